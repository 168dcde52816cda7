import PyProof.Rows.All
import Wide.All
import OpenK.AllK
import Wide.FinOn
import Lean
import PyProof.EqAt
import PyProof.EqKinds
import PyProof.TupleCall
import PyProof.StrLawsIn
import PyProof.StationsW
import PyProof.NeData
import OpenK.KOwn
import PyProof.NsDelKeeps
import PyProof.ExcArgsOwn
import PyProof.ExcAttrAll.ValueError
import PyProof.IsiH_tuple
import KE.KIsAll
import PyProof.CollectStr
import PyProof.ZipIter
import PyProof.Rows.ZipGen
import PyProof.JoinWalk
import PyProof.CollectIter
import PyProof.EnumMake
import PyProof.SumAny
import PyProof.MeetsSeq3
import PyProof.ListRange
import PyProof.ListNew
import PyProof.DictUpdate
import PyProof.FitsBits
import PyProof.StrCalls6
import PySem.Challenge.RW_trunksay_k68_changes_refused
set_option Elab.async false
set_option linter.all false
set_option genSizeOf false
set_option maxRecDepth 100000

def tv0:=trivial
set_option hygiene false
local macro_rules|`(tactic|walk_at "1")=>`(tactic|refine⟨μ,ρ,st,l,RK.bind h l fun μ1 st1 x v H1 p1 x1 l1 q1 h1=>?_⟩)
local macro_rules|`(tactic|walk_at "2")=>`(tactic|obtain⟨μ,ρ,st,l,h⟩:=h)
local macro_rules|`(#[0])=>`(by omega)
local macro_rules|`(#[1])=>`(aZ C (.nd l r m))
local macro_rules|`(#[2])=>`(eU X nm scope (cellsFrom (G2.objs.size+1) scope.names []++cl) G2.objs.size s2 H1 fp)
local macro_rules|`(#[3])=>`(by decide)
local macro_rules|`(#[4])=>`(.loc st.length)
local macro_rules|`(#[5])=>`(model X.prog X.w)
local macro_rules|`(#[6])=>`(bK (aL (bd kx bf (cF rfl))) cU)
local macro_rules|`(#[7])=>`(model prog w)
local macro_rules|`(#[8])=>`(s.heap.objs.size+1)
local macro_rules|`(#[9])=>`(Option Nat×Option Nat)
local macro_rules|`(#[10])=>`(.ListComp pD [⟨tg,dA,mi,0⟩] scope pos)
local macro_rules|`(#[11])=>`(c7 X nm scope cl C s0 H0 fp)
local macro_rules|`(#[12])=>`(.nd (if s then x else l) (if s then r else x) m)
local macro_rules|`(#[13])=>`(ws.map some++List.replicate (N-ws.length) none)
local macro_rules|`(#[14])=>`((relabel scope X.env).names.lookup x=some .cell\/(relabel scope X.env).names.lookup x=some .free)
local macro_rules|`(#[15])=>`(by simp)
local macro_rules|`(#[16])=>`(st++[.lst (cO (sz.take i))])
local macro_rules|`(#[17])=>`(eW (zY (dm (bQ 5 yg (aa (af 4) (aa (af 1) (aa (af 2) (aa (bQ 5 yf (aa (af 0) (aa (af 7) (aa (af 2) (aa (af 5) (aa (af 6) aw)))))) (aa (af 7) aw)))))))) (cn (eC (.bl false))) bI)
local macro_rules|`(#[18])=>`((e::es).length+([]:List Keyword).length+(if ([]:List Keyword).isEmpty then 0 else 1)<30)
local macro_rules|`(#[19])=>`(aa (af 2) aw)
local macro_rules|`(#[20])=>`((z.set Q (.lst (tk.reverse.map (fun d=>bw d.b.po)++[bw d.b.po]))).set P (.lst (sd.reverse.map fun d=>bw d.a.po)))
local macro_rules|`(#[21])=>`((z.set P (.lst (sd.reverse.map (fun d=>bw d.a.po)++[bw d.a.po]))).set Q (.lst (tk.reverse.map fun d=>bw d.b.po)))
local macro_rules|`(#[22])=>`(excClassObj nm q C N bs bm hdct sn sub ab col dd k0 k1 k2 k3 k5 qc)
local macro_rules|`(#[23])=>`(aa (cZ (aa (eC (.str [98,114,97,110,99,104])) (aa (af 13) (aa (af 11) (aa (bQ 1 sC (aa (e2 cq (e2 gp (eI 101) (af 8)) (af 16)) aw)) aw))))) (aa (af 6) aw))
local macro_rules|`(#[24])=>`(eW (E5 (dm (gs (bQ 2 nu (aa (af 4) (aa (af 8) aw))))) (zY (dm (bQ 4 qR (aa (af 4) (aa (af 1) (aa (af 2) (aa (af 7) aw)))))))) (cn (eC (.bl false))) bI)
local macro_rules|`(#[25])=>`(z.set P (.lst (sd.reverse.map (fun d=>bw d.a.po)++[bw t.po])))
set_option hygiene true
open Array renaming length_toList→dZ,getElem?_eq_getElem→d_,getElem?_toList→fA,eq_empty_of_size_eq_zero→gk,getD_eq_getD_getElem?→lh,toList_push→mI
open Bool renaming and_eq_true→cX,and_true→dg,false_ne_true→et,false_eq_true→eu,not_eq_true'→fN,or_false→mT,eq_iff_iff→oY
open Int renaming toNat_natCast→b9,natCast_add→fH,natCast_mul→ja,emod_nonneg→jb,fdiv_eq_ediv_of_nonneg→lY,emod_lt_of_pos→me,mul_comm→ou,zero_add→sZ
open LawfulBEq renaming eq_of_beq→nI
open List renaming length_append→ah,append_assoc→aj,getElem?_eq_getElem→al,prefix_refl→ao,getElem?_eq_some_iff→ar,length_map→az,getD_eq_getElem?_getD→aA,getElem?_map→aC,getElem?_append_left→aH,length_take→aJ,mem_append_right→aM,mem_cons→aN,mem_cons_of_mem→aO,mem_append→aP,size_toArray→aR,getElem?_append_right→aS,mem_singleton→aT,map_append→aV,prefix_append→aX,append_nil→a7,length_singleton→bb,length_cons→bg,map_cons→bt,mem_append_left→bz,reverse_cons→bA,take_of_length_le→bD,mem_cons_self→bF,getElem?_eq_none→bU,pairwise_cons→bV,getElem?_set_self→bW,mem_of_getElem?→bX,map_map→b6,length_drop→b8,take_append_of_le_length→cm,getElem?_set_ne→cy,getElem?_take_of_lt→cD,mem_map→cV,flatten_append→dv,eq_nil_of_length_eq_zero→dz,nil_append→dD,getElem_mem→dH,not_mem_nil→dI,take_length→dJ,map_congr_left→eR,drop_eq_getElem_cons→fD,filterMap_cons→f9,take_left→gn,length_eq_one_iff→gF,nodup_cons→gU,drop_left'→gX,getElem?_reverse→hV,getElem?_range→iU,mem_filter→i9,lookup_append→jl,getElem?_replicate→ju,map_id→jw,ext_getElem?→jN,take_add_one→jP,length_filter_le→jU,lookup_cons→ke,forIn_cons→kT,take_left'→kY,filter_eq_self→k8,mem_range→lV,mem_filterMap→lX,contains_cons→md,any_eq_false→mG,nodup_append→mJ,flatten_cons→mK,map_take→mV,map_drop→mW,getElem_map→nK,range_succ_eq_map→ol,drop_eq_nil_of_le→om,drop_of_length_le→oo,set_set→oz,of_mem_zip→oS,length_set→oT,length_nil→oX,set_append_right→py,dropLast_eq_take→pz,forIn_nil→qf,take_take→qi,sum_cons→qY,map_set→s9
open List.Perm renaming refl→iB,append_left→pw
open Nat renaming le_of_ble_eq_true→ag,le_refl→ax,lt_of_lt_of_le→aF,le_trans→aI,ne_of_lt→aW,le_succ→bj,lt_succ_self→bY,zero_le→b7,lt_succ_of_lt→cL,lt_irrefl→dC,ne_of_gt→dS,le_of_lt→fK,min_eq_left→gW,le_succ_of_le→ia,lt_of_le_of_lt→jk,not_lt→jm,lt_of_succ_lt_succ→jO,not_lt_zero→kW,add_assoc→mX,le_add_right→nG,zero_lt_succ→nL,zero_add→oy,add_zero→sU,lt_trans→sY
open Option renaming map_eq_some_iff→eY
open Option.some renaming inj→bq
open PyProof.Rows renaming callWith_type1→dL,slot_tuple_getitem→d8,subscriptTail_builtinR→oh,sorted_out_str→qg,Constant_none→qT,strKind_oneLt→qW,keyKind_strs→sV
open PyProof.Rows.F renaming plain_set_update_loop→eT,entry_set_update_loop→iT
open PySem renaming wpAny_bind→ae,wpAny_pure→au,wpAny_callSpecial?_slot→bS,wpAny_call_entry→bZ,wpAny_newObj_type→b_,wpAny_setField_rec→ce,wpAny_field→cY,wpAny_holding→c_,wpAny_loadPart'→de,codeAny_builtin→df,wpAny_seqItems→dU,isSubtype_type→dX,wpAny_loadPart_at→eJ,plainId_quiet→e_,wpAny_pyIter_tuple→fw,wpAny_Call_Name_kw→fy,wpAny_passesOwn→fG,wpAny_setState_of→fO,wpAny_setEntries_of→f_,wpAny_isInstance→gl,wpAny_attempt→g_,wpAny_truthy_bool→ib,wpAny_nameGoes_keeps→iC,codeAny_mono→iJ,wpAny_typeOf→iK,wpAny_isSubtype_exc→iV,wpAny_execs_nil→i_,wpAny_mono→ji,wpAny_pyNext_ascii_item→jv,wpAny_pyNext_wide_item→jL,wpAny_rule→kg,sizeLine_eq→kG,codeAny_call_builtin→kI,wpAny_updateSeq_pair→kK,pushCells_keeps→kS,typeIs_str→lZ,wpAny_pyIter_ascii→l9,isSubtype_stop→l_,wpAny_fieldsOf→ma,wpAny_pyIter_wide→mH,wpAny_onRaise→mU,noFill_tuple_add→nH,wpAny_askSetting→nJ,wpAny_Call_method_late→on,wpAny_noteFrame_againW→oq,wpAny_ite_split→oU,wpAny_updateSeq→oV,wpAny_storeName_local→pc,wpAny_isTrue_Compare1→pd,builtinLookup_eq_fast→pi,wpAny_loadPart→qe,wpAny_runValue→qh,wpAny_standAt→qU,seq_tuple_add→qV,wpAny_call→rF,call_meets→rG,concat_meets→sR,seqIndex_neg→sT,wpAny_landsW→sX,putSet_of→ut
open PySem.Around renaming under_plainId→cS
open PySem.Calls renaming spliced_cons→fx,spliced_nil→ic,callWith_builtin→jM,evalArgs_plain→kH,Name_function_global→lW,call_function_entry→mj
open PySem.F renaming slot_tuple_iterator_next→fz,typeOf_object_class→jT,args_tuple_iterator_next_1→kU,slot_zip_next→kX,entry_tuple_iterator_next→lg,slot_enumerate_next→ph
open PySem.Heap renaming get?_push_of_some→aq,get?_push_size→ay,lt_size→aB,size_push→bu,get?_update_other→cz,get?_update_self→dB
open PySem.Heap.SameBut renaming update→iS
open PySem.SeqAt renaming str_beq→qX
open PySem.StrLaws renaming glued_eq_join→hU
open PySem.Value renaming isStrOf_shape→k7
def aD:=@if_pos
def aQ:=@if_neg
def aU:=@decide_eq_false
def a_:=@decide_eq_true
def ba:=@beq_eq_false_iff_ne
def cI:=@beq_iff_eq
def fL:=@if_false
def fM:=@if_true
def gT:=@congrArg
def i':=@PyProof.Rows.boot_isinstance
def j':=@PyProof.Rows.callWith_builtin1
def kJ:=@or_false
def mf:=@congrFun
def mh:=@decide_eq_true_iff
set_option compiler.extract_closed false
noncomputable section
variable{M:PySem.Model}{p pos iI gj p2 d7:PySem.Pos}{s:PySem.Shared}{α β:Type}{A:PySem.Around}{E Q Qv:PySem.Value->PySem.Shared->Prop}{nk n n' t' N i j k kk ep q L:Nat}{x c name fv:PySem.Str}{v u:PySem.Value}{us bP:List PySem.Value}{o e tg dA pD:PySem.Expr}{P prog:PySem.Program}{h h' base:PySem.Heap}{ak pins':List (PySem.Addr×PySem.Obj)}{g':Array PySem.GenState}{ch fp μ μ':List PySem.Addr}{it C:PySem.Addr}{op:PySem.CmpOp}{K:PySem.W.Frag}{es mi wO:List PySem.Expr}{g:PySem.Value->PySem.Value->PySem.Sem PySem.Value}{f:Option Nat×Option Nat->Option Nat}{mA mg:PySem.Str->Option PySem.Value}{pl:PySem.Sem Bool}{kw:List (PySem.Str×PySem.Value)}{env:PySem.Env}{fd:PySem.FuncData}{ps ks nm:List PySem.Str}{outer:List PySem.Env}{kindOf:PySem.Str->Option PySem.NameKind}{scope:PySem.Scope}{T:String}{l m S pool:List Nat}{XP:(PySem.Str->Option PySem.Value)->PySem.Heap->Prop}{YP:PySem.World->PySem.Heap->Prop}{ns:List Int}{cl:List (PySem.Str×PySem.Addr)}{cap B:List (Option Nat)}{use:Option (PySem.Value->PySem.Sem Unit)}{ls:List (List Nat)}
open PySem.W (Frag)
open PySem.W (instObj hideAll lookIn plainGet findIn isFn makesIn emptyDict keepIn kitOne kia_one fnOf codeIn excIn kitAny nsIn mg_of mg_none_of)
namespace L2
open PySem PySem.Spec PyProof.Rows
theorem yD{Γ:PySem.Ctx}{t:Sem Fin}{fs:List Frame}{s':Shared}{e:End}(h:Runs M Γ p t fs s e s'):s.toks<=s'.toks:=by
 induction h
 case fresh ih=>exact aI (bj _) ih
 case call i1 i2=>exact aI i1 i2
 case resumeFresh i1 i2=>exact aI i1 i2
 case resumeSuspended i1 i2=>exact aI i1 i2
 case segRet i1 i2=>exact aI i1 i2
 case segGen i1 i2=>exact aI i1 i2
 case segSuspGen i1 i2=>exact aI i1 i2
 all_goals first|exact ax _|assumption
theorem FU{Γ:PySem.Ctx}{g:Nat}{r:Resume}{s':Shared}{res:GenResult}(h:Wakes M Γ p g r s res s'):s.toks<=s'.toks:=by
 unfold Wakes at h
 split at h
 ·exact h.elim
 ·split at h
  ·obtain⟨e,s1,h1,_,_,rfl⟩:=h;have q:=yD h1;exact q
  ·rw[h.2];exact ax _
  ·rw[h.2];exact ax _
 ·obtain⟨e,s1,h1,_,_,rfl⟩:=h;have q:=yD h1;exact q
 ·rw[h.2];exact ax _
 ·rw[h.2];exact ax _
theorem RQ{Γ:PySem.Ctx}(n:Nat)(m:Sem α):∀{Q:α->Pos->Shared->Prop} {E:Value->Pos->Shared->Prop} {p:Pos} {s:Shared},n<=s.toks->Sem.wp M Γ m Q E p s ->
  Sem.wp M Γ m (fun a p' s'=>n<=s'.toks/\Q a p' s') (fun e p' s'=>n<=s'.toks/\E e p' s') p s:=by
 induction m
 all_goals intro Q E p s hn h
 all_goals (first|(rename_i ih)|skip)
 all_goals (try simp only[Sem.wp]at h ⊢)
 all_goals first
  |exact⟨hn,h⟩
  |exact ih _ hn h
  |exact ih _ (ia hn) h
  |(obtain⟨o,h1,h2⟩:=h;exact⟨o,h1,ih _ hn h2⟩)
  |exact⟨h.1,ih _ hn h.2⟩
  |(obtain⟨r,s',h1,h2⟩:=h;exact⟨r,s',h1,ih _ (aI hn (yD h1)) h2⟩)
  |(obtain⟨r,s',h1,h2⟩:=h;exact⟨r,s',h1,ih _ (aI hn (FU h1)) h2⟩)
theorem up{m:Sem α}{Q:α->Shared->Prop}(h:wpAny M A m (fun a s'=>s.toks<=s'.toks->Q a s') (fun e s'=>s.toks<=s'.toks->E e s') s):wpAny M A m Q E s:=fun Γ p hΓ=>
 Sem.wp_mono M Γ m (fun a p' s' h'=>h'.2 h'.1) (fun e p' s' h'=>h'.2 h'.1) p s (RQ s.toks m (ax _) (h Γ p hΓ))
end L2
namespace L2
open PySem PySem.Spec PyProof.Rows
noncomputable abbrev vn:=Sum Int Str
def L_:vn->Value->Bool
 |.inl k,v=>Value.isInt k v
 |.inr x,v=>Value.isStrOf x v
def VJ(w:World):vn->Int
 |.inl k=>hashInt k
 |.inr x=>hashStr w x
theorem fI:∀{k:vn} {v:Value},L_ k v=true->(∃i t,k=Sum.inl i/\v=Value.int i t)\/(∃x t,k=Sum.inr x/\v=Value.str x t)
 |.inl i,v,h=>by
  obtain⟨t,e⟩:=Value.isInt_shape (k:=i) (v:=v) h
  exact .inl ⟨i,t,rfl,e⟩
 |.inr x,v,h=>by
  obtain⟨t,e⟩:=k7 (x:=x) (v:=v) h
  exact .inr ⟨x,t,rfl,e⟩
theorem N7(a b:Int):decide ((Sum.inl a:vn)=Sum.inl b)=(a==b):=by
 by_cases e:a=b
 ·subst e;simp
 ·have h:¬ (Sum.inl a:vn)=Sum.inl b:=fun q=>e (Sum.inl.inj q)
  rw[aU h]
  exact(ba.mpr e).symm
theorem N8(a b:Str):decide ((Sum.inr a:vn)=Sum.inr b)=decide (a=b):=by
 by_cases e:a=b
 ·subst e;simp
 ·have h:¬ (Sum.inr a:vn)=Sum.inr b:=fun q=>e (Sum.inr.inj q)
  rw[aU h,aU e]
theorem N9(a:Int)(b:Str):decide ((Sum.inl a:vn)=Sum.inr b)=false:=aU (fun q=>nomatch q)
theorem N_(a:Str)(b:Int):decide ((Sum.inr a:vn)=Sum.inl b)=false:=aU (fun q=>nomatch q)
def Dy(prog:Program)(w:World):PySem.KeyKind prog w vn where
 is:=L_
 hash:=VJ w
 inj:=fun v a b ha hb=>by
  rcases fI ha with⟨i,t,rfl,rfl⟩|⟨x,t,rfl,rfl⟩
  ·rcases fI hb with⟨j,u,rfl,e⟩|⟨y,u,rfl,e⟩
   ·injection e with e1 _;rw[e1]
   ·exact nomatch e
  ·rcases fI hb with⟨j,u,rfl,e⟩|⟨y,u,rfl,e⟩
   ·exact nomatch e
   ·injection e with e1 _;rw[e1]
 byValue:=fun k v h=>by
  rcases fI h with⟨i,t,rfl,rfl⟩|⟨x,t,rfl,rfl⟩<;>rfl
 pyHash:=fun hv h=>by
  rcases fI hv with⟨i,t,rfl,rfl⟩|⟨x,t,rfl,rfl⟩
  ·exact wpAny_pyHash_int h
  ·exact wpAny_pyHash_str h
 eqBool:=fun hu hv h=>by
  rcases fI hu with⟨i,t,rfl,rfl⟩|⟨x,t,rfl,rfl⟩
  ·rcases fI hv with⟨j,u,rfl,rfl⟩|⟨y,u,rfl,rfl⟩
   ·rw[N7]at h;exact wpAny_eqBool_int h
   ·rw[N9]at h;exact SeqAt.EqAt.int_str i t y u _ _ _ _ h
  ·rcases fI hv with⟨j,u,rfl,rfl⟩|⟨y,u,rfl,rfl⟩
   ·rw[N_]at h;exact SeqAt.EqAt.str_int x t j u _ _ _ _ h
   ·rw[N8]at h;exact wpAny_eqBool_str h
 «strs»:=fun k x t v h=>by
  rcases fI h with⟨i,u,rfl,e⟩|⟨y,u,rfl,e⟩
  ·exact nomatch e
  ·injection e with e1 _
   subst e1
   cases v<;>rfl
end L2
namespace L2
open PySem PySem.Spec PyProof.Rows
inductive V where
 |non|bl (b:Bool)|int (i:Int)|str (x:Str)|byt (b:Array UInt8)|flt (b:UInt64)|ref (a:Addr)|ty (n:String)
 deriving DecidableEq
def Tk(n:Nat)(x:Str):Type:={ t:Tok // x.length=1->0<t/\t<n }
instance {n:Nat} {x:Str}:CoeOut (Tk n x) Tok:=⟨fun t=>t.1⟩
noncomputable def Tk.up(h:n<=n')(t:Tk n x):Tk n' x:=⟨t.1,fun e=>⟨(t.2 e).1,aF (t.2 e).2 h⟩⟩
def dh(n:Nat):V->Value->Prop
 |.non,u=>u=Value.none
 |.bl b,u=>u=Value.bool b
 |.int i,u=>∃t,u=Value.int i t
 |.str x,u=>∃t:Tk n x,u=Value.str x t.1
 |.byt b,u=>∃t,u=Value.bytes b t
 |.flt b,u=>∃t,u=Value.float b t
 |.ref a,u=>u=Value.ref a
 |.ty n,u=>u=Value.type n
theorem dh.up(h:n<=n'){v:V}(r:dh n v u):dh n' v u:=by
 cases v with
 |str x=>obtain⟨t,e⟩:=r;exact⟨t.up h,e⟩
 |_=>exact r
abbrev cu(n:Nat):List V->List Value->Prop:=Paired (dh n)
theorem cu.up(h:n<=n'):∀{xs:List V} {us:List Value},cu n xs us->cu n' xs us
 |_,_,.nil=>.nil
 |_,_,.cons r t=>.cons (r.up h) (cu.up h t)
theorem cu.length{xs:List V}(r:cu nk xs us):xs.length=us.length:=Paired.length r
theorem cu.get:∀{xs:List V} {us:List Value} {i:Nat} {x:V},cu nk xs us->xs[i]?=some x->∃u,us[i]?=some u/\dh nk x u
 |_,_,_,_,.nil,e=>by simp at e
 |_,_,0,_,.cons r _,e=>by simp at e;subst e;exact⟨_,rfl,r⟩
 |_,_,i+1,x,.cons _ t,e=>by
  obtain⟨u,h1,h2⟩:=cu.get (i:=i) (x:=x) t (by simpa using e)
  exact⟨u,by simpa using h1,h2⟩
theorem cu.set{x:V}(r:dh nk x u):∀{xs:List V} {us:List Value} (i:Nat),cu nk xs us->cu nk (xs.set i x) (us.set i u)
 |_,_,_,.nil=>.nil
 |_,_,0,.cons _ t=>.cons r t
 |_,_,i+1,.cons q t=>.cons q (cu.set r i t)
theorem cu.append:∀{xs ys:List V} {us ws:List Value},cu nk xs us->cu nk ys ws->cu nk (xs++ys) (us++ws)
 |_,_,_,_,.nil,s=>s
 |_,_,_,_,.cons r t,s=>.cons r (cu.append t s)
theorem cu.take:∀{xs:List V} {us:List Value} (n:Nat),cu nk xs us->cu nk (xs.take n) (us.take n)
 |_,_,0,_=>.nil
 |_,_,_+1,.nil=>.nil
 |_,_,n+1,.cons r t=>.cons r (cu.take n t)
theorem cu.drop:∀{xs:List V} {us:List Value} (n:Nat),cu nk xs us->cu nk (xs.drop n) (us.drop n)
 |_,_,0,r=>r
 |_,_,_+1,.nil=>.nil
 |_,_,n+1,.cons _ t=>cu.drop n t
def tj(n:Nat):Option V->Option Value->Prop
 |some v,some u=>dh n v u
 |none,none=>True
 |_,_=>False
theorem tj.up(h:n<=n'):∀{o:Option V} {u:Option Value},tj n o u->tj n' o u
 |some _,some _,r=>dh.up h r
 |none,none,_=>trivial
 |none,some _,r=>r
 |some _,none,r=>r
def KV{κ:Type}(n:Nat):List (κ×V)->List (κ×Value)->Prop:=Paired fun(p:κ×V) (q:κ×Value)=>p.1=q.1/\dh n p.2 q.2
def kV:vn->V
 |.inl i=>.int i
 |.inr x=>.str x
inductive HO where
 /-- a list -/
 |lst (xs:List V)
 /-- a tuple (never changes) -/
 |tup (xs:List V)
 /-- a dict whose keys are ints and texts;one whose keys are tuples of ints and texts (the empty one is both) -/
 |dK (gz:List (vn×V))|dT (gz:List (List vn×V))
 /-- a set of ints: bP members,bP size -/
 |set (S:Int->Bool) (n:Nat)
 /-- an instance of the class at C,bP dict at dx,bP attributes -/
 |ins (C dx:Addr) (fs:List (Str×V))
 /-- the dict of the instance at x -/
 |own (x:Addr)
 /-- the dict of an exception -/
 |xd (fs:List (Str×V))
 /-- a bound method,f of x -/
 |met (f x:Addr)
 /-- a range object lo,lo+1,.. below hi -/
 |rng (lo hi:Int)
 /-- a thing that is known to the object (the script;a dict while a loop walks it): read,never written while it is so -/
 |frz (o:Obj) (u:HO)
 /-- a code object's table -/
 |tbl (ps:Array Value)
 /-- any other thing,by what is true of bP one object (a def of W8 own: SetO a S n:=HO.ext fun h=>..) -/
 |ext (φ:Heap->Prop)
noncomputable abbrev Hp:=Addr->Option HO
def fB(H:Hp)(a:Addr)(o:HO):Hp:=fun b=>if b=a then some o else H b
theorem gG{H:Hp}{a:Addr}{o:HO}:fB H a o a=some o:=by unfold fB;rw[aD rfl]
theorem cM{H:Hp}{a b:Addr}{o:HO}(h:b≠a):fB H a o b=H b:=by unfold fB;rw[aQ h]
theorem fj{H:Hp}{a b:Addr}{o:HO}(h:H a=some o)(h':H b=none):a≠b:=by
 intro e;subst e;rw[h]at h';cases h'
section
variable(P:Program)(w:World)
def gq(n:Nat)(H:Hp)(h:Heap)(a:Addr):HO->Prop
 |.lst xs=>xs.length<=sizeLine/\∃(bP:List Value) (m:Nat),cu n xs bP/\h.get? a=some { cls:=.type "list",data:=.seq bP.toArray m }
 |.tup xs=>xs.length<=sizeLine/\∃bP:List Value,cu n xs bP/\IsTup h a bP.toArray
 |.dK gz=>gz.length<=sizeLine/\(a==sysModules)=false/\∃vs,KV n gz vs/\h.DictOf (Dy P w) a vs
 |.dT gz=>gz.length<=sizeLine/\(a==sysModules)=false/\∃xs:List (List vn×Addr×Value),
   Paired (fun(p:List vn×V) (q:List vn×Addr×Value)=>p.1=q.1/\H q.2.1=some (.tup (p.1.map kV))/\dh n p.2 q.2.2) gz xs /\
   ∃o es ep,h.get? a=some o/\o.ExactDict/\o.data=.dict es ep/\es.toList=xs.map (entryOfKey (tupleKind (Dy P w)))/\(xs.map (·.1)).Nodup
 |.set S m=>h.SetOf (intKind P w) a S m
 |.ins C dx fs=>H dx=some (.own a)/\fs.length<=1000/\dx≠a/\h.get? a=some (instObj C dx) /\
   ∃mA,h.Ns1 dx mA/\(∀f,tj n (fs.lookup f) (mA f))/\PySem.Within mA (fs.map (·.1))
 |.own _=>∃o,h.get? a=some o
 |.xd fs=>∃mA,h.Ns1 a mA/\∀f,tj n (fs.lookup f) (mA f)
 |.rng lo hi=>∃t u v,h.get? a=some { cls:=.type "range",data:=.fields #[.int lo t,.int hi u,.int 1 v] }
 |.frz o u=>h.get? a=some o/\gq n H h a u
 |.tbl ps=>h.get? a=some { cls:=.none,data:=.fields ps }
 |.met f x=>h.get? a=some (PySem.W.methodObj (.ref f) (.ref x))
 |.ext φ=>φ h/\(∃o,h.get? a=some o)/\∀h1 h2:Heap,φ h1->(∀o,h1.get? a=some o->h2.get? a=some o)->φ h2
def s_(n:Nat)(H:Hp)(h:Heap):Prop:=∀a o,H a=some o->gq P w n H h a o
end
section
variable{w:World}{H H':Hp}{a:Addr}{o:HO}
theorem gq.lt(x:gq P w nk H h a o):a<h.objs.size:=by
 cases o with
 |lst xs=>obtain⟨_,_,_,_,e⟩:=x;exact aB e
 |tup xs=>obtain⟨_,_,_,p⟩:=x;exact p.lt
 |dK gz=>obtain⟨_,_,_,_,o,_,_,e,_⟩:=x;exact aB e
 |dT gz=>obtain⟨_,_,_,_,o,_,_,e,_⟩:=x;exact aB e
 |set S n=>obtain⟨o,_,_,_,e,_⟩:=x;exact aB e
 |ins C dx fs=>obtain⟨_,_,_,e,_⟩:=x;exact aB e
 |own y=>obtain⟨_,e⟩:=x;exact aB e
 |xd fs=>obtain⟨_,⟨_,_,_,e,_⟩,_⟩:=x;exact aB e
 |rng lo hi=>obtain⟨_,_,_,e⟩:=x;exact aB e
 |frz ob u=>obtain⟨e,_⟩:=x;exact aB e
 |tbl ps=>exact aB (show h.get? a=some _ from x)
 |met f y=>exact aB (show h.get? a=some _ from x)
 |ext φ=>obtain⟨_,⟨_,e⟩,_⟩:=x;exact aB e
theorem Paired.mapP{F G:α->β->Prop}:∀{l₁:List α} {l₂:List β},Paired F l₁ l₂->(∀a b,F a b->G a b)->Paired G l₁ l₂
 |_,_,.nil,_=>.nil
 |_,_,.cons r t,f=>.cons (f _ _ r) (Paired.mapP t f)
theorem Paired.imp'{F G:α->β->Prop}(f:∀a b,F a b->G a b){l₁:List α}{l₂:List β}(r:Paired F l₁ l₂):Paired G l₁ l₂:=Paired.mapP r f
theorem gq.stay(x:gq P w nk H h a o)(k:∀b u,(b=a\/H b=some (.own a))->h.get? b=some u->h'.get? b=some u)
  (ho:∀b,H b=some (.own a)->H' b=some (.own a)) (ht:∀b xs,H b=some (.tup xs)->H' b=some (.tup xs)):gq P w nk H' h' a o:=by
 induction o with
 |lst xs=>obtain⟨z,bP,n,r,e⟩:=x;exact⟨z,bP,n,r,k _ _ (.inl rfl) e⟩
 |tup xs=>obtain⟨z,bP,r,ob,e,c⟩:=x;exact⟨z,bP,r,ob,k _ _ (.inl rfl) e,c⟩
 |dK gz=>obtain⟨z,y,vs,r,ob,es,ep,e,c⟩:=x;exact⟨z,y,vs,r,ob,es,ep,k _ _ (.inl rfl) e,c⟩
 |dT gz=>
  obtain⟨z,y,xs,r,ob,es,ep,e,c⟩:=x
  exact⟨z,y,xs,Paired.mapP r fun p q z=>⟨z.1,ht _ _ z.2.1,z.2.2⟩,ob,es,ep,k _ _ (.inl rfl) e,c⟩
 |set S n=>obtain⟨ob,es,ep,t,e,c⟩:=x;exact⟨ob,es,ep,t,k _ _ (.inl rfl) e,c⟩
 |ins C dx fs=>
  obtain⟨d,z,ne,e,mA,⟨od,es,ep,e2,c⟩,r⟩:=x
  exact⟨ho _ d,z,ne,k _ _ (.inl rfl) e,mA,⟨od,es,ep,k _ _ (.inr d) e2,c⟩,r⟩
 |own y=>obtain⟨ob,e⟩:=x;exact⟨ob,k _ _ (.inl rfl) e⟩
 |xd fs=>obtain⟨mA,⟨od,es,ep,e,c⟩,r⟩:=x;exact⟨mA,⟨od,es,ep,k _ _ (.inl rfl) e,c⟩,r⟩
 |rng lo hi=>obtain⟨t,u,v,e⟩:=x;exact⟨t,u,v,k _ _ (.inl rfl) e⟩
 |frz ob u ih=>obtain⟨e,q⟩:=x;exact⟨k _ _ (.inl rfl) e,ih q⟩
 |tbl ps=>
  have e:h.get? a=some { cls:=.none,data:=.fields ps }:=x
  show h'.get? a=some { cls:=.none,data:=.fields ps }
  exact k a _ (.inl rfl) e
 |met f y=>
  have e:h.get? a=some (PySem.W.methodObj (.ref f) (.ref y)):=x
  show h'.get? a=some (PySem.W.methodObj (.ref f) (.ref y))
  exact k a _ (.inl rfl) e
 |ext φ=>obtain⟨p,⟨o,e⟩,st⟩:=x;exact⟨st _ _ p fun o q=>k _ _ (.inl rfl) q,⟨o,k _ _ (.inl rfl) e⟩,st⟩
theorem Paired.upR(h:n<=n'){κ:Type}{l₁:List (κ×V)}{l₂:List (κ×Value)}(r:KV n l₁ l₂):KV n' l₁ l₂:=Paired.mapP r fun _ _ z=>⟨z.1,z.2.up h⟩
theorem gq.up(hn:nk<=n')(x:gq P w nk H h a o):gq P w n' H h a o:=by
 induction o with
 |lst xs=>obtain⟨z,bP,n,r,e⟩:=x;exact⟨z,bP,n,r.up hn,e⟩
 |tup xs=>obtain⟨z,bP,r,ob⟩:=x;exact⟨z,bP,r.up hn,ob⟩
 |dK gz=>obtain⟨z,y,vs,r,ob⟩:=x;exact⟨z,y,vs,Paired.upR hn r,ob⟩
 |dT gz=>obtain⟨z,y,xs,r,ob⟩:=x;exact⟨z,y,xs,Paired.mapP r fun p q z=>⟨z.1,z.2.1,z.2.2.up hn⟩,ob⟩
 |ins C dx fs=>obtain⟨d,z,ne,e,mA,c,r,q⟩:=x;exact⟨d,z,ne,e,mA,c,fun f=>(r f).up hn,q⟩
 |xd fs=>obtain⟨mA,c,r⟩:=x;exact⟨mA,c,fun f=>(r f).up hn⟩
 |frz ob u ih=>obtain⟨e,q⟩:=x;exact⟨e,ih q⟩
 |_=>exact x
theorem s_.up(hn:nk<=n')(x:s_ P w nk H h):s_ P w n' H h:=fun a o e=>(x a o e).up hn
theorem s_.lt(x:s_ P w nk H h)(e:H a=some o):a<h.objs.size:=(x a o e).lt
theorem s_.fresh(x:s_ P w nk H h)(e:h.objs.size<=a):H a=none:=by
 cases q:H a with
 |none=>rfl
 |some u=>exact absurd (aF (x.lt q) e) (dC _)
theorem s_.kept(x:s_ P w nk H h)(k:∀b u,h.get? b=some u->h'.get? b=some u):s_ P w nk H h':=fun a o e=>
 (x a o e).stay (fun b u _ q=>k b u q) (fun _ q=>q) fun _ _ q=>q
theorem s_.laid(x:s_ P w nk H h)(k:∀b u,h.get? b=some u->h'.get? b=some u)(hp:h.objs.size<=a)(new:gq P w nk (fB H a o) h' a o):s_ P w nk (fB H a o) h':=fun b u e=>by
 have hn:=x.fresh hp
 by_cases hb:b=a
 ·subst hb;rw[gG]at e;cases e;exact new
 ·rw[cM hb]at e
  exact(x b u e).stay (fun c v _ q=>k c v q) (fun c q=>by rw[cM (fj q hn)];exact q) fun c xs q=>by rw[cM (fj q hn)];exact q
end
def Rd(H:Hp)(a:Addr)(u:HO):Prop:=H a=some u\/∃o,H a=some (.frz o u)
theorem Rd.ok{w:World}{H:Hp}{a:Addr}{u:HO}(r:Rd H a u)(x:s_ P w nk H h):gq P w nk H h a u:=by
 rcases r with r|⟨o,r⟩
 ·exact x a u r
 ·obtain⟨_,q⟩:=x a _ r
  exact q
def Vg:Option HO->Prop
 |some (.lst _)=>True
 |some (.dK _)=>True
 |some (.dT _)=>True
 |some (.set _ _)=>True
 |some (.ins _ _ _)=>True
 |some (.ext _)=>True
 |_=>False
section
variable{w:World}{H:Hp}{x e:Addr}{o':HO}
theorem s_.write(ok:s_ P w nk H h)(mu:Vg (H x))(he:e=x\/H e=some (.own x))(k:∀b u,b≠e->h.get? b=some u->h'.get? b=some u)(J':∃u,h'.get? e=some u)
  (new:gq P w nk (fB H x o') h' x o'):s_ P w nk (fB H x o') h':=fun b u q=>by
 have nown:∀c y,H c=some (.own y)->c≠x:=fun c y r z=>by subst z;rw[r]at mu;exact mu
 have ntup:∀c xs,H c=some (.tup xs)->c≠x:=fun c xs r z=>by subst z;rw[r]at mu;exact mu
 by_cases hb:b=x
 ·subst hb;rw[gG]at q;cases q;exact new
 ·rw[cM hb]at q
  by_cases hbe:b=e
  ·have q':H b=some (.own x):=by
    rcases he with z|z
    ·exact absurd (hbe.trans z) hb
    ·rw[hbe];exact z
   rw[q]at q';cases q'
   obtain⟨v,hv⟩:=J'
   exact⟨v,by rw[hbe];exact hv⟩
  ·refine(ok b u q).stay (fun c v hc r=>k c v ?_ r) (fun c r=>by rw[cM (nown c b r)];exact r) fun c xs r=>by rw[cM (ntup c xs r)];exact r
   rcases hc with rfl|hc
   ·exact hbe
   ·rintro rfl
    rcases he with z|z
    ·exact nown c b hc z
    ·rw[hc]at z;cases z;exact hb rfl
end
structure Un(fs ex:List Addr)(H H':Hp)(h h':Heap):Prop where
 keep:∀b o,h.get? b=some o->H b=none->b∉fs->b∉ex->h'.get? b=some o
 slot:∀b o,h.get? b=some o->H b=none->b∈fs->b∉ex->∃sl,h'.get? b=some { o with slots:=sl }
 free:∀b o,h.get? b=some o->H b=none->b∉ex->H' b=none
 there:∀b o,h.get? b=some o->b∉ex->∃o',h'.get? b=some o'
 tups:∀b xs,H b=some (.tup xs)->H' b=some (.tup xs)
 frzs:∀b o u,H b=some (.frz o u)->H' b=some (.frz o u)
 tbls:∀b ps,H b=some (.tbl ps)->∃more,H' b=some (.tbl (ps++more))
section
variable{fs Vd ex Xw:List Addr}{H H1 H2:Hp}{h1 h2:Heap}{a x e:Addr}{o:HO}
theorem Un.any(u:Un fs ex H H1 h h1){b:Addr}{ob:Obj}(q:h.get? b=some ob)(n:H b=none)(hx:b∉ex):∃sl,h1.get? b=some { ob with slots:=sl }:=by
 by_cases hb:b∈fs
 ·exact u.slot b ob q n hb hx
 ·exact⟨ob.slots,u.keep b ob q n hb hx⟩
theorem Un.kept(k:∀b u,h.get? b=some u->h'.get? b=some u):Un fs ex H H h h':=
 ⟨fun b ob q _ _ _=>k b ob q,fun b ob q _ _ _=>⟨ob.slots,k b ob q⟩,fun _ _ _ n _=>n,fun b ob q _=>⟨ob,k b ob q⟩,fun _ _ q=>q,fun _ _ _ q=>q,fun _ ps q=>⟨#[],by rw[q];simp⟩⟩
theorem Un.refl:Un fs ex H H h h:=Un.kept fun _ _ q=>q
theorem Un.laid(k:∀b u,h.get? b=some u->h'.get? b=some u)(hp:h.objs.size<=a)(hn:H a=none):Un fs ex H (fB H a o) h h' where
 keep:=fun b u q _ _ _=>k b u q
 slot:=fun b u q _ _ _=>⟨u.slots,k b u q⟩
 free:=fun b u q n _=>by rw[cM (aW (aF (aB q) hp))];exact n
 there:=fun b u q _=>⟨u,k b u q⟩
 tups:=fun b xs q=>by rw[cM (fj q hn)];exact q
 frzs:=fun b u xs q=>by rw[cM (fj q hn)];exact q
 tbls:=fun b ps q=>⟨#[],by rw[cM (fj q hn),q];simp⟩
theorem Un.write(mu:Vg (H x))(he:e=x\/H e=some (.own x))(k:∀b u,b≠e->h.get? b=some u->h'.get? b=some u)(J':∃u,h'.get? e=some u):Un fs ex H (fB H x o) h h':=by
 have hx:∀b,H b=none->b≠x:=fun b n z=>by subst z;rw[n]at mu;exact mu
 have hb:∀b,H b=none->b≠e:=fun b n z=>by
  subst z
  rcases he with r|r
  ·exact hx b n r
  ·rw[n]at r;cases r
 have hm:∀b u,H b=some u->¬ Vg (some u)->b≠x:=fun b u q nm z=>by subst z;rw[q]at mu;exact nm mu
 refine⟨fun b u q n _ _=>k b u (hb b n) q,fun b u q n _ _=>⟨u.slots,k b u (hb b n) q⟩,fun b u q n _=>by rw[cM (hx b n)];exact n,fun b u q _=>?_,
  fun b xs q=>by rw[cM (hm b _ q fun z=>z)];exact q,fun b u xs q=>by rw[cM (hm b _ q fun z=>z)];exact q,fun b ps q=>⟨#[],by rw[cM (hm b _ q fun z=>z),q];simp⟩⟩
 by_cases hbe:b=e
 ·subst hbe;exact J'
 ·exact⟨u,k b u hbe q⟩
end
def Vh(h:Heap)(H:Hp):List Addr:=(List.range h.objs.size).filter fun a=>(H a).isSome
def yE(h:Heap)(H:Hp):Heap:=hideAll h (Vh h H)
theorem EC(h:Heap)(H:Hp):(yE h H).objs.size=h.objs.size:=PySem.W.hideAll_size _ _
theorem FV{H:Hp}{b:Addr}{o:Obj}(e:h.get? b=some o)(n:H b=none):(yE h H).get? b=some o:=
 PySem.W.hideAll_get _ e fun hm=>by
  have q:(H b).isSome=true:=(i9.mp hm).2
  rw[n]at q;simp at q
theorem Kf{H:Hp}{b:Addr}{o:Obj}(e:(yE h H).get? b=some o):h.get? b=some o/\H b=none:=by
 have e':h.get? b=some o:=PySem.W.of_hideAll (Vh h H) e
 refine⟨e',?_⟩
 cases q:H b with
 |none=>rfl
 |some x=>
  have hm:b∈Vh h H:=i9.mpr ⟨lV.mpr (aB e'),by simp[q]⟩
  have z:(yE h H).get? b=none:=PySem.W.hideAll_none (Vh h H) hm
  rw[z]at e;cases e
noncomputable def Kg(g h:Heap)(L:Addr):List (Addr×Obj):=(List.range h.objs.size).filterMap fun a=>if a=L\/(g.get? a).isSome=true then none else(h.get? a).map fun o=>(a,o)
def gb(g h:Heap)(L d:Addr):List (Addr×Obj):=(Kg g h L).filter fun p=>decide (p.1≠d)
end L2
variable{xs vs:List L2.V}{H H':L2.Hp}
namespace L2
open PySem PySem.Spec PyProof.Rows
structure Mod(K:Frag)(mg:Str->Option Value)(base:Heap):Prop where
 kin:K.In base
 glob:base.Ns mainGlobals mg
 blt:∃mb,base.Ns builtinsNs mb/\∀x:Str,x ≠ "__name__"->mb x=bootBuiltins x
 nolimit:base.NoLimit
structure Cx where
 prog:Program
 w:World
 K:Frag
 mg:Str->Option Value
 base:Heap
 A:Around
 N:List Str
 s₀:Shared
 H₀:Hp
 env:Env
 outer:List Env
 stack:List Env
 ex:List Addr
 fn:Str->Bool
 calm:Bool
 pn:List (Addr×Obj)
 xe:Value->Shared->Prop
noncomputable def rH(l:List Env):List Addr:=l.filterMap (·.frame)
abbrev Cx.fs(X:Cx):List Addr:=rH X.outer
def RR(sc:Scope)(x:Str):Prop:=sc.names.lookup x=some .local\/sc.names.lookup x=some .cell\/sc.names.lookup x=some .free
def J3(sc:Scope)(x:Str):Prop:=sc.names.lookup x=some .local\/sc.names.lookup x=some .cell
def VL(env:Env)(h:Heap)(m:Str->Option Value)(x:Str)(u:Value):Prop:=
 (env.kindOf x=some .local/\m x=some u)\/((env.kindOf x=some .cell\/env.kindOf x=some .free)/\∃c,env.cells.lookup x=some c/\h.IsCell c (some u))
structure Cx.Ok(X:Cx):Prop where
 mod:Mod X.K X.mg X.base
 kind:X.env.scope.kind=.function
 glob:X.env.globals=mainGlobals
 blt:X.env.builtins=builtinsNs
 above:X.s₀.heap.objs.size<=X.env.locals
 inj:∀x y c,X.env.cells.lookup x=some c->X.env.cells.lookup y=some c->x=y
 has:∀x,(X.env.kindOf x=some .cell\/X.env.kindOf x=some .free)->∃c,X.env.cells.lookup x=some c
 cab:∀x c,X.fn x=true->X.env.cells.lookup x=some c->X.s₀.heap.objs.size<=c
 hd:X.calm=true->X.A.handled=none
 frames:X.A.frames=some X.stack
 stk:X.stack=X.outer\/(X.stack=X.env::X.outer/\X.env.frame=some X.env.locals)
 exf:∀b∈X.ex,b≠X.env.locals/\∀x c,X.env.cells.lookup x=some c->c≠b
 bs:∀b o,X.base.get? b=some o->X.s₀.heap.get? b=some o/\X.H₀ b=none
 bsz:X.base.objs.size<=X.s₀.heap.objs.size
 noex:∀b o,X.base.get? b=some o->b∉X.ex
 exfs:∀b∈X.ex,b∉X.fs
 funs:X.s₀.heap.FunFrames X.base X.outer
 frf:∀b∈X.fs,X.H₀ b=none
structure bG(X:Cx)(ak:List (Addr×Obj))(σ:List (Option V))(H:Hp)(s:Shared):Prop where
 ok:X.Ok
 os:s.os=X.s₀.os
 bare:AllBare s.gens
 base:Un X.fs X.ex X.H₀ H X.s₀.heap s.heap
 loc:∃m,s.heap.Ns X.env.locals m/\∀(i:Nat) (x:Str) (v:V),X.N[i]?=some x->σ[i]?=some (some v)->RR X.env.scope x->∃u,dh s.toks v u/\VL X.env s.heap m x u
 cell:∀x c,X.env.cells.lookup x=some c->∃v,s.heap.IsCell c v
 free:H X.env.locals=none
 freeC:∀x c,X.env.cells.lookup x=some c->H c=none
 pin:∀p∈X.pn++ak,s.heap.get? p.1=some p.2/\H p.1=none/\p.1≠X.env.locals/\p.1∉X.fs/\∀v,p.2.data≠.cell v
 hok:s_ X.prog X.w s.toks H s.heap
 len:σ.length=X.N.length
 pos:0<s.toks
 tk:X.s₀.toks<=s.toks
section
variable{X:Cx}{σ:List (Option V)}
theorem Cx.Ok.nofr(ok:X.Ok){b:Addr}{o:Obj}(e:X.base.get? b=some o):b∉X.fs:=fun hb=>by
 have:=(ok.funs.mem hb).1
 rw[e]at this;cases this
theorem bG.bs(I:bG X ak σ H s):∀b o,X.base.get? b=some o->s.heap.get? b=some o/\H b=none:=fun b o e=>
 ⟨I.base.keep b o (I.ok.bs b o e).1 (I.ok.bs b o e).2 (I.ok.nofr e) (I.ok.noex b o e),I.base.free b o (I.ok.bs b o e).1 (I.ok.bs b o e).2 (I.ok.noex b o e)⟩
theorem bG.bk(I:bG X ak σ H s):∀b o,X.base.get? b=some o->s.heap.get? b=some o:=fun b o e=>(I.bs b o e).1
theorem bG.mod(I:bG X ak σ H s):Mod X.K X.mg X.base:=I.ok.mod
theorem bG.kIn(I:bG X ak σ H s):X.K.In s.heap:=I.ok.mod.kin.keeps I.bk
theorem bG.lt(I:bG X ak σ H s):X.env.locals<s.heap.objs.size:=let ⟨_,hn,_⟩:=I.loc;hn.lt
theorem bG.sz(I:bG X ak σ H s):X.s₀.heap.objs.size<=s.heap.objs.size:=aI I.ok.above (fK I.lt)
theorem bG.nofs(I:bG X ak σ H s){a:Addr}(h:s.heap.objs.size<=a):a∉X.fs:=fun hb=>by
 obtain⟨_,o,ho,_⟩:=I.ok.funs.mem hb
 exact absurd (aF (aB ho) (aI I.sz h)) (dC _)
theorem bG.cne(I:bG X ak σ H s):∀x c,X.env.cells.lookup x=some c->c≠X.env.locals:=fun x c e z=>by
 obtain⟨v,o,ho,hd⟩:=I.cell x c e
 obtain⟨m,⟨o',es,ep,ho',hd',_⟩,_⟩:=I.loc
 rw[z,ho']at ho;cases ho;rw[hd']at hd;cases hd
theorem bG.funs(I:bG X ak σ H s):s.heap.FunFrames X.base X.outer:=by
 have all:∀(l:List Env),(∀b∈rH l,b∈X.fs)->X.s₀.heap.FunFrames X.base l->s.heap.FunFrames X.base l:=by
  intro l
  induction l with
  |nil=>intro _ _;trivial
  |cons env r ih=>
   intro hs hl
   obtain⟨hk,⟨L,o,hf,hn,ho,hd⟩,hr⟩:=hl
   have hL:L∈X.fs:=hs L (by unfold rH;rw[f9,hf];exact bF)
   obtain⟨sl,e⟩:=I.base.slot L o ho (I.ok.frf L hL) hL fun z=>I.ok.exfs L z hL
   exact⟨hk,⟨L,_,hf,hn,e,hd⟩,ih (fun b hb=>hs b (by unfold rH;rw[f9,hf];exact aO _ hb)) hr⟩
 exact all X.outer (fun _ hb=>hb) I.ok.funs
theorem bG.stack(I:bG X ak σ H s):s.heap.FunFrames X.base X.stack:=by
 rcases I.ok.stk with e|⟨e,hf⟩
 ·rw[e];exact I.funs
 ·rw[e]
  obtain⟨m,hn,_⟩:=I.loc
  refine .cons (by rw[I.ok.kind];decide) hf hn ?_ I.funs
  exact Heap.get?_none_of_le (aI I.ok.bsz I.ok.above)
theorem bG.stkSub(I:bG X ak σ H s):∀b∈rH X.stack,b∈X.env.locals::X.fs:=fun b hb=>by
 rcases I.ok.stk with e|⟨e,hf⟩
 ·rw[e]at hb;exact aO _ hb
 ·rw[e]at hb
  unfold rH at hb
  rw[f9,hf]at hb
  exact hb
theorem bG.stkFree(I:bG X ak σ H s):∀b∈rH X.stack,H b=none:=fun b hb=>by
 rcases aN.mp (I.stkSub b hb)with e|hb
 ·rw[e];exact I.free
 ·obtain⟨_,o,ho,_⟩:=I.ok.funs.mem hb
  exact I.base.free b o ho (I.ok.frf b hb) fun z=>I.ok.exfs b z hb
theorem bG.step{g':Array GenState}{t':Nat}{d':Drawn}{ch:List Addr}(I:bG X ak σ H s)
  (Ka:∀b∈ch,(b∈X.ex\/X.s₀.heap.objs.size<=b)/\b≠X.env.locals/\(∀x c,X.env.cells.lookup x=some c->c≠b)/\∀p∈X.pn++ak,p.1≠b)
  (keep:∀b o,b≠X.env.locals->b∉X.fs->b∉ch->s.heap.get? b=some o->H b=none->h'.get? b=some o)
  (slot:∀b o,b≠X.env.locals->b∈X.fs->b∉ch->s.heap.get? b=some o->H b=none->∃sl,h'.get? b=some { o with slots:=sl }) (free:∀b o,b∉ch->s.heap.get? b=some o->H b=none->H' b=none)
  (there:∀b o,b∉ch->s.heap.get? b=some o->∃o',h'.get? b=some o')
  (tups:∀b xs,H b=some (.tup xs)->H' b=some (.tup xs)) (frzs:∀b o u,H b=some (.frz o u)->H' b=some (.frz o u)) (tbls:∀b ps,H b=some (.tbl ps)->∃more,H' b=some (.tbl (ps++more)))
  (ns:∀m,s.heap.Ns X.env.locals m->h'.Ns X.env.locals m) (hok:s_ X.prog X.w t' H' h') (hg:AllBare g') (hk:s.toks<=t') :
  bG X ak σ H' { s with heap:=h',gens:=g',drawn:=d',toks:=t' }:=by
 have neL:∀b o,X.s₀.heap.get? b=some o->b≠X.env.locals:=fun b o e=>aW (aF (aB e) I.ok.above)
 have neC:∀b o,X.s₀.heap.get? b=some o->b∉X.ex->b∉ch:=fun b o e hx hb=>by
  rcases(Ka b hb).1 with z|z
  ·exact hx z
  ·exact absurd (aF (aB e) z) (dC _)
 have cellK:∀x c,X.env.cells.lookup x=some c->∀v,s.heap.IsCell c v->h'.IsCell c v:=fun x c e v zq=>by
  obtain⟨o,ho,hd⟩:=zq
  have nch:c∉ch:=fun z=>(Ka c z).2.2.1 x c e rfl
  by_cases hc:c∈X.fs
  ·obtain⟨sl,q⟩:=slot c o (I.cne x c e) hc nch ho (I.freeC x c e)
   exact⟨_,q,hd⟩
  ·exact⟨o,keep c o (I.cne x c e) hc nch ho (I.freeC x c e),hd⟩
 refine⟨I.ok,I.os,hg,⟨fun b o e n hb hx=>?_,fun b o e n hb hx=>?_,fun b o e n hx=>?_,fun b o e hx=>?_,fun b xs e=>tups b xs (I.base.tups b xs e),fun b o xs e=>frzs b o xs (I.base.frzs b o xs e),fun b ps e=>?_⟩,?_,fun x c e=>?_,?_,fun x c e=>?_,fun p hp=>?_,hok,I.len,aF I.pos hk,aI I.tk hk⟩
 ·exact keep b o (neL b o e) hb (neC b o e hx) (I.base.keep b o e n hb hx) (I.base.free b o e n hx)
 ·obtain⟨sl,e1⟩:=I.base.slot b o e n hb hx
  obtain⟨sl',e2⟩:=slot b _ (neL b o e) hb (neC b o e hx) e1 (I.base.free b o e n hx)
  exact⟨sl',e2⟩
 ·obtain⟨o',e1⟩:=I.base.there b o e hx
  exact free b o' (neC b o e hx) e1 (I.base.free b o e n hx)
 ·obtain⟨o',e1⟩:=I.base.there b o e hx
  exact there b o' (neC b o e hx) e1
 ·obtain⟨m1,e1⟩:=I.base.tbls b ps e
  obtain⟨m2,e2⟩:=tbls b _ e1
  exact⟨m1++m2,by rw[e2,Array.append_assoc]⟩
 ·obtain⟨m,hn,hl⟩:=I.loc
  refine⟨m,ns m hn,fun i x v e1 e2 e3=>?_⟩
  obtain⟨u,r,l⟩:=hl i x v e1 e2 e3
  refine⟨u,r.up hk,?_⟩
  rcases l with l|⟨k,c,e,z⟩
  ·exact .inl l
  ·exact .inr ⟨k,c,e,cellK x c e _ z⟩
 ·obtain⟨v,z⟩:=I.cell x c e
  exact⟨v,cellK x c e v z⟩
 ·obtain⟨m,⟨o,_,_,ho,_⟩,_⟩:=I.loc
  exact free _ o (fun z=>(Ka _ z).2.1 rfl) ho I.free
 ·obtain⟨v,o,ho,hd⟩:=I.cell x c e
  exact free c o (fun z=>(Ka c z).2.2.1 x c e rfl) ho (I.freeC x c e)
 ·obtain⟨e,n,ne,nf,d⟩:=I.pin p hp
  have nch:p.1∉ch:=fun z=>(Ka p.1 z).2.2.2 p hp rfl
  exact⟨keep p.1 p.2 ne nf nch e n,free p.1 p.2 nch e n,ne,nf,d⟩
theorem bG.un{t':Nat}(I:bG X ak σ H s)(u:Un X.fs [] H H' s.heap h')(hok:s_ X.prog X.w t' H' h')(hk:s.toks<=t':=by first|exact ax _|exact bj _|assumption|omega):bG X ak σ H' { s with heap:=h',toks:=t' }:=by
 obtain⟨m,⟨o,es,ep,ho,r⟩,_⟩:=id I.loc
 obtain⟨sl,hL⟩:=u.any ho I.free #[15]
 exact I.step (g':=s.gens) (d':=s.drawn) (ch:=[]) (fun _ z=>nomatch z) (fun b o _ hb _ e n=>u.keep b o e n hb #[15]) (fun b o _ hb _ e n=>u.slot b o e n hb #[15]) (fun b o _ e n=>u.free b o e n #[15]) (fun b o _ e=>u.there b o e #[15]) u.tups u.frzs u.tbls (fun m' hm=>by
  obtain⟨o',es',ep',ho',r'⟩:=hm
  rw[ho]at ho';cases ho'
  exact⟨_,es',ep',hL,r'⟩) hok I.bare hk
theorem bG.call{g':Array GenState}{t':Nat}{d':Drawn}{ch:List Addr}(I:bG X ak σ H s)(u:Un (rH X.stack) ch H H' s.heap h')(hok:s_ X.prog X.w t' H' h')(hg:AllBare g')
  (Ka:∀b∈ch,(b∈X.ex\/X.s₀.heap.objs.size<=b)/\b≠X.env.locals/\(∀x c,X.env.cells.lookup x=some c->c≠b)/\∀p∈X.pn++ak,p.1≠b) (hk:s.toks<=t') :
  bG X ak σ H' { s with heap:=h',gens:=g',drawn:=d',toks:=t' }:=by
 obtain⟨m,⟨o,es,ep,ho,r⟩,_⟩:=id I.loc
 obtain⟨sl,hL⟩:=u.any ho I.free fun z=>(Ka _ z).2.1 rfl
 exact I.step (ch:=ch) Ka (fun b o hL hb hc e n=>u.keep b o e n (fun z=>(aN.mp (I.stkSub b z)).elim hL hb) hc) (fun b o _ _ hc e n=>u.any e n hc) (fun b o hc e n=>u.free b o e n hc) (fun b o hc e=>u.there b o e hc) u.tups u.frzs u.tbls (fun m' hm=>by
  obtain⟨o',es',ep',ho',r'⟩:=hm
  rw[ho]at ho';cases ho'
  exact⟨_,es',ep',hL,r'⟩) hok hg hk
theorem bG.turned{t':Nat}{it:Addr}(I:bG X ak σ H s)(k:∀b o,b≠it->s.heap.get? b=some o->h'.get? b=some o)(hn:H it=none)(hL:it≠X.env.locals)
  (h1:it∈X.ex\/X.s₀.heap.objs.size<=it) (h2:∀x c,X.env.cells.lookup x=some c->c≠it) (h3:∀p∈X.pn++ak,p.1≠it) (hk:s.toks<=t':=by first|exact ax _|exact bj _|assumption|omega):bG X ak σ H { s with heap:=h',toks:=t' }:=by
 have nit:∀b u,H b=some u->b≠it:=fun b u e z=>by rw[z,hn]at e;cases e
 refine I.step (g':=s.gens) (d':=s.drawn) (ch:=[it]) (fun b hb=>?_) (fun b o _ _ hc e _=>k b o (fun z=>hc (by simp[z])) e) (fun b o _ _ hc e _=>⟨o.slots,k b o (fun z=>hc (by simp[z])) e⟩) (fun _ _ _ _ n=>n)
  (fun b o hc e=>⟨o,k b o (fun z=>hc (by simp[z])) e⟩) (fun _ _ e=>e) (fun _ _ _ e=>e) (fun b ps e=>⟨#[],by rw[e];simp⟩) (fun m hm=>?_) (fun b u e=>?_) I.bare hk
 ·have e:b=it:=by simpa using hb
  subst e
  exact⟨h1,hL,h2,h3⟩
 ·obtain⟨o,es,ep,ho,r⟩:=hm
  exact⟨o,es,ep,k _ o (Ne.symm hL) ho,r⟩
 ·refine((I.hok b u e).up hk).stay (fun c v hc q=>k c v ?_ q) (fun _ q=>q) fun _ _ q=>q
  rcases hc with z|z
  ·rw[z];exact nit b u e
  ·exact nit c _ z
theorem bG.tok(I:bG X ak σ H s)(t:Nat)(hk:s.toks<=t:=by first|exact ax _|exact bj _|assumption|omega):bG X ak σ H { s with toks:=t }:=I.un (h':=s.heap) (t':=t) Un.refl (I.hok.up hk) hk
theorem bG.kept{t':Nat}(I:bG X ak σ H s)(k:∀b u,s.heap.get? b=some u->h'.get? b=some u)(hk:s.toks<=t':=by first|exact ax _|exact bj _|assumption|omega):bG X ak σ H { s with heap:=h',toks:=t' }:=I.un (Un.kept k) ((I.hok.kept k).up hk) hk
theorem bG.laid{a:Addr}{o:HO}{t':Nat}(I:bG X ak σ H s)(k:∀b u,s.heap.get? b=some u->h'.get? b=some u)(hp:s.heap.objs.size<=a)(new:gq X.prog X.w t' (fB H a o) h' a o)(hk:s.toks<=t':=by first|exact ax _|exact bj _|assumption|omega) :
  bG X ak σ (fB H a o) { s with heap:=h',toks:=t' }:=I.un (Un.laid k hp (I.hok.fresh hp)) ((I.hok.up hk).laid k hp new) hk
theorem bG.write{x e:Addr}{o:HO}(I:bG X ak σ H s)(mu:Vg (H x))(he:e=x\/H e=some (.own x))(k:∀b u,b≠e->s.heap.get? b=some u->h'.get? b=some u)(J':∃u,h'.get? e=some u)
  (new:gq X.prog X.w t' (fB H x o) h' x o) (hk:s.toks<=t':=by first|exact ax _|exact bj _|assumption|omega):bG X ak σ (fB H x o) { s with heap:=h',toks:=t' }:=I.un (Un.write mu he k J') ((I.hok.up hk).write mu he k J' new) hk
theorem bG.pins_of{pins':List (Addr×Obj)}(I:bG X ak σ H s)(h:∀p∈pins',s.heap.get? p.1=some p.2/\H p.1=none/\p.1≠X.env.locals/\p.1∉X.fs/\∀v,p.2.data≠.cell v):bG X pins' σ H s:=
 ⟨I.ok,I.os,I.bare,I.base,I.loc,I.cell,I.free,I.freeC,fun p hp=>(aP.mp hp).elim (fun z=>I.pin p (bz _ z)) (h p),I.hok,I.len,I.pos,I.tk⟩
theorem vo{N:List Str}(hN:N.Nodup)(a:N[i]?=some x)(b:N[j]?=some x):i=j:=by
 obtain⟨h1,e1⟩:=ar.mp a
 obtain⟨h2,e2⟩:=ar.mp b
 exact(List.getElem_inj hN).mp (e1.trans e2.symm)
theorem ED{M:Model}{A:Around}{E:Value->Shared->Prop}{v:V}{Q:Unit->Shared->Prop}(I:bG X ak σ H s)(hN:X.N.Nodup)(hi:X.N[i]?=some x)(hx:J3 X.env.scope x)(r:dh s.toks v u)
  (h:∀s',bG X ak (σ.set i (some v)) H s'->(∃a,Heap.SameBut a s.heap s'.heap/\(a=X.env.locals\/X.env.cells.lookup x=some a))->Q () s') (hf:X.fn x=true\/X.env.scope.names.lookup x=some .local:=by first|exact .inl rfl|exact .inr rfl|assumption):wpAny M A (storeName X.env x u) Q E s:=by
 obtain⟨m,hn,hl⟩:=id I.loc
 have JS:(X.env.scope.kind==.class||(X.env.scope.kind==.module&&X.env.locals != X.env.globals))=false:=by rw[I.ok.kind];rfl
 have hiσ:i<σ.length:=by rw[I.len];exact(ar.mp hi).1
 have cne:=I.cne
 have tracked:∀{a:Addr} {h':Heap},(∃o,s.heap.get? a=some o/\H a=none)->Heap.SameBut a s.heap h'->s_ X.prog X.w s.toks H h':=fun{a h'} ha hs b ob e=>by
  obtain⟨_,_,hfree⟩:=ha
  refine(I.hok b ob e).stay (fun c w' hc q=>(hs.2 c ?_).trans q) (fun _ q=>q) fun _ _ q=>q
  rintro rfl
  rcases hc with rfl|hc
  ·rw[hfree]at e;cases e
  ·rw[hfree]at hc;cases hc
 rcases hx with hk|hk
 ·refine pc hk hn (fun h' UZ hs=>?_) JS
  obtain⟨oL,_,_,hoL,_⟩:=id hn
  refine h { s with heap:=h',toks:=s.toks+1 } ⟨I.ok,I.os,I.bare,⟨fun b o e n hb hx=>?_,fun b o e n hb hx=>?_,I.base.free,fun b o e hx=>?_,I.base.tups,I.base.frzs,I.base.tbls⟩,⟨_,UZ,fun j y v' e1 e2 e3=>?_⟩,fun y c e=>?_,I.free,I.freeC,fun p hp=>?_,(tracked ⟨oL,hoL,I.free⟩ hs).up (bj _),by simpa using I.len,Nat.succ_pos _,ia I.tk⟩ ⟨_,hs,.inl rfl⟩
  ·exact(hs.2 b (aW (aF (aB e) I.ok.above))).trans (I.base.keep b o e n hb hx)
  ·obtain⟨sl,e1⟩:=I.base.slot b o e n hb hx
   exact⟨sl,(hs.2 b (aW (aF (aB e) I.ok.above))).trans e1⟩
  ·obtain⟨o',e1⟩:=I.base.there b o e hx
   exact⟨o',(hs.2 b (aW (aF (aB e) I.ok.above))).trans e1⟩
  ·by_cases hj:j=i
   ·subst hj
    rw[hi]at e1;cases e1
    rw[bW hiσ]at e2
    cases e2
    exact⟨u,r.up (bj _),.inl ⟨hk,by simp⟩⟩
   ·rw[cy (Ne.symm hj)]at e2
    obtain⟨u',r',q⟩:=hl j y v' e1 e2 e3
    refine⟨u',r'.up (bj _),?_⟩
    rcases q with⟨k,e⟩|⟨k,c,e,z⟩
    ·refine .inl ⟨k,?_⟩
     have:y≠x:=fun e=>hj (vo hN e1 (e▸hi))
     simp[this,e]
    ·exact .inr ⟨k,c,e,z.sameBut hs (cne y c e)⟩
  ·obtain⟨w',z⟩:=I.cell y c e
   exact⟨w',z.sameBut hs (cne y c e)⟩
  ·obtain⟨e,n,ne,nf,d⟩:=I.pin p hp
   exact⟨(hs.2 p.1 ne).trans e,n,ne,nf,d⟩
 ·have hfn:X.fn x=true:=by
   rcases hf with z|z
   ·exact z
   ·rw[z]at hk;cases hk
  obtain⟨c,hc⟩:=I.ok.has x (.inl hk)
  obtain⟨w',z⟩:=I.cell x c hc
  refine wpAny_storeName_cell I.ok.kind hk hc z (fun h' hc' hs=>?_)
  obtain⟨oc,hoc,hocd⟩:=id z
  refine h { s with heap:=h' } ⟨I.ok,I.os,I.bare,⟨fun b o e n hb hx=>?_,fun b o e n hb hx=>?_,I.base.free,fun b o e hx=>?_,I.base.tups,I.base.frzs,I.base.tbls⟩,⟨m,hn.sameBut hs (Ne.symm (cne x c hc)),fun j y v' e1 e2 e3=>?_⟩,fun y c' e=>?_,I.free,I.freeC,fun p hp=>?_,tracked ⟨oc,hoc,I.freeC x c hc⟩ hs,by simpa using I.len,I.pos,I.tk⟩ ⟨c,hs,.inr hc⟩
  ·exact(hs.2 b (aW (aF (aB e) (I.ok.cab x c hfn hc)))).trans (I.base.keep b o e n hb hx)
  ·obtain⟨sl,e1⟩:=I.base.slot b o e n hb hx
   exact⟨sl,(hs.2 b (aW (aF (aB e) (I.ok.cab x c hfn hc)))).trans e1⟩
  ·obtain⟨o',e1⟩:=I.base.there b o e hx
   exact⟨o',(hs.2 b (aW (aF (aB e) (I.ok.cab x c hfn hc)))).trans e1⟩
  ·by_cases hj:j=i
   ·subst hj
    rw[hi]at e1;cases e1
    rw[bW hiσ]at e2
    cases e2
    exact⟨u,r,.inr ⟨.inl hk,c,hc,hc'⟩⟩
   ·rw[cy (Ne.symm hj)]at e2
    obtain⟨u',r',q⟩:=hl j y v' e1 e2 e3
    refine⟨u',r',?_⟩
    rcases q with q|⟨k,c',e,z'⟩
    ·exact .inl q
    ·refine .inr ⟨k,c',e,z'.sameBut hs ?_⟩
     rintro rfl
     exact hj (vo hN e1 (I.ok.inj _ _ _ e hc▸hi))
  ·by_cases hcc:c'=c
   ·subst hcc;exact⟨_,hc'⟩
   ·obtain⟨w2,z2⟩:=I.cell y c' e
    exact⟨w2,z2.sameBut hs hcc⟩
  ·obtain⟨e,n,ne,nf,d⟩:=I.pin p hp
   refine⟨(hs.2 p.1 ?_).trans e,n,ne,nf,d⟩
   intro q
   rw[q,hoc]at e
   have q':oc=p.2:=bq e
   exact d w' (by rw[<- q'];exact hocd)
theorem vp{M:Model}{A:Around}{E:Value->Shared->Prop}{v:V}{Q:Unit->Shared->Prop}(I:bG X ak σ H s)(hN:X.N.Nodup)(hi:X.N[i]?=some x)(hx:J3 X.env.scope x)(r:dh s.toks v u)
  (h:∀s',bG X ak (σ.set i (some v)) H s'->Q () s') (hf:X.fn x=true\/X.env.scope.names.lookup x=some .local:=by first|exact .inl rfl|exact .inr rfl|assumption):wpAny M A (storeName X.env x u) Q E s:=
 ED I hN hi hx r (fun s' I' _=>h s' I') hf
theorem bG.call'{s':Shared}{ch:List Addr}(I:bG X ak σ H s)(ho:s'.os=s.os)(u:Un (rH X.stack) ch H H' s.heap s'.heap)(hok:s_ X.prog X.w s'.toks H' s'.heap)(hg:AllBare s'.gens)
  (Ka:∀b∈ch,(b∈X.ex\/X.s₀.heap.objs.size<=b)/\b≠X.env.locals/\(∀x c,X.env.cells.lookup x=some c->c≠b)/\∀p∈X.pn++ak,p.1≠b) (hk:s.toks<=s'.toks):bG X ak σ H' s':=by
 obtain⟨h',g',d',t',o'⟩:=s'
 have e:o'=s.os:=ho
 subst e
 exact I.call (g':=g') (t':=t') (d':=d') u hok hg Ka hk
end
abbrev XK:=Value->Option Addr->Hp->Prop
noncomputable abbrev St:=List (Option V)
abbrev VK:=V->Hp->Prop
abbrev TE:=St->Hp->VK->Prop
abbrev TT:=St->Hp->(Bool->Hp->Prop)->Prop
abbrev TA:=St->Hp->(List V->Hp->Prop)->Prop
structure yF where
 nx:St->Hp->Prop
 rt:VK
 bk:St->Hp->Prop:=fun _ _=>False
 ct:St->Hp->Prop:=fun _ _=>False
abbrev TS:=yF->St->Hp->Prop
def EP(X:Cx)(ak:List (Addr×Obj))(σ:St)(Q:VK)(u:Value)(s':Shared):Prop:=∃v H',bG X ak σ H' s'/\dh s'.toks v u/\Q v H'
def TP(X:Cx)(ak:List (Addr×Obj))(σ:St)(Q:Bool->Hp->Prop)(b:Bool)(s':Shared):Prop:=∃H',bG X ak σ H' s'/\Q b H'
def AP(X:Cx)(ak:List (Addr×Obj))(σ:St)(Q:List V->Hp->Prop)(us:List Value)(s':Shared):Prop:=∃vs H',bG X ak σ H' s'/\cu s'.toks vs us/\Q vs H'
def SP(X:Cx)(ak:List (Addr×Obj))(D:yF)(f:Flow)(s':Shared):Prop:=
 match f with
 |.next=>∃σ' H',bG X ak σ' H' s'/\D.nx σ' H'
 |.brk=>∃σ' H',bG X ak σ' H' s'/\D.bk σ' H'
 |.cont=>∃σ' H',bG X ak σ' H' s'/\D.ct σ' H'
 |.ret u=>∃v σ' H',bG X ak σ' H' s'/\dh s'.toks v u/\D.rt v H'
def PE(X:Cx)(e:Expr)(t:TE):Prop:=
 ∀(ak:List (Addr×Obj)) (s:Shared) (σ:St) (H:Hp) (Q:VK),bG X ak σ H s->t σ H Q->wpAny #[5] X.A (eval e X.env) (EP X ak σ Q) X.xe s
def PT(X:Cx)(e:Expr)(t:TT):Prop:=
 ∀(ak:List (Addr×Obj)) (s:Shared) (σ:St) (H:Hp) (Q:Bool->Hp->Prop),bG X ak σ H s->t σ H Q->wpAny #[5] X.A (isTrue e X.env (eval e X.env)) (TP X ak σ Q) X.xe s
def PW(X:Cx)(e:Expr)(t:TT):Prop:=
 ∀(whole:Sem Value) (ak:List (Addr×Obj)) (s:Shared) (σ:St) (H:Hp) (Q:Bool->Hp->Prop),bG X ak σ H s->t σ H Q->wpAny #[5] X.A (isTrue e X.env whole) (TP X ak σ Q) X.xe s
theorem PW.pt{X:Cx}{t:TT}(h:PW X e t):PT X e t:=h _
def PA(X:Cx)(es:List Expr)(t:TA):Prop:=
 ∀(pos:Pos) (ak:List (Addr×Obj)) (s:Shared) (σ:St) (H:Hp) (Q:List V->Hp->Prop),bG X ak σ H s->t σ H Q->wpAny #[5] X.A (spliced (backTo pos (starEach es X.env))) (AP X ak σ Q) X.xe s
def PS(X:Cx)(st:Stmt)(t:TS):Prop:=
 ∀(ak:List (Addr×Obj)) (s:Shared) (σ:St) (H:Hp) (D:yF),bG X ak σ H s->t D σ H->wpAny #[5] X.A (exec st X.env) (SP X ak D) X.xe s
def EE(X:Cx)(st:List Stmt)(t:TS):Prop:=
 ∀(ak:List (Addr×Obj)) (s:Shared) (σ:St) (H:Hp) (D:yF),bG X ak σ H s->t D σ H->wpAny #[5] X.A (execs st X.env) (SP X ak D) X.xe s
theorem jQ{t:Sem α}{Q Q':α->Shared->Prop}(h:wpAny M A t Q E s)(hQ:∀a s',s.toks<=s'.toks->Q a s'->Q' a s'):wpAny M A t Q' E s:=
 up (ji h (fun a s' q k=>hQ a s' k q) fun _ _ x _=>x)
theorem BQ{t:Sem α}{Q Q':α->Shared->Prop}(h:wpAny M A t Q E s)(hQ:∀a s,Q a s->Q' a s):wpAny M A t Q' E s:=ji h hQ fun _ _ x=>x
end L2
variable{X:L2.Cx}{σ:L2.St}{te:L2.TE}{r:L2.V->List L2.V->L2.Hp->L2.VK->Prop}
namespace L2
open PySem PySem.Spec PyProof.Rows
section
def RT(i:Nat):TE:=fun σ H Q=>∃v,σ[i]?=some (some v)/\Q v H
def tC(v:V):TE:=fun _ H Q=>Q v H
theorem Oa{pos:Pos}(hN:X.N[i]?=some x)(hv:RR X.env.scope x)(hd:(x==("__debug__":Str))=false:=by decide)(BP:(x==("__classdict__":Str))=false:=by decide):PE X (.Name x pos) (RT i):=by
 intro ak s σ H Q I h
 obtain⟨v,e,h⟩:=h
 obtain⟨m,hn,hl⟩:=I.loc
 obtain⟨u,r,l⟩:=hl i x v hN e hv
 have j_:EP X ak σ Q u s:=⟨v,H,I,r,h⟩
 rcases l with⟨hk,hm⟩|⟨hk,c,hc,h_⟩
 ·exact wpAny_Name (wpAny_loadName_local I.ok.kind hk hn hm j_) hd
 ·rcases hk with hk|hk
  ·exact wpAny_Name (wpAny_loadName_cell I.ok.kind hk hc h_ j_) hd
  ·exact wpAny_Name (wpAny_loadName_free I.ok.kind hk hc h_ j_ BP) hd
theorem Ob{i j pos}:PE X (.Constant (.int i) j pos) (tC (.int i)):=fun _ _ _ H _ I h=>wpAny_Constant_int ⟨.int i,H,I.tok _,⟨_,rfl⟩,h⟩
theorem RU{b j pos}:PE X (.Constant (.bool b) j pos) (tC (.bl b)):=fun _ _ _ H _ I h=>Constant_bool ⟨.bl b,H,I,rfl,h⟩
theorem Oc{j pos}:PE X (.Constant .none j pos) (tC .non):=fun _ _ _ H _ I h=>qT ⟨.non,H,I,rfl,h⟩
theorem bG.tkS(I:bG X ak σ H s):dh (s.toks+1) (.str x) (.str x s.toks):=⟨⟨s.toks,fun _=>⟨I.pos,bY _⟩⟩,rfl⟩
theorem Od{x j pos}:PE X (.Constant (.str x) j pos) (tC (.str x)):=fun _ _ _ H _ I h=>Calls.Constant_str ⟨.str x,H,I.tok _,I.tkS,h⟩
def Gl(X:Cx)(x:Str):Prop:=X.env.kindOf x=some .globalImplicit
theorem rJ{E:Value->Shared->Prop}{pos:Pos}(I:bG X ak σ H s)(hg:Gl X x)(hm:X.mg x=some u)(h:Q u s)
  (hd:(x==("__debug__":Str))=false:=by decide):wpAny #[5] X.A (eval (.Name x pos) X.env) Q E s:=
 lW I.ok.kind hg (Calls.loadGlobal_global (by rw[I.ok.glob];exact I.mod.glob.keeps I.bk) hm h) hd
theorem pE{E:Value->Shared->Prop}{pos:Pos}(I:bG X ak σ H s)(hg:Gl X x)(hm:X.mg x=none)(hv:bootBuiltins x=some u)(h:Q u s)
  (hn:x ≠ "__name__":=by decide) (hd:(x==("__debug__":Str))=false:=by decide):wpAny #[5] X.A (eval (.Name x pos) X.env) Q E s:=by
 obtain⟨mb,h1,h2⟩:=I.mod.blt
 exact lW I.ok.kind hg (Calls.loadGlobal_builtin (by rw[I.ok.glob];exact I.mod.glob.keeps I.bk) hm (by rw[I.ok.blt];exact h1.keeps I.bk) ((h2 x hn).trans hv) h) hd
theorem yG{v:V}{pos:Pos}(hg:Gl X x)(hm:X.mg x=some u)(r:dh 0 v u)(hd:(x==("__debug__":Str))=false:=by decide):PE X (.Name x pos) (tC v):=
 fun _ _ _ H _ I h=>rJ I hg hm ⟨v,H,I,r.up (b7 _),h⟩ hd
theorem Dz{v:V}{pos:Pos}(hg:Gl X x)(hm:X.mg x=none)(hv:bootBuiltins x=some u)(r:dh 0 v u)(hn:x ≠ "__name__":=by decide)(hd:(x==("__debug__":Str))=false:=by decide):PE X (.Name x pos) (tC v):=
 fun _ _ _ H _ I h=>pE I hg hm hv ⟨v,H,I,r.up (b7 _),h⟩ hn hd
variable{a b:Expr}{ta tb:TE}
def PC(X:Cx)(op:CmpOp)(a b:Expr)(t:TE):Prop:=
 ∀(ak:List (Addr×Obj)) (s:Shared) (σ:St) (H:Hp) (Q:VK),bG X ak σ H s->t σ H Q ->
  wpAny #[5] X.A (eval a X.env) (fun v s₁=>wpAny #[5] X.A (eval b X.env) (fun u s₂=>wpAny #[5] X.A (compareOp op v u) (EP X ak σ Q) X.xe s₂) X.xe s₁) X.xe s
theorem zZ(b:Expr)(h:op≠.In)(h2:op≠.NotIn):behindInMarks op b=false:=by
 have e1:(op==CmpOp.In)=false:=by cases op<;>first|rfl|exact absurd rfl h
 have e2:(op==CmpOp.NotIn)=false:=by cases op<;>first|rfl|exact absurd rfl h2
 cases b<;>simp[behindInMarks,e1,e2]
def RV(ta:TE):TE:=fun σ H Q=>ta σ H fun x H1=>Q (.bl (decide (x=.non))) H1
def L'(ta:TE):TE:=fun σ H Q=>ta σ H fun x H1=>Q (.bl (!decide (x=.non))) H1
theorem dh.none_iff{x:V}(r:dh nk x v):(v==Value.none)=decide (x=.non):=by
 cases x with
 |non=>cases r;rfl
 |bl _=>cases r;rfl
 |int _=>obtain⟨t,rfl⟩:=r;rfl
 |str _=>obtain⟨t,rfl⟩:=r;rfl
 |byt _=>obtain⟨t,rfl⟩:=r;rfl
 |flt _=>obtain⟨t,rfl⟩:=r;rfl
 |ref _=>cases r;rfl
 |ty _=>cases r;rfl
theorem FW{j iI}(ha:PE X a ta):PC X .Is a (.Constant .none j iI) (RV ta):=by
 intro ak s σ H Q I h
 refine jQ (ha ak s σ H _ I h) fun v s1 kt1 zq=>?_
 obtain⟨x,H1,I1,r1,q1⟩:=zq
 exact qT (is_none_gen ⟨.bl _,H1,I1,by rw[r1.none_iff];rfl,q1⟩)
theorem Kh{j iI}(ha:PE X a ta):PC X .IsNot a (.Constant .none j iI) (L' ta):=by
 intro ak s σ H Q I h
 refine jQ (ha ak s σ H _ I h) fun v s1 kt1 zq=>?_
 obtain⟨x,H1,I1,r1,q1⟩:=zq
 exact qT (isnot_none_gen ⟨.bl _,H1,I1,by rw[r1.none_iff];rfl,q1⟩)
def tB(t:TE):TT:=fun σ H Q=>t σ H fun x H1=>∃c,x=.bl c/\Q c H1
theorem Oe{t:TE}(h:PC X op a b t)(h1:behindInMarks op b=false:=by first|exact zZ _ #[3] #[3]|rfl):PE X (.Compare a [op] [b] pos) t:=fun ak s σ H Q I hw=>wpAny_Compare1 (h ak s σ H Q I hw) h1
theorem FX{t:TE}(h:PC X op a b t)(h1:behindInMarks op b=false:=by first|exact zZ _ #[3] #[3]|rfl):PT X (.Compare a [op] [b] pos) (tB t):=by
 intro ak s σ H Q I hw
 refine pd (BQ (h ak s σ H _ I hw) fun v s1 h1=>BQ h1 fun u s2 h2=>BQ h2 fun c s3 ⟨x,H1,I1,r1,q1⟩=>?_) h1
 obtain⟨d,rfl,q⟩:=q1
 cases r1
 exact ib ⟨H1,I1,q⟩
theorem Of{t:TE}(h:PE X e t)(he:∀whole,isTrue e X.env whole=(do let v <- whole;standAt e.pos;holding [v] (truthy v)):=by intro _;rfl):PT X e (tB t):=by
 intro ak s σ H Q I hw
 refine isTrue_plain (jQ (h ak s σ H _ I hw) fun v s1 kt1 ⟨x,H1,I1,r1,q1⟩=>?_) (he _)
 obtain⟨d,rfl,q⟩:=q1
 cases r1
 exact ib ⟨H1,I1,q⟩
variable{tA UO:TT}{gb:List Expr}
def VM(t u:TT):TT:=fun σ H Q=>t σ H fun c H1=>if c=true then u σ H1 Q else Q false H1
def Xc(t u:TT):TT:=fun σ H Q=>t σ H fun c H1=>if c=true then Q true H1 else u σ H1 Q
def VN(t:TT):TT:=fun σ H Q=>t σ H fun c H1=>Q (!c) H1
theorem Ki(ha:PT X a tA):PW X (.BoolOp .And [a] pos) tA:=by
 intro wh ak s σ H Q I h
 refine isTrue_and (BQ (ha ak s σ H Q I h) fun c s1 e=>?_)
 cases c with
 |true=>exact isTrue_and_nil e
 |false=>exact e
theorem Og(ha:PT X a tA):PW X (.BoolOp .Or [a] pos) tA:=by
 intro wh ak s σ H Q I h
 refine isTrue_or (BQ (ha ak s σ H Q I h) fun c s1 e=>?_)
 cases c with
 |false=>exact isTrue_or_nil e
 |true=>exact e
theorem Oh(ha:PT X a tA)(hb:PW X (.BoolOp .And (b::gb) pos) UO):PW X (.BoolOp .And (a::b::gb) pos) (VM tA UO):=by
 intro wh ak s σ H Q I h
 refine isTrue_and (jQ (ha ak s σ H _ I h) fun c s1 kt1 zq=>?_)
 obtain⟨H1,I1,q1⟩:=zq
 cases c with
 |true=>exact hb wh ak s1 σ H1 Q I1 q1
 |false=>exact⟨H1,I1,q1⟩
theorem RW(ha:PT X a tA)(hb:PW X (.BoolOp .Or (b::gb) pos) UO):PW X (.BoolOp .Or (a::b::gb) pos) (Xc tA UO):=by
 intro wh ak s σ H Q I h
 refine isTrue_or (jQ (ha ak s σ H _ I h) fun c s1 kt1 zq=>?_)
 obtain⟨H1,I1,q1⟩:=zq
 cases c with
 |true=>exact⟨H1,I1,q1⟩
 |false=>exact hb wh ak s1 σ H1 Q I1 q1
theorem Oi(ha:PT X a tA):PT X (.UnaryOp .Not a pos) (VN tA):=by
 intro ak s σ H Q I h
 exact isTrue_not (ha ak s σ H (fun c H1=>Q (!c) H1) I h)
def RX(ta tb:TE):TE:=fun σ H Q=>ta σ H fun x H1=>∃c,x=.bl c/\if c=true then tb σ H1 Q else Q (.bl false) H1
def RY(ta:TE):TE:=fun σ H Q=>ta σ H fun x H1=>∃c,x=.bl c/\Q (.bl (!c)) H1
theorem Oj{op}{t:TE}(h:PE X a t):PE X (.BoolOp op [a] pos) t:=fun ak s σ H Q I hw=>BoolOp_one (h ak s σ H Q I hw)
theorem Ol(ha:PE X a ta)(hb:PE X (.BoolOp .And (b::gb) pos) tb):PE X (.BoolOp .And (a::b::gb) pos) (RX ta tb):=by
 intro ak s σ H Q I h
 refine BoolOp_and (jQ (ha ak s σ H _ I h) fun v s1 kt1 zq=>?_)
 obtain⟨x,H1,I1,r1,q1⟩:=zq
 obtain⟨c,rfl,q1⟩:=q1
 cases r1
 refine ib ?_
 cases c with
 |true=>exact hb ak s1 σ H1 Q I1 q1
 |false=>exact⟨.bl false,H1,I1,rfl,q1⟩
theorem Om(ha:PE X a ta):PE X (.UnaryOp .Not a pos) (RY ta):=by
 intro ak s σ H Q I h
 refine UnaryOp_ (jQ (ha ak s σ H _ I h) fun v s1 kt1 zq=>?_)
 obtain⟨x,H1,I1,r1,q1⟩:=zq
 obtain⟨c,rfl,q1⟩:=q1
 cases r1
 exact not_of (ib ⟨.bl (!c),H1,I1,rfl,q1⟩)
def Xd(t:TT)(ta tb:TE):TE:=fun σ H Q=>t σ H fun c H1=>if c=true then ta σ H1 Q else tb σ H1 Q
theorem FY{c:Expr}(hc:PT X c tA)(ha:PE X a ta)(hb:PE X b tb):PE X (.IfExp c a b pos) (Xd tA ta tb):=by
 intro ak s σ H Q I h
 refine wpAny_IfExp (jQ (hc ak s σ H _ I h) fun d s1 kt1 zq=>?_)
 obtain⟨H1,I1,q1⟩:=zq
 cases d with
 |true=>exact ha ak s1 σ H1 Q I1 q1
 |false=>exact hb ak s1 σ H1 Q I1 q1
end
end L2
namespace L2
open PySem PySem.Spec PyProof.Rows
def tm(K:Frag)(H:Hp)(a:Addr)(xs:List V):Prop:=
 Rd H a (.lst xs) \/
  ∃(o:Obj) (bP:Array Value) (n:Nat),K.lookup a=some o/\o.cls=.type "list"/\o.dict=none/\o.data=.seq bP n/\bP.size<=sizeLine/\cu 0 xs bP.toList
def fU(K:Frag)(H:Hp)(a:Addr)(xs:List V):Prop:=
 Rd H a (.tup xs) \/
  ∃(o:Obj) (bP:Array Value) (n:Nat),K.lookup a=some o/\o.cls=.type "tuple"/\o.data=.seq bP n/\bP.size<=sizeLine/\cu 0 xs bP.toList
noncomputable def VO:Value->Option V
 |.none=>some .non
 |.bool b=>some (.bl b)
 |.int i _=>some (.int i)
 |.str x _=>some (.str x)
 |.bytes b _=>some (.byt b)
 |.float b _=>some (.flt b)
 |.ref a=>some (.ref a)
 |.type n=>some (.ty n)
 |_=>none
theorem dh.abs{x:V}(r:dh nk x u):VO u=some x:=by
 cases x with
 |non=>cases r;rfl
 |bl _=>cases r;rfl
 |int _=>obtain⟨t,rfl⟩:=r;rfl
 |str _=>obtain⟨t,rfl⟩:=r;rfl
 |byt _=>obtain⟨t,rfl⟩:=r;rfl
 |flt _=>obtain⟨t,rfl⟩:=r;rfl
 |ref _=>cases r;rfl
 |ty _=>cases r;rfl
theorem dh.inj{x y:V}(r:dh nk x u)(q:dh nk y u):x=y:=bq (r.abs.symm.trans q.abs)
theorem cu.inj:∀{xs ys:List V} {us:List Value},cu nk xs us->cu nk ys us->xs=ys
 |_,_,_,.nil,.nil=>rfl
 |_,_,_,.cons r t,.cons r' t'=>by rw[r.inj r',cu.inj t t']
section
variable{a:Addr}{ys:List V}
theorem tm.of(h:H a=some (.lst xs)):tm K H a xs:=.inl (.inl h)
theorem fU.of(h:H a=some (.tup xs)):fU K H a xs:=.inl (.inl h)
theorem bG.list(I:bG X ak σ H s)(h:tm X.K H a xs):∃bP:List Value,cu s.toks xs bP/\PlainL s.heap a bP.toArray/\xs.length<=sizeLine:=by
 rcases h with h|⟨o,bP,n,hk,hc,hd,hs,hz,r⟩
 ·obtain⟨z,bP,n,r,e⟩:=h.ok I.hok
  exact⟨bP,r,⟨_,n,e,rfl,rfl,rfl⟩,z⟩
 ·refine⟨bP.toList,r.up (b7 _),⟨o,n,I.kIn a o hk,hc,hd,by simpa using hs⟩,?_⟩
  have e:=r.length
  simp only[dZ]at e
  omega
theorem bG.tuple(I:bG X ak σ H s)(h:fU X.K H a xs):∃bP:List Value,cu s.toks xs bP/\IsTup s.heap a bP.toArray/\xs.length<=sizeLine:=by
 rcases h with h|⟨o,bP,n,hk,hc,hs,hz,r⟩
 ·obtain⟨z,bP,r,p⟩:=h.ok I.hok
  exact⟨bP,r,p,z⟩
 ·refine⟨bP.toList,r.up (b7 _),⟨o,I.kIn a o hk,hc,n,by simpa using hs⟩,?_⟩
  have e:=r.length
  simp only[dZ]at e
  omega
theorem bG.list_inj(I:bG X ak σ H s)(h:tm X.K H a xs)(h':tm X.K H a ys):xs=ys:=by
 obtain⟨bP,r,⟨o,n,e,_,_,d⟩,_⟩:=I.list h
 obtain⟨its',r',⟨o',n',e',_,_,d'⟩,_⟩:=I.list h'
 rw[e]at e';cases e'
 rw[d]at d'
 injection d' with d1 _
 have:bP=its':=by simpa using gT Array.toList d1
 subst this
 exact r.inj r'
theorem bG.tuple_inj(I:bG X ak σ H s)(h:fU X.K H a xs)(h':fU X.K H a ys):xs=ys:=by
 obtain⟨bP,r,⟨o,e,_,n,d⟩,_⟩:=I.tuple h
 obtain⟨its',r',⟨o',e',_,n',d'⟩,_⟩:=I.tuple h'
 rw[e]at e';cases e'
 rw[d]at d'
 injection d' with d1 _
 have:bP=its':=by simpa using gT Array.toList d1
 subst this
 exact r.inj r'
end
section
end
section
variable{st:Stmt}{gb:List Stmt}{t u:TS}
def RZ:TS:=fun D σ H=>D.nx σ H
def VP(t u:TS):TS:=fun D σ H=>t { D with nx:=u D } σ H
theorem Kj:EE X [] RZ:=fun _ _ σ H _ I h=>i_ ⟨σ,H,I,h⟩
theorem FZ(h1:PS X st t)(h2:EE X gb u):EE X (st::gb) (VP t u):=by
 intro ak s σ H D I h
 refine wpAny_execs_cons (BQ (h1 ak s σ H { D with nx:=u D } I h) fun f s1 q=>?_)
 cases f with
 |next=>
  obtain⟨σ',H',I',q⟩:=q
  exact h2 ak s1 σ' H' D I' q
 |ret v=>exact q
 |brk=>exact q
 |cont=>exact q
theorem Kk(h1:PS X st t):EE X [st] t:=by
 intro ak s σ H D I h
 refine wpAny_execs_cons (BQ (h1 ak s σ H D I h) fun f s1 q=>?_)
 cases f with
 |next=>exact i_ q
 |ret v=>exact q
 |brk=>exact q
 |cont=>exact q
def On:TS:=fun D σ H=>D.bk σ H
def R0:TS:=fun D σ H=>D.ct σ H
theorem F0:PS X (.Break pos) On:=fun _ _ σ H _ I h=>wpAny_Break ⟨σ,H,I,h⟩
theorem z_:PS X (.Continue pos) R0:=fun _ _ σ H _ I h=>wpAny_Continue ⟨σ,H,I,h⟩
theorem bG.quiet(I:bG X ak σ H s):interactive X.env=false:=by simp[interactive,I.ok.kind]
def R1(te:TE):TS:=fun D σ H=>te σ H fun _ H1=>D.nx σ H1
theorem Kl(he:PE X e te)(hs:swapsWith e none pos.line X.env=pure false:=by rfl):PS X (.Expr e pos) (R1 te):=by
 intro ak s σ H D I h
 exact wpAny_Expr_any (jQ (he ak s σ H _ I h) fun v s1 kt1 ⟨x,H1,I1,r1,q1⟩=>⟨σ,H1,I1,q1⟩) I.quiet hs
def VQ(te:TE):TS:=fun D σ H=>te σ H D.rt
theorem Oo(he:PE X e te):PS X (.Return (some e) pos) (VQ te):=by
 intro ak s σ H D I h
 exact wpAny_Return_some (jQ (he ak s σ H _ I h) fun v s1 kt1 ⟨x,H1,I1,r1,q1⟩=>⟨x,σ,H1,I1,r1,q1⟩)
def VR(c:TT)(t u:TS):TS:=fun D σ H=>c σ H fun b H1=>if b=true then t D σ H1 else u D σ H1
theorem R3{c:Expr}{a b:List Stmt}{tc:TT}(hc:PT X c tc)(ha:EE X a t)(hb:EE X b u):PS X (.If c a b pos) (VR tc t u):=by
 intro ak s σ H D I h
 refine wpAny_If (jQ (hc ak s σ H _ I h) fun d s1 kt1 zq=>?_)
 obtain⟨H1,I1,q1⟩:=zq
 cases d with
 |true=>exact ha ak s1 σ H1 D I1 q1
 |false=>exact hb ak s1 σ H1 D I1 q1
end
abbrev TG:=V->St->Hp->(St->Hp->Prop)->Prop
abbrev Km:=List V->St->Hp->(St->Hp->Prop)->Prop
def PG(X:Cx)(Rt:Expr)(t:TG):Prop:=
 ∀(ak:List (Addr×Obj)) (s:Shared) (σ:St) (H:Hp) (v:V) (u:Value) (Q:St->Hp->Prop),bG X ak σ H s->dh s.toks v u->t v σ H Q ->
  wpAny #[5] X.A (assign Rt X.env u) (fun _ s'=>∃σ' H',bG X ak σ' H' s'/\Q σ' H') X.xe s
def Ma(X:Cx)(ts:List Expr)(t:Km):Prop:=
 ∀(ak:List (Addr×Obj)) (s:Shared) (σ:St) (H:Hp) (vs:List V) (us:List Value) (Q:St->Hp->Prop),bG X ak σ H s->cu s.toks vs us->t vs σ H Q ->
  wpAny #[5] X.A (assignInOrder ((assignEach ts X.env).map (·.2)) us) (fun _ s'=>∃σ' H',bG X ak σ' H' s'/\Q σ' H') X.xe s
abbrev Kn:=V->V->V->Hp->(Hp->Prop)->Prop
def F1(X:Cx)(t:Kn):Prop:=
 ∀(ak:List (Addr×Obj)) (s:Shared) (σ:St) (H:Hp) (o i v:V) (ov iv u:Value) (Q:Hp->Prop),bG X ak σ H s->dh s.toks o ov->dh s.toks i iv->dh s.toks v u->t o i v H Q ->
  wpAny #[5] X.A (setItem ov iv u) (fun _ s'=>∃H',bG X ak σ H' s'/\Q H') X.xe s
section
def Mb(i:Nat):TG:=fun v σ H Q=>Q (σ.set i (some v)) H
theorem Ko(hN:X.N.Nodup)(hi:X.N[i]?=some x)(hx:J3 X.env.scope x)(hf:X.fn x=true\/X.env.scope.names.lookup x=some .local:=by first|exact .inl rfl|exact .inr rfl|assumption):PG X (.Name x pos) (Mb i):=by
 intro ak s σ H v u Q I r h
 exact wpAny_assign_Name (vp I hN hi hx r (fun s' I'=>⟨_,H,I',h⟩) hf)
def VS:Km:=fun vs σ H Q=>vs=[]/\Q σ H
def R4(t:TG)(u:Km):Km:=fun vs σ H Q=>∃v r,vs=v::r/\t v σ H fun σ' H'=>u r σ' H' Q
theorem Kp:Ma X [] VS:=by
 intro ak s σ H vs us Q I r h
 obtain⟨e,h⟩:=h
 subst e
 cases r
 exact assignInOrder_nil ⟨σ,H,I,h⟩
theorem F2{t:TG}{u:Km}(h1:PG X e t)(h2:Ma X es u)
  (hs:(assignEach (e::es) X.env).map (·.2)=assign e X.env::(assignEach es X.env).map (·.2):=by rfl):Ma X (e::es) (R4 t u):=by
 intro ak s σ H vs us Q I r h
 obtain⟨v,vr,e1,h⟩:=h
 subst e1
 cases r with
 |cons r rr=>
  rw[hs]
  refine assignInOrder_cons (jQ (h1 ak s σ H _ _ _ I r h) fun _ s1 kt1 zq=>?_)
  obtain⟨σ1,H1,I1,q1⟩:=zq
  exact h2 ak s1 σ1 H1 _ _ Q I1 (cu.up kt1 rr) q1
def VT(K:Frag)(n:Nat)(t:Km):TG:=fun v σ H Q=>∃a xs,v=.ref a/\fU K H a xs/\xs.length=n/\t xs σ H Q
theorem Op{k:Nat}{t:Km}(hc:X.calm=true)(h:Ma X es t)
  (hn:(assignEach es X.env).length=n:=by rfl) (n_:(assignEach es X.env).findIdx? (·.1)=none:=by rfl):PG X (.Tuple es k pos) (VT X.K n t):=by
 intro ak s σ H v u Q I r hw
 obtain⟨a,xs,e1,hq,hl,hw⟩:=hw
 subst e1
 cases r
 obtain⟨bP,rv,ht,hz⟩:=I.tuple hq
 refine assign_Tuple_tuple (I.ok.hd hc) ht (by simp[hn,<- hl,rv.length]) n_ fun h' hx=>?_
 have I1:bG X ak σ H { s with heap:=h' }:=I.kept (t':=s.toks) fun b o e=>hx b o (aW (aB e)) e
 exact h ak _ σ H xs _ Q I1 (by simpa using rv) hw
def VU(to ti:TE)(t:Kn):TG:=fun v σ H Q=>to σ H fun o H1=>ti σ H1 fun i H2=>t o i v H2 fun H3=>Q σ H3
theorem Oq{i:Expr}{to ti:TE}{t:Kn}(ho:PE X o to)(hi:PE X i ti)(hs:F1 X t)
  (ha:∀v,assign (.Subscript o i pos) X.env v=(do
   let ov <- holding [v] (eval o X.env)
   let iv <- holding [v,ov] (eval i X.env)
   standAt pos
   holding [v,ov,iv] (setItem ov iv v)
   release [v,ov,iv] []):=by intro _;rfl):PG X (.Subscript o i pos) (VU to ti t):=by
 intro ak s σ H v u Q I r h
 rw[ha]
 refine ae (c_ (jQ (ho ak s σ H _ I h) fun ov s1 kt1 zq=>?_))
 obtain⟨x,H1,I1,r1,q1⟩:=zq
 refine ae (c_ (jQ (hi ak s1 σ H1 _ I1 q1) fun iv s2 kt2 zq=>?_))
 obtain⟨y,H2,I2,r2,q2⟩:=zq
 refine ae (qU (ae (c_ (jQ (hs ak s2 σ H2 x y v ov iv u _ I2 (r1.up kt2) r2 (r.up (aI kt1 kt2)) q2) fun _ s3 kt3 zq=>?_))))
 obtain⟨H3,I3,q3⟩:=zq
 exact wpAny_release ⟨σ,H3,I3,q3⟩
def F3(te:TE)(g:TG):TS:=fun D σ H=>te σ H fun x H1=>g x σ H1 D.nx
theorem F4{g:TG}(he:PE X e te)(hg:PG X tg g)(hs:swapsWithSole [tg] e pos.line X.env=pure false:=by rfl)(hw:swappedStores [tg] e X.env=pure none:=by rfl)
  (h1:(assignEach [tg] X.env).map (·.2)=[assign tg X.env]:=by rfl):PS X (.Assign [tg] e pos) (F3 te g):=by
 intro ak s σ H D I h
 refine wpAny_Assign_stores (jQ (he ak s σ H _ I h) fun v s1 kt1 ⟨x,H1,I1,r1,q1⟩=>?_) hs hw
 rw[h1]
 exact BQ (hg ak s1 σ H1 x v _ I1 r1 q1) fun _ s2 q=>q
theorem Os(hN:X.N.Nodup)(hi:X.N[i]?=some x)(hx:J3 X.env.scope x)(he:PE X e te)(hs:swapsWith e (some (.Name x iI)) pos.line X.env=pure false:=by rfl)(hf:X.fn x=true\/X.env.scope.names.lookup x=some .local:=by first|exact .inl rfl|exact .inr rfl|assumption) :
  PS X (.Assign [.Name x iI] e pos) (F3 te (Mb i)):=by
 intro ak s σ H D I h
 refine wpAny_Assign_Name (jQ (he ak s σ H _ I h) fun v s1 kt1 ⟨y,H1,I1,r1,q1⟩=>?_) hs
 exact vp I1 hN hi hx r1 (fun s2 I2=>⟨_,H1,I2,q1⟩) hf
end
section
def F5(c:TT)(tb:TS):TS:=fun D σ H=>∃W:Nat->St->Hp->Prop,(∃m,W m σ H)/\∀m σ H,W m σ H ->
 c σ H fun b H1=>if b=true then ∃N:St->Hp->Prop,(∀σ' H',N σ' H'->∃m',m'<m/\W m' σ' H')/\tb { D with nx:=N,ct:=N,bk:=D.nx } σ H1 else D.nx σ H1
theorem F6{c:Expr}{body:List Stmt}{tc:TT}{tb:TS}(hp:PassesOwn #[5] X.A X.env X.xe)(hc:PT X c tc)(hb:EE X body tb):PS X (.While c body [] pos) (F5 tc tb):=by
 intro ak s σ H D I h
 obtain⟨W,⟨m0,w0⟩,turn⟩:=h
 refine wpAny_While (codeAny_whileLoop (fun n s'=>∃σ' H',bG X ak σ' H' s'/\W n σ' H') ?_ m0 ⟨σ,H,I,w0⟩)
 rintro n s1 ⟨σ1,H1,I1,w1⟩
 refine fG hp (jQ (hc ak s1 σ1 H1 _ I1 (turn n σ1 H1 w1)) fun b s2 kt2 zq=>?_)
 obtain⟨H2,I2,q2⟩:=zq
 cases b with
 |true=>
  obtain⟨N,hN,q2⟩:=q2
  rw[aD rfl]
  refine fG hp (BQ (hb ak s2 σ1 H2 _ I2 q2) fun f s3 q3=>?_)
  cases f with
  |next=>
   obtain⟨σ3,H3,I3,n3⟩:=q3
   obtain⟨m',hm,w3⟩:=hN σ3 H3 n3
   exact⟨m',hm,σ3,H3,I3,w3⟩
  |cont=>
   obtain⟨σ3,H3,I3,n3⟩:=q3
   obtain⟨m',hm,w3⟩:=hN σ3 H3 n3
   exact⟨m',hm,σ3,H3,I3,w3⟩
  |brk=>exact q3
  |ret v=>exact q3
 |false=>
  rw[aQ et]
  exact i_ ⟨σ1,H2,I2,q2⟩
end
structure It where
 go:Nat->Hp->Prop
 yld:Nat->Hp->V->Hp->Prop
 stop:Nat->Hp->Prop
def tq(X:Cx)(ak:List (Addr×Obj))(H:Hp)(b:Addr):Prop:=
 H b=none/\b≠X.env.locals/\b∉X.fs/\(b∈X.ex\/X.s₀.heap.objs.size<=b)/\(∀x c,X.env.cells.lookup x=some c->c≠b)/\∀p∈X.pn++ak,p.1≠b
theorem bG.fpOk{b:Addr}(I:bG X ak σ H s)(hb:s.heap.objs.size<=b)(hn:H' b=none):tq X ak H' b:=by
 refine⟨hn,dS (aF I.lt hb),I.nofs hb,.inr (aI I.sz hb),fun x c e z=>?_,fun p hp z=>?_⟩
 ·obtain⟨v,q⟩:=I.cell x c e
  exact absurd (aF q.lt (by rw[z];exact hb)) (dC _)
 ·exact absurd (aF (aB (I.pin p hp).1) (by rw[z];exact hb)) (dC _)
structure BR(P:Program)(w:World)(K:Frag)(tg:Expr)(J:It)(fp:List Addr)(it:Addr)(tn:Nat->Heap->Prop):Prop where
 mem:it∈fp
 obj:∀i h,tn i h->∀b∈fp,∃o,h.get? b=some o/\∀v,o.data≠.cell v
 keep:∀i h h',tn i h->(∀b∈fp,∀o,h.get? b=some o->h'.get? b=some o)->tn i h'
 item:∀(X:Cx),X.prog=P->X.w=w->X.K=K->X.calm=true->∀(i:Nat) (ak:List (Addr×Obj)) (s:Shared) (σ:St) (H:Hp) (E:Value->Shared->Prop),bG X ak σ H s->(∀b∈fp,tq X ak H b)->tn i s.heap->J.go i H ->
  wpAny (model P w) X.A (pyNext (.ref it)) (fun r s1=>∃u,r=some u /\
   wpAny (model P w) X.A (letOwnedTupleGo tg (.ref it) u) (fun _ s2=>∃x H',bG X ak σ H' s2/\dh s2.toks x u/\J.yld i H x H'/\tn (i+1) s2.heap/\∀b∈fp,H' b=none) E s1) E s
 done:∀(X:Cx),X.prog=P->X.w=w->X.K=K->X.calm=true->∀(i:Nat) (ak:List (Addr×Obj)) (s:Shared) (σ:St) (H:Hp) (E:Value->Shared->Prop),bG X ak σ H s->(∀b∈fp,tq X ak H b)->tn i s.heap->J.stop i H ->
  wpAny (model P w) X.A (pyNext (.ref it)) (fun r s1=>r=none/\bG X ak σ H s1) E s
 self:∀(A:Around) (i:Nat) (s:Shared) (Q:Value->Shared->Prop) (E:Value->Shared->Prop),tn i s.heap->Q (.ref it) s->wpAny (model P w) A (pyIter (.ref it)) Q E s
abbrev TI:=St->Hp->(It->Hp->Prop)->Prop
def WM(X:Cx)(ak:List (Addr×Obj))(σ:St)(tg:Expr)(R:It->Hp->Prop)(Wx:Value)(s2:Shared):Prop:=
 ∃(it:Addr) (fp:List Addr) (tn:Nat->Heap->Prop) (J:It) (H':Hp),Wx=.ref it/\bG X ak σ H' s2/\BR X.prog X.w X.K tg J fp it tn/\tn 0 s2.heap/\(∀b∈fp,tq X ak H' b)/\R J H'
def PI(X:Cx)(tg dA:Expr)(wi:TI):Prop:=
 ∀(ak:List (Addr×Obj)) (s:Shared) (σ:St) (H:Hp) (R:It->Hp->Prop),bG X ak σ H s->wi σ H R ->
  wpAny #[5] X.A (eval dA X.env) (fun v s1=>wpAny #[5] X.A (pyIter v) (WM X ak σ tg R) X.xe s1) X.xe s
theorem DA      {E:Value -> Shared -> Prop} {s:Shared}    {o:Obj} {n:String} {vs:Array Value} {Q:Unit -> Shared -> Prop} (ho : s.heap.get? it = some o) (hc : o.cls = .type n) (hd : o.data = .fields vs)
    (hn : ["enumerate", "zip", "dict_itemiterator", "dict_reverseitemiterator", "odict_iterator", "itertools.zip_longest", "itertools.pairwise"].contains n = false) (hQ : Q () s) : wpAny M A (letOwnedTupleGo tg (.ref it) u) Q E s := by
  unfold letOwnedTupleGo
  cases tg <;> first
    | exact au         hQ
    | (cases u <;> first
        | exact au         hQ
        | (refine ae         (wpAny_load ho ?_)
           rw [hc, hd]
           show wpAny M A (if (["enumerate", "zip", "dict_itemiterator", "dict_reverseitemiterator", "odict_iterator", "itertools.zip_longest", "itertools.pairwise"].contains n && vs[0]? == some (rawInt _)) = true then _ else _) Q E s
           rw [aQ     (by intro h; rw [hn, Bool.false_and] at h; cases h)]
           exact au         hQ))
noncomputable def WN(K:Frag)(a:Addr):It:=
 ⟨fun i H=>∃xs x,tm K H a xs/\xs[i]?=some x,fun i H x H'=>H'=H/\∀xs,tm K H a xs->xs[i]?=some x,fun i H=>∃xs,tm K H a xs/\xs.length<=i⟩
noncomputable def WO(K:Frag)(a:Addr):It:=
 ⟨fun i H=>∃xs x,fU K H a xs/\xs[i]?=some x,fun i H x H'=>H'=H/\∀xs,fU K H a xs->xs[i]?=some x,fun i H=>∃xs,fU K H a xs/\xs.length<=i⟩
noncomputable def Vi(lo:Int)(n:Nat):It:=⟨fun i _=>i<n,fun i H x H'=>H'=H/\x=.int (lo+i),fun i _=>n<=i⟩
theorem EF{w:World}(a it:Addr):BR P w K tg (WN K a) [it] it (fun i h=>h.IsListIter it a i) where
 mem:=by simp
 obj:=fun i h st b hb=>by
  have e:b=it:=by simpa using hb
  subst e
  obtain⟨o,e,c,d⟩:=st
  exact⟨o,e,fun v z=>by rw[d]at z;cases z⟩
 keep:=fun i h h' st k=>st.at fun o e=>k it #[15] o e
 item:=by
  intro X hP hw hK hc i ak s σ H E I hf st hg
  subst hP hw hK
  obtain⟨xs,x,hq,hx⟩:=hg
  obtain⟨bP,rv,p,hz⟩:=I.list hq
  obtain⟨u,hu,ru⟩:=rv.get hx
  obtain⟨f0,f1,f2,f3,f4,f5⟩:=hf it #[15]
  refine wpAny_pyNext_list_item st p.isList (x:=u) (by simpa using hu) fun h' be sb=>?_
  have I1:bG X ak σ H { s with heap:=h' }:=I.turned (t':=s.toks) (fun b o hb e=>(sb.2 b hb).trans e) f0 f1 f3 f4 f5
  obtain⟨o,e,c,d⟩:=id be
  exact⟨u,rfl,DA (s:={ s with heap:=h' }) e c d #[3] ⟨x,H,I1,ru,⟨rfl,fun ys hy=>by rw[I.list_inj hy hq];exact hx⟩,be,fun b hb=>(hf b hb).1⟩⟩
 done:=by
  intro X hP hw hK hc i ak s σ H E I hf st hg
  subst hP hw hK
  obtain⟨xs,hq,hx⟩:=hg
  obtain⟨bP,rv,p,hz⟩:=I.list hq
  obtain⟨f0,f1,f2,f3,f4,f5⟩:=hf it #[15]
  have hl:=rv.length
  exact wpAny_pyNext_list_end (I.ok.hd hc) st p.isList (by simp;omega) fun h' eb=>⟨rfl,I.turned (t':=s.toks) (fun b o hb e=>eb b o hb e) f0 f1 f3 f4 f5⟩
 self:=fun _ _ _ _ _ st h=>wpAny_pyIter_listiter st h
theorem BS{w:World}(a it:Addr):BR P w K tg (WO K a) [it] it (fun i h=>h.IsTupleIter it a i) where
 mem:=by simp
 obj:=fun i h st b hb=>by
  have e:b=it:=by simpa using hb
  subst e
  obtain⟨o,e,c,d⟩:=st
  exact⟨o,e,fun v z=>by rw[d]at z;cases z⟩
 keep:=fun i h h' st k=>st.at fun o e=>k it #[15] o e
 item:=by
  intro X hP hw hK hc i ak s σ H E I hf st hg
  subst hP hw hK
  obtain⟨xs,x,hq,hx⟩:=hg
  obtain⟨bP,rv,p,hz⟩:=I.tuple hq
  obtain⟨u,hu,ru⟩:=rv.get hx
  obtain⟨f0,f1,f2,f3,f4,f5⟩:=hf it #[15]
  refine wpAny_pyNext_tuple_item st (show s.heap.IsTuple a bP.toArray from p) (x:=u) (by simpa using hu) fun h' be sb=>?_
  have I1:bG X ak σ H { s with heap:=h' }:=I.turned (t':=s.toks) (fun b o hb e=>(sb.2 b hb).trans e) f0 f1 f3 f4 f5
  obtain⟨o,e,c,d⟩:=id be
  exact⟨u,rfl,DA (s:={ s with heap:=h' }) e c d #[3] ⟨x,H,I1,ru,⟨rfl,fun ys hy=>by rw[I.tuple_inj hy hq];exact hx⟩,be,fun b hb=>(hf b hb).1⟩⟩
 done:=by
  intro X hP hw hK hc i ak s σ H E I hf st hg
  subst hP hw hK
  obtain⟨xs,hq,hx⟩:=hg
  obtain⟨bP,rv,p,hz⟩:=I.tuple hq
  obtain⟨f0,f1,f2,f3,f4,f5⟩:=hf it #[15]
  have hl:=rv.length
  exact wpAny_pyNext_tuple_end (I.ok.hd hc) st (show s.heap.IsTuple a bP.toArray from p) (by simp;omega) fun h' eb=>⟨rfl,I.turned (t':=s.toks) (fun b o hb e=>eb b o hb e) f0 f1 f3 f4 f5⟩
 self:=fun _ _ _ _ _ st h=>wpAny_pyIter_tupleiter st h
theorem BT{w:World}(it:Addr)(lo:Int)(n:Nat):BR P w K tg (Vi lo n) [it] it (fun i h=>IsRangeIter h it (lo+(i:Nat)*1) ((n:Int)-(i:Nat)) 1) where
 mem:=by simp
 obj:=fun i h st b hb=>by
  have e:b=it:=by simpa using hb
  subst e
  exact⟨_,st,fun v z=>by
   have z':Data.fields _=Data.cell v:=z
   cases z'⟩
 keep:=fun i h h' st k=>k it #[15] _ st
 item:=by
  intro X hP hw hK hc i ak s σ H E I hf st hg
  subst hP hw hK
  obtain⟨f0,f1,f2,f3,f4,f5⟩:=hf it #[15]
  have W:=Walks.range (prog:=X.prog) (w:=X.w) (I.ok.hd hc) it lo 1 n
  refine up (W.item i s _ _ hg st fun v h' tk hv be kk hk=>?_)
  obtain⟨t,rfl⟩:=hv
  have I1:bG X ak σ H { s with heap:=h',toks:=tk }:=I.turned (fun b o hb e=>kk b o (by simpa using hb) e) f0 f1 f3 f4 f5
  refine⟨_,rfl,DA (s:={ s with heap:=h',toks:=tk }) (n:="range_iterator") be rfl rfl #[3] ⟨.int (lo+i),H,I1,⟨t,?_⟩,⟨rfl,rfl⟩,be,fun b hb=>(hf b hb).1⟩⟩
  rw[Int.mul_one]
 done:=by
  intro X hP hw hK hc i ak s σ H E I hf st hg
  subst hP hw hK
  obtain⟨f0,f1,f2,f3,f4,f5⟩:=hf it #[15]
  exact wpAny_pyNext_range_end (I.ok.hd hc) st (by have:n<=i:=hg;omega) fun h' eb=>⟨rfl,I.turned (t':=s.toks) (fun b o hb e=>eb b o hb e) f0 f1 f3 f4 f5⟩
 self:=fun _ _ _ _ _ st h=>wpAny_pyIter_rangeiter st h
end L2
namespace L2
open PySem PySem.Spec PyProof.Rows
section
def R5(K:Frag)(tl:TE):TI:=fun σ H R=>tl σ H fun x H1=>∃a,x=.ref a/\(∃xs,tm K H1 a xs)/\R (WN K a) H1
def VV(K:Frag)(tl:TE):TI:=fun σ H R=>tl σ H fun x H1=>∃a,x=.ref a/\(∃xs,fU K H1 a xs)/\R (WO K a) H1
theorem Kq{l:Expr}{tl:TE}(hl:PE X l tl):PI X tg l (R5 X.K tl):=by
 intro ak s σ H R I h
 refine jQ (hl ak s σ H _ I h) fun v s1 kt1 zq=>?_
 obtain⟨x,H1,I1,r1,q1⟩:=zq
 obtain⟨a,e,⟨xs,hq⟩,q⟩:=q1
 subst e
 cases r1
 obtain⟨bP,rv,p,hz⟩:=I1.list hq
 refine wpAny_pyIter_list p.isList ?_
 refine⟨s1.heap.objs.size,[s1.heap.objs.size],_,_,H1,rfl,I1.kept (t':=s1.toks) fun b o e=>aq _ e,EF a _,⟨_,ay _ rfl,rfl,rfl⟩,fun b hb=>?_,q⟩
 have e:b=s1.heap.objs.size:=by simpa using hb
 subst e
 exact I1.fpOk (ax _) (I1.hok.fresh (ax _))
theorem Ot{l:Expr}{tl:TE}(hl:PE X l tl):PI X tg l (VV X.K tl):=by
 intro ak s σ H R I h
 refine jQ (hl ak s σ H _ I h) fun v s1 kt1 zq=>?_
 obtain⟨x,H1,I1,r1,q1⟩:=zq
 obtain⟨a,e,⟨xs,hq⟩,q⟩:=q1
 subst e
 cases r1
 obtain⟨bP,rv,p,hz⟩:=I1.tuple hq
 refine fw (show s1.heap.IsTuple a bP.toArray from p) ?_
 refine⟨s1.heap.objs.size,[s1.heap.objs.size],_,_,H1,rfl,I1.kept (t':=s1.toks) fun b o e=>aq _ e,BS a _,⟨_,ay _ rfl,rfl,rfl⟩,fun b hb=>?_,q⟩
 have e:b=s1.heap.objs.size:=by simpa using hb
 subst e
 exact I1.fpOk (ax _) (I1.hok.fresh (ax _))
theorem F7{R:It->Hp->Prop}{lo hi:Int}{t u v:Tok}{tk:Nat}(I:bG X ak σ H s)(hk:s.toks<=tk)(h1:-(2^62)<=lo)(h2:lo<2^62)(h3:-(2^62)<=hi)(h4:hi<2^62)
  (q:R (Vi lo (hi-lo).toNat) H):wpAny #[5] X.A (pyIter (.ref s.heap.objs.size)) (WM X ak σ tg R) E { s with heap:=s.heap.push { cls:=.type "range",data:=.fields #[.int lo t,.int hi u,.int 1 v] },toks:=tk }:=by
 refine wpAny_pyIter_range (IsRange.new ..) (small_one h1 h2 h3 h4) ?_
 have I1:bG X ak σ H { s with heap:=s.heap.push { cls:=.type "range",data:=.fields #[.int lo t,.int hi u,.int 1 v] },toks:=tk }:=I.kept fun b o e=>aq _ e
 refine⟨(s.heap.push { cls:=.type "range",data:=.fields #[.int lo t,.int hi u,.int 1 v] }).objs.size,[(s.heap.push { cls:=.type "range",data:=.fields #[.int lo t,.int hi u,.int 1 v] }).objs.size],_,_,H,rfl,
  I1.kept (t':=tk) fun b o e=>aq _ e,BT _ lo (hi-lo).toNat,?_,fun b hb=>?_,q⟩
 ·have e1:lo+((0:Nat):Int)*1=lo:=by simp
  have e2:(((hi-lo).toNat:Nat):Int)-((0:Nat):Int)=Builtin.Range.rangeSize lo hi 1:=by rw[rangeSize_one];split<;>omega
  show IsRangeIter _ _ (lo+((0:Nat):Int)*1) ((((hi-lo).toNat:Nat):Int)-((0:Nat):Int)) 1
  rw[e1,e2]
  exact ay _ rfl
 ·have e:b=(s.heap.push { cls:=.type "range",data:=.fields #[.int lo t,.int hi u,.int 1 v] }).objs.size:=by simpa using hb
  subst e
  exact I1.fpOk (ax _) (I1.hok.fresh (ax _))
def R6(ta:TA):TI:=fun σ H R=>ta σ H fun vs H1=>∃j:Int,vs=[.int j]/\-(2^62)<=j/\j<2^62/\R (Vi 0 j.toNat) H1
theorem EG{a:Expr}{ta:TA}{p pos:Pos}(hg:Gl X "range")(hm:X.mg "range"=none)(ha:PA X [a] ta)(hs:starEach [a] X.env=[(false,eval a X.env)]:=by rfl):PI X tg (.Call (.Name "range" p) [a] [] pos) (R6 ta):=by
 intro ak s σ H R I h
 refine Call_ (pE I hg hm boot_range (dL (jQ (ha pos ak s σ H _ I h) fun us s1 kt1 ⟨vs,H1,I1,r1,q1⟩=>?_) hs rfl))
 obtain⟨j,e,q1,q2,q⟩:=q1
 subst e
 cases r1 with
 |cons r rr=>
  cases rr
  obtain⟨t,rfl⟩:=r
  exact call_range_1 (F7 I1 (by first|exact ax _|exact bj _|assumption|omega) #[0] #[0] q1 q2 (by simpa using q))
def VW(wi:TI)(g:TG)(tb:TS):TS:=fun D σ H=>wi σ H fun J H1=>∃W:Nat->Nat->St->Hp->Prop,(∃m,W 0 m σ H1)/\∀i m σ H,W i m σ H ->
 (J.stop i H/\D.nx σ H)\/(J.go i H/\∃N:St->Hp->Prop,(∀σ' H',N σ' H'->∃m',m'<m/\W (i+1) m' σ' H')/\∀x H',J.yld i H x H'->g x σ H' fun σ2 H2=>tb { D with nx:=N,ct:=N,bk:=D.nx } σ2 H2)
noncomputable def yH(fp:List Addr)(h:Heap):List (Addr×Obj):=fp.filterMap fun b=>(h.get? b).map fun o=>(b,o)
theorem jV{b:Addr}{o:Obj}(hb:b∈fp)(e:h.get? b=some o):(b,o)∈yH fp h:=lX.mpr ⟨b,hb,by rw[e];rfl⟩
theorem EH{p:Addr×Obj}(hp:p∈yH fp h):p.1∈fp/\h.get? p.1=some p.2:=by
 obtain⟨b,hb,e⟩:=lX.mp hp
 cases q:h.get? b with
 |none=>rw[q]at e;cases e
 |some o=>
  rw[q]at e
  have e':(b,o)=p:=bq e
  subst e'
  exact⟨hb,q⟩
theorem bG.pinned(I:bG X ak σ H s)(hf:∀b∈fp,tq X ak H b)(ho:∀b∈fp,∃o,s.heap.get? b=some o/\∀v,o.data≠.cell v):bG X (ak++yH fp s.heap) σ H s:=
 I.pins_of fun p hp=>(aP.mp hp).elim (fun z=>I.pin p (aM _ z)) fun z=>by
  obtain⟨hb,e⟩:=EH z
  obtain⟨f0,f1,f2,_⟩:=hf p.1 hb
  obtain⟨o,e',d⟩:=ho p.1 hb
  rw[e]at e';cases e'
  exact⟨e,f0,f1,f2,d⟩
theorem bG.unpinned{pl:List (Addr×Obj)}(I:bG X (ak++pl) σ H s):bG X ak σ H s:=I.pins_of fun p hp=>I.pin p (aM _ (bz _ hp))
theorem Ou{body:List Stmt}{wi:TI}{g:TG}{tb:TS}{pos:Pos}(hp:PassesOwn #[5] X.A X.env X.xe)(hc:X.calm=true)(hi:PI X tg dA wi)(hg:PG X tg g)(hb:EE X body tb)
  (hs:∀x,foldedSetIterable dA X.env x=pure x:=by intro _;rfl):PS X (.For tg dA body [] pos) (VW wi g tb):=by
 intro ak s σ H D I h
 refine wpAny_For (BQ (hi ak s σ H _ I h) fun v s1 h1=>BQ h1 fun Wx s2 h2=>?_) hs
 obtain⟨it,fp,tn,J,H2,e,I2,T,cW,f2,W,⟨m0,w0⟩,turn⟩:=h2
 subst e
 have stat:∀{H':Hp},(∀b∈fp,H' b=none)->∀b∈fp,tq X ak H' b:=fun hn b hb=>⟨hn b hb,(f2 b hb).2⟩
 refine codeAny_forLoop_any (fun n s'=>∃i σ' H',bG X ak σ' H' s'/\tn i s'.heap/\(∀b∈fp,H' b=none)/\W i n σ' H') ?_ m0 ⟨0,σ,H2,I2,cW,fun b hb=>(f2 b hb).1,w0⟩
 rintro n s3 ⟨i,σ3,H3,I3,mF,fr3,w3⟩
 rcases turn i n σ3 H3 w3 with⟨stop,qn⟩|⟨go,N,hN,step⟩
 ·refine fG hp (jQ (T.done X rfl rfl rfl hc i ak s3 σ3 H3 X.xe I3 (stat fr3) mF stop) fun r s4 kt4 zq=>?_)
  obtain⟨hr,I4⟩:=zq
  subst hr
  exact i_ ⟨σ3,H3,I4,qn⟩
 ·refine fG hp (jQ (T.item X rfl rfl rfl hc i ak s3 σ3 H3 X.xe I3 (stat fr3) mF go) fun r s4 kt4 zq=>?_)
  obtain⟨u,hr,h4⟩:=zq
  subst hr
  refine fG hp (BQ h4 fun _ s5 zq=>?_)
  obtain⟨x,H5,I5,r5,y5,st5,fr5⟩:=zq
  have I5':=I5.pinned (stat fr5) (T.obj _ _ st5)
  refine fG hp (jQ (hg _ s5 σ3 H5 x u _ I5' r5 (step x H5 y5)) fun _ s6 kt6 zq=>?_)
  obtain⟨σ6,H6,I6,q6⟩:=zq
  refine fG hp (BQ (hb _ s6 σ6 H6 _ I6 q6) fun f s7 q7=>?_)
  have again:∀{σ7:St} {H7:Hp},bG X (ak++yH fp s5.heap) σ7 H7 s7->N σ7 H7->∃m,m<n/\∃i σ' H',bG X ak σ' H' s7/\tn i s7.heap/\(∀b∈fp,H' b=none)/\W i m σ' H':=fun{σ7 H7} I7 n7=>by
   obtain⟨m',hm,w7⟩:=hN σ7 H7 n7
   refine⟨m',hm,i+1,σ7,H7,I7.unpinned,T.keep _ _ _ st5 fun b hb o e=>(I7.pin (b,o) (aM _ (aM _ (jV hb e)))).1,fun b hb=>?_,w7⟩
   obtain⟨o,e,d⟩:=T.obj _ _ st5 b hb
   exact(I7.pin (b,o) (aM _ (aM _ (jV hb e)))).2.1
  cases f with
  |next=>obtain⟨σ7,H7,I7,n7⟩:=q7;exact again I7 n7
  |cont=>obtain⟨σ7,H7,I7,n7⟩:=q7;exact again I7 n7
  |brk=>obtain⟨σ7,H7,I7,q7⟩:=q7;exact⟨σ7,H7,I7.unpinned,q7⟩
  |ret v=>obtain⟨x7,σ7,H7,I7,r7,q7⟩:=q7;exact⟨x7,σ7,H7,I7.unpinned,r7,q7⟩
end
end L2
namespace L2
open PySem PySem.Spec PyProof.Rows
abbrev R2:=V->V->Hp->VK->Prop
def oZ(X:Cx)(f:Value->Value->Sem Value)(r:R2):Prop:=
 ∀(ak:List (Addr×Obj)) (s:Shared) (σ:St) (H:Hp) (x y:V) (v u:Value) (Q:VK),bG X ak σ H s->dh s.toks x v->dh s.toks y u->r x y H Q ->
  wpAny #[5] X.A (f v u) (EP X ak σ Q) X.xe s
def VX(X:Cx)(f:Value->Sem Value)(r:V->Hp->VK->Prop):Prop:=
 ∀(ak:List (Addr×Obj)) (s:Shared) (σ:St) (H:Hp) (x:V) (v:Value) (Q:VK),bG X ak σ H s->dh s.toks x v->r x H Q ->
  wpAny #[5] X.A (f v) (EP X ak σ Q) X.xe s
def iL(X:Cx)(f:Value)(r:List V->Hp->VK->Prop):Prop:=
 ∀(ak:List (Addr×Obj)) (s:Shared) (σ:St) (H:Hp) (xs:List V) (us:List Value) (Q:VK),bG X ak σ H s->cu s.toks xs us->r xs H Q ->
  wpAny #[5] X.A (call f us) (EP X ak σ Q) X.xe s
def R7(r:R2)(ta tb:TE):TE:=fun σ H Q=>ta σ H fun x H1=>tb σ H1 fun y H2=>r x y H2 Q
def Xe(r:V->Hp->VK->Prop)(ta:TE):TE:=fun σ H Q=>ta σ H fun x H1=>r x H1 Q
def rI(C:Int->Int->Prop)(g:Int->Int->V):R2:=fun x y H Q=>∃i j,x=.int i/\y=.int j/\C i j/\Q (g i j) H
def F8(g:Int->Int->V):R2:=fun x y H Q=>∃i j,x=.int i/\y=.int j/\Q (g i j) H
def rU(g:Int->V):V->Hp->VK->Prop:=fun x H Q=>∃i,x=.int i/\Q (g i) H
section
variable{a b c:Expr}{ta tb tc:TE}
theorem Ov(ha:PE X a ta)(hb:PE X b tb){R:V->V->Hp->Prop}(I:bG X ak σ H s)
  (h:ta σ H fun x H1=>tb σ H1 fun y H2=>R x y H2) {Q:Value->Shared->Prop} {f:Value->Value->Sem Value}
  (hf:∀v u s2 x y H2,bG X ak σ H2 s2->dh s2.toks x v->dh s2.toks y u->R x y H2->wpAny #[5] X.A (f v u) Q X.xe s2) :
  wpAny #[5] X.A (eval a X.env) (fun v s₁=>wpAny #[5] X.A (eval b X.env) (fun u s₂=>wpAny #[5] X.A (f v u) Q X.xe s₂) X.xe s₁) X.xe s:=by
 refine jQ (ha ak s σ H _ I h) fun v s1 kt1 zq=>?_
 obtain⟨x,H1,I1,r1,q1⟩:=zq
 refine jQ (hb ak s1 σ H1 _ I1 q1) fun u s2 kt2 zq=>?_
 obtain⟨y,H2,I2,r2,q2⟩:=zq
 exact hf v u s2 x y H2 I2 (r1.up kt2) r2 q2
theorem R8{op:Operator}{r:R2}(ho:oZ X (binaryOp op) r)(ha:PE X a ta)(hb:PE X b tb):PE X (.BinOp a op b pos) (R7 r ta tb):=by
 intro ak s σ H Q I h
 exact wpAny_BinOp (Ov ha hb I h fun v u s2 x y H2 I2 rx ry q=>ho ak s2 σ H2 x y v u Q I2 rx ry q)
theorem R9{op:UnaryOp}{r:V->Hp->VK->Prop}(ho:VX X (unaryOp op) r)(ha:PE X a ta):PE X (.UnaryOp op a pos) (Xe r ta):=by
 intro ak s σ H Q I h
 exact UnaryOp_ (jQ (ha ak s σ H _ I h) fun v s1 kt1 ⟨x,H1,I1,r1,q1⟩=>ho ak s1 σ H1 x v Q I1 r1 q1)
theorem RE{f:Value->Value->Sem Value}{C:Int->Int->Prop}{g:Int->Int->Int}
  (rule:∀(i j:Int) (t u:Tok) (s:Shared) (Q:Value->Shared->Prop) (E:Value->Shared->Prop),C i j->Q (.int (g i j) s.toks) { s with toks:=s.toks+1 }->wpAny #[5] X.A (f (.int i t) (.int j u)) Q E s) :
  oZ X f (rI C fun i j=>.int (g i j)):=by
 intro ak s σ H x y v u Q I rx ry h
 obtain⟨i,j,rfl,rfl,hc,q⟩:=h
 obtain⟨t,rfl⟩:=rx
 obtain⟨t',rfl⟩:=ry
 exact rule i j t t' s _ _ hc ⟨.int (g i j),H,I.tok _,⟨_,rfl⟩,q⟩
theorem Ox{f:Value->Value->Sem Value}{g:Int->Int->Int}
  (rule:∀(i j:Int) (t u:Tok) (s:Shared) (Q:Value->Shared->Prop) (E:Value->Shared->Prop),Q (.int (g i j) s.toks) { s with toks:=s.toks+1 }->wpAny #[5] X.A (f (.int i t) (.int j u)) Q E s) :
  oZ X f (F8 fun i j=>.int (g i j)):=by
 intro ak s σ H x y v u Q I rx ry h
 obtain⟨i,j,rfl,rfl,q⟩:=h
 obtain⟨t,rfl⟩:=rx
 obtain⟨t',rfl⟩:=ry
 exact rule i j t t' s _ _ ⟨.int (g i j),H,I.tok _,⟨_,rfl⟩,q⟩
theorem Kr{f:Value->Value->Sem Value}{g:Int->Int->Bool}
  (rule:∀(i j:Int) (t u:Tok) (s:Shared) (Q:Value->Shared->Prop) (E:Value->Shared->Prop),Q (.bool (g i j)) s->wpAny #[5] X.A (f (.int i t) (.int j u)) Q E s) :
  oZ X f (F8 fun i j=>.bl (g i j)):=by
 intro ak s σ H x y v u Q I rx ry h
 obtain⟨i,j,rfl,rfl,q⟩:=h
 obtain⟨t,rfl⟩:=rx
 obtain⟨t',rfl⟩:=ry
 exact rule i j t t' s _ _ ⟨.bl (g i j),H,I,rfl,q⟩
def VY(i j:Int):Prop:=0<j/\j<1073741824
def Oy(i j:Int):Prop:=0<=j/\j<=1000000/\i.natAbs<2^64
def Oz(i j:Int):Prop:=(-(2^64)<i/\i<2^64)\/(-(2^64)<j/\j<2^64)
theorem Oz.ok{i j:Int}(h:Oz i j):IntMulOk i j:=by
 rcases h with⟨h1,h2⟩|⟨h1,h2⟩
 ·exact .of_left (intBits_le_64 h1 h2)
 ·exact .of_right (intBits_le_64 h1 h2)
theorem BU(k:Nat):(0:Int)<=2^k:=by
 rw[two_pow_cast]
 exact Int.natCast_nonneg _
theorem OA:oZ X (binaryOp .Add) (F8 fun i j=>.int (i+j)):=Ox fun _ _ _ _ _ _ _ q=>add_int q
theorem OB:oZ X (binaryOp .Sub) (F8 fun i j=>.int (i-j)):=Ox fun _ _ _ _ _ _ _ q=>sub_int q
theorem OC:oZ X (binaryOp .Mult) (rI Oz fun i j=>.int (i*j)):=RE fun _ _ _ _ _ _ _ hc q=>mul_int q hc.ok
theorem Ks:oZ X (binaryOp .FloorDiv) (rI VY fun i j=>.int (i/j)):=RE fun i j _ _ _ _ _ hc q=>by
 have h1:(0:Int)<j:=hc.1
 have h2:j<1073741824:=hc.2
 exact floordiv_int #[0] (by rw[lY i #[0]];exact q) (.inl (PyProof.noPylong_small #[0]))
theorem OD:oZ X (binaryOp .Mod) (rI (fun _ j=>0<j) fun i j=>.int (i%j)):=RE fun i j _ _ _ _ _ hc q=>by
 have h1:(0:Int)<j:=hc
 exact mod_int' #[0] (by rw[Int.fmod_eq_emod_of_nonneg i #[0]];exact q)
theorem OE:oZ X (binaryOp .Pow) (rI Oy fun i j=>.int (i^j.toNat)):=RE fun _ _ _ _ _ _ _ hc q=>pow_int_small hc.1 hc.2.1 hc.2.2 q
theorem F9:oZ X (binaryOp .LShift) (rI Oy fun i j=>.int (i*2^j.toNat)):=RE fun _ _ _ _ _ _ _ hc q=>lshift_int_small hc.1 hc.2.1 hc.2.2 q
theorem OF:oZ X (binaryOp .RShift) (rI (fun _ j=>0<=j) fun i j=>.int (i/2^j.toNat)):=RE fun i j _ _ _ _ _ hc q=>
 rshift_int hc (by rw[lY i (BU _)];exact q)
theorem OG:oZ X (binaryOp .BitAnd) (F8 fun i j=>.int (Builtin.bitAnd i j)):=Ox fun _ _ _ _ _ _ _ q=>and_int q
theorem Xf{f:Value->Sem Value}{g:Int->Int}
  (rule:∀(i:Int) (t:Tok) (s:Shared) (Q:Value->Shared->Prop) (E:Value->Shared->Prop),Q (.int (g i) s.toks) { s with toks:=s.toks+1 }->wpAny #[5] X.A (f (.int i t)) Q E s) :
  VX X f (rU fun i=>.int (g i)):=by
 intro ak s σ H x v Q I rx h
 obtain⟨i,rfl,q⟩:=h
 obtain⟨t,rfl⟩:=rx
 exact rule i t s _ _ ⟨.int (g i),H,I.tok _,⟨_,rfl⟩,q⟩
theorem OH:VX X (unaryOp .USub) (rU fun i=>.int (-i)):=Xf fun _ _ _ _ _ q=>neg_int q
end
section
variable{a b c:Expr}{ta tb tc:TE}
theorem OI{Q:VK}{k k':Bool}(I:bG X ak σ H s)(q:Q (.bl k) H)(e:k=k'):EP X ak σ Q (.bool k') s:=by
 subst e
 exact⟨.bl k,H,I,rfl,q⟩
theorem R_:oZ X (compareOp .Lt) (F8 fun i j=>.bl (decide (i<j))):=Kr fun _ _ _ _ _ _ _ q=>lt_int q
theorem R':oZ X (compareOp .LtE) (F8 fun i j=>.bl (decide (i<=j))):=Kr fun _ _ _ _ _ _ _ q=>le_int q
theorem Sa:oZ X (compareOp .Gt) (F8 fun i j=>.bl (decide (j<i))):=Kr fun _ _ _ _ _ _ _ q=>gt_int q
theorem Sb:oZ X (compareOp .GtE) (F8 fun i j=>.bl (decide (j<=i))):=Kr fun _ _ _ _ _ _ _ q=>ge_int q
theorem EI:oZ X (compareOp .In) (fun x y H Q=>∃i j,x=.str i/\y=.str j/\Q (.bl (!(Builtin.Str.occurrences j i 0 j.length 1).isEmpty)) H):=by
 intro ak s σ H x y v u Q I rx ry h
 obtain⟨i,j,rfl,rfl,q⟩:=h
 obtain⟨t,rfl⟩:=rx
 obtain⟨t',rfl⟩:=ry
 exact in_str (OI I q rfl)
theorem F_(b:Expr)(h:op≠.In:=by decide)(h2:op≠.NotIn:=by decide):behindInMarks op b=false:=by
 have e1:(op==CmpOp.In)=false:=by cases op<;>first|rfl|exact absurd rfl h
 have e2:(op==CmpOp.NotIn)=false:=by cases op<;>first|rfl|exact absurd rfl h2
 cases b<;>simp[behindInMarks,e1,e2]
theorem Kt{r:R2}(ho:oZ X (compareOp op) r)(ha:PE X a ta)(hb:PE X b tb)(hm:behindInMarks op b=false):PE X (.Compare a [op] [b] pos) (R7 r ta tb):=by
 intro ak s σ H Q I h
 exact wpAny_Compare1 (Ov ha hb I h fun v u s2 x y H2 I2 rx ry q=>ho ak s2 σ H2 x y v u Q I2 rx ry q) hm
def Sc(t:TE):TT:=fun σ H Q=>t σ H fun x H'=>∃k,x=.bl k/\Q k H'
theorem Ku{r:R2}(ho:oZ X (compareOp op) r)(ha:PE X a ta)(hb:PE X b tb)(hm:behindInMarks op b=false):PT X (.Compare a [op] [b] pos) (Sc (R7 r ta tb)):=by
 intro ak s σ H Q I h
 refine pd (jQ (ha ak s σ H _ I h) fun v s1 kt1 ⟨x,H1,I1,r1,q1⟩=>jQ (hb ak s1 σ H1 _ I1 q1) fun u s2 kt2 ⟨y,H2,I2,r2,q2⟩=>
  jQ (ho ak s2 σ H2 x y v u _ I2 (r1.up kt2) r2 q2) fun c s3 kt3 ⟨z,H3,I3,r3,k,e,q3⟩=>?_) hm
 subst e
 cases r3
 exact ib ⟨H3,I3,q3⟩
theorem tt:(sizeLine:Nat)<2^63:=by rw[kG];decide
theorem bG.addS{Q:VK}{i j:Str}{t:Tk s.toks i}{t':Tk s.toks j}(I:bG X ak σ H s)(q:Q (.str (i++j)) H)(hz:i.length+j.length<=sizeLine) :
  (if i.length==0 then Made.val (.str j t'.1)else if j.length==0 then Made.val (.str i t.1)else Made.str (i++j)).post (EP X ak σ Q) s:=by
 split
 ·rename_i h
  have e:i++j=j:=by
   have h0:i.cps=#[]:=gk (by simpa[Str.length]using h)
   show Str.append i j=j
   cases hj:j;simp[Str.append,h0]
  rw[e]at q
  exact⟨.str j,H,I,⟨t',rfl⟩,q⟩
 ·split
  ·rename_i h
   have e:i++j=i:=by
    have h0:j.cps=#[]:=gk (by simpa[Str.length]using h)
    show Str.append i j=i
    cases hj:i;simp[Str.append,h0]
   rw[e]at q
   exact⟨.str i,H,I,⟨t,rfl⟩,q⟩
  ·exact⟨by rw[strLen_append];exact hz,⟨.str (i++j),H,I.tok _,I.tkS,q⟩⟩
theorem BV:oZ X (binaryOp .Add) (fun x y H Q=>∃i j,x=.str i/\y=.str j/\i.length+j.length<=sizeLine/\Q (.str (i++j)) H):=by
 intro ak s σ H x y v u Q I rx ry h
 obtain⟨i,j,rfl,rfl,hz,q⟩:=h
 obtain⟨t,rfl⟩:=rx
 obtain⟨t',rfl⟩:=ry
 exact PySem.P.add_str (I.addS q hz)
theorem pF{x:V}(r:cu nk [x] us):∃u,us=[u]/\dh nk x u:=by
 cases r with
 |cons r1 r2=>cases r2;exact⟨_,rfl,r1⟩
theorem Md{x y:V}(r:cu nk [x,y] us):∃u w',us=[u,w']/\dh nk x u/\dh nk y w':=by
 cases r with
 |cons r1 r2=>
  cases r2 with
  |cons r3 r4=>cases r4;exact⟨_,_,rfl,r1,r3⟩
theorem EJ(hc:X.calm=true):iL X (.builtin "max") (fun xs H Q=>∃i j,xs=[.int i,.int j]/\Q (.int (if j>i then j else i)) H):=by
 intro ak s σ H xs us Q I r h
 obtain⟨i,j,rfl,q⟩:=h
 obtain⟨u,w',rfl,⟨t,rfl⟩,⟨t',rfl⟩⟩:=Md r
 refine up (max_two_ints (I.ok.hd hc) fun h' tk k hk=>⟨_,H,I.kept k,?_,q⟩)
 by_cases hj:j>i
 ·rw[aD hj,aD hj];exact⟨_,rfl⟩
 ·rw[aQ hj,aQ hj];exact⟨_,rfl⟩
theorem EK(hc:X.calm=true):iL X (.builtin "min") (fun xs H Q=>∃i j,xs=[.int i,.int j]/\Q (.int (if j<i then j else i)) H):=by
 intro ak s σ H xs us Q I r h
 obtain⟨i,j,rfl,q⟩:=h
 obtain⟨u,w',rfl,⟨t,rfl⟩,⟨t',rfl⟩⟩:=Md r
 refine up (min_two_ints (I.ok.hd hc) fun h' tk k hk=>⟨_,H,I.kept k,?_,q⟩)
 by_cases hj:j<i
 ·rw[aD hj,aD hj];exact⟨_,rfl⟩
 ·rw[aQ hj,aQ hj];exact⟨_,rfl⟩
theorem xH:iL X (.type "int") (fun xs H Q=>(∃i,xs=[.int i]/\Q (.int i) H)\/∃k,xs=[.bl k]/\Q (.int (if k then 1 else 0)) H):=by
 intro ak s σ H xs us Q I r h
 rcases h with⟨i,rfl,q⟩|⟨k,rfl,q⟩
 ·obtain⟨u,rfl,t,rfl⟩:=pF r
  exact call_int_int ⟨.int i,H,I,⟨_,rfl⟩,q⟩
 ·obtain⟨u,rfl,r1⟩:=pF r
  cases r1
  exact call_int_bool ⟨.int (if k then 1 else 0),H,I.tok _,⟨_,rfl⟩,q⟩
end
end L2
namespace L2
open PySem PySem.Spec PyProof.Rows
structure BW(h:Heap)(x dx C:Addr)(mA:Str->Option Value):Prop where
 obj:h.get? x=some (instObj C dx)
 ns:h.Ns1 dx mA
 ne:dx≠x
theorem EL{dx:Addr}(n:h.Ns1 dx mA):∃od,h.get? dx=some od/\∀name,lookIn name od=some (mA name):=by
 obtain⟨o,es,ep,ho,hd,hk,_,hm⟩:=n
 refine⟨o,ho,fun name=>?_⟩
 have e:=hm name
 unfold nsFind findBy at e
 rw[<- Array.find?_toList]at e
 unfold lookIn
 rw[hd]
 dsimp only
 split
 ·rename_i y q
  rw[q]at e
  exact gT some e
 ·rename_i q
  rw[q]at e
  have a:es.toList.any (·.refKey)=false:=by
   rw[mG]
   intro y hy
   obtain⟨z,t,hkey⟩:=hk y (Array.mem_toList_iff.mp hy)
   simp[DictEntry.refKey,hkey]
  have a':¬ es.toList.any (·.refKey)=true:=by rw[a];exact et
  rw[aQ a']
  exact gT some e
theorem BW.look{x dx:Addr}(I:BW h x dx C mA):∃od,PySem.W.InstAt h x (instObj C dx) C (some od)/\∀name,lookIn name od=some (mA name):=
 let ⟨od,ho,hl⟩:=EL I.ns
 ⟨od,⟨I.obj,rfl,rfl,ho⟩,hl⟩
section
variable{w:World}{x dx f:Addr}
theorem Kv{WK:Bool}(X:K.In s.heap)(I:BW s.heap x dx C mA)(hg:plainGet K C name=true)(hh:PySem.W.hasDictIn K C=true)
  (ha:findIn K (.ref C) name=some none) (hv:mA name=some v) (Vz:PySem.W.handedIn v=true) (h:Q v { s with toks:=s.toks+1 }) :
  wpAny #[7] A (getAttr (.ref x) name WK) Q E s:=by
 obtain⟨od,J,hl⟩:=I.look
 exact PySem.W.get_value X J (PySem.W.plainGet_of hg).1 (PySem.W.findObj_own hh ha rfl (by rw[hl,hv])) Vz h
theorem F'{Q:Value×List Value->Shared->Prop}(X:K.In s.heap)(I:BW s.heap x dx C mA)(hg:plainGet K C name=true)
  (hf:findIn K (.ref C) name=some (some (.ref f))) (ht:isFn K (.ref f)=true) (hv:mA name=none) (h:Q (.ref f,[.ref x]) s) :
  wpAny #[7] A (getMethod (.ref x) name pl) Q E s:=by
 obtain⟨od,J,hl⟩:=I.look
 exact PySem.W.method_fn X J (PySem.W.plainGet_of hg).1 (PySem.W.plainGet_of hg).2 hf (cI.mp ht) (by show(lookIn name od).map (·.isSome)=some false;rw[hl,hv];rfl) h
theorem Kw{ns:List Str}{Q:Unit->Shared->Prop}(X:K.In s.heap)(I:BW s.heap x dx C mA)
  (hs:findIn K (.ref C) "__setattr__"=some (some (.builtin "object.__setattr__"))) (hp:PySem.W.plainOver K C=true) (ht:PySem.W.takerIn K C name=some none) (hh:PySem.W.hasDictIn K C=true)
  (hw:PySem.Within mA ns) (yu:ns.length<=sizeLine)
  (h:∀h',BW h' x dx C (fun y=>if y=name then some v else mA y)->Heap.SameBut dx s.heap h'->Q () { s with heap:=h',toks:=s.toks+2 }) :
  wpAny #[7] A (setAttr (.ref x) name v) Q E s:=by
 obtain⟨od,J,hl⟩:=I.look
 refine PySem.W.set_plain X J hs (PySem.W.osa_open (s:={ s with toks:=s.toks+1 }) (r:=none) X J hp ht fun b=>?_)
 obtain⟨cd,hc,hd'⟩:=PySem.W.any_some hh
 have hx:s.heap.get? x=some ⟨.ref C,some dx,.plain,#[]⟩:=I.obj
 refine ae (au (ae (ae (qe hx (ae (PySem.W.Looks.here (s:={ s with toks:=s.toks+1 }) (PySem.W.looks_clsIn X hc) ?_))))))
 rw[hd']
 refine au (a:=some dx) (ae (au (ae ?_)))
 refine wpAny_nsSet1 (s:={ s with toks:=s.toks+1 }) I.ns fun h' UV uo=>?_
 obtain⟨oD,esD,epD,hoD,hdD,hcD⟩:=UV.count (PySem.Within.cons name v hw)
 refine ae (wpAny_lookBehind hoD (by rw[hdD];exact pastItsLine_dict (aI hcD (by rw[bg];omega))) ?_)
 exact au (h _ ⟨(uo.2 _ (Ne.symm I.ne)).trans I.obj,UV,I.ne⟩ uo)
theorem Ga{R:Result->Shared->Prop}{vs:List Value}(X:K.In s.heap)(hm:makesIn K C=true)
  (hi:findIn K (.ref C) "__init__"=some (some (.ref f))) (hf:PySem.W.typeIn K (.ref f)=some (.type "function"))
  (h:codeAny #[7] (A.under (.builtin "type.__call__" ⟨.ref C::vs,kw⟩)) (.call (.ref f) ⟨.ref #[8]::vs,kw⟩) (PySem.W.InitBack #[8] R)
   { s with heap:=(s.heap.push emptyDict).push (instObj C s.heap.objs.size) }) :
  codeAny #[7] A (.call (.ref C) ⟨vs,kw⟩) R s:=by
 obtain⟨hh,g,d,t,os⟩:=s
 exact PySem.W.make_core (PySem.W.makes_of X hm) (PySem.W.looks_findIn X hi) (fun self=>PySem.W.bind_fn X self hf) (.inl rfl) h
end
noncomputable def o_(f:Str)(v:V):List (Str×V)->List (Str×V)
 |[]=>[(f,v)]
 |(g,x)::r=>if g=f then(g,v)::r else(g,x)::o_ f v r
theorem uu(f g:Str)(v:V):∀fs:List (Str×V),(o_ f v fs).lookup g=if g=f then some v else fs.lookup g
 |[]=>by
  show List.lookup g [(f,v)]=_
  by_cases h:g=f
  ·have hb:(g==f)=true:=cI.mpr h
   simp only[List.lookup,hb,aD h]
  ·have hb:(g==f)=false:=ba.mpr h
   simp only[List.lookup,hb,aQ h]
 |(k,x)::r=>by
  have ih:=uu f g v r
  rw[show o_ f v ((k,x)::r)=(if k=f then(k,v)::r else(k,x)::o_ f v r)from rfl]
  by_cases hk:k=f
  ·rw[aD hk]
   by_cases h:g=k
   ·have hb:(g==k)=true:=cI.mpr h
    simp only[List.lookup,hb,aD (h.trans hk)]
   ·have hb:(g==k)=false:=ba.mpr h
    simp only[List.lookup,hb,aQ (fun e:g=f=>h (e.trans hk.symm))]
  ·rw[aQ hk]
   by_cases h:g=k
   ·have hb:(g==k)=true:=cI.mpr h
    simp only[List.lookup,hb,aQ (fun e:g=f=>hk (h.symm.trans e))]
   ·have hb:(g==k)=false:=ba.mpr h
    simp only[List.lookup,hb]
    exact ih
theorem tu(f:Str)(v:V):∀fs:List (Str×V),f∈(o_ f v fs).map (·.1)/\∀g,g∈fs.map (·.1)->g∈(o_ f v fs).map (·.1)
 |[]=>⟨by simp[o_],fun g h=>by simp at h⟩
 |(k,x)::r=>by
  obtain⟨i1,i2⟩:=tu f v r
  rw[show o_ f v ((k,x)::r)=(if k=f then(k,v)::r else(k,x)::o_ f v r)from rfl]
  by_cases hk:k=f
  ·rw[aD hk]
   subst hk
   exact⟨by simp,fun g h=>by simpa using h⟩
  ·rw[aQ hk]
   refine⟨?_,fun g h=>?_⟩
   ·rw[bt]
    exact aO _ i1
   ·rw[bt]at h ⊢
    rcases aN.mp h with e|e
    ·exact aN.mpr (.inl e)
    ·exact aO _ (i2 g e)
theorem uv(f:Str)(v:V):∀fs:List (Str×V),(o_ f v fs).length<=fs.length+1
 |[]=>by simp[o_]
 |(k,x)::r=>by
  have ih:=uv f v r
  rw[show o_ f v ((k,x)::r)=(if k=f then(k,v)::r else(k,x)::o_ f v r)from rfl]
  by_cases hk:k=f
  ·rw[aD hk,bg,bg];omega
  ·rw[aQ hk,bg,bg];omega
theorem tj.some_of{v:V}{o:Option Value}(r:tj nk (some v) o):∃u,o=some u/\dh nk v u:=by
 cases o with
 |none=>exact(show False from r).elim
 |some u=>exact⟨u,rfl,r⟩
theorem tj.none_of{o:Option Value}(r:tj nk none o):o=none:=by
 cases o with
 |none=>rfl
 |some u=>exact(show False from r).elim
theorem EM{v:V}(r:dh nk v u):PySem.W.handedIn u=true:=by
 cases v with
 |non=>cases(show u=Value.none from r);rfl
 |bl b=>cases(show u=Value.bool b from r);rfl
 |int i=>obtain⟨t,e⟩:=(show ∃t,u=Value.int i t from r);cases e;rfl
 |str x=>obtain⟨t,e⟩:=(show ∃t:Tk _ x,u=Value.str x t.1 from r);cases e;rfl
 |byt b=>obtain⟨t,e⟩:=(show ∃t,u=Value.bytes b t from r);cases e;rfl
 |flt b=>obtain⟨t,e⟩:=(show ∃t,u=Value.float b t from r);cases e;rfl
 |ref a=>cases(show u=Value.ref a from r);rfl
 |ty n=>cases(show u=Value.type n from r);rfl
section
variable{w:World}{a dx:Addr}{fs Vd:List (Str×V)}
theorem vc(hok:s_ P w nk H h)(e:H a=some (.ins C dx fs)):∃mA,BW h a dx C mA/\(∀f,tj nk (fs.lookup f) (mA f))/\PySem.Within mA (fs.map (·.1))/\fs.length<=1000/\H dx=some (.own a):=by
 obtain⟨d,z,ne,ob,mA,n,r,q⟩:=(show gq P w _ H h a (.ins C dx fs)from hok a _ e)
 exact⟨mA,⟨ob,n,ne⟩,r,q,z,d⟩
end
structure Cls(K:Frag)(C:Addr):Prop where
 pg:plainGet K C Str.empty=true
 hd:PySem.W.hasDictIn K C=true
 po:PySem.W.plainOver K C=true
 sa:findIn K (.ref C) "__setattr__"=some (some (.builtin "object.__setattr__"))
theorem Cls.get(c:Cls K C)(f:Str):plainGet K C f=true:=c.pg
def qZ(K:Frag)(C:Addr)(f:Str):Prop:=findIn K (.ref C) f=some none
theorem qZ.taker{f:Str}(n:qZ K C f):PySem.W.takerIn K C f=some none:=by
 unfold PySem.W.takerIn
 rw[show findIn K (.ref C) f=some none from n]
 rfl
structure Sd(K:Frag)(C:Addr)(m:Str)(f:Addr):Prop where
 at_:findIn K (.ref C) m=some (some (.ref f))
 fn:isFn K (.ref f)=true
 kp:keepIn K (.ref f)=true
section
variable{a dx:Addr}{fs:List (Str×V)}{f:Str}{v:V}
theorem BX{b:Bool}(I:bG X ak σ H s)(e:H a=some (.ins C dx fs))(c:Cls X.K C)(n:qZ X.K C f)(l:fs.lookup f=some v)
  (h:∀u s',bG X ak σ H s'->dh s'.toks v u->Q u s'):wpAny #[5] A (getAttr (.ref a) f b) Q E s:=by
 obtain⟨mA,O,r,_,_,_⟩:=vc I.hok e
 obtain⟨u,hu,ru⟩:=tj.some_of (v:=v) (o:=mA f) (by rw[<- l];exact r f)
 exact Kv I.kIn O (c.get f) c.hd n hu (EM ru) (h u _ (I.tok _) (ru.up (bj _)))
theorem vq{m:Str}{g:Addr}{Q:Value×List Value->Shared->Prop}(I:bG X ak σ H s)(e:H a=some (.ins C dx fs))(c:Cls X.K C)(k:Sd X.K C m g)(l:fs.lookup m=none)
  (h:Q (.ref g,[.ref a]) s):wpAny #[5] A (getMethod (.ref a) m pl) Q E s:=by
 obtain⟨mA,O,r,_,_,_⟩:=vc I.hok e
 have hn:mA m=none:=tj.none_of (by rw[<- l];exact r m)
 exact F' I.kIn O (c.get m) k.at_ k.fn hn h
theorem BY{y:V}{Q:Unit->Shared->Prop}(I:bG X ak σ H s)(e:H a=some (.ins C dx fs))(c:Cls X.K C)(n:qZ X.K C f)(hl:fs.length<1000)(ry:dh s.toks y u)
  (h:∀s',bG X ak σ (fB H a (.ins C dx (o_ f y fs))) s'->Q () s'):wpAny #[5] A (setAttr (.ref a) f u) Q E s:=by
 obtain⟨mA,O,r,wi,_,ho⟩:=vc I.hok e
 have hz:(fs.map (·.1)).length<=sizeLine:=by rw[az,kG];omega
 refine Kw I.kIn O c.sa c.po n.taker c.hd wi hz fun h' O' sb=>h _ ?_
 have hd:∃o,h'.get? dx=some o:=let ⟨o,_,_,e',_⟩:=O'.ns;⟨o,e'⟩
 refine I.write (x:=a) (e:=dx) (by rw[e];exact True.intro) (.inr ho) (fun b q hb z=>(sb.2 b hb).trans z) hd ?_
 refine⟨by rw[cM O.ne];exact ho,?_,O.ne,O'.obj,_,O'.ns,fun g=>?_,fun g hg=>?_⟩
 ·have:=uv f y fs;omega
 ·show tj _ ((o_ f y fs).lookup g) (if g=f then some u else mA g)
  rw[uu]
  by_cases q:g=f
  ·rw[aD q,aD q];exact dh.up (nG _ _) ry
  ·rw[aQ q,aQ q];exact(r g).up (nG _ _)
 ·by_cases q:g=f
  ·rw[q];exact(tu f y fs).1
  ·refine(tu f y fs).2 g (wi g fun z=>hg ?_)
   show(if g=f then some u else mA g)=none
   rw[aQ q];exact z
theorem bG.made(I:bG X ak σ H s):bG X ak σ (fB (fB H s.heap.objs.size (.own #[8])) #[8] (.ins C s.heap.objs.size []))
  { s with heap:=(s.heap.push emptyDict).push (instObj C s.heap.objs.size) }:=by
 have e1:(s.heap.push emptyDict).get? s.heap.objs.size=some emptyDict:=ay s.heap rfl
 have e2:((s.heap.push emptyDict).push (instObj C s.heap.objs.size)).get? #[8]=some (instObj C s.heap.objs.size):=by
  have:=ay (s.heap.push emptyDict) (o:=instObj C s.heap.objs.size) rfl
  rwa[bu]at this
 have e3:(s.heap.push emptyDict).Ns s.heap.objs.size (fun _=>none):=⟨emptyDict,#[],_,e1,rfl,(fun e he=>absurd he #[15]),fun _=>rfl⟩
 have I1:=I.laid (a:=s.heap.objs.size) (o:=.own #[8]) (h':=s.heap.push emptyDict) (t':=s.toks) (fun b u q=>aq _ q) (ax _) ⟨_,e1⟩
 refine I1.laid (a:=s.heap.objs.size+1) (o:=.ins C s.heap.objs.size []) (t':=s.toks) (fun b u q=>aq _ q) (Nat.le_of_eq (bu _ _)) ?_
 have ne:s.heap.objs.size≠s.heap.objs.size+1:=aW (bY _)
 refine⟨by rw[cM ne,gG],b7 _,ne,e2,fun _=>none,(Heap.Ns1.of_empty e3).at fun o q=>aq _ q,fun _=>True.intro,fun y hy=>absurd rfl hy⟩
theorem Kx{w:World}(hb:attributeBase e f env (eval e env)=eval e env)
  (h:wpAny #[7] A (eval e env) (fun o s₁=>wpAny #[7] A (getAttr o f true) Q E s₁) E s):wpAny #[7] A (eval (.Attribute e f pos) env) Q E s:=
 Attribute_any_ h (by rw[arm_eval_Attribute,hb])
end
def VZ(K:Frag)(ta:TE)(f:Str):TE:=fun σ H Q=>ta σ H fun x H1=>∃a C dx fs v,x=.ref a/\H1 a=some (.ins C dx fs)/\Cls K C/\qZ K C f/\fs.lookup f=some v/\Q v H1
def V0(K:Frag)(ta tv:TE)(f:Str):TS:=fun D σ H=>tv σ H fun y H1=>ta σ H1 fun x H2=>∃a C dx fs,x=.ref a/\H2 a=some (.ins C dx fs)/\Cls K C/\qZ K C f/\fs.length<1000 /\
 D.nx σ (fB H2 a (.ins C dx (o_ f y fs)))
section
variable{value:Expr}{f:Str}{WE:Pos}{ta tv:TE}
theorem OJ(he:PE X e ta)(hb:attributeBase e f X.env (eval e X.env)=eval e X.env):PE X (.Attribute e f pos) (VZ X.K ta f):=by
 intro ak s σ H Q I h
 refine Kx hb (jQ (he ak s σ H _ I h) fun u s1 kt1 zq=>?_)
 obtain⟨x,H1,I1,rx,a,C,dx,fs,v,ex,ea,c,n,l,q⟩:=zq
 subst ex
 obtain rfl:u=Value.ref a:=rx
 exact BX I1 ea c n l fun u' s2 I2 ru=>⟨v,H1,I2,ru,q⟩
theorem OK(ha:PE X o ta)(hv:PE X value tv)(hs:swapsWith value (some (.Attribute o f iI)) pos.line X.env=pure false):PS X (.Assign [.Attribute o f iI] value pos) (V0 X.K ta tv f):=by
 intro ak s σ H D I h
 refine plainObj_wpAny_Assign_Attribute (jQ (hv ak s σ H _ I h) fun u s1 kt1 ⟨y,H1,I1,ry,q⟩=>jQ (ha ak s1 σ H1 _ I1 q) fun ov s2 kt2 ⟨x,H2,I2,rx,a,C,dx,fs,ex,ea,c,n,l,q2⟩=>?_) hs
 subst ex
 obtain rfl:ov=Value.ref a:=rx
 exact BY I2 ea c n l (ry.up kt2) fun s3 I3=>⟨σ,_,I3,q2⟩
end
section
variable{c:Value}{b:Bool}
inductive uT(K:Frag)(H:Hp):V->Value->Prop where
 |non:uT K H .non (.type "NoneType")
 |bl (x:Bool):uT K H (.bl x) (.type "bool")
 |int (i:Int):uT K H (.int i) (.type "int")
 |str (x:Str):uT K H (.str x) (.type "str")
 |flt (x:UInt64):uT K H (.flt x) (.type "float")
 |lst {a:Addr} {xs:List V} (e:H a=some (.lst xs)):uT K H (.ref a) (.type "list")
 |frz {a:Addr} {o:Obj} {xs:List V} (e:H a=some (.frz o (.lst xs))):uT K H (.ref a) (.type "list")
 |tup {a:Addr} {xs:List V} (e:H a=some (.tup xs)):uT K H (.ref a) (.type "tuple")
 |dK {a:Addr} {gz:List (vn×V)} (e:H a=some (.dK gz)):uT K H (.ref a) (.type "dict")
 |dT {a:Addr} {gz:List (List vn×V)} (e:H a=some (.dT gz)):uT K H (.ref a) (.type "dict")
 |ins {a C dx:Addr} {fs:List (Str×V)} (e:H a=some (.ins C dx fs)) (cl:Cls K C) (ha:findIn K (.ref C) "__class__"=some (some (.builtin "object.__class__")))
   (hn:PySem.W.specialIn K (.builtin "object.__class__") "__get__"=some (some (.builtin "getset_descriptor.__get__"))) (VB:PySem.W.takesIn K (.builtin "object.__class__")=some true)
   (hm:PySem.W.mroIn K C (.type "object")=some true):uT K H (.ref a) (.ref C)
theorem qj{x:V}{t:Value}(I:bG X ak σ H s)(rx:dh s.toks x u)(ty:uT X.K H x t)(e:kitOne X.K t c=some b)(h:∀tk,Q (.bool b) { s with toks:=tk }) :
  wpAny #[5] A (call (.builtin "isinstance") [u,c]) Q E s:=by
 cases ty with
 |non=>cases(show u=Value.none from rx);exact kia_one PySem.W.kitx_none I.kIn True.intro e (fun z=>nomatch z) h
 |bl y=>cases(show u=Value.bool y from rx);exact kia_one PySem.W.kitx_bool I.kIn True.intro e (fun z=>nomatch z) h
 |int i=>obtain⟨t,q⟩:=(show ∃t,u=Value.int i t from rx);cases q;exact kia_one PySem.W.kitx_int I.kIn True.intro e (fun z=>nomatch z) h
 |str y=>obtain⟨t,q⟩:=(show ∃t:Tk _ y,u=Value.str y t.1 from rx);cases q;exact kia_one PySem.W.kitx_str I.kIn True.intro e (fun z=>nomatch z) h
 |flt y=>obtain⟨t,q⟩:=(show ∃t,u=Value.float y t from rx);cases q;exact kia_one PySem.W.kitx_float I.kIn True.intro e (fun z=>nomatch z) h
 |@lst a xs ea=>
  cases(show u=Value.ref a from rx)
  obtain⟨_,_,n,_,h1⟩:=(show gq X.prog X.w _ H s.heap a (.lst xs)from I.hok a _ ea)
  exact kia_one PySem.W.kitx_list I.kIn ⟨_,h1,rfl⟩ e (fun z=>nomatch z) h
 |@frz a ob xs ea=>
  cases(show u=Value.ref a from rx)
  obtain⟨_,_,_,n,_,h1⟩:=(show gq X.prog X.w _ H s.heap a (.frz ob (.lst xs))from I.hok a _ ea)
  exact kia_one PySem.W.kitx_list I.kIn ⟨_,h1,rfl⟩ e (fun z=>nomatch z) h
 |@tup a xs ea=>
  cases(show u=Value.ref a from rx)
  obtain⟨_,_,_,p⟩:=(show gq X.prog X.w _ H s.heap a (.tup xs)from I.hok a _ ea)
  obtain⟨o,h1,h2,_⟩:=p
  exact kia_one PySem.W.kitx_tuple I.kIn ⟨o,h1,h2⟩ e (fun z=>nomatch z) h
 |@dK a gz ea=>
  cases(show u=Value.ref a from rx)
  obtain⟨_,_,vs,_,p⟩:=(show gq X.prog X.w _ H s.heap a (.dK gz)from I.hok a _ ea)
  obtain⟨o,es,ep,h1,h2,_⟩:=p
  exact kia_one PySem.W.kitx_dict I.kIn ⟨o,h1,h2.1⟩ e (fun z=>nomatch z) h
 |@dT a gz ea=>
  cases(show u=Value.ref a from rx)
  obtain⟨_,_,xs,_,o,es,ep,h1,h2,_⟩:=(show gq X.prog X.w _ H s.heap a (.dT gz)from I.hok a _ ea)
  exact kia_one PySem.W.kitx_dict I.kIn ⟨o,h1,h2.1⟩ e (fun z=>nomatch z) h
 |@ins a C dx fs ea cl ha hn VB hm=>
  cases(show u=Value.ref a from rx)
  obtain⟨mA,O,_⟩:=vc I.hok ea
  obtain⟨od,J,_⟩:=O.look
  exact kia_one (PySem.W.kitx_own (cl.get _) cl.hd ha hn VB hm) I.kIn J e (fun z=>nomatch z) h
end
end L2
namespace L2
open PySem PySem.Spec PyProof.Rows
structure jz(k:Nat)(A:Around):Prop where
 hd:A.handled=none
 dp:A.depth+2*k+5<recursionLimit
 un:A.units+16*k+200<cLine
theorem jz.mono(r:jz k A)(h:j<=k):jz j A:=⟨r.hd,by have:=r.dp;omega,by have:=r.un;omega⟩
theorem jz.deeper(r:jz (k+1) A)(env:Env):jz k (A.deeper env):=
 ⟨r.hd,by have:=r.dp;show A.depth+1+2*k+5<_;omega,by have:=r.un;show A.units+3+16*k+200<_;omega⟩
theorem BZ:(A.under (.builtin "type.__call__" ⟨.ref C::us,kw⟩)).depth=A.depth+1:=by
 first|rfl|simp[Around.under,Code.weight,Code.isCreation,Code.isGuard,Code.isCaller,Code.frames,Code.isFrame,guardIds]
theorem B0:(A.under (.builtin "type.__call__" ⟨.ref C::us,kw⟩)).units=A.units+1:=by
 first|rfl|simp[Around.under,Code.cUnits,Code.frames,Code.isFrame]
theorem jz.make(r:jz (k+1) A)(C:Addr)(us:List Value)(kw:List (Str×Value)):jz k (A.under (.builtin "type.__call__" ⟨.ref C::us,kw⟩)):=
 ⟨r.hd,by have:=r.dp;rw[BZ];omega,by have:=r.un;rw[B0];omega⟩
theorem jz.depth(r:jz k A):A.depth<recursionLimit:=by have:=r.dp;omega
theorem jz.units(r:jz k A):A.units+64<cLine:=by have:=r.un;omega
def V1:TA:=fun _ H Q=>Q [] H
def Se(ta:TE)(tr:TA):TA:=fun σ H Q=>ta σ H fun x H1=>tr σ H1 fun xs H2=>Q (x::xs) H2
section
variable{t:TA}
theorem tw:PA X [] V1:=fun _ _ _ _ H Q I h=>ic ⟨[],H,I,.nil,h⟩
theorem kh(ha:PE X e te)(hr:PA X es t)(hs:starEach (e::es) X.env=(false,eval e X.env)::starEach es X.env:=by rfl):PA X (e::es) (Se te t):=by
 intro pos ak s σ H Q I h
 rw[hs]
 show wpAny _ _ (spliced ((false,eval e X.env)::backTo pos (starEach es X.env))) _ _ s
 refine fx (jQ (ha ak s σ H _ I h) fun u s1 kt1 zq=>?_)
 obtain⟨x,H1,I1,r1,q1⟩:=zq
 exact jQ (hr pos ak s1 σ H1 _ I1 q1) fun us s2 kt2 ⟨xs,H2,I2,r2,q2⟩=>⟨x::xs,H2,I2,.cons (r1.up kt2) r2,q2⟩
end
abbrev Sp:=List V->Hp->VK->XK->Prop
abbrev EN:=List Env->Hp->Shared->XK->Value->Shared->Prop
structure B1(P:Program)(w:World)(K:Frag)(mg:Str->Option Value)(base:Heap)(A:Around)(outer:List Env)(s:Shared)(H:Hp):Prop where
 frames:A.frames=some outer
 mod:Mod K mg base
 bs:∀b o,base.get? b=some o->s.heap.get? b=some o/\H b=none
 bsz:base.objs.size<=s.heap.objs.size
 funs:s.heap.FunFrames base outer
 frf:∀b∈rH outer,H b=none
 hok:s_ P w s.toks H s.heap
 bare:AllBare s.gens
def CE(outer:List Env)(P:Program)(w:World)(H:Hp)(s:Shared)(Q:VK)(u:Value)(s':Shared):Prop:=
 ∃v H',s'.os=s.os/\AllBare s'.gens/\Un (rH outer) [] H H' s.heap s'.heap/\s_ P w s'.toks H' s'.heap/\dh s'.toks v u/\Q v H'
def CR(CX:EN)(outer:List Env)(P:Program)(w:World)(H:Hp)(s:Shared)(Q:VK)(E:XK)(r:Result)(s':Shared):Prop:=
 match r with
 |.ok (.ret u)=>CE outer P w H s Q u s'
 |.ok _=>False
 |.error e=>CX outer H s E e s'
structure cJ(P:Program)(w:World)(K:Frag)(mg:Str->Option Value)(base:Heap)(CX:EN)(k:Nat)(f:Addr)(fd:FuncData)(ps:List Str)(sp:Sp):Prop where
 len:∀vs H Q E,sp vs H Q E->vs.length=ps.length
 run:∀(A:Around) (outer:List Env) (s:Shared) (H:Hp) (args:Args) (us:List Value) (vs:List V) (Q:VK) (E:XK),jz k A->B1 P w K mg base A outer s H->(0<s.toks\/∃n,ps=[n]/\fd.scope.names.lookup n=some .local)->BindsTo s fd args (ps.zip us)->cu s.toks vs us->sp vs H Q E ->
  codeAny (model P w) A (.call (.ref f) args) (CR CX outer P w H s Q E) s
theorem cJ.mono{w:World}{CX:EN}{f:Addr}{sp:Sp}(F:cJ P w K mg base CX j f fd ps sp)(h:j<=k) :
  cJ P w K mg base CX k f fd ps sp:=⟨F.len,fun A outer s H args us vs Q E hr=>F.run A outer s H args us vs Q E (hr.mono h)⟩
theorem cJ.imp{w:World}{CX:EN}{f:Addr}{sp W':Sp}(F:cJ P w K mg base CX k f fd ps sp)
  (h:∀vs H Q E,W' vs H Q E->sp vs H Q E):cJ P w K mg base CX k f fd ps W':=
 ⟨fun vs H Q E q=>F.len vs H Q E (h _ _ _ _ q),fun A outer s H args us vs Q E hr he hp hb hv hs=>F.run A outer s H args us vs Q E hr he hp hb hv (h _ _ _ _ hs)⟩
theorem B1.make{w:World}(e:B1 P w K mg base A outer s H)(C:Addr)(us:List Value)(kw:List (Str×Value)) :
  B1 P w K mg base (A.under (.builtin "type.__call__" ⟨.ref C::us,kw⟩)) outer s H:=⟨by first|exact e.frames|(simpa[Around.under,Code.envs,Code.isFrame,pushEnvs]using e.frames),e.mod,e.bs,e.bsz,e.funs,e.frf,e.hok,e.bare⟩
section
variable{s':Shared}
theorem bG.env0(I:bG X ak σ H s):B1 X.prog X.w X.K X.mg X.base X.A X.stack s H:=
 ⟨I.ok.frames,I.ok.mod,I.bs,aI I.ok.bsz I.sz,I.stack,I.stkFree,I.hok,I.bare⟩
theorem bG.after{Q:VK}(I:bG X ak σ H s)(h:CE X.stack X.prog X.w H s Q u s')(hk:s.toks<=s'.toks):EP X ak σ Q u s':=by
 obtain⟨v,H',os,bare,un,hok,r,q⟩:=h
 obtain⟨hh,g,d,t,os'⟩:=s'
 obtain rfl:os'=s.os:=os
 exact⟨v,H',I.call (h':=hh) (g':=g) (d':=d) (t':=t) (ch:=[]) un hok bare (fun b z=>absurd z #[15]) hk,r,q⟩
end
def qx(K:Frag)(fd:FuncData)(ps:List Str)(ds:List Value):Prop:=
 ∀(s:Shared) (us:List Value),K.In s.heap->(us++ds).length=ps.length->BindsTo s fd ⟨us,[]⟩ (ps.zip (us++ds))
theorem qx.all(h:∀us:List Value,us.length=ps.length->bindArgs fd ⟨us,[]⟩=pure (ps.zip us)):qx K fd ps []:=fun s us _ hl=>by
 rw[a7]at hl ⊢
 exact .of_eq (h us hl)
def OL(CX:EN)(X:Cx)(E:XK):Prop:=∀(ak:List (Addr×Obj)) (σ:St) (H:Hp) (s:Shared) (e:Value) (s':Shared),bG X ak σ H s->s.toks<=s'.toks->CX X.stack H s E e s'->X.xe e s'
section
variable{CX:EN}{f:Addr}{sp:Sp}{dvs:List V}{ds:List Value}{E:XK}{m:Str}{ta:TE}{t:TA}
structure Mk(K:Frag)(C f:Addr):Prop where
 makes:makesIn K C=true
 init:findIn K (.ref C) "__init__"=some (some (.ref f))
 fn:isFn K (.ref f)=true
 kp:keepIn K (.ref C)=true
theorem Gb{Q:VK}(M:Mk X.K C f)(F:cJ X.prog X.w X.K X.mg X.base CX k f fd ps sp)(hr:jz (k+1) X.A)(hb:qx X.K fd ps ds)(hd:cu 0 dvs ds)
  (hx:OL CX X E) (I:bG X ak σ H s) (r:cu s.toks vs us)
  (h:∀x dx,H x=none->H dx=none->dx≠x->sp (.ref x::(vs++dvs)) (fB (fB H dx (.own x)) x (.ins C dx [])) (fun v H2=>v=.non/\Q (.ref x) H2) E) :
  wpAny #[5] X.A (call (.ref C) us) (EP X ak σ Q) X.xe s:=by
 have hq:=h #[8] s.heap.objs.size (I.hok.fresh (bj _)) (I.hok.fresh (ax _)) (aW (bY _))
 have I2:=bG.made (C:=C) I
 have r2:cu _ (V.ref #[8]::(vs++dvs)) (Value.ref #[8]::(us++ds)):=.cons rfl ((r.append (hd.up (b7 _))).up (by first|exact ax _|exact nG _ _|omega))
 have hl:(Value.ref #[8]::us++ds).length=ps.length:=by
  have e:=r2.length
  rw[F.len _ _ _ _ hq]at e
  exact e.symm
 refine up (rF (Ga (f:=f) I.kIn M.makes M.init (cI.mp M.fn) (iJ (F.run _ X.stack _ _ ⟨Value.ref #[8]::us,[]⟩ (Value.ref #[8]::(us++ds)) _ _ E (hr.make C us [])
  (I2.env0.make C us []) (.inl I2.pos) (hb _ (Value.ref #[8]::us) I2.kIn hl) r2 hq) fun r s' hq'=>?_)))
 cases r with
 |error e=>exact fun kt=>hx ak σ _ _ e s' I2 kt hq'
 |ok fl=>
  cases fl with
  |ret u=>
   have kq:s.toks<=s'.toks->_:=fun kt=>I2.after hq' kt
   refine⟨?_,fun kt=>?_⟩
   ·obtain⟨v,H',_,_,_,_,rv,ev,_⟩:=hq'
    subst ev
    exact rv
   ·obtain⟨v,H',I3,rv,ev,q3⟩:=kq kt
    exact⟨V.ref #[8],H',I3,rfl,q3⟩
  |next=>exact False.elim hq'
  |brk=>exact False.elim hq'
  |cont=>exact False.elim hq'
end
section
variable{CX:EN}{f:Addr}{sp:Sp}{E:XK}{m:Str}{Xv:Pos}{Xx:List Keyword}{ta:TE}{t tk:TA}{nm:Option Str}
variable{g:List Value->List Value->List Value}{gV:List V->List V->List V}
end
structure aY(N P:List Str)(sc:Scope):Prop where
 kind:sc.kind=.function
 co:sc.isCoroutine=false
 gen:sc.isGenerator=false
 nd:N.Nodup
 pre:N.take P.length=P
 par:∀x∈P,sc.names.lookup x=some .local\/sc.names.lookup x=some .cell
 nofree:∀y∈sc.names,y.2≠.free
theorem xI:∀{binds:List (Str×Value)} {m:Str->Option Value},(∀v,(x,v)∉binds)->bindL kindOf binds m x=m x
 |[],_,_=>rfl
 |(n,v)::r,m,h=>by
  unfold bindL
  rw[xI fun w hw=>h w (aO _ hw)]
  split
  ·have:x≠n:=by rintro rfl;exact h v bF
   simp[this]
  ·rfl
theorem xJ:∀{binds:List (Str×Value)} {m:Str->Option Value},(∀v,(x,v)∉binds)->bindC kindOf binds m x=m x
 |[],_,_=>rfl
 |(n,v)::r,m,h=>by
  unfold bindC
  rw[xJ fun w hw=>h w (aO _ hw)]
  split
  ·rfl
  ·have:x≠n:=by rintro rfl;exact h v bF
   simp[this]
theorem xK:∀{P:List Str} {vs:List Value} {i:Nat} {m:Str->Option Value},P.Nodup->P[i]?=some x->vs[i]?=some v->kindOf x=some .local ->
  bindL kindOf (P.zip vs) m x=some v
 |[],_,_,_,_,h,_,_=>by simp at h
 |_::_,[],_,_,_,_,h,_=>by simp at h
 |p::P,w::vs,0,m,nd,h1,h2,hk=>by
  simp at h1 h2;subst h1;subst h2
  show bindL kindOf ((p,w)::P.zip vs) m p=_
  unfold bindL
  rw[xI fun v hv=>(gU.mp nd).1 (oS hv).1,aD hk]
  simp
 |p::P,w::vs,i+1,m,nd,h1,h2,hk=>by
  show bindL kindOf ((p,w)::P.zip vs) m x=_
  unfold bindL
  exact xK (i:=i) (gU.mp nd).2 (by simpa using h1) (by simpa using h2) hk
theorem xL:∀{P:List Str} {vs:List Value} {i:Nat} {m:Str->Option Value},P.Nodup->P[i]?=some x->vs[i]?=some v->kindOf x≠some .local ->
  bindC kindOf (P.zip vs) m x=some v
 |[],_,_,_,_,h,_,_=>by simp at h
 |_::_,[],_,_,_,_,h,_=>by simp at h
 |p::P,w::vs,0,m,nd,h1,h2,hk=>by
  simp at h1 h2;subst h1;subst h2
  show bindC kindOf ((p,w)::P.zip vs) m p=_
  unfold bindC
  rw[xJ fun v hv=>(gU.mp nd).1 (oS hv).1,aQ hk]
  simp
 |p::P,w::vs,i+1,m,nd,h1,h2,hk=>by
  show bindC kindOf ((p,w)::P.zip vs) m x=_
  unfold bindC
  exact xL (i:=i) (gU.mp nd).2 (by simpa using h1) (by simpa using h2) hk
def uw(N:List Str)(vs:List V):St:=vs.map some++List.replicate (N.length-vs.length) none
def B2(CX:EN)(P:Program)(w:World)(K:Frag)(mg:Str->Option Value)(base:Heap)(N:List Str)(fv:Str)(scope:Scope)(f:Addr)(cd:Value)(A:Around)(outer:List Env)(s:Shared)(H:Hp)(E:XK):Cx where
 prog:=P
 w:=w
 K:=K
 mg:=mg
 base:=base
 A:=A.deeper (envOfC fv scope s.heap.objs.size f cd)
 N:=N
 s₀:=s
 H₀:=H
 env:=envOfC fv scope s.heap.objs.size f cd
 outer:=outer
 stack:=envOfC fv scope s.heap.objs.size f cd::outer
 ex:=[]
 calm:=true
 fn:=fun _=>true
 pn:=[]
 xe:=fun e s'=>wpAny (model P w) (A.deeper (envOfC fv scope s.heap.objs.size f cd)) (leaving (envOfC fv scope s.heap.objs.size f cd) e) (fun _ s''=>CX outer H s E e s'') (fun e' s''=>CX outer H s E e' s'') s'
theorem mY{sc:Scope}{n:Nat}(h:sc.names.lookup x=some .cell):∃c,(cellsFrom n sc.names []).lookup x=some c:=by
 have q:=PySem.W.cellsFrom_some sc.names n [] (.inl h)
 exact Option.isSome_iff_exists.mp q
theorem B_{globals:Addr}{n:Str}{func:Option Addr}{code:Value}{builtins:Addr}{Q:Env->Shared->Prop}
  (hk:scope.kind=.function) (hl:scope.names.lookup n=some .local)
  (hQ:∀env,env=newEnv scope s.heap.objs.size globals (cellsFrom #[8] scope.names []) fv func code none builtins ->
   ∀s',s.toks<s'.toks->InCallC s env.locals (bindL env.kindOf [(n,v)] fun _=>none) env.cells (bindC env.kindOf [(n,v)] fun _=>none) s'->Q env s') :
  wpAny M A (newFunctionEnv scope globals [] [(n,v)] fv func code none builtins) Q E s:=by
 simp only[newFunctionEnv,Option.isSome_none,eu,fL]
 refine ae (wpAny_alloc ?_)
 refine ae (wpAny_layCells _ (fun name kind cells=>by cases hkc:kind==NameKind.cell<;>simp[hkc]) _ _ _ _ ?_)
 have ok:=cellsFrom_ok scope.names (s.heap.push { cls:=.type "frame",data:=.dict #[] }) #[8] [] ⟨fun _ _ hm=>(nomatch hm),List.Pairwise.nil⟩ (by rw[bu];exact ax _)
 rw[bu]at ok
 rw[show({ s with heap:=s.heap.push { cls:=.type "frame",data:=.dict #[] } }:Shared).heap.objs.size=s.heap.objs.size+1 from bu ..]
 have x:InCallC s s.heap.objs.size (fun _=>none) (cellsFrom #[8] scope.names []) (fun _=>none) { s with heap:=pushCells (s.heap.push { cls:=.type "frame",data:=.dict #[] }) scope.names }:=
  ⟨⟨⟨_,_,rfl⟩,(Heap.Ns.new s.heap (.type "frame")).keeps (kS _ _),fun b o e=>kS _ _ b o (aq _ e),ax _⟩,
   fun n c hc=>(ok.empty n c (PySem.mem_of_lookup hc)).1,ok.apart,fun n c hm=>(ok.empty n c hm).2⟩
 refine ae ?_
 rw[kT]
 refine ae (ae (pc (env:=newEnv scope s.heap.objs.size globals (cellsFrom #[8] scope.names []) fv func code none builtins) hl x.toInCall.ns (fun h' UZ hs'=>au ?_) (by show(scope.kind==_||(scope.kind==_&&_))=false;rw[hk];rfl)))
 show wpAny M A (forIn [] _ _) _ _ _
 rw[qf]
 refine au (au (hQ _ rfl _ (bY _) ?_))
 have e1:bindL (newEnv scope s.heap.objs.size globals (cellsFrom #[8] scope.names []) fv func code none builtins).kindOf [(n,v)] (fun _=>none)=fun y=>if y=n then some v else none:=by
  show(if _=some NameKind.local then _ else _)=_;exact aD hl
 have e2:bindC (newEnv scope s.heap.objs.size globals (cellsFrom #[8] scope.names []) fv func code none builtins).kindOf [(n,v)] (fun _=>none)=fun _=>none:=by
  show(if _=some NameKind.local then _ else _)=_;exact aD hl
 rw[e1,e2]
 refine⟨⟨?_,UZ,fun b o e=>?_,x.toInCall.fresh⟩,fun k c hc=>?_,x.apart,x.above⟩
 ·exact⟨h',_,rfl⟩
 ·exact hs'.extBut b o (aW (aF (aB e) x.toInCall.fresh)) (x.toInCall.keep b o e)
 ·exact(x.cell k c hc).sameBut hs' (dS (x.above k c (PySem.mem_of_lookup hc)))
theorem EO{CX:EN}{w:World}{N:List Str}{f:Addr}{cd:Value}{s1:Shared}{E:XK}
  (S:aY N ps scope) (hd:A.handled=none) (e0:B1 P w K mg base A outer s H) (hl:vs.length=ps.length) (r:cu s.toks vs us) (lq:s.toks<=s1.toks) (WA:0<s1.toks)
  (x:InCallC s s.heap.objs.size (bindL (envOfC fv scope s.heap.objs.size f cd).kindOf (ps.zip us) fun _=>none) (cellsFrom #[8] scope.names []) (bindC (envOfC fv scope s.heap.objs.size f cd).kindOf (ps.zip us) fun _=>none) s1) :
  bG (B2 CX P w K mg base N fv scope f cd A outer s H E) [] (uw N vs) H s1:=by
 have lU:ps.length<=N.length:=by have:=gT List.length S.pre;rw[aJ]at this;omega
 obtain⟨h1,tk,rfl,hk⟩:=x.done
 have noA:∀b:Addr,b∉(B2 CX P w K mg base N fv scope f cd A outer s H E).ex:=fun b z=>absurd (show b∈([]:List Addr)from z) #[15]
 refine⟨⟨e0.mod,S.kind,rfl,rfl,ax _,fun y z c h1 h2=>?_,fun y hy=>?_,fun y c _ h=>?_,fun _=>hd,Around.frames_deeper e0.frames,.inr ⟨rfl,rfl⟩,fun b z=>absurd z (noA b),e0.bs,e0.bsz,fun b _ _=>noA b,fun b z=>absurd z (noA b),e0.funs,e0.frf⟩,
  rfl,e0.bare,Un.kept hk,⟨_,x.toInCall.ns,fun i y v h1 h2 h3=>?_⟩,fun y c h=>⟨_,x.cell y c h⟩,e0.hok.fresh (ax _),fun y c h=>?_,fun p hp=>absurd (show p∈([]:List (Addr×Obj))from hp) #[15],(e0.hok.kept hk).up lq,?_,WA,lq⟩
 ·exact name_of_addr x.apart (PySem.mem_of_lookup h1) (PySem.mem_of_lookup h2)
 ·have hy:scope.names.lookup y=some .cell\/scope.names.lookup y=some .free:=hy
  rcases hy with hy|hy
  ·exact mY hy
  ·exact absurd rfl (S.nofree _ (PySem.mem_of_lookup hy))
 ·exact fK (x.above y c (PySem.mem_of_lookup h))
 ·have hi:i<vs.length:=by
   unfold uw at h2
   by_cases hi:i<vs.length
   ·exact hi
   ·rw[aS (by simpa using hi)]at h2
    rw[ju]at h2
    split at h2<;>cases h2
  have ha:vs[i]?=some v:=by
   unfold uw at h2
   rw[aH (by simpa using hi),aC]at h2
   cases e:vs[i]? with
   |none=>rw[e]at h2;cases h2
   |some a=>rw[e]at h2;cases h2;rfl
  obtain⟨u,hu,rv⟩:=r.get ha
  have hp:ps[i]?=some y:=by
   rw[<- S.pre,cD #[0]];exact h1
  have ndP:ps.Nodup:=by rw[<- S.pre];exact S.nd.sublist (List.take_sublist _ _)
  refine⟨u,rv.up lq,?_⟩
  rcases S.par y (bX hp)with k|k
  ·exact .inl ⟨k,xK ndP hp hu k⟩
  ·obtain⟨c,e⟩:=mY (n:=s.heap.objs.size+1) k
   refine .inr ⟨.inl k,c,e,?_⟩
   have q:=x.cell y c e
   rw[xL ndP hp hu (by show scope.names.lookup y≠_;rw[k];decide)]at q
   exact q
 ·exact e0.hok.fresh (fK (x.above y c (PySem.mem_of_lookup h)))
 ·unfold uw
  show _=N.length
  rw[ah,az,List.length_replicate]
  omega
theorem Sf{CX:EN}{w:World}{f:Addr}{params:Arguments}{body:List Stmt}{dV kV tf pm eP ct oc:Value}{an od:Option Addr}
  {NY:Array (Option Value)} {N ps:List Str} {sp:Sp} (lk:K.lookup f=some ⟨oc,od,.func (fnOf name fv params body scope dV kV tf pm an eP ct),NY⟩) (BP:codeIn K eP fv=true) (S:aY N ps scope)
  (len:∀vs H Q E,sp vs H Q E->vs.length=ps.length)
  (BL:∀(A:Around) (outer:List Env) (s:Shared) (H:Hp) (vs:List V) (Q:VK) (E:XK),jz k (A.deeper (envOfC fv scope s.heap.objs.size f eP))->sp vs H Q E ->
   ∃t,EE (B2 CX P w K mg base N fv scope f eP A outer s H E) body t/\t { nx:=fun _ H'=>Q .non H',rt:=Q } (uw N vs) H) :
  cJ P w K mg base CX (k+1) f (fnOf name fv params body scope dV kV tf pm an eP ct) ps sp:=by
 refine⟨len,fun A outer s H args us vs Q E hr e0 hp hb r NF=>?_⟩
 have hl:=len _ _ _ _ NF
 have KX:K.In s.heap:=e0.mod.kin.keeps fun b o e=>(e0.bs b o e).1
 have lim:s.heap.NoLimit:=e0.mod.nolimit.keeps fun b o e=>(e0.bs b o e).1
 have iN:∀y∈ps.zip us,scope.names.lookup y.1=some .local\/(scope.names.lookup y.1=some .cell/\((cellsFrom #[8] scope.names []).lookup y.1).isSome=true):=fun zq hy=>by
  obtain⟨n,v⟩:=zq
  rcases S.par n (oS hy).1 with q|q
  ·exact .inl q
  ·exact .inr ⟨q,PySem.W.cellsFrom_some _ _ _ (.inl q)⟩
 refine codeAny_call_function hr.depth (KX _ _ lk) rfl S.co S.gen rfl (PySem.W.codeRec_of KX BP) (hb _ _ _ _ ?_)
 suffices hh:∀env,env=newEnv scope s.heap.objs.size mainGlobals (cellsFrom #[8] scope.names []) (fv++".<locals>.") (some f) eP none builtinsNs->∀s1,s.toks<=s1.toks->0<s1.toks->InCallC s env.locals (bindL env.kindOf (ps.zip us) fun _=>none) env.cells (bindC env.kindOf (ps.zip us) fun _=>none) s1->s1.heap.NoLimit/\codeAny (model P w) A (Code.func body env) (CR CX outer P w H s Q E) s1 by
  rcases hp with hp|⟨n,e1,hn⟩
  ·exact up (wpAny_newFunctionEnv_cells S.kind iN fun env he s1 x lq=>hh env he s1 lq (aF hp lq) x)
  ·subst e1
   have hus:us.length=1:=r.length.symm.trans hl
   obtain⟨u,rfl⟩:∃u,us=[u]:=gF.mp hus
   exact B_ S.kind hn fun env he s1 hlt x=>hh env he s1 (fK hlt) (jk (b7 _) hlt) x
 intro env he s1 lq WA x
 subst he
 refine⟨lim.keeps x.toInCall.keep,codeAny_func ?_⟩
 obtain⟨t,ht,hq⟩:=BL A outer s H vs Q E (hr.deeper _) NF
 have I:bG (B2 CX P w K mg base N fv scope f eP A outer s H E) [] (uw N vs) H s1:=EO S hr.hd e0 hl r lq WA x
 refine ji (ht [] s1 (uw N vs) H _ I hq) (fun fl s' hs=>?_) fun e s' hs=>hs
 have j_:∀{σ':St} {H':Hp} {v:V} {u:Value},bG (B2 CX P w K mg base N fv scope f eP A outer s H E) [] σ' H' s'->dh _ v u->Q v H'->CE outer P w H s Q u s':=
  fun{σ' H' v u} J rv q=>⟨v,H',J.os,J.bare,J.base,J.hok,rv,q⟩
 cases fl with
 |ret u=>
  obtain⟨v,σ',H',J,rv,q⟩:=hs
  exact j_ J rv q
 |next=>
  obtain⟨σ',H',J,q⟩:=hs
  exact j_ (v:=V.non) (u:=Value.none) J rfl q
 |brk=>
  obtain⟨_,_,_,q⟩:=hs
  exact False.elim q
 |cont=>
  obtain⟨_,_,_,q⟩:=hs
  exact False.elim q
end L2
namespace L2
open PySem PySem.Spec PyProof.Rows
section
variable{t:TA}{id:String}{r:List V->Hp->VK->Prop}
def V2(r:List V->Hp->VK->Prop)(t:TA):TE:=fun σ H Q=>t σ H fun vs H1=>r vs H1 Q
theorem pG(hc:iL X (.builtin id) r)(hg:Gl X x)(hm:X.mg x=none)(hv:bootBuiltins x=some (.builtin id))(ha:PA X (e::es) t)(hn:x ≠ "__name__":=by decide)(JZ:(x==("__debug__":Str))=false:=by decide)
  (he:starEach (e::es) X.env=(false,eval e X.env)::starEach es X.env:=by rfl) (lU:(backTo pos (starEach es X.env)).any (·.1)=false:=by rfl):PE X (.Call (.Name x p) (e::es) [] pos) (V2 r t):=by
 intro ak s σ H Q I h
 refine fy (pE I hg hm hv ?_ hn JZ)
 exact j' (jQ (ha pos ak s σ H _ I h) fun us s1 kt1 ⟨vs,H1,I1,r1,q1⟩=>hc ak s1 σ H1 vs us Q I1 r1 q1) he lU
theorem EQ(hc:iL X (.type T) r)(hg:Gl X x)(hm:X.mg x=none)(hv:bootBuiltins x=some (.type T))(ha:PA X (e::es) t)(hn:x ≠ "__name__":=by decide)(JZ:(x==("__debug__":Str))=false:=by decide)
  (he:starEach (e::es) X.env=(false,eval e X.env)::starEach es X.env:=by rfl) (lU:(backTo pos (starEach es X.env)).any (·.1)=false:=by rfl):PE X (.Call (.Name x p) (e::es) [] pos) (V2 r t):=by
 intro ak s σ H Q I h
 refine fy (pE I hg hm hv ?_ hn JZ)
 exact dL (jQ (ha pos ak s σ H _ I h) fun us s1 kt1 ⟨vs,H1,I1,r1,q1⟩=>hc ak s1 σ H1 vs us Q I1 r1 q1) he lU
end
end L2
namespace HT
open PySem PyProof.Rows
section
open PySem.SeqAt
open PySem.AutoSeq1 (wpAny_loadPart')
open PySem.MeetsSeq PySem.MeetsSeq2 PySem.MeetsSeq3
end
section
variable{w:World}
theorem cat_tup{t b:Addr}{vs ws:List Value}(ht:IsTup s.heap t vs.toArray)(hb:IsTup s.heap b ws.toArray)(hv:vs≠[])
  (h1:ws=[]->Q (.ref t) s) (h2:ws≠[]->Q (.ref s.heap.objs.size) { s with heap:=s.heap.push { cls:=.type "tuple",data:=.seq (vs++ws).toArray } })
  (yu:vs.length+ws.length<=sizeLine):wpAny #[7] A (binaryOp .Add (.ref t) (.ref b)) Q E s:=by
 obtain⟨⟨cls,dd,data,sl⟩,ho,hc,n,hd⟩:=id ht
 obtain⟨⟨cls2,dd2,data2,sl2⟩,ho2,hc2,n2,hd2⟩:=id hb
 simp only at hc hd hc2 hd2
 subst hc hd hc2 hd2
 have e:vs.toArray++ws.toArray=(vs++ws).toArray:=by simp
 by_cases hw:ws=[]
 ·exact sR ⟨_,ho,rfl⟩ ⟨_,ho2,rfl⟩ nH qV PySem.F.slot_tuple_add PySem.F.entry_tuple_add (PySem.F.args_tuple_add_2 _ _)
   (tuple_addW1 t b vs.toArray ws.toArray n n2 dd dd2 sl sl2 (by simpa using hv) (by simp[hw])) ⟨ho,ho2,h1 hw⟩
 ·refine sR ⟨_,ho,rfl⟩ ⟨_,ho2,rfl⟩ nH qV PySem.F.slot_tuple_add PySem.F.entry_tuple_add (PySem.F.args_tuple_add_2 _ _)
   (tuple_addW2 t b vs.toArray ws.toArray n n2 dd dd2 sl sl2 (by simpa using hv) (by simpa using hw) (by rw[aR,aR];exact yu)) ⟨ho,ho2,?_⟩
  rw[e]
  exact h2 hw
noncomputable def sIx(n d:Nat):Option Int->Nat
 |none=>d
 |some v=>if v<0 then(v+(n:Int)).toNat else min v.toNat n
theorem sIx_none(n d:Nat):sIx n d none=d:=rfl
theorem sIx_nat(n d k:Nat):sIx n d (some (k:Int))=min k n:=by
 show(if (k:Int)<0 then((k:Int)+(n:Int)).toNat else min (k:Int).toNat n)=min k n
 rw[aQ #[0],b9]
theorem sIx_le(n d:Nat)(hd:d<=n)(o:Option Int):sIx n d o<=n:=by
 cases o with
 |none=>exact hd
 |some v=>
  show(if v<0 then(v+(n:Int)).toNat else min v.toNat n)<=n
  by_cases hv:v<0
  ·rw[aD hv];omega
  ·rw[aQ hv];exact Nat.min_le_right _ _
theorem DB(v:Int)(n d:Nat):(if v<0 then max (v+(n:Int)) 0 else min v (n:Int))=((sIx n d (some v):Nat):Int):=by
 show(if v<0 then max (v+(n:Int)) 0 else min v (n:Int))=(((if v<0 then(v+(n:Int)).toNat else min v.toNat n):Nat):Int)
 by_cases hv:v<0
 ·simp only[aD hv];omega
 ·simp only[aQ hv];omega
theorem B'(lo hi:Option Int)(n:Nat):Builtin.Slice.sliceAdjust lo hi 1 (n:Int)=(((sIx n 0 lo:Nat):Int),((sIx n n hi:Nat):Int)):=by
 have h1:¬ ((1:Int)<0):=by omega
 unfold Builtin.Slice.sliceAdjust
 simp only[h1,fL]
 refine Prod.ext ?_ ?_
 ·cases lo with
  |none=>rfl
  |some v=>exact DB v n 0
 ·cases hi with
  |none=>rfl
  |some v=>exact DB v n n
theorem Cb(i j:Nat):Builtin.Slice.slicePlaces (i:Int) (j:Int) 1=j-i:=by
 unfold Builtin.Slice.slicePlaces
 have h1:(1:Int)>0:=by omega
 simp only[h1,fM,Int.ediv_one]
 split<;>omega
theorem vt{o:Option Int}{Q:Option Int->Shared->Prop}(p:IsPart v o)(h:Q o s):wpAny #[7] A (Builtin.Slice.slicePartIndex v) Q E s:=by
 cases p with
 |none=>exact slicePart_none h
 |int i t=>exact slicePart_int h
theorem sliceApplied_gen{sl:Addr}{vl vu:Value}{lo hi:Option Int}{Q:Int×Int×Nat->Shared->Prop}(hs:s.heap.IsSliceOf sl vl vu .none)(pl:IsPart vl lo)(pu:IsPart vu hi)
  (h:Q (((sIx n 0 lo:Nat):Int),1,sIx n n hi-sIx n 0 lo) s):wpAny #[7] A (Builtin.Slice.sliceApplied (.ref sl) (pure (n:Int))) Q E s:=by
 obtain⟨os,hos,hcs,N0⟩:=id hs
 unfold Builtin.Slice.sliceApplied Builtin.Slice.sliceFields
 refine ae (ae (cY hos N0 (x:=vl) rfl (ae (cY hos N0 (x:=vu) rfl (ae (cY hos N0 (x:=.none) rfl (au ?_)))))))
 refine ae (slicePart_none ?_)
 show wpAny _ _ (if ((1:Int)==0)=true then _ else _) _ _ s
 rw[aQ #[3]]
 refine ae (vt pl (ae (vt pu (ae (au ?_)))))
 show wpAny _ _ (match Builtin.Slice.sliceAdjust lo hi 1 (n:Int)with|(lo,hi)=>pure (lo,(1:Int),Builtin.Slice.slicePlaces lo hi 1)) _ _ s
 rw[B' lo hi n]
 show wpAny _ _ (pure (((sIx n 0 lo:Nat):Int),(1:Int),Builtin.Slice.slicePlaces ((sIx n 0 lo:Nat):Int) ((sIx n n hi:Nat):Int) 1)) _ _ s
 rw[Cb]
 exact au h
theorem Gd(xs:Array Value)(i k:Nat):((List.range k).filterMap fun(m:Nat)=>xs[((i:Int)+(m:Int)*1).toNat]?).toArray=((xs.toList.drop i).take k).toArray:=by
 have e:(fun(m:Nat)=>xs[((i:Int)+(m:Int)*1).toNat]?)=fun m=>xs[i+m]?:=by
  funext m
  have:((i:Int)+(m:Int)*1).toNat=i+m:=by omega
  rw[this]
 rw[e]
 have:=pick_run xs i k
 rw[List.filterMap_map]at this
 have e2:((fun x=>xs[x]?)∘fun x=>i+x)=fun m=>xs[i+m]?:=rfl
 rw[e2]at this
 rw[this]
theorem getItem_tuple_cut{t sl:Addr}{items:Array Value}{vl vu:Value}{lo hi:Option Int}(ht:IsTup s.heap t items)(hs:s.heap.IsSliceOf sl vl vu .none)(pl:IsPart vl lo)(pu:IsPart vu hi)
  (hw:¬ (sIx items.size 0 lo=0/\sIx items.size items.size hi=items.size))
  (h:Q (.ref s.heap.objs.size) { s with heap:=s.heap.push { cls:=.type "tuple",data:=.seq ((items.toList.drop (sIx items.size 0 lo)).take (sIx items.size items.size hi-sIx items.size 0 lo)).toArray } })
  (yu:items.size<=sizeLine):wpAny #[7] A (getItem (.ref t) (.ref sl)) Q E s:=by
 have htake:sizeOk (.seq ((items.toList.drop (sIx items.size 0 lo)).take (sIx items.size items.size hi-sIx items.size 0 lo)).toArray):=by
  show((items.toList.drop (sIx items.size 0 lo)).take (sIx items.size items.size hi-sIx items.size 0 lo)).toArray.size<=sizeLine
  rw[aR,aJ,b8,dZ]
  omega
 have hj:sIx items.size items.size hi<=items.size:=sIx_le _ _ (ax _) hi
 obtain⟨os,hos,hcs,N0⟩:=id hs
 have hTs:s.TypeIs (.ref sl) "slice":=⟨os,hos,hcs⟩
 unfold getItem
 try with_reducible refine c_ ?_
 first|refine ae (au ?_)|skip
 refine ae (wpAny_sequenceKey ht.typeIs #[3] ?_)
 refine ae (bS (name:=Str.ofString "__getitem__") ht.typeIs d8
  (bZ d8 ht.typeIs entry_tuple_getitem ?_ (args_tuple_getitem _ _)))
 show wpAny _ _ (Builtin.Tuple.tupleItemsOf (.ref t) >>= _) _ _ s
 refine ae (tupleItemsOf_ ht ?_)
 refine ae (iK hTs ?_)
 rw[aD #[3]]
 refine ae (sliceApplied_gen hs pl pu ?_)
 have hno:¬ ((((sIx items.size 0 lo:Nat):Int)==0&&(1:Int)==1&&(sIx items.size items.size hi-sIx items.size 0 lo)==items.size)=true):=by
  intro q
  rw[cX,cX]at q
  have q1:((sIx items.size 0 lo:Nat):Int)=0:=nI q.1.1
  have q2:sIx items.size items.size hi-sIx items.size 0 lo=items.size:=nI q.2
  exact hw ⟨by omega,by omega⟩
 show wpAny _ _ (if (((sIx items.size 0 lo:Nat):Int)==0&&(1:Int)==1&&(sIx items.size items.size hi-sIx items.size 0 lo)==items.size)=true then _ else _) _ _ s
 rw[aQ hno,Gd]
 first
  |exact ae (m:=Builtin.Tuple.tupleExact _) (b_ (au ⟨_,rfl,au h⟩) htake)
  |exact ae (m:=Builtin.Tuple.tupleExact _) (b_ (ae (au (au ⟨_,rfl,au h⟩))) htake)
  |exact ae (ae (m:=Builtin.Tuple.tupleExact _) (b_ (au (au ⟨_,rfl,au h⟩)) htake))
  |exact ae (ae (m:=Builtin.Tuple.tupleExact _) (b_ (au ⟨_,rfl,au h⟩) htake))
end
end HT
namespace L2
open PySem PySem.Spec PyProof.Rows
abbrev TO:=St->Hp->(Option Int->Hp->Prop)->Prop
def PO(X:Cx)(e:Option Expr)(t:TO):Prop:=
 ∀(ak:List (Addr×Obj)) (s:Shared) (σ:St) (H:Hp) (Q:Option Int->Hp->Prop),bG X ak σ H s->t σ H Q ->
  wpAny #[5] X.A (evalPart e X.env) (fun u s'=>∃o H',bG X ak σ H' s'/\IsPart u o/\Q o H') X.xe s
def Ky:TO:=fun _ H Q=>Q none H
def Sg(t:TE):TO:=fun σ H Q=>t σ H fun x H1=>∃i,x=.int i/\Q (some i) H1
section
variable{lo hi:Option Expr}{tl th:TO}
theorem Kz:PO X none Ky:=by
 intro ak s σ H Q I h
 rw[evalPart_none]
 exact au ⟨none,H,I,.none,h⟩
theorem KA(h:PE X e te):PO X (some e) (Sg te):=by
 intro ak s σ H Q I hw
 rw[evalPart_some]
 refine jQ (h ak s σ H _ I hw) fun u s1 kt1 zq=>?_
 obtain⟨x,H1,I1,r1,q1⟩:=zq
 obtain⟨i,rfl,q⟩:=q1
 obtain⟨t,rfl⟩:=r1
 exact⟨some i,H1,I1,.int i t,q⟩
def Si(X:Cx)(r:V->Option Int->Option Int->Hp->VK->Prop):Prop:=
 ∀(ak:List (Addr×Obj)) (s:Shared) (σ:St) (H:Hp) (x:V) (v vl vu:Value) (lo hi:Option Int) (sl:Addr) (Q:VK),bG X ak σ H s->dh s.toks x v->s.heap.IsSliceOf sl vl vu .none->IsPart vl lo->IsPart vu hi->r x lo hi H Q ->
  ∃T id,typeLookup (.type T) "__getitem__"=pure (some (.builtin id))/\s.TypeIs v T/\wpAny #[5] X.A (getItem v (.ref sl)) (EP X ak σ Q) X.xe s
def Xg(r:V->Option Int->Option Int->Hp->VK->Prop)(te:TE)(tl th:TO):TE:=fun σ H Q=>te σ H fun x H1=>tl σ H1 fun l H2=>th σ H2 fun u H3=>r x l u H3 Q
theorem Ge{r:V->Option Int->Option Int->Hp->VK->Prop}(hr:Si X r)(he:PE X e te)(hl:PO X lo tl)(hu:PO X hi th):PE X (.Subscript e (.Slice lo hi none p2) pos) (Xg r te tl th):=by
 intro ak s σ H Q I h
 refine Subscript_ (jQ (he ak s σ H _ I h) fun v s1 kt1 zq=>?_)
 obtain⟨x,H1,I1,r1,q1⟩:=zq
 refine wpAny_Slice (jQ (hl ak s1 σ H1 _ I1 q1) fun vl s2 kt2 ⟨l,H2,I2,pl,q2⟩=>jQ (hu ak s2 σ H2 _ I2 q2) fun vu s3 kt3 zq=>?_)
 obtain⟨u,H3,I3,pu,q3⟩:=zq
 rw[evalPart_none]
 refine au ?_
 have I4:bG X ak σ H3 { s3 with heap:=s3.heap.push { cls:=.type "slice",data:=.fields #[vl,vu,.none] } }:=I3.kept (t':=s3.toks) fun b ob q=>aq _ q
 obtain⟨T,id,hT,ht,hg⟩:=hr ak { s3 with heap:=s3.heap.push { cls:=.type "slice",data:=.fields #[vl,vu,.none] } } σ H3 x v vl vu l u s3.heap.objs.size Q I4 (r1.up (aI kt2 kt3)) (Heap.IsSliceOf.new ..) pl pu q3
 show wpAny #[5] X.A (subscriptTail e (.Slice lo hi none p2) v (.ref s3.heap.objs.size)) (EP X ak σ Q) X.xe { s3 with heap:=s3.heap.push { cls:=.type "slice",data:=.fields #[vl,vu,.none] } }
 exact tail_any (ops:=[.ref s3.heap.objs.size,v]) ht hT hg (by with_unfolding_all rfl)
noncomputable def vw(xs:List V)(lo hi:Option Int):List V:=(xs.drop (HT.sIx xs.length 0 lo)).take (HT.sIx xs.length xs.length hi-HT.sIx xs.length 0 lo)
theorem ux(xs:List V)(lo hi:Option Int):(vw xs lo hi).length<=xs.length:=by
 unfold vw
 rw[aJ,b8]
 omega
def V3(K:Frag):V->Option Int->Option Int->Hp->VK->Prop:=fun x lo hi H Q=>∃a xs,x=.ref a/\fU K H a xs /\
 ¬ (HT.sIx xs.length 0 lo=0/\HT.sIx xs.length xs.length hi=xs.length)/\∀p,H p=none->Q (.ref p) (fB H p (.tup (vw xs lo hi)))
theorem OM:Si X (V3 X.K):=by
 intro ak s σ H x v vl vu lo hi sl Q I rx hs pl pu h
 obtain⟨a,xs,rfl,hx,hw,q⟩:=h
 cases rx
 obtain⟨bP,r,ht,hz⟩:=I.tuple hx
 have fX:bP.toArray.size=xs.length:=by rw[aR];exact r.length.symm
 refine⟨"tuple",_,d8.lookup,ht.typeIs,?_⟩
 refine HT.getItem_tuple_cut ht hs pl pu (by rw[fX];exact hw) ?_ (by rw[fX];exact hz)
 rw[fX]
 refine⟨.ref s.heap.objs.size,_,I.laid (t':=s.toks) (o:=.tup (vw xs lo hi)) (fun b ob q=>aq _ q) (ax _) ?_,rfl,q _ (I.hok.fresh (ax _))⟩
 exact⟨aI (ux xs lo hi) hz,_,(r.drop (HT.sIx xs.length 0 lo)).take (HT.sIx xs.length xs.length hi-HT.sIx xs.length 0 lo),IsTup.new _ _⟩
def Sj(K:Frag):R2:=fun x y H Q=>∃a b xs ys,x=.ref a/\y=.ref b/\fU K H a xs/\fU K H b ys/\xs≠[]/\xs.length+ys.length<=sizeLine /\
 (ys=[]->Q (.ref a) H)/\(ys≠[]->∀p,H p=none->Q (.ref p) (fB H p (.tup (xs++ys))))
theorem cu.nil_iff(r:cu nk xs us):us=[]↔xs=[]:=by
 cases r with
 |nil=>simp
 |cons _ _=>simp
theorem KB:oZ X (binaryOp .Add) (Sj X.K):=by
 intro ak s σ H x y v u Q I rx ry h
 obtain⟨a,b,xs,ys,rfl,rfl,ha,hb,hx,hz,q1,q2⟩:=h
 cases rx
 cases ry
 obtain⟨bP,r1,p1,_⟩:=I.tuple ha
 obtain⟨its2,r2,p2,_⟩:=I.tuple hb
 refine HT.cat_tup p1 p2 (fun z=>hx (r1.nil_iff.mp z)) (fun z=>⟨.ref a,H,I,rfl,q1 (r2.nil_iff.mp z)⟩) (fun z=>?_) (by rw[<- r1.length,<- r2.length];exact hz)
 refine⟨.ref s.heap.objs.size,_,I.laid (t':=s.toks) (o:=.tup (xs++ys)) (fun b ob q=>aq _ q) (ax _) ?_,rfl,q2 (fun w=>z (r2.nil_iff.mpr w)) _ (I.hok.fresh (ax _))⟩
 exact⟨by rw[ah];exact hz,_,r1.append r2,IsTup.new _ _⟩
theorem Aa:iL X (.type "tuple") (fun xs H Q=>∃a ys,xs=[.ref a]/\fU X.K H a ys/\Q (.ref a) H):=by
 intro ak s σ H xs us Q I r h
 obtain⟨a,ys,rfl,ha,q⟩:=h
 obtain⟨u,rfl,ru⟩:=pF r
 cases ru
 obtain⟨bP,_,p1,_⟩:=I.tuple ha
 exact call_tuple_same (items:=bP.toArray) p1 ⟨.ref a,H,I,rfl,q⟩
end
end L2
namespace L2
open PySem PySem.Spec PyProof.Rows
noncomputable def DC(n:Nat)(i:Int):Option Nat:=if 0<=i then(if i<n then some i.toNat else none)else if -(n:Int)<=i then some (i+n).toNat else none
def tz(xs:List α)(i:Int):Option α:=(DC xs.length i).bind fun j=>xs[j]?
theorem DD{i:Int}(h:DC n i=some j):seqIndex? i n=some j/\j<n/\-(n:Int)<=i/\i<n:=by
 unfold DC at h
 by_cases h0:0<=i
 ·rw[aD h0]at h
  by_cases h1:i<n
  ·rw[aD h1]at h
   have e:i.toNat=j:=bq h
   exact⟨by rw[seqIndex_of h0 h1,e],by omega,by omega,h1⟩
  ·rw[aQ h1]at h;cases h
 ·rw[aQ h0]at h
  by_cases h1:-(n:Int)<=i
  ·rw[aD h1]at h
   have e:(i+n).toNat=j:=bq h
   exact⟨by rw[sT #[0] h1,e],by omega,h1,by omega⟩
  ·rw[aQ h1]at h;cases h
theorem yI{xs:List α}{i:Int}{v:α}(h:tz xs i=some v):∃j,seqIndex? i xs.length=some j/\xs[j]?=some v/\j<xs.length/\-(xs.length:Int)<=i/\i<xs.length:=by
 unfold tz at h
 cases e:DC xs.length i with
 |none=>rw[e]at h;cases h
 |some j=>
  rw[e]at h
  obtain⟨h1,h2,h3,h4⟩:=DD e
  exact⟨j,h1,h,h2,h3,h4⟩
def DE(b:Expr):Prop:=∀o i,subscripted b false o i=operate [o,i] (getItem o i)
def J4(X:Cx)(r:R2):Prop:=
 ∀(value slice:Expr) (ak:List (Addr×Obj)) (s:Shared) (σ:St) (H:Hp) (x y:V) (v u:Value) (Q:VK),bG X ak σ H s->dh s.toks x v->dh s.toks y u->r x y H Q ->
  subscripted slice false v u=operate [v,u] (getItem v u)->wpAny #[5] X.A (subscriptTail value slice v u) (EP X ak σ Q) X.xe s
def ER(X:Cx)(id:String)(r:V->List V->Hp->VK->Prop):Prop:=
 ∀(ak:List (Addr×Obj)) (s:Shared) (σ:St) (H:Hp) (x:V) (xs:List V) (v:Value) (us:List Value) (Q:VK),bG X ak σ H s->dh s.toks x v->cu s.toks xs us->r x xs H Q ->
  wpAny #[5] X.A (call (.builtin id) (v::us)) (EP X ak σ Q) X.xe s
section
variable{a b:Expr}{ta tb:TE}
theorem J4.or{r r':R2}(h:J4 X r)(h':J4 X r'):J4 X (fun x y H Q=>r x y H Q\/r' x y H Q):=by
 intro value slice ak s σ H x y v u Q I rx ry q hs
 rcases q with q|q
 ·exact h value slice ak s σ H x y v u Q I rx ry q hs
 ·exact h' value slice ak s σ H x y v u Q I rx ry q hs
theorem Sk{r:R2}(hr:J4 X r)(ha:PE X a ta)(hb:PE X b tb)(hs:DE b):PE X (.Subscript a b pos) (R7 r ta tb):=by
 intro ak s σ H Q I h
 exact Subscript_ (Ov ha hb I h fun v u s2 x y H2 I2 rx ry q=>hr a b ak s2 σ H2 x y v u Q I2 rx ry q (hs _ _))
def Sl(K:Frag):R2:=fun x y H Q=>∃p xs i v,x=.ref p/\y=.int i/\tm K H p xs/\tz xs i=some v/\Q v H
def Sn(K:Frag):R2:=fun x y H Q=>∃p xs i v,x=.ref p/\y=.int i/\fU K H p xs/\tz xs i=some v/\Q v H
def So:R2:=fun x y H Q=>∃z i c,x=.str z/\y=.int i/\z.length<=sizeLine/\tz z.cps.toList i=some c/\Q (.str ⟨#[c]⟩) H
theorem KC:J4 X (Sl X.K):=by
 intro value slice ak s σ H x y v u Q I rx ry h hs
 obtain⟨p,xs,i,z,rfl,rfl,hq,he,q⟩:=h
 cases rx
 obtain⟨t,rfl⟩:=ry
 obtain⟨bP,r,pl,hz⟩:=I.list hq
 obtain⟨j,h1,h2,h3,h4,h5⟩:=yI he
 obtain⟨w,ew,uq⟩:=r.get h2
 have hl:=r.length
 have hn:=tt
 have j_:EP X ak σ Q w s:=⟨z,H,I,uq,q⟩
 by_cases h0:0<=i
 ·have hj:i.toNat=j:=by
   rw[seqIndex_of h0 h5]at h1
   exact bq h1
  exact item_listR pl.isList h0 #[0] (by rw[hj];simpa using ew) j_ hs
 ·have hj:(i+(bP.toArray.size:Int)).toNat=j:=by
   rw[sT #[0] h4]at h1
   rw[aR,<- hl]
   exact bq h1
  exact oh (x:=w) pl.isList.typeIs slot_list_getitem.lookup
   (wpAny_getItem_list_neg (Q:=fun r s'=>r=w/\EP X ak σ Q r s') pl.isList #[0] (by rw[aR]<;>omega) #[0] (by rw[hj];simpa using ew) ⟨rfl,j_⟩) hs
theorem ON:J4 X (Sn X.K):=by
 intro value slice ak s σ H x y v u Q I rx ry h hs
 obtain⟨p,xs,i,z,rfl,rfl,hq,he,q⟩:=h
 cases rx
 obtain⟨t,rfl⟩:=ry
 obtain⟨bP,r,pl,hz⟩:=I.tuple hq
 obtain⟨j,h1,h2,h3,h4,h5⟩:=yI he
 obtain⟨w,ew,uq⟩:=r.get h2
 have hl:=r.length
 have hn:=tt
 have j_:EP X ak σ Q w s:=⟨z,H,I,uq,q⟩
 exact oh (x:=w) pl.typeIs slot_tuple_getitem.lookup
  (getItem_tuple (j:=j) (Q:=fun r s'=>r=w/\EP X ak σ Q r s') pl #[0] #[0] (by rw[aR,<- hl];exact h1) (by simpa using ew) ⟨rfl,j_⟩) hs
theorem OO:J4 X So:=by
 intro value slice ak s σ H x y v u Q I rx ry h hs
 obtain⟨z,i,c,rfl,rfl,hz,he,q⟩:=h
 obtain⟨t,rfl⟩:=rx
 obtain⟨t',rfl⟩:=ry
 obtain⟨j,h1,h2,h3,h4,h5⟩:=yI he
 have hl:z.cps.toList.length=z.length:=by simp[Str.length]
 rw[hl]at h1 h4 h5
 have hn:=tt
 exact tail_any (lZ s z t) slot_str_getitem.lookup (getItem_str (c:=c) (by
  have e1:decide (i < -(2^63:Int))=false:=aU #[0]
  have e2:decide (i≥2^63)=false:=aU #[0]
  rw[e1,e2,mT]) (by rw[h1];simpa using h2) ⟨.str ⟨#[c]⟩,H,I.tok _,I.tkS,q⟩) hs
def Xh(K:Frag):R2:=fun x y H Q=>Sl K x y H Q\/Sn K x y H Q\/So x y H Q
theorem OP:J4 X (Xh X.K):=KC.or (ON.or OO)
theorem Cc(bP:List Value)(n j:Nat)(u:Value):Obj.mapSeq (·.setIfInBounds j u) { cls:=.type "list",data:=.seq bP.toArray n }={ cls:=.type "list",data:=.seq (bP.set j u).toArray n }:=by
 simp[Obj.mapSeq]
theorem bG.lst{p:Addr}(I:bG X ak σ H s)(h:H p=some (.lst xs)) :
  ∃(bP:List Value) (n:Nat),cu s.toks xs bP/\s.heap.get? p=some { cls:=.type "list",data:=.seq bP.toArray n }/\xs.length<=sizeLine:=by
 obtain⟨z,bP,n,r,e⟩:=I.hok p _ h
 exact⟨bP,n,r,e,z⟩
theorem bG.lstUpd{p:Addr}{ys:List V}{its':List Value}{f:Obj->Obj}(I:bG X ak σ H s)(h:H p=some (.lst xs))
  (ho:s.heap.get? p=some { cls:=.type "list",data:=.seq bP.toArray n }) (hf:f { cls:=.type "list",data:=.seq bP.toArray n }={ cls:=.type "list",data:=.seq its'.toArray n' }) (r:cu s.toks ys its') (hz:ys.length<=sizeLine) (t:Nat) (hk:s.toks<=t:=by first|exact ax _|exact bj _|assumption|omega) :
  bG X ak σ (fB H p (.lst ys)) { s with heap:=s.heap.update p f,toks:=t }:=by
 have e:(s.heap.update p f).get? p=some { cls:=.type "list",data:=.seq its'.toArray n' }:=by
  rw[dB f ho (by rw[hf]<;>rfl),hf]
 refine I.write (x:=p) (e:=p) (by rw[h];trivial) (.inl rfl) (fun b u hb q=>(cz _ _ (Ne.symm hb)).trans q) ⟨_,e⟩ ?_
 exact⟨hz,its',n',r.up hk,e⟩
def Sq:V->V->V->Hp->(Hp->Prop)->Prop:=fun o i v H Q=>∃p xs k j,o=.ref p/\i=.int k/\H p=some (.lst xs)/\DC xs.length k=some j/\Q (fB H p (.lst (xs.set j v)))
theorem Gf:F1 X Sq:=by
 intro ak s σ H o i v ov iv u Q I ro ri rv h
 obtain⟨p,xs,k,j,rfl,rfl,hp,hj,q⟩:=h
 cases ro
 obtain⟨t,rfl⟩:=ri
 obtain⟨bP,n,r,ho,hz⟩:=I.lst hp
 obtain⟨h1,h2,h3,h4⟩:=DD hj
 have hl:=r.length
 have hn:=tt
 have I':bG X ak σ (fB H p (.lst (xs.set j v))) { s with heap:=s.heap.update p (Obj.mapSeq (·.setIfInBounds j u)) }:=
  I.lstUpd hp ho (Cc bP n j u) (r.set rv j) (by rw[oT];exact hz) s.toks
 by_cases h0:0<=k
 ·have hk:k.toNat=j:=by
   rw[seqIndex_of h0 h4]at h1
   exact bq h1
  exact PySem.W.ki_setAt ho h0 #[0] (by rw[aR,<- hl];exact h4) (by rw[hk];exact⟨_,I',q⟩)
 ·have hk:(k+(bP.toArray.size:Int)).toNat=j:=by
   rw[sT #[0] h3]at h1
   rw[aR,<- hl]
   exact bq h1
  exact PySem.W.ki_setBack ho #[0] (by rw[aR,<- hl];exact h3) #[0] (by rw[hk];exact⟨_,I',q⟩)
theorem yJ(lo hi:Option Int)(n:Nat):(sliceBounds lo hi none n).1=((HT.sIx n 0 lo:Nat):Int)/\(sliceBounds lo hi none n).2.1=((HT.sIx n n hi:Nat):Int)/\(sliceBounds lo hi none n).2.2=1:=by
 refine⟨?_,?_,rfl⟩
 ·cases lo with
  |none=>simp[sliceBounds,HT.sIx]
  |some i=>
   simp only[sliceBounds,HT.sIx,Option.getD_none,show(1:Int)>0 by decide,fM]
   by_cases h:i<0
   ·simp only[h,fM]<;>omega
   ·simp only[h,fL]<;>omega
 ·cases hi with
  |none=>simp[sliceBounds,HT.sIx]
  |some i=>
   simp only[sliceBounds,HT.sIx,Option.getD_none,show(1:Int)>0 by decide,fM]
   by_cases h:i<0
   ·simp only[h,fM]<;>omega
   ·simp only[h,fL]<;>omega
theorem wW(bP:List Value)(lo hi:Option Int):slicePick bP.toArray lo hi none=((bP.drop (HT.sIx bP.length 0 lo)).take (HT.sIx bP.length bP.length hi-HT.sIx bP.length 0 lo)).toArray:=by
 obtain⟨h1,h2,h3⟩:=yJ lo hi bP.toArray.size
 unfold slicePick
 rw[h1,h2,h3]
 simp only[sliceRange_one,pick_run,aR]<;>rfl
def V4(K:Frag):V->Option Int->Option Int->Hp->VK->Prop:=fun x lo hi H Q=>∃a xs,x=.ref a/\tm K H a xs/\∀p,H p=none->Q (.ref p) (fB H p (.lst (vw xs lo hi)))
theorem KD:Si X (V4 X.K):=by
 intro ak s σ H x v vl vu lo hi sl Q I rx hs pl pu h
 obtain⟨a,xs,rfl,hx,q⟩:=h
 cases rx
 obtain⟨bP,r,ht,hz⟩:=I.list hx
 have fX:=r.length
 refine⟨"list",_,slot_list_getitem.lookup,ht.isList.typeIs,?_⟩
 refine wpAny_getItem_list_slice ht.isList hs pl pu .none #[15] ?_ (by rw[aR]<;>omega)
 rw[wW,<- fX]
 refine⟨.ref s.heap.objs.size,_,I.laid (t':=s.toks) (o:=.lst (vw xs lo hi)) (fun b ob q=>aq _ q) (ax _) ?_,rfl,q _ (I.hok.fresh (ax _))⟩
 exact⟨aI (ux xs lo hi) hz,_,0,(r.drop (HT.sIx xs.length 0 lo)).take (HT.sIx xs.length xs.length hi-HT.sIx xs.length 0 lo),ay _ rfl⟩
theorem rK:iL X (.builtin "len") (fun xs H Q=>∃p ys,xs=[.ref p]/\(tm X.K H p ys\/fU X.K H p ys)/\Q (.int ys.length) H):=by
 intro ak s σ H xs us Q I r h
 obtain⟨p,ys,rfl,hq,q⟩:=h
 obtain⟨u,rfl,rx⟩:=pF r
 cases rx
 have hn:=tt
 rcases hq with hq|hq
 ·obtain⟨bP,r',pl,hz⟩:=I.list hq
  have fX:=r'.length
  exact Calls.call_len_list pl.isList (by simp only[aR]<;>omega) ⟨.int ys.length,H,I.tok _,⟨s.toks+1,by rw[aR,fX]⟩,q⟩
 ·obtain⟨bP,r',pl,hz⟩:=I.tuple hq
  have fX:=r'.length
  exact len_tuple pl (by simp only[aR]<;>omega) ⟨.int ys.length,H,I.tok _,⟨s.toks+1,by rw[aR,fX]⟩,q⟩
theorem yK:iL X (.builtin "len") (fun xs H Q=>∃z,xs=[.str z]/\z.length<=sizeLine/\Q (.int z.length) H):=by
 intro ak s σ H xs us Q I r h
 obtain⟨z,rfl,hz,q⟩:=h
 obtain⟨u,rfl,t,rfl⟩:=pF r
 have hn:=tt
 exact len_str #[0] ⟨.int z.length,H,I.tok _,⟨_,rfl⟩,q⟩
theorem yL:iL X (.type "list") (fun xs H Q=>∃p ys,xs=[.ref p]/\(tm X.K H p ys\/fU X.K H p ys)/\∀l,H l=none->Q (.ref l) (fB H l (.lst ys))):=by
 intro ak s σ H xs us Q I r h
 obtain⟨p,ys,rfl,hq,q⟩:=h
 obtain⟨u,rfl,rx⟩:=pF r
 cases rx
 have j_:∀(bP:List Value),cu _ ys bP->ys.length<=sizeLine->∀(h':Heap) (c':Nat),(∀b o',s.heap.get? b=some o'->h'.get? b=some o') ->
   h'.get? s.heap.objs.size=some { cls:=.type "list",dict:=none,data:=.seq bP.toArray c',slots:=#[] }->EP X ak σ Q (.ref s.heap.objs.size) { s with heap:=h' }:=fun bP r' hz h' c' kp e=>
  ⟨.ref s.heap.objs.size,_,I.laid (t':=s.toks) kp (ax _) (show gq X.prog X.w _ _ h' _ (.lst ys)from⟨hz,bP,c',r',e⟩),rfl,q _ (I.hok.fresh (ax _))⟩
 rcases hq with hq|hq
 ·obtain⟨bP,r',pl,hz⟩:=I.list hq
  have fX:=r'.length
  obtain⟨o,ho,hc,n,hd⟩:=pl.isList
  exact call_list_seq p (.inl rfl) ho hc hd (fun h' c' kp e=>j_ bP r' hz h' c' kp e) (by simp only[aR]<;>omega)
 ·obtain⟨bP,r',pl,hz⟩:=I.tuple hq
  have fX:=r'.length
  obtain⟨o,ho,hc,n,hd⟩:=pl
  exact call_list_seq p (.inr rfl) ho hc hd (fun h' c' kp e=>j_ bP r' hz h' c' kp e) (by simp only[aR]<;>omega)
theorem wX:iL X (.type "tuple") (fun xs H Q=>∃p ys,xs=[.ref p]/\((tm X.K H p ys/\∀l,H l=none->Q (.ref l) (fB H l (.tup ys)))\/(fU X.K H p ys/\Q (.ref p) H))):=by
 intro ak s σ H xs us Q I r h
 obtain⟨p,ys,rfl,h⟩:=h
 obtain⟨u,rfl,rx⟩:=pF r
 cases rx
 rcases h with⟨hq,q⟩|⟨hq,q⟩
 ·obtain⟨bP,r',pl,hz⟩:=I.list hq
  have fX:=r'.length
  refine call_tuple_list pl.isList (fun h' kp=>?_) (by simp only[aR]<;>omega)
  have I1:bG X ak σ H { s with heap:=h' }:=I.kept (t':=s.toks) kp
  have I2:bG X ak σ (fB H h'.objs.size (.tup ys)) { s with heap:=h'.push { cls:=.type "tuple",data:=.seq bP.toArray } }:=
   I1.laid (t':=s.toks) (fun b o e=>aq _ e) (ax _) (show gq X.prog X.w _ _ _ _ (.tup ys)from⟨hz,bP,r',IsTup.new _ _⟩)
  exact⟨.ref h'.objs.size,_,I2,rfl,q _ (I1.hok.fresh (ax _))⟩
 ·obtain⟨bP,r',pl,hz⟩:=I.tuple hq
  exact call_tuple_same pl ⟨.ref p,H,I,rfl,q⟩
def Vj(K:Frag)(T:String)(x:V)(H:Hp):Prop:=match x with
 |.str _=>T="str"
 |.int _=>T="int"
 |.ref p=>(T="list"/\∃xs,tm K H p xs)\/(T="tuple"/\∃o,K.lookup p=some o/\o.cls=.type "tuple"/\o.dict=none) \/
   (T="dict"/\((∃gz,H p=some (.dK gz))\/∃gz,H p=some (.dT gz)))\/(T="set"/\∃S n,H p=some (.set S n))
 |_=>False
theorem Cd{x:V}(I:bG X ak σ H s)(r:dh s.toks x v)(ty:Vj X.K T x H) :
  s.TypeIs v T/\∀a,v=.ref a->∃ob,s.heap.get? a=some ob/\ob.dict=none:=by
 cases x with
 |str z=>
  obtain⟨t,rfl⟩:=r
  cases(show T="str" from ty)
  exact⟨lZ s z t,fun _ e=>nomatch e⟩
 |int i=>
  obtain⟨t,rfl⟩:=r
  cases(show T="int" from ty)
  exact⟨typeIs_int s i t,fun _ e=>nomatch e⟩
 |ref p=>
  cases r
  rcases ty with⟨rfl,xs,hq⟩|⟨rfl,o,hk,hc,hd⟩|⟨rfl,hk⟩|⟨rfl,S,n,hk⟩
  ·obtain⟨bP,_,pl,_⟩:=I.list hq
   refine⟨pl.isList.typeIs,fun a e=>?_⟩
   cases e
   obtain⟨o,n,e,c,hd,_⟩:=pl
   exact⟨o,e,hd⟩
  ·refine⟨⟨o,I.kIn p o hk,hc⟩,fun a e=>?_⟩
   cases e
   exact⟨o,I.kIn _ o hk,hd⟩
  ·have z:∃o,s.heap.get? p=some o/\o.ExactDict:=by
    rcases hk with⟨gz,hk⟩|⟨gz,hk⟩
    ·obtain⟨_,_,_,_,o,_,_,e,ex,_⟩:=I.hok p _ hk
     exact⟨o,e,ex⟩
    ·obtain⟨_,_,_,_,o,_,_,e,ex,_⟩:=I.hok p _ hk
     exact⟨o,e,ex⟩
   obtain⟨o,e,ex⟩:=z
   refine⟨⟨o,e,ex.1⟩,fun a e2=>?_⟩
   cases e2
   exact⟨o,e,ex.2.1⟩
  ·obtain⟨o,_,_,_,e,ex,_⟩:=I.hok p _ hk
   refine⟨⟨o,e,ex.1⟩,fun a e2=>?_⟩
   cases e2
   exact⟨o,e,ex.2.1⟩
 |_=>exact False.elim ty
variable{to:TE}{t:TA}{id:String}
end
end L2
namespace L2
open PySem PySem.Spec PyProof.Rows
def WP(X:Cx)(id:String)(r:V->List V->Hp->VK->Prop):Prop:=
 ∀(ak:List (Addr×Obj)) (s:Shared) (σ:St) (H:Hp) (x:V) (xs:List V) (v:Value) (us:List Value) (Q:VK),bG X ak σ H s->dh s.toks x v->cu s.toks xs us->r x xs H Q ->
  wpAny #[5] X.A (call (.builtin id) (v::us)) (EP X ak σ Q) X.xe s
theorem cu.one{x:V}(h:cu nk [x] us):∃u,us=[u]/\dh nk x u:=by cases h with|cons r t=>cases t;exact⟨_,rfl,r⟩
theorem cu.two{x y:V}(h:cu nk [x,y] us):∃u v,us=[u,v]/\dh nk x u/\dh nk y v:=by cases h with|cons r t=>obtain⟨v,rfl,q⟩:=cu.one t;exact⟨_,v,rfl,r,q⟩
theorem cu.zero:∀{us:List Value},cu nk [] us->us=[]
 |_,.nil=>rfl
theorem cu.dropLast(h:cu nk xs us):cu nk xs.dropLast us.dropLast:=by
 induction h with
 |nil=>exact .nil
 |cons r t ih=>
  cases t with
  |nil=>exact .nil
  |cons q t'=>exact .cons r ih
theorem Ce(l:List α):l.eraseIdx (l.length-1)=l.dropLast:=by
 induction l with
 |nil=>rfl
 |cons a r ih=>
  cases r with
  |nil=>rfl
  |cons b r=>
   have e:(a::b::r).length-1=((b::r).length-1)+1:=by
    have h1:(a::b::r).length=r.length+2:=rfl
    have h2:(b::r).length=r.length+1:=rfl
    omega
   rw[e,List.eraseIdx_cons_succ,ih]
   all_goals rfl
section
variable{l b:Addr}{ys zs:List V}
theorem bG.lset{its':List Value}{f:Array Value->Array Value}(I:bG X ak σ H s)(hH:H l=some (.lst xs))
  (e:s.heap.get? l=some { cls:=.type "list",data:=.seq bP.toArray n }) (hf:f bP.toArray=its'.toArray) (hv:cu t' ys its') (hz:ys.length<=sizeLine) (hk:s.toks<=t':=by first|exact ax _|exact bj _|assumption|omega) :
  bG X ak σ (fB H l (.lst ys)) { s with heap:=s.heap.update l (Obj.mapSeq f),toks:=t' }:=by
 have q:=PySem.IsL.update e f
 rw[hf]at q
 refine I.write (x:=l) (e:=l) (by rw[hH];exact trivial) (.inl rfl) (fun b' u hb hu=>(cz s.heap (Obj.mapSeq f) (Ne.symm hb)).trans hu) ⟨_,q⟩ ?_
 exact⟨hz,its',_,hv,q⟩
theorem bG.lnew{t':Nat}(I:bG X ak σ H s)(hv:cu t' ys bP)(hz:ys.length<=sizeLine)(hk:s.toks<=t':=by first|exact ax _|exact bj _|assumption|omega) :
  bG X ak σ (fB H s.heap.objs.size (.lst ys)) { s with heap:=s.heap.push { cls:=.type "list",data:=.seq bP.toArray },toks:=t' }:=
 I.laid (fun _ _ q=>aq _ q) (ax _) ⟨hz,bP,0,hv,ay _ rfl⟩
theorem bG.fresh(I:bG X ak σ H s):H s.heap.objs.size=none:=I.hok.fresh (ax _)
theorem bG.lstM(I:bG X ak σ H s)(hH:H l=some (.lst xs)):xs.length<=sizeLine/\∃(bP:List Value) (n:Nat),cu s.toks xs bP/\xs.length=bP.length/\s.heap.get? l=some { cls:=.type "list",data:=.seq bP.toArray n }:=by
 obtain⟨z,bP,n,r,e⟩:=I.hok l _ hH
 exact⟨z,bP,n,r,r.length,e⟩
end
section
def DF:V->List V->Hp->VK->Prop:=fun x vs H Q=>∃l xs y,x=.ref l/\vs=[y]/\H l=some (.lst xs)/\xs.length<sizeLine/\Q .non (fB H l (.lst (xs++[y])))
theorem ES:WP X "list.append" DF:=by
 intro ak s σ H x vs v us Q I rx rv h
 obtain⟨l,xs,y,rfl,rfl,hH,hz,q⟩:=h
 cases rx
 obtain⟨u,rfl,ru⟩:=rv.one
 obtain⟨z,bP,n,r,hl,e⟩:=I.lstM hH
 refine rG F.slot_list_append ⟨_,e,rfl⟩ F.entry_list_append (F.args_list_append_2 _ _) (PySem.list_append l bP.toArray n u (by rw[aR];omega)) ⟨e,?_⟩
 refine⟨.non,_,I.lset (its':=bP++[u]) hH e #[15] (r.append (.cons ru .nil)) ?_,rfl,q⟩
 rw[ah,bb]
 omega
def Ss:V->List V->Hp->VK->Prop:=fun x vs H Q=>∃l xs y,x=.ref l/\vs=[]/\H l=some (.lst xs)/\xs[xs.length-1]?=some y/\Q y (fB H l (.lst xs.dropLast))
theorem OQ:WP X "list.pop" Ss:=by
 intro ak s σ H x vs v us Q I rx rv h
 obtain⟨l,xs,y,rfl,rfl,hH,hy,q⟩:=h
 cases rx
 have hus:=rv.zero
 subst hus
 obtain⟨z,bP,n,r,hl,e⟩:=I.lstM hH
 obtain⟨u,hu,ru⟩:=r.get hy
 have hy':bP.toArray[bP.toArray.size-1]?=some u:=by
  show bP.toArray[bP.length-1]?=some u
  rw[<- fA,<- hl]
  exact hu
 refine rG F.slot_list_pop ⟨_,e,rfl⟩ F.entry_list_pop (F.args_list_pop_1 _) (MeetsSeq.list_pop_last l bP.toArray n u hy' (by rw[aR];omega)) ⟨e,?_⟩
 refine⟨y,_,I.lset (its':=bP.dropLast) hH e ?_ r.dropLast ?_,ru,q⟩
 ·show bP.toArray.eraseIdxIfInBounds (bP.toArray.size-1)=bP.dropLast.toArray
  rw[aR,List.eraseIdxIfInBounds_toArray,Ce]
 ·rw[List.length_dropLast]
  omega
def V5:R2:=fun x y H Q=>∃l b xs zs,x=.ref l/\y=.ref b/\H l=some (.lst xs)/\H b=some (.lst zs)/\xs.length+zs.length<=sizeLine/\∀p,H p=none->Q (.ref p) (fB H p (.lst (xs++zs)))
theorem OR:oZ X (binaryOp .Add) V5:=by
 intro ak s σ H x y v u Q I rx ry h
 obtain⟨l,b,xs,zs,rfl,rfl,hH,hB,hz,q⟩:=h
 cases rx
 cases ry
 obtain⟨z,bP,n,r,hl,e⟩:=I.lstM hH
 obtain⟨z2,its2,n2,r2,hl2,e2⟩:=I.lstM hB
 refine PySem.P.add_list e e2 ?_ (by rw[aR,aR];omega)
 have ea:bP.toArray++its2.toArray=(bP++its2).toArray:=by simp
 rw[ea]
 exact⟨.ref _,_,I.lnew (t':=s.toks) (r.append r2) (by rw[ah];omega),rfl,q _ I.fresh⟩
end
section
variable{w:World}
end
section
end
end L2
namespace Att
open PySem PySem.W PySem.Calls PyProof.Rows
theorem uU{P:Params}:∀(ns:List Int) (vs:List Value),WellAll P h vs (ns.map WData.int)->IntsAre vs ns:=by
 intro ns
 induction ns with
 |nil=>
  intro vs w
  rw[List.map_nil]at w
  cases w
  exact .nil
 |cons n ns ih=>
  intro vs w
  rw[bt]at w
  cases w with
  |cons a b=>
   cases a
   exact .cons _ _ (ih _ b)
theorem ET{l:OpenLaw}(hn:l.most=some n){P:Params}{args:List WData}{u9:List Value}
  (BB:l.row.toRowW.claim.pre args=true) (VD:WellAll P h u9 args) :
  ∃a vs ns,u9=[Value.ref a]/\args=[WData.list (ns.map WData.int)]/\h.get? a=some { cls:=.type "list",data:=.seq vs.toArray }/\IntsAre vs ns/\ns.length<=n:=by
 have hsh:WShape.hasAll [] args [.list .int]=true:=(pre_splitW BB).1
 have hc:l.pre.holds [] { args:=args }=true:=(pre_splitW BB).2
 obtain⟨d,r,rfl,h1,h2⟩:=hasAllW_cons hsh
 obtain rfl:=hasAllW_nil h2
 obtain⟨xs,rfl,h3⟩:=hasW_list h1
 obtain⟨ns,rfl⟩:=items_int h3
 have fX:ns.length<=n:=by
  unfold OpenLaw.pre at hc
  have h4:(WTm.not (.lt (.lit (.int (n:Int))) (.len (.arg 0)))).holds [] { args:=[.list (ns.map .int)] }=true:=by
   have h4:=(holds_andW hc).1
   rw[hn]at h4
   exact h4
  have h5:=condW_of h4 (w_not (w_lt w_lit (w_len_list (w_arg rfl))))
  rw[az]at h5
  refine Nat.le_of_not_lt fun q=>?_
  have q':(n:Int)<((ns.length:Nat):Int):=by omega
  first
   |(rw[a_ q']at h5;exact absurd h5 (by decide))
   |(simp at h5;omega)
 cases VD with
 |cons w1 w2=>
  cases w2
  cases w1 with
  |list ho hall=>exact⟨_,_,ns,rfl,rfl,ho,uU ns _ hall,fX⟩
theorem EU(l:OpenLaw)(args:List WData):l.row.toRowW.claim.post args (.bool true) args=true:=
 postW_of (r:=l.row.toRowW) (X:=(true==true))
  (show WShape.has [] (.bool true) .bool=true by first|rfl|decide|simp[WShape.has,WShape.arms,WShape.armsAll])
  (show(WTm.eq .res (.lit (.bool true))).value [] { args:=args,res:=some (.bool true),after:=args }=some (.bool (true==true))from w_eq_bool (w_res rfl) w_lit) rfl
theorem attach_call{l:OpenLaw}{q:Program}{yA:List Str}{d:DefRec}
  (hn:l.most=some n) (UT:d.params.defaults=[])
  (call:∀(w:World) (s₀ s₁:Shared) (mg mb:Str->Option Value) (fa:Addr) (o:Obj) (pm cd tf:Value) (a:Addr) (vs:List Value) (ns:List Int),
   Ground q yA [] XP w s₀ mg mb s₁.heap->YP w s₁.heap ->
   s₁.heap.get? fa=some o->o.data=.func (docDef d.name d.params d.body d.scope pm cd tf)->s₁.heap.CodeRec cd d.name->mg d.name=some (.ref fa) ->
   s₁.heap.get? a=some { cls:=.type "list",data:=.seq vs.toArray }->IntsAre vs ns->ns.length<=n->s₁.gens=#[] ->
   codeAny (model l.prog w) callerA (.call (.ref fa) ⟨[.ref a],[]⟩) (fun r s'=>r=.ok (.ret (.bool true))/\OldK s₁.heap s'.heap/\s'.os=s₁.os/\AllBare s'.gens) s₁) :
  WalkO q yA XP YP l.row.toRowW d [] (fun f vs=>PySem.call f vs):=by
 intro w s₀ s₁ mg mb G Y fa o pm cd tf dV kV ho hd BP hD hmg hg args u9 as BB hlay hrd VD hlo
 obtain rfl:dV=.none:=Dflts.none hD UT
 obtain rfl:kV=.none:=Dflts.noKw hD
 obtain⟨a,vs,ns,rfl,rfl,hobj,hints,fX⟩:=ET hn BB VD
 refine enter_call (iJ (call w s₀ s₁ mg mb fa o pm cd tf a vs ns G Y ho (fd_plain hd) BP hmg hobj hints fX hg) fun r s' hq=>?_)
 obtain⟨rfl,h2,h3,h4⟩:=hq
 exact⟨.inl ⟨.bool true,.bool true,[],rfl,fun _=>rfl,.bool true,EU l _,fun _=>⟨List.Pairwise.nil,fun _ hm=>(nomatch hm)⟩⟩,h2,h3,h4⟩
section
variable{w:World}
end
end Att
namespace L2
open PySem PySem.Spec PyProof.Rows
theorem xM:∀{vs:List Value} {ns:List Int},IntsAre vs ns->cu nk (ns.map V.int) vs
 |_,_,.nil=>.nil
 |_,_,.cons n t h=>.cons ⟨t,rfl⟩ (xM h)
def KF(H:Hp):Prop:=∀b,H b=none\/∃o xs,H b=some (.frz o (.lst xs))
theorem Gh{P:Program}{w:World}{mb:Str->Option Value}{CX:EN}{fa a:Addr}{fd:FuncData}{sp:Sp}{s₁:Shared}{vs:List Value}
  (KX:K.In s₁.heap) (Wz:s₁.heap.Ns mainGlobals mg) (hb:s₁.heap.Ns builtinsNs mb) (Xo:∀x:Str,x ≠ "__name__"->mb x=bootBuiltins x) (WG:s₁.heap.NoLimit) (hg:s₁.gens=#[])
  (ha:s₁.heap.get? a=some { cls:=.type "list",data:=.seq vs.toArray }) (hi:IntsAre vs ns) (hl:ns.length<=sizeLine) (hr:jz k callerA)
  (F:∀base:Heap,K.In base->base.Ns mainGlobals mg->cJ P w K mg base CX k fa fd [x] sp) (U2:∀(s:Shared) (u:Value),BindsTo s fd ⟨[u],[]⟩ [(x,u)]) (RB:fd.scope.names.lookup x=some .local)
  (NF:∀H:Hp,KF H->tm K H a (ns.map V.int)->sp [.ref a] H (fun v _=>v=.bl true) fun _ _ _=>False)
  (WF:∀H e s',CX [] H s₁ (fun _ _ _=>False) e s'->False) :
  codeAny (model P w) callerA (.call (.ref fa) ⟨[.ref a],[]⟩) (fun r s'=>r=.ok (.ret (.bool true))/\OldK s₁.heap s'.heap/\s'.os=s₁.os/\AllBare s'.gens) s₁:=by
 have rv:cu 0 _ _:=xM hi
 have lenV:=hi.length
 have core:∀H:Hp,KF H->tm K H a (ns.map V.int)->s_ P w s₁.toks H s₁.heap->(∀b,H b≠none->b=a)->(H a≠none->K.lookup a=none) ->
   codeAny (model P w) callerA (.call (.ref fa) ⟨[.ref a],[]⟩) (fun r s'=>r=.ok (.ret (.bool true))/\OldK s₁.heap s'.heap/\s'.os=s₁.os/\AllBare s'.gens) s₁:=by
  intro H hO hS hok hA hK
  have base_of:∀{b:Addr} {o:Obj},s₁.heap.get? b=some o->H b=none->(yE s₁.heap H).get? b=some o:=fun e n=>FV e n
  have noA:∀{b:Addr} {o:Obj} {es:Array DictEntry} {ep:Nat},s₁.heap.get? b=some o->o.data=.dict es ep->H b=none:=fun{b o es ep} e d=>by
   cases q:H b with
   |none=>rfl
   |some u=>
    have e':b=a:=hA b (by rw[q];simp)
    subst e'
    rw[ha]at e;cases e
    have d':Data.seq vs.toArray _=Data.dict es ep:=d
    cases d'
  have nsK:∀{b:Addr} {m:Str->Option Value},s₁.heap.Ns b m->(yE s₁.heap H).Ns b m:=fun{b m} ⟨o,es,ep,e,d,r⟩=>⟨o,es,ep,base_of e (noA e d),d,r⟩
  have hKb:K.In (yE s₁.heap H):=fun b o e=>base_of (KX b o e) (by
   cases q:H b with
   |none=>rfl
   |some u=>
    have e':b=a:=hA b (by rw[q];simp)
    subst e'
    rw[hK (by rw[q];simp)]at e;cases e)
  have hM:Mod K mg (yE s₁.heap H):=⟨hKb,nsK Wz,⟨mb,nsK hb,Xo⟩,let ⟨mc,h1,h2⟩:=WG;⟨mc,nsK h1,h2⟩⟩
  have e0:B1 P w K mg (yE s₁.heap H) callerA [] s₁ H:=⟨rfl,hM,fun b o e=>Kf e,Nat.le_of_eq (EC _ _),trivial,fun b hb=>absurd (show b∈([]:List Addr)from hb) #[15],hok,.of_eq hg⟩
  refine iJ ((F _ hKb (nsK Wz)).run callerA [] s₁ H ⟨[.ref a],[]⟩ [.ref a] [.ref a] _ _ hr e0 (.inr ⟨x,rfl,RB⟩) (U2 s₁ (.ref a)) (.cons rfl .nil) (NF H hO hS)) fun r s' h=>?_
  cases r with
  |error e=>exact(WF H e s' h).elim
  |ok fl=>
   cases fl with
   |next=>exact False.elim h
   |brk=>exact False.elim h
   |cont=>exact False.elim h
   |ret u=>
    obtain⟨v,H',os,bare,un,hok',r',q⟩:=h
    have q':v=.bl true:=q
    subst q'
    obtain rfl:u=Value.bool true:=r'
    refine⟨rfl,OldK.of_keep fun b o e=>?_,os,bare⟩
    cases q:H b with
    |none=>exact un.keep b o e q (by intro z;exact absurd (show b∈([]:List Addr)from z) (by simp)) (by simp)
    |some u=>
     rcases hO b with z|⟨ob,xs,z⟩
     ·rw[q]at z;cases z
     ·have z2:=un.frzs b ob _ z
      obtain⟨e1,_⟩:=hok b _ z
      obtain⟨e2,_⟩:=hok' b _ z2
      rw[e]at e1;cases e1
      exact e2
 cases hk:K.lookup a with
 |some o=>
  have e:=KX a o hk
  rw[ha]at e
  cases e
  refine core (fun _=>none) (fun _=>.inl rfl) (.inr ⟨_,vs.toArray,_,hk,rfl,rfl,rfl,by rw[aR,lenV];exact hl,by simpa using rv⟩) (fun b u z=>by have z':(none:Option HO)=some u:=z;cases z') (fun b z=>absurd rfl z) fun z=>absurd rfl z
 |none=>
  refine core (fun b=>if b=a then some (.frz { cls:=.type "list",data:=.seq vs.toArray } (.lst (ns.map V.int)))else none) (fun b=>?_) (.inl (.inr ⟨{ cls:=.type "list",data:=.seq vs.toArray },aD rfl⟩)) (fun b u z=>?_) (fun b z=>?_) fun _=>hk
  ·by_cases hb:b=a
   ·exact .inr ⟨_,_,aD hb⟩
   ·exact .inl (aQ hb)
  ·by_cases hb:b=a
   ·have z':=(aD hb).symm.trans z
    cases z'
    subst hb
    exact⟨ha,by rw[az];exact hl,vs,_,rv.up (b7 _),ha⟩
   ·have z':=(aQ hb).symm.trans z
    cases z'
  ·by_cases hb:b=a
   ·exact hb
   ·exact absurd (aQ hb) z
end L2
namespace L2
open PySem PySem.Spec PyProof.Rows
theorem walk_of{l:PySem.W.OpenLaw}{n k:Nat}{q:Program}{yA:List Str}{d:DefRec}{K:Params->Frag}{CX:World->EN}{sp:World->Sp}{x:Str}
  (hn:l.most=some n) (UV:n<=sizeLine) (UT:d.params.defaults=[]) (hr:jz k callerA)
  (hY:∀(w:World) (h:Heap),YP w h->(K w.params).In h)
  (F:∀(w:World) (mg:Str->Option Value) (fa:Addr) (h:Heap),(K w.params).In h->h.Ns mainGlobals mg->mg d.name=some (.ref fa) ->
   ∃fd:FuncData,fd.scope.names.lookup x=some .local/\(∀(s:Shared) (u:Value),BindsTo s fd ⟨[u],[]⟩ [(x,u)]) /\
    ∀base:Heap,(K w.params).In base->base.Ns mainGlobals mg->cJ l.prog w (K w.params) mg base (CX w) k fa fd [x] (sp w))
  (NF:∀(w:World) (H:Hp) (a:Addr) (ns:List Int),ns.length<=n->KF H->tm (K w.params) H a (ns.map V.int)->sp w [.ref a] H (fun v _=>v=.bl true) fun _ _ _=>False)
  (WF:∀(w:World) (H:Hp) (s:Shared) (e:Value) (s':Shared),CX w [] H s (fun _ _ _=>False) e s'->False) :
  PySem.W.WalkO q yA XP YP l.row.toRowW d [] (fun f vs=>PySem.call f vs):=by
 refine Att.attach_call hn UT fun w s₀ s₁ mg mb fa o pm cd tf a vs ns G Y ho hd BP hmg hobj hints fX hg=>?_
 have KX:=hY w _ Y
 obtain⟨fd,RB,hb,hF⟩:=F w mg fa _ KX G.T.g hmg
 exact Gh KX G.T.g G.T.b G.T.builtins G.T.nolimit hg hobj hints (aI fX UV) hr hF hb RB (fun H hO hS=>NF w H a ns fX hO hS) fun H e s'=>WF w H s₁ e s'
end L2
namespace L2
open PySem PySem.Spec PyProof.Rows
noncomputable def iD(s:Stmt):Arguments:=match s with
 |.FunctionDef _ a _ _ _ _ _ _ _ _=>a
 |_=>{ posonlyargs:=[],args:=[],vararg:=none,kwonlyargs:=[],kw_defaults:=[],kwarg:=none,defaults:=[] }
noncomputable def gA(s:Stmt):List Stmt:=match s with
 |.FunctionDef _ _ b _ _ _ _ _ _ _=>b
 |_=>[]
noncomputable def aK(s:Stmt):Scope:=match s with
 |.FunctionDef _ _ _ _ _ _ sc _ _ _=>sc
 |_=>{ kind:=.function,names:=[],isGenerator:=false,isCoroutine:=false }
structure ie(K:Frag)(x fv:Str)(st:Stmt)(f:Addr)(fd:FuncData):Prop where
 ex:∃(oc:Value) (od:Option Addr) (kV tf pm:Value) (an:Option Addr) (eP ct:Value) (NY:Array (Option Value)),
  fd=fnOf x fv (iD st) (gA st) (aK st) .none kV tf pm an eP ct/\K.lookup f=some ⟨oc,od,.func fd,NY⟩/\codeIn K eP fv=true
 kp:keepIn K (.ref f)=true
section
variable{w:World}
theorem ie.binds{st:Stmt}{f:Addr}(F:ie K x fv st f fd)
  (h:∀(kV tf pm:Value) (an:Option Addr) (eP ct:Value) (us:List Value),us.length=ps.length->bindArgs (fnOf x fv (iD st) (gA st) (aK st) .none kV tf pm an eP ct) ⟨us,[]⟩=pure (ps.zip us)):qx K fd ps []:=by
 obtain⟨oc,od,kV,tf,pm,an,eP,ct,NY,rfl,lk,BP⟩:=F.ex
 exact .all (h kV tf pm an eP ct)
theorem yM{st:Stmt}{f:Addr}{oc:Value}{od an:Option Addr}{NY:Array (Option Value)}{kV tf pm eP ct:Value}(l:K.lookup f=some ⟨oc,od,.func (fnOf x fv (iD st) (gA st) (aK st) .none kV tf pm an eP ct),NY⟩)
  (c:codeIn K eP fv=true) (k:keepIn K (.ref f)=true):ie K x fv st f (fnOf x fv (iD st) (gA st) (aK st) .none kV tf pm an eP ct):=⟨⟨oc,od,kV,tf,pm,an,eP,ct,NY,rfl,l,c⟩,k⟩
end
section
theorem pv(i:Nat){pos:Pos}(hN:X.N[i]?=some x:=by rfl)(hv:RR X.env.scope x:=by first|exact Or.inl rfl|exact Or.inr (Or.inl rfl)|exact Or.inr (Or.inr rfl))(hd:(x==("__debug__":Str))=false:=by decide)
  (BP:(x==("__classdict__":Str))=false:=by decide):PE X (.Name x pos) (RT i):=Oa hN hv hd BP
end
def uV(H H':Hp):Prop:=∀b o,H b=some o->H' b=some o
theorem uV.refl(H:Hp):uV H H:=fun _ _ h=>h
end L2
namespace L2
open PySem PySem.Spec PyProof.Rows
section
variable{κ:Type}[DecidableEq κ]
end
section
variable{w:World}{a:Addr}
end
section
variable{a:Addr}{y v:V}{r:Value}{o:Option V}
end
section
variable{a:Addr}{gz:List (vn×V)}{k:vn}
end
section
variable{i value:Expr}{WE:Pos}{td ty tv:TE}
end
section
end
section
variable{a:Addr}{y d:V}{r:Value}{o:Option V}
end
section
variable{f:Expr}{td ty tx:TE}
end
section
variable{a:Addr}{gz:List (vn×V)}
end
section
variable{a:Addr}{y:V}
end
end L2
namespace L2
open PySem PySem.Spec PyProof.Rows
section
end
section
variable{κ:Type}[DecidableEq κ]
end
end L2
set_option maxHeartbeats 4000000
namespace L2
open PySem PySem.Spec PyProof.Rows
theorem tD{t:Sem α}{Q Q':α->Shared->Prop}(h:wpAny M A t Q (fun _ _=>False) s)(hQ:∀a s',s.toks<=s'.toks->Q a s'->Q' a s'):wpAny M A t Q' E s:=
 up (ji h (fun a s' q k=>hQ a s' k q) fun _ _ z=>z.elim)
abbrev c7(X:Cx)(nm:List Str)(scope:Scope)(cl:List (Str×Addr))(C:Addr)(s0:Shared)(H0:Hp)(fp:List Addr):Cx:=
 { X with N:=nm,s₀:=s0,H₀:=H0,env:=compEnvC scope cl C X.env,outer:=X.stack,stack:=X.stack,ex:=fp,fn:=fun _=>false,pn:=[],xe:=fun _ _=>False }
def Gi(X:Cx)(mi:List Expr)(t:TT):Prop:=
 ∀(ak:List (Addr×Obj)) (s:Shared) (σ:St) (H:Hp) (Q:Bool->Hp->Prop),bG X ak σ H s->t σ H Q ->
  wpAny #[5] X.A (forIn mi true fun c r=>if r=true then do let ok <- isTrue c X.env (eval c X.env);pure (ForInStep.yield ok)else pure (ForInStep.yield r)) (TP X ak σ Q) X.xe s
def V6:TT:=fun _ H Q=>Q true H
theorem KG:Gi X [] V6:=fun _ _ _ H _ I h=>wpAny_tests_nil ⟨H,I,h⟩
theorem KH{c:Expr}{t:TT}(hc:PT X c t):Gi X [c] t:=fun ak s σ H Q I h=>wpAny_tests_one (hc ak s σ H Q I h)
def qy(cap:List (Option Nat))(σ:St):St:=cap.map fun o=>o.bind fun j=>(σ[j]?).join
def vx(cap:List (Option Nat))(wi:TI)(g:TG)(tc:TT)(te:TE):TE:=fun σ H Q=>wi σ H fun J H1=>∃W:Nat->Nat->List V->Hp->Prop,(∃m,W 0 m [] H1)/\∀i m ys H2,W i m ys H2 ->
 (J.stop i H2/\ys.length<=sizeLine/\∀p,H2 p=none->Q (.ref p) (fB H2 p (.lst ys))) \/
 (J.go i H2/\∀x H3,J.yld i H2 x H3->g x (qy cap σ) H3 fun σ2 H4=>tc σ2 H4 fun b H5=>if b=true then te σ2 H5 fun y H6=>ys.length<sizeLine/\∃m',m'<m/\W (i+1) m' (ys++[y]) H6 else ∃m',m'<m/\W (i+1) m' ys H5)
theorem Un.cellK{fs ex:List Addr}(u:Un fs ex H H' h h'){c:Addr}{v:Option Value}(x:h.IsCell c v)(n:H c=none)(he:c∉ex):h'.IsCell c v:=by
 obtain⟨o,ho,hd⟩:=x
 obtain⟨sl,q⟩:=u.any ho n he
 exact⟨_,q,hd⟩
structure vy(X:Cx)(scope:Scope)(cl:List (Str×Addr))(x:Str):Prop where
 vis:RR X.env.scope x
 nl:X.env.scope.names.lookup x≠some .local
 cl:cl.lookup x=X.env.cells.lookup x
 kd:(relabel scope X.env).names.lookup x=some .cell\/(relabel scope X.env).names.lookup x=some .free
theorem mL:∀(names:List (Str×NameKind)) (n:Nat) (i8:List (Str×Addr)) {y:Str} {c:Addr},(y,c)∈cellsFrom n names i8->(y,NameKind.cell)∈names\/(y,c)∈i8
 |[],_,_,_,_,h=>.inr h
 |(x,k)::r,n,i8,y,c,h=>by
  have h:(y,c)∈(if k==.cell then cellsFrom (n+1) r ((x,n)::i8)else cellsFrom n r i8):=h
  split at h
  ·rename_i hk
   rcases mL r _ _ h with q|q
   ·exact .inl (aO _ q)
   ·rcases aN.mp q with e|q
    ·cases e
     exact .inl (by rw[nI hk];exact bF)
    ·exact .inr q
  ·rcases mL r _ _ h with q|q
   ·exact .inl (aO _ q)
   ·exact .inr q
theorem jn:∀{l:List (Str×β)} {x:Str} {b:β},l.lookup x=some b->(x,b)∈l
 |[],_,_,h=>by simp at h
 |(y,c)::r,x,b,h=>by
  rw[ke]at h
  cases hx:x==y with
  |true=>rw[hx]at h;have:=nI hx;subst this;cases h;exact bF
  |false=>rw[hx]at h;exact aO _ (jn h)
theorem ki:∀(names:List (Str×NameKind)) (n:Nat) (i8:List (Str×Addr)),cellsFrom n names i8=cellsFrom n names []++i8
 |[],_,_=>rfl
 |(x,k)::r,n,i8=>by
  show(if k==.cell then cellsFrom (n+1) r ((x,n)::i8)else cellsFrom n r i8)=(if k==.cell then cellsFrom (n+1) r [(x,n)]else cellsFrom n r [])++i8
  split
  ·rw[ki r (n+1) ((x,n)::i8),ki r (n+1) [(x,n)],aj];rfl
  ·exact ki r n i8
abbrev eU(X:Cx)(nm:List Str)(scope:Scope)(cl:List (Str×Addr))(C:Addr)(s0:Shared)(H0:Hp)(fp:List Addr):Cx:=
 { c7 X nm scope cl C s0 H0 fp with fn:=fun y=>scope.names.lookup y==some .cell }
theorem KI{M:Model}{A:Around}{E:Value->Shared->Prop}{globals:Addr}{Q:Env->Shared->Prop}
  (hQ:∀h':Heap,h'.Ns s.heap.objs.size (fun x=>([]:List (Str×Value)).reverse.lookup x)->(∀b o,s.heap.get? b=some o->h'.get? b=some o)->CellsOk h' #[8] (cellsFrom #[8] scope.names []) ->
   Q (newEnv scope s.heap.objs.size globals (cellsFrom #[8] scope.names []++cl) fv none .none (some env) builtinsNs) { s with heap:=h' }) :
  wpAny M A (newFunctionEnv scope globals cl [] fv none .none (some env)) Q E s:=by
 simp only[newFunctionEnv,Option.isSome_some,fM]
 refine ae (wpAny_alloc ?_)
 refine ae (wpAny_layCells _ (fun name kind cells=>by cases hkc:kind==NameKind.cell<;>simp[hkc]) _ _ _ _ ?_)
 have ok:=cellsFrom_ok scope.names (s.heap.push { cls:=.type "dict",data:=.dict #[] }) #[8] [] ⟨fun _ _ hm=>(nomatch hm),List.Pairwise.nil⟩ (by rw[bu];exact ax _)
 rw[bu]at ok
 rw[show({ s with heap:=s.heap.push { cls:=.type "dict",data:=.dict #[] } }:Shared).heap.objs.size=s.heap.objs.size+1 from bu ..,ki _ _ cl]
 exact ae (au (au (hQ _ ((Heap.Ns.new s.heap (.type "dict")).keeps (kS _ _)) (fun b o e=>kS _ _ b o (aq _ e)) ok)))
section
variable{wi:TI}{g:TG}{tc:TT}
theorem yN{prog:Program}{w:World}{A:Around}{E:Value->Shared->Prop}{l:Addr}{u:Value}{Q:Value->Shared->Prop}
  (e:s.heap.get? l=some { cls:=.type "list",data:=.seq bP.toArray n }) (hz:bP.length<sizeLine)
  (h:∀(h':Heap) (n' tk:Nat),h'.get? l=some { cls:=.type "list",data:=.seq (bP++[u]).toArray n' }->(∀b o,b≠l->s.heap.get? b=some o->h'.get? b=some o)->Q .none { s with heap:=h',toks:=tk }) :
  wpAny #[7] A (call (.builtin "list.append") [.ref l,u]) Q E s:=by
 refine rG F.slot_list_append ⟨_,e,rfl⟩ F.entry_list_append (F.args_list_append_2 _ _) (PySem.list_append l bP.toArray n u (by rw[aR];omega)) ⟨e,?_⟩
 have q:=PySem.IsL.update e (fun a=>a.push u)
 have q2:(s.heap.update l (Obj.mapSeq fun x=>x.push u)).get? l=some { cls:=.type "list",data:=.seq (bP++[u]).toArray (if ((bP.toArray.push u).size==bP.toArray.size)=true then n else n+1) }:=by
  rw[show(s.heap.update l (Obj.mapSeq fun x=>x.push u)).get? l=_ from q];simp
 exact h _ _ s.toks q2 fun b o hb ho=>(cz s.heap (Obj.mapSeq _) (Ne.symm hb)).trans ho
structure Ab(X:Cx)(ak:List (Addr×Obj))(H:Hp)(s:Shared)(C:Addr)(m:Str->Option Value):Prop where
 ns:s.heap.Ns C m
 fr:H C=none
 nl:C≠X.env.locals
 nf:C∉X.fs
 hi:X.s₀.heap.objs.size<=C
 nc:∀x c,X.env.cells.lookup x=some c->c≠C
 np:∀p∈X.pn++ak,p.1≠C
theorem Ab.off{m:Str->Option Value}(B:Ab X ak H s C m)(I:bG X ak σ H s)(hs:Heap.SameBut C s.heap h'):bG X ak σ H { s with heap:=h' }:=I.turned (t':=s.toks) (it:=C) (fun b o hb e=>hs.extBut b o hb e) B.fr B.nl (.inr B.hi) B.nc B.np
theorem Gj{NL:List (Addr×Obj)}{σ2:St}{H1:Hp}{s2:Shared}
  (va:∀(i j:Nat),cap[i]?=some (some j)->∃x,nm[i]?=some x/\X.N[j]?=some x/\vy X scope cl x) (fX:cap.length=nm.length)
  (I2:bG X ak σ H1 s2) (US:∀b∈fp,∀x c,X.env.cells.lookup x=some c->c≠b)
  (I:bG (eU X nm scope cl C s2 H1 fp) NL σ2 H s):bG (eU X nm scope cl C s2 H1 fp) NL (qy cap σ) H s:=by
 refine⟨I.ok,I.os,I.bare,I.base,?_,I.cell,I.free,I.freeC,I.pin,I.hok,by show(qy cap σ).length=nm.length;unfold qy;rw[az];exact fX,I.pos,I.tk⟩
 obtain⟨m,hn,_⟩:=I.loc
 refine⟨m,hn,fun i x v e1 e2 e3=>?_⟩
 unfold qy at e2
 rw[aC]at e2
 cases hc:cap[i]? with
 |none=>rw[hc]at e2;cases e2
 |some oj=>
  cases oj with
  |none=>rw[hc]at e2;cases e2
  |some j=>
   rw[hc]at e2
   have e2':(σ[j]?).join=some v:=by simpa using e2
   have e2:σ[j]?=some (some v):=by
    cases hs:σ[j]? with
    |none=>rw[hs]at e2';cases e2'
    |some ov=>rw[hs]at e2';simp at e2';rw[e2']
   obtain⟨x',f1,f2,k⟩:=va i j hc
   have hx:x'=x:=by
    have z:nm[i]?=some x:=e1
    rw[f1]at z;exact bq z
   subst hx
   obtain⟨m2,_,hl2⟩:=I2.loc
   obtain⟨u,r,l⟩:=hl2 j x' v f2 e2 k.vis
   refine⟨u,r.up I.tk,?_⟩
   rcases l with⟨kl,_⟩|⟨_,c,hcc,h_⟩
   ·exact absurd kl k.nl
   ·refine .inr ⟨k.kd,c,by rw[<- hcc];exact k.cl,?_⟩
    exact I.base.cellK h_ (I2.freeC _ _ hcc) fun z=>US c z _ _ hcc rfl
theorem Cf{Qk:VK}(iM:X.calm=true)(wQ:closureFor scope X.env=pure cl)(BD:∀x c,cl.lookup x=some c->X.env.cells.lookup x=some c)
  (iN:scope.kind=.function) (rD:∀x∈scope.names,x.2=.local->scope.names.lookup x.1=some .local) (Xp:∀y∈scope.names,y.2=.cell->cl.lookup y.1=none)
  (Ds:∀x,scope.names.lookup x≠some .cell->#[14]->∃c,cl.lookup x=some c)
  (va:∀(i j:Nat),cap[i]?=some (some j)->∃x,nm[i]?=some x/\X.N[j]?=some x/\vy X scope cl x/\(x,NameKind.cell)∉scope.names) (fX:cap.length=nm.length)
  (hi:PI X tg dA wi) (hg:∀k C s0 H0 fp,PG (eU X nm scope (cellsFrom k scope.names []++cl) C s0 H0 fp) tg g) (ht:∀k C s0 H0 fp,Gi (eU X nm scope (cellsFrom k scope.names []++cl) C s0 H0 fp) mi tc)
  (he:∀k C s0 H0 fp,PE (eU X nm scope (cellsFrom k scope.names []++cl) C s0 H0 fp) pD te) (hs:∀x,foldedSetIterable dA X.env x=pure x)
  (I:bG X ak σ H s) (h:vx cap wi g tc te σ H Qk) (j_:∀(s4:Shared) (C D:Addr) (m4:Str->Option Value) (Hn:Hp),bG X ak σ Hn s4->Ab X ak Hn s4 C m4->Qk (.ref D) Hn->compPost #[5] X.A X.xe use Qv (.ref D) C (.ok .next) s4) :
  wpAny #[5] X.A (comprehension #[10] scope X.env (firstIterPos [⟨tg,dA,mi,0⟩] pos) (newList []) (firstAsync [⟨tg,dA,mi,0⟩]) (firstIter [⟨tg,dA,mi,0⟩] X.env) use) Qv X.xe s:=by
 refine wpAny_comprehension_free (use:=use) rfl hs wQ iN rD (BQ (hi ak s σ H _ I h) fun v s1 h1=>BQ h1 fun Wx s2 h2=>?_)
 obtain⟨it,fp,tn,J,H1,e,I2,T,cW,f2,W,⟨m0,w0⟩,turn⟩:=h2
 subst e
 have hfpn:∀b∈fp,b<s2.heap.objs.size:=fun b hb=>let ⟨o,ho,_⟩:=T.obj _ _ cW b hb;aB ho
 have hfpc:∀b∈fp,∀x c,X.env.cells.lookup x=some c->c≠b:=fun b hb=>(f2 b hb).2.2.2.2.1
 refine b_ (KI (fun h₁ hns₁ hsb₁ cok=>?_))
 dsimp only at hns₁ hsb₁ cok ⊢
 generalize hH2:s2.heap.push { cls:=.type "list",dict:=none,data:=.seq ([]:List Value).toArray }=G2 at hns₁ hsb₁ cok ⊢
 have hC:G2.objs.size=s2.heap.objs.size+1:=by rw[<- hH2,bu]
 have hDC:s2.heap.objs.size≠G2.objs.size:=by rw[hC];exact aW (bY _)
 have old:∀b o,s2.heap.get? b=some o->h₁.get? b=some o:=fun b o e=>hsb₁ b o (hH2▸aq _ e)
 have hacc:h₁.get? s2.heap.objs.size=some { cls:=.type "list",data:=.seq ([]:List Value).toArray }:=hsb₁ _ _ (hH2▸ay _ rfl)
 have both:∀y c,(cellsFrom (G2.objs.size+1) scope.names []++cl).lookup y=some c->(cellsFrom (G2.objs.size+1) scope.names []).lookup y=some c\/cl.lookup y=some c:=fun y c e=>by
  rw[jl]at e
  cases h:(cellsFrom (G2.objs.size+1) scope.names []).lookup y with
  |none=>rw[h]at e;exact .inr e
  |some b=>rw[h]at e;exact .inl e
 have ownhi:∀y c,(cellsFrom (G2.objs.size+1) scope.names []).lookup y=some c->h₁.IsCell c none/\G2.objs.size+1<=c:=fun y c e=>cok.empty y c (PySem.mem_of_lookup e)
 have cllow:∀y c,cl.lookup y=some c->c<s2.heap.objs.size:=fun y c e=>by obtain⟨v,hv⟩:=I2.cell y c (BD _ _ e);exact hv.lt
 have hcap0:=va
 have va:∀(i j:Nat),cap[i]?=some (some j)->∃x,nm[i]?=some x/\X.N[j]?=some x/\vy X scope (cellsFrom (G2.objs.size+1) scope.names []++cl) x:=fun i j e=>by
  obtain⟨x,q1,q2,k,q3⟩:=hcap0 i j e
  refine⟨x,q1,q2,k.vis,k.nl,?_,k.kd⟩
  rw[jl]
  cases h:(cellsFrom (G2.objs.size+1) scope.names []).lookup x with
  |none=>exact k.cl
  |some c=>
   rcases mL _ _ _ (PySem.mem_of_lookup h)with z|z
   ·exact absurd z q3
   ·cases z
 have okB:#[2].Ok:=by
  refine⟨I2.ok.mod,iN,I2.ok.glob,I2.ok.blt,by show s2.heap.objs.size<=G2.objs.size;omega,fun x y c h1 h2=>?_,fun x hx=>?_,fun x c h0 hc=>?_,fun hc=>I2.ok.hd iM,I2.ok.frames,.inl rfl,?_,?_,?_,?_,?_,?_,?_⟩
  ·rcases both x c h1 with q1|q1<;>rcases both y c h2 with q2|q2
   ·exact name_of_addr cok.apart (PySem.mem_of_lookup q1) (PySem.mem_of_lookup q2)
   ·exact absurd (cllow y c q2) (jm.mpr (aI #[0] (ownhi x c q1).2))
   ·exact absurd (cllow x c q1) (jm.mpr (aI #[0] (ownhi y c q2).2))
   ·exact I2.ok.inj x y c (BD _ _ q1) (BD _ _ q2)
  ·show ∃c,(cellsFrom (G2.objs.size+1) scope.names []++cl).lookup x=some c
   rw[jl]
   by_cases hq:scope.names.lookup x=some .cell
   ·obtain⟨c,e⟩:=mY (n:=G2.objs.size+1) hq
    exact⟨c,by rw[e];rfl⟩
   ·obtain⟨c,e⟩:=Ds x hq hx
    cases h:(cellsFrom (G2.objs.size+1) scope.names []).lookup x with
    |none=>exact⟨c,e⟩
    |some b=>exact⟨b,rfl⟩
  ·have hq:scope.names.lookup x=some .cell:=by simpa using h0
   obtain⟨b,e⟩:=mY (n:=G2.objs.size+1) hq
   have hc:(cellsFrom (G2.objs.size+1) scope.names []++cl).lookup x=some c:=hc
   rw[jl,e]at hc
   cases hc
   have:=(ownhi x _ e).2
   show s2.heap.objs.size<=_
   omega
  ·intro b hb
   exact⟨aW (aF (hfpn b hb) (by show _<=G2.objs.size;omega)),fun x c hx=>(both x c hx).elim (fun q=>dS (aF (hfpn b hb) (aI #[0] (ownhi x c q).2))) fun q=>hfpc b hb x c (BD _ _ q)⟩
  ·exact fun b o hb=>I2.bs b o hb
  ·exact aI I2.ok.bsz I2.sz
  ·intro b o hb z
   rcases(f2 b z).2.2.2.1 with q|q
   ·exact I2.ok.noex b o hb q
   ·exact absurd (aB (I2.ok.bs b o hb).1) (jm.mpr q)
  ·intro b hb z
   rcases aN.mp (I2.stkSub b z)with q|q
   ·exact(f2 b hb).2.1 q
   ·exact(f2 b hb).2.2.1 q
  ·exact I2.stack
  ·exact I2.stkFree
 have I4:bG #[2] [] (qy cap σ) H1 { s2 with heap:=h₁ }:=by
  refine Gj va fX I2 hfpc (σ2:=List.replicate nm.length none) ⟨okB,rfl,I2.bare,Un.kept old,⟨_,hns₁,fun i x v _ e2=>?_⟩,fun x c hx=>?_,?_,fun x c hx=>(both x c hx).elim (fun q=>I2.hok.fresh (by have:=(ownhi x c q).2;omega)) fun q=>I2.freeC x c (BD _ _ q),fun p hp=>absurd hp #[15],I2.hok.kept old,by simp,I2.pos,ax _⟩
  ·rw[ju]at e2;split at e2<;>cases e2
  ·rcases both x c hx with q|q
   ·exact⟨none,(ownhi x c q).1⟩
   ·obtain⟨v,hv⟩:=I2.cell x c (BD _ _ q)
    exact⟨v,hv.keeps old⟩
  ·exact I2.hok.fresh (by show _<=G2.objs.size;omega)
 have hsz0:∀{Hx:Hp} {sx:Shared} {px:List (Addr×Obj)} {σx:St},bG #[2] px σx Hx sx->Hx s2.heap.objs.size=none->∀{oa:Obj},sx.heap.get? s2.heap.objs.size=some oa->(∀v,oa.data≠.cell v) ->
   bG #[2] [(s2.heap.objs.size,oa)] σx Hx sx:=fun{Hx sx px σx} Ix hn {oa} ho hd=>Ix.pins_of fun p hp=>by
  have e:p=(s2.heap.objs.size,oa):=by simpa using hp
  subst e
  exact⟨ho,hn,hDC,fun z=>by
   obtain⟨_,o,q,_⟩:=I2.stack.mem z
   exact absurd (aB q) (dC _),hd⟩
 have hfpB:∀{Hx:Hp} {oa:Obj},(∀b∈fp,Hx b=none)->∀b∈fp,tq #[2] [(s2.heap.objs.size,oa)] Hx b:=fun{Hx oa} hn b hb=>
  ⟨hn b hb,(okB.exf b hb).1,okB.exfs b hb,.inl hb,(okB.exf b hb).2,fun p hp=>by
   have e:p=(s2.heap.objs.size,oa):=by simpa using hp
   subst e
   exact dS (hfpn b hb)⟩
 have hcalmB:#[2].calm=true:=iM
 have loop:∀sx:Shared,sx={ s2 with heap:=h₁ } ->
   codeAny #[5] X.A (.compLoop #[10] 0 (.ref it) (.ref s2.heap.objs.size) (compEnvC scope (cellsFrom (G2.objs.size+1) scope.names []++cl) G2.objs.size X.env))
    (compPost #[5] X.A X.xe use Qv (.ref s2.heap.objs.size) G2.objs.size) sx:=by
  rintro sx rfl
  refine codeAny_loop rfl (fun n s'=>∃i ys H',bG #[2] [] (qy cap σ) H' s'/\tn i s'.heap/\(∀b∈fp,H' b=none)/\H' s2.heap.objs.size=none /\
   (∃bP k,cu s'.toks ys bP/\s'.heap.get? s2.heap.objs.size=some { cls:=.type "list",data:=.seq bP.toArray k })/\W i n ys H') ?_ m0
   ⟨0,[],H1,I4,T.keep _ _ _ cW (fun b _ o e=>old b o e),fun b hb=>(f2 b hb).1,I2.fresh,⟨[],0,.nil,hacc⟩,w0⟩
  rintro n s3 ⟨i,ys,H3,I3,mF,fr3,na3,⟨bP,ka,rv,ea⟩,w3⟩
  show wpAny _ X.A ((compTurn #[10] 0 (.ref it) (.ref s2.heap.objs.size) (compEnvC scope (cellsFrom (G2.objs.size+1) scope.names []++cl) G2.objs.size X.env)).onRaise (fun x=>do noteFrame x (compEnvC scope (cellsFrom (G2.objs.size+1) scope.names []++cl) G2.objs.size X.env);theTreesLotGoes x)) _ _ s3
  refine wpAny_noted ?_
  rw[compTurn_list]
  refine ae (qU ?_)
  have I3p:=hsz0 I3 na3 ea (fun v z=>by cases z)
  rcases turn i n ys H3 w3 with⟨stop,hz,qn⟩|⟨go,step⟩
  ·refine ae (tD (T.done #[2] rfl rfl rfl hcalmB i _ s3 _ H3 (fun _ _=>False) I3p (hfpB fr3) mF stop) (fun r s4 kt4 hr=>?_))
   obtain⟨hr,I4'⟩:=hr
   subst hr
   refine au ?_
   obtain⟨m4,hn4,_⟩:=id I4'.loc
   have pa:=I4'.pin (s2.heap.objs.size,{ cls:=.type "list",data:=.seq bP.toArray ka }) #[15]
   have ne:∀b o,s2.heap.get? b=some o->b≠s2.heap.objs.size/\b≠G2.objs.size:=fun b o e=>⟨aW (aB e),aW (by rw[hC];exact cL (aB e))⟩
   have I5:bG X ak σ (fB H3 s2.heap.objs.size (.lst ys)) s4:=by
    refine I2.call' (ch:=fp) I4'.os ⟨fun b o e n hb hx=>?_,fun b o e n hb hx=>?_,fun b o e n hx=>?_,fun b o e hx=>?_,fun b xs e=>?_,fun b o u e=>?_,fun b ps e=>?_⟩ ?_ I4'.bare (fun b hb=>?_) I4'.tk
    ·exact I4'.base.keep b o e n hb hx
    ·exact I4'.base.slot b o e n hb hx
    ·rw[cM (ne b o e).1];exact I4'.base.free b o e n hx
    ·exact I4'.base.there b o e hx
    ·have q:=I4'.base.tups b xs e
     rw[cM (fj q na3)];exact q
    ·have q:=I4'.base.frzs b o u e
     rw[cM (fj q na3)];exact q
    ·obtain⟨mr,q⟩:=I4'.base.tbls b ps e
     exact⟨mr,by rw[cM (fj q na3)];exact q⟩
    ·intro b o e
     by_cases hb:b=s2.heap.objs.size
     ·subst hb
      rw[gG]at e;cases e
      exact⟨hz,bP,ka,rv.up kt4,pa.1⟩
     ·rw[cM hb]at e
      exact(I4'.hok b o e).stay (fun c u hc q=>q) (fun c q=>by rw[cM (fj q na3)];exact q) fun c xs q=>by rw[cM (fj q na3)];exact q
    ·obtain⟨_,g1,_,g3,g4,g5⟩:=f2 b hb
     exact⟨g3,g1,g4,g5⟩
   have lC:s2.heap.objs.size<=G2.objs.size:=by rw[hC];exact bj _
   exact j_ s4 G2.objs.size _ m4 _ I5 ⟨hn4,by rw[cM (Ne.symm hDC)];exact I4'.free,dS (aF I2.lt lC),I2.nofs lC,aI I2.sz lC,fun x c hx z=>(by
    obtain⟨v,o,ho,_⟩:=I2.cell x c hx
    exact absurd (aB ho) (by rw[z];exact jm.mpr lC)),fun p hp z=>(by
    have:=(I2.pin p hp).1
    exact absurd (aB this) (by rw[z];exact jm.mpr lC))⟩ (qn _ na3)
  ·refine ae (tD (T.item #[2] rfl rfl rfl hcalmB i _ s3 _ H3 (fun _ _=>False) I3p (hfpB fr3) mF go) (fun r s4 kt4 hr=>?_))
   obtain⟨u,hr,h4⟩:=hr
   subst hr
   dsimp only
   refine ae (tD h4 (fun _ s5 kt5 h5=>?_))
   obtain⟨x,H5,I5,r5,y5,st5,fr5⟩:=h5
   have I5':=I5.pinned (hfpB fr5) (T.obj _ _ st5)
   refine ae (tD (hg _ _ _ _ _ _ s5 _ H5 x u _ I5' r5 (step x H5 y5)) (fun _ s6 kt6 h6=>?_))
   obtain⟨σ6,H6,I6,q6⟩:=h6
   refine ae (tD (ht _ _ _ _ _ _ s6 σ6 H6 _ I6 q6) (fun ok s7 kt7 h7=>?_))
   obtain⟨H7,I7,q7⟩:=h7
   have back:∀{H8:Hp} {s8:Shared} {RO:List V} {its':List Value} {k':Nat},bG #[2] [] σ6 H8 s8->(∀b∈fp,∀o,s5.heap.get? b=some o->s8.heap.get? b=some o)->(∀b∈fp,H8 b=none)->H8 s2.heap.objs.size=none ->
     cu s8.toks RO its'->s8.heap.get? s2.heap.objs.size=some { cls:=.type "list",data:=.seq its'.toArray k' }->(∃m',m'<n/\W (i+1) m' RO H8) ->
     ∃m,m<n/\∃i ys H',bG #[2] [] (qy cap σ) H' s8/\tn i s8.heap/\(∀b∈fp,H' b=none)/\H' s2.heap.objs.size=none /\
      (∃bP k,cu s8.toks ys bP/\s8.heap.get? s2.heap.objs.size=some { cls:=.type "list",data:=.seq bP.toArray k })/\W i m ys H':=
    fun{H8 s8 RO its' k'} I8 kf f8 n8 rv8 e8 ⟨m',hm,w8⟩=>⟨m',hm,i+1,RO,H8,Gj va fX I2 hfpc I8,T.keep _ _ _ st5 kf,f8,n8,⟨its',k',rv8,e8⟩,w8⟩
   cases ok with
   |false=>
    refine au ⟨rfl,?_⟩
    have q7':∃m',m'<n/\W (i+1) m' ys H7:=by simpa using q7
    have pa:=I7.pin (s2.heap.objs.size,{ cls:=.type "list",data:=.seq bP.toArray ka }) #[15]
    refine back (I7.pins_of fun p hp=>absurd hp #[15]) (fun b hb o e=>?_) (fun b hb=>?_) pa.2.1 (rv.up #[0]) pa.1 q7'
    ·exact(I7.pin (b,o) (aM _ (aM _ (jV hb e)))).1
    ·obtain⟨o,e,d⟩:=T.obj _ _ st5 b hb
     exact(I7.pin (b,o) (aM _ (aM _ (jV hb e)))).2.1
   |true=>
    rw[aD rfl]at q7
    refine ae (ae (tD (he _ _ _ _ _ _ s7 σ6 H7 _ I7 q7) (fun xv s8 kt8 h8=>?_)))
    obtain⟨y,H8,I8,r8,hzy,q8⟩:=h8
    have pa:=I8.pin (s2.heap.objs.size,{ cls:=.type "list",data:=.seq bP.toArray ka }) #[15]
    refine ae (up (yN pa.1 (by rw[<- rv.length];exact hzy) fun h' k' tk e9 sb hk=>?_))
    refine au (au ⟨rfl,?_⟩)
    have I9:bG #[2] [] σ6 H8 { s8 with heap:=h',toks:=tk }:=
     (bG.pins_of (pins':=[]) I8 fun p hp=>absurd hp #[15]).turned (it:=s2.heap.objs.size) (fun b o hb e=>sb b o hb e) pa.2.1 hDC (.inr (ax _)) (fun x c hx z=>by
      rcases both x c hx with q|q
      ·exact jm.mpr (ownhi x c q).2 (by rw[z];omega)
      ·exact dC _ (by have:=cllow x c q;rw[z]at this;exact this)) (fun p hp=>absurd hp #[15])
    refine back I9 (fun b hb o e=>?_) (fun b hb=>?_) pa.2.1 ((rv.up #[0]).append (.cons (r8.up hk) .nil)) e9 q8
    ·exact sb b o (aW (hfpn b hb)) (I8.pin (b,o) (aM _ (aM _ (jV hb e)))).1
    ·obtain⟨o,e,d⟩:=T.obj _ _ st5 b hb
     exact(I8.pin (b,o) (aM _ (aM _ (jV hb e)))).2.1
 exact codeAny_compStart_list (loop _ rfl) (T.self _ _ _ _ _ (T.keep _ _ _ cW fun b _ o e=>old b o e) (loop _ rfl))
theorem rL:∀(names:List (Str×NameKind)) (n:Nat),(∀y∈names,y.2≠.cell)->cellsFrom n names []=[]
 |[],_,_=>rfl
 |(x,k)::r,n,h=>by
  show(if k==.cell then cellsFrom (n+1) r [(x,n)]else cellsFrom n r [])=[]
  rw[aQ (by have:=h (x,k) #[15];simpa using this)]
  exact rL r n fun y hy=>h y (by simp[hy])
theorem xN{Qk:VK}(iM:X.calm=true)(wQ:closureFor scope X.env=pure cl)(BD:∀x c,cl.lookup x=some c->X.env.cells.lookup x=some c)
  (iN:scope.kind=.function) (rD:∀x∈scope.names,x.2=.local->scope.names.lookup x.1=some .local) (h_:∀y∈scope.names,y.2≠.cell)
  (Ds:∀x,#[14]->∃c,cl.lookup x=some c)
  (va:∀(i j:Nat),cap[i]?=some (some j)->∃x,nm[i]?=some x/\X.N[j]?=some x/\vy X scope cl x) (fX:cap.length=nm.length)
  (hi:PI X tg dA wi) (hg:∀C s0 H0 fp,PG #[11] tg g) (ht:∀C s0 H0 fp,Gi #[11] mi tc)
  (he:∀C s0 H0 fp,PE #[11] pD te) (hs:∀x,foldedSetIterable dA X.env x=pure x)
  (I:bG X ak σ H s) (h:vx cap wi g tc te σ H Qk) (j_:∀(s4:Shared) (C D:Addr) (m4:Str->Option Value) (Hn:Hp),bG X ak σ Hn s4->Ab X ak Hn s4 C m4->Qk (.ref D) Hn->compPost #[5] X.A X.xe use Qv (.ref D) C (.ok .next) s4) :
  wpAny #[5] X.A (comprehension #[10] scope X.env (firstIterPos [⟨tg,dA,mi,0⟩] pos) (newList []) (firstAsync [⟨tg,dA,mi,0⟩]) (firstIter [⟨tg,dA,mi,0⟩] X.env) use) Qv X.xe s:=by
 have nc:∀k,cellsFrom k scope.names []++cl=cl:=fun k=>by rw[rL _ _ h_];rfl
 have nx:∀C s0 H0 fp,eU X nm scope cl C s0 H0 fp=c7 X nm scope cl C s0 H0 fp:=fun C s0 H0 fp=>by
  have:(fun y=>scope.names.lookup y==some .cell)=fun _=>false:=funext fun y=>by
   rw[ba]
   exact fun e=>h_ _ (jn e) rfl
  unfold eU c7
  rw[this]
 exact Cf iM wQ BD iN rD (fun y hy h=>absurd h (h_ y hy)) (fun x _ h=>Ds x h) (fun i j h=>let ⟨x,a,b,d⟩:=va i j h;⟨x,a,b,d,fun z=>h_ _ z rfl⟩) fX hi
  (fun k C s0 H0 fp=>by rw[nc,nx];exact hg C s0 H0 fp) (fun k C s0 H0 fp=>by rw[nc,nx];exact ht C s0 H0 fp) (fun k C s0 H0 fp=>by rw[nc,nx];exact he C s0 H0 fp) hs I h j_
theorem KJ(iM:X.calm=true)(wQ:closureFor scope X.env=pure cl)(BD:∀x c,cl.lookup x=some c->X.env.cells.lookup x=some c)
  (iN:scope.kind=.function) (rD:∀x∈scope.names,x.2=.local->scope.names.lookup x.1=some .local) (h_:∀y∈scope.names,y.2≠.cell)
  (Ds:∀x,#[14]->∃c,cl.lookup x=some c)
  (va:∀(i j:Nat),cap[i]?=some (some j)->∃x,nm[i]?=some x/\X.N[j]?=some x/\vy X scope cl x) (fX:cap.length=nm.length)
  (hi:PI X tg dA wi) (hg:∀C s0 H0 fp,PG #[11] tg g) (ht:∀C s0 H0 fp,Gi #[11] mi tc)
  (he:∀C s0 H0 fp,PE #[11] pD te) (hs:∀x,foldedSetIterable dA X.env x=pure x:=by intro _;rfl) :
  PE X #[10] (vx cap wi g tc te):=by
 intro ak s σ H Q I h
 rw[eval_ListComp]
 exact xN iM wQ BD iN rD h_ Ds va fX hi hg ht he hs I h fun s4 C D m4 Hn I4 B q=>⟨m4,B.ns,fun h' hs'=>⟨.ref D,Hn,B.off I4 hs',rfl,q⟩⟩
end
end L2
namespace L2
open PySem PySem.Spec PyProof.Rows
noncomputable def tx(l:List Nat):Str:=⟨l.toArray⟩
theorem OS(l:List Nat):(tx l).cps.toList=l:=rfl
theorem Su(z:Str):tx z.cps.toList=z:=by cases z;rfl
theorem jc(l:List Nat):(tx l).length=l.length:=by show l.toArray.size=_;simp
theorem Cg(a b:List Nat):tx a++tx b=tx (a++b):=by
 show(⟨a.toArray++b.toArray⟩:Str)=⟨(a++b).toArray⟩
 simp
theorem Ch{a b:List Nat}:tx a=tx b↔a=b:=⟨fun h=>by have:=gT (fun z:Str=>z.cps.toList) h;exact this,fun h=>by rw[h]⟩
noncomputable def V7(u9:List V):It:=⟨fun i _=>i<u9.length,fun i H x H'=>H'=H/\u9[i]?=some x,fun i _=>u9.length<=i⟩
section
def jA(l:List Nat):List V:=l.map fun c=>.str (tx [c])
def V8(tl:TE):TI:=fun σ H R=>tl σ H fun x H1=>∃l,x=.str (tx l)/\R (V7 (jA l)) H1
theorem vz{w:World}{K:Frag}{tg:Expr}{l:List Nat}{t:Tok}{ty:String}(Do:["enumerate","zip","dict_itemiterator","dict_reverseitemiterator","odict_iterator","itertools.zip_longest","itertools.pairwise"].contains ty=false)
  (next:∀{A:Around} {s:Shared} {i c:Nat} {Q:Option Value->Shared->Prop} {E:Value->Shared->Prop},s.heap.IsStrIter it ty (tx l) t i->(tx l).cps[i]?=some c ->
   (∀h',h'.IsStrIter it ty (tx l) t (i+1)->Heap.SameBut it s.heap h'->Q (some (.str ⟨#[c]⟩ s.toks)) { s with heap:=h',toks:=s.toks+1 })->wpAny (model P w) A (pyNext (.ref it)) Q E s)
  (stop:∀{A:Around} {s:Shared} {i:Nat} {Q:Option Value->Shared->Prop} {E:Value->Shared->Prop},A.handled=none->s.heap.IsStrIter it ty (tx l) t i->(tx l).cps[i]?=none ->
   (∀h',Heap.ExtBut it s.heap h'->Q none { s with heap:=h' })->wpAny (model P w) A (pyNext (.ref it)) Q E s)
  (Vc:∀(A:Around) (i:Nat) (s:Shared) (Q:Value->Shared->Prop) (E:Value->Shared->Prop),s.heap.IsStrIter it ty (tx l) t i->Q (.ref it) s->wpAny (model P w) A (pyIter (.ref it)) Q E s) :
  BR P w K tg (V7 (jA l)) [it] it (fun i h=>h.IsStrIter it ty (tx l) t i) where
 mem:=by simp
 obj:=fun i h st b hb=>by
  have e:b=it:=by simpa using hb
  subst e
  obtain⟨o,e,_,d⟩:=st
  exact⟨o,e,fun v z=>by rw[d]at z;cases z⟩
 keep:=fun i h h' st k=>by
  obtain⟨o,e,r⟩:=st
  exact⟨o,k it #[15] o e,r⟩
 item:=by
  intro X hP hw hK hc i ak s σ H E I hf st hg
  subst hP hw hK
  obtain⟨f0,f1,f2,f3,f4,f5⟩:=hf it #[15]
  have hg:i<l.length:=by have hg:i<(jA l).length:=hg;simpa[jA]using hg
  obtain⟨c,hx⟩:∃c,l[i]?=some c:=⟨_,al hg⟩
  refine next st (c:=c) (by simpa[tx]using hx) fun h' be hs=>?_
  have I1:bG X ak σ H { s with heap:=h',toks:=s.toks+1 }:=I.turned (fun b o hb e=>hs.extBut b o hb e) f0 f1 f3 f4 f5
  obtain⟨o,e,cl,d⟩:=id be
  exact⟨_,rfl,DA (s:={ s with heap:=h',toks:=s.toks+1 }) e cl d Do ⟨.str (tx [c]),H,I1,I.tkS,⟨rfl,by unfold jA;rw[aC,hx];rfl⟩,be,fun b hb=>(hf b hb).1⟩⟩
 done:=by
  intro X hP hw hK hc i ak s σ H E I hf st hg
  subst hP hw hK
  obtain⟨f0,f1,f2,f3,f4,f5⟩:=hf it #[15]
  have hg:l.length<=i:=by have hg:(jA l).length<=i:=hg;simpa[jA]using hg
  exact stop (I.ok.hd hc) st (by simpa[tx]using hg) fun h' hs=>⟨rfl,I.turned (t':=s.toks) (fun b o hb e=>hs b o hb e) f0 f1 f3 f4 f5⟩
 self:=fun A i s Q E st h=>Vc A i s Q E st h
theorem OT{l:Expr}{tl:TE}(hl:PE X l tl):PI X tg l (V8 tl):=by
 intro ak s σ H R I h
 refine jQ (hl ak s σ H _ I h) fun v s1 kt1 zq=>?_
 obtain⟨x,H1,I1,r1,q1⟩:=zq
 obtain⟨l,e,q⟩:=q1
 subst e
 obtain⟨t,rfl⟩:=r1
 have fp:∀b∈[s1.heap.objs.size],tq X ak H1 b:=fun b hb=>by
  have e:b=s1.heap.objs.size:=by simpa using hb
  subst e
  exact I1.fpOk (ax _) (I1.hok.fresh (ax _))
 cases ha:(tx l).cps.all (· < 128)
 ·exact mH ha ⟨s1.heap.objs.size,[s1.heap.objs.size],_,_,H1,rfl,I1.kept (t':=s1.toks) fun b o e=>aq _ e,vz (l:=l) (t:=t.1) (ty:="str_iterator") #[3] (fun a b c=>jL a b c) (fun hh a b c=>wpAny_pyNext_wide_end hh a b c) (fun A i s Q E st h=>wpAny_pyIter_striter_wide st h),⟨_,ay _ rfl,rfl,rfl⟩,fp,q⟩
 ·exact l9 ha ⟨s1.heap.objs.size,[s1.heap.objs.size],_,_,H1,rfl,I1.kept (t':=s1.toks) fun b o e=>aq _ e,vz (l:=l) (t:=t.1) (ty:="str_ascii_iterator") #[3] (fun a b c=>jv a b c) (fun hh a b c=>wpAny_pyNext_ascii_end hh a b c) (fun A i s Q E st h=>wpAny_pyIter_striter_ascii st h),⟨_,ay _ rfl,rfl,rfl⟩,fp,q⟩
noncomputable def Ci(l:List Nat)(lo hi:Option Int):List Nat:=(l.drop (HT.sIx l.length 0 lo)).take (HT.sIx l.length l.length hi-HT.sIx l.length 0 lo)
theorem Ac(l:List Nat)(lo hi:Option Int):(Ci l lo hi).length<=l.length:=by unfold Ci;rw[aJ,b8];omega
theorem Cj(l:List Nat)(i k:Nat):((List.range k).map fun(m:Nat)=>i+m).filterMap (fun j=>l[j]?)=(l.drop i).take k:=by
 induction k generalizing i with
 |zero=>simp
 |succ k ih=>
  rw[ol,bt,b6]
  have e:((fun m=>i+m)∘Nat.succ)=fun m=>(i+1)+m:=by funext m;simp[Function.comp];omega
  rw[e]
  by_cases h:i<l.length
  ·rw[f9]
   simp only[sU,al h]
   rw[ih (i+1),fD h,List.take_succ_cons]
  ·rw[f9]
   have h':l.length<=i:=by omega
   simp only[sU,bU h']
   rw[ih (i+1),om h',om #[0]]
   simp
theorem Me(v:Int)(n d:Nat):(if (1:Int)>0 then max 0 (min (if v<0 then v+(n:Int)else v) (n:Int))else max (-1) (min (if v<0 then v+(n:Int)else v) ((n:Int)-1)))=((HT.sIx n d (some v):Nat):Int):=by
 rw[aD #[0]]
 show _=(((if v<0 then(v+(n:Int)).toNat else min v.toNat n):Nat):Int)
 by_cases hv:v<0
 ·simp only[aD hv];omega
 ·simp only[aQ hv];omega
theorem OU(lo hi:Option Int)(n:Nat):Builtin.Str.strSliceIndices lo hi 1 n=(List.range (HT.sIx n n hi-HT.sIx n 0 lo)).map fun(m:Nat)=>HT.sIx n 0 lo+m:=by
 have key:∀a b:Nat,sliceRange (a:Int) (b:Int) 1=(List.range (b-a)).map fun(m:Nat)=>a+m:=fun a b=>by
  unfold sliceRange
  have e:(if (1:Int)>0 then(if (a:Int)<(b:Int)then((b:Int)-a+1-1)/1 else 0)else(if (a:Int)>b then((a:Int)-b-1-1)/(-1)else 0)).toNat=b-a:=by
   rw[aD #[0]]
   by_cases h:(a:Int)<b
   ·rw[aD h];omega
   ·rw[aQ h];omega
  dsimp only
  rw[e]
  refine eR fun k _=>?_
  omega
 unfold Builtin.Str.strSliceIndices
 rw[<- key]
 dsimp only
 congr 1
 ·cases lo with
  |none=>rfl
  |some v=>exact Me v n 0
 ·cases hi with
  |none=>rfl
  |some v=>exact Me v n n
theorem Gk(l:List Nat)(lo hi:Option Int):Txt.slice (tx l) lo hi=tx (Ci l lo hi):=by
 unfold Txt.slice
 rw[OU,jc]
 split
 ·rename_i h
  simp only[beq_self_eq_true,Bool.true_and,cI,az,List.length_range]at h
  unfold Ci
  have h1:=HT.sIx_le l.length l.length (ax _) hi
  have h2:=HT.sIx_le l.length 0 (b7 _) lo
  by_cases hz:l.length=0
  ·have:l=[]:=dz hz
   subst this;simp
  ·have e0:HT.sIx l.length 0 lo=0:=by omega
   rw[e0,List.drop_zero,bD #[0]]
 ·unfold Ci tx
  have:∀j:Nat,(l.toArray)[j]?=l[j]?:=fun j=>by simp
  simp only[this]
  rw[Cj]
def V9:V->Option Int->Option Int->Hp->VK->Prop:=fun x lo hi H Q=>∃l,x=.str (tx l)/\l.length<=sizeLine/\Q (.str (tx (Ci l lo hi))) H
theorem DG{o:Option Int}(p:IsPart v o):∃q:Option (Int×Tok),v=partValue q/\q.map (·.1)=o:=by
 cases p with
 |none=>exact⟨none,rfl,rfl⟩
 |int i t=>exact⟨some (i,t),rfl,rfl⟩
theorem OV:Si X V9:=by
 intro ak s σ H x v vl vu lo hi sl Q I rx hs pl pu h
 obtain⟨l,e,hz,q⟩:=h
 subst e
 obtain⟨t,rfl⟩:=rx
 obtain⟨pl',rfl,rfl⟩:=DG pl
 obtain⟨pu',rfl,rfl⟩:=DG pu
 refine⟨"str",_,F.slot_str_getitem.lookup,lZ _ _ _,?_⟩
 refine wpAny_getItem_str_slice (l:=pl') (u:=pu') (st:=none) hs rfl ?_
 have e:=Gk l (pl'.map (·.1)) (pu'.map (·.1))
 unfold Txt.slice at e
 have hl:(tx (Ci l (pl'.map (·.1)) (pu'.map (·.1)))).length<=sizeLine:=by rw[jc];exact aI (Ac l _ _) hz
 show(if ((1:Int)==1&&(Builtin.Str.strSliceIndices (pl'.map (·.1)) (pu'.map (·.1)) 1 (tx l).length).length==(tx l).length)=true then Made.val (.str (tx l) t.1)else Made.str ⟨((Builtin.Str.strSliceIndices (pl'.map (·.1)) (pu'.map (·.1)) 1 (tx l).length).filterMap ((tx l).cps[·]?)).toArray⟩).post (EP X ak σ Q) s
 split
 ·rename_i hc
  rw[aD hc]at e
  rw[<- e]at q
  exact⟨.str (tx l),H,I,⟨t,rfl⟩,q⟩
 ·rename_i hc
  rw[aQ hc]at e
  rw[e]
  exact⟨hl,⟨.str _,H,I.tok _,I.tkS,q⟩⟩
theorem OW(c:Nat)(l:List Nat):(!(Builtin.Str.occurrences (tx l) (tx [c]) 0 (tx l).length 1).isEmpty)=decide (c∈l):=StrLaws.found_one (tx l) c
def V_(UN:Bool):R2:=fun x y H Q=>∃c l,x=.str (tx [c])/\y=.str (tx l)/\Q (.bl (if UN then !decide (c∈l)else decide (c∈l))) H
theorem EV:oZ X (compareOp .In) (V_ false):=by
 intro ak s σ H x y v u Q I rx ry h
 obtain⟨c,l,rfl,rfl,q⟩:=h
 exact EI ak s σ H _ _ v u Q I rx ry ⟨_,_,rfl,rfl,by rw[OW];exact q⟩
theorem EW:oZ X (compareOp .LtE) (fun x y H Q=>∃c d,x=.str (tx [c])/\y=.str (tx [d])/\Q (.bl (decide (c<=d))) H):=by
 intro ak s σ H x y v u Q I rx ry h
 obtain⟨c,d,rfl,rfl,q⟩:=h
 obtain⟨t,rfl⟩:=rx
 obtain⟨t',rfl⟩:=ry
 refine PySem.P.le_str ⟨.bl _,H,I,?_,q⟩
 show Value.bool _=Value.bool _
 congr 1
 show(!decide ([d]<[c]))=decide (c<=d)
 by_cases BP:c<=d
 ·rw[a_ BP,aU];rfl
  intro z
  cases z with
  |rel z=>omega
  |cons z=>cases z
 ·rw[aU BP,a_];rfl
  exact .rel #[0]
theorem vA:∀{ys:List (List Nat)} {bP:List Value},cu nk (ys.map fun l=>V.str (tx l)) bP->StrsAre bP (ys.map tx)
 |[],_,r=>by cases r;exact .nil
 |y::ys,_,r=>by
  cases r with
  |cons r rr=>
   obtain⟨t,rfl⟩:=r
   exact .cons _ _ (vA rr)
def iW(n:Nat)(bP:List Value):Prop:=∀(x:Str) (t:Tok),Value.str x t∈bP->x.length=1->0<t/\t<n
theorem nM:∀{bP:List Value} {ss:List Str},StrsAre bP ss->iW nk bP->cu nk (ss.map fun z=>V.str z) bP
 |_,_,.nil,_=>.nil
 |_,_,.cons y t r,h=>.cons ⟨⟨t,h y t bF⟩,rfl⟩ (nM r fun x u hx=>h x u (aO _ hx))
theorem rM:∀{vs:List V} {bP:List Value},cu nk vs bP->iW nk bP
 |_,_,.nil=>fun _ _ h=>nomatch h
 |v::_,_,.cons r t=>fun x u hx=>by
  rcases aN.mp hx with e|hx
  ·subst e
   cases v with
   |str y=>obtain⟨tk,e⟩:=r;cases e;exact tk.2
   |non=>cases r
   |bl b=>cases r
   |int i=>obtain⟨_,e⟩:=r;cases e
   |byt b=>obtain⟨_,e⟩:=r;cases e
   |flt b=>obtain⟨_,e⟩:=r;cases e
   |ref a=>cases r
   |ty n=>cases r
  ·exact rM t x u hx
theorem DH:∀{ys:List (List Nat)} {bP:List Value},cu nk (ys.map fun l=>V.str (tx l)) bP->∃zs:List (Str×Tok),bP=strValues zs/\zs.map (·.1)=ys.map tx
 |[],_,r=>by cases r;exact⟨[],rfl,rfl⟩
 |y::ys,_,r=>by
  cases r with
  |cons r rr=>
   obtain⟨t,rfl⟩:=r
   obtain⟨zs,rfl,e⟩:=DH rr
   exact⟨(tx y,t.1)::zs,rfl,by rw[bt,bt,e]⟩
noncomputable def lr(sep:List Nat):List (List Nat)->List Nat
 |[]=>[]
 |[x]=>x
 |x::y::r=>x++sep++lr sep (y::r)
theorem mZ:∀ys:List (List Nat),lr [] ys=ys.flatten
 |[]=>rfl
 |[x]=>by simp[lr]
 |x::y::r=>by rw[lr,mZ (y::r)];simp
theorem DI(sep:List Nat):∀ys:List (List Nat),Txt.join (tx sep) (ys.map tx)=tx (lr sep ys):=fun ys=>by
 show Builtin.Str.glued (tx sep) (ys.map tx)=_
 rw[hU]
 induction ys with
 |nil=>rfl
 |cons x r ih=>
  cases r with
  |nil=>rfl
  |cons y r=>
   show tx x++tx sep++Str.join (tx sep) ((y::r).map tx)=tx (x++sep++lr sep (y::r))
   rw[ih,Cg,Cg]
def Sv(K:Frag):V->List V->Hp->VK->Prop:=fun x vs H Q=>∃(sep:List Nat) (a:Addr) (ys:List (List Nat)),x=.str (tx sep)/\vs=[.ref a]/\tm K H a (ys.map fun l=>V.str (tx l))/\(ys.map List.length).sum+ys.length*sep.length<=16777216/\Q (.str (tx (lr sep ys))) H
theorem bG.joinS{Q:VK}{sep:Str}{zs:List (Str×Tok)}(I:bG X ak σ H s)(hl:(Builtin.Str.glued sep (zs.map (·.1))).length<=sizeLine)(hk:iW s.toks (strValues zs))(q:Q (.str (Txt.join sep (zs.map (·.1)))) H):(joinMade sep zs).post (EP X ak σ Q) s:=by
 have j_:(Made.str (Builtin.Str.glued sep (zs.map (·.1)))).post (EP X ak σ Q) s:=⟨hl,⟨.str _,H,I.tok _,I.tkS,q⟩⟩
 cases zs with
 |nil=>exact j_
 |cons p r=>
  cases r with
  |nil=>
   have e:Txt.join sep [p.1]=p.1:=by
    show Builtin.Str.glued sep [p.1]=_
    rw[hU];rfl
   rw[show([p]:List (Str×Tok)).map (·.1)=[p.1]from rfl,e]at q
   exact⟨.str p.1,H,I,⟨⟨p.2,hk p.1 p.2 (by simp[strValues])⟩,rfl⟩,q⟩
  |cons _ _=>exact j_
theorem KK:ER X "str.join" (Sv X.K):=by
 intro ak s σ H x vs v us Q I rx rv h
 obtain⟨sep,a,ys,rfl,rfl,hS,hz,q⟩:=h
 obtain⟨t,rfl⟩:=rx
 obtain⟨u,rfl,ru⟩:=rv.one
 cases ru
 obtain⟨bP,r,p,_⟩:=I.list hS
 have hk:iW s.toks bP:=rM r
 obtain⟨zs,rfl,ez⟩:=DH (by simpa using r)
 have hok:JoinOk (tx sep) (zs.map (·.1))=true:=joinOk_of (by
  rw[ez,b6,jc,az]
  have e:((fun z:Str=>z.length)∘tx)=List.length:=by funext l;exact jc l
  rw[e];exact hz)
 have hj:=hok
 unfold JoinOk at hj
 rw[fN]at hj
 exact rG F.slot_str_join (lZ _ _ _) F.entry_str_join (F.args_str_join_2 _ _) (meets_str_join_list (tx sep) t.1 a zs hj) ⟨p.isList,I.joinS (joinFit_length hj) hk (by rw[ez,DI];exact q)⟩
end
end L2
namespace L2
open PySem PySem.Spec PyProof.Rows
inductive D where
 |non|bl (b:Bool)|int (i:Int)|str (l:List Nat)|tnil|tcons (d r:D)
 deriving DecidableEq
structure eV(K:Frag)(H H':Hp):Prop where
 t:∀p xs,fU K H p xs->fU K H' p xs
 z:∀b o u,H b=some (.frz o u)->H' b=some (.frz o u)
instance {K:Frag} {H H':Hp}:CoeFun (eV K H H') (fun _=>∀p xs,fU K H p xs->fU K H' p xs):=⟨eV.t⟩
theorem fU.same{K:Frag}(e:uV H H'):eV K H H':=⟨fun p xs h=>by
 rcases h with(h|⟨o,h⟩)|h
 ·exact .inl (.inl (e _ _ h))
 ·exact .inl (.inr ⟨o,e _ _ h⟩)
 ·exact .inr h,fun b o u h=>e _ _ h⟩
theorem cG{p:Addr}(h:H p=none)(o:HO):uV H (fB H p o):=fun b u q=>by rw[cM (fj q h)];exact q
def V'(l:Addr)(H H':Hp):Prop:=∀b o,b≠l->H b=some o->H' b=some o
theorem ml{l:Addr}{o:HO}:V' l H (fB H l o):=fun b u h q=>by rw[cM h];exact q
theorem fU.but{l:Addr}(e:V' l H H')(hl:H l=some (.lst xs)):eV K H H':=by
 have Ey:∀{p:Addr} {o:HO},H p=some o->(∀zs,o≠.lst zs)->p≠l:=fun{p o} q hn z=>by subst z;rw[hl]at q;cases q;exact hn _ rfl
 refine⟨fun p ys h=>?_,fun b o u h=>e _ _ (Ey h (fun _ z=>by cases z)) h⟩
 rcases h with(h|⟨o,h⟩)|h
 ·exact .inl (.inl (e _ _ (Ey h (fun _ z=>by cases z)) h))
 ·exact .inl (.inr ⟨o,e _ _ (Ey h (fun _ z=>by cases z)) h⟩)
 ·exact .inr h
theorem eV.refl:eV K H H:=⟨fun _ _ h=>h,fun _ _ _ h=>h⟩
theorem eV.trans{H1 H2:Hp}(a:eV K H H1)(b:eV K H1 H2):eV K H H2:=⟨fun p xs h=>b p xs (a p xs h),fun c o u h=>b.z c o u (a.z c o u h)⟩
theorem fU.new{p:Addr}:fU K (fB H p (.tup xs)) p xs:=fU.of gG
end L2
namespace L2
open PySem PySem.Spec PyProof.Rows
theorem Sw{v:V}{pos:Pos}(h:∃u,X.mg x=some u/\dh 0 v u)(hg:Gl X x:=by rfl)(hd:(x==("__debug__":Str))=false:=by decide):PE X (.Name x pos) (tC v):=by
 obtain⟨u,a,b⟩:=h
 exact yG hg a b hd
end L2
namespace L2
open PySem PySem.Spec PyProof.Rows
section
variable{to:TE}{t:TA}{id:String}
def Xi(r:V->List V->Hp->VK->Prop)(to:TE)(t:TA):TE:=fun σ H Q=>to σ H fun x H1=>(∃l ys,x=.ref l/\H1 l=some (.lst ys))/\t σ H1 fun xs H2=>r x xs H2 Q
def Xj(r:V->List V->Hp->VK->Prop)(to:TE)(t:TA):TE:=fun σ H Q=>to σ H fun x H1=>(∃l,x=.str (tx l))/\t σ H1 fun xs H2=>r x xs H2 Q
def Wa(r:V->List V->Hp->VK->Prop)(to:TE):TE:=fun σ H Q=>to σ H fun x H1=>(∃l ys,x=.ref l/\H1 l=some (.lst ys))/\r x [] H1 Q
theorem Ad{x:V}(h:∃l ys,x=.ref l/\H l=some (.lst ys)):Vj K "list" x H:=by
 obtain⟨l,ys,rfl,h⟩:=h
 exact .inl ⟨rfl,_,.of h⟩
theorem DJ{x:V}(h:∃l,x=.str (tx l)):Vj K "str" x H:=by
 obtain⟨l,rfl⟩:=h
 exact rfl
theorem Gm{ty:V->Hp->Prop}(Wy:∀x H,ty x H->Vj X.K T x H)(pa:PlainAttrs T)(slot:Slot T name id)(Do:typeOf (.builtin id)=pure (.type "method_descriptor"))(hm:ER X id r)(ho:PE X o to)(ha:PA X (e::es) t)
  (jK:attributeBase o name X.env (eval o X.env)=eval o X.env)
  (rE:((backTo d7 (starEach (e::es) X.env)).all (fun x=>!x.1)&&(backToKw d7 (keywordEach [] X.env)).all (fun x=>x.1.isSome)
   && decide #[18])=true)
  (kE:(gj.endLine==d7.line)=true) (hs:starEach (e::es) X.env=(false,eval e X.env)::starEach es X.env) (og:(backTo d7 (starEach es X.env)).any (·.1)=false) :
  PE X (.Call (.Attribute o name gj) (e::es) [] d7) (fun σ H Q=>to σ H fun x H1=>ty x H1/\t σ H1 fun xs H2=>r x xs H2 Q):=by
 intro ak s σ H Q I h
 refine on jK rE kE rfl (jQ (ho ak s σ H _ I h) fun v s1 kt1 zq=>?_)
 obtain⟨x,H1,I1,r1,ty,q1⟩:=zq
 obtain⟨h1,h2⟩:=Cd I1 r1 (Wy _ _ ty)
 refine⟨T,id,pa,slot,Do,h1,h2,?_⟩
 have hA:=ha d7 ak s1 σ H1 _ I1 q1
 rw[hs]at hA ⊢
 refine jM (by show(false||(backTo d7 (starEach es X.env)).any (·.1))=false;rw[og]<;>rfl) (kH ?_)
 exact jQ hA fun us s2 kt2 ⟨vs,H2,I2,r2,q2⟩=>hm ak s2 σ H2 x vs v us Q I2 (r1.up kt2) r2 q2
theorem Sx(slot:Slot "list" name id)(Do:typeOf (.builtin id)=pure (.type "method_descriptor"))(hm:ER X id r)(ho:PE X o to)(ha:PA X (e::es) t)
  (jK:attributeBase o name X.env (eval o X.env)=eval o X.env:=by rfl)
  (rE:((backTo d7 (starEach (e::es) X.env)).all (fun x=>!x.1)&&(backToKw d7 (keywordEach [] X.env)).all (fun x=>x.1.isSome)
   && decide #[18])=true:=by rfl)
  (kE:(gj.endLine==d7.line)=true:=by rfl) (hs:starEach (e::es) X.env=(false,eval e X.env)::starEach es X.env:=by rfl) (og:(backTo d7 (starEach es X.env)).any (·.1)=false:=by rfl) :
  PE X (.Call (.Attribute o name gj) (e::es) [] d7) (Xi r to t):=Gm (ty:=fun x H1=>∃l ys,x=.ref l/\H1 l=some (.lst ys)) (fun _ _ h=>Ad h) F.plainAttrs_list slot Do hm ho ha jK rE kE hs og
theorem Sy(slot:Slot "str" name id)(Do:typeOf (.builtin id)=pure (.type "method_descriptor"))(hm:ER X id r)(ho:PE X o to)(ha:PA X (e::es) t)
  (jK:attributeBase o name X.env (eval o X.env)=eval o X.env:=by rfl)
  (rE:((backTo d7 (starEach (e::es) X.env)).all (fun x=>!x.1)&&(backToKw d7 (keywordEach [] X.env)).all (fun x=>x.1.isSome)
   && decide #[18])=true:=by rfl)
  (kE:(gj.endLine==d7.line)=true:=by rfl) (hs:starEach (e::es) X.env=(false,eval e X.env)::starEach es X.env:=by rfl) (og:(backTo d7 (starEach es X.env)).any (·.1)=false:=by rfl) :
  PE X (.Call (.Attribute o name gj) (e::es) [] d7) (Xj r to t):=Gm (ty:=fun x H1=>∃l,x=.str (tx l)) (fun _ _ h=>DJ h) F.plainAttrs_str slot Do hm ho ha jK rE kE hs og
theorem OX(slot:Slot "list" name id)(Do:typeOf (.builtin id)=pure (.type "method_descriptor"))(hm:ER X id r)(ho:PE X o to)
  (jK:attributeBase o name X.env (eval o X.env)=eval o X.env:=by rfl) (kE:(gj.endLine==d7.line)=true:=by rfl):PE X (.Call (.Attribute o name gj) [] [] d7) (Wa r to):=by
 intro ak s σ H Q I h
 refine wpAny_Call_method0_late jK kE (jQ (ho ak s σ H _ I h) fun v s1 kt1 zq=>?_)
 obtain⟨x,H1,I1,r1,ty,q1⟩:=zq
 obtain⟨h1,h2⟩:=Cd I1 r1 (Ad ty)
 exact⟨"list",id,F.plainAttrs_list,slot,Do,h1,h2,jM rfl (PySem.evalArgs_none (hm ak s1 σ H1 x [] v [] Q I1 r1 .nil q1))⟩
end
end L2
namespace L2
open PySem PySem.Spec PyProof.Rows
end L2
namespace L2
open PySem PySem.Spec PyProof.Rows
section
variable{t:TA}
def Sz(t:TA):TE:=fun σ H Q=>t σ H fun xs H1=>xs.length<=sizeLine/\∀p H2,H1 p=none->H2=fB H1 p (.tup xs)->Q (.ref p) H2
def SC(t:TA):TE:=fun σ H Q=>t σ H fun xs H1=>xs.length<=sizeLine/\∀p H2,H1 p=none->H2=fB H1 p (.lst xs)->Q (.ref p) H2
theorem DL{x1}(h:PA X es t):PE X (.Tuple es x1 pos) (Sz t):=by
 intro ak s σ H Q I hq
 refine wpAny_Tuple_spliced (jQ (h pos ak s σ H _ I hq) fun us s1 kt1 ⟨xs,H1,I1,r,z,q⟩=>⟨by rw[<- r.length];exact z,?_⟩)
 have hf:H1 s1.heap.objs.size=none:=I1.hok.fresh (ax _)
 refine⟨.ref s1.heap.objs.size,fB H1 s1.heap.objs.size (.tup xs),I1.laid (t':=s1.toks) (fun b u e=>aq _ e) (ax _) ?_,rfl,q _ _ hf rfl⟩
 exact⟨z,us,r,⟨_,ay _ rfl,rfl,_,rfl⟩⟩
theorem KL(h:PA X es t):PE X (.List es pos) (SC t):=by
 intro ak s σ H Q I hq
 refine wpAny_List_spliced (jQ (h pos ak s σ H _ I hq) fun us s1 kt1 ⟨xs,H1,I1,r,z,q⟩=>⟨by rw[<- r.length];exact z,?_⟩)
 have hf:H1 s1.heap.objs.size=none:=I1.hok.fresh (ax _)
 refine⟨.ref s1.heap.objs.size,fB H1 s1.heap.objs.size (.lst xs),I1.laid (t':=s1.toks) (fun b u e=>aq _ e) (ax _) ?_,rfl,q _ _ hf rfl⟩
 exact⟨z,us,0,r,ay _ rfl⟩
theorem ER.imp{id:String}{r r':V->List V->Hp->VK->Prop}(h:ER X id r)(i:∀x xs H Q,r' x xs H Q->r x xs H Q):ER X id r':=fun ak s σ H x xs v us Q I rx rv q=>h ak s σ H x xs v us Q I rx rv (i _ _ _ _ q)
theorem iL.imp{f:Value}{r r':List V->Hp->VK->Prop}(h:iL X f r)(i:∀xs H Q,r' xs H Q->r xs H Q):iL X f r':=fun ak s σ H xs us Q I rv q=>h ak s σ H xs us Q I rv (i _ _ _ q)
theorem oZ.imp{f:Value->Value->Sem Value}{r r':R2}(h:oZ X f r)(i:∀x y H Q,r' x y H Q->r x y H Q):oZ X f r':=fun ak s σ H x y v u Q I rx ry q=>h ak s σ H x y v u Q I rx ry (i _ _ _ _ q)
def Gn:V->List V->Hp->VK->Prop:=fun x vs H Q=>∃l xs y,x=.ref l/\vs=[y]/\H l=some (.lst xs)/\xs.length<sizeLine/\∀H2,H2=fB H l (.lst (xs++[y]))->Q .non H2
theorem Ck:ER X "list.append" Gn:=ER.imp (r:=DF) ES fun _ _ _ _ ⟨l,xs,y,a,b,c,d,q⟩=>⟨l,xs,y,a,b,c,d,q _ rfl⟩
def SD:V->List V->Hp->VK->Prop:=fun x vs H Q=>∃l xs y,x=.ref l/\vs=[]/\H l=some (.lst (xs++[y]))/\∀H2,H2=fB H l (.lst xs)->Q y H2
theorem KM:ER X "list.pop" SD:=ER.imp (r:=Ss) OQ fun _ _ _ _ ⟨l,xs,y,a,b,c,q⟩=>⟨l,xs++[y],y,a,b,c,by simp,by rw[List.dropLast_concat];exact q _ rfl⟩
def OY:V->V->V->Hp->(Hp->Prop)->Prop:=fun o i v H Q=>∃p xs k j,o=.ref p/\i=.int k/\H p=some (.lst xs)/\DC xs.length k=some j/\∀H2,H2=fB H p (.lst (xs.set j v))->Q H2
theorem EX:F1 X OY:=fun ak s σ H o i v ov iv u Q I r1 r2 r3 q=>by
 obtain⟨p,xs,k,j,a,b,c,d,q⟩:=q
 exact Gf ak s σ H o i v ov iv u Q I r1 r2 r3 ⟨p,xs,k,j,a,b,c,d,q _ rfl⟩
def Gp(K:Frag):List V->Hp->VK->Prop:=fun xs H Q=>∃p ys,xs=[.ref p]/\tm K H p ys/\∀l H2,H l=none->H2=fB H l (.tup ys)->Q (.ref l) H2
theorem Ae:iL X (.type "tuple") (Gp X.K):=iL.imp wX fun _ _ _ ⟨p,ys,a,b,q⟩=>⟨p,ys,a,.inl ⟨b,fun l hl=>q l _ hl rfl⟩⟩
def KN(K:Frag):List V->Hp->VK->Prop:=fun xs H Q=>∃p ys,xs=[.ref p]/\(tm K H p ys\/fU K H p ys)/\∀l H2,H l=none->H2=fB H l (.lst ys)->Q (.ref l) H2
theorem vB:iL X (.type "list") (KN X.K):=iL.imp yL fun _ _ _ ⟨p,ys,a,b,q⟩=>⟨p,ys,a,b,fun l hl=>q l _ hl rfl⟩
def SF:R2:=fun x y H Q=>∃l b xs zs,x=.ref l/\y=.ref b/\H l=some (.lst xs)/\H b=some (.lst zs)/\xs.length+zs.length<=sizeLine/\∀p H2,H p=none->H2=fB H p (.lst (xs++zs))->Q (.ref p) H2
theorem KO:oZ X (binaryOp .Add) SF:=oZ.imp OR fun _ _ _ _ ⟨l,b,xs,zs,h1,h2,h3,h4,h5,q⟩=>⟨l,b,xs,zs,h1,h2,h3,h4,h5,fun p hp=>q p _ hp rfl⟩
end
end L2
namespace L2
open PySem PySem.Spec PyProof.Rows
end L2
namespace L2
open PySem PySem.Spec PyProof.Rows
def Gq(T:String):Prop:=T="tuple"\/T="bool"\/T="int"\/T="str"
end L2
namespace L2
end L2
namespace L2
open PySem PySem.Spec PyProof.Rows
end L2
namespace L2
open PySem PySem.Spec PyProof.Rows
structure QE(X:Cx)(e:Expr)(t:TE):Prop where
 h:PE X e t
structure QA(X:Cx)(es:List Expr)(t:TA):Prop where
 h:PA X es t
structure QS(X:Cx)(s:Stmt)(t:TS):Prop where
 h:PS X s t
structure QG(X:Cx)(e:Expr)(t:TG):Prop where
 h:PG X e t
structure QI(X:Cx)(tg it:Expr)(t:TI):Prop where
 h:PI X tg it t
structure Wb(X:Cx)(es:List Expr)(t:TT):Prop where
 h:Gi X es t
structure WQ(X:Cx)(f:Value->Value->Sem Value)(r:R2):Prop where
 h:oZ X f r
structure Mf(X:Cx)(f:Value)(r:List V->Hp->VK->Prop):Prop where
 h:iL X f r
section
variable{a b c:Expr}{ta tb tc to:TE}{t u:TA}{tA UO:TT}{gb:List Expr}
theorem Gu:WQ X (binaryOp .LShift) (rI Oy fun i j=>.int (i*2^j.toNat)):=⟨F9⟩
variable{st:Stmt}{sr:List Stmt}{ts us:TS}{g:TG}
end
section
variable{c:Expr}{body:List Stmt}{wi:TI}{g:TG}{tb:TS}{tA:TT}
end
end L2
namespace L2
open PySem PySem.Spec PyProof.Rows
end L2
namespace L2
open PySem PySem.Spec PyProof.Rows
end L2
namespace L2
open PySem PySem.Spec PyProof.Rows
noncomputable def jB(env:Env):List (Str×NameKind)->List (Str×Addr)->List (Str×Addr)
 |[],cs=>cs
 |(n,k)::r,cs=>jB env r (if k==.free then(n,(env.cells.lookup n).getD 0)::cs else cs)
theorem SH(h:∀x∈scope.names,x.2=.free->∃c,env.cells.lookup x.1=some c):closureFor scope env=pure (jB env scope.names []):=by
 unfold closureFor
 have key:∀(ns:List (Str×NameKind)) (cs:List (Str×Addr)),(∀x∈ns,x.2=.free->∃c,env.cells.lookup x.1=some c) ->
   (forIn ns cs fun(x:Str×NameKind) (r:List (Str×Addr))=>if (x.2==NameKind.free)=true then(do let a <- cellOf env x.1;pure (ForInStep.yield ((x.1,a)::r)))else(pure (ForInStep.yield r):Sem _))=pure (jB env ns cs):=by
  intro ns
  induction ns with
  |nil=>intro cs _;rfl
  |cons y r ih=>
   intro cs hc
   obtain⟨n,k⟩:=y
   rw[kT]
   have ihr:=fun cs=>ih cs fun x hx=>hc x (aO _ hx)
   by_cases hk:(k==NameKind.free)=true
   ·obtain⟨c,e⟩:=hc (n,k) bF (nI hk)
    have e2:cellOf env n=pure c:=by unfold cellOf;rw[e]
    show((if (k==NameKind.free)=true then _ else _) >>= _)=pure (jB env r (if (k==NameKind.free)=true then _ else _))
    rw[aD hk,aD hk,e2]
    simp only[pure_bind]
    have e3:(env.cells.lookup n).getD 0=c:=by rw[show env.cells.lookup n=some c from e];rfl
    rw[e3]
    exact ihr _
   ·show((if (k==NameKind.free)=true then _ else _) >>= _)=pure (jB env r (if (k==NameKind.free)=true then _ else _))
    rw[aQ hk,aQ hk]
    simp only[pure_bind]
    exact ihr _
 have:=key scope.names [] h
 dsimp only
 rw[this];simp only[pure_bind]
theorem xO:∀(ns:List (Str×NameKind)) (cs:List (Str×Addr)),(∀x∈ns,x.2=.free->∃c,env.cells.lookup x.1=some c)->(∀y∈cs,env.cells.lookup y.1=some y.2)->∀y∈jB env ns cs,env.cells.lookup y.1=some y.2
 |[],cs,_,h=>h
 |(n,k)::r,cs,hf,h=>by
  refine xO r _ (fun x hx=>hf x (aO _ hx)) ?_
  by_cases hk:(k==NameKind.free)=true
  ·rw[aD hk]
   intro y hy
   rcases aN.mp hy with rfl|hy
   ·obtain⟨c,e⟩:=hf (n,k) bF (nI hk)
    show env.cells.lookup n=some ((env.cells.lookup n).getD 0)
    rw[show env.cells.lookup n=some c from e];rfl
   ·exact h y hy
  ·rw[aQ hk];exact h
theorem vC:∀(ns:List (Str×NameKind)) (cs:List (Str×Addr)) (y:Str×Addr),y∈cs->y∈jB env ns cs
 |[],_,_,h=>h
 |(n,k)::r,cs,y,h=>by
  refine vC r _ y ?_
  split
  ·exact aO _ h
  ·exact h
theorem vD{env:Env}:∀(ns:List (Str×NameKind)) (cs:List (Str×Addr)) (x:Str),(x,NameKind.free)∈ns->∃c,(x,c)∈jB env ns cs
 |[],_,_,h=>by simp at h
 |(n,k)::r,cs,x,h=>by
  rcases aN.mp h with e|h
  ·obtain⟨e1,e2⟩:=Prod.mk.inj e
   subst e1;subst e2
   exact⟨_,vC r _ (x,_) (by rw[aD (by rfl:(NameKind.free==NameKind.free)=true)];exact bF)⟩
  ·exact vD r _ x h
theorem vE:∀{l:List (Str×β)} {x:Str} {b:β},(x,b)∈l->∃c,l.lookup x=some c
 |(y,c)::r,x,b,h=>by
  rw[ke]
  cases hx:x==y with
  |true=>exact⟨c,rfl⟩
  |false=>
   rcases aN.mp h with e|h
   ·cases e;simp at hx
   ·exact vE h
theorem uy{env:Env}{g:Str×NameKind->Bool}:∀{names:List (Str×NameKind)} {x:Str},names.lookup x=some .free ->
  (names.map fun y=>if g y then(y.1,NameKind.cell)else y).lookup x=some .cell\/(names.map fun y=>if g y then(y.1,NameKind.cell)else y).lookup x=some .free
 |[],_,h=>by simp at h
 |(n,k)::r,x,h=>by
  rw[ke]at h
  rw[bt]
  have e1:∀y:Str×NameKind,(if g y then(y.1,NameKind.cell)else y).1=y.1:=fun y=>by split<;>rfl
  have e2:∀(y:Str×NameKind) (l:List (Str×NameKind)),(y::l).lookup x=if (x==y.1)=true then some y.2 else l.lookup x:=fun y l=>by
   obtain⟨a,b⟩:=y
   rw[ke]
   cases x==a<;>rfl
  rw[e2,e1]
  cases hx:x==n with
  |true=>
   rw[hx]at h
   cases h
   rw[aD rfl]
   by_cases hg:g (n,.free)=true
   ·rw[aD hg];exact .inl rfl
   ·rw[aQ hg];exact .inr rfl
  |false=>
   rw[hx]at h
   rw[aQ (by exact et)]
   exact uy (env:=env) h
noncomputable def Af(dn:List (Str×NameKind))(sn:List (Str×NameKind))(nm:List Str)(cap:List (Option Nat))(N:List Str):Bool:=
 (sn.all fun x=>!(x.2==.local)||sn.lookup x.1==some .local)&&(sn.all fun y=>!(y.2==.cell))&&(sn.all fun x=>!(x.2==.free)||dn.lookup x.1==some .cell)&&(cap.length==nm.length) &&
 ((List.range cap.length).all fun i=>match cap[i]? with
  |some (some j)=>(match nm[i]?,N[j]? with
   |some x,some y=>x==y&&dn.lookup x==some .cell&&sn.lookup x==some .free
   |_,_=>false)
  |_=>true)
structure Wc(X:Cx)(scope:Scope)(nm:List Str)(cap:List (Option Nat)):Prop where
 clos:closureFor scope X.env=pure (jB X.env scope.names [])
 cl:∀x c,(jB X.env scope.names []).lookup x=some c->X.env.cells.lookup x=some c
 nms:∀x∈scope.names,x.2=.local->scope.names.lookup x.1=some .local
 cell:∀y∈scope.names,y.2≠.cell
 has:∀x,#[14]->∃c,(jB X.env scope.names []).lookup x=some c
 cp:∀(i j:Nat),cap[i]?=some (some j)->∃x,nm[i]?=some x/\X.N[j]?=some x/\vy X scope (jB X.env scope.names []) x
 len:cap.length=nm.length
theorem SJ{nm:List Str}{cap:List (Option Nat)}(hf:∀x,X.env.scope.names.lookup x=some .cell->∃c,X.env.cells.lookup x=some c)(hB:Af X.env.scope.names scope.names nm cap X.N=true):Wc X scope nm cap:=by
 simp only[Af,cX,List.all_eq_true,Bool.or_eq_true,fN,cI,ba]at hB
 obtain⟨⟨⟨⟨b1,b2⟩,b3⟩,b4⟩,b5⟩:=hB
 have has:∀x∈scope.names,x.2=.free->∃c,X.env.cells.lookup x.1=some c:=fun x hx hk=>by
  rcases b3 x hx with z|z
  ·exact absurd hk z
  ·exact hf _ z
 have BD:∀x c,(jB X.env scope.names []).lookup x=some c->X.env.cells.lookup x=some c:=fun x c h=>xO scope.names [] has #[15] (x,c) (jn h)
 have hin:∀x,(x,NameKind.free)∈scope.names->∃c,(jB X.env scope.names []).lookup x=some c:=fun x h=>let ⟨_,q⟩:=vD (env:=X.env) scope.names [] x h;vE q
 have hmap:(relabel scope X.env).names=scope.names.map fun y=>if (y.2==.free&&X.env.scope.kind==.function&&X.env.kindOf y.1==some .cell)then(y.1,NameKind.cell)else y:=by
  show scope.names.map _=_
  refine eR fun y _=>?_
  obtain⟨a,b⟩:=y
  rfl
 have fr:∀x,#[14]->(x,NameKind.free)∈scope.names:=fun x h=>by
  have h':∃k,(x,k)∈(relabel scope X.env).names/\(k=.cell\/k=.free):=by
   rcases h with h|h
   ·exact⟨_,jn h,.inl rfl⟩
   ·exact⟨_,jn h,.inr rfl⟩
  obtain⟨k,hm,hk⟩:=h'
  rw[hmap]at hm
  obtain⟨y,hy,e⟩:=cV.mp hm
  obtain⟨a,b⟩:=y
  by_cases hb:b=.free
  ·subst hb
   have:a=x:=by split at e<;>(cases e;rfl)
   subst this;exact hy
  ·rw[aQ (by simp[hb])]at e
   cases e
   rcases hk with rfl|rfl
   ·exact absurd rfl (b2 _ hy)
   ·exact absurd rfl hb
 refine⟨SH has,BD,fun x hx hk=>(b1 x hx).resolve_left fun z=>z hk,fun y hy=>b2 y hy,fun x hx=>hin x (fr x hx),fun i j e=>?_,b4⟩
 have hi':i<cap.length:=(ar.mp e).1
 have q:=b5 i (lV.mpr hi')
 rw[e]at q
 dsimp only at q
 cases hx:nm[i]? with
 |none=>rw[hx]at q;simp at q
 |some x=>
  cases hy:X.N[j]? with
  |none=>rw[hx,hy]at q;simp at q
  |some y=>
   rw[hx,hy]at q
   simp only[cX,cI]at q
   obtain⟨⟨rfl,q1⟩,q2⟩:=q
   refine⟨x,rfl,rfl,.inr (.inl q1),(by rw[q1];decide),?_,?_⟩
   ·obtain⟨c,hc⟩:=hin x (jn q2)
    rw[hc,BD _ _ hc]
   ·rw[hmap];exact uy (env:=X.env) q2
theorem OZ{pos:Pos}{wi:TI}{g:TG}{tc:TT}{m:Nat}(iM:X.calm=true)
  (lN:X.env.cells=cellsFrom m X.env.scope.names []) (iN:scope.kind=.function) (hB:Af X.env.scope.names scope.names nm cap X.N=true)
  (hi:QI X tg dA wi) (hg:∀cl C s0 H0 fp,QG #[11] tg g) (ht:∀cl C s0 H0 fp,Wb #[11] mi tc)
  (he:∀cl C s0 H0 fp,QE #[11] pD te) (hs:∀x,foldedSetIterable dA X.env x=pure x:=by intro _;rfl) :
  QE X #[10] (vx cap wi g tc te):=by
 have F:=SJ (nm:=nm) (cap:=cap) (fun x z=>by rw[lN];exact mY z) hB
 exact⟨KJ iM F.clos F.cl iN F.nms F.cell F.has F.cp F.len hi.h (fun C s0 H0 fp=>(hg _ C s0 H0 fp).h) (fun C s0 H0 fp=>(ht _ C s0 H0 fp).h) (fun C s0 H0 fp=>(he _ C s0 H0 fp).h) hs⟩
def KP(K:Frag):List V->Hp->VK->Prop:=fun xs H Q=>∃(p:Addr) (ys:List (List Nat)),xs=[.ref p]/\tm K H p (ys.map fun l=>V.str (tx l))/\ys.length<64 /\
 ∀zs:List (List Nat),zs.Perm ys->sortedS (zs.map tx)=true->∀l H2,H l=none->H2=fB H l (.lst (zs.map fun l=>V.str (tx l)))->Q (.ref l) H2
theorem DM(z:Str):tx z.cps.toList=z:=by cases z;rfl
theorem vF{vs:List Value}{xs:Array (Value×Value)}(hp:xs.Perm (pairsOf vs)):∀v∈(xs.map (·.2)).toList,v∈vs:=fun v hv=>by
 have hl:xs.toList.Perm (vs.zip vs):=by rw[<- pairsOf_toList];exact Array.perm_iff_toList_perm.mp hp
 rw[Array.toList_map]at hv
 obtain⟨p,hp',rfl⟩:=cV.mp hv
 have:=mem_zip_self (hl.mem_iff.mp hp')
 rw[<- this.1];exact this.2
theorem yO{prog:Program}{w:World}{A:Around}{E:Value->Shared->Prop}{l:Addr}{vs:List Value}{ss:List Str}(hl:s.heap.IsList l vs.toArray)(hS:StrsAre vs ss)(WB:vs.length<64)
  (h:∀(out:Array Value) (J9:List Str),(∀v∈out.toList,v∈vs)->StrsAre out.toList J9->J9.Perm ss->sortedS J9=true->Q (.ref #[8]) { s with heap:=sortedAll s.heap vs out }) :
  wpAny #[7] A (call (.builtin "sorted") [.ref l]) Q E s:=by
 refine sortedK qW hl hS.keysOf (fun v₁ v₂ gb e=>sV (by rw[<- e];exact hS)) WB fun be hp hs=>?_
 obtain⟨J9,h1,h2,h3⟩:=qg hS hp hs
 exact h _ J9 (vF hp) h1 h2 h3
theorem iW.sub{vs:List Value}(h:iW n vs)(hs:∀v∈us,v∈vs):iW n us:=fun x t hx=>h x t (hs _ hx)
theorem wY:Mf X (.builtin "sorted") (KP X.K):=⟨by
 intro ak s σ H xs us Q I r h
 obtain⟨p,ys,rfl,hS,WB,q⟩:=h
 obtain⟨u,rfl,ru⟩:=pF r
 cases ru
 obtain⟨bP,rv,pl,hz⟩:=I.list hS
 have hl:=rv.length
 rw[az]at hl
 refine yO (ss:=ys.map tx) pl.isList (vA (by simpa using rv)) #[0] fun out J9 hm h1 h2 h3=>?_
 obtain⟨ep,hat⟩:=sortedAll_at s.heap bP out
 have xz:H #[8]=none:=I.hok.fresh (bj _)
 have hmap:(J9.map fun z=>z.cps.toList).map tx=J9:=by
  rw[b6]
  have:(tx∘fun z:Str=>z.cps.toList)=id:=funext fun z=>DM z
  rw[this,jw]
 have hperm:(J9.map fun z=>z.cps.toList).Perm ys:=by
  have e:=h2.map fun z:Str=>z.cps.toList
  rw[b6]at e
  have:((fun z:Str=>z.cps.toList)∘tx)=id:=funext fun l=>by simp[tx]
  rw[this,jw]at e
  exact e
 have hvals:cu s.toks ((J9.map fun z=>z.cps.toList).map fun l=>V.str (tx l)) out.toList:=by
  have e:=nM h1 ((rM rv).sub hm)
  rw[<- hmap,b6]at e
  exact e
 refine⟨.ref #[8],_,I.laid (t':=s.toks) (fun b o e=>sortedAll_old e) (bj _) ?_,rfl,q _ hperm (by rw[hmap];exact h3) _ _ xz rfl⟩
 refine⟨?_,out.toList,ep,hvals,hat⟩
 rw[az,hperm.length_eq]
 exact aI (fK WB) #[3]⟩
theorem bG.turned2{t':Nat}{e:Addr}(I:bG X ak σ H s)(k:∀b o,b≠e->b≠it->s.heap.get? b=some o->h'.get? b=some o)
  (he:∃o,h'.get? e=some o) (f1:tq X ak H e) (f2:tq X ak H it) (hk:s.toks<=t':=by first|exact ax _|exact bj _|assumption|omega):bG X ak σ H { s with heap:=h',toks:=t' }:=by
 have nit:∀b u,H b=some u->b≠e/\b≠it:=fun b u q=>⟨fun z=>(by rw[z,f1.1]at q;cases q),fun z=>(by rw[z,f2.1]at q;cases q)⟩
 have nin:∀b,b∉[e,it]->b≠e/\b≠it:=fun b h=>⟨fun z=>h (by simp[z]),fun z=>h (by simp[z])⟩
 refine I.step (g':=s.gens) (d':=s.drawn) (ch:=[e,it]) (fun b hb=>?_) (fun b o _ _ hc q _=>k b o (nin b hc).1 (nin b hc).2 q) (fun b o _ _ hc q _=>⟨o.slots,k b o (nin b hc).1 (nin b hc).2 q⟩) (fun _ _ _ _ n=>n)
  (fun b o hc q=>⟨o,k b o (nin b hc).1 (nin b hc).2 q⟩) (fun _ _ q=>q) (fun _ _ _ q=>q) (fun b ps q=>⟨#[],by rw[q];simp⟩) (fun m hm=>?_) (fun b u q=>?_) I.bare hk
 ·have z:b=e\/b=it:=by simpa using hb
  rcases z with rfl|rfl
  ·exact⟨f1.2.2.2.1,f1.2.1,f1.2.2.2.2.1,f1.2.2.2.2.2⟩
  ·exact⟨f2.2.2.2.1,f2.2.1,f2.2.2.2.2.1,f2.2.2.2.2.2⟩
 ·obtain⟨o,es,ep,ho,r⟩:=hm
  exact⟨o,es,ep,k _ o (Ne.symm f1.2.1) (Ne.symm f2.2.1) ho,r⟩
 ·refine((I.hok b u q).up hk).stay (fun c v hc z=>?_) (fun _ z=>z) fun _ _ z=>z
  rcases hc with y|y
  ·rw[y]at z ⊢;exact k b v (nit b u q).1 (nit b u q).2 z
  ·exact k c v (nit c _ y).1 (nit c _ y).2 z
section
variable{w:World}
theorem kj{t:Addr}{bP:Array Value}{x:Value}(st:s.heap.IsTupleIter it t i)(ht:s.heap.IsTuple t bP)(hx:bP[i]?=some x)
  (q:∀g,g.IsTupleIter it t (i+1)->Heap.SameBut it s.heap g->Q x { s with heap:=g }):wpAny #[7] A (Builtin.SmallTypes.nextOf (.ref it)) Q E s:=by
 obtain⟨ob,e1,e2,e3⟩:=id st
 obtain⟨ot,g1,_,nt,g3⟩:=ht
 have T:=st.typeIs
 unfold Builtin.SmallTypes.nextOf
 refine ae (bS (name:=Str.ofString "__next__") T fz (bZ fz T lg ?_ (kU _)))
 show wpAny _ _ (field (.ref it) 0 >>= _) _ _ s
 refine ae (cY e1 e3 (x:=.ref t) rfl ?_)
 dsimp only
 rw[aQ (show ¬ ((Value.ref t==Value.none)=true)from et)]
 refine ae (cY e1 e3 (x:=.int i 0) rfl ?_)
 dsimp only
 refine ae (dU g1 g3 ?_)
 simp only[b9,hx]
 refine ae (wpAny_setField e1 e3 #[15] (au ⟨x,rfl,au (q _ ?_ (iS ..))⟩))
 exact⟨_,dB _ e1 (Obj.isFreed_of_fields (Obj.data_mapFields e3 _)),(Obj.cls_mapFields ..).trans e2,by rw[Obj.data_mapFields e3];simp[rawInt]⟩
theorem k9{t:Addr}{bP:Array Value}(hh:A.handled=none)(st:s.heap.IsTupleIter it t i)(ht:s.heap.IsTuple t bP)(hx:bP[i]?=none)
  (q:∀g e,Heap.ExtBut it s.heap g->(∃o,g.get? e=some o/\o.cls=.type "StopIteration")->E (.ref e) { s with heap:=g }):wpAny #[7] A (Builtin.SmallTypes.nextOf (.ref it)) Q E s:=by
 obtain⟨ob,e1,e2,e3⟩:=id st
 obtain⟨ot,g1,_,nt,g3⟩:=ht
 have T:=st.typeIs
 unfold Builtin.SmallTypes.nextOf
 refine ae (bS (name:=Str.ofString "__next__") T fz (bZ fz T lg ?_ (kU _)))
 show wpAny _ _ (field (.ref it) 0 >>= _) _ _ s
 refine ae (cY e1 e3 (x:=.ref t) rfl ?_)
 dsimp only
 rw[aQ (show ¬ ((Value.ref t==Value.none)=true)from et)]
 refine ae (cY e1 e3 (x:=.int i 0) rfl ?_)
 dsimp only
 refine ae (dU g1 g3 ?_)
 simp only[b9,hx]
 refine ae (kg (ae (wpAny_setField e1 e3 #[15] (ae ?_))))
 simp only[newExc,newTuple]
 refine ae (b_ (ae (m:=firstArgMember _ _) (wpAny_of_eq (a:=Value.none) (by first|rfl|(simp only[firstArgMember];rfl)) (b_ ?_ (by size_fits)))) (by size_fits))
 simp only[raiseNew]
 refine ae (wpAny_handled ?_)
 rw[show A.in1.handled=none from hh]
 exact ae (au (wpAny_throw (q _ _ (((iS ..).extBut.push _).push _) ⟨_,ay _ rfl,rfl⟩)))
end
theorem Gv{w:World}{A:Around}(hh:A.handled=none)(it t:Addr)(Ey:t≠it)(bP:Array Value) :
  Draws prog w A it [it,t] bP.size (fun i v=>bP[i]?=some v) (fun i h=>h.IsTupleIter it t i/\h.IsTuple t bP) where
 live:=fun _ _ st=>let ⟨o,e,_⟩:=st.1;⟨o,e⟩
 frame:=fun _ h h' st k=>⟨st.1.at fun o e=>k it #[15] o e,let ⟨o,e,r⟩:=st.2;⟨o,k t #[15] o e,r⟩⟩
 item:=fun i s Q E hi st q=>kj st.1 st.2 (x:=bP[i]) (by simp[hi]) fun g a b=>q _ g s.toks (by simp[hi]) ⟨a,st.2.extBut b.extBut Ey⟩ b
 done:=fun s Q E st q=>k9 hh st.1 st.2 #[15] q
open AutoSeq1 (wpAny_loadPart')
def WR(K:Frag)(a:Addr):It:=
 ⟨fun i H=>∃xs x,fU K H a xs/\xs[i]?=some x,fun i H v H'=>∃p,H p=none/\v=.ref p/\∀xs x,fU K H a xs->xs[i]?=some x->H'=fB H p (.tup [.int i,x]),fun i H=>∃xs,fU K H a xs/\xs.length<=i⟩
theorem EY{w:World}(a it e:Addr)(WI:e≠it) :
  BR P w K (.Tuple wO kk pos) (WR K a) [e,it] e (fun i h=>(∃old,IsEnum h e it i old)/\h.IsTupleIter it a i) where
 mem:=by simp
 obj:=fun i h st b hb=>by
  have z:b=e\/b=it:=by simpa using hb
  rcases z with rfl|rfl
  ·obtain⟨old,q⟩:=st.1
   exact⟨_,q,fun v z=>by cases z⟩
  ·obtain⟨o,q,c,d⟩:=st.2
   exact⟨o,q,fun v z=>by rw[d]at z;cases z⟩
 keep:=fun i h h' st k=>⟨let ⟨old,q⟩:=st.1;⟨old,k e #[15] _ q⟩,st.2.at fun o q=>k it #[15] o q⟩
 item:=by
  intro X hP hw hK hc i ak s σ H E I hf st hg
  subst hP hw hK
  obtain⟨xs,x,hq,hx⟩:=hg
  obtain⟨bP,rv,p,hz⟩:=I.tuple hq
  obtain⟨u,hu,ru⟩:=rv.get hx
  obtain⟨⟨old,he⟩,p_⟩:=st
  have hT:s.heap.IsTuple a bP.toArray:=p
  obtain⟨oa,ha,hca,_⟩:=id hT
  obtain⟨oi,hi,hci,_⟩:=id p_
  have nai:a≠it:=fun z=>by
   rw[z,hi]at ha;cases ha
   rw[hci]at hca;injection hca with z;exact absurd z #[3]
  have nae:a≠e:=fun z=>by
   rw[z,he]at ha;cases ha
   injection hca with z;exact absurd z #[3]
  have hlt:i<bP.toArray.size:=by
   have:=(ar.mp hu).1
   simpa using this
  refine up (wpAny_pyNext_enum_itemD (Gv (A:=X.A.in1) (I.ok.hd hc) it a nai bP.toArray) he ⟨p_,hT⟩ hlt WI (by simp[WI,Ne.symm nae]) fun x' g tk hx' ho' be htup yu hk J_=>⟨_,rfl,?_⟩)
  have ex:x'=u:=by
   have e1:bP[i]?=some x':=by simpa using hx'
   rw[hu]at e1;exact(bq e1).symm
  subst ex
  refine wpAny_letOwnedTupleGo_enum ho' fun g2 L0 uo=>?_
  have xz:H s.heap.objs.size=none:=I.hok.fresh (ax _)
  have I1:bG X ak σ (fB H s.heap.objs.size (.tup [.int i,x])) { s with heap:=s.heap.push { cls:=.type "tuple",data:=.seq #[.int i tk,x'] },toks:=tk+1 }:=I.laid (fun b o q=>aq _ q) (ax _)
   ⟨by show 2<=sizeLine;decide,[.int i tk,x'],.cons ⟨tk,rfl⟩ (.cons (ru.up J_) .nil),⟨_,ay _ rfl,rfl,_,rfl⟩⟩
  have nf:∀b∈[e,it],b≠s.heap.objs.size:=fun b hb=>by
   have z:b=e\/b=it:=by simpa using hb
   rcases z with rfl|rfl
   ·exact aW (aB he)
   ·exact aW (aB hi)
  have fp:∀b∈[e,it],tq X ak (fB H s.heap.objs.size (.tup [.int i,x])) b:=fun b hb=>by
   obtain⟨f0,f⟩:=hf b hb
   exact⟨by rw[cM (nf b hb)];exact f0,f⟩
  have he2':IsEnum g2 e it ((i:Int)+1) x':=L0
  have I2:bG X ak σ (fB H s.heap.objs.size (.tup [.int i,x])) { s with heap:=g2,toks:=tk+1 }:=I1.turned2 (t':=tk+1) (fun b o hbe hbi q=>?_) ⟨_,he2'⟩ (fp e #[15]) (fp it #[15])
  ·refine⟨.ref s.heap.objs.size,_,I2,rfl,⟨_,xz,rfl,fun ys y hy hy'=>?_⟩,⟨⟨x',by simpa using he2'⟩,be.1.extBut uo.extBut (Ne.symm WI)⟩,fun b hb=>(fp b hb).1⟩
   have e1:=I.tuple_inj hy hq
   subst e1
   rw[hx]at hy';cases hy';rfl
  ·have q':(s.heap.push { cls:=.type "tuple",data:=.seq #[.int i tk,x'] }).get? b=some o:=q
   refine uo.extBut b o hbe ?_
   by_cases hb:b=s.heap.objs.size
   ·subst hb
    have e1:=ay s.heap (o:={ cls:=.type "tuple",data:=.seq #[.int i tk,x'] }) rfl
    rw[e1]at q';cases q'
    exact htup
   ·rw[Heap.get?_push_ne _ _ _ hb]at q'
    exact hk b o hbe hbi q'
 done:=by
  intro X hP hw hK hc i ak s σ H E I hf st hg
  subst hP hw hK
  obtain⟨xs,hq,hx⟩:=hg
  obtain⟨bP,rv,p,hz⟩:=I.tuple hq
  obtain⟨⟨old,he⟩,p_⟩:=st
  have hT:s.heap.IsTuple a bP.toArray:=p
  have hl:=rv.length
  have hT':Shared.TypeIs s (.ref e) "enumerate":=⟨_,he,rfl⟩
  unfold pyNext
  refine ae (g_ (bS (name:=Str.ofString "__next__") hT' ph (bZ ph hT' F.entry_enumerate_next ?_ (F.args_enumerate_next_1 _))))
  show wpAny _ _ (field (.ref e) 2 >>= _) _ _ _
  refine ae (cY he rfl (x:=.ref it) rfl (ae (k9 (show X.A.in1.handled=none from I.ok.hd hc) p_ hT (by simp;omega) fun g y hx' hy=>?_)))
  obtain⟨o,ho,BD⟩:=hy
  refine ae (gl (T:="StopIteration") (b:=true) ⟨o,ho,BD⟩ l_ (au ⟨rfl,?_⟩))
  obtain⟨f0,f1,f2,f3,f4,f5⟩:=hf it #[15]
  exact I.turned (t':=s.toks) (fun b o hb q=>hx' b o hb q) f0 f1 f3 f4 f5
 self:=fun A i s Q E st h=>let ⟨_,q⟩:=st.1;wpAny_pyIter_enum q h
open AutoSeq1 (wpAny_loadPart')
noncomputable abbrev mq(t:Addr):Obj:={ cls:=.type "tuple_iterator",data:=.fields #[.ref t,.int 0 0] }
noncomputable abbrev Cl(it:Addr):Obj:={ cls:=.type "enumerate",data:=.fields #[.none,.bool false,.ref it,rawInt 0,.none,.none] }
theorem O0(t:Addr)(bP:Array Value)(n:Nat)(dc:Option Addr)(sl:Array (Option Value)) :
  Meets (Builtin.«enumerate.__new__» ⟨[.type "enumerate",.ref t],[]⟩) (fun _ R s=>s.heap.get? t=some { cls:=.type "tuple",dict:=dc,data:=.seq bP n,slots:=sl } /\
   R (.ok (.ret (.ref (s.heap.push (mq t)).objs.size))) { s with heap:=(s.heap.push (mq t)).push (Cl s.heap.objs.size) }):=
 .of_wp fun prog w A R s h=>by
  obtain⟨hp,g,d,tk,os⟩:=s
  obtain⟨ht,h⟩:=h
  have sb:=sub_enumerate
  have hT:Heap.IsTuple (Shared.heap ⟨hp,g,d,tk,os⟩) t bP:=⟨_,ht,rfl,n,rfl⟩
  wp_walk using de ht
  refine wpAny_stack_any fun st=>au ?_
  split
  ·rename_i c _ _ _ _ _
   cases(c==Value.type "enumerate")<;>(wp_walk using de ht,fw hT;exact⟨_,rfl,h⟩)
  ·wp_walk using de ht,fw hT
   exact⟨_,rfl,h⟩
section
variable{w:World}
theorem wZ{t:Addr}{bP:Array Value}(hT:s.heap.IsTuple t bP)
  (q:∀g,IsEnum g #[8] s.heap.objs.size 0 .none->g.IsTupleIter s.heap.objs.size t 0->(∀b o,s.heap.get? b=some o->g.get? b=some o)->Q (.ref #[8]) { s with heap:=g }) :
  wpAny #[7] A (call (.type "enumerate") [.ref t]) Q E s:=by
 obtain⟨⟨c,dc,dt,sl⟩,ht,hc,n,hd⟩:=hT
 obtain rfl:c=.type "tuple":=hc
 obtain rfl:dt=.seq bP n:=hd
 refine callType_new F.called_enumerate #[3] (F.typeCall_enumerate_1 _) (F.newCall_enumerate_1 _) (fun ob=>F.args_object_init_2 ob _) F.entry_enumerate_new (O0 t bP n dc sl) ⟨ht,?_⟩
 have z:(s.heap.push (mq t)).objs.size=s.heap.objs.size+1:=bu ..
 show _/\_
 rw[z]
 have e1:IsEnum ((s.heap.push (mq t)).push (Cl s.heap.objs.size)) #[8] s.heap.objs.size 0 .none:=by
  have y:=ay (s.heap.push (mq t)) (o:=Cl s.heap.objs.size) rfl
  rw[z]at y;exact y
 exact⟨⟨_,e1,rfl⟩,q _ e1 ⟨_,aq _ (ay _ rfl),rfl,rfl⟩ fun b o y=>aq _ (aq _ y)⟩
end
section
def Wd(K:Frag)(ta:TA):TI:=fun σ H R=>ta σ H fun vs H1=>∃a,vs=[.ref a]/\(∃xs,fU K H1 a xs)/\R (WR K a) H1
theorem Gw{a:Expr}{ta:TA}{p pos tp:Pos}{wO:List Expr}{kk:Nat}(hm:X.mg "enumerate"=none)(ha:QA X [a] ta)(hg:Gl X "enumerate":=by rfl)(hs:starEach [a] X.env=[(false,eval a X.env)]:=by rfl) :
  QI X (.Tuple wO kk tp) (.Call (.Name "enumerate" p) [a] [] pos) (Wd X.K ta):=⟨by
 intro ak s σ H R I h
 refine Call_ (pE I hg hm boot_enumerate (dL (jQ (ha.h pos ak s σ H _ I h) fun us s1 kt1 ⟨vs,H1,I1,r1,q1⟩=>?_) hs rfl))
 obtain⟨t,e,⟨xs,hq⟩,q⟩:=q1
 subst e
 obtain⟨u,rfl,ru⟩:=pF r1
 cases ru
 obtain⟨bP,rv,pt,hz⟩:=I1.tuple hq
 refine wZ (show s1.heap.IsTuple t bP.toArray from pt) fun g e1 e2 kp=>?_
 refine wpAny_pyIter_enum e1 ?_
 refine⟨s1.heap.objs.size+1,[s1.heap.objs.size+1,s1.heap.objs.size],_,_,H1,rfl,I1.kept (t':=s1.toks) kp,EY t _ _ (Nat.succ_ne_self _),⟨⟨_,e1⟩,e2⟩,fun b hb=>?_,q⟩
 have z:b=s1.heap.objs.size+1\/b=s1.heap.objs.size:=by simpa using hb
 rcases z with rfl|rfl
 ·exact I1.fpOk (bj _) (I1.hok.fresh (bj _))
 ·exact I1.fpOk (ax _) (I1.hok.fresh (ax _))⟩
end
section
variable{g:TG}{tc:TT}{H1:Hp}{Q:VK}
end
theorem xP:∀(p:Nat) (m:List Nat),risingS (tx [p]) (m.map fun c=>tx [c])=true->(∀c∈m,p<=c)/\m.Pairwise (· <= ·)
 |p,[],_=>⟨fun c h=>by simp at h,.nil⟩
 |p,c::r,h=>by
  have h':(!ltCps (tx [c]).cps.toList (tx [p]).cps.toList&&risingS (tx [c]) (r.map fun c=>tx [c]))=true:=h
  rw[cX]at h'
  obtain⟨a,b⟩:=h'
  obtain⟨b1,b2⟩:=xP c r b
  have hpc:p<=c:=by
   rw[ltCps_eq]at a
   have a':(!decide ([c]<[p]))=true:=a
   have:=of_decide_eq_false (fN _▸a')
   rcases Nat.lt_or_ge c p with z|z
   ·exact absurd (List.Lex.rel z) this
   ·exact z
  refine⟨fun x hx=>?_,bV.mpr ⟨b1,b2⟩⟩
  rcases aN.mp hx with rfl|hx
  ·exact hpc
  ·exact aI hpc (b1 x hx)
theorem Ag:∀(m:List Nat),sortedS ((m.map fun c=>[c]).map tx)=true->m.Pairwise (· <= ·)
 |[],_=>.nil
 |c::r,h=>by
  have h':risingS (tx [c]) ((r.map fun c=>[c]).map tx)=true:=h
  rw[b6]at h'
  obtain⟨a,b⟩:=xP c r h'
  exact bV.mpr ⟨a,b⟩
theorem eD:Slot "set_iterator" "__next__" "set_iterator.__next__":=.of (owner:="set_iterator") (n:="__next__") (by rw[typeLookup_type,pi];kernel_rfl) (by decide +kernel) (by decide +kernel) (by decide +kernel) (by first|exact .inl (by decide +kernel)|exact .inr (by decide +kernel)) (by rw[dX];kernel_rfl)
theorem ms:entryFor table "set_iterator.__next__"=some Builtin.«set_iterator.__next__»:=entryFor_of_tree (by kernel_rfl)
theorem mv(a:Value):argsOk "set_iterator.__next__" ⟨[a],[]⟩:=by unfold argsOk;kernel_rfl
theorem Ah:entryFor table "set.__iter__"=some Builtin.«frozenset.__iter__»:=entryFor_alias (id':="frozenset.__iter__") (by kernel_rfl) (by first|rfl|decide +kernel|(unfold String.splitOn;simp +decide [String.splitOnAux])) (by decide +kernel) (by kernel_rfl)
noncomputable def uW(w:World):Bool:=w.params.followText "set-order"
def DN(w:World)(n:Nat)(t:SetTable):Prop:=(uW w=true\/t.led=true)/\(n=0\/t.plain=false)
theorem EZ(t:SetTable)(es:Array (Int×Value))(h:Int)(x:Value):(layNew t es h x).2.1.led=t.led/\(t.plain=false->(layNew t es h x).2.1.plain=false):=by
 unfold layNew
 split
 ·dsimp only
  unfold SetTable.orStandIn
  split
  ·exact⟨rfl,fun z=>z⟩
  ·exact⟨rfl,fun _=>rfl⟩
 ·exact⟨rfl,fun _=>rfl⟩
theorem yP{t t':SetTable}{hs:Array Int}{o:Array Nat}(h:t.relaid hs n=some (t',o)):t'.led=t.led/\t'.plain=t.plain:=by
 unfold SetTable.relaid SetTable.laid at h
 cases hc:SetTable.layClean (SetTable.sizeAbove n-1) hs with
 |none=>rw[hc]at h;cases h
 |some ow=>
  rw[hc]at h
  have h':=bq h
  obtain⟨a,_⟩:=Prod.mk.inj h'
  subst a
  exact⟨rfl,rfl⟩
theorem Ai(t:SetTable)(es:Array (Int×Value))(n:Nat):(relayAll t es n).2.1.led=t.led/\(t.plain=false->(relayAll t es n).2.1.plain=false):=by
 unfold relayAll
 split
 ·rename_i t' o he
  obtain⟨a,b⟩:=yP he
  dsimp only
  split
  ·exact⟨a,fun z=>b.trans z⟩
  ·exact⟨rfl,fun _=>rfl⟩
 ·exact⟨rfl,fun _=>rfl⟩
section
variable{w:World}
def vG(prog:Program)(w:World)(n:Nat)(h:Heap)(a:Addr)(ks:List Str):Prop:=
 ∃o es ep t,h.get? a=some o/\o.ExactSet/\o.data=.set es ep t/\ElemsOf (PySem.strKind prog w) es.toList/\(es.toList.map fun e=>strOf e.2).Perm ks/\es.size<scanBound/\t.fits es.size=true/\DN w es.size t/\iW n (es.toList.map (·.2))
theorem Aj{l:List (Int×Value)}(h:ElemsOf (PySem.strKind prog w) l):∀e∈l,∃t,e.2=.str (strOf e.2) t:=fun e he=>by
 obtain⟨⟨k,hk,_⟩,_⟩:=h e he
 obtain⟨t,ht⟩:=k7 hk
 exact⟨t,by rw[ht];rfl⟩
theorem xQ{k:Str}{e:Int×Value}{l:List (Int×Value)}(h:ElemsOf (PySem.strKind prog w) l)(he:e∈l):(PySem.strKind prog w).is k e.2=true↔k=strOf e.2:=by
 obtain⟨t,ht⟩:=Aj h e he
 constructor
 ·intro z
  obtain⟨u,hu⟩:=k7 z
  rw[hu];rfl
 ·intro z
  show Value.isStrOf k e.2=true
  rw[ht,z]
  show Value.isStrOf (strOf e.2) (.str (strOf e.2) t)=true
  unfold Value.isStrOf;simp
theorem vG.keep{a:Addr}(z:vG prog w n h a ks)(k:∀o,h.get? a=some o->h'.get? a=some o):vG prog w n h' a ks:=let ⟨o,es,ep,t,ho,r⟩:=z;⟨o,es,ep,t,k o ho,r⟩
theorem iW.up{l:List Value}(h:iW n l)(hn:n<=n'):iW n' l:=fun x t hx h1=>⟨(h x t hx h1).1,aF (h x t hx h1).2 hn⟩
theorem vG.up{a:Addr}(z:vG prog w n h a ks)(hn:n<=n'):vG prog w n' h a ks:=let ⟨o,es,ep,t,ho,h1,h2,h3,h4,h5,h6,h7,h8⟩:=z;⟨o,es,ep,t,ho,h1,h2,h3,h4,h5,h6,h7,h8.up hn⟩
theorem KQ{a:Addr}{tk:Tok}{Q:Bool->Shared->Prop}(z:vG prog w n s.heap a ks)(VB:x.length=1->0<tk/\tk<n)(Xa:ks.length+1<scanBound)
  (q:∀b g,Heap.SameBut a s.heap g->vG prog w n g a (if x∈ks then ks else ks++[x])->Q b { s with heap:=g }):wpAny #[7] A (setAddHashed a (.str x tk) ((PySem.strKind prog w).hash x)) Q E s:=by
 obtain⟨o,es,ep,t,ho,yx,hd,hel,hp,hb,hf,Ke,hta⟩:=z
 have fX:es.size=ks.length:=by have:=hp.length_eq;simpa using this
 have hkey:(PySem.strKind prog w).is x (.str x tk)=true:=by show Value.isStrOf x (.str x tk)=true;unfold Value.isStrOf;simp
 have hsc:(Value.str x tk).scannable=true:=rfl
 unfold setAddHashed setAddHashedIn
 refine c_ (ae (fO ho hd hf ?_))
 dsimp only
 rw[byScan_of hsc hb hel,aD rfl]
 unfold setAddByScan
 refine ae (ae (kg (ae (wpAny_setScan_of hkey ho hd hf hel ?_))))
 cases hr:List.findIdx? (fun e=>(PySem.strKind prog w).is x e.2) es.toList with
 |some j=>
  obtain⟨hj,hpj,_⟩:=List.findIdx?_eq_some_iff_getElem.mp hr
  have hin:x∈ks:=hp.mem_iff.mp (cV.mpr ⟨es.toList[j],dH hj,((xQ hel (dH hj)).mp hpj).symm⟩)
  refine au (au ?_)
  have e1:=q false s.heap (Heap.SameBut.refl a s.heap) (by rw[aD hin];exact⟨o,es,ep,t,ho,yx,hd,hel,hp,hb,hf,Ke,hta⟩)
  exact e1
 |none=>
  have hin:¬ x∈ks:=fun hx=>by
   obtain⟨e,he,hxe⟩:=cV.mp (hp.mem_iff.mpr hx)
   have y:=List.findIdx?_eq_none_iff.mp hr e he
   rw[(xQ hel he).mpr hxe.symm]at y
   cases y
  have q':=fun b g h1 h2=>q b g h1 (by rw[aQ hin];exact h2)
  dsimp only
  have lp:=layNew_perm t es ((PySem.strKind prog w).hash x) (.str x tk)
  have lf:=layNew_fits t es ((PySem.strKind prog w).hash x) (.str x tk)
  have lm:=EZ t es ((PySem.strKind prog w).hash x) (.str x tk)
  generalize layNew t es ((PySem.strKind prog w).hash x) (.str x tk)=L at lp lf lm ⊢
  obtain⟨es1,t1,wd,gv⟩:=L
  dsimp only at lp lf lm ⊢
  rw[mI]at lp
  have el1:ElemsOf (PySem.strKind prog w) es1.toList:=(hel.push hkey hsc).perm lp
  have sz1:es1.size=es.size+1:=by have:=lp.length_eq;simpa using this
  have b1:es1.size<scanBound:=by omega
  have p1:(es1.toList.map fun e=>strOf e.2).Perm (ks++[x]):=by
   have y:=lp.map fun e:Int×Value=>strOf e.2
   rw[aV]at y
   exact y.trans (hp.append_right _)
  have ta1:iW n (es1.toList.map (·.2)):=fun y u hy=>by
   obtain⟨e,he,ee⟩:=cV.mp hy
   rcases aP.mp (lp.mem_iff.mp he)with z|z
   ·exact hta y u (cV.mpr ⟨e,z,ee⟩)
   ·rw[aT]at z
    subst z
    cases ee
    exact VB
  have gw:∀(b:Bool) {s₁:Shared} {Q':Unit->Shared->Prop},Q' () s₁->wpAny #[7] A (match b with|true=>rule "set.scan.the-table-gave-way" | false=>pure ()) Q' E s₁:=fun b _ _ y=>by cases b<;>first|exact au y|exact kg y
  refine ae (gw _ ?_)
  have j_:∀t2:SetTable,t2.fits es1.size=true->t2.led=t.led->t2.plain=false->wpAny #[7] A (do
    storeSet a es1 t2
    if (!wd&&t2.tooFull)=true then do
      (match (relayAll t2 es1 (SetTable.grown es1.size)).2.2 with|true=>rule "set.scan.the-table-gave-way" | false=>pure ())
      storeSet a (relayAll t2 es1 (SetTable.grown es1.size)).1 (relayAll t2 es1 (SetTable.grown es1.size)).2.1
      pure (some true)
     else pure (some true)) (fun r s'=>wpAny #[7] A (match r with|some added=>pure added|none=>setAddHashedIn a (.str x tk) ((PySem.strKind prog w).hash x) 99999) Q E s') E s:=by
   intro t2 f2 l2 n2
   have to2:DN w es1.size t2:=⟨by rw[l2];exact Ke.1,.inr n2⟩
   refine ae (wpAny_storeSet_of ho hd ?_ (fits_of_scanBound b1))
   have g1:(s.heap.update a (Obj.putSet es1 t2)).get? a=some { o with data:=.set es1 (ep+1) t2 }:=by
    have y:=dB (Obj.putSet es1 t2) ho (by rw[ut es1 t2 hd];rfl)
    rw[ut es1 t2 hd]at y;exact y
   have sb:=iS s.heap a (Obj.putSet es1 t2)
   split
   ·have rp:=relayAll_perm t2 es1 (SetTable.grown es1.size)
    have rf:=relayAll_fits t2 es1 (SetTable.grown es1.size)
    have rm:=Ai t2 es1 (SetTable.grown es1.size)
    generalize relayAll t2 es1 (SetTable.grown es1.size)=R at rp rf rm ⊢
    obtain⟨es2,t3,gv2⟩:=R
    dsimp only at rp rf rm ⊢
    have sz2:es2.size=es1.size:=by have:=rp.length_eq;simpa using this
    refine ae (gw _ (ae (wpAny_storeSet_of g1 rfl (au (au ?_)) (fits_of_scanBound #[0]))))
    have g2:((s.heap.update a (Obj.putSet es1 t2)).update a (Obj.putSet es2 t3)).get? a=some { o with data:=.set es2 (ep+1+1) t3 }:=by
     have y:=dB (Obj.putSet es2 t3) g1 (by rw[ut es2 t3 rfl];rfl)
     rw[ut es2 t3 rfl]at y;exact y
    refine q' true _ (sb.trans (iS _ a _)) ⟨_,es2,_,t3,g2,yx,rfl,el1.perm rp,?_,by omega,rf,?_⟩
    ·exact(rp.map fun e:Int×Value=>strOf e.2).trans p1
    ·exact⟨⟨by rw[rm.1,l2];exact Ke.1,.inr (rm.2 n2)⟩,fun y u hy=>ta1 y u ((rp.map _).mem_iff.mp hy)⟩
   ·exact au (au (q' true _ sb ⟨_,es1,_,t2,g1,yx,rfl,el1,p1,b1,f2,to2,ta1⟩))
  by_cases lU:t1.plain=true
  ·rw[aD lU,hashByValue_scannable 8 hsc]
   refine ae (au ?_)
   exact j_ { t1 with plain:=false } (SetTable.fits_plain_off lf) lm.1 rfl
  ·rw[aQ lU]
   refine ae (au ?_)
   exact j_ t1 lf lm.1 (by simpa using lU)
end
section
variable{w:World}{R:Result->Shared->Prop}{I:Addr}{wr:List Addr}{P:Nat->Value->Prop}{St:Nat->Heap->Prop}
def Mg(prog:Program)(w:World)(m:Nat)(val:Nat->Str)(h:Heap)(a:Addr)(i:Nat):Prop:=∃ks,vG prog w m h a ks/\ks.Nodup/\(∀x,x∈ks↔∃j,j<i/\val j=x)/\ks.length<=i
theorem Gx(W:Walks prog w A.in1 I fp wr n P St)(S:Addr)(W_:S∉fp)(val:Nat->Str)(BE:∀i v,P i v->∃t,v=.str (val i) t)(hb:n+1<scanBound){n0:Nat}
  (BJ:∀i (s:Shared) (Q:Option Value->Shared->Prop) (E:Value->Shared->Prop),n0<=s.toks->i<n->St i s.heap ->
   (∀v h' tk,s.toks<=tk->iW tk [v]->P i v->St (i+1) h'->(∀b o,b∉wr->s.heap.get? b=some o->h'.get? b=some o)->Q (some v) { s with heap:=h',toks:=tk })->wpAny #[7] A.in1 (pyNext (.ref I)) Q E s) :
  ∀(k i:Nat) (s:Shared),n-i=k->i<=n->n0<=s.toks->St i s.heap->Mg prog w s.toks val s.heap S i ->
   (∀g tk,s.toks<=tk->Mg prog w tk val g S n->(∀b o,b≠S->b∉wr->s.heap.get? b=some o->g.get? b=some o)->R (.ok (.ret .none)) { s with heap:=g,toks:=tk }) ->
   codeAny #[7] A (.builtin "set.update.loop" ⟨[.ref S,.ref I],[]⟩) R s:=by
 have hSw:S∉wr:=fun h=>W_ (W.sub _ h)
 intro k
 induction k with
 |zero=>
  intro i s hk hi hn0 st hM hR
  obtain rfl:i=n:=by omega
  refine df iT ?_
  rw[cS eT _]
  show wpAny _ A.in1 (pyNext (.ref I) >>= _) _ _ s
  refine ae (up (W.done s _ _ st fun g tk kp lq=>au (hR g tk lq ?_ fun b o _ hb e=>kp b o hb e)))
  obtain⟨ks,z,r⟩:=hM
  exact⟨ks,(z.keep fun o e=>kp S o hSw e).up lq,r⟩
 |succ k ih=>
  intro i s hk hi hn0 st hM hR
  have hlt:i<n:=by omega
  refine df iT ?_
  rw[cS eT _]
  show wpAny _ A.in1 (pyNext (.ref I) >>= _) _ _ s
  refine ae (BJ i s _ _ hn0 hlt st fun v g tk lq hta hP be kp=>?_)
  obtain⟨t,rfl⟩:=BE i v hP
  obtain⟨ks,z,nd,mem,len⟩:=hM
  have z':vG prog w (tk+1) g S ks:=(z.keep fun o e=>kp S o hSw e).up (ia lq)
  refine ae (c_ ?_)
  unfold setAdd
  refine c_ (ae ((PySem.strKind prog w).pyHash (k:=val i) (show Value.isStrOf (val i) (.str (val i) t)=true by unfold Value.isStrOf;simp) ?_))
  refine KQ (s:={ s with heap:=g,toks:=tk+1 }) z' (fun h1=>⟨(hta _ t #[15] h1).1,cL (hta _ t #[15] h1).2⟩) #[0] fun _ g2 sb z2=>?_
  refine au ⟨e_ eT _,ih (i+1) _ #[0] hlt (aI hn0 (ia lq)) (W.frame _ _ _ be fun b hb o e=>?_) ?_ fun g3 tk3 hle3 hM3 kp3=>?_⟩
  ·rw[sb.2 b (fun h:b=S=>W_ (by rw[<- h];exact hb))];exact e
  ·refine⟨_,z2,?_,fun x=>?_,?_⟩
   ·by_cases hx:val i∈ks
    ·rw[aD hx];exact nd
    ·rw[aQ hx];exact mJ.mpr ⟨nd,by simp,fun a ha b hb=>by rw[aT]at hb;subst hb;exact fun e=>hx (e▸ha)⟩
   ·by_cases hx:val i∈ks
    ·rw[aD hx,mem x]
     constructor
     ·rintro⟨j,hj,e⟩;exact⟨j,by omega,e⟩
     ·rintro⟨j,hj,e⟩
      by_cases hji:j=i
      ·subst hji;subst e;exact(mem _).mp hx
      ·exact⟨j,by omega,e⟩
    ·rw[aQ hx,aP,mem x,aT]
     constructor
     ·rintro(⟨j,hj,e⟩|e)
      ·exact⟨j,by omega,e⟩
      ·exact⟨i,by omega,e.symm⟩
     ·rintro⟨j,hj,e⟩
      by_cases hji:j=i
      ·subst hji;exact .inr e.symm
      ·exact .inl ⟨j,by omega,e⟩
   ·by_cases hx:val i∈ks
    ·rw[aD hx];omega
    ·rw[aQ hx,ah,bb];omega
  ·exact hR g3 tk3 (aI (ia lq) hle3) hM3 fun b o hb hw e=>kp3 b o hb hw ((sb.2 b hb).trans (kp b o hw e))
end
section
variable{w:World}
abbrev dM(w:World):Obj:={ cls:=.type "set",dict:=none,data:=.set #[] 0 (.fresh 0 0 (!uW w)) }
theorem Ak(a:Value){Q₁:Value->Shared->Prop}(h:Q₁ (.ref s.heap.objs.size) { s with heap:=s.heap.push (dM w) }) :
  codeAny #[7] A (.call (.builtin "set.__new__") ⟨[.type "set",a],[]⟩) (wants Q₁ E) s:=by
 refine codeAny_of_tree ?_
 show wpAny _ A.in1 (do checkBuiltinCall "set.__new__" ⟨[.type "set",a],[]⟩;again (.builtin "set.__new__" ⟨[.type "set",a],[]⟩)) _ _ s
 refine ae (wpAny_of_eq (PySem.F.newCall_set_1 a) (au ⟨e_ PySem.F.plain_set_new _,df PySem.F.entry_set_new ?_⟩))
 rw[cS PySem.F.plain_set_new _]
 unfold Builtin.«set.__new__» Builtin.Frozenset.newClass
 have sb:=sub_set_self
 obtain⟨hp,g,d,tk,os⟩:=s
 dsimp only
 wp_walk
 refine nJ (au ?_)
 dsimp only
 simp only[newObj]
 exact ae (wpAny_alloc (au (au h)))
set_option maxHeartbeats 8000000 in
theorem mM{T:String}{VC:Obj}{fp:Addr->List Addr}{n:Nat}{P:Nat->Value->Prop}{St:Addr->Nat->Heap->Prop}{val:Nat->Str}{Q:Value->Shared->Prop}(hT:Shared.TypeIs { s with heap:=s.heap.push (dM w) } v T)
  (n1:isSubtype (.type T) (.type "set")=pure false) (n2:isSubtype (.type T) (.type "frozenset")=pure false) (n3:(Value.type T==Value.type "dict")=false)
  (p_:∀(A:Around) (E:Value->Shared->Prop) (Q:Value->Shared->Prop),Q (.ref #[8]) { s with heap:=(s.heap.push (dM w)).push VC }->wpAny #[7] A (pyIter v) Q E { s with heap:=s.heap.push (dM w) })
  (W:∀(A:Around) (it:Addr),A.handled=none->it=s.heap.objs.size+1->Walks prog w A it (fp it) [it] n P (St it)) (US:s.heap.objs.size∉fp #[8]) (st:St #[8] 0 ((s.heap.push (dM w)).push VC)) (BE:∀i v,P i v->∃t,v=.str (val i) t)
  (hh:A.handled=none) (hb:n+1<scanBound)
  (BJ:∀(A:Around),A.handled=none->∀i (s':Shared) (Q:Option Value->Shared->Prop) (E:Value->Shared->Prop),s.toks<=s'.toks->i<n->St #[8] i s'.heap ->
   (∀v h' tk,s'.toks<=tk->iW tk [v]->P i v->St #[8] (i+1) h'->(∀b o,b∉[s.heap.objs.size+1]->s'.heap.get? b=some o->h'.get? b=some o)->Q (some v) { s' with heap:=h',toks:=tk })->wpAny #[7] A (pyNext (.ref #[8])) Q E s')
  (q:∀g tk,s.toks<=tk->Mg prog w tk val g s.heap.objs.size n->(∀b o,s.heap.get? b=some o->g.get? b=some o)->Q (.ref s.heap.objs.size) { s with heap:=g,toks:=tk }) :
  wpAny #[7] A (call (.type "set") [v]) Q E s:=by
 obtain⟨c,tl,hmro⟩:=PySem.F.called_set.mro
 have hmade:=PySem.F.called_set.made
 have hsub:=PySem.F.called_set.sub
 refine rF (codeAny_of_tree ?_)
 show wpAny _ _ (callAny (.type "set") _) _ _ _
 refine au ⟨Code.quiet_builtin _ (by decide +kernel),df PySem.F.entry_type_call ?_⟩
 rw[Around.under_plain (weight_type_call_type "set" [v] []) rfl]
 have h1:=PySem.F.called_set.notType
 have h2:=PySem.F.called_set.canCreate
 have hct:=PySem.F.typeCall_set_1 v
 repeat(any_goals (first|assumption|wp_step))
 refine iJ (Ak v (E:=E) (Q₁:=fun obj s₁=>obj=.ref s.heap.objs.size/\s₁={ s with heap:=s.heap.push (dM w) }) ⟨rfl,rfl⟩) fun r s₁ hr=>?_
 cases r with
 |error e=>exact hr
 |ok fl=>
  cases fl with
  |ret obj=>
   obtain⟨rfl,rfl⟩:=hr
   have gS:(s.heap.push (dM w)).get? s.heap.objs.size=some (dM w):=ay _ rfl
   have tS:Shared.TypeIs { s with heap:=s.heap.push (dM w) } (.ref s.heap.objs.size) "set":=⟨_,gS,rfl⟩
   have hli:=PySem.F.called_set.init.lookup
   have hbi:=PySem.F.called_set.init.bind (.ref s.heap.objs.size)
   repeat(any_goals (first|assumption|wp_step))
   refine iJ (kI (R:=wants (fun r s₂=>r=.none/\∃g tk,s₂={ s with heap:=g,toks:=tk }/\s.toks<=tk/\Mg prog w tk val g s.heap.objs.size n/\(∀b o,s.heap.get? b=some o->g.get? b=some o)) E) PySem.F.called_set.init.plain PySem.F.entry_set_init (check_set_init_1 tS ?_)) fun r₂ s₂ hr₂=>?_
   ·unfold Builtin.«set.__init__» noKeywords Builtin.Frozenset.updateFrom
    generalize hPI:pyIter=PI
    wp_walk
    subst hPI
    refine p_ _ _ _ (ae (qh ?_))
    have g0:((s.heap.push (dM w)).push VC).get? s.heap.objs.size=some (dM w):=aq _ gS
    have m0:Mg prog w s.toks val ((s.heap.push (dM w)).push VC) s.heap.objs.size 0:=⟨[],⟨_,#[],0,_,g0,⟨rfl,rfl,rfl⟩,rfl,fun e he=>by simp at he,by simp,by unfold scanBound;decide,rfl,?_⟩,List.nodup_nil,fun x=>by simp,ax _⟩
    ·refine Gx (W _ _ (by simpa using hh) rfl) s.heap.objs.size US val BE hb (n0:=s.toks) (BJ _ (by simpa using hh)) (n-0) 0 _ rfl (b7 _) (ax _) st m0 fun g tk lq hM kp=>?_
     refine au (au ⟨rfl,g,tk,rfl,lq,hM,fun b o e=>kp b o (aW (aB e)) (fun hbm=>?_) (aq _ (aq _ e))⟩)
     rw[aT]at hbm
     exact absurd (aB e) (by rw[hbm];exact jm.mpr (bj _))
    ·refine⟨⟨?_,.inl rfl⟩,fun x t hx=>by simp at hx⟩
     show uW w=true\/(!uW w)=true
     cases uW w<;>simp
   ·cases r₂ with
    |error e=>exact hr₂
    |ok fl₂=>
     cases fl₂ with
     |ret r=>
      obtain⟨rfl,g,tk,rfl,lq,hM,kp⟩:=hr₂
      repeat(any_goals (first|assumption|wp_step))
      exact q g tk lq hM kp
     |_=>exact hr₂.elim
  |_=>exact hr.elim
end
theorem q5:∀{l:List α} {i:Nat} (h:i<l.length),(l[i]::l.eraseIdx i).Perm l
 |x::r,0,_=>iB _
 |x::r,i+1,h=>(List.Perm.swap x (r[i]'(by simpa using h)) (r.eraseIdx i)).trans ((q5 (l:=r) (i:=i) (by simpa using h)).cons x)
section
theorem w9{Xs:Source}{Q:Nat->Shared->Prop}(hn:n≠0)(h:∀i,i<n->∀d,Q i { s with drawn:=d }):wpAny M A (choose Xs n) Q E s:=fun _ _ _=>⟨hn,h _ (Nat.mod_lt _ (Nat.pos_of_ne_zero hn)) _⟩
theorem Al:∀(n:Nat) (xs:List α) (s:Shared) (Q:List α->Shared->Prop),xs.length=n->(∀ys,ys.Perm xs->∀d,Q ys { s with drawn:=d })->wpAny M A (drawOrder n xs) Q E s
 |0,xs,s,Q,hl,h=>by
  have e:xs=[]:=dz hl
  subst e
  unfold drawOrder
  exact au (h [] (iB _) s.drawn)
 |n+1,[],s,Q,hl,h=>by simp at hl
 |n+1,x::r,s,Q,hl,h=>by
  unfold drawOrder
  refine ae (w9 #[15] fun i hi d=>?_)
  have e:(x::r)[i]?=some (x::r)[i]:=al hi
  rw[e]
  dsimp only
  refine ae (Al n ((x::r).eraseIdx i) _ _ (by rw[List.length_eraseIdx,aD hi];simp at hl ⊢;omega) fun ys hp d'=>au (h _ ?_ d'))
  exact(List.Perm.cons _ hp).trans (q5 hi)
theorem DO(next:Nat->Nat):∀(LZ k:Nat) (Bx:List α) (out:Array α),Bx.length=LZ->(pickOrder.go next LZ k Bx out).toList.Perm (out.toList++Bx)
 |0,k,Bx,out,h=>by
  have e:Bx=[]:=dz h
  subst e
  unfold pickOrder.go
  simp
 |LZ+1,k,Bx,out,h=>by
  have hlt:next k%Bx.length<Bx.length:=Nat.mod_lt _ #[0]
  unfold pickOrder.go
  rw[al hlt]
  dsimp only
  refine(DO next LZ (k+1) _ _ (by rw[List.length_eraseIdx,aD hlt];omega)).trans ?_
  rw[mI,aj]
  exact pw _ (q5 hlt)
theorem E0(next:Nat->Nat)(xs:Array α):(pickOrder next xs).toList.Perm xs.toList:=by
 unfold pickOrder
 have:=DO next xs.size 0 xs.toList #[] #[15]
 simpa using this
end
noncomputable abbrev qA(f:Value)(i:Int)(S:Addr)(n ep:Nat):Obj:={ cls:=.type "set_iterator",dict:=none,data:=.fields #[f,rawInt i,.ref S,rawInt n,rawInt ep],slots:=#[] }
section
variable{w:World}
theorem vH{Q:Fin->Shared->Prop}(hh:A.handled=none)(q:∀g e,(∀b o,s.heap.get? b=some o->g.get? b=some o)->(∃o,g.get? e=some o/\o.cls=.type "StopIteration")->E (.ref e) { s with heap:=g }) :
  wpAny #[7] A (do let x <- newExc (.type "StopIteration") [];raiseNew x) Q E s:=by
 refine ae ?_
 simp only[newExc,newTuple]
 refine ae (b_ (ae (m:=firstArgMember _ _) (wpAny_of_eq (a:=Value.none) (by first|rfl|(simp only[firstArgMember];rfl)) (b_ ?_ (by size_fits)))) (by size_fits))
 simp only[raiseNew]
 refine ae (wpAny_handled ?_)
 rw[hh]
 exact ae (au (wpAny_throw (q _ _ (fun b o e=>aq _ (aq _ e)) ⟨_,ay _ rfl,rfl⟩)))
structure jS(w:World)(h:Heap)(S:Addr)(es:Array (Int×Value))(ep:Nat)(t:SetTable):Prop where
 ex:∃o,h.get? S=some o/\o.ExactSet/\o.data=.set es ep t
 fits:t.fits es.size=true
theorem jS.keep{S:Addr}{es:Array (Int×Value)}{t:SetTable}(z:jS w h S es ep t)(k:∀o,h.get? S=some o->h'.get? S=some o):jS w h' S es ep t:=⟨let ⟨o,ho,r⟩:=z.ex;⟨o,k o ho,r⟩,z.fits⟩
theorem E1{S p:Addr}{es:Array (Int×Value)}{t:SetTable}{pv:Array Value}{pn:Nat}{x:Int×Value}{Q:Option Value->Shared->Prop}(p_:s.heap.get? it=some (qA (.ref p) i S n ep))(hS:jS w s.heap S es ep t)(hn:es.size=n)
  (hp:∃o,s.heap.get? p=some o/\o.cls=.type "tuple"/\o.data=.seq pv pn) (hk:pv[i]?=some (rawInt k)) (hx:es[k]?=some x)
  (q:∀g,g.get? it=some (qA (.ref p) ((i:Int)+1) S n ep)->Heap.SameBut it s.heap g->Q (some x.2) { s with heap:=g }):wpAny #[7] A (pyNext (.ref it)) Q E s:=by
 obtain⟨o,ho,yx,hd⟩:=hS.ex
 obtain⟨op,hop,hcp,hdp⟩:=hp
 have T:Shared.TypeIs s (.ref it) "set_iterator":=⟨_,p_,rfl⟩
 unfold pyNext
 refine ae (g_ (bS (name:=Str.ofString "__next__") T eD (bZ eD T ms ?_ (mv _))))
 show wpAny _ _ (fieldsOf (.ref it) >>= _) _ _ s
 refine ae (ma p_ rfl ?_)
 dsimp only
 refine ae (f_ ho hd hS.fits ?_)
 rw[aQ (by rw[hn];simp)]
 refine ae (dU hop hdp ?_)
 simp only[b9,hk]
 unfold setNextDrawn
 refine ae (ae (fO ho hd hS.fits ?_))
 dsimp only
 rw[aQ #[15],b9,hx]
 refine au (ae (ce p_ #[15] fun g e1 e2=>au ⟨_,rfl,au (q g (by simpa using e1) e2)⟩))
theorem w_{S p:Addr}{es:Array (Int×Value)}{t:SetTable}{pv:Array Value}{pn:Nat}{Q:Option Value->Shared->Prop}(hh:A.handled=none)(p_:s.heap.get? it=some (qA (.ref p) i S n ep))(hS:jS w s.heap S es ep t)(hn:es.size=n)
  (hp:∃o,s.heap.get? p=some o/\o.cls=.type "tuple"/\o.data=.seq pv pn) (hk:pv[i]?=none)
  (q:∀g,(∀b o,b≠it->s.heap.get? b=some o->g.get? b=some o)->Q none { s with heap:=g }):wpAny #[7] A (pyNext (.ref it)) Q E s:=by
 obtain⟨o,ho,yx,hd⟩:=hS.ex
 obtain⟨op,hop,hcp,hdp⟩:=hp
 have T:Shared.TypeIs s (.ref it) "set_iterator":=⟨_,p_,rfl⟩
 unfold pyNext
 refine ae (g_ (bS (name:=Str.ofString "__next__") T eD (bZ eD T ms ?_ (mv _))))
 show wpAny _ _ (fieldsOf (.ref it) >>= _) _ _ s
 refine ae (ma p_ rfl ?_)
 dsimp only
 refine ae (f_ ho hd hS.fits ?_)
 rw[aQ (by rw[hn];simp)]
 refine ae (dU hop hdp ?_)
 simp only[b9,hk]
 refine ae (ce p_ #[15] fun g e1 e2=>ae (ce e1 #[15] fun g2 e3 e4=>vH (s:={ s with heap:=g2 }) (show A.in1.handled=none from hh) fun g3 e kp hx=>?_))
 obtain⟨ox,hox,hcx⟩:=hx
 refine ae (gl (T:="StopIteration") (b:=true) ⟨ox,hox,hcx⟩ l_ (au (q g3 fun b o hb e=>kp b o ?_)))
 exact e4.extBut b o hb (e2.extBut b o hb e)
theorem Gy{S:Addr}{sl sl':Nat}{es:Array (Int×Value)}{t:SetTable}{x:Value}{Q:Option Value->Shared->Prop}(p_:s.heap.get? it=some (qA (rawInt sl) i S n ep))(hS:jS w s.heap S es ep t)(hn:es.size=n)
  (hx:∀(Q':Option (Value×Nat)->Shared->Prop) (E':Value->Shared->Prop),Q' (some (x,sl')) s->wpAny #[7] A.in1 (setNext S sl i ep) Q' E' s)
  (q:∀g,g.get? it=some (qA (rawInt sl') ((i:Int)+1) S n ep)->Heap.SameBut it s.heap g->Q (some x) { s with heap:=g }):wpAny #[7] A (pyNext (.ref it)) Q E s:=by
 obtain⟨o,ho,yx,hd⟩:=hS.ex
 have T:Shared.TypeIs s (.ref it) "set_iterator":=⟨_,p_,rfl⟩
 unfold pyNext
 refine ae (g_ (bS (name:=Str.ofString "__next__") T eD (bZ eD T ms ?_ (mv _))))
 show wpAny _ _ (fieldsOf (.ref it) >>= _) _ _ s
 refine ae (ma p_ rfl ?_)
 dsimp only
 refine ae (f_ ho hd hS.fits ?_)
 rw[aQ (by rw[hn];simp)]
 show wpAny _ _ (setNext S (sl:Int).toNat (i:Int).toNat (ep:Int).toNat >>= _) _ _ s
 simp only[b9]
 refine ae (hx _ _ ?_)
 dsimp only
 refine ae (ce p_ #[15] fun g e1 e2=>ae (ce e1 #[15] fun g2 e3 e4=>au ⟨_,rfl,au (q g2 (by simpa using e3) (e2.trans e4))⟩))
theorem yQ{S:Addr}{sl:Nat}{es:Array (Int×Value)}{t:SetTable}{Q:Option Value->Shared->Prop}(hh:A.handled=none)(p_:s.heap.get? it=some (qA (rawInt sl) i S n ep))(hS:jS w s.heap S es ep t)(hn:es.size=n)
  (hx:∀(Q':Option (Value×Nat)->Shared->Prop) (E':Value->Shared->Prop),Q' none s->wpAny #[7] A.in1 (setNext S sl i ep) Q' E' s)
  (q:∀g,(∀b o,b≠it->s.heap.get? b=some o->g.get? b=some o)->Q none { s with heap:=g }):wpAny #[7] A (pyNext (.ref it)) Q E s:=by
 obtain⟨o,ho,yx,hd⟩:=hS.ex
 have T:Shared.TypeIs s (.ref it) "set_iterator":=⟨_,p_,rfl⟩
 unfold pyNext
 refine ae (g_ (bS (name:=Str.ofString "__next__") T eD (bZ eD T ms ?_ (mv _))))
 show wpAny _ _ (fieldsOf (.ref it) >>= _) _ _ s
 refine ae (ma p_ rfl ?_)
 dsimp only
 refine ae (f_ ho hd hS.fits ?_)
 rw[aQ (by rw[hn];simp)]
 show wpAny _ _ (setNext S (sl:Int).toNat (i:Int).toNat (ep:Int).toNat >>= _) _ _ s
 simp only[b9]
 refine ae (hx _ _ ?_)
 dsimp only
 refine ae (ce p_ #[15] fun g e1 e2=>vH (s:={ s with heap:=g }) (show A.in1.handled=none from hh) fun g3 e kp hx=>?_)
 obtain⟨ox,hox,hcx⟩:=hx
 exact ae (gl (T:="StopIteration") (b:=true) ⟨ox,hox,hcx⟩ l_ (au (q g3 fun b o hb e=>kp b o (e2.extBut b o hb e))))
end
theorem uz:Slot "set_iterator" "__iter__" "set_iterator.__iter__":=.of (owner:="set_iterator") (n:="__iter__") (by rw[typeLookup_type,pi];kernel_rfl) (by decide +kernel) (by decide +kernel) (by decide +kernel) (by first|exact .inl (by decide +kernel)|exact .inr (by decide +kernel)) (by rw[dX];kernel_rfl)
theorem Am(a:Value):argsOk "set_iterator.__iter__" ⟨[a],[]⟩:=by unfold argsOk;kernel_rfl
theorem An:entryFor table "set_iterator.__iter__"=some Builtin.«dict_keyiterator.__iter__»:=entryFor_alias (id':="dict_keyiterator.__iter__") (by kernel_rfl) (by first|rfl|decide +kernel|(unfold String.splitOn;simp +decide [String.splitOnAux])) (by decide +kernel) (by kernel_rfl)
section
variable{w:World}
theorem Ao{S:Addr}{f:Value}{i:Int}(p_:s.heap.get? it=some (qA f i S n ep))(q:Q (.ref it) s):wpAny #[7] A (pyIter (.ref it)) Q E s:=by
 have T:Shared.TypeIs s (.ref it) "set_iterator":=⟨_,p_,rfl⟩
 exact wpAny_pyIter_slot T uz (bZ uz T An (au ⟨_,rfl,"set_iterator",_,T,eD.lookup,q⟩) (Am _))
theorem Cm(hh:A.handled=none){S p:Addr}{ep:Nat}{es:Array (Int×Value)}{t:SetTable}{pl:List Nat}(lU:pl.Perm (List.range n))(hn:es.size=n)(h1:it≠S)(h2:it≠p) :
  Walks prog w A it [it,p,S] [it] n (fun i v=>∃k x,pl[i]?=some k/\es[k]?=some x/\v=x.2) (fun i h=>i<=n/\h.get? it=some (qA (.ref p) i S n ep)/\(∃o,h.get? p=some o/\o.cls=.type "tuple"/\∃e,o.data=.seq (pl.map fun k:Nat=>rawInt k).toArray e)/\jS w h S es ep t) where
 sub:=fun b hb=>by simp at hb;simp[hb]
 frame:=fun i h h' st k=>⟨st.1,k it #[15] _ st.2.1,(let ⟨o,ho,r⟩:=st.2.2.1;⟨o,k p #[15] o ho,r⟩),st.2.2.2.keep fun o ho=>k S #[15] o ho⟩
 item:=fun i s Q E hi st q=>by
  obtain⟨_,p_,⟨op,hop,hcp,e,hdp⟩,hS⟩:=st
  have hl:pl.length=n:=by have:=lU.length_eq;simpa using this
  have hk:pl[i]?=some pl[i]:=al #[0]
  have hkn:pl[i]<es.size:=by rw[hn];exact lV.mp (lU.mem_iff.mp (dH #[0]))
  refine E1 p_ hS hn ⟨op,hop,hcp,hdp⟩ (k:=pl[i]) (x:=es[pl[i]]) (by simp[hk]) (by simp[hkn]) fun g a b=>q _ g s.toks ⟨pl[i],es[pl[i]],hk,by simp[hkn],rfl⟩ ⟨hi,?_,⟨op,b.extBut p op (Ne.symm h2) hop,hcp,e,hdp⟩,hS.keep fun o ho=>b.extBut S o (Ne.symm h1) ho⟩ fun c o hc ho=>b.extBut c o (fun z=>hc (by simp[z])) ho
  rw[a];rfl
 done:=fun s Q E st q=>by
  obtain⟨_,p_,⟨op,hop,hcp,e,hdp⟩,hS⟩:=st
  have hl:pl.length=n:=by have:=lU.length_eq;simpa using this
  exact w_ hh p_ hS hn ⟨op,hop,hcp,hdp⟩ (by simp[hl]) fun g kp=>q g s.toks fun c o hc ho=>kp c o (fun z=>hc (by simp[z])) ho
 self:=fun i s Q E st q=>Ao st.2.1 q
theorem E2(hh:A.handled=none){S:Addr}{ep:Nat}{es:Array (Int×Value)}{t:SetTable}{vs:List Value}{sl:Nat->Nat}(hv:vs.length=n)(hn:es.size=n)(h1:it≠S)
  (hx:∀(s:Shared) (i:Nat),jS w s.heap S es ep t->i<=n->∀(A:Around) (Q':Option (Value×Nat)->Shared->Prop) (E':Value->Shared->Prop),Q' ((vs[i]?).map fun v=>(v,sl (i+1))) s->wpAny #[7] A (setNext S (sl i) i ep) Q' E' s) :
  Walks prog w A it [it,S] [it] n (fun i v=>vs[i]?=some v) (fun i h=>i<=n/\h.get? it=some (qA (rawInt (sl i)) i S n ep)/\jS w h S es ep t) where
 sub:=fun b hb=>by simp at hb;simp[hb]
 frame:=fun i h h' st k=>⟨st.1,k it #[15] _ st.2.1,st.2.2.keep fun o ho=>k S #[15] o ho⟩
 item:=fun i s Q E hi st q=>by
  obtain⟨_,p_,hS⟩:=st
  have hk:vs[i]?=some vs[i]:=al #[0]
  refine Gy (x:=vs[i]) (sl':=sl (i+1)) p_ hS hn (fun Q' E' y=>hx s i hS (fK hi) _ Q' E' (by rw[hk];exact y)) fun g a b=>q _ g s.toks hk ⟨hi,?_,hS.keep fun o ho=>b.extBut S o (Ne.symm h1) ho⟩ fun c o hc ho=>b.extBut c o (fun z=>hc (by simp[z])) ho
  rw[a];rfl
 done:=fun s Q E st q=>by
  obtain⟨_,p_,hS⟩:=st
  have hk:vs[n]?=none:=bU #[0]
  exact yQ hh p_ hS hn (fun Q' E' y=>hx s n hS (ax _) _ Q' E' (by rw[hk];exact y)) fun g kp=>q g s.toks fun c o hc ho=>kp c o (fun z=>hc (by simp[z])) ho
 self:=fun i s Q E st q=>Ao st.2.1 q
end
section
variable{w:World}
theorem qk{Q:Bool->Shared->Prop}(q:Q (uW w) s):wpAny #[7] A setsByText Q E s:=by
 unfold setsByText
 exact ae (nJ (au q))
theorem E3{S:Addr}{es:Array (Int×Value)}{t:SetTable}{Q:Option (Value×Nat)->Shared->Prop}(hb:uW w=true)(hS:jS w s.heap S es ep t)
  (q:Q ((((pickOrder (w.params.setOrder S ep) es).toList.map (·.2))[i]?).map fun v=>(v,0)) s):wpAny #[7] A (setNext S 0 i ep) Q E s:=by
 obtain⟨o,ho,yx,hd⟩:=hS.ex
 unfold setNext
 refine ae (fO ho hd hS.fits ?_)
 dsimp only
 refine ae (qk ?_)
 rw[hb,aD rfl,aQ #[15]]
 unfold setWalk
 refine ae (ae (fO ho hd hS.fits ?_))
 dsimp only
 refine ae (qk ?_)
 rw[hb,aD rfl]
 refine ae (nJ (au (au ?_)))
 have e:((pickOrder (w.params.setOrder S ep) es)[i]?).map (fun e=>(e.2,0))=(((pickOrder (w.params.setOrder S ep) es).toList.map (·.2))[i]?).map fun v=>(v,0):=by
  rw[aC,fA,Option.map_map];rfl
 show Q (((pickOrder (w.params.setOrder S ep) es)[i]?).map fun e=>(e.2,0)) s
 rw[e];exact q
theorem xR(p:Nat):SetTable.below #[p] 0=0/\SetTable.below #[p] (p+1)=1:=by
 unfold SetTable.below
 constructor
 ·simp[SetTable.below.go]
 ·simp[SetTable.below.go]
theorem Gz{S:Addr}{es:Array (Int×Value)}{t:SetTable}{Q:Option (Value×Nat)->Shared->Prop}(hb:uW w=false)(hS:jS w s.heap S es ep t)(Ru:t.led=true)(h1:es.size<=1)(hi:i<=es.size)
  (q:Q (((es.toList.map (·.2))[i]?).map fun v=>(v,if i+1=0 then 0 else t.place.getD 0 0+1)) s):wpAny #[7] A (setNext S (if i=0 then 0 else t.place.getD 0 0+1) i ep) Q E s:=by
 obtain⟨o,ho,yx,hd⟩:=hS.ex
 have hf:=hS.fits
 have hps:t.place.size=es.size:=by
  unfold SetTable.fits at hf
  simp only[cX,cI]at hf
  exact hf.1
 unfold setNext
 refine ae (fO ho hd hS.fits ?_)
 dsimp only
 refine ae (qk ?_)
 rw[hb,aQ et]
 show wpAny _ _ (if (!t.plain&&decide (es.size>1))=true then _ else _) _ _ _
 rw[aQ (by simp;omega)]
 show wpAny _ _ ((if (!t.led&&!es.isEmpty)=true then _ else pure ()) >>= _) _ _ _
 rw[aQ (by simp[Ru])]
 refine ae (au (au ?_))
 by_cases hz:es.size=0
 ·have e1:es=#[]:=gk hz
  subst e1
  simpa using q
 ·have hs1:es.size=1:=by omega
  obtain⟨x,rfl⟩:∃x,es=#[x]:=by
   obtain⟨l⟩:=es
   obtain⟨x,e⟩:=gF.mp hs1
   exact⟨x,gT Array.mk e⟩
  obtain⟨p,hp⟩:∃p,t.place=#[p]:=by
   generalize t.place=pl at hps
   obtain⟨l⟩:=pl
   obtain⟨x,e⟩:=gF.mp hps
   exact⟨x,gT Array.mk e⟩
  rw[hp]at q ⊢
  rcases(show i=0\/i=1 by simp at hi;omega)with rfl|rfl
  ·simp[xR]at q ⊢;exact q
  ·simp[xR]at q ⊢;exact q
end
theorem yR[Inhabited β](f:Nat->β)(xs:List α)(g:α->β)(n:Nat)(hn:xs.length=n)(hf:∀i x,xs[i]?=some x->f i=g x):(List.range n).map f=xs.map g:=by
 apply jN
 intro i
 rw[aC,aC]
 by_cases h:i<n
 ·rw[iU h,al #[0]]
  exact gT some (hf i _ (al #[0]))
 ·rw[bU (by simp;omega),bU #[0]];rfl
section
variable{w:World}
theorem GA{S:Addr}{es:Array (Int×Value)}{t:SetTable}(hS:jS w s.heap S es ep t)(Ke:DN w es.size t)(yu:es.size<=sizeLine)
  (q:∀(g:Heap) (d:Drawn) (it:Addr) (fp:List Addr) (P:Nat->Value->Prop) (St:Nat->Heap->Prop),(∀A:Around,A.handled=none->Walks prog w A it fp [it] es.size P St)->St 0 g->s.heap.objs.size<=it->(∀b∈fp,b=S\/s.heap.objs.size<=b)->(∀b∈fp,b<g.objs.size)->(∀b o,s.heap.get? b=some o->g.get? b=some o) ->
   (∀i8,ItemsOf P i8 es.size->i8.toList.Perm (es.toList.map (·.2)))->Q (.ref it) { s with heap:=g,drawn:=d }):wpAny #[7] A (pyIter (.ref S)) Q E s:=by
 obtain⟨o,ho,yx,hd⟩:=hS.ex
 have T:Shared.TypeIs s (.ref S) "set":=⟨o,ho,yx.1⟩
 have hSlt:=aB ho
 refine wpAny_pyIter_slot T PySem.F.slot_set_iter (bZ PySem.F.slot_set_iter T Ah ?_ (PySem.F.args_set_iter_1 _))
 show wpAny _ _ (Builtin.Frozenset.sizeOf S >>= _) _ _ s
 unfold Builtin.Frozenset.sizeOf
 refine ae (ae (f_ ho hd hS.fits (au ?_)))
 unfold setDrawn
 refine ae (ae (fO ho hd hS.fits ?_))
 dsimp only
 refine ae (qk (au ?_))
 by_cases hdr:(!uW w&&(!t.plain&&decide (es.size>1)))=true
 ·show wpAny _ _ (if (!uW w&&(!t.plain&&decide (es.size>1)))=true then _ else _) _ _ _
  rw[aD hdr]
  refine ae (Al es.size (List.range es.size) _ _ #[15] fun pl hp d=>?_)
  have hl:pl.length=es.size:=by have:=hp.length_eq;simpa using this
  refine ae (wpAny_newTuple ?_ (by rw[az,hl];exact yu))
  have hS1:jS w (s.heap.push { cls:=.type "tuple",data:=.seq (pl.map fun i:Nat=>rawInt i).toArray }) S es ep t:=hS.keep fun o e=>aq _ e
  obtain⟨o1,ho1,_,hd1⟩:=hS1.ex
  refine ae (wpAny_setEpoch_of (s:={ s with heap:=s.heap.push { cls:=.type "tuple",data:=.seq (pl.map fun i:Nat=>rawInt i).toArray },drawn:=d }) ho1 hd1 hS.fits ?_)
  refine ae (b_ (au ⟨_,rfl,"set_iterator",_,⟨_,ay _ rfl,rfl⟩,eD.lookup,?_⟩))
  have z:(s.heap.push { cls:=.type "tuple",data:=.seq (pl.map fun i:Nat=>rawInt i).toArray }).objs.size=s.heap.objs.size+1:=bu ..
  refine q _ d _ [_,s.heap.objs.size,S] _ _ (fun A hA=>Cm (p:=s.heap.objs.size) (t:=t) (ep:=ep) hA hp rfl ?_ ?_) ⟨b7 _,ay _ rfl,⟨_,aq _ (ay _ rfl),rfl,0,rfl⟩,hS1.keep fun o e=>aq _ e⟩ ?_ (fun b hb=>?_) (fun b hb=>?_) (fun b o e=>aq _ (aq _ e)) fun i8 hacc=>?_
  ·rw[z];exact dS (cL hSlt)
  ·rw[z];exact Nat.succ_ne_self _
  ·rw[z];exact bj _
  ·simp only[aN,dI,kJ]at hb
   rcases hb with rfl|rfl|rfl
   ·rw[z];exact .inr (bj _)
   ·exact .inr (ax _)
   ·exact .inl rfl
  ·simp only[aN,dI,kJ]at hb
   have z2:∀o2,((s.heap.push { cls:=.type "tuple",data:=.seq (pl.map fun i:Nat=>rawInt i).toArray }).push o2).objs.size=s.heap.objs.size+2:=fun o2=>by rw[bu,z]
   rw[z2]
   rcases hb with rfl|rfl|rfl
   ·rw[z];exact bY _
   ·exact cL (bY _)
   ·exact cL (cL hSlt)
  ·have e:i8.toList=pl.map fun k=>(es.getD k (0,.none)).2:=by
    apply jN
    intro i
    rw[aC]
    by_cases hi:i<es.size
    ·have hia:i<i8.size:=by rw[hacc.1];exact hi
     have ha:i8[i]?=some (i8[i]'hia):=d_ hia
     obtain⟨k,x,h1,h2,h3⟩:=hacc.2 i _ ha
     rw[fA,ha,h1]
     have:es.getD k (0,.none)=x:=by rw[lh,h2];rfl
     rw[h3]
     show some x.2=some (es.getD k (0,.none)).2
     rw[this]
    ·rw[bU (by rw[dZ,hacc.1];omega),bU #[0]];rfl
   rw[e]
   refine(hp.map _).trans (List.Perm.of_eq ?_)
   exact yR _ es.toList (·.2) es.size #[15] fun i x hx=>by
    have hx':es[i]?=some x:=by rw[<- fA];exact hx
    rw[lh,hx'];rfl
 ·show wpAny _ _ (if (!uW w&&(!t.plain&&decide (es.size>1)))=true then _ else _) _ _ _
  rw[aQ hdr]
  refine ae (au (ae (wpAny_setEpoch_of ho hd hS.fits ?_)))
  refine ae (b_ (au ⟨_,rfl,"set_iterator",_,⟨_,ay _ rfl,rfl⟩,eD.lookup,?_⟩))
  have j_:∀(vs:List Value) (sl:Nat->Nat),sl 0=0->vs.Perm (es.toList.map (·.2))->(∀(s:Shared) (i:Nat),jS w s.heap S es ep t->i<=es.size->∀(A:Around) (Q':Option (Value×Nat)->Shared->Prop) (E':Value->Shared->Prop),Q' ((vs[i]?).map fun v=>(v,sl (i+1))) s->wpAny #[7] A (setNext S (sl i) i ep) Q' E' s) ->
    Q (.ref s.heap.objs.size) { s with heap:=s.heap.push (qA (rawInt 0) 0 S es.size ep) }:=fun vs sl h0 hp hx=>by
   have hl:vs.length=es.size:=by have:=hp.length_eq;simpa using this
   refine q _ s.drawn s.heap.objs.size [s.heap.objs.size,S] _ _ (fun A hA=>E2 (t:=t) (ep:=ep) (vs:=vs) (sl:=sl) hA hl rfl (dS hSlt) hx) ⟨b7 _,?_,hS.keep fun o e=>aq _ e⟩ (ax _) (fun b hb=>?_) (fun b hb=>?_) (fun b o e=>aq _ e) fun i8 hacc=>?_
   ·rw[h0];exact ay _ rfl
   ·simp only[aN,dI,kJ]at hb
    rcases hb with rfl|rfl
    ·exact .inr (ax _)
    ·exact .inl rfl
   ·simp only[aN,dI,kJ]at hb
    rw[bu]
    rcases hb with rfl|rfl
    ·exact bY _
    ·exact cL hSlt
   ·have e:i8.toList=vs:=by
     apply jN
     intro i
     by_cases hi:i<es.size
     ·have hia:i<i8.size:=by rw[hacc.1];exact hi
      have ha:i8[i]?=some (i8[i]'hia):=d_ hia
      rw[fA,ha,hacc.2 i _ ha]
     ·rw[bU (by rw[dZ,hacc.1];omega),bU #[0]]
    rw[e];exact hp
  cases hb:uW w with
  |true=>exact j_ ((pickOrder (w.params.setOrder S ep) es).toList.map (·.2)) (fun _=>0) rfl ((E0 _ _).map _) fun s i hS' hi A Q' E' y=>E3 hb hS' y
  |false=>
   have h1:es.size<=1:=by
    rcases Ke.2 with z|z
    ·omega
    ·rw[hb,z]at hdr;simp at hdr;omega
   have Ru:t.led=true:=Ke.1.resolve_left (by rw[hb];exact et)
   exact j_ (es.toList.map (·.2)) (fun i=>if i=0 then 0 else t.place.getD 0 0+1) rfl (iB _) fun s i hS' hi A Q' E' y=>Gz hb hS' Ru h1 hi y
end
section
variable{w:World}
theorem GB{S:Addr}{Q:Bool->Shared->Prop}(T:s.TypeIs (.ref S) "set")(q:Q false s):wpAny #[7] A (Builtin.List.listLengthHint (.ref S)) Q E s:=by
 unfold Builtin.List.listLengthHint
 refine ae (wpAny_specialOf T PySem.F.slot_set_len.lookup ?_)
 generalize hid:("set.__len__":String)=id0
 wp_delta
 rw[show splitId id0=some ("set","__len__")from by subst hid;decide +kernel]
 subst hid
 refine ae (gl (T:="set") (b:=true) T (by rw[dX];kernel_rfl) ?_)
 refine oU (fun y=>absurd y #[3]) (fun _=>oU (fun _=>?_) (fun y=>absurd (by decide +kernel) y))
 exact ae (iK T (au q))
theorem Ap{S:Addr}{es:Array (Int×Value)}{t:SetTable}{Q:List Value->Shared->Prop}(hS:jS w s.heap S es ep t)(Ke:DN w es.size t)(yu:es.size<=sizeLine)(hh:A.handled=none)
  (q:∀(g:Heap) (d:Drawn) (tk:Nat) (vs:List Value),(∀b o,s.heap.get? b=some o->g.get? b=some o)->vs.Perm (es.toList.map (·.2))->Q vs { s with heap:=g,drawn:=d,toks:=tk }):wpAny #[7] A (collect (.ref S)) Q E s:=by
 obtain⟨o,ho,yx,hd⟩:=hS.ex
 have hSlt:=aB ho
 unfold collect
 refine ae (qh (df entry_proto_collect' ?_))
 rw[cS PySem.F.plain_proto_collect _]
 show wpAny _ A.in1 (newList [] >>= fun l=>again (.builtin "list.__iadd__" ⟨[l,.ref S],[]⟩)) _ _ s
 refine ae (b_ (au ⟨e_ PySem.F.plain_list_iadd _,df entry_list_iadd' ?_⟩))
 rw[cS PySem.F.plain_list_iadd _]
 generalize hL:s.heap.objs.size=L
 have gL:(s.heap.push { cls:=.type "list",data:=.seq ([]:List Value).toArray }).get? L=some { cls:=.type "list",data:=.seq #[] }:=by rw[<- hL];exact ay _ rfl
 have hS1:jS w (s.heap.push { cls:=.type "list",data:=.seq ([]:List Value).toArray }) S es ep t:=hS.keep fun o e=>aq _ e
 have z1:(s.heap.push { cls:=.type "list",data:=.seq ([]:List Value).toArray }).objs.size=L+1:=by rw[bu,hL]
 have kp1:∀b o,s.heap.get? b=some o->(s.heap.push { cls:=.type "list",data:=.seq ([]:List Value).toArray }).get? b=some o:=fun b o e=>aq _ e
 have bL:∀b o,s.heap.get? b=some o->b≠L:=fun b o e=>by rw[<- hL];exact aW (aB e)
 generalize s.heap.push { cls:=.type "list",data:=.seq ([]:List Value).toArray }=h1 at gL hS1 z1 kp1 ⊢
 have Ey:L≠S:=by rw[<- hL];exact dS hSlt
 obtain⟨o1,ho1,hex1,hd1⟩:=hS1.ex
 have T:Shared.TypeIs { s with heap:=h1 } (.ref S) "set":=⟨o1,ho1,hex1.1⟩
 show wpAny _ A.in1 (Builtin.List.listExtendWith (.ref L) (.ref S) (.ref L)) _ _ _
 unfold Builtin.List.listExtendWith
 refine ae (iK (T:="set") T ?_)
 have e1:Builtin.List.listSameRef (.ref L) (.ref S)=false:=by simp[Builtin.List.listSameRef,Ey]
 have e2:(Value.type "set" == Value.type "list")=false:=by decide
 have e3:(Value.type "set" == Value.type "tuple")=false:=by decide
 simp only[e1,e2,e3,mT,eu,fL]
 refine ae (GA (s:={ s with heap:=h1 }) hS1 Ke yu fun g d it fp P St W st p_ US hfl kp2 hperm=>?_)
 have gL2:=kp2 _ _ gL
 have hLf:L∉fp:=fun hm=>by
  rcases US L hm with y|y
  ·exact Ey y
  ·rw[show Shared.heap { s with heap:=h1 }=h1 from rfl,z1]at y;exact absurd y (Nat.not_le.mpr (bY _))
 obtain⟨o2,ho2,hex2,hd2⟩:=(hS1.keep fun o e=>kp2 S o e).ex
 refine ae (c_ (GB (s:={ s with heap:=g,drawn:=d }) ⟨o2,ho2,hex2.1⟩ ?_))
 have itL:it≠L:=fun y=>by
  have:=p_
  rw[show Shared.heap { s with heap:=h1 }=h1 from rfl,z1,y]at this
  exact absurd this (Nat.not_le.mpr (bY _))
 have old:∀b o,s.heap.get? b=some o->b≠it:=fun b o e y=>by
  have h2:=aB (kp1 b o e)
  have h3:=p_
  rw[show Shared.heap { s with heap:=h1 }=h1 from rfl]at h3
  rw[y]at h2
  exact absurd h2 (jm.mpr h3)
 have key:∀(g':Heap) (c tk:Nat),St 0 g'->(∀b o,b≠L->g.get? b=some o->g'.get? b=some o)->g'.get? L=some { cls:=.type "list",data:=.seq #[] c } ->
   codeAny #[7] A (.builtin "list.extend.loop" ⟨[.ref L,.ref it,.ref L],[]⟩) (wants (fun r s'=>wpAny #[7] A (match r with|.ref a=>(do match (<- load a).data with|.seq xs _=>pure xs.toList|_=>unsupported "internal:collect")|_=>unsupported "internal:collect") Q E s') E) { s with heap:=g',drawn:=d,toks:=tk }:=by
  intro g' c tk be kp3 gL3
  refine codeAny_extend_loopS (W A.in1 (by simpa using hh)).toS yu L hLf (.ref L) es.size 0 _ #[] c rfl (b7 _) be gL3 (ItemsOf.nil _) fun s' i8 c' hm gL4 hacc=>?_
  have ee:s'={ s with heap:=s'.heap,drawn:=d,toks:=s'.toks }:=by
   have h1:=hm.gens
   have h2:=hm.drawn
   have h3:=hm.os
   cases s'
   simp only at h1 h2 h3
   subst h1;subst h2;subst h3;rfl
  refine ae (wpAny_load gL4 (au ?_))
  rw[ee]
  refine q s'.heap d s'.toks i8.toList (fun b o e=>hm.heap b o (fun y=>?_) (kp3 b o (bL b o e) (kp2 b o (kp1 b o e)))) (hperm i8 hacc)
  rcases aN.mp y with y|y
  ·exact bL b o e y
  ·exact old b o e (aT.mp y)
 refine oU (fun _=>?_) (fun _=>au ⟨e_ PySem.F.plain_extend_loop _,key g 0 _ st (fun _ _ _ e=>e) gL2⟩)
 refine ae (kg (ae ?_))
 show wpAny _ _ (updateSeq L (·.push .none) >>= fun _=>updateSeq L (·.pop)) _ _ _
 refine ae (oV gL2 rfl ?_)
 have g5:=dB (Obj.mapSeq (·.push Value.none)) gL2 rfl
 refine oV (hz:=by seq_fits) g5 rfl ?_
 have g6:=dB (Obj.mapSeq (·.pop)) g5 rfl
 refine au ⟨e_ PySem.F.plain_extend_loop _,key _ _ _ ((W A hh).frame 0 _ _ st fun b hb o e=>?_) (fun b o hb e=>?_) g6⟩
 ·have hbL:b≠L:=fun y=>hLf (y▸hb)
  exact(cz _ _ (Ne.symm hbL)).trans ((cz _ _ (Ne.symm hbL)).trans e)
 ·exact(cz _ _ (Ne.symm hb)).trans ((cz _ _ (Ne.symm hb)).trans e)
end
end L2
namespace L2
open PySem PySem.Spec PyProof.Rows
section
variable{w:World}
theorem Cn{S:Addr}(z:vG prog w n s.heap S ks)(NZ:ks.length<64)(hh:A.handled=none)
  (q:∀(g0 g1:Heap) (d:Drawn) (tk:Nat) (out:Array Value) (ss:List Str) (e:Nat),(∀b o,s.heap.get? b=some o->g0.get? b=some o)->(∀b o,g0.get? b=some o->g1.get? b=some o)->g1.get? g0.objs.size=some (seqObj "list" out e) ->
   iW n out.toList->StrsAre out.toList ss->ss.Perm ks->sortedS ss=true->Q (.ref g0.objs.size) { s with heap:=g1,drawn:=d,toks:=tk }):wpAny #[7] A (call (.builtin "sorted") [.ref S]) Q E s:=by
 obtain⟨o,es,ep,t,ho,yx,hd,hel,hp,hb,hf,Ke,hta⟩:=z
 have hS:jS w s.heap S es ep t:=⟨⟨o,ho,yx,hd⟩,hf⟩
 have fX:es.size=ks.length:=by have:=hp.length_eq;simpa using this
 apply mj kind_sorted plain_sorted entry_sorted (args_sorted1 _)
 show wpAny _ _ (checkCount "sorted" 1 1 _ >>= _) _ _ _
 refine ae (au (ae (Ap hS Ke (by rw[kG];omega) (by simpa using hh) fun g d tk vs kp pv=>?_)))
 have hv:∀v∈vs,∃x t,v=Value.str x t:=fun v hv=>by
  obtain⟨e,he,rfl⟩:=cV.mp (pv.mem_iff.mp hv)
  obtain⟨t,ht⟩:=Aj hel e he
  exact⟨_,t,ht⟩
 have n_:=strsAre_map vs hv
 have hks:(vs.map strOf).Perm ks:=by
  refine(pv.map strOf).trans ?_
  rw[b6];exact hp
 have hvl:vs.length<64:=by have:=hks.length_eq;rw[az]at this;omega
 refine ae (wpAny_newList ?_ (by rw[kG];omega))
 have oL:(g.push (seqObj "list" vs.toArray 0)).get? g.objs.size=some (seqObj "list" vs.toArray 0):=ay _ rfl
 refine ae (c_ (bZ slot_list_sort ⟨_,oL,rfl⟩ entry_list_sort (list_sort_treeK qW oL n_.keysOf (fun a b r e=>sV (by rw[<- e];exact n_)) hvl fun st a1 a2=>⟨_,rfl,?_⟩) (args_list_sort _)))
 obtain⟨ss,h1,h2,h3⟩:=qg n_ a1 a2
 obtain⟨e,he⟩:=sortedHeap_at (out:=(arrOf st).map (·.2)) oL
 refine au ⟨_,rfl,q g _ d tk _ ss e kp (fun b o hb=>?_) he (fun x t hx=>hta x t (pv.mem_iff.mp (vF a1 _ hx))) h1 (h2.trans hks) h3⟩
 rw[sortedHeap_old (aW (aB hb)) (by rw[bu];exact cL (aB hb))]
 exact aq _ hb
noncomputable abbrev SL(ty:String)(x:Str)(t:Tok):Obj:={ cls:=.type ty,data:=.fields #[.str x t,.int 0 0] }
theorem GC{t:Tok}(BM:0<s.toks)(hh:A.handled=none)(hb:l.length+1<scanBound)
  (q:∀g tk,s.toks<=tk->Mg prog w tk (fun j=>tx [l.getD j 0]) g s.heap.objs.size l.length->(∀b o,s.heap.get? b=some o->g.get? b=some o)->Q (.ref s.heap.objs.size) { s with heap:=g,toks:=tk }):wpAny #[7] A (call (.type "set") [.str (tx l) t]) Q E s:=by
 have z:(s.heap.push (dM w)).objs.size=s.heap.objs.size+1:=bu ..
 have hn:(tx l).cps.size=l.length:=by simp[tx]
 have BE:∀i v,SignAt (tx l) i v->∃t,v=Value.str (tx [l.getD i 0]) t:=by
  rintro i v ⟨c,u,hc,rfl⟩
  have:l[i]?=some c:=by simpa[tx]using hc
  exact⟨u,by rw[aA,this];rfl⟩
 have hT:Shared.TypeIs { s with heap:=s.heap.push (dM w) } (.str (tx l) t) "str":=lZ _ _ _
 rw[<- hn]at hb q
 cases ha:(tx l).cps.all (· < 128)
 ·refine mM (T:="str") (fp:=fun it=>[it]) (P:=SignAt (tx l)) (St:=fun it i h=>h.IsStrIter it "str_iterator" (tx l) t i) hT (by rw[dX];kernel_rfl) (by rw[dX];kernel_rfl) #[3]
   (fun A E Q y=>mH ha (by show Q (.ref (s.heap.push (dM w)).objs.size) _;rw[z];exact y)) (fun A it hA _=>Walks.strWide hA it (tx l) t) #[15] ⟨SL "str_iterator" (tx l) t,?_,rfl,rfl⟩ BE hh hb (fun A hA i s' Q E hn hi st q=>by
    obtain⟨c,hx⟩:∃c,(tx l).cps[i]?=some c:=⟨_,d_ hi⟩
    refine jL st hx fun h' be hs=>q _ h' (s'.toks+1) (bj _) (fun x u hx' _=>?_) ⟨c,_,hx,rfl⟩ be fun b o hb e=>hs.extBut b o (fun z=>hb (by simp[z])) e
    rw[aT]at hx'
    cases hx'
    exact⟨aF BM hn,bY _⟩) q
  rw[<- z];exact ay _ rfl
 ·refine mM (T:="str") (fp:=fun it=>[it]) (P:=SignAt (tx l)) (St:=fun it i h=>h.IsStrIter it "str_ascii_iterator" (tx l) t i) hT (by rw[dX];kernel_rfl) (by rw[dX];kernel_rfl) #[3]
   (fun A E Q y=>l9 ha (by show Q (.ref (s.heap.push (dM w)).objs.size) _;rw[z];exact y)) (fun A it hA _=>Walks.strAscii hA it (tx l) t) #[15] ⟨SL "str_ascii_iterator" (tx l) t,?_,rfl,rfl⟩ BE hh hb (fun A hA i s' Q E hn hi st q=>by
    obtain⟨c,hx⟩:∃c,(tx l).cps[i]?=some c:=⟨_,d_ hi⟩
    refine jv st hx fun h' be hs=>q _ h' (s'.toks+1) (bj _) (fun x u hx' _=>?_) ⟨c,_,hx,rfl⟩ be fun b o hb e=>hs.extBut b o (fun z=>hb (by simp[z])) e
    rw[aT]at hx'
    cases hx'
    exact⟨aF BM hn,bY _⟩) q
  rw[<- z];exact ay _ rfl
theorem KR{a:Addr}(hh:A.handled=none)(hb:l.length+1<scanBound)(ht:s.heap.IsTuple a bP.toArray)(hv:cu s.toks (jA l) bP)
  (q:∀g tk,s.toks<=tk->Mg prog w tk (fun j=>tx [l.getD j 0]) g s.heap.objs.size l.length->(∀b o,s.heap.get? b=some o->g.get? b=some o)->Q (.ref s.heap.objs.size) { s with heap:=g,toks:=tk }):wpAny #[7] A (call (.type "set") [.ref a]) Q E s:=by
 have z:(s.heap.push (dM w)).objs.size=s.heap.objs.size+1:=bu ..
 have hn:bP.toArray.size=l.length:=by have:=hv.length;unfold jA at this;simpa using this.symm
 have ha:a<s.heap.objs.size:=by obtain⟨o,ho,_⟩:=ht;exact aB ho
 have RI:(s.heap.push (dM w)).IsTuple a bP.toArray:=ht.at fun o e=>aq _ e
 have BE:∀i v,bP.toArray[i]?=some v->∃t,v=Value.str (tx [l.getD i 0]) t:=by
  intro i v hi
  have hi':bP[i]?=some v:=by simpa using hi
  have hlt:i<l.length:=by
   have:=(ar.mp hi').1
   rw[<- hn];simpa using this
  have hx:(jA l)[i]?=some (.str (tx [l.getD i 0])):=by
   unfold jA
   rw[aC,al hlt,aA,al hlt];rfl
  obtain⟨u,hu,t,e⟩:=hv.get hx
  rw[hi']at hu
  exact⟨t.1,(bq hu).trans e⟩
 rw[<- hn]at hb q
 refine mM (T:="tuple") (fp:=fun it=>[it,a]) (P:=fun i v=>bP.toArray[i]?=some v) (St:=fun it i h=>h.IsTupleIter it a i/\h.IsTuple a bP.toArray) RI.typeIs (by rw[dX];kernel_rfl) (by rw[dX];kernel_rfl) #[3]
  (fun A E Q y=>fw RI (by show Q (.ref (s.heap.push (dM w)).objs.size) _;rw[z];exact y)) (fun A it hA e=>Walks.tuple hA it a (by rw[e];exact aW (cL ha)) bP.toArray) (by simp;exact fun e=>absurd ha (by rw[<- e];exact dC _)) ⟨⟨{ cls:=.type "tuple_iterator",data:=.fields #[.ref a,.int 0 0] },?_,rfl,rfl⟩,?_⟩ BE hh hb (fun A hA i s' Q E hn hi st q=>by
   refine up ((Walks.tuple hA #[8] a (aW (cL ha)) bP.toArray).item i s' _ _ hi st fun v h' tk hp be kp lq=>q v h' tk lq (fun x u hx=>?_) hp be kp)
   rw[aT]at hx
   subst hx
   exact((rM hv).up (aI hn lq)) x u (by have hp:bP.toArray[i]?=some _:=hp;exact bX (by simpa using hp))) q
 ·rw[<- z];exact ay _ rfl
 ·exact RI.at fun o e=>aq _ e
end
theorem KS{ss:List Str}(hp:ss.Perm ks)(WJ:ks.Nodup)(hm:∀x,x∈ks↔∃j,j<l.length/\tx [l.getD j 0]=x)(hs:sortedS ss=true) :
  ∃m:List Nat,ss=m.map (fun c=>tx [c])/\m.Nodup/\m.Pairwise (· <= ·)/\∀c,c∈m↔c∈l:=by
 have all:∀z∈ss,tx [z.cps.toList.headD 0]=z:=fun z hz=>by
  obtain⟨j,_,e⟩:=(hm z).mp (hp.mem_iff.mp hz)
  subst e;rfl
 have em:ss=(ss.map fun z=>z.cps.toList.headD 0).map fun c=>tx [c]:=by
  rw[b6]
  conv=>lhs;rw[<- jw ss]
  exact eR fun z hz=>(all z hz).symm
 refine⟨ss.map fun z=>z.cps.toList.headD 0,em,?_,?_,fun c=>?_⟩
 ·have nd:ss.Nodup:=hp.nodup_iff.mpr WJ
  rw[em]at nd
  exact List.Pairwise.of_map (fun c=>tx [c]) (fun a b h e=>h (by rw[e])) nd
 ·refine Ag _ ?_
  rw[b6]
  rw[em]at hs
  exact hs
 ·constructor
  ·intro hc
   obtain⟨z,hz,rfl⟩:=cV.mp hc
   obtain⟨j,hj,e⟩:=(hm z).mp (hp.mem_iff.mp hz)
   subst e
   show l.getD j 0∈l
   rw[aA,al hj]
   exact dH hj
  ·intro hc
   obtain⟨j,hj,e⟩:=List.getElem_of_mem hc
   refine cV.mpr ⟨tx [c],hp.mem_iff.mpr ((hm _).mpr ⟨j,hj,?_⟩),rfl⟩
   rw[aA,al hj,e];rfl
def KT(K:Frag)(H:Hp)(v:V)(l:List Nat):Prop:=v=.str (tx l)\/∃a,v=.ref a/\fU K H a (jA l)
def GD(K:Frag)(te:TE):TE:=fun σ H Q=>te σ H fun v H1=>∃l,KT K H1 v l/\l.length<4000/\(∀m:List Nat,m.Nodup->(∀c∈m,c∈l)->m.length<64) /\
 ∀m:List Nat,m.Nodup->m.Pairwise (· <= ·)->(∀c,c∈m↔c∈l)->∀a H2,H1 a=none->H2=fB H1 a (.lst (m.map fun c=>V.str (tx [c])))->Q (.ref a) H2
theorem bG.kept2{d':Drawn}(I:bG X ak σ H s)(k:∀b o,s.heap.get? b=some o->h'.get? b=some o)(hk:s.toks<=t':=by first|exact ax _|exact bj _|assumption|omega):bG X ak σ H { s with heap:=h',drawn:=d',toks:=t' }:=
 I.step (g':=s.gens) (ch:=[]) (fun _ z=>nomatch z) (fun b o _ _ _ e _=>k b o e) (fun b o _ _ _ e _=>⟨o.slots,k b o e⟩) (fun _ _ _ _ n=>n) (fun b o _ e=>⟨o,k b o e⟩) (fun _ _ e=>e) (fun _ _ _ e=>e) (fun b ps e=>⟨#[],by rw[e];simp⟩)
  (fun m hm=>let ⟨o,es,ep,ho,r⟩:=hm;⟨o,es,ep,k _ o ho,r⟩) ((I.hok.kept k).up hk) I.bare hk
theorem E4{p1 p2 RD L9:Pos}(h1:X.mg "sorted"=none)(h3:X.mg "set"=none)(he:QE X e te)(hc:X.calm=true:=by rfl)
  (WH:Gl X "sorted":=by rfl) (WD:Gl X "set":=by rfl) (VF:starEach [e] X.env=(false,eval e X.env)::starEach [] X.env:=by rfl):QE X (.Call (.Name "sorted" p1) [.Call (.Name "set" p2) [e] [] L9] [] RD) (GD X.K te):=⟨by
 intro ak s σ H Q I h
 refine fy (pE I WH h1 PyProof.Rows.boot_sorted (j' ?_) #[3] #[3])
 show wpAny _ _ (spliced ((false,eval (.Call (.Name "set" p2) [e] [] L9) X.env)::[])) _ _ s
 refine fx (fy (pE I WD h3 PyProof.Rows.boot_set (dL ?_ VF rfl) #[3] #[3]))
 rw[VF]
 show wpAny _ _ (spliced ((false,eval e X.env)::[])) _ _ s
 refine fx (jQ (he.h ak s σ H _ I h) fun u s1 kt1 ⟨v,H1,I1,r1,l,hl,hb,NZ,q⟩=>ic ?_)
 have hh:X.A.handled=none:=I1.ok.hd hc
 have hb':l.length+1<scanBound:=by unfold scanBound;omega
 have j_:∀g tk,s1.toks<=tk->Mg X.prog X.w tk (fun j=>tx [l.getD j 0]) g s1.heap.objs.size l.length->(∀b o,s1.heap.get? b=some o->g.get? b=some o) ->
   wpAny #[5] X.A (spliced []) (fun vs s₂=>wpAny #[5] X.A (call (.builtin "sorted") (.ref s1.heap.objs.size::vs)) (EP X ak σ Q) X.xe s₂) X.xe { s1 with heap:=g,toks:=tk }:=fun g tk lq hM kp=>by
  refine ic ?_
  obtain⟨ks,z,nd,mem,len⟩:=hM
  have rE:ks.length<64:=by
   obtain⟨m,em,mn,_,mm⟩:∃m:List Nat,ks=m.map (fun c=>tx [c])/\m.Nodup/\True/\∀c∈m,c∈l:=by
    have all:∀z∈ks,tx [z.cps.toList.headD 0]=z:=fun z hz=>by
     obtain⟨j,_,e⟩:=(mem z).mp hz
     subst e;rfl
    have em:ks=(ks.map fun z=>z.cps.toList.headD 0).map fun c=>tx [c]:=by
     rw[b6]
     conv=>lhs;rw[<- jw ks]
     exact eR fun z hz=>(all z hz).symm
    refine⟨_,em,?_,trivial,fun c hc=>?_⟩
    ·have nd':=nd
     rw[em]at nd'
     exact List.Pairwise.of_map (fun c=>tx [c]) (fun a b h e=>h (by rw[e])) nd'
    ·obtain⟨z,hz,rfl⟩:=cV.mp hc
     obtain⟨j,hj,e⟩:=(mem z).mp hz
     subst e
     show l.getD j 0∈l
     rw[aA,al hj]
     exact dH hj
   rw[em,az]
   exact NZ m mn mm
  refine up (Cn z rE hh fun g0 g1 d Rp out ss ep k0 k1 gL hta n_ hperm hsrt hle2=>?_)
  have hle2:tk<=Rp:=hle2
  have hle3:s1.toks<=Rp:=aI lq hle2
  obtain⟨m,em,mn,mp,mm⟩:=KS hperm nd mem hsrt
  have I2:bG X ak σ H1 { s1 with heap:=g0,drawn:=d,toks:=Rp }:=I1.kept2 fun b o e=>k0 b o (kp b o e)
  have xz:H1 g0.objs.size=none:=I2.hok.fresh (ax _)
  have hvals:cu Rp (m.map fun c=>V.str (tx [c])) out.toList:=by
   have e:=nM n_ (hta.up hle2)
   rw[em,b6]at e
   exact e
  refine⟨.ref g0.objs.size,_,I2.laid (o:=.lst (m.map fun c=>V.str (tx [c]))) (t':=Rp) k1 (ax _) ?_,rfl,q m mn mp mm _ _ xz rfl⟩
  refine⟨?_,out.toList,ep,hvals,gL⟩
  rw[az]
  exact aI (fK (NZ m mn fun c hc=>(mm c).mp hc)) #[3]
 rcases hl with rfl|⟨a,rfl,hT⟩
 ·obtain⟨t,rfl⟩:=r1
  exact GC I1.pos hh hb' j_
 ·cases r1
  obtain⟨bP,rv,ht,_⟩:=I1.tuple hT
  exact KR hh hb' ht rv j_⟩
end L2
namespace L2
open PySem PySem.Spec PyProof.Rows
section
variable{w:World}
end
section
variable{wi:TI}{g:TG}{tc:TT}
theorem Co{x0:Str}{p0 p1:Pos}{gx:TG}(Kd:PG X (.Name x0 p0) gx)(RC:swapsWith #[10] (some (.Name x0 p0)) p1.line X.env=pure true)(iM:X.calm=true)(wQ:closureFor scope X.env=pure cl)(BD:∀x c,cl.lookup x=some c->X.env.cells.lookup x=some c)
  (iN:scope.kind=.function) (rD:∀x∈scope.names,x.2=.local->scope.names.lookup x.1=some .local) (h_:∀y∈scope.names,y.2≠.cell)
  (Ds:∀x,#[14]->∃c,cl.lookup x=some c)
  (va:∀(i j:Nat),cap[i]?=some (some j)->∃x,nm[i]?=some x/\X.N[j]?=some x/\vy X scope cl x) (fX:cap.length=nm.length)
  (hi:PI X tg dA wi) (hg:∀C s0 H0 fp,PG #[11] tg g) (ht:∀C s0 H0 fp,Gi #[11] mi tc)
  (he:∀C s0 H0 fp,PE #[11] pD te) (hs:∀x,foldedSetIterable dA X.env x=pure x:=by intro _;rfl) :
  PS X (.Assign [.Name x0 p0] #[10] p1) (F3 (vx cap wi g tc te) gx):=by
 intro ak s σ H D I h
 rw[exec_Assign_Name_used _ _ _ _ RC]
 suffices main:wpAny #[5] X.A (comprehension #[10] scope X.env (firstIterPos [⟨tg,dA,mi,0⟩] pos) (newList []) (firstAsync [⟨tg,dA,mi,0⟩]) (firstIter [⟨tg,dA,mi,0⟩] X.env) (some (assign (.Name x0 p0) X.env))) (fun _ s'=>SP X ak D .next s') X.xe s from
  ae (qU (ae (ae (ji main (fun _ s' h=>au (au h)) fun _ _ z=>z))))
 refine xN iM wQ BD iN rD h_ Ds va fX hi hg ht he hs I h fun s4 C D m4 Hn I4 B q=>?_
 obtain⟨oC,es,ep,hoC,hdC,hrC⟩:=B.ns
 refine ji (Kd _ s4 σ _ (.ref D) (.ref D) _ (I4.pins_of (pins':=ak++[(C,oC)]) fun p hp=>?_) rfl q) (fun _ s5 h5=>?_) fun _ _ z=>z
 ·rcases aP.mp hp with z|z
  ·exact I4.pin p (aM _ z)
  ·have e:p=(C,oC):=by simpa using z
   subst e
   exact⟨hoC,B.fr,B.nl,B.nf,fun v z=>by rw[hdC]at z;cases z⟩
 obtain⟨σ',H',I6,nx⟩:=h5
 have pC:=I6.pin (C,oC) (aM _ (aM _ (aT.mpr rfl)))
 have I7:bG X ak σ' H' s5:=I6.pins_of fun p hp=>I6.pin p (aM _ (bz _ hp))
 have B7:Ab X ak H' s5 C m4:=⟨⟨oC,es,ep,pC.1,hdC,hrC⟩,pC.2.1,B.nl,B.nf,B.hi,B.nc,B.np⟩
 exact⟨m4,B7.ns,fun h' hs'=>⟨σ',H',B7.off I7 hs',nx⟩⟩
end
theorem Cp{x0:Str}{p0 p1:Pos}{gx:TG}{pos:Pos}{wi:TI}{g:TG}{tc:TT}{m:Nat}(Kd:QG X (.Name x0 p0) gx)(iM:X.calm=true)
  (lN:X.env.cells=cellsFrom m X.env.scope.names []) (iN:scope.kind=.function) (hB:Af X.env.scope.names scope.names nm cap X.N=true)
  (hi:QI X tg dA wi) (hg:∀cl C s0 H0 fp,QG #[11] tg g) (ht:∀cl C s0 H0 fp,Wb #[11] mi tc)
  (he:∀cl C s0 H0 fp,QE #[11] pD te) (hs:∀x,foldedSetIterable dA X.env x=pure x:=by intro _;rfl) (RC:swapsWith #[10] (some (.Name x0 p0)) p1.line X.env=pure true:=by first|rfl|kernel_rfl) :
  QS X (.Assign [.Name x0 p0] #[10] p1) (F3 (vx cap wi g tc te) gx):=by
 have F:=SJ (nm:=nm) (cap:=cap) (fun x z=>by rw[lN];exact mY z) hB
 exact⟨Co Kd.h RC iM F.clos F.cl iN F.nms F.cell F.has F.cp F.len hi.h (fun C s0 H0 fp=>(hg _ C s0 H0 fp).h) (fun C s0 H0 fp=>(ht _ C s0 H0 fp).h) (fun C s0 H0 fp=>(he _ C s0 H0 fp).h) hs⟩
def SM:List V->Hp->VK->Prop:=fun xs H Q=>∃c:Nat,xs=[.str (tx [48+c])]/\c<=3/\Q (.int c) H
theorem O1:Mf X (.type "int") SM:=⟨by
 intro ak s σ H xs us Q I r h
 obtain⟨i,rfl,hi,q⟩:=h
 obtain⟨u,rfl,t,rfl⟩:=pF r
 have e:PySem.intText? (tx [48+i])=some (i:Int):=by
  rcases(show i=0\/i=1\/i=2\/i=3 by omega)with rfl|rfl|rfl|rfl<;>decide +kernel
 exact PySem.W.KIN.call_text e (by show 1<=640;decide) ⟨.int i,H,I.tok _,⟨_,rfl⟩,q⟩⟩
open AutoSeq1 (wpAny_loadPart')
theorem GE(l b:Addr)(i1 i2:Array Value)(n1 n2:Nat)(d1 d2:Option Addr)(s1 s2:Array (Option Value))(h0:i1.isEmpty=true) :
  Meets (Builtin.«tuple.__add__» ⟨[.ref l,.ref b],[]⟩) (fun _ R s=>s.heap.get? l=some { cls:=.type "tuple",dict:=d1,data:=.seq i1 n1,slots:=s1 }/\s.heap.get? b=some { cls:=.type "tuple",dict:=d2,data:=.seq i2 n2,slots:=s2 }/\R (.ok (.ret (.ref b))) s):=
 .of_wp fun prog w A R s h=>by
  obtain⟨hp,g,d,tk,os⟩:=s
  obtain⟨e1,e2,h⟩:=h
  have a2:=PyProof.Rows.sub_tuple_tuple
  wp_walk using de e1,de e2
  exact⟨_,rfl,h⟩
def SN(K:Frag):R2:=fun x y H Q=>∃a b xs ys,x=.ref a/\y=.ref b/\fU K H a xs/\fU K H b ys/\xs.length+ys.length<=sizeLine/\∀p H2,uV H H2->fU K H2 p (xs++ys)->Q (.ref p) H2
theorem O6:WQ X (binaryOp .Add) (SN X.K):=⟨by
 intro ak s σ H x y v u Q I rx ry h
 obtain⟨a,b,xs,ys,rfl,rfl,ha,hb,hz,q⟩:=h
 by_cases hx:xs=[]
 ·subst hx
  cases rx
  cases ry
  obtain⟨bP,r1,p1,_⟩:=I.tuple ha
  obtain⟨its2,r2,p2,_⟩:=I.tuple hb
  have e1:bP=[]:=r1.nil_iff.mpr rfl
  obtain⟨⟨c1,d1,g1,l1⟩,f1,hc1,n1,hd1⟩:=id p1
  obtain⟨⟨c2,d2,g2,l2⟩,f2,hc2,n2,hd2⟩:=id p2
  simp only at hc1 hd1 hc2 hd2
  subst hc1 hd1 hc2 hd2
  refine sR ⟨_,f1,rfl⟩ ⟨_,f2,rfl⟩ nH qV PySem.F.slot_tuple_add PySem.F.entry_tuple_add (PySem.F.args_tuple_add_2 _ _) (GE a b bP.toArray its2.toArray n1 n2 d1 d2 l1 l2 (by rw[e1];rfl)) ⟨f1,f2,?_⟩
  exact⟨.ref b,H,I,rfl,q b H (uV.refl H) hb⟩
 ·exact KB ak s σ H _ _ v u Q I rx ry ⟨a,b,xs,ys,rfl,rfl,ha,hb,hx,hz,fun e=>q a H (uV.refl H) (by rw[e,a7];exact ha),fun _ p hp=>q p _ (cG hp _) (fU.of gG)⟩⟩
end L2
namespace L2
open PySem PySem.Spec PyProof.Rows
inductive W where
 |non|bl (b:Bool)|int (i:Int)|str (l:List Nat)|tup (ws:List W)|loc (n:Nat)
inductive DK where
 |i (z:Int)|s (l:List Nat)
deriving DecidableEq
def DK.key:DK->vn
 |.i z=>.inl z
 |.s l=>.inr (tx l)
inductive KX where
 |bo (b:Bool)|fl (ks:List Int)|pr (i:Int) (ks:List Int)
deriving DecidableEq
noncomputable def KX.w:KX->W
 |.bo b=>.bl b
 |.fl ks=>.tup (ks.map W.int)
 |.pr i ks=>.tup [.int i,.tup (ks.map W.int)]
noncomputable def GF(ks:List Int):Int:=reduceHash (Builtin.Tuple.tupleHashOf (ks.map hashInt))
def KX.hash:KX->Int
 |.bo b=>hashInt (if b then 1 else 0)
 |.fl ks=>GF ks
 |.pr i ks=>reduceHash (Builtin.Tuple.tupleHashOf [hashInt i,GF ks])
inductive am where
 |lst (ws:List W)
 |ro (ws:List W)
 |exc (c:Str)
 |dct (gz:List (DK×W))
 |tab (P:Addr) (pos:Pos) (q:Str)
 |rod (gz:List (DK×W))
 |dcx (gz:List (KX×W))
 |rox (gz:List (KX×W))
 |obj (c:Str) (fs:List (Str×W))
 |pin (k:Bool) (c:Addr) (o:Obj) (w:W)
 |gone
noncomputable abbrev m5:Nat:=1000000
theorem pH(h:n<=m5):n<=sizeLine:=aI h #[3]
theorem O7(h:n<=m5):n<sizeLine:=jk h #[3]
inductive R(α:Type) where
 |ok (a:α) (st:List am)
 |ex (c:Str) (st:List am)
 |bad
noncomputable def R.bind:R α->(α->List am->R β)->R β
 |.ok a st,k=>k a st
 |.ex c st,_=>.ex c st
 |.bad,_=>.bad
@[simp] theorem R.bind_ok{α β:Type}(a:α)(st:List am)(k:α->List am->R β):(R.ok a st).bind k=k a st:=rfl
@[simp] theorem R.bind_ex{α β:Type}(c:Str)(st:List am)(k:α->List am->R β):(R.ex c st:R α).bind k=.ex c st:=rfl
@[simp] theorem R.bind_bad{α β:Type}(k:α->List am->R β):(R.bad:R α).bind k=.bad:=rfl
noncomputable abbrev cf:=List (Option W)
inductive RS where
 |nx (ρ:cf) (st:List am)|rt (w:W) (st:List am)|bk (ρ:cf) (st:List am)|ct (ρ:cf) (st:List am)
 |ex (c:Str) (ρ:cf) (st:List am)|bad
abbrev FE:=cf->List am->R W
abbrev FT:=cf->List am->R Bool
abbrev FA:=cf->List am->R (List W)
abbrev FS:=cf->List am->RS
section
variable(K:Frag)
mutual
def bO(μ:List Addr)(H:Hp):W->V->Prop
 |.non,v=>v=.non
 |.bl b,v=>v=.bl b
 |.int i,v=>v=.int i
 |.str l,v=>v=.str (tx l)
 |.tup ws,v=>∃p vs,v=.ref p/\fU K H p vs/\RelWs μ H ws vs
 |.loc n,v=>∃a,μ[n]?=some a/\v=.ref a
def RelWs(μ:List Addr)(H:Hp):List W->List V->Prop
 |[],vs=>vs=[]
 |w::ws,vs=>∃x xs,vs=x::xs/\bO μ H w x/\RelWs μ H ws xs
end
end
theorem pre_get(h:μ <+: μ'){a:Addr}(e:μ[n]?=some a):μ'[n]?=some a:=by
 obtain⟨t,rfl⟩:=h
 rw[aH (ar.mp e).1];exact e
section
mutual
theorem bO.mono(h:μ <+: μ')(e:eV K H H'):∀{w:W} {v:V},bO K μ H w v->bO K μ' H' w v
 |.non,_,r=>by unfold bO at r ⊢;exact r
 |.bl _,_,r=>by unfold bO at r ⊢;exact r
 |.int _,_,r=>by unfold bO at r ⊢;exact r
 |.str _,_,r=>by unfold bO at r ⊢;exact r
 |.tup _,_,r=>by unfold bO at r ⊢;obtain⟨p,vs,a,b,c⟩:=r;exact⟨p,vs,a,e _ _ b,RelWs.mono h e c⟩
 |.loc _,_,r=>by unfold bO at r ⊢;obtain⟨a,b,c⟩:=r;exact⟨a,pre_get h b,c⟩
theorem RelWs.mono(h:μ <+: μ')(e:eV K H H'):∀{ws:List W} {vs:List V},RelWs K μ H ws vs->RelWs K μ' H' ws vs
 |[],_,r=>by unfold RelWs at r ⊢;exact r
 |_::_,_,r=>by unfold RelWs at r ⊢;obtain⟨x,xs,a,b,c⟩:=r;exact⟨x,xs,a,bO.mono h e b,RelWs.mono h e c⟩
end
theorem RelWs.nilI:RelWs K μ H [] []:=by unfold RelWs;rfl
theorem RelWs.consI{w:W}{ws:List W}{x:V}(a:bO K μ H w x)(b:RelWs K μ H ws xs):RelWs K μ H (w::ws) (x::xs):=by unfold RelWs;exact⟨x,xs,rfl,a,b⟩
theorem RelWs.nilE(h:RelWs K μ H [] vs):vs=[]:=by unfold RelWs at h;exact h
theorem RelWs.consE{w:W}{ws:List W}(h:RelWs K μ H (w::ws) vs):∃x xs,vs=x::xs/\bO K μ H w x/\RelWs K μ H ws xs:=by unfold RelWs at h;exact h
theorem RelWs.pr:∀{ws:List W} {vs:List V},RelWs K μ H ws vs↔Paired (fun w v=>bO K μ H w v) ws vs
 |[],vs=>⟨fun h=>by rw[h.nilE];exact .nil,fun h=>by cases h;exact .nilI⟩
 |w::ws,vs=>⟨fun h=>by obtain⟨x,xs,rfl,a,b⟩:=h.consE;exact .cons a (RelWs.pr.mp b),fun h=>by cases h with|cons a b=>exact .consI a (RelWs.pr.mpr b)⟩
theorem RelWs.len{ws:List W}(h:RelWs K μ H ws vs):ws.length=vs.length:=Paired.length (RelWs.pr.mp h)
theorem RelWs.app:∀{as:List W} {xs:List V} {bs:List W} {ys:List V},RelWs K μ H as xs->RelWs K μ H bs ys->RelWs K μ H (as++bs) (xs++ys)
 |[],xs,bs,ys,a,b=>by rw[a.nilE];exact b
 |w::as,xs,bs,ys,a,b=>by obtain⟨x,xs,rfl,c,d⟩:=a.consE;exact .consI c (RelWs.app d b)
theorem RelWs.get:∀{ws:List W} {vs:List V} {i:Nat} {w:W},RelWs K μ H ws vs->ws[i]?=some w->∃v,vs[i]?=some v/\bO K μ H w v
 |[],_,_,_,_,e=>by simp at e
 |x::ws,vs,0,w,h,e=>by obtain⟨y,ys,rfl,a,b⟩:=h.consE;simp at e;subst e;exact⟨y,rfl,a⟩
 |x::ws,vs,i+1,w,h,e=>by obtain⟨y,ys,rfl,a,b⟩:=h.consE;simpa using RelWs.get (i:=i) b (by simpa using e)
theorem RelWs.take:∀{ws:List W} {vs:List V} (n:Nat),RelWs K μ H ws vs->RelWs K μ H (ws.take n) (vs.take n)
 |_,_,0,_=>by simp only[List.take_zero];exact .nilI
 |[],vs,n+1,h=>by rw[h.nilE];exact .nilI
 |x::ws,vs,n+1,h=>by obtain⟨y,ys,rfl,a,b⟩:=h.consE;exact .consI a (RelWs.take n b)
theorem RelWs.drop:∀{ws:List W} {vs:List V} (n:Nat),RelWs K μ H ws vs->RelWs K μ H (ws.drop n) (vs.drop n)
 |_,_,0,h=>h
 |[],vs,n+1,h=>by rw[h.nilE];exact .nilI
 |x::ws,vs,n+1,h=>by obtain⟨y,ys,rfl,a,b⟩:=h.consE;exact RelWs.drop n b
theorem RelWs.setI:∀{ws:List W} {vs:List V} (i:Nat) {w:W} {v:V},bO K μ H w v->RelWs K μ H ws vs->RelWs K μ H (ws.set i w) (vs.set i v)
 |[],vs,_,_,_,_,h=>by rw[h.nilE];exact .nilI
 |x::ws,vs,0,w,v,r,h=>by obtain⟨y,ys,rfl,a,b⟩:=h.consE;exact .consI r b
 |x::ws,vs,i+1,w,v,r,h=>by obtain⟨y,ys,rfl,a,b⟩:=h.consE;exact .consI a (RelWs.setI i r b)
theorem bO.intE{i:Int}{v:V}(h:bO K μ H (.int i) v):v=.int i:=by unfold bO at h;exact h
theorem bO.blE{b:Bool}{v:V}(h:bO K μ H (.bl b) v):v=.bl b:=by unfold bO at h;exact h
theorem bO.nonE{v:V}(h:bO K μ H .non v):v=.non:=by unfold bO at h;exact h
theorem bO.strE{v:V}(h:bO K μ H (.str l) v):v=.str (tx l):=by unfold bO at h;exact h
theorem bO.tupE{ws:List W}{v:V}(h:bO K μ H (.tup ws) v):∃p vs,v=.ref p/\fU K H p vs/\RelWs K μ H ws vs:=by unfold bO at h;exact h
theorem bO.locE{v:V}(h:bO K μ H (.loc n) v):∃a,μ[n]?=some a/\v=.ref a:=by unfold bO at h;exact h
theorem bO.int{i:Int}:bO K μ H (.int i) (.int i):=by unfold bO;rfl
theorem bO.bl{i:Bool}:bO K μ H (.bl i) (.bl i):=by unfold bO;rfl
theorem bO.non:bO K μ H .non .non:=by unfold bO;rfl
theorem bO.str:bO K μ H (.str l) (.str (tx l)):=by unfold bO;rfl
theorem bO.tupI{ws:List W}{p:Addr}(a:fU K H p vs)(b:RelWs K μ H ws vs):bO K μ H (.tup ws) (.ref p):=by unfold bO;exact⟨p,vs,rfl,a,b⟩
theorem bO.locI{a:Addr}(e:μ[n]?=some a):bO K μ H (.loc n) (.ref a):=by unfold bO;exact⟨a,e,rfl⟩
end
noncomputable def vI(a:Addr)(C:Value):HO:=.ext fun h=>∃o vs,h.get? a=some o/\o.cls=C/\o.data=.fields vs
noncomputable def Aq(b:Addr)(q:Str):HO:=.ext fun h=>∃o vs t,h.get? b=some o/\o.data=.fields vs/\vs[1]?=some (.str q t)
def Vk(K:Frag)(H:Hp)(a:Addr)(xs:List V):Prop:=
 (∃o,H a=some (.frz o (.lst xs)))\/∃(o:Obj) (bP:Array Value) (n:Nat),K.lookup a=some o/\o.cls=.type "list"/\o.dict=none/\o.data=.seq bP n/\bP.size<=sizeLine/\cu 0 xs bP.toList
theorem Vk.sq{a:Addr}(h:Vk K H a xs):tm K H a xs:=by
 rcases h with⟨o,h⟩|h
 ·exact .inl (.inr ⟨o,h⟩)
 ·exact .inr h
noncomputable def am.isRo:am->Bool
 |.ro _=>true
 |.gone=>true
 |_=>false
def DX(a:Addr)(es:List DictEntry):Heap->Prop:=fun h=>∃o ep,h.get? a=some o/\o.ExactDict/\o.data=.dict es.toArray ep
noncomputable abbrev WS(a:Addr)(es:List DictEntry):HO:=.ext (DX a es)
def Ar(K:Frag)(μ:List Addr)(H:Hp)(p:KX×W)(e:DictEntry):Prop:=e.hash=p.1.hash/\(∃v,bO K μ H p.1.w v/\dh 0 v e.key)/\∃v,bO K μ H p.2 v/\dh 0 v e.val
noncomputable def We(a:Addr)(o:Obj):HO:=.ext fun h=>h.get? a=some o
def mw(K:Frag)(mg:Str->Option Value)(μ:List Addr)(H:Hp):am->Addr->Prop
 |.lst ws,a=>∃vs,H a=some (.lst vs)/\RelWs K μ H ws vs
 |.ro ws,a=>∃vs,Vk K H a vs/\RelWs K μ H ws vs
 |.exc c,a=>∃C,mg c=some C/\H a=some (vI a C)
 |.dct gz,a=>∃vs,H a=some (.dK ((gz.map fun p=>p.1.key).zip vs))/\RelWs K μ H (gz.map fun p=>p.2) vs
 |.rod gz,a=>∃vs o,H a=some (.frz o (.dK ((gz.map fun p=>p.1.key).zip vs)))/\RelWs K μ H (gz.map fun p=>p.2) vs
 |.dcx gz,a=>∃es,H a=some (WS a es)/\(a==sysModules)=false/\Paired (Ar K μ H) gz es/\(gz.map fun p=>p.1).Nodup
 |.rox gz,a=>∃es o,H a=some (.frz o (WS a es))/\(a==sysModules)=false/\Paired (Ar K μ H) gz es/\(gz.map fun p=>p.1).Nodup
 |.obj c fs,a=>∃C dx vs,mg c=some (.ref C)/\H a=some (.ins C dx ((fs.map fun p=>p.1).zip vs))/\RelWs K μ H (fs.map fun p=>p.2) vs
 |.tab P pos q,a=>a=P/\∃ps,H a=some (.tbl ps)/\TriplesOk ps.toList/\(codeAmong pos ps.toList=none\/∃c,codeAmong pos ps.toList=some (.ref c)/\H c=some (Aq c q))
 |.pin k c o w,a=>a=c/\H a=some (We a o)/\(k=false->∃fd cd,o.data=.func fd/\fd.code=.ref cd/\H cd=some (Aq cd fd.qualname))/\∃v,bO K μ H w v/\(k=true->∃u,o.data=.cell (some u)/\dh 0 v u)
 |.gone,_=>True
structure jd(K:Frag)(mg:Str->Option Value)(μ:List Addr)(st:List am)(H:Hp):Prop where
 nd:∀(i j:Nat) (a:Addr) (ci cj:am),st[i]?=some ci->st[j]?=some cj->ci.isRo=false->cj.isRo=false->μ[i]?=some a->μ[j]?=some a->i=j
 len:st.length=μ.length
 at':∀(i:Nat) (c:am) (a:Addr),st[i]?=some c->μ[i]?=some a->mw K mg μ H c a
section
variable{st:List am}
theorem Ar.mono(h:μ <+: μ')(x:eV K H H'){p:KX×W}{e:DictEntry}(r:Ar K μ H p e):Ar K μ' H' p e:=by
 obtain⟨a,⟨v,b,c⟩,u,d,g⟩:=r
 exact⟨a,⟨v,b.mono h x,c⟩,u,d.mono h x,g⟩
theorem mw.keep(h:μ <+: μ')(x:eV K H H'){c:am}{a:Addr}(e:∀o,H a=some o->H' a=some o)(e2:∀b q,H b=some (Aq b q)->H' b=some (Aq b q))(r:mw K mg μ H c a):mw K mg μ' H' c a:=by
 cases c with
 |lst ws=>obtain⟨vs,p,y⟩:=r;exact⟨vs,e _ p,y.mono h x⟩
 |ro ws=>
  obtain⟨vs,p,y⟩:=r
  refine⟨vs,?_,y.mono h x⟩
  rcases p with⟨o,p⟩|p
  ·exact .inl ⟨o,e _ p⟩
  ·exact .inr p
 |exc c=>obtain⟨C,p,y⟩:=r;exact⟨C,p,e _ y⟩
 |dct gz=>obtain⟨vs,p,y⟩:=r;exact⟨vs,e _ p,y.mono h x⟩
 |rod gz=>obtain⟨vs,o,p,y⟩:=r;exact⟨vs,o,e _ p,y.mono h x⟩
 |dcx gz=>obtain⟨es,p,d,y,z⟩:=r;exact⟨es,e _ p,d,Paired.imp' (fun _ _ q=>q.mono h x) y,z⟩
 |rox gz=>obtain⟨es,o,p,d,y,z⟩:=r;exact⟨es,o,e _ p,d,Paired.imp' (fun _ _ q=>q.mono h x) y,z⟩
 |obj c fs=>obtain⟨C,dx,vs,m,p,y⟩:=r;exact⟨C,dx,vs,m,e _ p,y.mono h x⟩
 |tab P pos q=>
  obtain⟨ea,ps,p,t,y⟩:=r
  refine⟨ea,ps,e _ p,t,?_⟩
  rcases y with y|⟨c,y,z⟩
  ·exact .inl y
  ·exact .inr ⟨c,y,e2 _ _ z⟩
 |pin k c o w=>obtain⟨ea,p,g,v,y,z⟩:=r;exact⟨ea,e _ p,fun q=>let ⟨fd,cd,q1,q2,q3⟩:=g q;⟨fd,cd,q1,q2,e2 _ _ q3⟩,v,y.mono h x,z⟩
 |gone=>trivial
theorem mw.ro_ne{c:am}{a:Addr}(r:mw K mg μ H c a)(h:c.isRo=false):∃o,H a=some o:=by
 cases c with
 |lst ws=>obtain⟨vs,p,y⟩:=r;exact⟨_,p⟩
 |ro ws=>cases h
 |exc c=>obtain⟨C,p,y⟩:=r;exact⟨_,y⟩
 |dct gz=>obtain⟨vs,p,y⟩:=r;exact⟨_,p⟩
 |rod gz=>obtain⟨vs,o,p,y⟩:=r;exact⟨_,p⟩
 |dcx gz=>obtain⟨es,p,_⟩:=r;exact⟨_,p⟩
 |rox gz=>obtain⟨es,o,p,_⟩:=r;exact⟨_,p⟩
 |obj c fs=>obtain⟨C,dx,vs,m,p,y⟩:=r;exact⟨_,p⟩
 |tab P pos q=>obtain⟨_,ps,p,_⟩:=r;exact⟨_,p⟩
 |pin k c o w=>obtain⟨_,p,_⟩:=r;exact⟨_,p⟩
 |gone=>cases h
theorem jd.same(S:jd K mg μ st H)(e:uV H H'):jd K mg μ st H':=⟨S.nd,S.len,fun i c a h1 h2=>(S.at' i c a h1 h2).keep (ao _) (fU.same e) (e a) fun b q h=>e b _ h⟩
theorem jd.get(S:jd K mg μ st H){c:am}(h:st[n]?=some c):∃a,μ[n]?=some a/\mw K mg μ H c a:=by
 have hn:n<μ.length:=by rw[<- S.len];exact(ar.mp h).1
 exact⟨μ[n],al hn,S.at' n c _ h (al hn)⟩
theorem jd.push(S:jd K mg μ st H){p:Addr}{o:HO}{c:am}(hp:H p=none)(hc:mw K mg (μ++[p]) (fB H p o) c p):jd K mg (μ++[p]) (st++[c]) (fB H p o):=by
 have hs:uV H (fB H p o):=cG hp o
 have BB:μ <+: μ++[p]:=aX _ _
 have old:∀{i:Nat} {d:am} {a:Addr},i<st.length->(st++[c])[i]?=some d->(μ++[p])[i]?=some a->st[i]?=some d/\μ[i]?=some a:=fun{i d a} hi h1 h2=>by
  rw[aH hi]at h1
  rw[aH (by rw[<- S.len];exact hi)]at h2
  exact⟨h1,h2⟩
 have new:∀{i:Nat} {d:am} {a:Addr},¬ i<st.length->(st++[c])[i]?=some d->(μ++[p])[i]?=some a->i=st.length/\d=c/\a=p:=fun{i d a} hi h1 h2=>by
  have hi':i=st.length:=by
   have:=(ar.mp h1).1
   simp at this;omega
  subst hi'
  simp at h1
  rw[S.len,aS (ax _)]at h2
  simp at h2
  exact⟨rfl,h1.symm,h2.symm⟩
 refine⟨fun i j a ci cj h1 h2 r1 r2 m1 m2=>?_,by simp[S.len],fun i d a h1 h2=>?_⟩
 ·by_cases hi:i<st.length
  ·obtain⟨x1,x2⟩:=old hi h1 m1
   by_cases hj:j<st.length
   ·obtain⟨y1,y2⟩:=old hj h2 m2
    exact S.nd i j a ci cj x1 y1 r1 r2 x2 y2
   ·obtain⟨_,_,rfl⟩:=new hj h2 m2
    obtain⟨o',z⟩:=(S.at' i ci a x1 x2).ro_ne r1
    rw[hp]at z;cases z
  ·obtain⟨e1,_,rfl⟩:=new hi h1 m1
   by_cases hj:j<st.length
   ·obtain⟨y1,y2⟩:=old hj h2 m2
    obtain⟨o',z⟩:=(S.at' j cj a y1 y2).ro_ne r2
    rw[hp]at z;cases z
   ·obtain⟨e2,_,_⟩:=new hj h2 m2
    omega
 ·by_cases hi:i<st.length
  ·obtain⟨x1,x2⟩:=old hi h1 h2
   exact(S.at' i d a x1 x2).keep BB (fU.same hs) (hs a) fun b q h=>hs b _ h
  ·obtain⟨_,rfl,rfl⟩:=new hi h1 h2
   exact hc
theorem jd.setG(S:jd K mg μ st H){a:Addr}{c c':am}{o o':HO}(hn:st[n]?=some c)(BA:c.isRo=false)(hm:μ[n]?=some a)(ha:H a=some o)(hf:∀q u,o≠.frz q u)(hg:∀q,o≠Aq a q)(hx:eV K H (fB H a o'))(Xu:c'.isRo=false)(hr:mw K mg μ (fB H a o') c' a):jd K mg μ (st.set n c') (fB H a o'):=by
 have hl:n<st.length:=(ar.mp hn).1
 have back:∀{i:Nat} {d:am},(st.set n c')[i]?=some d->∃d',st[i]?=some d'/\(d'=d\/(i=n/\d=c')):=fun{i d} h=>by
  by_cases e:i=n
  ·subst e
   rw[bW hl]at h
   exact⟨_,hn,.inr ⟨rfl,(bq h).symm⟩⟩
  ·rw[cy (Ne.symm e)]at h
   exact⟨d,h,.inl rfl⟩
 refine⟨fun i j b ci cj h1 h2 r1 r2 m1 m2=>?_,by simp[S.len],fun i d b h1 h2=>?_⟩
 ·obtain⟨di,x1,y1⟩:=back h1
  obtain⟨dj,x2,y2⟩:=back h2
  refine S.nd i j b di dj x1 x2 ?_ ?_ m1 m2
  ·rcases y1 with rfl|⟨rfl,rfl⟩
   ·exact r1
   ·rw[hn]at x1;cases x1;exact BA
  ·rcases y2 with rfl|⟨rfl,rfl⟩
   ·exact r2
   ·rw[hn]at x2;cases x2;exact BA
 ·by_cases e:i=n
  ·subst e
   rw[bW hl]at h1
   cases h1
   rw[hm]at h2;cases h2
   exact hr
  ·rw[cy (Ne.symm e)]at h1
   have r:=S.at' i d b h1 h2
   by_cases hrd:d.isRo=true
   ·cases d with
    |ro zs=>
     obtain⟨us,p,q⟩:=r
     refine⟨us,?_,q.mono (ao _) hx⟩
     rcases p with⟨o2,p⟩|p
     ·exact .inl ⟨o2,by rw[cM (by rintro rfl;rw[ha]at p;cases p;exact hf _ _ rfl)];exact p⟩
     ·exact .inr p
    |lst _=>cases hrd
    |exc _=>cases hrd
    |dct _=>cases hrd
    |rod _=>cases hrd
    |dcx _=>cases hrd
    |rox _=>cases hrd
    |obj _ _=>cases hrd
    |tab _ _ _=>cases hrd
    |pin _ _ _ _=>cases hrd
    |gone=>trivial
   ·refine r.keep (ao _) hx (fun o ho=>?_) fun b' q h=>by rw[cM (by rintro rfl;rw[ha]at h;cases h;exact hg _ rfl)];exact h
    have hb:b≠a:=by
     rintro rfl
     exact e (S.nd i n b d _ h1 hn (by simpa using hrd) BA h2 hm)
    rw[cM hb];exact ho
theorem jd.set(S:jd K mg μ st H){a:Addr}{ws U0:List W}{Du:List V}(hn:st[n]?=some (.lst ws))(hm:μ[n]?=some a)(ha:H a=some (.lst vs))(hr:RelWs K μ H U0 Du):jd K mg μ (st.set n (.lst U0)) (fB H a (.lst Du)):=by
 have hx:eV K H (fB H a (.lst Du)):=fU.but ml ha
 have hl:n<st.length:=(ar.mp hn).1
 have back:∀{i:Nat} {d:am},(st.set n (.lst U0))[i]?=some d->∃d',st[i]?=some d'/\(d'=d\/(i=n/\d=.lst U0)):=fun{i d} h=>by
  by_cases e:i=n
  ·subst e
   rw[bW hl]at h
   exact⟨_,hn,.inr ⟨rfl,(bq h).symm⟩⟩
  ·rw[cy (Ne.symm e)]at h
   exact⟨d,h,.inl rfl⟩
 refine⟨fun i j b ci cj h1 h2 r1 r2 m1 m2=>?_,by simp[S.len],fun i d b h1 h2=>?_⟩
 ·obtain⟨di,x1,y1⟩:=back h1
  obtain⟨dj,x2,y2⟩:=back h2
  refine S.nd i j b di dj x1 x2 ?_ ?_ m1 m2
  ·rcases y1 with rfl|⟨rfl,rfl⟩
   ·exact r1
   ·rw[hn]at x1;cases x1;rfl
  ·rcases y2 with rfl|⟨rfl,rfl⟩
   ·exact r2
   ·rw[hn]at x2;cases x2;rfl
 ·by_cases e:i=n
  ·subst e
   rw[bW hl]at h1
   cases h1
   rw[hm]at h2;cases h2
   exact⟨Du,gG,hr.mono (ao _) hx⟩
  ·rw[cy (Ne.symm e)]at h1
   have r:=S.at' i d b h1 h2
   by_cases BA:d.isRo=true
   ·cases d with
    |ro zs=>
     obtain⟨us,p,q⟩:=r
     refine⟨us,?_,q.mono (ao _) hx⟩
     rcases p with⟨o',p⟩|p
     ·exact .inl ⟨o',by rw[cM (by rintro rfl;rw[ha]at p;cases p)];exact p⟩
     ·exact .inr p
    |lst _=>cases BA
    |exc _=>cases BA
    |dct _=>cases BA
    |rod _=>cases BA
    |dcx _=>cases BA
    |rox _=>cases BA
    |obj _ _=>cases BA
    |tab _ _ _=>cases BA
    |pin _ _ _ _=>cases BA
    |gone=>trivial
   ·refine r.keep (ao _) hx (fun o ho=>?_) fun b' q h=>by rw[cM (by rintro rfl;rw[ha]at h;cases h)];exact h
    have hb:b≠a:=by
     rintro rfl
     exact e (S.nd i n b d _ h1 hn (by simpa using BA) rfl h2 hm)
    rw[cM hb];exact ho
end
end L2
variable{st be st1 z:List L2.am}{body:L2.FS}{t:L2.FT}{ws:List L2.W}{ρ:L2.cf}{fa fe fo el:L2.FE}{F G:List L2.W->List L2.am->L2.R L2.W}{ck:Option (Nat×List L2.W)}
namespace L2
open PySem PySem.Spec PyProof.Rows
structure Rl(X:Cx)(μ:List Addr)(ρ:cf)(st:List am)(σ:St)(H:Hp):Prop where
 env:Paired (fun(o:Option W) (s:Option V)=>∀w,o=some w->∃v,s=some v/\bO X.K μ H w v) ρ σ
 sto:jd X.K X.mg μ st H
theorem tF(h:μ <+: μ')(x:eV K H H'):∀{ρ:cf} {σ:St},Paired (fun(o:Option W) (s:Option V)=>∀w,o=some w->∃v,s=some v/\bO K μ H w v) ρ σ ->
  Paired (fun(o:Option W) (s:Option V)=>∀w,o=some w->∃v,s=some v/\bO K μ' H' w v) ρ σ
 |_,_,.nil=>.nil
 |_,_,.cons a t=>.cons (fun w e=>let ⟨v,p,q⟩:=a w e;⟨v,p,q.mono h x⟩) (tF h x t)
theorem Rl.to(r:Rl X μ ρ st σ H)(h:μ <+: μ')(x:eV X.K H H')(s:jd X.K X.mg μ' be H'):Rl X μ' ρ be σ H':=⟨tF h x r.env,s⟩
theorem vJ:∀{ρ:cf} {σ:St} {i:Nat} {w:W},Paired (fun(o:Option W) (s:Option V)=>∀w,o=some w->∃v,s=some v/\bO K μ H w v) ρ σ->ρ[i]?=some (some w)->∃v,σ[i]?=some (some v)/\bO K μ H w v
 |_,_,_,_,.nil,e=>by simp at e
 |_,_,0,w,.cons a t,e=>by simp at e;obtain⟨v,p,q⟩:=a w e;exact⟨v,by simp[p],q⟩
 |_,_,i+1,w,.cons a t,e=>by simpa using vJ (i:=i) t (by simpa using e)
theorem rN{w:W}{v:V}(r:bO K μ H w v):∀{ρ:cf} {σ:St} (i:Nat),Paired (fun(o:Option W) (s:Option V)=>∀w,o=some w->∃v,s=some v/\bO K μ H w v) ρ σ ->
  Paired (fun(o:Option W) (s:Option V)=>∀w,o=some w->∃v,s=some v/\bO K μ H w v) (ρ.set i (some w)) (σ.set i (some v))
 |_,_,_,.nil=>.nil
 |_,_,0,.cons a t=>.cons (fun w' e=>⟨v,rfl,by cases e;exact r⟩) t
 |_,_,i+1,.cons a t=>.cons a (rN r i t)
structure uC(X:Cx)(ak:List (Addr×Obj))(σ:St)(c:Str)(H:Hp)(e:Value)(s:Shared):Prop where
 inv:bG X ak σ H s
 ex:∃x C t B,e=.ref x/\X.mg c=some C/\H x=none/\B.StaysIn s.heap/\B.get? x=none/\s.heap.FunFrames B X.stack /\
  (s.heap.TracedW B x C (.ref t)\/(∃oe vs,s.heap.get? x=some oe/\oe.cls=C/\oe.dict=none/\oe.data=.fields vs/\vs[1]?=some .none/\vs[0]?=some (.ref t))\/∃L,X.env.frame=some L/\s.heap.TracedAtW B x C (.ref t) (rawInt L)) /\
  ∀b o,s.heap.get? b=some o->(H b≠none\/((∃o0,X.s₀.heap.get? b=some o0)/\b∉X.fs/\b∉X.ex)\/((∃y,X.env.cells.lookup y=some b)/\b∉rH X.stack)\/∃p∈X.pn++ak,p.1=b)->B.get? b=some o
def XS(X:Cx)(c:Str)(μ:List Addr)(ρ:cf)(st:List am)(H:Hp):Prop:=
 ∀ak μ' σ' H' e s',μ <+: μ'->eV X.K H H'->Rl X μ' ρ st σ' H'->uC X ak σ' c H' e s'->X.xe e s'
def XE(X:Cx)(c:Str)(μ:List Addr)(st:List am)(σ:St)(H:Hp):Prop:=
 ∀ak μ' H' e s',μ <+: μ'->eV X.K H H'->jd X.K X.mg μ' st H'->uC X ak σ c H' e s'->X.xe e s'
theorem XE.mono{μ1:List Addr}{H1:Hp}(h:XE X c μ st σ H)(p:μ <+: μ1)(x:eV X.K H H1):XE X c μ1 st σ H1:=fun ak μ' H' e s' a b=>h ak μ' H' e s' (p.trans a) (x.trans b)
theorem XS.mono{μ1:List Addr}{H1:Hp}(h:XS X c μ ρ st H)(p:μ <+: μ1)(x:eV X.K H H1):XS X c μ1 ρ st H1:=fun ak μ' σ' H' e s' a b=>h ak μ' σ' H' e s' (p.trans a) (x.trans b)
theorem XS.toE{VG:List am}(h:XS X c μ ρ st H)(r:Rl X μ ρ VG σ H):XE X c μ st σ H:=fun ak μ' H' e s' a b s f=>h ak μ' σ H' e s' a b (r.to a b s) f
def RK(X:Cx)(rel:List Addr->Hp->α->β->Prop)(μ:List Addr)(σ:St)(H:Hp)(Q:β->Hp->Prop):R α->Prop
 |.ok a be=>∀μ' b H',μ <+: μ'->eV X.K H H'->jd X.K X.mg μ' be H'->rel μ' H' a b->Q b H'
 |.ex c be=>XE X c μ be σ H
 |.bad=>False
theorem RK.mono{rel:List Addr->Hp->α->β->Prop}{μ1:List Addr}{H1:Hp}{Q:β->Hp->Prop}{r:R α}(h:RK X rel μ σ H Q r)(p:μ <+: μ1)(x:eV X.K H H1):RK X rel μ1 σ H1 Q r:=by
 cases r with
 |ok a st=>exact fun μ' b H' a1 b1=>h μ' b H' (p.trans a1) (x.trans b1)
 |ex c st=>exact XE.mono h p x
 |bad=>exact h
def tG(X:Cx)(rel:List Addr->Hp->α->β->Prop)(f:cf->List am->R α)(σ:St)(H:Hp)(Q:β->Hp->Prop):Prop:=
 ∃μ ρ st,Rl X μ ρ st σ H/\RK X rel μ σ H Q (f ρ st)
abbrev tH(X:Cx):List Addr->Hp->W->V->Prop:=fun μ H w v=>bO X.K μ H w v
abbrev Wf(X:Cx):List Addr->Hp->List W->List V->Prop:=fun μ H w v=>RelWs X.K μ H w v
abbrev O8:List Addr->Hp->Bool->Bool->Prop:=fun _ _ a b=>a=b
abbrev tE(X:Cx)(f:FE):TE:=tG X (tH X) f
abbrev tT(X:Cx)(f:FT):TT:=tG X O8 f
abbrev SQ(X:Cx)(f:FA):TA:=tG X (Wf X) f
theorem RK.bind{α' β':Type}{rel:List Addr->Hp->α->β->Prop}{U9:List Addr->Hp->α'->β'->Prop}{r:R α}{k:α->List am->R α'}{Q:β'->Hp->Prop}{T:β->Hp->Prop}
  (h:RK X U9 μ σ H Q (r.bind k)) (l:Rl X μ ρ st σ H)
  (hk:∀μ' be x v H',μ <+: μ'->eV X.K H H'->Rl X μ' ρ be σ H'->rel μ' H' x v->RK X U9 μ' σ H' Q (k x be)->T v H'):RK X rel μ σ H T r:=by
 cases r with
 |ok a be=>exact fun μ' b H' p x s q=>hk μ' be a b H' p x (l.to p x s) q (RK.mono h p x)
 |ex c be=>exact h
 |bad=>exact h
def SK(X:Cx)(μ:List Addr)(H:Hp)(D:yF):RS->Prop
 |.nx ρ st=>∀μ' σ' H',μ <+: μ'->eV X.K H H'->Rl X μ' ρ st σ' H'->D.nx σ' H'
 |.bk ρ st=>∀μ' σ' H',μ <+: μ'->eV X.K H H'->Rl X μ' ρ st σ' H'->D.bk σ' H'
 |.ct ρ st=>∀μ' σ' H',μ <+: μ'->eV X.K H H'->Rl X μ' ρ st σ' H'->D.ct σ' H'
 |.rt w st=>∀μ' v H',μ <+: μ'->eV X.K H H'->jd X.K X.mg μ' st H'->bO X.K μ' H' w v->D.rt v H'
 |.ex c ρ st=>XS X c μ ρ st H
 |.bad=>False
theorem SK.mono{μ1:List Addr}{H1:Hp}{D:yF}{r:RS}(h:SK X μ H D r)(p:μ <+: μ1)(x:eV X.K H H1):SK X μ1 H1 D r:=by
 cases r with
 |nx ρ st=>exact fun μ' b H' a1 b1=>h μ' b H' (p.trans a1) (x.trans b1)
 |bk ρ st=>exact fun μ' b H' a1 b1=>h μ' b H' (p.trans a1) (x.trans b1)
 |ct ρ st=>exact fun μ' b H' a1 b1=>h μ' b H' (p.trans a1) (x.trans b1)
 |rt w st=>exact fun μ' b H' a1 b1=>h μ' b H' (p.trans a1) (x.trans b1)
 |ex c ρ st=>exact XS.mono h p x
 |bad=>exact h
def Vl(X:Cx)(g:FS):TS:=fun D σ H=>∃μ ρ st,Rl X μ ρ st σ H/\SK X μ H D (g ρ st)
structure SE(X:Cx)(e:Expr)(f:FE):Prop where
 h:PE X e (tE X f)
structure ST(X:Cx)(e:Expr)(f:FT):Prop where
 h:PT X e (tT X f)
structure SW(X:Cx)(e:Expr)(f:FT):Prop where
 h:PW X e (tT X f)
structure SA(X:Cx)(es:List Expr)(f:FA):Prop where
 h:PA X es (SQ X f)
structure SS(X:Cx)(s:Stmt)(g:FS):Prop where
 h:PS X s (Vl X g)
structure SB(X:Cx)(s:List Stmt)(g:FS):Prop where
 h:EE X s (Vl X g)
theorem PE.imp{t t':TE}(h:PE X e t)(i:∀σ H Q,t' σ H Q->t σ H Q):PE X e t':=fun ak s σ H Q I q=>h ak s σ H Q I (i _ _ _ q)
theorem PT.imp{t t':TT}(h:PT X e t)(i:∀σ H Q,t' σ H Q->t σ H Q):PT X e t':=fun ak s σ H Q I q=>h ak s σ H Q I (i _ _ _ q)
theorem PW.imp{t t':TT}(h:PW X e t)(i:∀σ H Q,t' σ H Q->t σ H Q):PW X e t':=fun wh ak s σ H Q I q=>h wh ak s σ H Q I (i _ _ _ q)
theorem PA.imp{e:List Expr}{t t':TA}(h:PA X e t)(i:∀σ H Q,t' σ H Q->t σ H Q):PA X e t':=fun pos ak s σ H Q I q=>h pos ak s σ H Q I (i _ _ _ q)
theorem PS.imp{e:Stmt}{t t':TS}(h:PS X e t)(i:∀D σ H,t' D σ H->t D σ H):PS X e t':=fun ak s σ H D I q=>h ak s σ H D I (i _ _ _ q)
theorem EE.imp{e:List Stmt}{t t':TS}(h:EE X e t)(i:∀D σ H,t' D σ H->t D σ H):EE X e t':=fun ak s σ H D I q=>h ak s σ H D I (i _ _ _ q)
section
variable{a b c:Expr}{gb:List Expr}{fb fc:FE}{ft fu:FT}{fs:FA}
def af(i:Nat):FE:=fun ρ st=>match ρ[i]? with
 |some (some w)=>.ok w st
 |_=>.bad
theorem eQ(i:Nat){pos:Pos}(hN:X.N[i]?=some x:=by rfl)(hv:RR X.env.scope x:=by first|exact Or.inl rfl|exact Or.inr (Or.inl rfl)|exact Or.inr (Or.inr rfl))(hd:(x==("__debug__":Str))=false:=by decide)
  (BP:(x==("__classdict__":Str))=false:=by decide):SE X (.Name x pos) (af i):=⟨(pv i hN hv hd BP).imp fun σ H Q h=>by
 obtain⟨μ,ρ,st,r,h⟩:=h
 unfold af at h
 cases e:ρ[i]? with
 |none=>rw[e]at h;exact h.elim
 |some ow=>
  cases ow with
  |none=>rw[e]at h;exact h.elim
  |some w=>
   rw[e]at h
   obtain⟨v,e1,e2⟩:=vJ r.env e
   exact⟨v,e1,h μ v H (ao _) eV.refl r.sto e2⟩⟩
def eC(w:W):FE:=fun _ st=>.ok w st
abbrev eI(n:Int):FE:=eC (.int n)
theorem SR{w:W}{v:V}(hc:PE X e (tC v))(hr:∀μ H,bO X.K μ H w v):SE X e (eC w):=⟨hc.imp fun σ H Q h=>by
 obtain⟨μ,ρ,st,r,h⟩:=h
 exact h μ v H (ao _) eV.refl r.sto (hr _ _)⟩
theorem As{i:Int}:SE X (.Constant (.int i) j pos) (eC (.int i)):=SR Ob fun _ _=>.int
theorem Wg{k:Bool}:SE X (.Constant (.bool k) j pos) (eC (.bl k)):=SR RU fun _ _=>.bl
theorem Mh:SE X (.Constant .none j pos) (eC .non):=SR Oc fun _ _=>.non
theorem GG(h:x=tx l:=by decide +kernel):SE X (.Constant (.str x) j pos) (eC (.str l)):=SR Od fun _ _=>by rw[h];exact .str
theorem SU{w:W}(h:∃u v,X.mg x=some u/\dh 0 v u/\∀μ H,bO X.K μ H w v)(hg:Gl X x:=by rfl)(hd:(x==("__debug__":Str))=false:=by decide):SE X (.Name x pos) (eC w):=by
 obtain⟨u,v,a,b,c⟩:=h
 exact SR (Sw ⟨u,a,b⟩ hg hd) c
def e2(f:W->W->List am->R W)(fa fb:FE):FE:=fun ρ st=>(fa ρ st).bind fun x st=>(fb ρ st).bind fun y st=>f x y st
def FN(X:Cx)(μ:List Addr)(H:Hp)(Q:VK):R W->Prop
 |.ok w be=>∀μ' v H',μ <+: μ'->eV X.K H H'->jd X.K X.mg μ' be H'->bO X.K μ' H' w v->Q v H'
 |_=>False
def uX:R α->Prop
 |.ex _ _=>False
 |_=>True
def Wh(X:Cx)(f:W->W->List am->R W):R2:=fun x y H Q=>∃μ st wx wy,jd X.K X.mg μ st H/\bO X.K μ H wx x/\bO X.K μ H wy y/\FN X μ H Q (f wx wy st)
structure wR(X:Cx)(g:Value->Value->Sem Value)(f:W->W->List am->R W):Prop where
 h:oZ X g (Wh X f)
 n:∀x y st,uX (f x y st)
theorem tI{Q:VK}{r:R W}(h:RK X (tH X) μ σ H Q r)(n:uX r):FN X μ H Q r:=by
 cases r with
 |ok a st=>exact h
 |ex c st=>exact n.elim
 |bad=>exact h
theorem DP{f:W->W->List am->R W}{Q:VK}(n:∀x y st,uX (f x y st))(h:tE X (e2 f fa fb) σ H Q):R7 (Wh X f) (tE X fa) (tE X fb) σ H Q:=by
 walk_at "2"
 refine⟨μ,ρ,st,l,RK.bind h l fun μ1 st1 x v H1 p1 x1 l1 q1 h1=>⟨μ1,ρ,st1,l1,RK.bind h1 l1 fun μ2 cW y u H2 p2 x2 l2 q2 h2=>?_⟩⟩
 exact⟨μ2,cW,x,y,l2.sto,q1.mono p2 x2,q2,tI h2 (n _ _ _)⟩
theorem Wi{op:Operator}{f:W->W->List am->R W}(ho:wR X (binaryOp op) f)(ha:SE X a fa)(hb:SE X b fb):SE X (.BinOp a op b pos) (e2 f fa fb):=⟨(R8 ho.h ha.h hb.h).imp fun _ _ _ h=>DP ho.n h⟩
theorem SV{f:W->W->List am->R W}(ho:wR X (compareOp op) f)(ha:SE X a fa)(hb:SE X b fb)(hm:behindInMarks op b=false:=by first|exact F_ _|rfl):SE X (.Compare a [op] [b] pos) (e2 f fa fb):=⟨(Kt ho.h ha.h hb.h hm).imp fun _ _ _ h=>DP ho.n h⟩
def dm(fa:FE):FT:=fun ρ st=>(fa ρ st).bind fun x st=>match x with
 |.bl k=>.ok k st
 |_=>.bad
theorem rO{Q:Bool->Hp->Prop}(h:tT X (dm fa) σ H Q):tE X fa σ H fun x H1=>∃k,x=.bl k/\Q k H1:=by
 walk_at "2"
 walk_at "1"
 cases x with
 |bl k=>exact⟨k,q1.blE,h1 μ1 k H1 (ao _) eV.refl l1.sto rfl⟩
 |_=>exact h1.elim
theorem tJ{f:W->W->List am->R W}(ho:wR X (compareOp op) f)(ha:SE X a fa)(hb:SE X b fb)(hm:behindInMarks op b=false:=by first|exact F_ _|rfl):ST X (.Compare a [op] [b] pos) (dm (e2 f fa fb)):=⟨(Ku ho.h ha.h hb.h hm).imp fun σ H Q h=>by
 have h':tE X (e2 f fa fb) σ H fun x H1=>∃k,x=.bl k/\Q k H1:=rO h
 exact DP ho.n h'⟩
theorem O9(h:SE X e fe)(he:∀whole,isTrue e X.env whole=(do let v <- whole;standAt e.pos;holding [v] (truthy v)):=by intro _;rfl):ST X e (dm fe):=⟨(Of h.h he).imp fun σ H Q h=>rO h⟩
def wS(t u:FT):FT:=fun ρ st=>(t ρ st).bind fun k st=>if k then u ρ st else .ok false st
def E5(t u:FT):FT:=fun ρ st=>(t ρ st).bind fun k st=>if k then .ok true st else u ρ st
def zY(t:FT):FT:=fun ρ st=>(t ρ st).bind fun k st=>.ok (!k) st
theorem KU(ha:ST X a ft):SW X (.BoolOp .And [a] pos) ft:=⟨Ki ha.h⟩
theorem GH(ha:ST X a ft):SW X (.BoolOp .Or [a] pos) ft:=⟨Og ha.h⟩
theorem GI(ha:ST X a ft)(hb:SW X (.BoolOp .And (b::gb) pos) fu):SW X (.BoolOp .And (a::b::gb) pos) (wS ft fu):=⟨(Oh ha.h hb.h).imp fun σ H Q h=>by
 walk_at "2"
 walk_at "1"
 cases q1
 cases x with
 |true=>exact⟨μ1,ρ,st1,l1,h1⟩
 |false=>exact h1 μ1 false H1 (ao _) eV.refl l1.sto rfl⟩
theorem GJ(ha:ST X a ft)(hb:SW X (.BoolOp .Or (b::gb) pos) fu):SW X (.BoolOp .Or (a::b::gb) pos) (E5 ft fu):=⟨(RW ha.h hb.h).imp fun σ H Q h=>by
 walk_at "2"
 walk_at "1"
 cases q1
 cases x with
 |false=>exact⟨μ1,ρ,st1,l1,h1⟩
 |true=>exact h1 μ1 true H1 (ao _) eV.refl l1.sto rfl⟩
theorem O_(h:SW X e ft):ST X e ft:=⟨h.h.pt⟩
theorem Pa(ha:ST X a ft):ST X (.UnaryOp .Not a pos) (zY ft):=⟨(Oi ha.h).imp fun σ H Q h=>by
 walk_at "2"
 walk_at "1"
 cases q1
 exact h1 μ1 _ H1 (ao _) eV.refl l1.sto rfl⟩
def Cq(fa fb:FE):FE:=fun ρ st=>(fa ρ st).bind fun x st=>match x with
 |.bl true=>fb ρ st
 |.bl false=>.ok (.bl false) st
 |_=>.bad
def KW(fa:FE):FE:=fun ρ st=>(fa ρ st).bind fun x st=>match x with
 |.bl k=>.ok (.bl (!k)) st
 |_=>.bad
theorem SX{op:BoolOp}(h:SE X a fa):SE X (.BoolOp op [a] pos) fa:=⟨Oj h.h⟩
theorem SY(ha:SE X a fa)(hb:SE X (.BoolOp .And (b::gb) pos) fb):SE X (.BoolOp .And (a::b::gb) pos) (Cq fa fb):=⟨(Ol ha.h hb.h).imp fun σ H Q h=>by
 walk_at "2"
 walk_at "1"
 cases x with
 |bl k=>
  refine⟨k,q1.blE,?_⟩
  cases k with
  |true=>exact⟨μ1,ρ,st1,l1,h1⟩
  |false=>exact h1 μ1 _ H1 (ao _) eV.refl l1.sto .bl
 |_=>exact h1.elim⟩
theorem SZ(ha:SE X a fa):SE X (.UnaryOp .Not a pos) (KW fa):=⟨(Om ha.h).imp fun σ H Q h=>by
 walk_at "2"
 walk_at "1"
 cases x with
 |bl k=>exact⟨k,q1.blE,h1 μ1 _ H1 (ao _) eV.refl l1.sto .bl⟩
 |_=>exact h1.elim⟩
def FP(t:FT)(fa fb:FE):FE:=fun ρ st=>(t ρ st).bind fun k st=>if k then fa ρ st else fb ρ st
theorem Wj(hc:ST X c ft)(ha:SE X a fa)(hb:SE X b fb):SE X (.IfExp c a b pos) (FP ft fa fb):=⟨(FY hc.h ha.h hb.h).imp fun σ H Q h=>by
 walk_at "2"
 walk_at "1"
 cases q1
 cases x with
 |false=>exact⟨μ1,ρ,st1,l1,h1⟩
 |true=>exact⟨μ1,ρ,st1,l1,h1⟩⟩
noncomputable def W.isNon:W->Bool
 |.non=>true
 |_=>false
def yS(fa:FE):FE:=fun ρ st=>(fa ρ st).bind fun x st=>.ok (.bl x.isNon) st
def gs(fa:FE):FE:=fun ρ st=>(fa ρ st).bind fun x st=>.ok (.bl (!x.isNon)) st
theorem Mi{w:W}{v:V}(r:bO X.K μ H w v):decide (v=.non)=w.isNon:=by
 cases w with
 |non=>rw[r.nonE];rfl
 |bl b=>rw[r.blE];rfl
 |int b=>rw[r.intE];rfl
 |str b=>rw[r.strE];rfl
 |tup b=>obtain⟨p,vs,rfl,_⟩:=r.tupE;rfl
 |loc b=>obtain⟨p,_,rfl⟩:=r.locE;rfl
theorem Mj{Q:VK}(h:tE X (yS fa) σ H Q):RV (tE X fa) σ H Q:=by
 walk_at "2"
 walk_at "1"
 show Q (.bl (decide (v=.non))) H1
 rw[Mi q1]
 exact h1 μ1 _ H1 (ao _) eV.refl l1.sto .bl
theorem Pc{Q:VK}(h:tE X (gs fa) σ H Q):L' (tE X fa) σ H Q:=by
 walk_at "2"
 walk_at "1"
 show Q (.bl (!decide (v=.non))) H1
 rw[Mi q1]
 exact h1 μ1 _ H1 (ao _) eV.refl l1.sto .bl
theorem S5(ha:SE X a fa):SE X (.Compare a [.Is] [.Constant .none j iI] pos) (yS fa):=⟨(Oe (FW ha.h)).imp fun _ _ _ h=>Mj h⟩
theorem Pd(ha:SE X a fa):ST X (.Compare a [.Is] [.Constant .none j iI] pos) (dm (yS fa)):=⟨(FX (FW ha.h)).imp fun _ _ _ h=>Mj (rO h)⟩
theorem KY(ha:SE X a fa):ST X (.Compare a [.IsNot] [.Constant .none j iI] pos) (dm (gs fa)):=⟨(FX (Kh ha.h)).imp fun _ _ _ h=>Pc (rO h)⟩
def aw:FA:=fun _ st=>.ok [] st
def aa(fa:FE)(fs:FA):FA:=fun ρ st=>(fa ρ st).bind fun x st=>(fs ρ st).bind fun xs st=>.ok (x::xs) st
theorem jC:SA X [] aw:=⟨tw.imp fun σ H Q h=>by
 walk_at "2"
 exact h μ [] H (ao _) eV.refl l.sto .nilI⟩
theorem d9(ha:SE X e fe)(hr:SA X es fs)(hs:starEach (e::es) X.env=(false,eval e X.env)::starEach es X.env:=by rfl):SA X (e::es) (aa fe fs):=⟨(kh ha.h hr.h hs).imp fun σ H Q h=>by
 walk_at "2"
 refine⟨μ,ρ,st,l,RK.bind h l fun μ1 st1 x v H1 p1 x1 l1 q1 h1=>⟨μ1,ρ,st1,l1,RK.bind h1 l1 fun μ2 cW xs vs H2 p2 x2 l2 q2 h2=>?_⟩⟩
 exact h2 μ2 _ H2 (ao _) eV.refl l2.sto (.consI (q1.mono p2 x2) q2)⟩
def S6(zs:List (List Nat)):FA:=fun _ st=>.ok (zs.map W.str) st
def qB(ws:List W)(st:List am):R W:=if ws.length<=m5 then .ok (.tup ws) st else .bad
def pI(ws:List W)(st:List am):R W:=if ws.length<=m5 then .ok #[4] (st++[.lst ws])else .bad
def cZ(fs:FA):FE:=fun ρ st=>(fs ρ st).bind fun ws st=>qB ws st
def jD(fs:FA):FE:=fun ρ st=>(fs ρ st).bind fun ws st=>pI ws st
theorem jd.newLst(S:jd K mg μ st H){p:Addr}(hp:H p=none)(r:RelWs K μ H ws vs):jd K mg (μ++[p]) (st++[.lst ws]) (fB H p (.lst vs)):=
 S.push hp ⟨vs,gG,r.mono (aX _ _) (fU.same (cG hp _))⟩
theorem pJ(S:jd K mg μ st H){p:Addr}:bO K (μ++[p]) H' #[4] (.ref p):=.locI (by rw[S.len];simp)
theorem GK{Q:VK}(S:jd X.K X.mg μ st H)(q:RelWs X.K μ H ws vs)(h:RK X (tH X) μ σ H Q (qB ws st)):vs.length<=sizeLine/\∀p H2,H p=none->H2=fB H p (.tup vs)->Q (.ref p) H2:=by
 unfold qB at h
 by_cases hz:ws.length<=m5
 ·rw[aD hz]at h
  refine⟨by rw[<- q.len];exact pH hz,fun p H2 hp e=>?_⟩
  subst e
  have x:=fU.same (K:=X.K) (cG hp (.tup vs))
  exact h μ _ _ (ao _) x (S.same (cG hp _)) (.tupI fU.new (q.mono (ao _) x))
 ·rw[aQ hz]at h;exact h.elim
theorem vK{σ:St}{Q:VK}(S:jd X.K X.mg μ st H)(q:RelWs X.K μ H ws vs)(h:RK X (tH X) μ σ H Q (pI ws st)):vs.length<=sizeLine/\∀p H2,H p=none->H2=fB H p (.lst vs)->Q (.ref p) H2:=by
 unfold pI at h
 by_cases hz:ws.length<=m5
 ·rw[aD hz]at h
  refine⟨by rw[<- q.len];exact pH hz,fun p H2 hp e=>?_⟩
  subst e
  exact h (μ++[p]) _ _ (aX _ _) (fU.same (cG hp _)) (S.newLst hp q) (pJ S)
 ·rw[aQ hz]at h;exact h.elim
theorem Ml(h:SA X es fs):SE X (.Tuple es k pos) (cZ fs):=⟨(DL h.h).imp fun σ H Q h=>by
 walk_at "2"
 exact⟨μ,ρ,st,l,RK.bind h l fun μ1 st1 x v H1 p1 x1 l1 q1 h1=>GK l1.sto q1 h1⟩⟩
theorem S7(h:SA X es fs):SE X (.List es pos) (jD fs):=⟨(KL h.h).imp fun σ H Q h=>by
 walk_at "2"
 exact⟨μ,ρ,st,l,RK.bind h l fun μ1 st1 x v H1 p1 x1 l1 q1 h1=>vK l1.sto q1 h1⟩⟩
end
end L2
namespace L2
open PySem PySem.Spec PyProof.Rows
section
theorem k_{Q:VK}{i:Int}(S:jd X.K X.mg μ st H)(h:FN X μ H Q (.ok (.int i) st)):Q (.int i) H:=h μ _ H (ao _) eV.refl S .int
theorem pK{Q:VK}{i:Bool}(S:jd X.K X.mg μ st H)(h:FN X μ H Q (.ok (.bl i) st)):Q (.bl i) H:=h μ _ H (ao _) eV.refl S .bl
theorem rP{Q:VK}{i:List Nat}(S:jd X.K X.mg μ st H)(h:FN X μ H Q (.ok (.str i) st)):Q (.str (tx i)) H:=h μ _ H (ao _) eV.refl S .str
theorem Pe{Q:VK}{r:R W}(h:FN X μ H Q r):RK X (tH X) μ σ H Q r:=by
 cases r with
 |ok a st=>exact h
 |ex c st=>exact h.elim
 |bad=>exact h
noncomputable def E6(C:Int->Int->Prop)[∀i j,Decidable (C i j)](f:Int->Int->Int):W->W->List am->R W
 |.int i,.int j,st=>if C i j then .ok (.int (f i j)) st else .bad
 |_,_,_=>.bad
theorem Au{C C':Int->Int->Prop}[∀i j,Decidable (C' i j)]{f:Int->Int->Int}(h:oZ X g (rI C fun i j=>.int (f i j)))(hC:∀i j,C' i j->C i j):wR X g (E6 C' f):=⟨h.imp fun x y H Q zq=>by
 obtain⟨μ,st,wx,wy,S,rx,ry,q⟩:=zq
 cases wx with
 |int i=>
  cases wy with
  |int j=>
   simp only[E6]at q
   by_cases c:C' i j
   ·rw[aD c]at q;exact⟨i,j,rx.intE,ry.intE,hC i j c,k_ S q⟩
   ·rw[aQ c]at q;exact q.elim
  |_=>exact q.elim
 |_=>cases wy<;>exact q.elim,fun x y st=>by
 unfold E6
 split
 ·split<;>trivial
 ·trivial⟩
noncomputable def E7(f:Int->Int->Bool):W->W->List am->R W
 |.int i,.int j,st=>.ok (.bl (f i j)) st
 |_,_,_=>.bad
theorem GL{f:Int->Int->Bool}(h:oZ X g (F8 fun i j=>.bl (f i j))):wR X g (E7 f):=⟨h.imp fun x y H Q zq=>by
 obtain⟨μ,st,wx,wy,S,rx,ry,q⟩:=zq
 cases wx with
 |int i=>
  cases wy with
  |int j=>exact⟨i,j,rx.intE,ry.intE,pK S q⟩
  |_=>exact q.elim
 |_=>cases wy<;>exact q.elim,fun x y st=>by
 unfold E7
 split<;>trivial⟩
abbrev Pf(i j:Int):Prop:=(-(2^64)<i/\i<2^64)\/(-(2^64)<j/\j<2^64)
abbrev gp:=E6 (fun _ _=>True) fun i j=>i-j
abbrev S8:=E6 Pf fun i j=>i*j
abbrev gH:=E6 (fun _ j=>0<j) fun i j=>i%j
abbrev uD:=E6 (fun _ j=>0<j/\j<1073741824) fun i j=>i/j
abbrev KZ:=E6 (fun i j=>0<=j/\j<=1000000/\i.natAbs<2^64) fun i j=>i^j.toNat
abbrev Av:=E6 (fun i j=>0<=j/\j<=1000000/\i.natAbs<2^64) fun i j=>i*2^j.toNat
abbrev Pg:=E6 (fun _ j=>0<=j) fun i j=>i/2^j.toNat
abbrev GM:=E6 (fun _ _=>True) fun i j=>Builtin.bitAnd i j
theorem GN{f:Int->Int->V}(h:oZ X g (F8 f)):oZ X g (rI (fun _ _=>True) f):=h.imp fun _ _ _ _ ⟨i,j,a,b,_,q⟩=>⟨i,j,a,b,q⟩
theorem S9:wR X (binaryOp .Sub) gp:=Au (GN OB) fun _ _ _=>trivial
theorem S_:wR X (binaryOp .Mult) S8:=Au OC fun _ _ h=>h
theorem Tb:wR X (binaryOp .Mod) gH:=Au OD fun _ _ h=>h
theorem Ph:wR X (binaryOp .FloorDiv) uD:=Au Ks fun _ _ h=>h
theorem Tc:wR X (binaryOp .Pow) KZ:=Au OE fun _ _ h=>h
theorem Td:wR X (binaryOp .LShift) Av:=Au F9 fun _ _ h=>h
theorem Te:wR X (binaryOp .RShift) Pg:=Au OF fun _ _ h=>h
theorem Pi:wR X (binaryOp .BitAnd) GM:=Au (GN OG) fun _ _ _=>trivial
def cq:W->W->List am->R W
 |.int i,.int j,st=>.ok (.int (i+j)) st
 |.str a,.str b,st=>if a.length+b.length<=m5 then .ok (.str (a++b)) st else .bad
 |.tup a,.tup b,st=>qB (a++b) st
 |.loc n,.loc m,st=>match st[n]?,st[m]? with
  |some (.lst a),some (.lst b)=>pI (a++b) st
  |_,_=>.bad
 |_,_,_=>.bad
theorem K0(ws:List W)(st:List am):uX (qB ws st):=by unfold qB;split<;>trivial
theorem K1(ws:List W)(st:List am):uX (pI ws st):=by unfold pI;split<;>trivial
theorem Tf:wR X (binaryOp .Add) cq:=⟨fun ak s σ H x y v u Q I rv ru zq=>by
 obtain⟨μ,st,wx,wy,S,rx,ry,q⟩:=zq
 cases wx with
 |int i=>
  cases wy with
  |int j=>exact OA ak s σ H x y v u Q I rv ru ⟨i,j,rx.intE,ry.intE,k_ S q⟩
  |_=>exact q.elim
 |str a=>
  cases wy with
  |str b=>
   simp only[cq]at q
   by_cases c:a.length+b.length<=m5
   ·rw[aD c]at q
    exact BV ak s σ H x y v u Q I rv ru ⟨_,_,rx.strE,ry.strE,by rw[jc,jc];exact pH c,by rw[Cg];exact rP S q⟩
   ·rw[aQ c]at q;exact q.elim
  |_=>exact q.elim
 |tup a=>
  cases wy with
  |tup b=>
   obtain⟨p1,vs1,rfl,h1,r1⟩:=rx.tupE
   obtain⟨p2,vs2,rfl,h2,r2⟩:=ry.tupE
   have q':FN X μ H Q (qB (a++b) st):=q
   unfold qB at q'
   by_cases c:(a++b).length<=m5
   ·rw[aD c]at q'
    refine O6.h ak s σ H _ _ v u Q I rv ru ⟨p1,p2,vs1,vs2,rfl,rfl,h1,h2,by rw[<- r1.len,<- r2.len,<- ah];exact pH c,fun p H2 e t=>?_⟩
    exact q' μ _ _ (ao _) (fU.same e) (S.same e) (.tupI t ((r1.app r2).mono (ao _) (fU.same e)))
   ·rw[aQ c]at q';exact q'.elim
  |_=>exact q.elim
 |loc n=>
  cases wy with
  |loc m=>
   simp only[cq]at q
   cases e1:st[n]? with
   |none=>rw[e1]at q;exact q.elim
   |some c1=>
    cases e2:st[m]? with
    |none=>rw[e1,e2]at q;cases c1<;>exact q.elim
    |some c2=>
     cases c1 with
     |lst a=>
      cases c2 with
      |lst b=>
       rw[e1,e2]at q
       obtain⟨a1,g1,vs1,k1,r1⟩:=S.get e1
       obtain⟨a2,g2,vs2,k2,r2⟩:=S.get e2
       obtain⟨b1,f1,rfl⟩:=rx.locE
       obtain⟨b2,f2,rfl⟩:=ry.locE
       rw[g1]at f1;cases f1
       rw[g2]at f2;cases f2
       obtain⟨hz,qq⟩:=vK (σ:=σ) S (r1.app r2) (Pe q)
       exact KO ak s σ H _ _ v u Q I rv ru ⟨a1,a2,vs1,vs2,rfl,rfl,k1,k2,by rw[<- ah];exact hz,qq⟩
      |_=>rw[e1,e2]at q;exact q.elim
     |_=>rw[e1,e2]at q;exact q.elim
  |_=>exact q.elim
 |_=>cases wy<;>exact q.elim,fun x y st=>by
 unfold cq
 split
 ·trivial
 ·split<;>trivial
 ·exact K0 _ _
 ·split
  ·exact K1 _ _
  ·trivial
 ·trivial⟩
abbrev Pj:=E7 fun i j=>decide (i<j)
abbrev wT:=E7 fun i j=>decide (j<i)
abbrev Pk:=E7 fun i j=>decide (j<=i)
theorem w_lt:wR X (compareOp .Lt) Pj:=GL R_
theorem Pm:wR X (compareOp .Gt) wT:=GL Sa
theorem Po:wR X (compareOp .GtE) Pk:=GL Sb
end
end L2
namespace L2
open PySem PySem.Spec PyProof.Rows
mutual
noncomputable def lc:W->W->Option Bool
 |.non,.non=>some true
 |.bl a,.bl b=>some (a==b)
 |.bl a,.int b=>some ((if a then 1 else 0)==b)
 |.int a,.bl b=>some (a==(if b then 1 else 0))
 |.int a,.int b=>some (a==b)
 |.str a,.str b=>some (a==b)
 |.tup a,.tup b=>eqWs a b
 |.loc _,_=>none
 |.non,.loc _=>none
 |.bl _,.loc _=>none
 |.int _,.loc _=>none
 |.str _,.loc _=>none
 |.tup _,.loc _=>none
 |.non,.bl _=>some false
 |.non,.int _=>some false
 |.non,.str _=>some false
 |.non,.tup _=>some false
 |.bl _,.non=>some false
 |.bl _,.str _=>some false
 |.bl _,.tup _=>some false
 |.int _,.non=>some false
 |.int _,.str _=>some false
 |.int _,.tup _=>some false
 |.str _,.non=>some false
 |.str _,.bl _=>some false
 |.str _,.int _=>some false
 |.str _,.tup _=>some false
 |.tup _,.non=>some false
 |.tup _,.bl _=>some false
 |.tup _,.int _=>some false
 |.tup _,.str _=>some false
noncomputable def eqWs:List W->List W->Option Bool
 |[],[]=>some true
 |[],_::_=>some false
 |_::_,[]=>some false
 |x::xs,y::ys=>match lc x y,eqWs xs ys with
  |some a,some b=>some (a&&b)
  |_,_=>none
end
mutual
noncomputable def W.dep:W->Nat
 |.tup ws=>depWs ws+1
 |_=>0
noncomputable def depWs:List W->Nat
 |[]=>0
 |w::ws=>max w.dep (depWs ws)
end
theorem q9:∀(xs ys:List W) (b:Bool),eqWs xs ys=some b->∃e:Nat->Bool,(∀j (h1:j<xs.length) (h2:j<ys.length),lc xs[j] ys[j]=some (e j))/\((List.range (min xs.length ys.length)).all e&&xs.length==ys.length)=b
 |[],[],b,h=>by unfold eqWs at h;cases h;exact⟨fun _=>true,fun j h1=>absurd h1 (kW _),rfl⟩
 |[],y::ys,b,h=>by unfold eqWs at h;cases h;exact⟨fun _=>true,fun j h1=>absurd h1 (kW _),by simp⟩
 |x::xs,[],b,h=>by unfold eqWs at h;cases h;exact⟨fun _=>true,fun j _ h1=>absurd h1 (kW _),by simp⟩
 |x::xs,y::ys,b,h=>by
  unfold eqWs at h
  cases e1:lc x y with
  |none=>rw[e1]at h;simp at h
  |some a=>
   cases e2:eqWs xs ys with
   |none=>rw[e1,e2]at h;simp at h
   |some c=>
    rw[e1,e2]at h
    simp at h
    obtain⟨e,he,hb⟩:=q9 xs ys c e2
    refine⟨fun j=>match j with|0=>a|j+1=>e j,fun j h1 h2=>?_,?_⟩
    ·cases j with
     |zero=>exact e1
     |succ j=>exact he j (jO h1) (jO h2)
    ·have m:min (x::xs).length (y::ys).length=min xs.length ys.length+1:=by simp only[bg];omega
     rw[m,ol,List.all_cons,List.all_map,<- h,<- hb]
     simp[Function.comp_def,Bool.and_assoc]
theorem DQ{a b:W}{x:V}{k:Bool}(hn:a.dep<=0)(ra:bO X.K μ H a x)(rb:bO X.K μ H b x)(he:lc a b=some k):k=true:=by
 cases a with
 |tup i=>unfold W.dep at hn;omega
 |non=>cases ra.nonE;cases b<;>first|(unfold lc at he;cases he;rfl)|cases rb.blE|cases rb.intE|cases rb.strE|(obtain⟨_,_,z,_⟩:=rb.tupE;cases z)|(unfold lc at he;cases he)
 |bl i=>cases ra.blE;cases b<;>first|(cases rb.blE;unfold lc at he;simp at he;exact he)|cases rb.nonE|cases rb.intE|cases rb.strE|(obtain⟨_,_,z,_⟩:=rb.tupE;cases z)|(unfold lc at he;cases he)
 |int i=>cases ra.intE;cases b<;>first|(cases rb.intE;unfold lc at he;simp at he;exact he)|cases rb.nonE|cases rb.blE|cases rb.strE|(obtain⟨_,_,z,_⟩:=rb.tupE;cases z)|(unfold lc at he;cases he)
 |str i=>cases ra.strE;cases b<;>first|(have z:=rb.strE;injection z with z;rw[Ch.mp z]at he;unfold lc at he;simp at he;exact he)|cases rb.nonE|cases rb.blE|cases rb.intE|(obtain⟨_,_,z,_⟩:=rb.tupE;cases z)|(unfold lc at he;cases he)
 |loc i=>cases b<;>(unfold lc at he;cases he)
theorem GO(I:bG X ak σ H s):∀(n:Nat) (a b:W) (x:V) (k:Bool),a.dep<=n->bO X.K μ H a x->bO X.K μ H b x->lc a b=some k->k=true:=by
 intro n
 induction n with
 |zero=>exact fun a b x k hn ra rb he=>DQ hn ra rb he
 |succ n ih=>
  intro a b x k hn ra rb he
  cases a with
  |tup i=>
   obtain⟨p',Du,rfl,hS',r'⟩:=ra.tupE
   cases b with
   |tup z=>
    obtain⟨p,vs,e,hS,r⟩:=rb.tupE
    cases e
    obtain rfl:=I.tuple_inj hS hS'
    have he':eqWs i z=some k:=by unfold lc at he;exact he
    have dn:depWs i<=n:=by unfold W.dep at hn;omega
    have key:∀(i z:List W) (vs:List V) (k:Bool),depWs i<=n->RelWs X.K μ H i vs->RelWs X.K μ H z vs->eqWs i z=some k->k=true:=by
     intro i
     induction i with
     |nil=>
      intro z vs k _ r' r he
      have e1:=r'.nilE
      subst e1
      cases z with
      |nil=>unfold eqWs at he;cases he;rfl
      |cons _ _=>have e2:=r.len;simp at e2
     |cons w i ih2=>
      intro z vs k dn r' r he
      obtain⟨x,xs,rfl,rx,rxs⟩:=r'.consE
      cases z with
      |nil=>have e2:=r.len;simp at e2
      |cons y z=>
       obtain⟨x2,xs2,e3,ry,rys⟩:=r.consE
       cases e3
       unfold eqWs at he
       cases e1:lc w y with
       |none=>rw[e1]at he;simp at he
       |some k1=>
        cases e2:eqWs i z with
        |none=>rw[e1,e2]at he;simp at he
        |some k2=>
         rw[e1,e2]at he
         simp at he
         unfold depWs at dn
         have q1:=ih w y x k1 #[0] rx ry e1
         have q2:=ih2 z xs k2 #[0] rxs rys e2
         rw[<- he,q1,q2];rfl
    exact key i z _ k dn r' r he'
   |non=>cases rb.nonE
   |bl z=>cases rb.blE
   |int z=>cases rb.intE
   |str z=>cases rb.strE
   |loc z=>unfold lc at he;cases he
  |_=>exact DQ (ax _) ra rb he
theorem tK:∀{ws:List W} {j:Nat} (h:j<ws.length),ws[j].dep<=depWs ws
 |w::ws,0,_=>by unfold depWs;exact Nat.le_max_left _ _
 |w::ws,j+1,h=>by unfold depWs;exact aI (tK (j:=j) (jO h)) (Nat.le_max_right _ _)
inductive Sh(s:Shared):W->Value->Prop
 |non:Sh s .non .none
 |bl (b:Bool):Sh s (.bl b) (.bool b)
 |int (i:Int) (t:Tok):Sh s (.int i) (.int i t)
 |str (l:List Nat) (t:Tok):Sh s (.str l) (.str (tx l) t)
 |tup (ws:List W) (p:Addr) (bP:List Value) (h:IsTup s.heap p bP.toArray):Sh s (.tup ws) (.ref p)
 |loc (n:Nat) (u:Value):Sh s (.loc n) u
section
theorem uE(I:bG X ak σ H s){a:W}{x:V}(ra:bO X.K μ H a x)(ru:dh s.toks x u):Sh s a u:=by
 cases a with
 |non=>cases ra.nonE;cases ru;exact .non
 |bl i=>cases ra.blE;cases ru;exact .bl _
 |int i=>cases ra.intE;obtain⟨t,rfl⟩:=ru;exact .int _ _
 |str i=>cases ra.strE;obtain⟨t,rfl⟩:=ru;exact .str _ _
 |tup i=>obtain⟨p,vs,rfl,hS,_⟩:=ra.tupE;cases ru;obtain⟨bP,_,ht,_⟩:=I.tuple hS;exact .tup _ _ _ ht
 |loc i=>exact .loc _ _
open SeqAt.EqAt in
theorem DR{a b:W}{k:Bool}(ha:Sh s a u)(hb:Sh s b v)(hu:A.units<cLine)(ht:b.dep=0\/a.dep=0)(he:lc a b=some k):SeqAt.EqAt A s u v k:=by
 cases ha<;>cases hb<;>first
  |(unfold lc at he;cases he;done)
  |(unfold lc at he;cases he;with_reducible first|exact same _|exact bool_none _|exact bool_bool _ _|exact bool_int _ _ _|exact bool_str _ _ _|exact int_none _ _|exact int_bool _ _ _|exact int_int _ _ _ _|exact int_str _ _ _ _|exact str_none _ _|exact str_bool _ _ _|exact str_int _ _ _ _|exact none_bool _|exact none_int _ _|exact none_str _ _)
  |(unfold lc at he;cases he;(with_reducible first|refine' bool_tuple _ ?_ hu|refine' int_tuple _ _ ?_ hu|refine' str_tuple _ _ ?_ hu|refine' tuple_none ?_ hu|refine' tuple_bool _ ?_ hu|refine' tuple_int _ _ ?_ hu|refine' tuple_str _ _ ?_ hu|refine' none_tuple ?_ hu);rotate_left;assumption)
  |(unfold W.dep at ht;omega)
  |skip
 rename_i i t z r
 unfold lc at he;cases he
 have:=str_str (A:=A) (s:=s) (tx i) t (tx z) r
 rw[<- qX]at this
 exact this
open SeqAt.RcAt in
theorem K2{a b:W}{k:Bool}(ha:Sh s a u)(hb:Sh s b v)(hu:A.units<cLine)(ht:b.dep=0\/a.dep=0)(he:lc a b=some k):SeqAt.RcAt A s u v k:=by
 cases ha<;>cases hb<;>first
  |(unfold lc at he;cases he;done)
  |(unfold lc at he;cases he;with_reducible first|exact none_none|exact bool_none _|exact bool_bool _ _|exact bool_int _ _ _|exact bool_str _ _ _|exact int_none _ _|exact int_bool _ _ _|exact int_int _ _ _ _|exact int_str _ _ _ _|exact str_none _ _|exact str_bool _ _ _|exact str_int _ _ _ _|exact none_bool _|exact none_int _ _|exact none_str _ _)
  |(unfold lc at he;cases he;(with_reducible first|refine' bool_tuple _ ?_ hu|refine' int_tuple _ _ ?_ hu|refine' str_tuple _ _ ?_ hu|refine' tuple_none ?_ hu|refine' tuple_bool _ ?_ hu|refine' tuple_int _ _ ?_ hu|refine' tuple_str _ _ ?_ hu|refine' none_tuple ?_ hu);rotate_left;assumption)
  |(unfold W.dep at ht;omega)
  |skip
 rename_i i t z r
 unfold lc at he;cases he
 have:=str_str (A:=A) (s:=s) (tx i) t (tx z) r
 rw[<- qX]at this
 exact this
open SeqAt.RcNeAt in
theorem E8         {a b:W}  {k:Bool} (ha : Sh s a u) (hb : Sh s b v) (hu : A.units < cLine) (ht : b.dep = 0 \/ a.dep = 0) (he : lc  a b = some k) : SeqAt.RcNeAt A s u v (!k) := by
  cases ha <;> cases hb <;> first
    | (unfold lc  at he; cases he; done)
    | (unfold lc  at he; cases he; try simp only [Bool.not_true, Bool.not_false]
       with_reducible first | exact none_none | exact bool_none _ | exact bool_bool _ _ | exact bool_int _ _ _ | exact bool_str _ _ _ | exact int_none _ _ | exact int_bool _ _ _ | exact int_int _ _ _ _ | exact int_str _ _ _ _ | exact str_none _ _ | exact str_bool _ _ _ | exact str_int _ _ _ _ | exact none_bool _ | exact none_int _ _ | exact none_str _ _)
    | (unfold lc  at he; cases he; try simp only [Bool.not_true, Bool.not_false]
       (with_reducible first | refine' bool_tuple _ ?_ hu | refine' int_tuple _ _ ?_ hu | refine' str_tuple _ _ ?_ hu | refine' tuple_none ?_ hu | refine' tuple_bool _ ?_ hu | refine' tuple_int _ _ ?_ hu | refine' tuple_str _ _ ?_ hu | refine' none_tuple ?_ hu); rotate_left; assumption)
    | (unfold W.dep at ht; omega)
    | skip
  rename_i i t z r
  unfold lc  at he; cases he
  have := str_str (A := A) (s := s) (tx i) t (tx z) r
  rw [<- qX           ] at this
  exact this
theorem Aw{i z:List W}{Du:List V}{its':List Value}{e:Nat->Bool}{A:Around}{m:Nat}(ih:∀(a b:W) (A:Around) (x y:V) (u v:Value) (k:Bool),a.dep<=m->bO X.K μ H a x->bO X.K μ H b y->dh nk x u->dh nk y v->A.units+m<cLine->lc a b=some k->SeqAt.EqAt A s u v k)
  (r':RelWs X.K μ H i Du) (r:RelWs X.K μ H z vs) (w':cu nk Du its') (w:cu nk vs bP) (hd:depWs i<=m) (hu:A.units+1+m<cLine) (h1:∀j (h1:j<i.length) (h2:j<z.length),lc i[j] z[j]=some (e j)):∀j (j1:j<its'.toArray.size) (j2:j<bP.toArray.size),SeqAt.EqAt A.in1 s its'.toArray[j] bP.toArray[j] (e j):=fun j j1 j2=>by
 have j1':j<i.length:=by rw[r'.len,w'.length];simpa using j1
 have j2':j<z.length:=by rw[r.len,w.length];simpa using j2
 obtain⟨x1,g1,q1⟩:=r'.get (al j1')
 obtain⟨x2,g2,q2⟩:=r.get (al j2')
 obtain⟨u1,f1,v1⟩:=w'.get g1
 obtain⟨u2,f2,v2⟩:=w.get g2
 have E:=ih i[j] z[j] A.in1 x1 x2 u1 u2 (e j) (aI (tK j1') hd) q1 q2 v1 v2 hu (h1 j j1' j2')
 have t1:its'.toArray[j]=u1:=by simpa using (ar.mp f1).2
 have t2:bP.toArray[j]=u2:=by simpa using (ar.mp f2).2
 rw[t1,t2];exact E
theorem GP(I:bG X ak σ H s):∀(n:Nat) (a b:W) (A:Around) (x y:V) (u v:Value) (k:Bool),a.dep<=n->bO X.K μ H a x->bO X.K μ H b y->dh s.toks x u->dh s.toks y v->A.units+n<cLine->lc a b=some k->SeqAt.EqAt A s u v k:=by
 intro n
 induction n with
 |zero=>exact fun a b A x y u v k hn ra rb ru rv hu he=>DR (uE I ra ru) (uE I rb rv) hu (.inr (by omega)) he
 |succ m ih=>
  intro a b A x y u v k hn ra rb ru rv hu he
  by_cases hb:b.dep=0\/a.dep=0
  ·exact DR (uE I ra ru) (uE I rb rv) #[0] hb he
  ·cases b with
   |tup z=>
    cases a with
    |tup i=>
     obtain⟨p',Du,rfl,hS',r'⟩:=id ra.tupE;cases ru;obtain⟨its',w',ht',_⟩:=I.tuple hS'
     obtain⟨p,vs,rfl,hS,r⟩:=id rb.tupE;cases rv;obtain⟨bP,w,ht,_⟩:=I.tuple hS
     by_cases yt:p'=p
     ·subst yt
      rw[GO I (m+1) (.tup i) (.tup z) (.ref p') k hn ra rb he]
      exact SeqAt.EqAt.same _
     ·obtain⟨e,h1,h2⟩:=q9 i z k (by unfold lc at he;exact he)
      have R:=SeqAt.RcAt.tuples (A:=A) (e:=e) ht' ht #[0] (Aw ih r' r w' w (by unfold W.dep at hn;omega) #[0] h1)
      rw[show its'.toArray.size=i.length by simp[<- w'.length,<- r'.len],show bP.toArray.size=z.length by simp[<- w.length,<- r.len],h2]at R
      exact SeqAt.EqAt.of_refs yt R
    |_=>exact(hb (.inr rfl)).elim
   |_=>exact(hb (.inl rfl)).elim
theorem GQ(I:bG X ak σ H s){a b:W}{x y:V}{k:Bool}(hn:b.dep=0\/a.dep<=n)(ra:bO X.K μ H a x)(rb:bO X.K μ H b y)(ru:dh s.toks x u)(rv:dh s.toks y v)(hu:A.units+n<cLine)(he:lc a b=some k):SeqAt.RcAt A s u v k/\SeqAt.RcNeAt A s u v (!k):=by
 by_cases hb:b.dep=0\/a.dep=0
 ·exact⟨K2 (uE I ra ru) (uE I rb rv) #[0] hb he,E8 (uE I ra ru) (uE I rb rv) #[0] hb he⟩
 cases b with
 |tup z=>
  cases a with
  |tup i=>
   obtain⟨p',Du,rfl,hS',r'⟩:=ra.tupE;cases ru;obtain⟨its',w',ht',_⟩:=I.tuple hS'
   obtain⟨p,vs,rfl,hS,r⟩:=rb.tupE;cases rv;obtain⟨bP,w,ht,_⟩:=I.tuple hS
   obtain⟨e,h1,h2⟩:=q9 i z k (by unfold lc at he;exact he)
   have hd:depWs i+1<=n:=hn.elim (fun z=>(hb (.inl z)).elim) id
   obtain⟨m,rfl⟩:∃m,n=m+1:=⟨n-1,by omega⟩
   have T:=Aw (A:=A) (GP I m) r' r w' w #[0] #[0] h1
   have R:=SeqAt.RcAt.tuples (A:=A) (e:=e) ht' ht #[0] T
   have R2:=SeqAt.RcNeAt.tuples (A:=A) (e:=e) ht' ht #[0] T
   rw[show its'.toArray.size=i.length by simp[<- w'.length,<- r'.len],show bP.toArray.size=z.length by simp[<- w.length,<- r.len],h2]at R R2
   exact⟨R,R2⟩
  |_=>exact(hb (.inr rfl)).elim
 |_=>exact(hb (.inl rfl)).elim
end
def hW:W->W->List am->R W:=fun x y st=>match lc x y with
 |some k=>if y.dep=0\/x.dep<=64 then .ok (.bl k) st else .bad
 |none=>.bad
theorem K4(hr:jz k X.A):wR X (compareOp .Eq) hW:=⟨fun ak s σ H x y v u Q I rv ru zq=>by
 obtain⟨μ,st,wx,wy,S,rx,ry,q⟩:=zq
 unfold hW at q
 cases e:lc wx wy with
 |none=>rw[e]at q;exact q.elim
 |some b=>
  rw[e]at q
  simp only at q
  by_cases c:wy.dep=0\/wx.dep<=64
  ·rw[aD c]at q
   have:=hr.units
   exact(GQ I c rx ry rv ru this e).1 X.prog X.w X.xe _ ⟨.bl b,H,I,rfl,pK S q⟩
  ·rw[aQ c]at q;exact q.elim,fun x y st=>by
 unfold hW
 split
 ·split<;>trivial
 ·trivial⟩
def Mm:W->W->List am->R W:=fun x y st=>match lc x y with
 |some k=>if y.dep=0\/x.dep<=64 then .ok (.bl (!k)) st else .bad
 |none=>.bad
theorem Tg(hr:jz k X.A):wR X (compareOp .NotEq) Mm:=⟨fun ak s σ H x y v u Q I rv ru zq=>by
 obtain⟨μ,st,wx,wy,S,rx,ry,q⟩:=zq
 unfold Mm at q
 cases e:lc wx wy with
 |none=>rw[e]at q;exact q.elim
 |some b=>
  rw[e]at q
  simp only at q
  by_cases c:wy.dep=0\/wx.dep<=64
  ·rw[aD c]at q
   have:=hr.units
   exact(GQ I c rx ry rv ru this e).2 X.prog X.w X.xe _ ⟨.bl (!b),H,I,rfl,pK S q⟩
  ·rw[aQ c]at q;exact q.elim,fun x y st=>by
 unfold Mm
 split
 ·split<;>trivial
 ·trivial⟩
def xa(x:W):List W->Option Bool
 |[]=>some false
 |y::ys=>match lc y x,xa x ys with
  |some a,some b=>some (a||b)
  |_,_=>none
def FQ(UN:Bool)(x y:W)(st:List am):R W:=match y with
 |.str l=>(match x with
  |.str [c]=>.ok (.bl (if UN then !decide (c∈l)else decide (c∈l))) st
  |_=>.bad)
 |.tup ys=>(match xa x ys with
  |some k=>if depWs ys<=63 then .ok (.bl (if UN then !k else k)) st else .bad
  |none=>.bad)
 |.loc n=>(match st[n]? with
  |some (.lst ys)=>(match xa x ys with
   |some k=>if depWs ys<=63 then .ok (.bl (if UN then !k else k)) st else .bad
   |none=>.bad)
  |_=>.bad)
 |_=>.bad
theorem Ax{x:W}:∀{ys:List W} {k:Bool},xa x ys=some k->(∀(j:Nat) w,ys[j]?=some w->∃b,lc w x=some b)/\(k=true↔∃(j:Nat) (w:W),ys[j]?=some w/\lc w x=some true)
 |[],k,h=>by
  unfold xa at h;cases h
  exact⟨fun j w e=>by simp at e,fun z=>(by cases z),fun⟨j,w,e,_⟩=>(by simp at e)⟩
 |y::ys,k,h=>by
  unfold xa at h
  cases e1:lc y x with
  |none=>rw[e1]at h;simp at h
  |some a=>
   cases e2:xa x ys with
   |none=>rw[e1,e2]at h;simp at h
   |some b=>
    rw[e1,e2]at h
    simp at h
    obtain⟨q1,q2⟩:=Ax e2
    refine⟨fun j w e=>?_,fun z=>?_,fun⟨j,w,e,f⟩=>?_⟩
    ·cases j with
     |zero=>simp at e;subst e;exact⟨a,e1⟩
     |succ j=>exact q1 j w (by simpa using e)
    ·rw[<- h]at z
     cases a with
     |true=>exact⟨0,y,rfl,e1⟩
     |false=>
      obtain⟨j,w,p,q⟩:=q2.mp (by simpa using z)
      exact⟨j+1,w,by simpa using p,q⟩
    ·rw[<- h]
     cases j with
     |zero=>simp at e;subst e;rw[e1]at f;cases f;rfl
     |succ j=>rw[q2.mpr ⟨j,w,by simpa using e,f⟩];simp
theorem vL(I:bG X ak σ H s){wx:W}{x:V}(rx:bO X.K μ H wx x)(rv:dh s.toks x v)(n:Nat){A:Around}(hu:A.units+n<cLine)
  {ys:List W} {vs:List V} {us:List Value} {k:Bool} (hd:depWs ys<=n) (rs:RelWs X.K μ H ys vs) (uq:cu s.toks vs us) (ha:xa wx ys=some k):∃e:Value->Bool,(∀u,u∈us.toArray->SeqAt.EqAt A s u v (e u))/\us.toArray.any e=k:=by
 classical
 obtain⟨q1,q2⟩:=Ax ha
 have at':∀(j:Nat) (u:Value),us[j]?=some u->∃w b,ys[j]?=some w/\lc w wx=some b/\SeqAt.EqAt A s u v b:=fun j u e=>by
  have hj:j<ys.length:=by
   have h1:=(ar.mp e).1
   rw[rs.len,uq.length];exact h1
  obtain⟨b,hb⟩:=q1 j ys[j] (al hj)
  obtain⟨y,g1,r1⟩:=rs.get (al hj)
  obtain⟨u',f1,v1⟩:=uq.get g1
  rw[e]at f1;cases f1
  exact⟨_,b,al hj,hb,GP I n ys[j] wx A y x u v b (aI (tK hj) hd) r1 rx v1 rv hu hb⟩
 refine⟨fun u=>decide (∃(j:Nat) (w:W),us[j]?=some u/\ys[j]?=some w/\lc w wx=some true),fun u hu=>?_,?_⟩
 ·by_cases c:∃(j:Nat) (w:W),us[j]?=some u/\ys[j]?=some w/\lc w wx=some true
  ·show SeqAt.EqAt A s u v (decide _)
   rw[a_ c]
   obtain⟨j,w,e1,e2,e3⟩:=c
   obtain⟨w',b,f1,f2,f3⟩:=at' j u e1
   rw[e2]at f1;cases f1
   rw[e3]at f2;cases f2
   exact f3
  ·show SeqAt.EqAt A s u v (decide _)
   rw[aU c]
   obtain⟨j,hj,e⟩:=List.mem_iff_getElem.mp (show u∈us by simpa using hu)
   have e':us[j]?=some u:=by rw[al hj,e]
   obtain⟨w',b,f1,f2,f3⟩:=at' j u e'
   cases b with
   |false=>exact f3
   |true=>exact absurd ⟨j,w',e',f1,f2⟩ c
 ·rw[List.any_toArray]
  cases k with
  |true=>
   obtain⟨j,w,e1,e2⟩:=q2.mp rfl
   have hj:j<us.length:=by rw[<- uq.length,<- rs.len];exact(ar.mp e1).1
   exact List.any_eq_true.mpr ⟨us[j],dH hj,a_ ⟨j,w,al hj,e1,e2⟩⟩
  |false=>
   refine mG.mpr fun u _ c=>?_
   obtain⟨j,w,_,e1,e2⟩:=of_decide_eq_true c
   have:=q2.mpr ⟨j,w,e1,e2⟩
   cases this
theorem Th(hr:jz k X.A):wR X (compareOp .In) (FQ false):=⟨fun ak s σ H x y v u Q I rv ru zq=>by
 obtain⟨μ,st,wx,wy,S,rx,ry,q⟩:=zq
 have hu:=hr.units
 cases wy with
 |str l=>
  simp only[FQ]at q
  split at q
  ·exact EV ak s σ H x y v u Q I rv ru ⟨_,_,rx.strE,ry.strE,pK S q⟩
  ·exact q.elim
 |tup ys=>
  simp only[FQ]at q
  cases hk:xa wx ys with
  |none=>rw[hk]at q;exact q.elim
  |some kk=>
   rw[hk]at q
   simp only at q
   by_cases c:depWs ys<=63
   ·rw[aD c]at q
    obtain⟨p,vs,rfl,hS,r⟩:=ry.tupE
    cases ru
    obtain⟨bP,w,ht,_⟩:=I.tuple hS
    obtain⟨e,he,ha⟩:=vL (A:=X.A.in1) I rx rv 63 (by show X.A.units+1+63<cLine;omega) c r w hk
    exact SeqAt.in_tupleAt e ht he ⟨.bl _,H,I,rfl,by rw[ha];exact pK S q⟩
   ·rw[aQ c]at q;exact q.elim
 |loc n=>
  simp only[FQ]at q
  cases e1:st[n]? with
  |none=>rw[e1]at q;exact q.elim
  |some cc=>
   rw[e1]at q
   cases cc with
   |lst ys=>
    simp only at q
    cases hk:xa wx ys with
    |none=>rw[hk]at q;exact q.elim
    |some kk=>
     rw[hk]at q
     simp only at q
     by_cases c:depWs ys<=63
     ·rw[aD c]at q
      obtain⟨a1,g1,vs,k1,r⟩:=S.get e1
      obtain⟨b1,f1,rfl⟩:=ry.locE
      rw[g1]at f1;cases f1
      cases ru
      obtain⟨bP,w,ht,_⟩:=I.list (tm.of k1)
      obtain⟨e,he,ha⟩:=vL (A:=X.A.in1) I rx rv 63 (by show X.A.units+1+63<cLine;omega) c r w hk
      exact SeqAt.in_listAt e ht.isList he ⟨.bl _,H,I,rfl,by rw[ha];exact pK S q⟩
     ·rw[aQ c]at q;exact q.elim
   |_=>exact q.elim
 |_=>exact q.elim,fun x y st=>by
 unfold FQ
 repeat' split
 all_goals trivial⟩
end L2
namespace L2
open PySem PySem.Spec PyProof.Rows
section
variable{w:World}
theorem Ay{t sl:Addr}{items:Array Value}{vl vu:Value}{lo hi:Option Int}(ht:IsTup s.heap t items)(hs:s.heap.IsSliceOf sl vl vu .none)(pl:IsPart vl lo)(pu:IsPart vu hi)
  (hw:HT.sIx items.size 0 lo=0/\HT.sIx items.size items.size hi=items.size) (h:Q (.ref t) s):wpAny #[7] A (getItem (.ref t) (.ref sl)) Q E s:=by
 obtain⟨os,hos,hcs,N0⟩:=id hs
 have hTs:s.TypeIs (.ref sl) "slice":=⟨os,hos,hcs⟩
 unfold getItem
 try with_reducible refine c_ ?_
 first|refine ae (au ?_)|skip
 refine ae (wpAny_sequenceKey ht.typeIs #[3] ?_)
 refine ae (bS (name:=Str.ofString "__getitem__") ht.typeIs d8
  (bZ d8 ht.typeIs entry_tuple_getitem ?_ (args_tuple_getitem _ _)))
 show wpAny _ _ (Builtin.Tuple.tupleItemsOf (.ref t) >>= _) _ _ s
 refine ae (tupleItemsOf_ ht ?_)
 refine ae (iK hTs ?_)
 rw[aD #[3]]
 refine ae (HT.sliceApplied_gen hs pl pu ?_)
 have hyes:(((HT.sIx items.size 0 lo:Nat):Int)==0&&(1:Int)==1&&(HT.sIx items.size items.size hi-HT.sIx items.size 0 lo)==items.size)=true:=by
  rw[hw.1,hw.2];simp
 show wpAny _ _ (if (((HT.sIx items.size 0 lo:Nat):Int)==0&&(1:Int)==1&&(HT.sIx items.size items.size hi-HT.sIx items.size 0 lo)==items.size)=true then _ else _) _ _ s
 rw[aD hyes]
 unfold Builtin.Tuple.tupleIsExact
 obtain⟨ot,hot,hct,nt,hdt⟩:=id ht
 refine ae (ae (iK (T:="tuple") ht.typeIs ?_))
 refine au ?_
 rw[aD #[3]]
 exact ae (kg (au ⟨_,rfl,au h⟩))
end
section
variable{a b c:Expr}{fb fc:FE}{fs:FA}
noncomputable def lstOf(st:List am)(n:Nat):Option (List W):=match st[n]? with
 |some (.lst ws)=>some ws
 |some (.ro ws)=>some ws
 |_=>none
theorem jd.lstOf(S:jd K mg μ st H)(h:lstOf st n=some ws):∃a vs,μ[n]?=some a/\tm K H a vs/\RelWs K μ H ws vs:=by
 unfold L2.lstOf at h
 cases e:st[n]? with
 |none=>rw[e]at h;cases h
 |some cc=>
  rw[e]at h
  cases cc with
  |lst zs=>cases h;obtain⟨a,g,vs,k,r⟩:=S.get e;exact⟨a,vs,g,tm.of k,r⟩
  |ro zs=>cases h;obtain⟨a,g,vs,k,r⟩:=S.get e;exact⟨a,vs,g,k.sq,r⟩
  |exc zs=>cases h
  |dct zs=>cases h
  |rod zs=>cases h
  |dcx zs=>cases h
  |rox zs=>cases h
  |obj _ _=>cases h
  |tab _ _ _=>cases h
  |pin _ _ _ _=>cases h
  |gone=>cases h
noncomputable def tL(o:Option α)(k:α->R W):R W:=match o with
 |some a=>k a
 |none=>.bad
@[simp] theorem eF{α:Type}(a:α)(k:α->R W):tL (some a) k=k a:=rfl
def bp(x y:W)(st:List am):R W:=match x,y with
 |.tup ws,.int i=>tL (tz ws i) fun w=>.ok w st
 |.str l,.int i=>if l.length<=m5 then tL (tz l i) (fun c=>.ok (.str [c]) st)else .bad
 |.loc n,.int i=>tL (lstOf st n) fun ws=>tL (tz ws i) fun w=>.ok w st
 |_,_=>.bad
theorem DS{i:Int}{w:W}(r:RelWs K μ H ws vs)(h:tz ws i=some w):∃v,tz vs i=some v/\bO K μ H w v:=by
 unfold tz at h ⊢
 rw[<- r.len]
 cases e:DC ws.length i with
 |none=>rw[e]at h;cases h
 |some k=>rw[e]at h;exact r.get h
theorem Wk:J4 X (Wh X bp):=fun value slice ak s σ H x y v u Q I rv ru zq hs=>by
 obtain⟨μ,st,wx,wy,S,rx,ry,q⟩:=zq
 refine OP value slice ak s σ H x y v u Q I rv ru ?_ hs
 cases wy with
 |int i=>
  cases wx with
  |tup ws=>
   simp only[bp]at q
   cases e1:tz ws i with
   |none=>rw[e1]at q;exact q.elim
   |some w=>
    rw[e1]at q
    obtain⟨p,vs,rfl,hS,r⟩:=rx.tupE
    obtain⟨z,f,g⟩:=DS r e1
    exact .inr (.inl ⟨p,vs,i,z,rfl,ry.intE,hS,f,q μ z H (ao _) eV.refl S g⟩)
  |str l=>
   simp only[bp]at q
   by_cases c:l.length<=m5
   ·rw[aD c]at q
    cases e1:tz l i with
    |none=>rw[e1]at q;exact q.elim
    |some w=>
     rw[e1]at q
     exact .inr (.inr ⟨_,i,w,rx.strE,ry.intE,by rw[jc];exact pH c,by rw[OS];exact e1,rP S q⟩)
   ·rw[aQ c]at q;exact q.elim
  |loc n=>
   simp only[bp]at q
   cases e0:lstOf st n with
   |none=>rw[e0]at q;exact q.elim
   |some ws=>
    rw[e0]at q
    cases e1:tz ws i with
    |none=>rw[eF,e1]at q;exact q.elim
    |some w=>
     rw[eF,e1]at q
     obtain⟨a,vs,g,hS,r⟩:=S.lstOf e0
     obtain⟨b1,f1,rfl⟩:=rx.locE
     rw[g]at f1;cases f1
     obtain⟨z,f,g⟩:=DS r e1
     exact .inl ⟨_,vs,i,z,rfl,ry.intE,hS,f,q μ z H (ao _) eV.refl S g⟩
  |_=>exact q.elim
 |_=>cases wx<;>exact q.elim
theorem uF{o:Option α}{k:α->R W}(h:∀a,uX (k a)):uX (tL o k):=by
 unfold tL
 split
 ·exact h _
 ·trivial
theorem Ti(x y:W)(st:List am):uX (bp x y st):=by
 unfold bp
 split
 ·exact uF fun _=>trivial
 ·split
  ·exact uF fun _=>trivial
  ·trivial
 ·exact uF fun _=>uF fun _=>trivial
 ·trivial
theorem Pp(ha:SE X a fa)(hb:SE X b fb)(hs:DE b:=by intro _ _;rfl):SE X (.Subscript a b pos) (e2 bp fa fb):=⟨(Sk Wk ha.h hb.h hs).imp fun _ _ _ h=>DP Ti h⟩
abbrev FO:=cf->List am->R (Option Int)
abbrev Wl:List Addr->Hp->Option Int->Option Int->Prop:=fun _ _ a b=>a=b
structure SO(X:Cx)(e:Option Expr)(f:FO):Prop where
 h:PO X e (tG X Wl f)
def gI:FO:=fun _ st=>.ok none st
def eG(fa:FE):FO:=fun ρ st=>(fa ρ st).bind fun x st=>match x with
 |.int i=>.ok (some i) st
 |_=>.bad
theorem PO.imp{e:Option Expr}{t t':TO}(h:PO X e t)(i:∀σ H Q,t' σ H Q->t σ H Q):PO X e t':=fun ak s σ H Q I q=>h ak s σ H Q I (i _ _ _ q)
theorem K5:SO X none gI:=⟨Kz.imp fun σ H Q h=>by
 walk_at "2"
 exact h μ none H (ao _) eV.refl l.sto rfl⟩
theorem K6(ha:SE X a fa):SO X (some a) (eG fa):=⟨(KA ha.h).imp fun σ H Q h=>by
 walk_at "2"
 walk_at "1"
 cases x with
 |int k=>exact⟨k,q1.intE,h1 μ1 _ H1 (ao _) eV.refl l1.sto rfl⟩
 |_=>exact h1.elim⟩
noncomputable def jE(xs:List α)(lo hi:Option Int):List α:=(xs.drop (HT.sIx xs.length 0 lo)).take (HT.sIx xs.length xs.length hi-HT.sIx xs.length 0 lo)
def wU(x:W)(lo hi:Option Int)(st:List am):R W:=match x with
 |.tup ws=>.ok (.tup (jE ws lo hi)) st
 |.str l=>if l.length<=m5 then .ok (.str (jE l lo hi)) st else .bad
 |.loc n=>tL (lstOf st n) fun ws=>.ok (.loc st.length) (st++[.lst (jE ws lo hi)])
 |_=>.bad
theorem Tj(x:W)(lo hi:Option Int)(st:List am):uX (wU x lo hi st):=by
 unfold wU tL
 repeat' split
 all_goals trivial
def q_(fa:FE)(fl fh:FO):FE:=fun ρ st=>(fa ρ st).bind fun x st=>(fl ρ st).bind fun l st=>(fh ρ st).bind fun h st=>wU x l h st
theorem Wm:Si X (fun x lo hi H Q=>∃μ st wx,jd X.K X.mg μ st H/\bO X.K μ H wx x/\FN X μ H Q (wU wx lo hi st)):=by
 intro ak s σ H x v vl vu lo hi sl Q I rv hs pl pu ⟨μ,st,wx,S,rx,q⟩
 cases wx with
 |tup ws=>
  obtain⟨p,vs,rfl,hS,r⟩:=rx.tupE
  have hl:=r.len
  by_cases hw:HT.sIx vs.length 0 lo=0/\HT.sIx vs.length vs.length hi=vs.length
  ·cases rv
   obtain⟨bP,w,ht,hz⟩:=I.tuple hS
   have fX:bP.toArray.size=vs.length:=by rw[aR];exact w.length.symm
   refine⟨"tuple",_,d8.lookup,ht.typeIs,Ay ht hs pl pu (by rw[fX];exact hw) ⟨.ref p,H,I,rfl,?_⟩⟩
   have e:jE ws lo hi=ws:=by
    unfold jE
    rw[hl,hw.1,hw.2,List.drop_zero,Nat.sub_zero,<- hl,dJ]
   have q':FN X μ H Q (.ok (.tup (jE ws lo hi)) st):=q
   rw[e]at q'
   exact q' μ _ H (ao _) eV.refl S rx
  ·refine OM ak s σ H _ v vl vu lo hi sl Q I rv hs pl pu ⟨p,vs,rfl,hS,hw,fun p2 Kc=>?_⟩
   have x:=fU.same (K:=X.K) (cG Kc (.tup (vw vs lo hi)))
   have rc:RelWs X.K μ H (jE ws lo hi) (vw vs lo hi):=by
    unfold jE vw
    rw[hl]
    exact(r.drop _).take _
   exact q μ _ _ (ao _) x (S.same (cG Kc _)) (.tupI fU.new (rc.mono (ao _) x))
 |str l=>
  simp only[wU]at q
  by_cases c:l.length<=m5
  ·rw[aD c]at q
   exact OV ak s σ H _ v vl vu lo hi sl Q I rv hs pl pu ⟨l,rx.strE,pH c,rP S q⟩
  ·rw[aQ c]at q;exact q.elim
 |loc n=>
  simp only[wU]at q
  cases e0:lstOf st n with
  |none=>rw[e0]at q;exact q.elim
  |some ws=>
   rw[e0]at q
   obtain⟨a,vs,g,hS,r⟩:=S.lstOf e0
   obtain⟨b1,f1,rfl⟩:=rx.locE
   rw[g]at f1;cases f1
   have hl:=r.len
   refine KD ak s σ H _ v vl vu lo hi sl Q I rv hs pl pu ⟨_,vs,rfl,hS,fun p2 Kc=>?_⟩
   have rc:RelWs X.K μ H (jE ws lo hi) (vw vs lo hi):=by
    unfold jE vw
    rw[hl]
    exact(r.drop _).take _
   exact q (μ++[p2]) _ _ (aX _ _) (fU.same (cG Kc _)) (S.newLst Kc rc) (pJ S)
 |_=>exact q.elim
theorem Wn{lo hi:Option Expr}{fl fh:FO}(ha:SE X a fa)(hl:SO X lo fl)(hh:SO X hi fh):SE X (.Subscript a (.Slice lo hi none p2) pos) (q_ fa fl fh):=⟨(Ge Wm ha.h hl.h hh.h).imp fun σ H Q h=>by
 walk_at "2"
 refine⟨μ,ρ,st,l,RK.bind h l fun μ1 st1 x v H1 p1 x1 l1 q1 h1=>⟨μ1,ρ,st1,l1,RK.bind h1 l1 fun μ2 cW y u H2 p2 x2 l2 q2 h2=>⟨μ2,ρ,cW,l2,RK.bind h2 l2 fun μ3 mF z t H3 p3 x3 l3 q3 h3=>?_⟩⟩⟩
 cases q2;cases q3
 exact⟨μ3,mF,x,l3.sto,(q1.mono p2 x2).mono p3 x3,tI h3 (Tj _ _ _ _)⟩⟩
def WT(X:Cx)(F:List W->List am->R W):List V->Hp->VK->Prop:=fun vs H Q=>∃μ st ws,jd X.K X.mg μ st H/\RelWs X.K μ H ws vs/\FN X μ H Q (F ws st)
structure pL(X:Cx)(f:Value)(F:List W->List am->R W):Prop where
 h:iL X f (WT X F)
 n:∀ws st,uX (F ws st)
def bh(F:List W->List am->R W)(fs:FA):FE:=fun ρ st=>(fs ρ st).bind fun ws st=>F ws st
theorem DT{Q:VK}(n:∀ws st,uX (F ws st))(h:tE X (bh F fs) σ H Q):V2 (WT X F) (SQ X fs) σ H Q:=by
 walk_at "2"
 exact⟨μ,ρ,st,l,RK.bind h l fun μ1 st1 x v H1 p1 x1 l1 q1 h1=>⟨μ1,st1,x,l1.sto,q1,tI h1 (n _ _)⟩⟩
theorem nN{id:String}(hc:pL X (.builtin id) F)(hm:X.mg x=none)(hv:bootBuiltins x=some (.builtin id))(ha:SA X (e::es) fs)(hg:Gl X x:=by rfl)(hn:x ≠ "__name__":=by decide)(JZ:(x==("__debug__":Str))=false:=by decide)
  (he:starEach (e::es) X.env=(false,eval e X.env)::starEach es X.env:=by rfl) (lU:(backTo pos (starEach es X.env)).any (·.1)=false:=by rfl):SE X (.Call (.Name x p) (e::es) [] pos) (bh F fs):=⟨(pG hc.h hg hm hv ha.h hn JZ he lU).imp fun _ _ _ h=>DT hc.n h⟩
theorem vM(hc:pL X (.type T) F)(hm:X.mg x=none)(hv:bootBuiltins x=some (.type T))(ha:SA X (e::es) fs)(hg:Gl X x:=by rfl)(hn:x ≠ "__name__":=by decide)(JZ:(x==("__debug__":Str))=false:=by decide)
  (he:starEach (e::es) X.env=(false,eval e X.env)::starEach es X.env:=by rfl) (lU:(backTo pos (starEach es X.env)).any (·.1)=false:=by rfl):SE X (.Call (.Name x p) (e::es) [] pos) (bh F fs):=⟨(EQ hc.h hg hm hv ha.h hn JZ he lU).imp fun _ _ _ h=>DT hc.n h⟩
theorem RelWs.two{a b:W}(r:RelWs K μ H [a,b] vs):∃x y,vs=[x,y]/\bO K μ H a x/\bO K μ H b y:=by
 obtain⟨x,xs,rfl,rx,rn⟩:=r.consE
 obtain⟨y,ys,rfl,ry,rm⟩:=rn.consE
 rw[rm.nilE];exact⟨x,y,rfl,rx,ry⟩
theorem RelWs.one{a:W}(r:RelWs K μ H [a] vs):∃x,vs=[x]/\bO K μ H a x:=by
 obtain⟨x,xs,rfl,rx,rn⟩:=r.consE
 rw[rn.nilE];exact⟨x,rfl,rx⟩
def cP(ws:List W)(st:List am):R W:=match ws with
 |[.tup xs]=>.ok (.int xs.length) st
 |[.str l]=>if l.length<=m5 then .ok (.int l.length) st else .bad
 |[.loc n]=>tL (lstOf st n) fun xs=>.ok (.int xs.length) st
 |_=>.bad
theorem DU:pL X (.builtin "len") cP:=⟨fun ak s σ H vs us Q I rv zq=>by
 obtain⟨μ,st,ws,S,r,q⟩:=zq
 unfold cP at q
 split at q
 ·obtain⟨x,rfl,rx⟩:=r.one
  obtain⟨p,ys,rfl,hS,r'⟩:=rx.tupE
  exact rK ak s σ H _ us Q I rv ⟨p,ys,rfl,.inr hS,by rw[<- r'.len];exact k_ S q⟩
 ·obtain⟨x,rfl,rx⟩:=r.one
  split at q
  ·rename_i c
   exact yK ak s σ H _ us Q I rv ⟨_,by rw[rx.strE],by rw[jc];exact pH c,by rw[jc];exact k_ S q⟩
  ·exact q.elim
 ·obtain⟨x,rfl,rx⟩:=r.one
  unfold tL at q
  split at q
  ·rename_i ys e0
   obtain⟨a,vs,g,hS,r'⟩:=S.lstOf e0
   obtain⟨b1,f1,rfl⟩:=rx.locE
   rw[g]at f1;cases f1
   exact rK ak s σ H _ us Q I rv ⟨_,vs,rfl,.inl hS,by rw[<- r'.len];exact k_ S q⟩
  ·exact q.elim
 ·exact q.elim,fun ws st=>by
 unfold cP tL
 repeat' split
 all_goals trivial⟩
noncomputable def Cr(ws:List W)(st:List am):R W:=match ws with
 |[.int i,.int j]=>.ok (.int (if j>i then j else i)) st
 |_=>.bad
noncomputable def E9(ws:List W)(st:List am):R W:=match ws with
 |[.int i,.int j]=>.ok (.int (if j<i then j else i)) st
 |_=>.bad
theorem Tl(hc:X.calm=true:=by rfl):pL X (.builtin "max") Cr:=⟨fun ak s σ H vs us Q I rv zq=>by
 obtain⟨μ,st,ws,S,r,q⟩:=zq
 unfold Cr at q
 split at q
 ·obtain⟨x,y,rfl,rx,ry⟩:=r.two
  exact EJ hc ak s σ H _ us Q I rv ⟨_,_,by rw[rx.intE,ry.intE],k_ S q⟩
 ·exact q.elim,fun ws st=>by unfold Cr;split<;>trivial⟩
theorem Tm(hc:X.calm=true:=by rfl):pL X (.builtin "min") E9:=⟨fun ak s σ H vs us Q I rv zq=>by
 obtain⟨μ,st,ws,S,r,q⟩:=zq
 unfold E9 at q
 split at q
 ·obtain⟨x,y,rfl,rx,ry⟩:=r.two
  exact EK hc ak s σ H _ us Q I rv ⟨_,_,by rw[rx.intE,ry.intE],k_ S q⟩
 ·exact q.elim,fun ws st=>by unfold E9;split<;>trivial⟩
def ij(ws:List W)(st:List am):R W:=match ws with
 |[.tup xs]=>.ok (.tup xs) st
 |[.loc n]=>tL (lstOf st n) fun xs=>.ok (.tup xs) st
 |_=>.bad
theorem K7:pL X (.type "tuple") ij:=⟨fun ak s σ H vs us Q I rv zq=>by
 obtain⟨μ,st,ws,S,r,q⟩:=zq
 unfold ij at q
 split at q
 ·obtain⟨x,rfl,rx⟩:=r.one
  obtain⟨p,ys,rfl,hS,r'⟩:=id rx.tupE
  exact Aa ak s σ H _ us Q I rv ⟨p,ys,rfl,hS,q μ _ H (ao _) eV.refl S rx⟩
 ·obtain⟨x,rfl,rx⟩:=r.one
  unfold tL at q
  split at q
  ·rename_i ys e0
   obtain⟨a,vs,g,hS,r'⟩:=S.lstOf e0
   obtain⟨b1,f1,rfl⟩:=rx.locE
   rw[g]at f1;cases f1
   refine Ae ak s σ H _ us Q I rv ⟨_,vs,rfl,hS,fun l H2 hl e=>?_⟩
   subst e
   have x:=fU.same (K:=X.K) (cG hl (.tup vs))
   exact q μ _ _ (ao _) x (S.same (cG hl _)) (.tupI fU.new (r'.mono (ao _) x))
  ·exact q.elim
 ·exact q.elim,fun ws st=>by
 unfold ij tL
 repeat' split
 all_goals trivial⟩
def xS(ws:List W)(st:List am):R W:=match ws with
 |[.tup xs]=>.ok (.loc st.length) (st++[.lst xs])
 |[.loc n]=>tL (lstOf st n) fun xs=>.ok (.loc st.length) (st++[.lst xs])
 |_=>.bad
theorem Pq:pL X (.type "list") xS:=⟨fun ak s σ H vs us Q I rv zq=>by
 obtain⟨μ,st,ws,S,r,q⟩:=zq
 unfold xS at q
 split at q
 ·obtain⟨x,rfl,rx⟩:=r.one
  obtain⟨p,ys,rfl,hS,r'⟩:=id rx.tupE
  refine vB ak s σ H _ us Q I rv ⟨p,ys,rfl,.inr hS,fun l H2 hl e=>?_⟩
  subst e
  exact q (μ++[l]) _ _ (aX _ _) (fU.same (cG hl _)) (S.newLst hl r') (pJ S)
 ·obtain⟨x,rfl,rx⟩:=r.one
  unfold tL at q
  split at q
  ·rename_i ys e0
   obtain⟨a,vs,g,hS,r'⟩:=S.lstOf e0
   obtain⟨b1,f1,rfl⟩:=rx.locE
   rw[g]at f1;cases f1
   refine vB ak s σ H _ us Q I rv ⟨_,vs,rfl,.inl hS,fun l H2 hl e=>?_⟩
   subst e
   exact q (μ++[l]) _ _ (aX _ _) (fU.same (cG hl _)) (S.newLst hl r') (pJ S)
  ·exact q.elim
 ·exact q.elim,fun ws st=>by
 unfold xS tL
 repeat' split
 all_goals trivial⟩
noncomputable def E_(ws:List W)(st:List am):R W:=match ws with
 |[.int i]=>.ok (.int i) st
 |[.bl k]=>.ok (.int (if k then 1 else 0)) st
 |_=>.bad
theorem Mn:pL X (.type "int") E_:=⟨fun ak s σ H vs us Q I rv zq=>by
 obtain⟨μ,st,ws,S,r,q⟩:=zq
 unfold E_ at q
 split at q
 ·obtain⟨x,rfl,rx⟩:=r.one
  exact xH ak s σ H _ us Q I rv (.inl ⟨_,by rw[rx.intE],k_ S q⟩)
 ·obtain⟨x,rfl,rx⟩:=r.one
  exact xH ak s σ H _ us Q I rv (.inr ⟨_,by rw[rx.blE],k_ S q⟩)
 ·exact q.elim,fun ws st=>by unfold E_;split<;>trivial⟩
end
section
variable{a b c:Expr}{fb fc:FE}{fs:FA}{ft:FT}{st1:Stmt}{sr sa sb:List Stmt}{g g':FS}
def aE(g g':FS):FS:=fun ρ st=>match g ρ st with
 |.nx ρ' be=>g' ρ' be
 |r=>r
def bI:FS:=fun ρ st=>.nx ρ st
theorem vN:SB X [] bI:=⟨Kj.imp fun D σ H h=>by
 walk_at "2"
 exact h μ σ H (ao _) eV.refl l⟩
theorem jF(h1:SS X st1 g):SB X [st1] g:=⟨Kk h1.h⟩
theorem km(h1:SS X st1 g)(h2:SB X sr g'):SB X (st1::sr) (aE g g'):=⟨(FZ h1.h h2.h).imp fun D σ H h=>by
 walk_at "2"
 refine⟨μ,ρ,st,l,?_⟩
 unfold aE at h
 cases e:g ρ st with
 |nx ρ' be=>rw[e]at h;exact fun μ' σ' H' p x l'=>⟨μ',ρ',be,l',SK.mono h p x⟩
 |rt w be=>rw[e]at h;exact h
 |bk ρ' be=>rw[e]at h;exact h
 |ct ρ' be=>rw[e]at h;exact h
 |ex c ρ' be=>rw[e]at h;exact h
 |bad=>rw[e]at h;exact h⟩
def Ct:FS:=fun ρ st=>.bk ρ st
def GR:FS:=fun ρ st=>.ct ρ st
theorem GS:SS X (.Break pos) Ct:=⟨F0.imp fun D σ H h=>by
 walk_at "2"
 exact h μ σ H (ao _) eV.refl l⟩
theorem Az:SS X (.Continue pos) GR:=⟨z_.imp fun D σ H h=>by
 walk_at "2"
 exact h μ σ H (ao _) eV.refl l⟩
def R.stmt(r:R α)(ρ:cf)(k:α->List am->RS):RS:=match r with
 |.ok a st=>k a st
 |.ex c st=>.ex c ρ st
 |.bad=>.bad
@[simp] theorem R.stmt_ok{α:Type}(a:α)(st:List am)(ρ:cf)(k:α->List am->RS):(R.ok a st).stmt ρ k=k a st:=rfl
theorem RK.stmt{rel:List Addr->Hp->α->β->Prop}{D:yF}{r:R α}{k:α->List am->RS}{T:β->Hp->Prop}
  (h:SK X μ H D (r.stmt ρ k)) (l:Rl X μ ρ st σ H)
  (hk:∀μ' be x v H',μ <+: μ'->eV X.K H H'->Rl X μ' ρ be σ H'->rel μ' H' x v->SK X μ' H' D (k x be)->T v H'):RK X rel μ σ H T r:=by
 cases r with
 |ok a be=>exact fun μ' b H' p x s q=>hk μ' be a b H' p x (l.to p x s) q (SK.mono h p x)
 |ex c be=>exact XS.toE h l
 |bad=>exact h
def cv(fe:FE):FS:=fun ρ st=>(fe ρ st).stmt ρ fun _ st=>.nx ρ st
theorem nO(he:SE X e fe)(hs:swapsWith e none pos.line X.env=pure false:=by rfl):SS X (.Expr e pos) (cv fe):=⟨(Kl he.h hs).imp fun D σ H h=>by
 walk_at "2"
 exact⟨μ,ρ,st,l,RK.stmt h l fun μ1 st1 x v H1 p1 x1 l1 q1 h1=>h1 μ1 σ H1 (ao _) eV.refl l1⟩⟩
def cn(fe:FE):FS:=fun ρ st=>(fe ρ st).stmt ρ fun w st=>.rt w st
theorem Cu(he:SE X e fe):SS X (.Return (some e) pos) (cn fe):=⟨(Oo he.h).imp fun D σ H h=>by
 walk_at "2"
 exact⟨μ,ρ,st,l,RK.stmt h l fun μ1 st1 x v H1 p1 x1 l1 q1 h1=>h1 μ1 v H1 (ao _) eV.refl l1.sto q1⟩⟩
def eW(t:FT)(g g':FS):FS:=fun ρ st=>(t ρ st).stmt ρ fun k st=>if k then g ρ st else g' ρ st
theorem AA(hc:ST X c ft)(ha:SB X sa g)(hb:SB X sb g'):SS X (.If c sa sb pos) (eW ft g g'):=⟨(R3 hc.h ha.h hb.h).imp fun D σ H h=>by
 walk_at "2"
 refine⟨μ,ρ,st,l,RK.stmt h l fun μ1 st1 x v H1 p1 x1 l1 q1 h1=>?_⟩
 cases q1
 cases x with
 |true=>exact⟨μ1,ρ,st1,l1,h1⟩
 |false=>exact⟨μ1,ρ,st1,l1,h1⟩⟩
abbrev FG:=W->cf->Option cf
abbrev Mo:=List W->cf->Option cf
def Tn(X:Cx)(f:FG):TG:=fun v σ H Q=>∃μ ρ st w ρ',Rl X μ ρ st σ H/\bO X.K μ H w v/\f w ρ=some ρ'/\∀σ',Rl X μ ρ' st σ' H->Q σ' H
def Wo(X:Cx)(f:Mo):Km:=fun vs σ H Q=>∃μ ρ st ws ρ',Rl X μ ρ st σ H/\RelWs X.K μ H ws vs/\f ws ρ=some ρ'/\∀σ',Rl X μ ρ' st σ' H->Q σ' H
theorem PG.imp{t t':TG}(h:PG X e t)(i:∀v σ H Q,t' v σ H Q->t v σ H Q):PG X e t':=fun ak s σ H x u Q I r q=>h ak s σ H x u Q I r (i _ _ _ _ q)
theorem Ma.imp{e:List Expr}{t t':Km}(h:Ma X e t)(i:∀v σ H Q,t' v σ H Q->t v σ H Q):Ma X e t':=fun ak s σ H x u Q I r q=>h ak s σ H x u Q I r (i _ _ _ _ q)
structure SG(X:Cx)(e:Expr)(f:FG):Prop where
 h:PG X e (Tn X f)
structure Vm(X:Cx)(e:List Expr)(f:Mo):Prop where
 h:Ma X e (Wo X f)
def iP(i:Nat):FG:=fun w ρ=>some (ρ.set i (some w))
theorem DV(hN:X.N.Nodup)(hi:X.N[i]?=some x)(hx:J3 X.env.scope x)(hf:X.fn x=true\/X.env.scope.names.lookup x=some .local:=by first|exact .inl rfl|exact .inr rfl|assumption):SG X (.Name x pos) (iP i):=⟨(Ko hN hi hx hf).imp fun v σ H Q h=>by
 obtain⟨μ,ρ,st,w,ρ',l,r,e,q⟩:=h
 cases e
 exact q _ ⟨rN r i l.env,l.sto⟩⟩
def mx:Mo:=fun ws ρ=>match ws with
 |[]=>some ρ
 |_=>none
def dN(f:FG)(fs:Mo):Mo:=fun ws ρ=>match ws with
 |w::ws=>(f w ρ).bind fun ρ'=>fs ws ρ'
 |[]=>none
theorem K8:Vm X [] mx:=⟨Kp.imp fun vs σ H Q h=>by
 obtain⟨μ,ρ,st,ws,ρ',l,r,e,q⟩:=h
 cases ws with
 |nil=>cases e;exact⟨r.nilE,q σ l⟩
 |cons _ _=>cases e⟩
theorem GT{f:FG}{fs:Mo}(h1:SG X e f)(h2:Vm X es fs)(hs:(assignEach (e::es) X.env).map (·.2)=assign e X.env::(assignEach es X.env).map (·.2):=by rfl):Vm X (e::es) (dN f fs):=⟨(F2 h1.h h2.h hs).imp fun vs σ H Q h=>by
 obtain⟨μ,ρ,st,ws,ρ',l,r,e,q⟩:=h
 cases ws with
 |nil=>cases e
 |cons w ws=>
  obtain⟨x,xs,rfl,rx,rs⟩:=r.consE
  simp only[dN]at e
  cases e1:f w ρ with
  |none=>rw[e1]at e;cases e
  |some ρ1=>
   rw[e1]at e
   exact⟨x,xs,rfl,μ,ρ,st,w,ρ1,l,rx,e1,fun σ1 l1=>⟨μ,ρ1,st,ws,ρ',l1,rs,e,q⟩⟩⟩
def Cv(n:Nat)(fs:Mo):FG:=fun w ρ=>match w with
 |.tup ws=>if ws.length=n then fs ws ρ else none
 |_=>none
theorem Pr{k:Nat}{fs:Mo}(hc:X.calm=true)(h:Vm X es fs)(hn:(assignEach es X.env).length=n:=by rfl)(n_:(assignEach es X.env).findIdx? (·.1)=none:=by rfl):SG X (.Tuple es k pos) (Cv n fs):=⟨(Op hc h.h hn n_).imp fun v σ H Q h=>by
 obtain⟨μ,ρ,st,w,ρ',l,r,e,q⟩:=h
 cases w with
 |tup ws=>
  obtain⟨p,vs,rfl,hS,rs⟩:=r.tupE
  simp only[Cv]at e
  by_cases c:ws.length=n
  ·rw[aD c]at e
   exact⟨p,vs,rfl,hS,by rw[<- rs.len];exact c,μ,ρ,st,ws,ρ',l,rs,e,q⟩
  ·rw[aQ c]at e;cases e
 |_=>cases e⟩
def rd(fe:FE)(f:FG):FS:=fun ρ st=>(fe ρ st).stmt ρ fun w st=>match f w ρ with
 |some ρ'=>.nx ρ' st
 |none=>.bad
theorem To{f:FG}{D:yF}(h:Vl X (rd fe f) D σ H):F3 (tE X fe) (Tn X f) D σ H:=by
 walk_at "2"
 refine⟨μ,ρ,st,l,RK.stmt h l fun μ1 st1 x v H1 p1 x1 l1 q1 h1=>?_⟩
 cases e1:f x ρ with
 |none=>rw[e1]at h1;exact h1.elim
 |some ρ'=>rw[e1]at h1;exact⟨μ1,ρ,st1,x,ρ',l1,q1,e1,fun σ' l'=>h1 μ1 σ' H1 (ao _) eV.refl l'⟩
theorem Ps{f:FG}(he:SE X e fe)(hg:SG X tg f)(hs:swapsWithSole [tg] e pos.line X.env=pure false:=by rfl)(hw:swappedStores [tg] e X.env=pure none:=by rfl)(h1:(assignEach [tg] X.env).map (·.2)=[assign tg X.env]:=by rfl):SS X (.Assign [tg] e pos) (rd fe f):=⟨(F4 he.h hg.h hs hw h1).imp fun D σ H h=>To h⟩
def a9(i:Nat)(fe:FE):FS:=fun ρ st=>(fe ρ st).stmt ρ fun w st=>.nx (ρ.set i (some w)) st
theorem Pt(hN:X.N.Nodup)(hi:X.N[i]?=some x)(hx:J3 X.env.scope x)(he:SE X e fe)(hs:swapsWith e (some (.Name x iI)) pos.line X.env=pure false:=by rfl)(hf:X.fn x=true\/X.env.scope.names.lookup x=some .local:=by first|exact .inl rfl|exact .inr rfl|assumption) :
  SS X (.Assign [.Name x iI] e pos) (a9 i fe):=⟨(Os hN hi hx he.h hs hf).imp fun D σ H h=>by
 walk_at "2"
 exact⟨μ,ρ,st,l,RK.stmt h l fun μ1 st1 x v H1 p1 x1 l1 q1 h1=>h1 μ1 _ H1 (ao _) eV.refl ⟨rN q1 i l1.env,l1.sto⟩⟩⟩
def qC(x i v:W)(st:List am):Option (List am):=match x,i with
 |.loc n,.int k=>(match st[n]? with
  |some (.lst ws)=>(DC ws.length k).map fun j=>st.set n (.lst (ws.set j v))
  |_=>none)
 |_,_=>none
def AB(fo fi fe:FE)(f:W->W->W->List am->Option (List am)):FS:=fun ρ st=>(fe ρ st).stmt ρ fun v st=>(fo ρ st).stmt ρ fun x st=>(fi ρ st).stmt ρ fun i st=>match f x i v st with
 |some be=>.nx ρ be
 |none=>.bad
def Mp(X:Cx)(f:W->W->W->List am->Option (List am)):Kn:=fun o i v H Q=>∃μ st wo wi wv be,jd X.K X.mg μ st H/\bO X.K μ H wo o/\bO X.K μ H wi i/\bO X.K μ H wv v/\f wo wi wv st=some be/\∀H',eV X.K H H'->jd X.K X.mg μ be H'->Q H'
theorem Pu:F1 X (Mp X qC):=fun ak s σ H o i v ov iv u Q I r1 r2 r3 zq=>by
 obtain⟨μ,st,wo,wi,wv,be,S,ro,ri,rv,e,q⟩:=zq
 cases wo with
 |loc n=>
  cases wi with
  |int k=>
   simp only[qC]at e
   cases e1:st[n]? with
   |none=>rw[e1]at e;cases e
   |some cc=>
    rw[e1]at e
    cases cc with
    |lst ws=>
     simp only at e
     cases e2:DC ws.length k with
     |none=>rw[e2]at e;cases e
     |some jj=>
      rw[e2]at e
      cases e
      obtain⟨a1,g1,vs,k1,r⟩:=S.get e1
      obtain⟨b1,f1,rfl⟩:=ro.locE
      rw[g1]at f1;cases f1
      refine EX ak s σ H _ i v ov iv u Q I r1 r2 r3 ⟨a1,vs,k,jj,rfl,ri.intE,k1,by rw[<- r.len];exact e2,fun H2 eH=>?_⟩
      subst eH
      exact q _ (fU.but ml k1) (S.set e1 g1 k1 (r.setI jj rv))
    |_=>cases e
  |_=>cases e
 |_=>cases wi<;>cases e
theorem Pv{f:W->W->W->List am->Option (List am)}{i:Expr}{fi:FE}(RA:F1 X (Mp X f))(he:SE X e fe)(ho:SE X o fo)(hi:SE X i fi)
  (ha:∀v,assign (.Subscript o i iI) X.env v=(do
   let ov <- holding [v] (eval o X.env)
   let iv <- holding [v,ov] (eval i X.env)
   standAt iI
   holding [v,ov,iv] (setItem ov iv v)
   release [v,ov,iv] []):=by intro _;rfl)
  (hs:swapsWithSole [.Subscript o i iI] e pos.line X.env=pure false:=by rfl) (hw:swappedStores [.Subscript o i iI] e X.env=pure none:=by rfl) (h1:(assignEach [.Subscript o i iI] X.env).map (·.2)=[assign (.Subscript o i iI) X.env]:=by rfl) :
  SS X (.Assign [.Subscript o i iI] e pos) (AB fo fi fe f):=⟨(F4 he.h (Oq ho.h hi.h RA ha) hs hw h1).imp fun D σ H h=>by
 walk_at "2"
 refine⟨μ,ρ,st,l,RK.stmt h l fun μ1 st1 v vv H1 p1 x1 l1 q1 h1=>⟨μ1,ρ,st1,l1,RK.stmt h1 l1 fun μ2 cW x xv H2 p2 x2 l2 q2 h2=>⟨μ2,ρ,cW,l2,RK.stmt h2 l2 fun μ3 mF i iv H3 p3 x3 l3 q3 h3=>?_⟩⟩⟩
 cases e1:f x i v mF with
 |none=>rw[e1]at h3;exact h3.elim
 |some be=>
  rw[e1]at h3
  exact⟨μ3,mF,x,i,v,be,l3.sto,q2.mono p3 x3,q3,(q1.mono p2 x2).mono p3 x3,e1,fun H' xx S'=>h3 μ3 σ H' (ao _) xx (l3.to (ao _) xx S')⟩⟩
end
def kZ(st:List am):Option (Nat×List W)->Prop
 |none=>True
 |some (n,ws)=>lstOf st n=some ws
noncomputable abbrev GU:=List W×Option (Nat×List W)
abbrev FI:=cf->List am->R GU
def Cw(X:Cx)(J:It)(k:GU)(μ:List Addr)(H:Hp):Prop:=
 ∀(i:Nat) μ' be H',μ <+: μ'->eV X.K H H'->jd X.K X.mg μ' be H'->kZ be k.2 ->
  (∀w,k.1[i]?=some w->J.go i H'/\∀x H'',J.yld i H' x H''->eV X.K H' H''/\jd X.K X.mg μ' be H''/\bO X.K μ' H'' w x)/\(k.1.length<=i->J.stop i H')
abbrev Tp(X:Cx):List Addr->Hp->GU->It->Prop:=fun μ H k J=>Cw X J k μ H
structure SI(X:Cx)(tg it:Expr)(f:FI):Prop where
 h:PI X tg it (fun σ H R=>tG X (Tp X) f σ H R)
theorem PI.imp{it:Expr}{t t':TI}(h:PI X tg it t)(i:∀σ H Q,t' σ H Q->t σ H Q):PI X tg it t':=fun ak s σ H Q I q=>h ak s σ H Q I (i _ _ _ q)
open Classical in
def rQ(f:FG)(body:FS)(ck:Option (Nat×List W)):List W->FS
 |[],ρ,st=>if kZ st ck then .nx ρ st else .bad
 |w::ws,ρ,st=>if kZ st ck then(match f w ρ with
  |none=>.bad
  |some ρ'=>(match body ρ' st with
   |.nx ρ2 cW=>rQ f body ck ws ρ2 cW
   |.ct ρ2 cW=>rQ f body ck ws ρ2 cW
   |.bk ρ2 cW=>.nx ρ2 cW
   |.rt w cW=>.rt w cW
   |.ex c ρ2 cW=>.ex c ρ2 cW
   |.bad=>.bad))else .bad
def lv(fi:FI)(f:FG)(body:FS):FS:=fun ρ st=>(fi ρ st).stmt ρ fun k st=>rQ f body k.2 k.1 ρ st
section
variable{a b c:Expr}{fb:FE}{fs:FA}{ft:FT}{body:List Stmt}{g:FS}{f:FG}{fi:FI}
theorem Pw(hi:SI X tg dA fi)(hg:SG X tg f)(hb:SB X body g)(hc:X.calm=true:=by rfl)(hp:PassesOwn #[5] X.A X.env X.xe:=by passes_own)(hs:∀x,foldedSetIterable dA X.env x=pure x:=by intro _;rfl):SS X (.For tg dA body [] pos) (lv fi f g):=⟨(Ou hp hc hi.h hg.h hb.h hs).imp fun D σ H h=>by
 walk_at "2"
 refine⟨μ,ρ,st,l,RK.stmt h l fun μ1 st1 k J H1 p1 x1 l1 wk h1=>?_⟩
 refine⟨fun i m σ' H'=>i<=k.1.length/\m=k.1.length-i/\∃μ' ρ' be,μ1 <+: μ'/\eV X.K H1 H'/\Rl X μ' ρ' be σ' H'/\SK X μ' H' D (rQ f g k.2 (k.1.drop i) ρ' be),
  ⟨_,b7 _,rfl,μ1,ρ,st1,ao _,eV.refl,l1,h1⟩,?_⟩
 rintro i m σ' H' ⟨hi,rfl,μ',ρ',be,pm,xm,lm,hm⟩
 by_cases hlt:i<k.1.length
 ·rw[fD hlt]at hm
  unfold rQ at hm
  by_cases ck:kZ be k.2
  ·rw[aD ck]at hm
   obtain⟨go,yld⟩:=(wk i μ' be H' pm xm lm.sto ck).1 _ (al hlt)
   cases hf:f k.1[i] ρ' with
   |none=>rw[hf]at hm;exact hm.elim
   |some ρ2=>
    rw[hf]at hm
    simp only at hm
    refine .inr ⟨go,fun σ2 H2=>∃μ2 ρ3 cW,μ' <+: μ2/\eV X.K H' H2/\Rl X μ2 ρ3 cW σ2 H2/\SK X μ2 H2 D (rQ f g k.2 (k.1.drop (i+1)) ρ3 cW),fun σ2 H2 ⟨μ2,ρ3,cW,q1,q2,q3,q4⟩=>
     ⟨_,by omega,hlt,rfl,μ2,ρ3,cW,pm.trans q1,xm.trans q2,q3,q4⟩,fun x H2 hy=>?_⟩
    obtain⟨y1,y2,y3⟩:=yld x H2 hy
    refine⟨μ',ρ',be,k.1[i],ρ2,lm.to (ao _) y1 y2,y3,hf,fun σ2 l2=>⟨μ',ρ2,be,l2,?_⟩⟩
    cases e:g ρ2 be with
    |nx ρ3 mF=>rw[e]at hm;exact fun μ4 σ4 H4 p4 x4 l4=>⟨μ4,ρ3,mF,p4,y1.trans x4,l4,SK.mono hm p4 (y1.trans x4)⟩
    |ct ρ3 mF=>rw[e]at hm;exact fun μ4 σ4 H4 p4 x4 l4=>⟨μ4,ρ3,mF,p4,y1.trans x4,l4,SK.mono hm p4 (y1.trans x4)⟩
    |bk ρ3 mF=>rw[e]at hm;exact fun μ4 σ4 H4 p4 x4 l4=>hm μ4 σ4 H4 p4 (y1.trans x4) l4
    |rt w mF=>rw[e]at hm;exact fun μ4 v4 H4 p4 x4=>hm μ4 v4 H4 p4 (y1.trans x4)
    |ex c ρ3 mF=>rw[e]at hm;exact XS.mono hm (ao _) y1
    |bad=>rw[e]at hm;exact hm
  ·rw[aQ ck]at hm;exact hm.elim
 ·have hi':i=k.1.length:=by omega
  subst hi'
  rw[oo (ax _)]at hm
  unfold rQ at hm
  by_cases ck:kZ be k.2
  ·rw[aD ck]at hm
   exact .inl ⟨(wk _ μ' be H' pm xm lm.sto ck).2 (ax _),hm μ' σ' H' (ao _) eV.refl lm⟩
  ·rw[aQ ck]at hm;exact hm.elim⟩
def d6(t:FT)(body:FS):Nat->FS
 |0,_,_=>.bad
 |n+1,ρ,st=>(t ρ st).stmt ρ fun k st=>if k then(match body ρ st with
   |.nx ρ2 cW=>d6 t body n ρ2 cW
   |.ct ρ2 cW=>d6 t body n ρ2 cW
   |.bk ρ2 cW=>.nx ρ2 cW
   |.rt w cW=>.rt w cW
   |.ex c ρ2 cW=>.ex c ρ2 cW
   |.bad=>.bad)else .nx ρ st
open Classical in
def pM(t:FT)(body:FS):FS:=fun ρ st=>if h:∃n,d6 t body n ρ st≠.bad then d6 t body h.choose ρ st else .bad
theorem pN(t:FT)(g:FS):∀(n:Nat) (ρ:cf) (st:List am),d6 t g n ρ st≠.bad->d6 t g (n+1) ρ st=d6 t g n ρ st
 |0,_,_,h=>absurd rfl h
 |n+1,ρ,st,h=>by
  unfold d6 at h ⊢
  cases e:t ρ st with
  |ex c st1=>rfl
  |bad=>rfl
  |ok k st1=>
   rw[e]at h
   simp only[R.stmt_ok]at h ⊢
   cases k with
   |false=>rfl
   |true=>
    simp only[fM]at h ⊢
    cases e2:g ρ st1 with
    |nx ρ2 cW=>rw[e2]at h;exact pN t g n ρ2 cW h
    |ct ρ2 cW=>rw[e2]at h;exact pN t g n ρ2 cW h
    |_=>rfl
theorem xU{n m:Nat}(h:d6 t g n ρ st≠.bad)(hm:n<=m):d6 t g m ρ st=d6 t g n ρ st:=by
 induction hm with
 |refl=>rfl
 |@step m _ ih=>rw[pN t g m ρ st (by rw[ih];exact h),ih]
theorem xV{r:RS}(h:d6 t g n ρ st=r)(hr:r≠.bad):pM t g ρ st=r:=by
 have hx:∃n,d6 t g n ρ st≠.bad:=⟨n,by rw[h];exact hr⟩
 unfold pM
 rw[dif_pos hx]
 have c:=hx.choose_spec
 have a:=xU c (Nat.le_max_left hx.choose n)
 have b:=xU (n:=n) (m:=max hx.choose n) (by rw[h];exact hr) (Nat.le_max_right _ _)
 rw[<- a,b,h]
theorem AC{D:yF}:∀(n:Nat) (σ:St) (H:Hp) (μ:List Addr) (ρ:cf) (st:List am),Rl X μ ρ st σ H->SK X μ H D (d6 t g n ρ st)->F5 (tT X t) (Vl X g) D σ H:=by
 intro n σ H μ ρ st l h
 refine⟨fun m σ' H'=>∃μ' ρ' be,Rl X μ' ρ' be σ' H'/\SK X μ' H' D (d6 t g m ρ' be),⟨n,μ,ρ,st,l,h⟩,?_⟩
 rintro m σ' H' ⟨μ',ρ',be,l',h'⟩
 cases m with
 |zero=>exact h'.elim
 |succ m=>
  refine⟨μ',ρ',be,l',RK.stmt h' l' fun μ1 st1 k v H1 p1 x1 l1 q1 h1=>?_⟩
  cases q1
  cases k with
  |false=>exact h1 μ1 σ' H1 (ao _) eV.refl l1
  |true=>
   refine⟨fun σ2 H2=>∃μ2 ρ2 cW,Rl X μ2 ρ2 cW σ2 H2/\SK X μ2 H2 D (d6 t g m ρ2 cW),fun σ2 H2 z=>⟨m,bY m,z⟩,μ1,ρ',st1,l1,?_⟩
   simp only[fM]at h1
   cases e:g ρ' st1 with
   |nx ρ3 mF=>rw[e]at h1;exact fun μ4 σ4 H4 p4 x4 l4=>⟨μ4,ρ3,mF,l4,SK.mono h1 p4 x4⟩
   |ct ρ3 mF=>rw[e]at h1;exact fun μ4 σ4 H4 p4 x4 l4=>⟨μ4,ρ3,mF,l4,SK.mono h1 p4 x4⟩
   |bk ρ3 mF=>rw[e]at h1;exact h1
   |rt w mF=>rw[e]at h1;exact h1
   |ex c ρ3 mF=>rw[e]at h1;exact h1
   |bad=>rw[e]at h1;exact h1
theorem GV(hc:ST X c t)(hb:SB X body g)(hp:PassesOwn #[5] X.A X.env X.xe:=by passes_own):SS X (.While c body [] pos) (pM t g):=⟨(F6 hp hc.h hb.h).imp fun D σ H h=>by
 walk_at "2"
 unfold pM at h
 by_cases hx:∃n,d6 t g n ρ st≠.bad
 ·rw[dif_pos hx]at h;exact AC _ σ H μ ρ st l h
 ·rw[dif_neg hx]at h;exact h.elim⟩
def GW(fe:FE):FI:=fun ρ st=>(fe ρ st).bind fun x st=>match x with
 |.tup ws=>.ok (ws,none) st
 |_=>.bad
theorem GX(he:SE X e fe):SI X tg e (GW fe):=⟨(Ot he.h).imp fun σ H R h=>by
 walk_at "2"
 walk_at "1"
 cases x with
 |tup ws=>
  obtain⟨p,vs,rfl,hS,r⟩:=q1.tupE
  refine⟨p,rfl,⟨vs,hS⟩,h1 μ1 _ H1 (ao _) eV.refl l1.sto fun i μ' be H' pp xx S _=>⟨fun w hw=>?_,fun hl=>⟨vs,xx _ _ hS,by rw[<- r.len];exact hl⟩⟩⟩
  have r':=r.mono pp xx
  obtain⟨v,g1,g2⟩:=r'.get hw
  refine⟨⟨vs,v,xx _ _ hS,g1⟩,fun y H'' hy=>?_⟩
  obtain⟨rfl,hy⟩:=hy
  have:=hy vs (xx _ _ hS)
  rw[g1]at this;cases this
  exact⟨eV.refl,S,g2⟩
 |_=>exact h1.elim⟩
def Mq(fe:FE):FI:=fun ρ st=>(fe ρ st).bind fun x st=>match x with
 |.loc n=>(match lstOf st n with
  |some ws=>.ok (ws,some (n,ws)) st
  |none=>.bad)
 |_=>.bad
theorem Px(he:SE X e fe):SI X tg e (Mq fe):=⟨(Kq he.h).imp fun σ H R h=>by
 walk_at "2"
 walk_at "1"
 cases x with
 |loc n=>
  obtain⟨a,ha,rfl⟩:=q1.locE
  simp only at h1
  cases e1:lstOf st1 n with
  |none=>rw[e1]at h1;exact h1.elim
  |some ws=>
   rw[e1]at h1
   obtain⟨a',vs0,g0,hS0,r0⟩:=l1.sto.lstOf e1
   rw[ha]at g0;cases g0
   refine⟨a,rfl,⟨vs0,hS0⟩,h1 μ1 _ H1 (ao _) eV.refl l1.sto fun i μ' be H' pp xx S ck=>?_⟩
   obtain⟨a2,vs,g2,hS,r⟩:=S.lstOf (show lstOf be n=some ws from ck)
   have:μ'[n]?=some a:=pre_get pp ha
   rw[g2]at this;cases this
   refine⟨fun w hw=>?_,fun hl=>⟨vs,hS,by rw[<- r.len];exact hl⟩⟩
   obtain⟨v,g1,g3⟩:=r.get hw
   refine⟨⟨vs,v,hS,g1⟩,fun y H'' hy=>?_⟩
   obtain⟨rfl,hy⟩:=hy
   have:=hy vs hS
   rw[g1]at this;cases this
   exact⟨eV.refl,S,g3⟩
 |_=>exact h1.elim⟩
noncomputable def eX(lo:Int)(n:Nat):List W:=(List.range n).map fun(i:Nat)=>W.int (lo+i)
theorem ef(lo:Int)(n:Nat):(eX lo n).length=n:=by simp[eX]
theorem Cy{lo:Int}:Cw X (Vi lo n) (eX lo n,none) μ H:=fun i μ' be H' pp xx S _=>by
 refine⟨fun w hw=>?_,fun hl=>by rw[ef]at hl;exact hl⟩
 have hi:i<n:=by
  have:=(ar.mp hw).1
  rw[ef]at this;exact this
 refine⟨hi,fun y H'' hy=>?_⟩
 obtain⟨rfl,rfl⟩:=hy
 have e:w=.int (lo+i):=by
  unfold eX at hw
  rw[aC,iU hi]at hw
  exact(bq hw).symm
 subst e
 exact⟨eV.refl,S,.int⟩
def dr(fs:FA):FI:=fun ρ st=>(fs ρ st).bind fun ws st=>match ws with
 |[.int j]=>if -(2^62)<=j/\j<2^62 then .ok (eX 0 j.toNat,none) st else .bad
 |_=>.bad
theorem Fa(hm:X.mg "range"=none)(ha:SA X [a] fs)(hg:Gl X "range":=by rfl)(hs:starEach [a] X.env=[(false,eval a X.env)]:=by rfl):SI X tg (.Call (.Name "range" p) [a] [] pos) (dr fs):=⟨(EG hg hm ha.h hs).imp fun σ H R h=>by
 walk_at "2"
 walk_at "1"
 split at h1
 ·obtain⟨y,rfl,ry⟩:=q1.one
  split at h1
  ·rename_i c
   exact⟨_,by rw[ry.intE],c.1,c.2,h1 μ1 _ H1 (ao _) eV.refl l1.sto Cy⟩
  ·exact h1.elim
 ·exact h1.elim⟩
end
end L2
variable{fi:L2.FI}
namespace L2
open PySem PySem.Spec PyProof.Rows
mutual
noncomputable def W.und(n:Nat):W->Bool
 |.loc m=>decide (m<n)
 |.tup ws=>undWs n ws
 |_=>true
noncomputable def undWs(n:Nat):List W->Bool
 |[]=>true
 |w::ws=>w.und n&&undWs n ws
end
def am.und(n:Nat):am->Bool
 |.lst ws=>undWs n ws
 |.ro ws=>undWs n ws
 |.exc _=>true
 |.dct gz=>undWs n (gz.map fun p=>p.2)
 |.rod gz=>undWs n (gz.map fun p=>p.2)
 |.dcx gz=>undWs n (gz.map fun p=>p.2)
 |.rox gz=>undWs n (gz.map fun p=>p.2)
 |.obj _ fs=>undWs n (fs.map fun p=>p.2)
 |.tab _ _ _=>true
 |.pin _ _ _ w=>w.und n
 |.gone=>true
section
mutual
theorem bO.und:∀{w:W} {v:V},bO K μ H w v->w.und μ.length=true
 |.non,_,_=>by simp[W.und]
 |.bl _,_,_=>by simp[W.und]
 |.int _,_,_=>by simp[W.und]
 |.str _,_,_=>by simp[W.und]
 |.tup _,_,r=>by obtain⟨p,vs,_,_,c⟩:=r.tupE;unfold W.und;exact RelWs.und c
 |.loc _,_,r=>by obtain⟨a,e,_⟩:=r.locE;unfold W.und;exact a_ (ar.mp e).1
theorem RelWs.und:∀{ws:List W} {vs:List V},RelWs K μ H ws vs->undWs μ.length ws=true
 |[],_,_=>by unfold undWs;rfl
 |_::_,_,r=>by obtain⟨x,xs,_,b,c⟩:=r.consE;unfold undWs;rw[bO.und b,RelWs.und c];rfl
end
mutual
theorem bO.take:∀{w:W} {v:V},bO K μ H w v->w.und n=true->bO K (μ.take n) H w v
 |.non,_,r,_=>by rw[r.nonE];exact .non
 |.bl _,_,r,_=>by rw[r.blE];exact .bl
 |.int _,_,r,_=>by rw[r.intE];exact .int
 |.str _,_,r,_=>by rw[r.strE];exact .str
 |.tup _,_,r,b=>by obtain⟨p,vs,rfl,h,c⟩:=r.tupE;unfold W.und at b;exact .tupI h (RelWs.takeN c b)
 |.loc _,_,r,b=>by obtain⟨a,e,rfl⟩:=r.locE;unfold W.und at b;exact .locI (by rw[cD (of_decide_eq_true b)];exact e)
theorem RelWs.takeN:∀{ws:List W} {vs:List V},RelWs K μ H ws vs->undWs n ws=true->RelWs K (μ.take n) H ws vs
 |[],_,r,_=>by rw[r.nilE];exact .nilI
 |_::_,_,r,b=>by
  obtain⟨x,xs,rfl,b1,c1⟩:=r.consE
  unfold undWs at b
  rw[cX]at b
  exact .consI (bO.take b1 b.1) (RelWs.takeN c1 b.2)
end
theorem KX.und_w(k:KX)(n:Nat):k.w.und n=true:=by
 have hi:∀ks:List Int,undWs n (ks.map W.int)=true:=fun ks=>by
  induction ks with
  |nil=>rfl
  |cons a l ih=>show(true&&undWs n (l.map W.int))=true;rw[ih];rfl
 cases k with
 |bo b=>rfl
 |fl ks=>unfold KX.w W.und;exact hi ks
 |pr i ks=>unfold KX.w W.und undWs;rw[show(W.int i).und n=true from rfl];unfold undWs;rw[show(W.tup (ks.map W.int)).und n=true by unfold W.und;exact hi ks];rfl
theorem vO:∀{gz:List (KX×W)} {es:List DictEntry},Paired (Ar K μ H) gz es->undWs μ.length (gz.map fun p=>p.2)=true
 |_,_,.nil=>rfl
 |_,_,.cons r t=>by
  obtain⟨_,_,v,h,_⟩:=r
  show(_&&undWs _ _)=true
  rw[h.und,vO t];rfl
theorem tM:∀{gz:List (KX×W)} {es:List DictEntry},Paired (Ar K μ H) gz es->undWs n (gz.map fun p=>p.2)=true->Paired (Ar K (μ.take n) H) gz es
 |_,_,.nil,_=>.nil
 |_,_,.cons r t,b=>by
  obtain⟨a,⟨u,c,d⟩,v,h,g⟩:=r
  have b:(_&&undWs n _)=true:=b
  rw[cX]at b
  exact .cons ⟨a,⟨u,bO.take c (KX.und_w _ n),d⟩,v,bO.take h b.1,g⟩ (tM t b.2)
theorem mw.und{c:am}{a:Addr}(r:mw K mg μ H c a):c.und μ.length=true:=by
 cases c with
 |lst ws=>obtain⟨vs,_,y⟩:=r;exact y.und
 |ro ws=>obtain⟨vs,_,y⟩:=r;exact y.und
 |exc c=>rfl
 |dct gz=>obtain⟨vs,_,y⟩:=r;exact y.und
 |rod gz=>obtain⟨vs,_,_,y⟩:=r;exact y.und
 |dcx gz=>obtain⟨es,_,_,y,_⟩:=r;exact vO y
 |rox gz=>obtain⟨es,_,_,_,y,_⟩:=r;exact vO y
 |obj _ fs=>obtain⟨_,_,vs,_,_,y⟩:=r;exact y.und
 |tab _ _ _=>rfl
 |pin _ _ _ _=>obtain⟨_,_,_,v,y,_⟩:=r;exact y.und
 |gone=>rfl
theorem mw.take{c:am}{a:Addr}(r:mw K mg μ H c a)(b:c.und n=true):mw K mg (μ.take n) H c a:=by
 cases c with
 |lst ws=>obtain⟨vs,x,y⟩:=r;exact⟨vs,x,y.takeN b⟩
 |ro ws=>obtain⟨vs,x,y⟩:=r;exact⟨vs,x,y.takeN b⟩
 |exc c=>exact r
 |dct gz=>obtain⟨vs,x,y⟩:=r;exact⟨vs,x,y.takeN b⟩
 |rod gz=>obtain⟨vs,o,x,y⟩:=r;exact⟨vs,o,x,y.takeN b⟩
 |dcx gz=>obtain⟨es,x,d,y,z⟩:=r;exact⟨es,x,d,tM y b,z⟩
 |rox gz=>obtain⟨es,o,x,d,y,z⟩:=r;exact⟨es,o,x,d,tM y b,z⟩
 |obj _ fs=>obtain⟨C,dx,vs,m,x,y⟩:=r;exact⟨C,dx,vs,m,x,y.takeN b⟩
 |tab _ _ _=>exact r
 |pin _ _ _ _=>obtain⟨ea,p,g,v,y,z⟩:=r;exact⟨ea,p,g,v,y.take b,z⟩
 |gone=>trivial
end
theorem gq.ex{w:World}{a:Addr}{o:HO}(x:gq P w nk H h a o):∃ob,h.get? a=some ob:=by
 cases o with
 |lst xs=>obtain⟨_,_,_,_,e⟩:=x;exact⟨_,e⟩
 |tup xs=>obtain⟨_,_,_,o,e,_⟩:=x;exact⟨_,e⟩
 |dK gz=>obtain⟨_,_,_,_,o,_,_,e,_⟩:=x;exact⟨_,e⟩
 |dT gz=>obtain⟨_,_,_,_,o,_,_,e,_⟩:=x;exact⟨_,e⟩
 |set S n=>obtain⟨o,_,_,_,e,_⟩:=x;exact⟨_,e⟩
 |ins C dx fs=>obtain⟨_,_,_,e,_⟩:=x;exact⟨_,e⟩
 |own y=>obtain⟨_,e⟩:=x;exact⟨_,e⟩
 |xd fs=>obtain⟨_,⟨_,_,_,e,_⟩,_⟩:=x;exact⟨_,e⟩
 |rng lo hi=>obtain⟨_,_,_,e⟩:=x;exact⟨_,e⟩
 |frz ob u=>obtain⟨e,_⟩:=x;exact⟨_,e⟩
 |tbl ps=>exact⟨_,(show h.get? a=some _ from x)⟩
 |met f y=>exact⟨_,(show h.get? a=some _ from x)⟩
 |ext φ=>obtain⟨_,⟨_,e⟩,_⟩:=x;exact⟨_,e⟩
def Mr(st be:List am)(ws:List W):Prop:=undWs st.length ws=true/\st.length<=be.length/\∀(i:Nat),i<st.length->be[i]?=st[i]?\/∃c,be[i]?=some c/\c.und st.length=true
open Classical in
noncomputable def hX(st be:List am)(ws:List W):List am:=if Mr st be ws then be.take st.length else be
theorem vP{ws:List W}{vs:List V}(S:jd K mg μ st H)(S':jd K mg μ' be H')(p:μ <+: μ')(r:RelWs K μ' H' ws vs) :
  ∃μ2,μ <+: μ2/\jd K mg μ2 (hX st be ws) H'/\RelWs K μ2 H' ws vs:=by
 unfold hX
 by_cases k:Mr st be ws
 ·rw[aD k]
  obtain⟨k1,k2,k3⟩:=k
  have e:μ'.take st.length=μ:=by
   obtain⟨t,rfl⟩:=p
   rw[S.len,gn]
  refine⟨μ'.take st.length,by rw[e];exact ao _,⟨fun i j a ci cj h1 h2 r1 r2 m1 m2=>?_,by rw[aJ,aJ,S'.len],fun i c a h1 h2=>?_⟩,r.takeN k1⟩
  ·have hi:i<st.length:=by have:=(ar.mp h1).1;rw[aJ]at this;omega
   have hj:j<st.length:=by have:=(ar.mp h2).1;rw[aJ]at this;omega
   rw[cD hi]at h1 m1
   rw[cD hj]at h2 m2
   exact S'.nd i j a ci cj h1 h2 r1 r2 m1 m2
  ·have hi:i<st.length:=by have:=(ar.mp h1).1;rw[aJ]at this;omega
   rw[cD hi]at h1 h2
   refine(S'.at' i c a h1 h2).take ?_
   rcases k3 i hi with q|⟨c',q,b⟩
   ·rw[h1]at q
    obtain⟨a0,g0,r0⟩:=S.get q.symm
    have:=r0.und
    rw[S.len];exact this
   ·rw[h1]at q;cases q;exact b
 ·rw[aQ k]
  exact⟨μ',p,S',r⟩
def cQ(N:Nat)(body:FS)(ws:List W)(st:List am):R W:=match body #[13] st with
 |.rt w be=>.ok w (hX st be [w])
 |.nx _ be=>.ok .non (hX st be [])
 |.ex c _ be=>.ex c (hX st be [])
 |_=>.bad
def gY(P:Program)(w:World):EN:=fun outer H s E e s'=>∃x C t B H',e=.ref x/\E C none H'/\s'.os=s.os/\AllBare s'.gens/\Un (rH outer) [] H H' s.heap s'.heap/\s_ P w s'.toks H' s'.heap/\H' x=none/\Heap.FlyingW B outer x C (.ref t) s'.heap /\
 ∀b o,s'.heap.get? b=some o->(H' b≠none\/((∃o0,s.heap.get? b=some o0)/\b∉rH outer))->B.get? b=some o
def ig(K:Frag)(mg:Str->Option Value)(n:Nat)(F:List W->List am->R W):Sp:=fun vs H Q E=>vs.length=n/\∃μ ws st,jd K mg μ st H/\RelWs K μ H ws vs/\(match F ws st with
 |.ok w be=>∀μ' v H',μ <+: μ'->eV K H H'->jd K mg μ' be H'->bO K μ' H' w v->Q v H'
 |.ex c be=>∀C μ' H',mg c=some C->μ <+: μ'->eV K H H'->jd K mg μ' be H'->E C none H'
 |.bad=>False)
theorem uC.noted{e:Value}{Q:Unit->Shared->Prop}{E:Value->Shared->Prop}{M:Model}(f:uC X ak σ c H e s)(n_:X.stack=X.env::outer)(xz:X.env.frame=some X.env.locals)(hA:X.A.frames=some X.stack)
  (h:∀x C t B h',e=.ref x->X.mg c=some C->H x=none->Heap.FlyingW B X.stack x C (.ref t) h'->s.heap.UpToSlots h' ->
   (∀b o,s.heap.get? b=some o->(H b≠none\/((∃o0,X.s₀.heap.get? b=some o0)/\b∉X.fs/\b∉X.ex)\/((∃y,X.env.cells.lookup y=some b)/\b∉rH X.stack)\/∃p∈X.pn++ak,p.1=b)->B.get? b=some o)->Q () { s with heap:=h' }) :
  wpAny M X.A (leaving X.env e) Q E s:=by
 obtain⟨x,C,t,B,rfl,hC,hx,st,nx,ff,tr,wV⟩:=f.ex
 rw[n_]at ff hA
 rcases tr with tr|⟨oe,vs,he,rfl,_,hd,h1,h0⟩|⟨L,hL,tr⟩
 ·refine wpAny_leaving_nextW hA ff xz tr st nx fun h' hL=>?_
  obtain⟨k1,k2,k3,k4⟩:=hL
  exact h x C t B h' rfl hC hx ⟨k1,nx,by rw[n_];exact k2,k3⟩ k4 wV
 ·refine wpAny_leaving_firstW hA ff xz he st nx hd h1 h0 fun h' hL=>?_
  obtain⟨k1,k2,k3,k4⟩:=hL
  exact h x _ t B h' rfl hC hx ⟨k1,nx,by rw[n_];exact k2,k3⟩ k4 wV
 ·unfold leaving
  refine ae (oq hL tr (sX ⟨st,nx,ff,tr⟩ fun h' fl up=>?_))
  exact h x C t B h' rfl hC hx (by rw[n_];exact fl) up wV
theorem uC.leaves{e:Value}{E:XK}{E':Value->Shared->Prop}(f:uC X ak σ c H e s)(n_:X.stack=X.env::X.outer)(xz:X.env.frame=some X.env.locals)(hA:X.A.frames=some X.stack)(yx:X.ex=[])
  (hE:∀C,X.mg c=some C->E C none H):wpAny M X.A (leaving X.env e) (fun _ s''=>gY X.prog X.w X.outer X.H₀ X.s₀ E e s'') E' s:=by
 refine f.noted n_ xz hA fun x C t B h' he hC hx fl up wV=>?_
 have I:=f.inv
 have un:=I.base
 rw[yx]at un
 have fsE:X.fs=rH X.outer:=rfl
 obtain⟨f1,f2,f3,f4⟩:=fl
 rw[n_]at f3
 obtain⟨_,_,f3'⟩:=f3
 have frames:∀b∈rH X.outer,∀o,s.heap.get? b=some o->∃sl,h'.get? b=some { o with slots:=sl }:=fun b hb o ho=>by
  obtain⟨_,o',ho',hd⟩:=I.funs.mem hb
  rw[ho]at ho';cases ho'
  exact up b o ho hd
 have kept:∀b o,s.heap.get? b=some o->(∃o0,X.s₀.heap.get? b=some o0)->b∉rH X.outer->h'.get? b=some o:=fun b o ho h0 hb=>f1 b o (wV b o ho (.inr (.inl ⟨h0,hb,by rw[yx];simp⟩)))
 have keptH:∀b o,s.heap.get? b=some o->H b≠none->h'.get? b=some o:=fun b o ho h0=>f1 b o (wV b o ho (.inl h0))
 refine⟨x,C,t,B,H,he,hE C hC,I.os,I.bare,⟨fun b o q n hb hx=>?_,fun b o q n hb hx=>?_,fun b o q n hx=>un.free b o q n hx,fun b o q hx=>?_,un.tups,un.frzs,un.tbls⟩,fun b u hb=>?_,hx,⟨f1,f2,f3',f4⟩,fun b o ho hr=>?_⟩
 ·exact kept b o (un.keep b o q n hb hx) ⟨o,q⟩ hb
 ·obtain⟨sl,q1⟩:=un.slot b o q n hb hx
  obtain⟨sl2,q2⟩:=frames b hb _ q1
  exact⟨sl2,q2⟩
 ·obtain⟨o',q1⟩:=un.there b o q hx
  by_cases hb:b∈rH X.outer
  ·obtain⟨sl2,q2⟩:=frames b hb _ q1;exact⟨_,q2⟩
  ·exact⟨o',kept b o' q1 ⟨o,q⟩ hb⟩
 ·refine(I.hok b u hb).stay (fun c v hc q=>?_) (fun _ q=>q) fun _ _ q=>q
  refine keptH c v q ?_
  rcases hc with rfl|hc
  ·rw[hb];simp
  ·rw[hc];simp
 ·rcases hr with hr|⟨⟨o0,h0⟩,hb⟩
  ·cases hu:H b with
   |none=>exact absurd hu hr
   |some u=>
    have lt:=I.hok.lt hu
    obtain⟨ob,hob⟩:∃ob,s.heap.get? b=some ob:=by
     exact(I.hok b u hu).ex
    have:=keptH b ob hob hr
    rw[ho]at this;cases this
    exact wV b o hob (.inl hr)
  ·obtain⟨o',q1⟩:=un.there b o0 h0 #[15]
   have:=kept b o' q1 ⟨o0,h0⟩ hb
   rw[ho]at this;cases this
   exact wV b o q1 (.inr (.inl ⟨⟨o0,h0⟩,hb,by rw[yx];simp⟩))
structure cN(P:Program)(w:World)(K:Frag)(mg:Str->Option Value)(base:Heap)(k:Nat)(x:Str)(n:Nat)(F:List W->List am->R W):Prop where
 ex:∃(f:Addr) (fd:FuncData) (ps:List Str),mg x=some (.ref f)/\keepIn K (.ref f)=true/\ps.length=n/\qx K fd ps []/\cJ P w K mg base (gY P w) k f fd ps (ig K mg n F)
theorem cN.mono{w:World}(h:cN P w K mg base j x n F)(hj:j<=k):cN P w K mg base k x n F:=by
 obtain⟨f,fd,ps,a,b,c,d,e⟩:=h.ex
 exact⟨f,fd,ps,a,b,c,d,e.mono hj⟩
def bQ(n:Nat)(F:List W->List am->R W)(fs:FA):FE:=fun ρ st=>(fs ρ st).bind fun ws st=>if ws.length=n then F ws st else .bad
section
theorem GY{f:Addr}{Q:VK}{us:List Value}{vs:List V}
  (Fn:cJ X.prog X.w X.K X.mg X.base (gY X.prog X.w) k f fd ps (ig X.K X.mg n F)) (hn:ps.length=n) (hr:jz k X.A) (hb:qx X.K fd ps []) (I:bG X ak σ H s) (S:jd X.K X.mg μ st H) (r:RelWs X.K μ H ws vs) (rv:cu s.toks vs us) (hl:ws.length=n)
  (h:RK X (tH X) μ σ H Q (F ws st)):wpAny #[5] X.A (call (.ref f) us) (EP X ak σ Q) X.xe s:=by
 have hl':(us++([]:List Value)).length=ps.length:=by rw[a7,<- rv.length,<- r.len,hl,hn]
 cases e:F ws st with
 |bad=>rw[e]at h;exact h.elim
 |ok w be=>
  rw[e]at h
  refine up (rF (iJ (Fn.run X.A X.stack s H ⟨us,[]⟩ us vs Q (fun _ _ _=>False) hr I.env0 (.inl I.pos) (by have:=hb s us I.kIn hl';rwa[a7]at this) rv ⟨by rw[<- r.len];exact hl,μ,ws,st,S,r,by rw[e];exact h⟩) fun r s' hq=>?_))
  cases r with
  |error e=>obtain⟨_,_,_,_,_,_,z,_⟩:=hq;exact z.elim
  |ok fl=>
   cases fl with
   |ret u=>exact fun kt=>I.after hq kt
   |next=>exact False.elim hq
   |brk=>exact False.elim hq
   |cont=>exact False.elim hq
 |ex c be=>
  rw[e]at h
  refine up (rF (iJ (Fn.run X.A X.stack s H ⟨us,[]⟩ us vs (fun _ _=>False) (fun C _ H'=>X.mg c=some C/\∃μ',μ <+: μ'/\eV X.K H H'/\jd X.K X.mg μ' be H') hr I.env0 (.inl I.pos) (by have:=hb s us I.kIn hl';rwa[a7]at this) rv
   ⟨by rw[<- r.len];exact hl,μ,ws,st,S,r,by rw[e];exact fun C μ' H' hC p x S'=>⟨hC,μ',p,x,S'⟩⟩) fun r s' hq=>?_))
  cases r with
  |ok fl=>
   cases fl with
   |ret u=>obtain⟨_,_,_,_,_,_,_,z⟩:=hq;exact z.elim
   |next=>exact False.elim hq
   |brk=>exact False.elim hq
   |cont=>exact False.elim hq
  |error ev=>
   obtain⟨x,C,t,B,H',rfl,⟨hC,μ',p,xx,S'⟩,os,bare,un,hok,hx,fl,wV⟩:=hq
   intro kt
   have I':bG X ak σ H' s':=I.call' os un hok bare (fun b hb=>absurd hb #[15]) kt
   refine h ak μ' H' (.ref x) s' p xx S' ⟨I',x,C,t,B,rfl,hC,hx,fl.1,fl.2.1,fl.2.2.1,.inl fl.2.2.2,fun b o ho hrel=>?_⟩
   refine wV b o ho ?_
   rcases hrel with q|⟨⟨o0,h0⟩,hb,hbx⟩|⟨⟨y,hy⟩,hb⟩|⟨pp,hp,rfl⟩
   ·exact .inl q
   ·refine .inr ⟨?_,fun z=>?_⟩
    ·obtain⟨o',q1⟩:=I.base.there b o0 h0 hbx
     exact⟨o',q1⟩
    ·rcases aN.mp (I.stkSub b z)with z|z
     ·rw[z]at h0
      exact absurd (aF (aB h0) I.ok.above) (dC _)
     ·exact hb z
   ·obtain⟨v,ov,hov,_⟩:=I.cell y b hy
    exact .inr ⟨⟨_,hov⟩,hb⟩
   ·obtain⟨g1,g2,g3,g4,_⟩:=I.pin pp hp
    refine .inr ⟨⟨_,g1⟩,fun z=>?_⟩
    rcases aN.mp (I.stkSub _ z)with z|z
    ·exact g3 z
    ·exact g4 z
variable{fs:FA}
theorem DW{k':Nat}(Fn:cN X.prog X.w X.K X.mg X.base k x n F)(hr:jz k' X.A)(hk:k<=k')(ha:SA X (e::es) fs)(hg:Gl X x:=by rfl)(JZ:(x==("__debug__":Str))=false:=by decide)
  (he:starEach (e::es) X.env=(false,eval e X.env)::starEach es X.env:=by rfl) (lU:(backTo pos (starEach es X.env)).any (·.1)=false:=by rfl):SE X (.Call (.Name x p) (e::es) [] pos) (bQ n F fs):=⟨by
 intro ak s σ H Q I h
 obtain⟨f,fd,ps,hm,hkp,hn,hb,Fo⟩:=(Fn.mono hk).ex
 refine fy (rJ I hg hm ?_ JZ)
 walk_at "2"
 have h':SQ X fs σ H fun vs H1=>∃μ1 st1 ws,Rl X μ1 ρ st1 σ H1/\RelWs X.K μ1 H1 ws vs/\RK X (tH X) μ1 σ H1 Q (if ws.length=n then F ws st1 else .bad):=
  ⟨μ,ρ,st,l,RK.bind h l fun μ1 st1 x v H1 p1 x1 l1 q1 h1=>⟨μ1,st1,x,l1,q1,h1⟩⟩
 refine PySem.W.callWith_K (h₀:=X.base) I.ok.mod.kin hkp (jQ (ha.h pos ak s σ H _ I h') fun us s1 kt1 ⟨vs,H1,I1,r,μ1,st1,ws,l1,r1,q⟩=>⟨I1.kIn,?_⟩) he lU
 by_cases c:ws.length=n
 ·rw[aD c]at q
  exact GY Fo hn hr hb I1 l1.sto r1 r c q
 ·rw[aQ c]at q;exact q.elim⟩
end
theorem K9{w:World}{st:Stmt}{f:Addr}{N:List Str}{g:FS}(F:ie K x fv st f fd)(S:aY N ps (aK st))(hn:ps.length=n)
  (BL:∀(eP:Value) (A:Around) (outer:List Env) (s:Shared) (H:Hp) (E:XK),fd.code=eP->jz k (A.deeper (envOfC fv (aK st) s.heap.objs.size f eP)) ->
   SB (B2 (gY P w) P w K mg base N fv (aK st) f eP A outer s H E) (gA st) g):cJ P w K mg base (gY P w) (k+1) f fd ps (ig K mg n (cQ N.length g)):=by
 obtain⟨oc,od,kV,tf,pm,an,eP,ct,NY,rfl,lk,BP⟩:=F.ex
 refine Sf lk BP S (fun vs H Q E h=>by rw[hn];exact h.1) fun A outer s H vs Q E hr NF=>?_
 obtain⟨hl,μ,ws,VG,Sr,r,h⟩:=NF
 refine⟨_,(BL eP A outer s H E rfl hr).h,μ,ws.map some++List.replicate (N.length-ws.length) none,VG,⟨?_,Sr⟩,?_⟩
 ·unfold uw
  rw[<- r.len]
  have base:∀(ws:List W) (vs:List V) (m:Nat),RelWs K μ H ws vs->Paired (fun(o:Option W) (s:Option V)=>∀w,o=some w->∃v,s=some v/\bO K μ H w v) (ws.map some++List.replicate m none) (vs.map some++List.replicate m none):=by
   intro ws
   induction ws with
   |nil=>
    intro vs m r
    rw[r.nilE]
    induction m with
    |zero=>exact .nil
    |succ m ih=>exact .cons (fun w z=>nomatch z) ih
   |cons w ws ih=>
    intro vs m r
    obtain⟨y,ys,rfl,ry,rys⟩:=r.consE
    exact .cons (fun w' z=>⟨y,rfl,by cases z;exact ry⟩) (ih ys m rys)
  exact base ws vs _ r
 ·unfold cQ at h
  cases e:g (ws.map some++List.replicate (N.length-ws.length) none) VG with
  |rt w be=>
   rw[e]at h
   intro μ' v H' p x S' uq
   obtain⟨μ2,p2,S2,r2⟩:=vP Sr S' p (.consI uq .nilI)
   obtain⟨_,e2,r3⟩:=r2.one
   cases e2
   exact h μ2 v H' p2 x S2 r3
  |nx ρ' be=>
   rw[e]at h
   intro μ' σ' H' p x l'
   obtain⟨μ2,p2,S2,_⟩:=vP (ws:=[]) (vs:=[]) Sr l'.sto p .nilI
   exact h μ2 .non H' p2 x S2 .non
  |ex c ρ' be=>
   rw[e]at h
   intro ak μ' σ' H' ev s' p x l' fl
   obtain⟨μ2,p2,S2,_⟩:=vP (ws:=[]) (vs:=[]) Sr l'.sto p .nilI
   exact fl.leaves rfl rfl fl.inv.ok.frames rfl fun C hC=>h C μ2 H' hC p2 x S2
  |bk ρ' be=>rw[e]at h;exact h.elim
  |ct ρ' be=>rw[e]at h;exact h.elim
  |bad=>rw[e]at h;exact h.elim
theorem bJ{w:World}{st:Stmt}{f:Addr}{N:List Str}{k:Nat}{g:FS}(F:ie K x fv st f fd)(S:aY N ps (aK st))(hn:ps.length=n)
  (BL:∀(eP:Value) (A:Around) (outer:List Env) (s:Shared) (H:Hp) (E:XK),jz k (A.deeper (envOfC fv (aK st) s.heap.objs.size f eP)) ->
   SB (B2 (gY P w) P w K mg base N fv (aK st) f eP A outer s H E) (gA st) g):cJ P w K mg base (gY P w) (k+1) f fd ps (ig K mg n (cQ N.length g)):=K9 F S hn fun eP A outer s H E _ hr=>BL eP A outer s H E hr
theorem yT{w:World}{st:Stmt}{f:Addr}{ps:List Str}
  (F:ie K x x st f fd) (hm:mg x=some (.ref f)) (hn:ps.length=n)
  (hb:∀(kV tf pm:Value) (an:Option Addr) (eP ct:Value) (us:List Value),us.length=ps.length->bindArgs (fnOf x x (iD st) (gA st) (aK st) .none kV tf pm an eP ct) ⟨us,[]⟩=pure (ps.zip us))
  (ok:cJ P w K mg base (gY P w) k f fd ps (ig K mg n G)):cN P w K mg base k x n G:=⟨f,fd,ps,hm,F.kp,hn,F.binds hb,ok⟩
end L2
namespace L2
open PySem PySem.Spec PyProof.Rows
theorem RelWs.split:∀{as bs:List W} {vs:List V},RelWs K μ H (as++bs) vs->∃xs ys,vs=xs++ys/\RelWs K μ H as xs/\RelWs K μ H bs ys
 |[],_,vs,r=>⟨[],vs,rfl,.nilI,r⟩
 |w::as,bs,vs,r=>by
  obtain⟨x,xs,rfl,rx,rs⟩:=r.consE
  obtain⟨ys,zs,rfl,r1,r2⟩:=RelWs.split rs
  exact⟨x::ys,zs,rfl,.consI rx r1,r2⟩
section
variable{a b c:Expr}{fb:FE}{fs:FA}{id:String}
structure RF(X:Cx)(id:String)(F:W->List W->List am->R W):Prop where
 h:ER X id (fun x vs H Q=>∃μ st wx ws,jd X.K X.mg μ st H/\bO X.K μ H wx x/\RelWs X.K μ H ws vs/\FN X μ H Q (F wx ws st))
 n:∀x ws st,uX (F x ws st)
noncomputable def ly(st:List am):W->Bool
 |.loc n=>(match st[n]? with|some (.lst _)=>true|_=>false)
 |_=>false
noncomputable def xW:W->Bool
 |.str _=>true
 |_=>false
theorem AD{w:W}{v:V}(S:jd X.K X.mg μ st H)(r:bO X.K μ H w v)(h:ly st w=true):∃l ys,v=.ref l/\H l=some (.lst ys):=by
 cases w with
 |loc n=>
  obtain⟨a,ha,rfl⟩:=r.locE
  simp only[ly]at h
  cases e1:st[n]? with
  |none=>rw[e1]at h;cases h
  |some cc=>
   rw[e1]at h
   cases cc with
   |lst ws=>obtain⟨a1,g1,vs,k1,_⟩:=S.get e1;rw[ha]at g1;cases g1;exact⟨_,vs,rfl,k1⟩
   |_=>cases h
 |_=>cases h
def jR(F:W->List W->List am->R W)(fo:FE)(fs:FA):FE:=fun ρ st=>(fo ρ st).bind fun x st=>if ly st x then(fs ρ st).bind fun ws st=>F x ws st else .bad
def J5(F:W->List W->List am->R W)(fo:FE)(fs:FA):FE:=fun ρ st=>(fo ρ st).bind fun x st=>if xW x then(fs ρ st).bind fun ws st=>F x ws st else .bad
theorem Py{F:W->List W->List am->R W}(slot:Slot "list" name id)(Do:typeOf (.builtin id)=pure (.type "method_descriptor"))(hm:RF X id F)(ho:SE X o fo)(ha:SA X (e::es) fs)
  (jK:attributeBase o name X.env (eval o X.env)=eval o X.env:=by rfl)
  (rE:((backTo d7 (starEach (e::es) X.env)).all (fun x=>!x.1)&&(backToKw d7 (keywordEach [] X.env)).all (fun x=>x.1.isSome)
   && decide #[18])=true:=by rfl)
  (kE:(gj.endLine==d7.line)=true:=by rfl) (hs:starEach (e::es) X.env=(false,eval e X.env)::starEach es X.env:=by rfl) (og:(backTo d7 (starEach es X.env)).any (·.1)=false:=by rfl) :
  SE X (.Call (.Attribute o name gj) (e::es) [] d7) (jR F fo fs):=⟨(Sx slot Do hm.h ho.h ha.h jK rE kE hs og).imp fun σ H Q h=>by
 walk_at "2"
 walk_at "1"
 by_cases c:ly st1 x=true
 ·rw[aD c]at h1
  refine⟨AD l1.sto q1 c,μ1,ρ,st1,l1,RK.bind h1 l1 fun μ2 cW ws vs H2 p2 x2 l2 q2 h2=>?_⟩
  exact⟨μ2,cW,x,ws,l2.sto,q1.mono p2 x2,q2,tI h2 (hm.n _ _ _)⟩
 ·rw[aQ c]at h1;exact h1.elim⟩
theorem GZ{F:W->List W->List am->R W}(slot:Slot "list" name id)(Do:typeOf (.builtin id)=pure (.type "method_descriptor"))(hm:RF X id F)(ho:SE X o fo)
  (jK:attributeBase o name X.env (eval o X.env)=eval o X.env:=by rfl) (kE:(gj.endLine==d7.line)=true:=by rfl):SE X (.Call (.Attribute o name gj) [] [] d7) (jR F fo aw):=⟨(OX slot Do hm.h ho.h jK kE).imp fun σ H Q h=>by
 walk_at "2"
 walk_at "1"
 by_cases c:ly st1 x=true
 ·rw[aD c]at h1
  exact⟨AD l1.sto q1 c,μ1,st1,x,[],l1.sto,q1,.nilI,tI h1 (hm.n _ _ _)⟩
 ·rw[aQ c]at h1;exact h1.elim⟩
theorem Tq{F:W->List W->List am->R W}(slot:Slot "str" name id)(Do:typeOf (.builtin id)=pure (.type "method_descriptor"))(hm:RF X id F)(ho:SE X o fo)(ha:SA X (e::es) fs)
  (jK:attributeBase o name X.env (eval o X.env)=eval o X.env:=by rfl)
  (rE:((backTo d7 (starEach (e::es) X.env)).all (fun x=>!x.1)&&(backToKw d7 (keywordEach [] X.env)).all (fun x=>x.1.isSome)
   && decide #[18])=true:=by rfl)
  (kE:(gj.endLine==d7.line)=true:=by rfl) (hs:starEach (e::es) X.env=(false,eval e X.env)::starEach es X.env:=by rfl) (og:(backTo d7 (starEach es X.env)).any (·.1)=false:=by rfl) :
  SE X (.Call (.Attribute o name gj) (e::es) [] d7) (J5 F fo fs):=⟨(Sy slot Do hm.h ho.h ha.h jK rE kE hs og).imp fun σ H Q h=>by
 walk_at "2"
 walk_at "1"
 cases x with
 |str z=>
  rw[aD (show xW (W.str z)=true from rfl)]at h1
  refine⟨⟨z,q1.strE⟩,μ1,ρ,st1,l1,RK.bind h1 l1 fun μ2 cW ws vs H2 p2 x2 l2 q2 h2=>?_⟩
  exact⟨μ2,cW,_,ws,l2.sto,q1.mono p2 x2,q2,tI h2 (hm.n _ _ _)⟩
 |_=>exact h1.elim⟩
def bv(x:W)(ws:List W)(st:List am):R W:=match x,ws with
 |.loc n,[y]=>(match st[n]? with
  |some (.lst zs)=>if zs.length<m5 then .ok .non (st.set n (.lst (zs++[y])))else .bad
  |_=>.bad)
 |_,_=>.bad
theorem tN:RF X "list.append" bv:=⟨fun ak s σ H x vs v us Q I rv rus zq=>by
 obtain⟨μ,st,wx,ws,S,rx,rs,q⟩:=zq
 unfold bv at q
 split at q
 ·rename_i n y
  obtain⟨y1,rfl,ry⟩:=rs.one
  split at q
  ·rename_i zs e1
   split at q
   ·rename_i c
    obtain⟨a1,g1,vs,k1,r⟩:=S.get e1
    obtain⟨b1,f1,rfl⟩:=rx.locE
    rw[g1]at f1;cases f1
    refine Ck ak s σ H _ _ v us Q I rv rus ⟨a1,vs,y1,rfl,rfl,k1,by rw[<- r.len];exact O7 (fK c),fun H2 e=>?_⟩
    subst e
    exact q μ _ _ (ao _) (fU.but ml k1) (S.set e1 g1 k1 (r.app (.consI ry .nilI))) .non
   ·exact q.elim
  ·exact q.elim
 ·exact q.elim,fun x ws st=>by
 unfold bv
 repeat' split
 all_goals trivial⟩
def m6(x:W)(ws:List W)(st:List am):R W:=match x,ws with
 |.loc n,[]=>(match st[n]? with
  |some (.lst zs)=>tL zs.getLast? fun w=>.ok w (st.set n (.lst zs.dropLast))
  |_=>.bad)
 |_,_=>.bad
theorem Cz:RF X "list.pop" m6:=⟨fun ak s σ H x vs v us Q I rv rus zq=>by
 obtain⟨μ,st,wx,ws,S,rx,rs,q⟩:=zq
 unfold m6 at q
 split at q
 ·rename_i n
  have e0:=rs.nilE
  subst e0
  split at q
  ·rename_i zs e1
   obtain⟨a1,g1,vs,k1,r⟩:=S.get e1
   obtain⟨b1,f1,rfl⟩:=rx.locE
   rw[g1]at f1;cases f1
   cases hl:zs.getLast? with
   |none=>rw[hl]at q;exact q.elim
   |some w=>
    rw[hl]at q
    have hz:zs=zs.dropLast++[w]:=by
     obtain⟨ys,rfl⟩:=List.getLast?_eq_some_iff.mp hl
     simp
    rw[hz]at r
    obtain⟨xs',RO,hx,r1,r3⟩:=r.split
    obtain⟨y',rfl,r2⟩:=r3.one
    refine KM ak s σ H _ _ v us Q I rv rus ⟨a1,xs',y',rfl,rfl,by rw[<- hx];exact k1,fun H2 e=>?_⟩
    subst e
    have xx:eV X.K H (fB H a1 (.lst xs')):=fU.but ml k1
    exact q μ _ _ (ao _) xx (S.set e1 g1 k1 r1) (r2.mono (ao _) xx)
  ·exact q.elim
 ·exact q.elim,fun x ws st=>by
 unfold m6 tL
 repeat' split
 all_goals trivial⟩
noncomputable def oE:List W->Option (List (List Nat))
 |[]=>some []
 |.str l::ws=>(oE ws).map (l :: ·)
 |_=>none
theorem vQ:∀{ws:List W} {ls:List (List Nat)} {vs:List V},oE ws=some ls->RelWs K μ H ws vs->vs=ls.map fun l=>V.str (tx l)
 |[],ls,vs,h,r=>by simp only[oE]at h;cases h;exact r.nilE
 |w::ws,ls,vs,h,r=>by
  obtain⟨x,xs,rfl,rx,rs⟩:=r.consE
  cases w with
  |str l=>
   simp only[oE]at h
   cases e:oE ws with
   |none=>rw[e]at h;cases h
   |some ls'=>rw[e]at h;cases h;rw[rx.strE,vQ e rs];rfl
  |_=>simp only[oE]at h;cases h
theorem xX(ls:List (List Nat)):oE (ls.map W.str)=some ls:=by
 induction ls with
 |nil=>rfl
 |cons a r ih=>show(oE (r.map W.str)).map (a :: ·)=_;rw[ih];rfl
def oF(x:W)(ws:List W)(st:List am):R W:=match x,ws with
 |.str sep,[.loc n]=>tL (lstOf st n) fun zs=>tL (oE zs) fun ls=>if (ls.map List.length).sum+ls.length*sep.length<=m5 then .ok (.str (lr sep ls)) st else .bad
 |_,_=>.bad
theorem DY:RF X "str.join" oF:=⟨fun ak s σ H x vs v us Q I rv rus zq=>by
 obtain⟨μ,st,wx,ws,S,rx,rs,q⟩:=zq
 unfold oF at q
 split at q
 ·rename_i sep n
  obtain⟨y1,rfl,ry⟩:=rs.one
  cases e1:lstOf st n with
  |none=>rw[e1]at q;exact q.elim
  |some zs=>
   rw[e1,eF]at q
   cases e2:oE zs with
   |none=>rw[e2]at q;exact q.elim
   |some ls=>
    rw[e2,eF]at q
    split at q
    ·rename_i c
     obtain⟨a,vs,g,hS,r⟩:=S.lstOf e1
     obtain⟨b1,f1,rfl⟩:=ry.locE
     rw[g]at f1;cases f1
     have:=vQ e2 r
     subst this
     exact KK ak s σ H _ _ v us Q I rv rus ⟨sep,_,ls,rx.strE,rfl,hS,aI c #[3],rP S q⟩
    ·exact q.elim
 ·exact q.elim,fun x ws st=>by
 unfold oF
 split
 ·exact uF fun _=>uF fun _=>by split<;>trivial
 ·trivial⟩
end
def tO(cap:List (Option Nat))(ρ:cf):cf:=cap.map fun o=>o.bind fun j=>(ρ[j]?).join
theorem Tr(r:Paired (fun(o:Option W) (s:Option V)=>∀w,o=some w->∃v,s=some v/\bO X.K μ H w v) ρ σ):∀cap:List (Option Nat),
  Paired (fun(o:Option W) (s:Option V)=>∀w,o=some w->∃v,s=some v/\bO X.K μ H w v) (tO cap ρ) (qy cap σ)
 |[]=>.nil
 |o::cap=>by
  refine .cons (fun w e=>?_) (Tr r cap)
  cases o with
  |none=>cases e
  |some j=>
   have e':(ρ[j]?).join=some w:=e
   have e2:ρ[j]?=some (some w):=by
    cases h:ρ[j]? with
    |none=>rw[h]at e';cases e'
    |some ow=>rw[h]at e';simp at e';rw[e']
   obtain⟨v,g1,g2⟩:=vJ r e2
   exact⟨v,by show(σ[j]?).join=some v;rw[g1];rfl,g2⟩
open Classical in
def rR(f:FG)(t:FT)(el:FE)(ck:Option (Nat×List W))(ρ0:cf):List W->List W->List am->R (List W)
 |[],i8,st=>if kZ st ck then .ok i8 st else .bad
 |w::ws,i8,st=>if kZ st ck then(match f w ρ0 with
  |none=>.bad
  |some ρ'=>(match t ρ' st with
   |.ok true st1=>(match el ρ' st1 with
    |.ok y cW=>rR f t el ck ρ0 ws (i8++[y]) cW
    |_=>.bad)
   |.ok false st1=>rR f t el ck ρ0 ws i8 st1
   |_=>.bad))else .bad
def jo(cap:List (Option Nat))(fi:FI)(f:FG)(t:FT)(el:FE):FE:=fun ρ st=>(fi ρ st).bind fun k st=>if k.1.length<=m5 then(rR f t el k.2 (tO cap ρ) k.1 [] st).bind fun ys st=>pI ys st else .bad
def Vn(X:Cx)(rel:List Addr->Hp->α->β->Prop)(f:cf->List am->R α)(σ:St)(H:Hp)(Q:β->Hp->Prop):Prop:=
 ∃μ ρ st a be,Rl X μ ρ st σ H/\f ρ st=.ok a be/\∀μ' b H',μ <+: μ'->eV X.K H H'->jd X.K X.mg μ' be H'->rel μ' H' a b->Q b H'
def vR:FT:=fun _ st=>.ok true st
structure Pz(X:Cx)(es:List Expr)(f:FT):Prop where
 h:Gi X es (tT X f)
theorem Gi.imp{e:List Expr}{t t':TT}(h:Gi X e t)(i:∀σ H Q,t' σ H Q->t σ H Q):Gi X e t':=fun ak s σ H Q I q=>h ak s σ H Q I (i _ _ _ q)
theorem K_:Pz X [] vR:=⟨KG.imp fun σ H Q h=>by
 walk_at "2"
 exact h μ true H (ao _) eV.refl l.sto rfl⟩
theorem K'{c:Expr}(hc:ST X c t):Pz X [c] t:=⟨KH hc.h⟩
theorem G0{f:FG}{Q:VK}(h:tE X (jo cap fi f t el) σ H Q) :
  vx cap (fun σ H R=>tG X (Tp X) fi σ H R) (Tn X f) (Vn X O8 t) (Vn X (tH X) el) σ H Q:=by
 walk_at "2"
 refine⟨μ,ρ,st,l,RK.bind h l fun μ1 st1 k J H1 p1 x1 l1 wk h1=>?_⟩
 by_cases hz:k.1.length<=m5
 ·rw[aD hz]at h1
  refine⟨fun i m ys H'=>i<=k.1.length/\m=k.1.length-i/\ys.length<=i/\∃μ' i8 be,μ1 <+: μ'/\eV X.K H1 H'/\Rl X μ' ρ be σ H'/\RelWs X.K μ' H' i8 ys/\RK X (tH X) μ' σ H' Q ((rR f t el k.2 (tO cap ρ) (k.1.drop i) i8 be).bind fun ys st=>pI ys st),
   ⟨_,b7 _,rfl,ax _,μ1,[],st1,ao _,eV.refl,l1,.nilI,h1⟩,?_⟩
  rintro i m ys H' ⟨hi,rfl,hy,μ',i8,be,pm,xm,lm,ra,hm⟩
  by_cases hlt:i<k.1.length
  ·rw[fD hlt]at hm
   unfold rR at hm
   by_cases ck:kZ be k.2
   ·rw[aD ck]at hm
    obtain⟨go,yld⟩:=(wk i μ' be H' pm xm lm.sto ck).1 _ (al hlt)
    refine .inr ⟨go,fun x H2 hy2=>?_⟩
    obtain⟨y1,y2,y3⟩:=yld x H2 hy2
    cases hf:f k.1[i] (tO cap ρ)with
    |none=>rw[hf]at hm;exact hm.elim
    |some ρ2=>
     rw[hf]at hm
     simp only at hm
     have lb:Rl X μ' (tO cap ρ) be (qy cap σ) H2:=⟨Tr (lm.to (ao _) y1 y2).env cap,y2⟩
     refine⟨μ',tO cap ρ,be,k.1[i],ρ2,lb,y3,hf,fun σ2 l2=>?_⟩
     cases ht:t ρ2 be with
     |bad=>rw[ht]at hm;exact hm.elim
     |ex c s=>rw[ht]at hm;exact hm.elim
     |ok kk cW=>
      rw[ht]at hm
      refine⟨μ',ρ2,be,kk,cW,l2,ht,fun μ3 b3 H3 p3 x3 S3 q3=>?_⟩
      cases q3
      cases kk with
      |false=>
       exact⟨_,by omega,hlt,rfl,by omega,μ3,i8,cW,pm.trans p3,xm.trans (y1.trans x3),lm.to p3 (y1.trans x3) S3,ra.mono p3 (y1.trans x3),RK.mono hm p3 (y1.trans x3)⟩
      |true=>
       rw[aD rfl]
       simp only at hm
       cases he:el ρ2 cW with
       |bad=>rw[he]at hm;exact hm.elim
       |ex c s=>rw[he]at hm;exact hm.elim
       |ok w mF=>
        rw[he]at hm
        refine⟨μ3,ρ2,cW,w,mF,l2.to p3 x3 S3,he,fun μ4 b4 H4 p4 x4 S4 q4=>?_⟩
        have pp:=p3.trans p4
        have xx:=y1.trans (x3.trans x4)
        exact⟨jk hy (aF hlt (pH hz)),_,by omega,hlt,rfl,by simp;omega,μ4,i8++[w],mF,pm.trans pp,xm.trans xx,lm.to pp xx S4,(ra.mono pp xx).app (.consI q4 .nilI),RK.mono hm pp xx⟩
   ·rw[aQ ck]at hm;exact hm.elim
  ·have hi':i=k.1.length:=by omega
   subst hi'
   rw[oo (ax _)]at hm
   unfold rR at hm
   by_cases ck:kZ be k.2
   ·rw[aD ck]at hm
    obtain⟨z1,z2⟩:=vK lm.sto ra hm
    exact .inl ⟨(wk _ μ' be H' pm xm lm.sto ck).2 (ax _),z1,fun p hp=>z2 p _ hp rfl⟩
   ·rw[aQ ck]at hm;exact hm.elim
 ·rw[aQ hz]at h1;exact h1.elim
section
variable{f:FG}{m:Nat}
theorem WU{X X':Cx}{f:FE}(hK:X'.K=X.K)(hm:X'.mg=X.mg)(h:SE X' e f):QE X' e (Vn X (tH X) f):=⟨h.h.imp fun σ H Q ⟨μ,ρ,st,a,be,l,e,q⟩=>⟨μ,ρ,st,⟨by rw[hK];exact l.env,by rw[hK,hm];exact l.sto⟩,by rw[e];exact fun μ' b H' p x S r=>q μ' b H' p (by rw[<- hK];exact x) (by rw[<- hK,<- hm];exact S) (by show bO X.K μ' H' a b;rw[<- hK];exact r)⟩⟩
theorem WV{X X':Cx}{e:List Expr}{f:FT}(hK:X'.K=X.K)(hm:X'.mg=X.mg)(h:Pz X' e f):Wb X' e (Vn X O8 f):=⟨h.h.imp fun σ H Q ⟨μ,ρ,st,a,be,l,e,q⟩=>⟨μ,ρ,st,⟨by rw[hK];exact l.env,by rw[hK,hm];exact l.sto⟩,by rw[e];exact fun μ' b H' p x S r=>q μ' b H' p (by rw[<- hK];exact x) (by rw[<- hK,<- hm];exact S) r⟩⟩
theorem WW{X X':Cx}(hK:X'.K=X.K)(hm:X'.mg=X.mg)(h:SG X' e f):QG X' e (Tn X f):=⟨h.h.imp fun v σ H Q ⟨μ,ρ,st,w,ρ',l,r,e,q⟩=>⟨μ,ρ,st,w,ρ',⟨by rw[hK];exact l.env,by rw[hK,hm];exact l.sto⟩,by rw[hK];exact r,e,fun σ' l'=>q σ' ⟨by rw[<- hK];exact l'.env,by rw[<- hK,<- hm];exact l'.sto⟩⟩⟩
theorem PB(hB:Af X.env.scope.names scope.names nm cap X.N=true)(lN:X.env.cells=cellsFrom m X.env.scope.names [])(hi:SI X tg dA fi)(hg:∀cl C s0 H0 fp,SG #[11] tg f)(ht:∀cl C s0 H0 fp,Pz #[11] mi t)
  (he:∀cl C s0 H0 fp,SE #[11] pD el) (iM:X.calm=true:=by rfl) (iN:scope.kind=.function:=by rfl) (hs:∀x,foldedSetIterable dA X.env x=pure x:=by intro _;rfl) :
  SE X #[10] (jo cap fi f t el):=
 ⟨(OZ iM lN iN hB ⟨hi.h⟩ (fun cl C s0 H0 fp=>WW (X:=X) rfl rfl (hg cl C s0 H0 fp)) (fun cl C s0 H0 fp=>WV (X:=X) rfl rfl (ht cl C s0 H0 fp)) (fun cl C s0 H0 fp=>WU (X:=X) rfl rfl (he cl C s0 H0 fp)) hs).h.imp fun _ _ _ h=>G0 h⟩
theorem CA{x0:Str}{p0 p1:Pos}(Kd:SG X (.Name x0 p0) (iP i))(hB:Af X.env.scope.names scope.names nm cap X.N=true)(lN:X.env.cells=cellsFrom m X.env.scope.names [])(hi:SI X tg dA fi)(hg:∀cl C s0 H0 fp,SG #[11] tg f)(ht:∀cl C s0 H0 fp,Pz #[11] mi t)
  (he:∀cl C s0 H0 fp,SE #[11] pD el) (iM:X.calm=true:=by rfl) (iN:scope.kind=.function:=by rfl) (hs:∀x,foldedSetIterable dA X.env x=pure x:=by intro _;rfl)
  (RC:swapsWith #[10] (some (.Name x0 p0)) p1.line X.env=pure true:=by first|rfl|kernel_rfl) :
  SS X (.Assign [.Name x0 p0] #[10] p1) (rd (jo cap fi f t el) (iP i)):=
 ⟨(Cp ⟨Kd.h⟩ iM lN iN hB ⟨hi.h⟩ (fun cl C s0 H0 fp=>WW (X:=X) rfl rfl (hg cl C s0 H0 fp)) (fun cl C s0 H0 fp=>WV (X:=X) rfl rfl (ht cl C s0 H0 fp)) (fun cl C s0 H0 fp=>WU (X:=X) rfl rfl (he cl C s0 H0 fp)) hs RC).h.imp fun D σ H h=>by
  walk_at "2"
  have h':tE X (jo cap fi f t el) σ H fun x H1=>Tn X (iP i) x σ H1 D.nx:=⟨μ,ρ,st,l,RK.stmt h l fun μ1 st1 x v H1 p1 x1 l1 q1 h1=>⟨μ1,ρ,st1,x,ρ.set i (some x),l1,q1,rfl,fun σ' l'=>h1 μ1 σ' H1 (ao _) eV.refl l'⟩⟩
  exact G0 h'⟩
end
section
variable{a b c:Expr}{fb fc:FE}{fs:FA}
theorem Fb{u9:List V}(hr:∀μ H,RelWs X.K μ H ws u9):Cw X (V7 u9) (ws,none) μ H:=fun i μ' be H' pp xx S _=>by
 have hl:ws.length=u9.length:=(hr μ H).len
 refine⟨fun w hw=>?_,fun h=>by show u9.length<=i;rw[<- hl];exact h⟩
 obtain⟨v,g1,g2⟩:=(hr μ' H').get hw
 refine⟨(ar.mp g1).1,fun y H'' hy=>?_⟩
 obtain⟨rfl,hy⟩:=hy
 rw[g1]at hy;cases hy
 exact⟨eV.refl,S,g2⟩
noncomputable def iQ(l:List Nat):List W:=l.map fun c=>.str [c]
theorem xY(l:List Nat)(μ:List Addr)(H:Hp):RelWs X.K μ H (iQ l) (jA l):=by
 induction l with
 |nil=>exact .nilI
 |cons a r ih=>exact .consI .str ih
def Ms(fe:FE):FI:=fun ρ st=>(fe ρ st).bind fun x st=>match x with
 |.str l=>.ok (iQ l,none) st
 |_=>.bad
theorem PD(he:SE X e fe):SI X tg e (Ms fe):=⟨(OT he.h).imp fun σ H R h=>by
 walk_at "2"
 walk_at "1"
 cases x with
 |str z=>exact⟨z,q1.strE,h1 μ1 _ H1 (ao _) eV.refl l1.sto (Fb (xY z))⟩
 |_=>exact h1.elim⟩
def gu(fe:FE):FI:=fun ρ st=>(fe ρ st).bind fun x st=>match x with
 |.tup ws=>.ok (ws,none) st
 |.loc n=>(match lstOf st n with
  |some ws=>.ok (ws,some (n,ws)) st
  |none=>.bad)
 |.str l=>.ok (iQ l,none) st
 |_=>.bad
theorem PF(he:SE X e fe):SI X tg e (gu fe):=⟨fun ak s σ H Rr I h=>by
 walk_at "2"
 cases e1:fe ρ st with
 |bad=>simp only[gu,e1,R.bind_bad]at h;exact h.elim
 |ex c st1=>
  refine(GX (tg:=tg) he).h ak s σ H Rr I ⟨μ,ρ,st,l,?_⟩
  simp only[gu,GW,e1,R.bind_ex]at h ⊢;exact h
 |ok w st1=>
  cases w with
  |tup ws=>
   refine(GX (tg:=tg) he).h ak s σ H Rr I ⟨μ,ρ,st,l,?_⟩
   simp only[gu,GW,e1,R.bind_ok]at h ⊢;exact h
  |loc n=>
   refine(Px (tg:=tg) he).h ak s σ H Rr I ⟨μ,ρ,st,l,?_⟩
   simp only[gu,Mq,e1,R.bind_ok]at h ⊢;exact h
  |str z=>
   refine(PD (tg:=tg) he).h ak s σ H Rr I ⟨μ,ρ,st,l,?_⟩
   simp only[gu,Ms,e1,R.bind_ok]at h ⊢;exact h
  |_=>simp only[gu,e1,R.bind_ok]at h;exact h.elim⟩
noncomputable def my(ws:List W):List W:=(List.range ws.length).map fun(i:Nat)=>W.tup [.int i,ws.getD i .non]
theorem tP{w:W}(h:(my ws)[i]?=some w):∃y,ws[i]?=some y/\w=.tup [.int i,y]:=by
 unfold my at h
 rw[aC]at h
 by_cases hi:i<ws.length
 ·rw[iU hi]at h
  refine⟨ws[i],al hi,?_⟩
  have:=(bq h).symm
  rw[this]
  show W.tup [W.int i,ws.getD i W.non]=_
  rw[aA,al hi];rfl
 ·rw[bU (by simpa using hi)]at h;cases h
theorem xZ(ws:List W):(my ws).length=ws.length:=by simp[my]
def re(fs:FA):FI:=fun ρ st=>(fs ρ st).bind fun ws st=>match ws with
 |[.tup zs]=>.ok (my zs,none) st
 |_=>.bad
theorem La{wO:List Expr}{kk:Nat}{tp:Pos}(hm:X.mg "enumerate"=none)(ha:SA X [a] fs)(hg:Gl X "enumerate":=by rfl)(hs:starEach [a] X.env=[(false,eval a X.env)]:=by rfl) :
  SI X (.Tuple wO kk tp) (.Call (.Name "enumerate" p) [a] [] pos) (re fs):=⟨(Gw hm ⟨ha.h⟩ hg hs).h.imp fun σ H R h=>by
 walk_at "2"
 walk_at "1"
 split at h1
 ·rename_i zs
  obtain⟨y,rfl,ry⟩:=q1.one
  obtain⟨p,vs,rfl,hS,r⟩:=ry.tupE
  refine⟨p,rfl,⟨vs,hS⟩,h1 μ1 _ H1 (ao _) eV.refl l1.sto fun i μ' be H' pp xx S _=>⟨fun w hw=>?_,fun hl=>⟨vs,xx _ _ hS,by rw[xZ]at hl;rw[<- r.len];exact hl⟩⟩⟩
  obtain⟨y,hy,rfl⟩:=tP hw
  have r':=r.mono pp xx
  obtain⟨v,g1,g2⟩:=r'.get hy
  refine⟨⟨vs,v,xx _ _ hS,g1⟩,fun z H'' hz=>?_⟩
  obtain⟨q,hq,rfl,hH⟩:=hz
  have e:=hH vs v (xx _ _ hS) g1
  subst e
  have ex:=fU.same (K:=X.K) (cG hq (.tup [.int i,v]))
  exact⟨ex,S.same (cG hq _),.tupI fU.new (.consI .int (.consI (g2.mono (ao _) ex) .nilI))⟩
 ·exact h1.elim⟩
def vS(fa:FE):FE:=fun ρ st=>(fa ρ st).bind fun x st=>match x with
 |.int i=>.ok (.int (-i)) st
 |_=>.bad
theorem Ts(ha:SE X a fa):SE X (.UnaryOp .USub a pos) (vS fa):=⟨(R9 OH ha.h).imp fun σ H Q h=>by
 walk_at "2"
 walk_at "1"
 cases x with
 |int k=>exact⟨k,q1.intE,h1 μ1 _ H1 (ao _) eV.refl l1.sto .int⟩
 |_=>exact h1.elim⟩
noncomputable def Fc(x y:W)(st:List am):R W:=match x,y with
 |.int i,.int j=>.ok (.bl (decide (i<=j))) st
 |.str [c],.str [d]=>.ok (.bl (decide (c<=d))) st
 |_,_=>.bad
theorem Mt:wR X (compareOp .LtE) Fc:=⟨fun ak s σ H x y v u Q I rv ru zq=>by
 obtain⟨μ,st,wx,wy,S,rx,ry,q⟩:=zq
 unfold Fc at q
 split at q
 ·exact R' ak s σ H x y v u Q I rv ru ⟨_,_,rx.intE,ry.intE,pK S q⟩
 ·exact EW ak s σ H x y v u Q I rv ru ⟨_,_,rx.strE,ry.strE,pK S q⟩
 ·exact q.elim,fun x y st=>by unfold Fc;split<;>trivial⟩
end
noncomputable def yU(c:Nat):List Nat->List Nat
 |[]=>[c]
 |d::r=>if c<d then c::d::r else if c=d then d::r else d::yU c r
def gy(l:List Nat):List Nat:=l.foldr yU []
theorem vT{c x:Nat}:∀{l:List Nat},x∈yU c l↔x=c\/x∈l
 |[]=>by simp[yU]
 |d::r=>by
  unfold yU
  split
  ·simp
  ·split
   ·rename_i h;subst h;simp
   ·simp only[aN,vT]
    constructor
    ·rintro(h|h|h)<;>simp[h]
    ·rintro(h|h|h)<;>simp[h]
theorem DZ{c:Nat}:∀{l:List Nat},l.Pairwise (· < ·)->(yU c l).Pairwise (· < ·)
 |[],_=>by simp[yU]
 |d::r,h=>by
  obtain⟨h1,h2⟩:=bV.mp h
  unfold yU
  split
  ·rename_i hc
   refine bV.mpr ⟨fun x hx=>?_,h⟩
   rcases aN.mp hx with rfl|hx
   ·exact hc
   ·exact sY hc (h1 x hx)
  ·split
   ·exact h
   ·rename_i hc hd
    refine bV.mpr ⟨fun x hx=>?_,DZ h2⟩
    rcases vT.mp hx with rfl|hx
    ·omega
    ·exact h1 x hx
theorem jp{x:Nat}:x∈gy l↔x∈l:=by
 induction l with
 |nil=>simp[gy]
 |cons a r ih=>show x∈yU a (gy r)↔_;rw[vT,ih];simp
theorem jG(l:List Nat):(gy l).Pairwise (· < ·):=by
 induction l with
 |nil=>exact List.Pairwise.nil
 |cons a r ih=>exact DZ ih
theorem yV:∀{l m:List Nat},l.Pairwise (· < ·)->m.Pairwise (· < ·)->(∀x,x∈l↔x∈m)->l=m
 |[],[],_,_,_=>rfl
 |[],b::m,_,_,h=>by have:=(h b).mpr (by simp);simp at this
 |a::l,[],_,_,h=>by have:=(h a).mp (by simp);simp at this
 |a::l,b::m,h1,h2,h=>by
  obtain⟨p1,p2⟩:=bV.mp h1
  obtain⟨q1,q2⟩:=bV.mp h2
  have e:a=b:=by
   rcases aN.mp ((h a).mp #[15])with z|z
   ·exact z
   ·rcases aN.mp ((h b).mpr #[15])with y|y
    ·exact y.symm
    ·have:=p1 b y;have:=q1 a z;omega
  subst e
  rw[yV p2 q2 fun x=>?_]
  constructor
  ·intro hx
   rcases aN.mp ((h x).mp (aO _ hx))with z|z
   ·subst z;exact absurd (p1 x hx) (dC _)
   ·exact z
  ·intro hx
   rcases aN.mp ((h x).mpr (aO _ hx))with z|z
   ·subst z;exact absurd (q1 x hx) (dC _)
   ·exact z
noncomputable def CB(c:List Nat):List (List Nat)->List (List Nat)
 |[]=>[c]
 |d::r=>if c<d then c::d::r else d::CB c r
def jq(l:List (List Nat)):List (List Nat):=l.foldr CB []
theorem tQ(c:List Nat):∀l:List (List Nat),(CB c l).Perm (c::l)
 |[]=>iB _
 |d::r=>by
  unfold CB
  split
  ·exact iB _
  ·exact((tQ c r).cons d).trans (List.Perm.swap c d r)
theorem gB(l:List (List Nat)):(jq l).Perm l:=by
 induction l with
 |nil=>exact iB _
 |cons a r ih=>exact(tQ a _).trans (ih.cons a)
def Lb:List (List Nat)->Prop:=List.Pairwise fun a b=>¬ b<a
theorem D0(c:List Nat):∀{l:List (List Nat)},Lb l->Lb (CB c l)
 |[],_=>by simp[CB,Lb]
 |d::r,h=>by
  obtain⟨h1,h2⟩:=bV.mp h
  unfold CB
  split
  ·rename_i hc
   refine bV.mpr ⟨fun x hx=>?_,h⟩
   rcases aN.mp hx with rfl|hx
   ·exact fun z=>List.lt_irrefl _ (List.lt_trans z hc)
   ·exact fun z=>h1 x hx (List.lt_trans z hc)
  ·rename_i hc
   refine bV.mpr ⟨fun x hx=>?_,D0 c h2⟩
   rcases aN.mp ((tQ c r).mem_iff.mp hx)with rfl|hx
   ·exact hc
   ·exact h1 x hx
theorem vU(l:List (List Nat)):Lb (jq l):=by
 induction l with
 |nil=>exact List.Pairwise.nil
 |cons a r ih=>exact D0 a ih
theorem vd:∀{l m:List (List Nat)},Lb l->Lb m->l.Perm m->l=m
 |[],m,_,_,h=>(List.Perm.nil_eq h)
 |a::l,[],_,_,h=>(by have:=h.length_eq;simp at this)
 |a::l,b::m,h1,h2,h=>by
  obtain⟨p1,p2⟩:=bV.mp h1
  obtain⟨q1,q2⟩:=bV.mp h2
  have e:a=b:=by
   rcases aN.mp (h.mem_iff.mp (by simp:a∈a::l))with z|z
   ·exact z
   ·rcases aN.mp (h.mem_iff.mpr (by simp:b∈b::m))with y|y
    ·exact y.symm
    ·exact List.le_antisymm (show a<=b from p1 b y) (show b<=a from q1 a z)
  subst e
  rw[vd p2 q2 (List.perm_cons a |>.mp h)]
theorem vV:∀{zs:List (List Nat)},sortedS (zs.map tx)=true->Lb zs:=by
 have key:∀(zs:List (List Nat)) (p:List Nat),risingS (tx p) (zs.map tx)=true->Lb (p::zs):=by
  intro zs
  induction zs with
  |nil=>intro p _;simp[Lb]
  |cons a r ih=>
   intro p h
   have h':(!ltCps a p&&risingS (tx a) (r.map tx))=true:=h
   rw[cX,fN,ltCps_eq,decide_eq_false_iff_not]at h'
   have u:=ih a h'.2
   refine bV.mpr ⟨fun x hx=>?_,u⟩
   rcases aN.mp hx with rfl|hx
   ·exact h'.1
   ·have:=(bV.mp u).1 x hx
    exact List.not_lt.mpr (List.le_trans (List.not_lt.mp h'.1) (List.not_lt.mp this))
 intro zs h
 cases zs with
 |nil=>exact List.Pairwise.nil
 |cons a r=>exact key r a h
section
variable{a b c:Expr}{fb fc:FE}{fs:FA}
def ql(ws:List W)(st:List am):R W:=match ws with
 |[.loc n]=>tL (lstOf st n) fun zs=>tL (oE zs) fun ls=>if ls.length<64 then .ok (.loc st.length) (st++[.lst ((jq ls).map W.str)])else .bad
 |_=>.bad
theorem AE(ls:List (List Nat)):RelWs K μ H (ls.map W.str) (ls.map fun l=>V.str (tx l)):=by
 induction ls with
 |nil=>exact .nilI
 |cons a r ih=>exact .consI .str ih
theorem AF:pL X (.builtin "sorted") ql:=⟨fun ak s σ H vs us Q I rv zq=>by
 obtain⟨μ,st,ws,S,r,q⟩:=zq
 unfold ql at q
 split at q
 ·rename_i n
  obtain⟨y,rfl,ry⟩:=r.one
  cases e1:lstOf st n with
  |none=>rw[e1]at q;exact q.elim
  |some zs=>
   rw[e1,eF]at q
   cases e2:oE zs with
   |none=>rw[e2]at q;exact q.elim
   |some ls=>
    rw[e2,eF]at q
    split at q
    ·rename_i c
     obtain⟨a,vs,g,hS,rz⟩:=S.lstOf e1
     obtain⟨b1,f1,rfl⟩:=ry.locE
     rw[g]at f1;cases f1
     have:=vQ e2 rz
     subst this
     refine wY.h ak s σ H _ us Q I rv ⟨_,ls,rfl,hS,c,fun zs hp hs l H2 hl eH=>?_⟩
     subst eH
     have ez:zs=jq ls:=vd (vV hs) (vU ls) (hp.trans (gB ls).symm)
     subst ez
     exact q (μ++[l]) _ _ (aX _ _) (fU.same (cG hl _)) (S.newLst hl (AE _)) (pJ S)
    ·exact q.elim
 ·exact q.elim,fun ws st=>by
 unfold ql
 split
 ·exact uF fun _=>uF fun _=>by split<;>trivial
 ·trivial⟩
noncomputable def li:List W->Option (List Nat)
 |[]=>some []
 |.str [c]::ws=>(li ws).map (c :: ·)
 |_=>none
theorem rS:∀{ws:List W} {l:List Nat} {vs:List V},li ws=some l->RelWs K μ H ws vs->vs=jA l
 |[],l,vs,h,r=>by simp only[li]at h;cases h;exact r.nilE
 |w::ws,l,vs,h,r=>by
  obtain⟨x,xs,rfl,rx,rs⟩:=r.consE
  unfold li at h
  split at h
  ·rename_i e;cases e
  ·rename_i c U0 e
   cases e
   cases e2:li ws with
   |none=>rw[e2]at h;cases h
   |some l'=>rw[e2]at h;cases h;rw[rx.strE,rS e2 rs];rfl
  ·cases h
def vW:W->Option (List Nat)
 |.str l=>some l
 |.tup ws=>li ws
 |_=>none
def rV(fe:FE):FE:=fun ρ st=>(fe ρ st).bind fun x st=>tL (vW x) fun l=>if l.length<4000/\(gy l).length<64 then .ok #[4] (st++[.lst (iQ (gy l))])else .bad
theorem mO(hm:m.Nodup)(h:∀c∈m,c∈l):m.length<=l.length:=by
 induction m generalizing l with
 |nil=>exact b7 _
 |cons a r ih=>
  obtain⟨h1,h2⟩:=gU.mp hm
  have ha:a∈l:=h a #[15]
  have:=ih h2 (l:=l.erase a) fun c hc=>by
   have:c≠a:=fun z=>h1 (z▸hc)
   exact(List.mem_erase_of_ne this).mpr (h c (aO _ hc))
  rw[List.length_erase_of_mem ha]at this
  have:0<l.length:=List.length_pos_of_mem ha
  simp;omega
theorem Fd{p1 p2 RD L9:Pos}(h1:X.mg "sorted"=none)(h3:X.mg "set"=none)(he:SE X e fe)(hc:X.calm=true:=by rfl)
  (WH:Gl X "sorted":=by rfl) (WD:Gl X "set":=by rfl) (VF:starEach [e] X.env=(false,eval e X.env)::starEach [] X.env:=by rfl):SE X (.Call (.Name "sorted" p1) [.Call (.Name "set" p2) [e] [] L9] [] RD) (rV fe):=⟨(E4 h1 h3 ⟨he.h⟩ hc WH WD VF).h.imp fun σ H Q h=>by
 walk_at "2"
 walk_at "1"
 cases e1:vW x with
 |none=>rw[e1]at h1;exact h1.elim
 |some ll=>
  rw[e1,eF]at h1
  split at h1
  ·rename_i c
   refine⟨ll,?_,c.1,fun m hm hsub=>?_,fun m WJ hup hmem a H2 ha eH=>?_⟩
   ·cases x with
    |str z=>cases e1;exact .inl q1.strE
    |tup ws=>obtain⟨p,vs,rfl,hS,r⟩:=q1.tupE;have:=rS e1 r;subst this;exact .inr ⟨p,rfl,hS⟩
    |_=>cases e1
   ·exact jk (mO hm fun c hc=>jp.mpr (hsub c hc)) c.2
   ·subst eH
    have em:m=gy ll:=by
     refine yV ((List.Pairwise.and hup WJ).imp fun z=>Nat.lt_of_le_of_ne z.1 z.2) (jG ll) fun x=>?_
     rw[hmem,jp]
    subst em
    exact h1 (μ1++[a]) _ _ (aX _ _) (fU.same (cG ha _)) (l1.sto.newLst ha (xY (X:=X) _ _ _)) (pJ l1.sto)
  ·exact h1.elim⟩
end
noncomputable def W.ty:W->Option String
 |.non=>some "NoneType" | .bl _=>some "bool" | .int _=>some "int" | .str _=>some "str" | .tup _=>some "tuple" | .loc _=>none
noncomputable def Lc(t T:String):Bool:=(t==T)||(t == "bool" && T == "int")
theorem Tt{K:Frag}(h:Gq T){w:W}{t:String}(hw:w.ty=some t):kitOne K (.type t) (.type T)=some (Lc t T):=by
 cases w<;>simp only[W.ty]at hw<;>cases hw<;>(rcases h with rfl|rfl|rfl|rfl<;>rfl)
def vX(T:String)(fa:FE):FE:=fun ρ st=>(fa ρ st).bind fun x st=>match x.ty with
 |some t=>.ok (.bl (Lc t T)) st
 |none=>.bad
section
variable{a b c:Expr}{fb fc:FE}{fs:FA}
theorem D1{xT:Str}(hm:X.mg "isinstance"=none)(hT:X.mg xT=none)(hv:bootBuiltins xT=some (.type T))(ha:SE X a fa)(hk:Gq T:=by first|exact .inl rfl|exact .inr (.inl rfl)|exact .inr (.inr (.inl rfl))|exact .inr (.inr (.inr rfl)))
  (hg:Gl X "isinstance":=by rfl) (Vb:Gl X xT:=by rfl) (hn:xT ≠ "__name__":=by decide) (hd:(xT==("__debug__":Str))=false:=by decide)
  (he:starEach [a,.Name xT p2] X.env=(false,eval a X.env)::starEach [.Name xT p2] X.env:=by rfl) (L0:starEach [.Name xT p2] X.env=(false,eval (.Name xT p2) X.env)::starEach [] X.env:=by rfl) (lU:(backTo pos (starEach [.Name xT p2] X.env)).any (·.1)=false:=by rfl) :
  SE X (.Call (.Name "isinstance" p) [a,.Name xT p2] [] pos) (vX T fa):=by
 have C:iL X (.builtin "isinstance") (fun xs H Q=>∃x μ st w t,xs=[x,.ty T]/\jd X.K X.mg μ st H/\bO X.K μ H w x/\w.ty=some t/\Q (.bl (Lc t T)) H):=by
  intro ak s σ H xs us Q I r h
  obtain⟨x,μ,st,w,t,rfl,S,rx,ht,q⟩:=h
  obtain⟨u,u2,rfl,r1,r2⟩:=cu.two r
  obtain rfl:u2=.type T:=r2
  have e:=Tt (K:=X.K) hk ht
  cases w with
  |tup ws=>
   cases ht
   obtain⟨p,vs,rfl,hS,_⟩:=rx.tupE
   cases(show u=Value.ref p from r1)
   obtain⟨bP,_,hp,_⟩:=I.tuple hS
   obtain⟨o,h1,h2,_⟩:=hp
   exact up (kia_one PySem.W.kitx_tuple I.kIn ⟨o,h1,h2⟩ e (fun z=>nomatch z) fun tk hk=>⟨.bl _,H,I.tok tk,rfl,q⟩)
  |non=>cases ht;cases rx.nonE;exact up (qj I r1 .non e fun tk hk=>⟨.bl _,H,I.tok tk,rfl,q⟩)
  |bl b=>cases ht;cases rx.blE;exact up (qj I r1 (.bl _) e fun tk hk=>⟨.bl _,H,I.tok tk,rfl,q⟩)
  |int b=>cases ht;cases rx.intE;exact up (qj I r1 (.int _) e fun tk hk=>⟨.bl _,H,I.tok tk,rfl,q⟩)
  |str b=>cases ht;cases rx.strE;exact up (qj I r1 (.str _) e fun tk hk=>⟨.bl _,H,I.tok tk,rfl,q⟩)
  |loc b=>cases ht
 refine⟨(pG C hg hm i' (kh ha.h (kh (Dz Vb hT hv (v:=.ty T) rfl hn hd) tw L0) he) #[3] #[3] he lU).imp fun σ H Q h=>?_⟩
 walk_at "2"
 walk_at "1"
 cases ht:x.ty with
 |none=>rw[ht]at h1;exact h1.elim
 |some t=>
  rw[ht]at h1
  exact⟨v,μ1,st1,x,t,rfl,l1.sto,q1,ht,h1 μ1 _ H1 (ao _) eV.refl l1.sto .bl⟩
theorem G1{w:World}{st:Stmt}{f:Addr}{ps:List Str}
  (F:ie K x x st f fd) (hm:mg x=some (.ref f)) (hn:ps.length=n)
  (hb:∀(kV tf pm:Value) (an:Option Addr) (eP ct:Value) (us:List Value),us.length=ps.length->bindArgs (fnOf x x (iD st) (gA st) (aK st) .none kV tf pm an eP ct) ⟨us,[]⟩=pure (ps.zip us)) :
  cN P w K mg base k x n (fun _ _=>.bad):=yT F hm hn hb ⟨fun vs H Q E h=>by rw[hn];exact h.1,fun _ _ _ _ _ _ _ _ _ _ _ _ _ _ h=>by obtain⟨_,_,_,_,_,_,z⟩:=h;exact z.elim⟩
end
def Mu(F:List W->List am->R W):Prop:=∀ns:List Int,ns.length<=63->∃be,F [.loc 0] [.ro (ns.map W.int)]=.ok (.bl true) be
theorem walkW{l:PySem.W.OpenLaw}{q:Program}{yA:List Str}{d:DefRec}{K:Params->Frag}(hn:l.most=some 63)(UT:d.params.defaults=[])(hr:jz k callerA)
  (hY:∀(w:World) (h:Heap),YP w h->(K w.params).In h)
  (F:∀(w:World) (mg:Str->Option Value) (fa:Addr) (h:Heap),(K w.params).In h->h.Ns mainGlobals mg->mg d.name=some (.ref fa) ->
   ∃fd:FuncData,fd.scope.names.lookup x=some .local/\(∀(s:Shared) (u:Value),BindsTo s fd ⟨[u],[]⟩ [(x,u)])/\∀base:Heap,(K w.params).In base->base.Ns mainGlobals mg->cJ l.prog w (K w.params) mg base (gY l.prog w) k fa fd [x] (ig (K w.params) mg 1 G))
  (ok:Mu G):PySem.W.WalkO q yA XP YP l.row.toRowW d [] (fun f vs=>PySem.call f vs):=by
 refine L2.walk_of (n:=63) (k:=k) (x:=x) (CX:=fun w=>gY l.prog w)
  (sp:=fun w=>fun vs H Q E=>∃(a:Addr) (ns:List Int),vs=[.ref a]/\tm (K w.params) H a (ns.map V.int)/\KF H/\ns.length<=63/\∀H',Q (.bl true) H') hn #[3] UT hr hY (fun w mg fa h h1 h2 h3=>?_)
  (fun w H a ns hl hO hS=>⟨a,ns,rfl,hS,hO,hl,fun _=>rfl⟩) fun w H s e s' z=>?_
 ·obtain⟨fd,hlo,hb,ho⟩:=F w mg fa h h1 h2 h3
  refine⟨fd,hlo,hb,fun base kb nb=>(ho base kb nb).imp fun vs H Q E hh=>?_⟩
  obtain⟨a,ns,rfl,hS,hO,hl,q⟩:=hh
  obtain⟨be,e⟩:=ok ns hl
  have BA:Vk (K w.params) H a (ns.map V.int):=by
   rcases hS with(z|⟨o,z⟩)|z
   ·rcases hO a with y|⟨o,xs,y⟩
    ·rw[z]at y;cases y
    ·rw[z]at y;cases y
   ·exact .inl ⟨o,z⟩
   ·exact .inr z
  have hr:RelWs (K w.params) [a] H (ns.map W.int) (ns.map V.int):=by
   clear hS BA e hl
   induction ns with
   |nil=>exact .nilI
   |cons n r ih=>exact .consI .int ih
  refine⟨rfl,[a],[.loc 0],[.ro (ns.map W.int)],⟨fun i j b ci cj c1 c2 r1 r2 m1 m2=>?_,rfl,fun i c b c1 c2=>?_⟩,.consI (.locI rfl) .nilI,?_⟩
  ·cases i with
   |zero=>cases c1;cases r1
   |succ i=>simp at c1
  ·cases i with
   |zero=>cases c1;cases c2;exact⟨_,BA,hr⟩
   |succ i=>simp at c1
  ·rw[e]
   intro μ' v H' _ _ _ rv
   rw[rv.blE];exact q H'
 ·obtain⟨_,_,_,_,_,_,z,_⟩:=z
  exact z
abbrev qv:List Value:=[.type "ValueError",.type "Exception",.type "BaseException",.type "object"]
abbrev qD:String:="ValueError.__new__"
def AG(K:Frag)(C:Addr):List Value:=match K.lookup C with
 |some ⟨_,_,.cls cd,_⟩=>cd.mro
 |_=>[]
theorem qm{W9:List Value}{qc:String}(X:K.In h)(q:excIn K C W9 qc=true) :
  ∃bm N nm qn bs hdct sn sub ab col dd k0 k1 k2 k3 k5 mN,h.get? C=some (excClassObj nm qn C N bs bm hdct sn sub ab col dd k0 k1 k2 k3 k5 qc)/\h.Ns N mN/\mN "__init__"=none/\OwnTail h W9 bm/\AG K C=.ref C::bm:=by
 have q0:=q
 unfold excIn at q
 split at q
 ·rename_i dd cd sl ho
  split at q
  ·rename_i C' bm k0 k1 k2 k3 n k5 hm hs
   simp only[cX,cI,fN]at q
   obtain⟨⟨⟨⟨⟨rfl,rfl⟩,hdel⟩,ht⟩,hok⟩,hni⟩:=q
   have hmro:AG K C'=cd.mro:=by unfold AG;rw[ho]
   obtain⟨nm,bs,mro,ns,qn,hd,sn,sub,ab,col,del⟩:=cd
   dsimp only at hm hdel hok hni hmro
   subst hm hdel
   have hsl:sl=#[k0,k1,k2,k3,some (.builtin n),k5]:=by
    obtain⟨l⟩:=sl
    simp only at hs
    rw[hs]
   subst hsl
   exact⟨bm,ns,nm,qn,bs,hd,sn,sub,ab,col,dd,k0,k1,k2,k3,k5,_,X _ _ ho,.of_isNs (PySem.W.isNs_of_in X hok),PySem.W.nsMap_none_of_in X hok hni,PySem.W.tail_of_in X ht,hmro⟩
  ·cases q
 ·cases q
structure G3(K:Frag)(mg:Str->Option Value)(x:Str):Prop where
 ex:∃C,mg x=some (.ref C)/\excIn K C qv qD=true
def rh(c:Str):FS:=fun ρ st=>.ex c ρ st
theorem rW{np d7 pos p':Pos}{z:Str}{j:Nat}(hC:G3 X.K X.mg x)(iM:X.calm=true:=by rfl)(hg:Gl X x:=by rfl)(hd:(x==("__debug__":Str))=false:=by decide)
  (he:starEach [.Constant (.str z) j p'] X.env=(false,eval (.Constant (.str z) j p') X.env)::starEach [] X.env:=by rfl):SS X (.Raise (some (.Call (.Name x np) [.Constant (.str z) j p'] [] d7)) none pos) (rh x):=⟨by
 intro ak s σ H D I h
 walk_at "2"
 obtain⟨C,hm,q⟩:=hC.ex
 have hh:X.A.handled=none:=I.ok.hd iM
 obtain⟨bm,N,nm,qn,bs,hdct,sn,sub,ab,col,dd,k0,k1,k2,k3,k5,mN,g1,g2,g3,g4,g5⟩:=qm I.kIn q
 refine wpAny_Raise_call_subT (C:=C) (nm:=nm) (q:=qn) (N:=N) (bs:=bs) (bm:=bm) (hdct:=hdct) (sn:=sn) (sub:=sub) (ab:=ab) (col:=col) (dd:=dd) (k0:=k0) (k1:=k1) (k2:=k2) (k3:=k3) (k5:=k5)
  F.excBase_ValueError (mN:=mN) (g4.hasType F.excBase_ValueError.hasBase) hh (by rw[he];rfl) g3 (rJ I hg hm ⟨rfl,?_⟩ hd)
 rw[he]
 refine kH ?_
 show wpAny _ _ (spliced ((false,eval (.Constant (.str z) j p') X.env)::[])) _ _ s
 refine fx (wpAny_Constant_str (ic ?_))
 refine⟨rfl,(by show 1<=sizeLine;decide),g1,g2,g4,fun h' e hx=>?_⟩
 have I2:bG X ak σ H { s with heap:=h',toks:=s.toks+1 }:=I.kept hx.keeps
 have en:H e=none:=by
  cases hu:H e with
  |none=>rfl
  |some u=>
   obtain⟨ob,hob⟩:=(I.hok e u hu).ex
   have:=hx.new
   rw[show({ s with toks:=s.toks+1 }:Shared).heap=s.heap from rfl]at this
   rw[hob]at this;cases this
 obtain⟨t,RI,ht2,ht3⟩:=hx.there
 have hin:∀env∈X.stack,∀b,env.frame=some b->b∈rH X.stack:=fun env he b hb=>lX.mpr ⟨env,he,hb⟩
 refine h ak μ σ H (.ref e) _ (ao _) eV.refl l ⟨I2,e,.ref C,t,hideAll s.heap (rH X.stack),rfl,hm,en,fun b o hb=>hx.keeps b o (PySem.W.of_hideAll _ hb),?_,?_,.inr (.inl ⟨_,_,RI,rfl,rfl,rfl,rfl,rfl⟩),fun b o hb hr=>?_⟩
 ·cases hq:(hideAll s.heap (rH X.stack)).get? e with
  |none=>rfl
  |some o=>have z:=PySem.W.of_hideAll _ hq;have y:=hx.new;rw[show({ s with toks:=s.toks+1 }:Shared).heap=s.heap from rfl,z]at y;cases y
 ·exact(PySem.W.funFrames_hide I.stack hin).of_keeps fun b o hb _=>⟨o,hx.keeps b o hb,rfl⟩
 ·have old:∀o0,s.heap.get? b=some o0->s.heap.get? b=some o:=fun o0 h0=>by
   have h1:h'.get? b=some o0:=hx.keeps b o0 h0
   have h2:h'.get? b=some o:=hb
   rw[h1]at h2;rw[<- h2];exact h0
  have j_:∀o0,s.heap.get? b=some o0->b∉rH X.stack->(hideAll s.heap (rH X.stack)).get? b=some o:=fun o0 h0 hn=>PySem.W.hideAll_get _ (old o0 h0) hn
  rcases hr with hr|⟨⟨o0,h0⟩,hf,hbx⟩|⟨⟨y,hy⟩,hf⟩|⟨pp,hp,rfl⟩
  ·cases hu:H b with
   |none=>exact absurd hu hr
   |some u=>
    obtain⟨ob,hob⟩:=(I.hok b u hu).ex
    exact j_ ob hob fun z=>by have:=I.stkFree b z;rw[hu]at this;cases this
  ·obtain⟨o1,h1⟩:=I.base.there b o0 h0 hbx
   refine j_ o1 h1 fun z=>?_
   rcases aN.mp (I.stkSub b z)with z|z
   ·rw[z]at h0;exact absurd (aF (aB h0) I.ok.above) (dC _)
   ·exact hf z
  ·obtain⟨v,ov,hov,_⟩:=I.cell y b hy
   exact j_ ov hov hf
  ·obtain⟨p1,p2,p3,p4,_⟩:=I.pin pp hp
   refine j_ _ p1 fun z=>?_
   rcases aN.mp (I.stkSub _ z)with z|z
   ·exact p3 z
   ·exact p4 z⟩
theorem bG.unbound{v:Option Value}{m:Str->Option Value}(I:bG X ak σ H s)(hN:X.N.Nodup)(hi:X.N[i]?=some x)(hn:s.heap.Ns X.env.locals m)
  (UZ:h'.Ns X.env.locals (fun y=>if y=x then v else m y)) (hs:Heap.SameBut X.env.locals s.heap h') (J_:s.toks<=t':=by first|exact ax _|exact bj _|assumption|omega):bG X ak (σ.set i none) H { s with heap:=h',toks:=t' }:=by
 obtain⟨m0,hn0,hl⟩:=id I.loc
 have em:m0=m:=by
  obtain⟨o,es,ep,a1,a2,a3,a4⟩:=hn0
  obtain⟨o',es',ep',b1,b2,b3,b4⟩:=hn
  rw[a1]at b1;cases b1
  rw[a2]at b2;cases b2
  funext y;rw[<- a4,<- b4]
 subst em
 obtain⟨oL,_,_,hoL,_⟩:=id hn0
 have cne:=I.cne
 refine⟨I.ok,I.os,I.bare,⟨fun b o e n hb hx=>?_,fun b o e n hb hx=>?_,I.base.free,fun b o e hx=>?_,I.base.tups,I.base.frzs,I.base.tbls⟩,⟨_,UZ,fun j y w e1 e2 e3=>?_⟩,fun y c e=>?_,I.free,I.freeC,fun p hp=>?_,fun b ob e=>?_,by simpa using I.len,aF I.pos J_,aI I.tk J_⟩
 ·exact(hs.2 b (aW (aF (aB e) I.ok.above))).trans (I.base.keep b o e n hb hx)
 ·obtain⟨sl,e1⟩:=I.base.slot b o e n hb hx
  exact⟨sl,(hs.2 b (aW (aF (aB e) I.ok.above))).trans e1⟩
 ·obtain⟨o',e1⟩:=I.base.there b o e hx
  exact⟨o',(hs.2 b (aW (aF (aB e) I.ok.above))).trans e1⟩
 ·by_cases hj:j=i
  ·subst hj
   by_cases hlt:j<σ.length
   ·rw[bW hlt]at e2;cases e2
   ·rw[bU (by simpa using hlt)]at e2;cases e2
  ·rw[cy (Ne.symm hj)]at e2
   obtain⟨u',r',q⟩:=hl j y w e1 e2 e3
   refine⟨u',r'.up J_,?_⟩
   rcases q with⟨k,e⟩|⟨k,c,e,z⟩
   ·refine .inl ⟨k,?_⟩
    have:y≠x:=fun e=>hj (vo hN e1 (e▸hi))
    simp[this,e]
   ·exact .inr ⟨k,c,e,z.sameBut hs (cne y c e)⟩
 ·obtain⟨w',z⟩:=I.cell y c e
  exact⟨w',z.sameBut hs (cne y c e)⟩
 ·obtain⟨e,n,ne,nf,d⟩:=I.pin p hp
  exact⟨(hs.2 p.1 ne).trans e,n,ne,nf,d⟩
 ·refine((I.hok b ob e).up J_).stay (fun c w' hc q=>(hs.2 c ?_).trans q) (fun _ q=>q) fun _ _ q=>q
  rintro rfl
  rcases hc with rfl|hc
  ·rw[I.free]at e;cases e
  ·rw[I.free]at hc;cases hc
theorem uC.lands{e:Value}{Q:Unit->Shared->Prop}{E:Value->Shared->Prop}{M:Model}(f:uC X ak σ c H e s)(n_:X.stack=X.env::outer)(xz:X.env.frame=some X.env.locals)(hA:X.A.frames=some X.stack)
  (h:∀x C t B h',e=.ref x->X.mg c=some C->H x=none->Heap.FlyingW B X.stack x C (.ref t) h'->s.heap.UpToSlots h' ->
   (∀b o,s.heap.get? b=some o->(H b≠none\/((∃o0,X.s₀.heap.get? b=some o0)/\b∉X.fs/\b∉X.ex)\/((∃y,X.env.cells.lookup y=some b)/\b∉rH X.stack)\/∃p∈X.pn++ak,p.1=b)->B.get? b=some o)->Q () { s with heap:=h' }) :
  wpAny M X.A (noteFrame e X.env) (fun _ s₂=>wpAny M X.A (setFlight e none) Q E s₂) E s:=by
 obtain⟨x,C,t,B,rfl,hC,hx,st,nx,ff,tr,wV⟩:=f.ex
 rw[n_]at ff hA
 rcases tr with tr|⟨oe,vs,he,rfl,_,hd,h1,h0⟩|⟨L,hL,tr⟩
 ·refine wpAny_looks_onW hA xz ⟨st,nx,ff,tr⟩ fun h1 hh u1=>sX hh fun h2 fl u2=>?_
  exact h x C t B h2 rfl hC hx (by rw[n_];exact fl) (u1.trans u2) wV
 ·unfold noteFrame
  simp only[xz]
  refine ae (cY he hd h1 ?_)
  rw[aQ #[3]]
  refine wpAny_newEntryW hA ff xz he st nx hd (Array.getElem?_eq_some_iff.mp h1).1 h0 fun h' hL=>?_
  obtain⟨k1,k2,k3,k4⟩:=hL
  exact h x _ t B h' rfl hC hx ⟨k1,nx,by rw[n_];exact k2,k3⟩ k4 wV
 ·refine oq hL tr (sX ⟨st,nx,ff,tr⟩ fun h' fl up=>?_)
  exact h x C t B h' rfl hC hx (by rw[n_];exact fl) up wV
theorem bG.landed{B:Heap}{x:Addr}{C:Value}{t:Addr}(I:bG X ak σ H s)(fl:Heap.FlyingW B X.stack x C (.ref t) h')(up:s.heap.UpToSlots h')(n_:X.stack=X.env::X.outer)
  (wV:∀b o,s.heap.get? b=some o->(H b≠none\/((∃o0,X.s₀.heap.get? b=some o0)/\b∉X.fs/\b∉X.ex)\/((∃y,X.env.cells.lookup y=some b)/\b∉rH X.stack)\/∃p∈X.pn++ak,p.1=b)->B.get? b=some o) :
  bG X ak σ H { s with heap:=h' }:=by
 obtain⟨f1,f2,f3,f4⟩:=fl
 obtain⟨m,hn,hl⟩:=id I.loc
 have cellK:∀y c,X.env.cells.lookup y=some c->∀v,s.heap.IsCell c v->h'.IsCell c v:=fun y c e v zq=>by
  obtain⟨o,ho,hd⟩:=zq
  by_cases hc:c∈rH X.stack
  ·obtain⟨sl,q⟩:=up c o ho fun vs z=>by rw[hd]at z;cases z
   exact⟨_,q,hd⟩
  ·exact⟨o,f1 c o (wV c o ho (.inr (.inr (.inl ⟨⟨y,e⟩,hc⟩)))),hd⟩
 have frames:∀b∈X.fs,∀o,s.heap.get? b=some o->∃sl,h'.get? b=some { o with slots:=sl }:=fun b hb o ho=>by
  obtain⟨_,o',ho',hd⟩:=I.funs.mem hb
  rw[ho]at ho';cases ho'
  exact up b o ho hd
 have kept:∀b o,s.heap.get? b=some o->(∃o0,X.s₀.heap.get? b=some o0)->b∉X.fs->b∉X.ex->h'.get? b=some o:=fun b o ho h0 hb hx=>f1 b o (wV b o ho (.inr (.inl ⟨h0,hb,hx⟩)))
 refine⟨I.ok,I.os,I.bare,⟨fun b o q n hb hx=>kept b o (I.base.keep b o q n hb hx) ⟨o,q⟩ hb hx,fun b o q n hb hx=>?_,I.base.free,fun b o q hx=>?_,I.base.tups,I.base.frzs,I.base.tbls⟩,⟨m,up.ns hn,fun i y v e1 e2 e3=>?_⟩,fun y c e=>?_,I.free,I.freeC,fun p hp=>?_,fun b u hb=>?_,I.len,I.pos,I.tk⟩
 ·obtain⟨sl,q1⟩:=I.base.slot b o q n hb hx
  obtain⟨sl2,q2⟩:=frames b hb _ q1
  exact⟨sl2,q2⟩
 ·obtain⟨o',q1⟩:=I.base.there b o q hx
  by_cases hb:b∈X.fs
  ·obtain⟨sl2,q2⟩:=frames b hb _ q1;exact⟨_,q2⟩
  ·exact⟨o',kept b o' q1 ⟨o,q⟩ hb hx⟩
 ·obtain⟨u,r,lk⟩:=hl i y v e1 e2 e3
  refine⟨u,r,?_⟩
  rcases lk with lk|⟨k,c,e,z⟩
  ·exact .inl lk
  ·exact .inr ⟨k,c,e,cellK y c e _ z⟩
 ·obtain⟨v,z⟩:=I.cell y c e
  exact⟨v,cellK y c e v z⟩
 ·obtain⟨e,n,ne,nf,d⟩:=I.pin p hp
  exact⟨f1 _ _ (wV _ _ e (.inr (.inr (.inr ⟨p,hp,rfl⟩)))),n,ne,nf,d⟩
 ·refine(I.hok b u hb).stay (fun c v hc q=>f1 c v (wV c v q (.inl ?_))) (fun _ q=>q) fun _ _ q=>q
  rcases hc with rfl|hc
  ·rw[hb];simp
  ·rw[hc];simp
noncomputable abbrev Cx.trying(X:Cx)(pn:List (Addr×Obj))(E:Value->Shared->Prop):Cx:={ X with pn:=pn,xe:=E }
noncomputable abbrev Cx.within(X:Cx)(v:Value):Cx:={ X with A:=X.A.mark (some v),calm:=false,xe:=fun _ _=>False }
theorem Cx.Ok.trying(k:X.Ok)(pn:List (Addr×Obj))(E:Value->Shared->Prop):(X.trying pn E).Ok:=⟨k.mod,k.kind,k.glob,k.blt,k.above,k.inj,k.has,k.cab,k.hd,k.frames,k.stk,k.exf,k.bs,k.bsz,k.noex,k.exfs,k.funs,k.frf⟩
theorem Cx.Ok.within(k:X.Ok)(v:Value):(X.within v).Ok:=⟨k.mod,k.kind,k.glob,k.blt,k.above,k.inj,k.has,k.cab,(fun z=>by cases z),k.frames,k.stk,k.exf,k.bs,k.bsz,k.noex,k.exfs,k.funs,k.frf⟩
section
theorem bG.trying(I:bG X ak σ H s)(E:Value->Shared->Prop):bG (X.trying (X.pn++ak) E) [] σ H s:=⟨I.ok.trying _ _,I.os,I.bare,I.base,I.loc,I.cell,I.free,I.freeC,fun p hp=>I.pin p (by simpa using hp),I.hok,I.len,I.pos,I.tk⟩
theorem bG.tried(ok:X.Ok)(I:bG (X.trying (X.pn++ak) E) pins' σ H s):bG X ak σ H s:=⟨ok,I.os,I.bare,I.base,I.loc,I.cell,I.free,I.freeC,fun p hp=>I.pin p (bz _ hp),I.hok,I.len,I.pos,I.tk⟩
theorem bG.within(I:bG X ak σ H s)(v:Value):bG (X.within v) ak σ H s:=⟨I.ok.within v,I.os,I.bare,I.base,I.loc,I.cell,I.free,I.freeC,I.pin,I.hok,I.len,I.pos,I.tk⟩
theorem bG.out(ok:X.Ok)(I:bG (X.within v) ak σ H s):bG X ak σ H s:=⟨ok,I.os,I.bare,I.base,I.loc,I.cell,I.free,I.freeC,I.pin,I.hok,I.len,I.pos,I.tk⟩
theorem bG.adopt{x:Addr}{ob:HO}(I:bG X ak σ H s)(hx:H x=none)(h0:X.s₀.heap.get? x=none)(hL:x≠X.env.locals)(hc:∀y c,X.env.cells.lookup y=some c->c≠x)(hp:∀p∈X.pn++ak,p.1≠x)(ok:gq X.prog X.w s.toks (fB H x ob) s.heap x ob):bG X ak σ (fB H x ob) s:=by
 have hs:uV H (fB H x ob):=cG hx ob
 refine⟨I.ok,I.os,I.bare,⟨I.base.keep,I.base.slot,fun b o q n hb=>?_,I.base.there,fun b xs q=>hs _ _ (I.base.tups b xs q),fun b o u q=>hs _ _ (I.base.frzs b o u q),fun b ps q=>?_⟩,I.loc,I.cell,?_,fun y c e=>?_,fun p h=>?_,fun b u hb=>?_,I.len,I.pos,I.tk⟩
 ·rw[cM (fun z=>by rw[z,h0]at q;cases q)];exact I.base.free b o q n hb
 ·obtain⟨m,e⟩:=I.base.tbls b ps q;exact⟨m,hs _ _ e⟩
 ·rw[cM (Ne.symm hL)];exact I.free
 ·rw[cM (hc y c e)];exact I.freeC y c e
 ·obtain⟨a,b,c,d,e⟩:=I.pin p h;exact⟨a,by rw[cM (hp p h)];exact b,c,d,e⟩
 ·by_cases e:b=x
  ·subst e;rw[gG]at hb;cases hb;exact ok
  ·rw[cM e]at hb
   exact(I.hok b u hb).stay (fun _ _ _ q=>q) (fun c q=>hs _ _ q) fun c xs q=>hs _ _ q
end
theorem vY{g:Array GenState}{d:Drawn}{t:Nat}{os:OsState}{e:Addr}{oe:Obj}{Q:Bool->Shared->Prop}{nm qn nm' W7:Str}{N D N':Addr}{bs bm W5 VA:List Value}{hdct NR:Bool}{sn W6:List Str}{sub UR:List Value}{ab W4:Bool}{col UY:Option Bool}{dd WL:Option Addr}{k0 k1 k2 k3 k5 j0 j1 j2 j3 j5:Option Value}{qc Ro:String}
  (hC:h.get? C=some (excClassObj nm qn C N bs bm hdct sn sub ab col dd k0 k1 k2 k3 k5 qc)) (hD:h.get? D=some (excClassObj nm' W7 D N' W5 VA NR W6 UR W4 UY WL j0 j1 j2 j3 j5 Ro)) (he:h.get? e=some oe) (JS:oe.cls=.ref C) (jK:VA.contains (.type "BaseException")=true)
  {b:Bool} (hb:(Value.ref C::bm).contains (.ref D)=b) (hq:Q b ⟨h,g,d,t,os⟩):wpAny M A (excMatches (.ref e) (.ref D)) Q E ⟨h,g,d,t,os⟩:=by
 have hcB:(Value.ref D::VA).contains (.type "BaseException")=true:=by rw[md,jK,Bool.or_true]
 have f:=tc_notTuple
 unfold excMatches
 repeat(first|(with_reducible refine eJ he ?_;rw[JS])|with_reducible refine eJ hD ?_|(with_reducible refine iV hD ?_;rw[hcB])|(with_reducible refine iV hC ?_;rw[hb])|wp_step)
 cases b<;>(wp_walk;exact hq)
open AutoSeq1 (wpAny_loadPart')
section
end
section
variable{a b c:Expr}{fb:FE}{fs:FA}
end
noncomputable def PH(i:Nat):RS->RS
 |.nx ρ st=>.nx (ρ.set i none) st
 |.bk ρ st=>.bk (ρ.set i none) st
 |.ct ρ st=>.ct (ρ.set i none) st
 |.rt w st=>.rt w st
 |_=>.bad
def CC(g:FS)(cs:List Str)(i:Nat)(gh:FS):FS:=fun ρ st=>match g ρ st with
 |.ex c ρ' be=>if c∈cs then PH i (gh (ρ'.set i (some (.loc be.length))) (be++[.exc c]))else .bad
 |r=>r
structure G4(K:Frag)(mg:Str->Option Value)(T:Str)(cs:List Str):Prop where
 h:∀c∈cs,∃C Ta,mg c=some (.ref C)/\mg T=some (.ref Ta)/\excIn K C qv qD=true/\excIn K Ta qv qD=true/\(AG K C).contains (.ref Ta)=true
theorem nR:∀{ρ:cf} {σ:St} (i:Nat),Paired (fun(o:Option W) (s:Option V)=>∀w,o=some w->∃v,s=some v/\bO K μ H w v) ρ σ ->
  Paired (fun(o:Option W) (s:Option V)=>∀w,o=some w->∃v,s=some v/\bO K μ H w v) (ρ.set i none) (σ.set i none)
 |_,_,_,.nil=>.nil
 |_,_,0,.cons a t=>.cons (fun w e=>by cases e) t
 |_,_,i+1,.cons a t=>.cons a (nR i t)
theorem jd.pushE(S:jd K mg μ st H){x:Addr}{C:Value}(hx:H x=none)(hc:mg c=some C):jd K mg (μ++[x]) (st++[.exc c]) (fB H x (vI x C)):=
 S.push (c:=.exc c) hx ⟨C,hc,gG⟩
theorem PJ{body NM:List Stmt}{b₀:Stmt}{T n:Str}{i:Nat}{g gh:FS}{cs:List Str}{pos BM np:Pos}(hC:G4 X.K X.mg T cs)(hN:X.N.Nodup)(hi:X.N[i]?=some n)(hx:J3 X.env.scope n)
  (hb:∀pn E,SB (X.trying pn E) body g) (hs:∀v,SB (X.within v) (b₀::NM) gh) (yx:X.ex=[]:=by rfl) (n_:X.stack=X.env::X.outer:=by rfl) (xz:X.env.frame=some X.env.locals:=by rfl) (hk:X.env.kindOf n=some .local:=by rfl) (hg:Gl X T:=by rfl) (hd:(T==("__debug__":Str))=false:=by decide)
  (hf:X.fn n=true\/X.env.scope.names.lookup n=some .local:=by first|exact .inl rfl|exact .inr rfl) :
  SS X (.Try body [.ExceptHandler (some (.Name T np)) (some n) (b₀::NM) BM] [] [] pos) (CC g cs i gh):=⟨by
 intro ak s σ H D I h
 walk_at "2"
 refine wpAny_Try_except ?_
 refine ji ((hb (X.pn++ak) _).h [] s σ H D (I.trying _) ⟨μ,ρ,st,⟨l.env,l.sto⟩,?_⟩) (fun f s1 q=>?_) (fun _ _ q=>q)
 ·unfold CC at h
  cases e:g ρ st with
  |nx ρ' be=>rw[e]at h;exact fun μ' σ' H' p x r=>h μ' σ' H' p x ⟨r.env,r.sto⟩
  |bk ρ' be=>rw[e]at h;exact fun μ' σ' H' p x r=>h μ' σ' H' p x ⟨r.env,r.sto⟩
  |ct ρ' be=>rw[e]at h;exact fun μ' σ' H' p x r=>h μ' σ' H' p x ⟨r.env,r.sto⟩
  |rt w be=>rw[e]at h;exact h
  |bad=>rw[e]at h;exact h
  |ex c ρ' be=>
   rw[e]at h
   intro pins' μ' σ' H' ev s' pp xx r f
   dsimp only at h
   split at h
   ·rename_i hc
    obtain⟨Ca,Ta,m1,m2,q1,q2,hsub⟩:=hC.h c hc
    have I0:=f.inv
    refine f.lands n_ xz I.ok.frames fun ex C t B h' he hCc hxn fl up wV=>?_
    subst he
    obtain rfl:C=.ref Ca:=by have:=hCc.symm.trans m1;exact bq this
    have I1:=I0.landed fl up n_ wV
    have I2:bG X ak σ' H' { s' with heap:=h' }:=bG.tried I.ok I1
    obtain⟨oe,vs,_,_,_,J',⟨JS,_⟩,hdat,_⟩:=fl.2.2.2
    have cov2:∀b o,h'.get? b=some o->(H' b≠none\/((∃o0,X.s₀.heap.get? b=some o0)/\b∉X.fs/\b∉X.ex)\/((∃y,X.env.cells.lookup y=some b)/\b∉rH X.stack)\/∃p∈X.pn++ak,p.1=b)->B.get? b=some o:=by
     intro b o hbo hr
     have j_:∀o1,s'.heap.get? b=some o1->(H' b≠none\/((∃o0,X.s₀.heap.get? b=some o0)/\b∉X.fs/\b∉X.ex)\/((∃y,X.env.cells.lookup y=some b)/\b∉rH X.stack)\/∃p∈(X.pn++ak)++pins',p.1=b)->B.get? b=some o:=fun o1 h1 hr=>by
      have h2:=wV b o1 h1 hr
      have h3:=fl.1 b o1 h2
      rw[h3]at hbo;cases hbo;exact h2
     rcases hr with hr|⟨⟨o0,h0⟩,hbf,hbx⟩|⟨⟨y,hy⟩,hbf⟩|⟨p,hp,rfl⟩
     ·cases hu:H' b with
      |none=>exact absurd hu hr
      |some u=>obtain⟨ob,hob⟩:=(I0.hok b u hu).ex;exact j_ ob hob (.inl hr)
     ·obtain⟨o1,h1⟩:=I0.base.there b o0 h0 hbx
      exact j_ o1 h1 (.inr (.inl ⟨⟨o0,h0⟩,hbf,hbx⟩))
     ·obtain⟨v,ov,hov,_⟩:=I0.cell y b hy
      exact j_ ov hov (.inr (.inr (.inl ⟨⟨y,hy⟩,hbf⟩)))
     ·obtain⟨p1,_⟩:=I0.pin p (bz _ hp)
      exact j_ _ p1 (.inr (.inr (.inr ⟨p,bz _ hp,rfl⟩)))
    have noB:∀o,B.get? ex=some o->False:=fun o z=>by have:=fl.2.1;rw[z]at this;cases this
    obtain⟨bm,N,nm,qn,bs,hdct,sn,sub,ab,col,dd,k0,k1,k2,k3,k5,mN,g1,g2,g3,g4,g5⟩:=qm I2.kIn q1
    obtain⟨VA,N',nm',W7,W5,NR,W6,UR,W4,UY,WL,j0,j1,j2,j3,j5,mN',g1',g2',g3',g4',g5'⟩:=qm I2.kIn q2
    refine wpAny_handleBy_cons (codeAny_handlers_test ?_) (by intro z;cases z)
    refine rJ (X:=X.within (.ref ex)) (I2.within _) hg m2 ?_ hd
    refine vY g1 g1' J' JS (g4'.hasType F.excBase_ValueError.hasBase) (b:=true) (by rw[<- g5];exact hsub) ?_
    refine codeAny_handlers_suite_as ?_
    refine lands_againW fl fun h2 fl2 up2=>?_
    have I3:bG X ak σ' H' { s' with heap:=h2 }:=I2.landed fl2 up2 n_ cov2
    obtain⟨oe2,vs2,_,_,_,heo2,⟨hcls2,_⟩,hdat2,_⟩:=fl2.2.2.2
    have I4:bG X ak σ' (fB H' ex (vI ex (.ref Ca))) { s' with heap:=h2 }:=by
     refine I3.adopt hxn ?_ ?_ ?_ ?_ ?_
     ·cases h0:X.s₀.heap.get? ex with
      |none=>rfl
      |some o0=>
       exfalso
       by_cases hfs:ex∈X.fs
       ·obtain⟨_,o',ho',hd'⟩:=I3.funs.mem hfs
        have ho':h2.get? ex=some o':=ho'
        rw[heo2]at ho';cases ho'
        exact hd' _ hdat2
       ·exact noB _ (cov2 ex oe J' (.inr (.inl ⟨⟨o0,h0⟩,hfs,by rw[yx];simp⟩)))
     ·rintro rfl
      obtain⟨m,⟨o,es,ep,a1,a2,_⟩,_⟩:=I3.loc
      have a1:h2.get? _=some o:=a1
      rw[heo2]at a1;cases a1
      rw[hdat2]at a2;cases a2
     ·rintro y c' hy rfl
      obtain⟨v,o,a1,a2⟩:=I3.cell y _ hy
      have a1:h2.get? _=some o:=a1
      rw[heo2]at a1;cases a1
      rw[hdat2]at a2;cases a2
     ·rintro p hp rfl
      exact noB _ (cov2 p.1 oe J' (.inr (.inr (.inr ⟨p,hp,rfl⟩))))
     ·refine⟨⟨oe2,vs2,heo2,hcls2,hdat2⟩,⟨oe2,heo2⟩,?_⟩
      rintro ha hb' ⟨o,vs,z1,z2,z3⟩ keep
      exact⟨o,vs,keep o z1,z2,z3⟩
    have hxt:eV X.K H' (fB H' ex (vI ex (.ref Ca))):=fU.same (cG hxn _)
    refine vp (X:=X.within (.ref ex)) (I4.within _) hN hi hx (v:=.ref ex) rfl (fun s5 I5=>?_) hf
    have S4:jd X.K X.mg (μ'++[ex]) (be++[.exc c]) (fB H' ex (vI ex (.ref Ca))):=jd.pushE r.sto hxn m1
    have L4:Rl (X.within (.ref ex)) (μ'++[ex]) (ρ'.set i (some (.loc be.length))) (be++[.exc c]) (σ'.set i (some (.ref ex))) (fB H' ex (vI ex (.ref Ca))):=
     ⟨rN (pJ r.sto) i (tF (aX _ _) hxt r.env),S4⟩
    have pm:μ <+: μ'++[ex]:=pp.trans (aX _ _)
    have xm:eV X.K H (fB H' ex (vI ex (.ref Ca))):=xx.trans hxt
    have hp:(X.env.scope.kind==.class||(X.env.scope.kind==.module&&X.env.locals != X.env.globals))=false:=by rw[I.ok.kind];rfl
    refine ji ((hs (.ref ex)).h ak s5 _ _ { nx:=fun σ H=>D.nx (σ.set i none) H,rt:=D.rt,bk:=fun σ H=>D.bk (σ.set i none) H,ct:=fun σ H=>D.ct (σ.set i none) H } I5 ⟨μ'++[ex],_,_,L4,?_⟩) (fun f6 s6 q=>?_) (fun _ _ z=>z.elim)
    ·cases e2:gh (ρ'.set i (some (.loc be.length))) (be++[.exc c])with
     |nx ρ2 cW=>rw[e2]at h;exact fun μ3 σ3 H3 p3 x3 r3=>h μ3 (σ3.set i none) H3 (pm.trans p3) (xm.trans x3) ⟨nR i r3.env,r3.sto⟩
     |bk ρ2 cW=>rw[e2]at h;exact fun μ3 σ3 H3 p3 x3 r3=>h μ3 (σ3.set i none) H3 (pm.trans p3) (xm.trans x3) ⟨nR i r3.env,r3.sto⟩
     |ct ρ2 cW=>rw[e2]at h;exact fun μ3 σ3 H3 p3 x3 r3=>h μ3 (σ3.set i none) H3 (pm.trans p3) (xm.trans x3) ⟨nR i r3.env,r3.sto⟩
     |rt w cW=>rw[e2]at h;exact fun μ3 v H3 p3 x3 S3 r3=>h μ3 v H3 (pm.trans p3) (xm.trans x3) S3 r3
     |ex c2 ρ2 cW=>rw[e2]at h;exact h.elim
     |bad=>rw[e2]at h;exact h.elim
    ·cases f6 with
     |next=>
      obtain⟨σ6,H6,I6,q⟩:=q
      have I6':bG X ak σ6 H6 s6:=bG.out I.ok I6
      obtain⟨m,hn,hl⟩:=id I6'.loc
      exact iC hk hn hp fun h7 v hn7 hs7=>⟨_,H6,I6'.unbound hN hi hn hn7 hs7,q⟩
     |brk=>
      obtain⟨σ6,H6,I6,q⟩:=q
      have I6':bG X ak σ6 H6 s6:=bG.out I.ok I6
      obtain⟨m,hn,hl⟩:=id I6'.loc
      exact iC hk hn hp fun h7 v hn7 hs7=>⟨_,H6,I6'.unbound hN hi hn hn7 hs7,q⟩
     |cont=>
      obtain⟨σ6,H6,I6,q⟩:=q
      have I6':bG X ak σ6 H6 s6:=bG.out I.ok I6
      obtain⟨m,hn,hl⟩:=id I6'.loc
      exact iC hk hn hp fun h7 v hn7 hs7=>⟨_,H6,I6'.unbound hN hi hn hn7 hs7,q⟩
     |ret u=>
      obtain⟨v6,σ6,H6,I6,rr,q⟩:=q
      have I6':bG X ak σ6 H6 s6:=bG.out I.ok I6
      obtain⟨m,hn,hl⟩:=id I6'.loc
      exact iC hk hn hp fun h7 v hn7 hs7=>⟨v6,_,H6,I6'.unbound hN hi hn hn7 hs7,rr.up (bj _),q⟩
   ·exact h.elim
 ·cases f with
  |next=>
   obtain⟨σ',H',I',q⟩:=q
   exact i_ ⟨σ',H',bG.tried I.ok I',q⟩
  |brk=>obtain⟨σ',H',I',q⟩:=q;exact⟨σ',H',bG.tried I.ok I',q⟩
  |cont=>obtain⟨σ',H',I',q⟩:=q;exact⟨σ',H',bG.tried I.ok I',q⟩
  |ret u=>obtain⟨v,σ',H',I',rr,q⟩:=q;exact⟨v,σ',H',bG.tried I.ok I',rr,q⟩⟩
section
variable{w:World}{g:Array GenState}{d:Drawn}{t:Nat}{os:OsState}{a:Addr}{o:Obj}
 {nm q:Str} {C N:Addr} {bs bm:List Value} {hdct:Bool} {sn:List Str} {sub:List Value} {ab:Bool} {col:Option Bool} {dd:Option Addr} {k0 k1 k2 k3 k5:Option Value} {qc:String} {K:Frag}
theorem PK{R:Result->Shared->Prop}(hC:h.get? C=some #[22])(T:OwnTail h qv bm)(hx:h.get? a=some o)(hc:o.cls=.ref C)(hq:R (.ok (.ret (.ref C))) ⟨h,g,d,t,os⟩) :
  codeAny #[7] A (.call (.builtin "getset_descriptor.__get__") ⟨[.builtin "object.__class__",.ref a,.ref C],[]⟩) R ⟨h,g,d,t,os⟩:=by
 have hT5:(⟨h,g,d,t,os⟩:Shared).TypeIs (.builtin "object.__class__") "getset_descriptor":=jT
 have hcB:(Value.ref C::bm).contains (.type (".".intercalate ("object.__class__".cutAt '.').dropLast))=true:=by
  rw[F.owner_object_class,md,T.hasType (X:="object") (b:=true) #[3]]
  rfl
 refine kI F.slot_gs_get.plain F.entry_gs_get (F.slot_gs_get.check _ _ _ _ _ _ _ _ hT5 (F.args_gs_get _ _ _) ?_)
 repeat(any_goals (first|assumption|(with_reducible refine eJ hx ?_;rw[hc])|(with_reducible refine iV hC ?_;rw[hcB])|wp_step))
 refine⟨Code.quiet_builtin _ (by decide +kernel),df F.entry_object_class ?_⟩
 repeat(any_goals (first|assumption|(with_reducible refine eJ hx ?_;rw[hc])|wp_step))
theorem yW{Q:Option Value->Shared->Prop}{r:Option Value}(X:K.In h)(f:findIn K (.ref C) x=some r)(hq:Q r ⟨h,g,d,t,os⟩):wpAny #[7] A (typeLookup (.ref C) x) Q E ⟨h,g,d,t,os⟩:=
 PySem.W.looks_findIn X f A Q E _ (fun _ _ z=>z) hq
theorem G5{tk:Tok}{Q:Fin->Shared->Prop}(X:K.In h)(f2:findIn K (.ref C) "__class__"=some (some (.builtin "object.__class__")))(hC:h.get? C=some #[22])(T:OwnTail h qv bm)(hx:h.get? a=some o)(hc:o.cls=.ref C)
  (hq:Q (.done (.ret (.ref C))) ⟨h,g,d,t,os⟩):wpAny #[7] A (Builtin.«object.__getattribute__» ⟨[.ref a,.str "__class__" tk],[]⟩) Q E ⟨h,g,d,t,os⟩:=by
 have hT5:(⟨h,g,d,t,os⟩:Shared).TypeIs (.builtin "object.__class__") "getset_descriptor":=jT
 have f5:=jT
 have f6:=F.slot_gs_get.lookup
 have f7:=F.slot_gs_set.lookup
 repeat(any_goals (first|assumption|(with_reducible refine eJ hx ?_;rw[hc])|with_reducible refine yW X f2 ?_|wp_step))
 refine PK hC T hx hc ?_
 repeat(any_goals (first|assumption|wp_step))
theorem G6{Q:Unit->Shared->Prop}(hC:h.get? C=some #[22])(T:OwnTail h qv bm)(hx:h.get? a=some o)(hc:o.cls=.ref C)(hq:Q () ⟨h,g,d,t,os⟩) :
  wpAny M A (checkBuiltinCall "BaseException.__getattribute__" ⟨[.ref a,v],[]⟩) Q E ⟨h,g,d,t,os⟩:=by
 have hcB:(Value.ref C::bm).contains (.type "BaseException")=true:=by
  rw[md,T.hasType (X:="BaseException") (b:=true) #[3]]
  rfl
 have ha:=F.args_bexc_ga (.ref a) v
 have kd:builtinKind "BaseException.__getattribute__"=some .slot:=by decide +kernel
 have sp:splitId "BaseException.__getattribute__"=some ("BaseException","__getattribute__"):=by decide +kernel
 simp only[checkBuiltinCall,kd,sp]
 refine ae ?_
 unfold isInstance
 repeat(first|(with_reducible refine eJ hx ?_;rw[hc])|(with_reducible refine iV hC ?_;rw[hcB])|wp_step)
 exact hq
theorem Ld{tk:Tok}{R:Result->Shared->Prop}(X:K.In h)(f2:findIn K (.ref C) "__class__"=some (some (.builtin "object.__class__")))(hC:h.get? C=some #[22])(T:OwnTail h qv bm)(hx:h.get? a=some o)(hc:o.cls=.ref C)
  (hq:R (.ok (.ret (.ref C))) ⟨h,g,d,t,os⟩):codeAny #[7] A (.call (.builtin "BaseException.__getattribute__") ⟨[.ref a,.str "__class__" tk],[]⟩) R ⟨h,g,d,t,os⟩:=
 kI F.attrBase_ValueError.ga.plain F.entry_bexc_ga (G6 hC T hx hc (G5 X f2 hC T hx hc hq))
theorem Tu{tk:Tok}(X:K.In h)(f1:findIn K (.ref C) "__getattribute__"=some (some (.builtin "BaseException.__getattribute__")))(f3:findIn K (.ref C) "__getattr__"=some none)(f2:findIn K (.ref C) "__class__"=some (some (.builtin "object.__class__")))
  (hC:h.get? C=some #[22]) (T:OwnTail h qv bm) (hx:h.get? a=some o) (hc:o.cls=.ref C) (hq:Q (.ref C) ⟨h,g,d,t,os⟩) :
  wpAny #[7] A (getAttrBy (.ref a) (.str "__class__" tk) false) Q E ⟨h,g,d,t,os⟩:=by
 have f4:=F.attrBase_ValueError.ga.bind (.ref a)
 have hx2:(Value.builtin "BaseException.__getattribute__" == Value.builtin "object.__getattribute__")=false:=by decide +kernel
 have hx1:(onTheHeap (Value.ref C)&&Value.builtin "BaseException.__getattribute__" == Value.builtin "object.__getattribute__")=false:=by rw[hx2];rfl
 repeat(any_goals (first|assumption|(with_reducible refine eJ hx ?_;rw[hc])|with_reducible refine yW X f1 ?_|with_reducible refine yW X f3 ?_|wp_step))
 refine Ld X f2 hC T hx hc ?_
 repeat(any_goals (first|assumption|wp_step))
theorem Le{Q:Option Value->Shared->Prop}(X:K.In h)(f1:findIn K (.ref C) "__getattribute__"=some (some (.builtin "BaseException.__getattribute__")))(f3:findIn K (.ref C) "__getattr__"=some none)(f2:findIn K (.ref C) "__class__"=some (some (.builtin "object.__class__")))
  (hC:h.get? C=some #[22]) (T:OwnTail h qv bm) (hx:h.get? a=some o) (hc:o.cls=.ref C) (hq:Q (some (.ref C)) ⟨h,g,d,t+1,os⟩) :
  wpAny #[7] A (getAttr? (.ref a) "__class__") Q E ⟨h,g,d,t,os⟩:=by
 unfold getAttr? getAttrBy?
 repeat(any_goals (first|assumption|with_reducible apply Tu X f1 f3 f2 hC T hx hc|wp_step))
end
end L2
namespace L2
open PySem PySem.Spec PyProof.Rows
structure G7(K:Frag)(C:Addr):Prop where
 ga:findIn K (.ref C) "__getattribute__"=some (some (.builtin "BaseException.__getattribute__"))
 gt:findIn K (.ref C) "__getattr__"=some none
 cl:findIn K (.ref C) "__class__"=some (some (.builtin "object.__class__"))
theorem AH{x:Addr}(q:excIn K C qv qD=true)(n:G7 K C):PySem.W.KitX K (.ref x) (.ref C) (fun h=>∃o,h.get? x=some o/\o.cls=.ref C) where
 ty:=fun M h X zq A Q E s k z=>by
  obtain⟨o,h1,h2⟩:=zq
  unfold typeOf
  refine ae (qe (k _ _ h1) ?_)
  rw[h2]
  exact au z
 it:=fun M h X _ A Q E s k z=>by
  obtain⟨bm,N,nm,qn,bs,hdct,sn,sub,ab,col,dd,k0,k1,k2,k3,k5,mN,g1,_⟩:=qm X q
  unfold isType loadHead
  exact ae (qe (k _ _ g1) (au z))
 ne:=fun h tp dd bP m sl X htp=>by
  obtain⟨bm,N,nm,qn,bs,hdct,sn,sub,ab,col,WL,k0,k1,k2,k3,k5,mN,g1,_⟩:=qm X q
  refine Bool.eq_false_iff.mpr fun z=>?_
  have e:C=tp:=Value.ref.inj (cI.mp z)
  subst e
  rw[g1]at htp
  have z2:(Value.type "type")=.type "tuple":=gT Obj.cls (bq htp)
  exact absurd z2 #[3]
 ca:=fun{prog w A E Q s} X p z=>by
  obtain⟨o,h1,h2⟩:=p
  obtain⟨bm,N,nm,qn,bs,hdct,sn,sub,ab,col,dd,k0,k1,k2,k3,k5,mN,g1,g2,g3,g4,g5⟩:=qm X q
  obtain⟨h,g,d,t,os⟩:=s
  exact Le X n.ga n.gt n.cl g1 g4 h1 h2 z
structure CD(K:Frag)(mg:Str->Option Value)(T:Value)(f:Str->Option Bool):Prop where
 h:∀c b,f c=some b->∃C,mg c=some (.ref C)/\excIn K C qv qD=true/\G7 K C/\kitOne K (.ref C) T=some b
theorem x5{T:V}{Tv:Value}(hT:∀(nk:Nat) (u:Value),dh nk T u->u=Tv){f:Str->Option Bool}(hI:CD X.K X.mg Tv f) :
  iL X (.builtin "isinstance") (fun xs H Q=>∃x μ st n c b,xs=[x,T]/\jd X.K X.mg μ st H/\bO X.K μ H (.loc n) x/\st[n]?=some (.exc c)/\f c=some b/\Q (.bl b) H):=by
 intro ak s σ H xs us Q I r h
 obtain⟨x,μ,st,n,c,b,rfl,S,rx,hn,hf,q⟩:=h
 obtain⟨u,u2,rfl,r1,r2⟩:=cu.two r
 obtain rfl:=hT _ u2 r2
 obtain⟨C,hm,hq,UX,hk⟩:=hI.h c b hf
 obtain⟨a,ha,C',hm',hH⟩:=S.get hn
 obtain⟨a',ha',rfl⟩:=rx.locE
 rw[ha]at ha';cases ha'
 rw[hm]at hm';cases hm'
 cases(show u=Value.ref a from r1)
 obtain⟨⟨o,vs,h1,h2,h3⟩,_⟩:=I.hok a _ hH
 exact up (kia_one (AH hq UX) I.kIn ⟨o,h1,h2⟩ hk (fun z=>nomatch z) fun tk hk=>⟨.bl _,H,I.tok tk,rfl,q⟩)
def vZ(f:Str->Option Bool)(fa:FE):FE:=fun ρ st=>(fa ρ st).bind fun x st=>match x with
 |.loc n=>(match st[n]? with
  |some (.exc c)=>(match f c with
   |some b=>.ok (.bl b) st
   |none=>.bad)
  |_=>.bad)
 |_=>.bad
section
variable{a:Expr}
theorem G8{T:V}{f:Str->Option Bool}{t:TE}(h:PE X e t)(hi:∀σ H Q,(tE X fa) σ H (fun x H1=>∃x' μ st n c b,([x,T]:List V)=[x',T]/\jd X.K X.mg μ st H1/\bO X.K μ H1 (.loc n) x'/\st[n]?=some (.exc c)/\f c=some b/\Q (.bl b) H1)->t σ H Q):SE X e (vZ f fa):=⟨h.imp fun σ H Q z=>by
 refine hi σ H Q ?_
 obtain⟨μ,ρ,st,l,z⟩:=z
 refine⟨μ,ρ,st,l,RK.bind z l fun μ1 st1 x v H1 p1 x1 l1 q1 h1=>?_⟩
 split at h1
 ·rename_i n
  split at h1
  ·rename_i c e1
   split at h1
   ·rename_i b e2
    exact⟨v,μ1,st1,n,c,b,rfl,l1.sto,q1,e1,e2,h1 μ1 _ H1 (ao _) eV.refl l1.sto .bl⟩
   ·exact h1.elim
  ·exact h1.elim
 ·exact h1.elim⟩
theorem G9{xT:Str}{Ta:Addr}{f:Str->Option Bool}(hm:X.mg "isinstance"=none)(hT:X.mg xT=some (.ref Ta))(hI:CD X.K X.mg (.ref Ta) f)(ha:SE X a fa)(hg:Gl X "isinstance":=by rfl)(Vb:Gl X xT:=by rfl)(hd:(xT==("__debug__":Str))=false:=by decide)
  (he:starEach [a,.Name xT p2] X.env=(false,eval a X.env)::starEach [.Name xT p2] X.env:=by rfl) (L0:starEach [.Name xT p2] X.env=(false,eval (.Name xT p2) X.env)::starEach [] X.env:=by rfl) (lU:(backTo pos (starEach [.Name xT p2] X.env)).any (·.1)=false:=by rfl) :
  SE X (.Call (.Name "isinstance" p) [a,.Name xT p2] [] pos) (vZ f fa):=
 G8 (T:=.ref Ta) (pG (x5 (T:=.ref Ta) (Tv:=.ref Ta) (fun _ _ r=>r) hI) hg hm i' (kh ha.h (kh (yG Vb hT (v:=.ref Ta) rfl hd) tw L0) he) #[3] #[3] he lU) fun _ _ _ z=>z
theorem Tw{xT:Str}{f:Str->Option Bool}(hm:X.mg "isinstance"=none)(hT:X.mg xT=none)(hv:bootBuiltins xT=some (.type T))(hI:CD X.K X.mg (.type T) f)(ha:SE X a fa)(hg:Gl X "isinstance":=by rfl)(Vb:Gl X xT:=by rfl)(hn:xT ≠ "__name__":=by decide)(hd:(xT==("__debug__":Str))=false:=by decide)
  (he:starEach [a,.Name xT p2] X.env=(false,eval a X.env)::starEach [.Name xT p2] X.env:=by rfl) (L0:starEach [.Name xT p2] X.env=(false,eval (.Name xT p2) X.env)::starEach [] X.env:=by rfl) (lU:(backTo pos (starEach [.Name xT p2] X.env)).any (·.1)=false:=by rfl) :
  SE X (.Call (.Name "isinstance" p) [a,.Name xT p2] [] pos) (vZ f fa):=
 G8 (T:=.ty T) (pG (x5 (T:=.ty T) (Tv:=.type T) (fun _ _ r=>r) hI) hg hm i' (kh ha.h (kh (Dz Vb hT hv (v:=.ty T) rfl hn hd) tw L0) he) #[3] #[3] he lU) fun _ _ _ z=>z
end
end L2
namespace L2
open PySem PySem.Spec PyProof.Rows
inductive Tx(X:Cx):List Expr->List Addr->Prop
 |nil:Tx X [] []
 |cons {x:Str} {p:Pos} {C:Addr} {es:List Expr} {cs:List Addr}:X.mg x=some (.ref C)->Gl X x->(x==("__debug__":Str))=false->Tx X es cs->Tx X (.Name x p::es) (C::cs)
def Xk(vs:List V):TA:=fun _ H Q=>Q vs H
theorem PL{cs:List Addr}(h:Tx X es cs):PA X es (Xk (cs.map V.ref)):=by
 induction h with
 |nil=>exact tw
 |cons hm hg hd _ ih=>exact(kh (yG hg hm (v:=.ref _) rfl hd) ih rfl).imp fun _ _ _ z=>z
structure G_(K:Frag)(mg:Str->Option Value)(Cs:List Addr)(f:Str->Option Bool):Prop where
 h:∀c b,f c=some b->∃C,mg c=some (.ref C)/\excIn K C qv qD=true/\G7 K C/\kitAny K (.ref C) (Cs.map Value.ref)=some b
theorem x6:∀{Cs:List Addr} {us:List Value},cu nk (Cs.map V.ref) us->us=Cs.map Value.ref
 |[],us,r=>by cases r;rfl
 |C::Cs,us,r=>by
  cases r with
  |cons a t=>rw[x6 t,show _=Value.ref C from a];rfl
theorem Fe{Cs:List Addr}{f:Str->Option Bool}(hI:G_ X.K X.mg Cs f) :
  iL X (.builtin "isinstance") (fun xs H Q=>∃x tp μ st n c b,xs=[x,.ref tp]/\jd X.K X.mg μ st H/\bO X.K μ H (.loc n) x/\st[n]?=some (.exc c)/\f c=some b/\fU X.K H tp (Cs.map V.ref)/\Q (.bl b) H):=by
 intro ak s σ H xs us Q I r h
 obtain⟨x,tp,μ,st,n,c,b,rfl,S,rx,hn,hf,hS,q⟩:=h
 obtain⟨u,u2,rfl,r1,r2⟩:=cu.two r
 cases(show u2=Value.ref tp from r2)
 obtain⟨C,hm,hq,UX,hk⟩:=hI.h c b hf
 obtain⟨a,ha,C',hm',hH⟩:=S.get hn
 obtain⟨a',ha',rfl⟩:=rx.locE
 rw[ha]at ha';cases ha'
 rw[hm]at hm';cases hm'
 cases(show u=Value.ref a from r1)
 obtain⟨⟨o,vs,h1,h2,h3⟩,_⟩:=I.hok a _ hH
 obtain⟨bP,rt,⟨ot,e2,hc,n2,hd⟩,z2⟩:=I.tuple hS
 have hits:=x6 rt
 subst hits
 obtain⟨cls,dd,data,sl⟩:=ot
 dsimp only at hc hd
 subst hc hd
 exact up (PySem.W.kia_tup (AH hq UX) I.kIn ⟨o,h1,h2⟩ e2 hk (fun z=>nomatch z) fun tk J_=>⟨.bl _,H,I.tok tk,rfl,q⟩)
section
variable{a:Expr}
theorem PM{Cs:List Addr}{f:Str->Option Bool}(hm:X.mg "isinstance"=none)(hT:Tx X es Cs)(hI:G_ X.K X.mg Cs f)(hz:Cs.length<=sizeLine)(ha:SE X a fa)(hg:Gl X "isinstance":=by rfl)
  (he:starEach [a,.Tuple es k p2] X.env=(false,eval a X.env)::starEach [.Tuple es k p2] X.env:=by rfl) (L0:starEach [.Tuple es k p2] X.env=(false,eval (.Tuple es k p2) X.env)::starEach [] X.env:=by rfl) (lU:(backTo pos (starEach [.Tuple es k p2] X.env)).any (·.1)=false:=by rfl) :
  SE X (.Call (.Name "isinstance" p) [a,.Tuple es k p2] [] pos) (vZ f fa):=⟨(pG (Fe hI) hg hm i' (kh ha.h (kh (DL (PL hT)) tw L0) he) #[3] #[3] he lU).imp fun σ H Q h=>by
 walk_at "2"
 walk_at "1"
 split at h1
 ·rename_i n
  split at h1
  ·rename_i c e1
   split at h1
   ·rename_i b e2
    refine⟨by rw[az];exact hz,fun tp H2 hp e=>?_⟩
    subst e
    have xx:eV X.K H1 (fB H1 tp (.tup (Cs.map V.ref))):=fU.same (cG hp _)
    exact⟨v,tp,μ1,st1,n,c,b,rfl,l1.sto.same (cG hp _),q1.mono (ao _) xx,e1,e2,fU.new,h1 μ1 _ _ (ao _) xx (l1.sto.same (cG hp _)) .bl⟩
   ·exact h1.elim
  ·exact h1.elim
 ·exact h1.elim⟩
end
end L2
namespace L2
open PySem PySem.Spec PyProof.Rows
section
end
section
theorem v0(l:List α):∀(k:Nat) (i8:List α),List.foldl (fun x1 x2=>x1++x2) i8.toArray (List.replicate k l.toArray)=(i8++(List.replicate k l).flatten).toArray
 |0,i8=>by simp
 |k+1,i8=>by
  have e:i8.toArray++l.toArray=(i8++l).toArray:=by simp
  rw[List.replicate_succ,List.foldl_cons,e,v0 l k (i8++l),List.replicate_succ,mK,aj]
theorem PN(l:List Nat)(n:Int):Txt.mul (tx l) n=tx (List.replicate n.toNat l).flatten:=by
 unfold Txt.mul
 by_cases h:n<1
 ·rw[aD h,show n.toNat=0 by omega];rfl
 ·rw[aQ h]
  split
  ·rename_i hc
   rw[Bool.or_eq_true,cI,cI,jc]at hc
   rcases hc with rfl|hc
   ·simp
   ·have:l=[]:=List.length_eq_zero_iff.mp hc
    subst this
    simp
  ·have:=v0 l n.toNat []
   rw[dD]at this
   show Str.mk _=Str.mk _
   congr 1
theorem Lf:oZ X (binaryOp .Mult) (fun x y H Q=>∃(l:List Nat) (k:Int),x=.str (tx l)/\y=.int k/\-(2^62)<=k/\k<2^62/\l.length*k.toNat<=1000000/\l.length*k.toNat≠1/\Q (.str (tx (List.replicate k.toNat l).flatten)) H):=by
 intro ak s σ H x y v u Q I rx ry h
 obtain⟨l,k,rfl,rfl,h1,h2,h3,h31,q⟩:=h
 obtain⟨t,rfl⟩:=rx
 obtain⟨t',rfl⟩:=ry
 refine up (SB.mul ⟨?_,?_,?_⟩ fun t2 tk hk=>⟨.str _,H,I.tok _,⟨⟨t2,fun e=>absurd e ?_⟩,?_⟩,q⟩)
 ·simp;omega
 ·intro hk hx
  rw[jc]
  intro hg
  have hk1:1<=k:=by omega
  have:k*((2^63-1)/k)<=2^63-1:=Int.mul_ediv_self_le #[0]
  have h4:(2^63-1)<k*(l.length:Int):=by
   have:=Int.lt_mul_of_ediv_lt (a:=2^63-1) (b:=(l.length:Int)) (c:=k) #[0] hg
   rw[ou];exact this
  have h5:k*(l.length:Int)=((l.length*k.toNat:Nat):Int):=by
   rw[ja,Int.toNat_of_nonneg #[0],ou]
  rw[h5]at h4
  omega
 ·intro hk hx
  rw[jc]
  unfold Builtin.Str.tooLong
  rw[aU]
  have:(1000000:Nat)<=sizeLine:=by decide
  omega
 ·rw[jc];simpa[Nat.mul_comm]using h31
 ·rw[PN]
def ik:W->W->List am->R W
 |.int i,.int j,st=>if Pf i j then .ok (.int (i*j)) st else .bad
 |.str l,.int k,st=>if -(2^62)<=k/\k<2^62/\l.length*k.toNat<=m5/\l.length*k.toNat≠1 then .ok (.str (List.replicate k.toNat l).flatten) st else .bad
 |_,_,_=>.bad
theorem PP:wR X (binaryOp .Mult) ik:=⟨fun ak s σ H x y v u Q I rv ru zq=>by
 obtain⟨μ,st,wx,wy,S,rx,ry,q⟩:=zq
 cases wx with
 |int i=>
  cases wy with
  |int j=>
   have q':FN X μ H Q (S8 (.int i) (.int j) st):=q
   exact S_.h ak s σ H x y v u Q I rv ru ⟨μ,st,.int i,.int j,S,rx,ry,q'⟩
  |_=>exact q.elim
 |str l=>
  cases wy with
  |int k=>
   simp only[ik]at q
   split at q
   ·rename_i cc
    exact Lf ak s σ H x y v u Q I rv ru ⟨l,k,rx.strE,ry.intE,cc.1,cc.2.1,cc.2.2.1,cc.2.2.2,rP S q⟩
   ·exact q.elim
  |_=>exact q.elim
 |_=>cases wy<;>exact q.elim,fun x y st=>by
 unfold ik
 repeat' split
 all_goals trivial⟩
end
section
variable{fs:FA}
end
section
variable{w:World}
theorem v3:∀(l:List Nat) (vs:List Value),vs.length=l.length->(∀(j:Nat) (v:Value),vs[j]?=some v->∃c u,l[j]?=some c/\v=.str (tx [c]) u)->StrsAre vs (l.map fun c=>tx [c])
 |[],[],_,_=>.nil
 |c::l,v::vs,hl,h=>by
  obtain⟨d,u,e,rfl⟩:=h 0 v rfl
  cases e
  exact .cons _ _ (v3 l vs (Nat.succ.inj hl) fun j v hj=>h (j+1) v hj)
 |[],_::_,hl,_=>nomatch hl
 |_::_,[],hl,_=>nomatch hl
noncomputable abbrev PQ(i8:Array Value)(c:Nat):Obj:={ cls:=.type "list",data:=.seq i8 c }
theorem G'{R:Result->Shared->Prop}{I:Addr}{wr:List Addr}{n0:Nat}{P:Nat->Value->Prop}{St:Nat->Heap->Prop}(W:Walks prog w A.in1 I fp wr n P St)(NZ:n<=sizeLine)(D:Addr)(hD:D∉fp)(res:Value)
  (BJ:∀i (s:Shared) (Q:Option Value->Shared->Prop) (E:Value->Shared->Prop),n0<=s.toks->i<n->St i s.heap ->
   (∀v h' tk,s.toks<=tk->iW tk [v]->P i v->St (i+1) h'->(∀b o,b∉wr->s.heap.get? b=some o->h'.get? b=some o)->Q (some v) { s with heap:=h',toks:=tk })->wpAny #[7] A.in1 (pyNext (.ref I)) Q E s) :
  ∀(m i:Nat) (z:Shared) (Eu:Array Value) (c:Nat),i+m=n->n0<=z.toks->St i z.heap->z.heap.get? D=some (PQ Eu c)->ItemsOf P Eu i->iW z.toks Eu.toList ->
   (∀g tk got' c',z.toks<=tk->(∀b o,b≠D->b∉wr->z.heap.get? b=some o->g.get? b=some o)->g.get? D=some (PQ got' c')->ItemsOf P got' n->iW tk got'.toList->R (.ok (.ret res)) { z with heap:=g,toks:=tk }) ->
   codeAny #[7] A (.builtin "list.extend.loop" ⟨[.ref D,.ref I,res],[]⟩) R z:=by
 have nw:D∉wr:=fun h=>hD (W.sub _ h)
 intro m
 induction m with
 |zero=>
  intro i z Eu c e hn0 st hd ac ta q
  obtain rfl:i=n:=e
  refine df PySem.F.entry_extend_loop ?_
  rw[cS PySem.F.plain_extend_loop _]
  show wpAny _ A.in1 (pyNext (.ref I) >>= _) _ _ z
  exact ae (up (W.done z _ _ st fun g tk kp lq=>au (q g tk Eu c lq (fun b o _ hb h=>kp b o hb h) (kp D _ nw hd) ac (ta.up lq))))
 |succ m ih=>
  intro i z Eu c e hn0 st hd ac ta q
  refine df PySem.F.entry_extend_loop ?_
  rw[cS PySem.F.plain_extend_loop _]
  show wpAny _ A.in1 (pyNext (.ref I) >>= _) _ _ z
  refine ae (BJ i z _ _ hn0 #[0] st fun v g tk lq tv hP be kp=>?_)
  have hd':=kp D _ nw hd
  show wpAny _ A.in1 (updateSeq D (·.push v) >>= _) _ _ _
  refine ae (oV hd' rfl (au ⟨e_ PySem.F.plain_extend_loop _,ih (i+1) _ (Eu.push v) _ #[0] (aI hn0 lq) (W.frame _ _ _ be fun b hb o h=>?_) (dB _ hd' rfl) (ac.push hP) (fun x t hx=>?_) fun g2 tk2 got2 c2 hle2 kp2 hd2 ac2 ta2=>?_⟩)
   (by rw[ac.1];omega) (by show(Eu.push v).size<=sizeLine+1;rw[Array.size_push,ac.1];omega))
  ·exact(cz _ _ (fun h:D=b=>hD (by rw[h];exact hb))).trans h
  ·rw[mI,aP]at hx
   rcases hx with hx|hx
   ·exact ta.up lq x t hx
   ·exact tv x t hx
  ·exact q g2 tk2 got2 c2 (aI lq hle2) (fun b o hb hw h=>kp2 b o hb hw ((cz _ _ (Ne.symm hb)).trans (kp b o hw h))) hd2 ac2 ta2
theorem yX{t:Tok}{Q:List Value->Shared->Prop}(BM:0<s.toks)(hh:A.handled=none)(NZ:l.length<=sizeLine)
  (q:∀g tk (Eu:Array Value),s.toks<=tk->(∀b o,s.heap.get? b=some o->g.get? b=some o)->ItemsOf (SignAt (tx l)) Eu (tx l).cps.size->iW tk Eu.toList->Q Eu.toList { s with heap:=g,toks:=tk }):wpAny #[7] A (collect (.str (tx l) t)) Q E s:=by
 have hn:(tx l).cps.size=l.length:=by simp[tx]
 unfold collect
 refine ae (qh (df entry_proto_collect' ?_))
 rw[cS PySem.F.plain_proto_collect _]
 show wpAny _ A.in1 (newList [] >>= fun d=>again (.builtin "list.__iadd__" ⟨[d,.str (tx l) t],[]⟩)) _ _ s
 refine ae (b_ (au ⟨e_ PySem.F.plain_list_iadd _,df entry_list_iadd' ?_⟩))
 rw[cS PySem.F.plain_list_iadd _]
 show wpAny _ A.in1 (Builtin.List.listExtendWith (.ref s.heap.objs.size) (.str (tx l) t) (.ref s.heap.objs.size)) _ _ _
 unfold Builtin.List.listExtendWith
 refine ae (iK (T:="str") (v:=.str (tx l) t) rfl ?_)
 have e1:Builtin.List.listSameRef (.ref s.heap.objs.size) (.str (tx l) t)=false:=rfl
 have e2:(Value.type "str" == Value.type "list")=false:=by decide
 have e3:(Value.type "str" == Value.type "tuple")=false:=by decide
 simp only[e1,e2,e3,mT,eu,fL]
 generalize hL:s.heap.objs.size=L
 have gL:(s.heap.push { cls:=.type "list",data:=.seq ([]:List Value).toArray }).get? L=some (PQ #[] 0):=by rw[<- hL];exact ay _ rfl
 have z1:(s.heap.push { cls:=.type "list",data:=.seq ([]:List Value).toArray }).objs.size=L+1:=by rw[bu,hL]
 have kp1:∀b o,s.heap.get? b=some o->(s.heap.push { cls:=.type "list",data:=.seq ([]:List Value).toArray }).get? b=some o:=fun b o e=>aq _ e
 generalize s.heap.push { cls:=.type "list",data:=.seq ([]:List Value).toArray }=g1 at gL z1 kp1 ⊢
 have j_:∀(ob:Obj) (ty:String),(∀A:Around,A.handled=none->Walks prog w A (L+1) [L+1] [L+1] (tx l).cps.size (SignAt (tx l)) (fun i h=>h.IsStrIter (L+1) ty (tx l) t i))->(g1.push ob).IsStrIter (L+1) ty (tx l) t 0 ->
   (∀{A:Around} {s:Shared} {i c:Nat} {Q:Option Value->Shared->Prop} {E:Value->Shared->Prop},s.heap.IsStrIter (L+1) ty (tx l) t i->(tx l).cps[i]?=some c ->
    (∀h',h'.IsStrIter (L+1) ty (tx l) t (i+1)->Heap.SameBut (L+1) s.heap h'->Q (some (.str ⟨#[c]⟩ s.toks)) { s with heap:=h',toks:=s.toks+1 })->wpAny #[7] A (pyNext (.ref (L+1))) Q E s) ->
   codeAny #[7] A (.builtin "list.extend.loop" ⟨[.ref L,.ref (L+1),.ref L],[]⟩) (wants (fun r s'=>wpAny #[7] A (match r with|.ref a=>(do match (<- load a).data with|.seq xs _=>pure xs.toList|_=>unsupported "internal:collect")|_=>unsupported "internal:collect") Q E s') E) { s with heap:=g1.push ob }:=fun ob ty W h0 next=>by
  refine G' (n0:=s.toks) (W A.in1 (by simpa using hh)) (by rw[hn];exact NZ) L #[15] (.ref L) (fun i s' Q E hn0 hi st q=>?_) (tx l).cps.size 0 _ #[] 0 #[0] (ax _) h0 (aq _ gL) (ItemsOf.nil _) (fun x u hx=>by simp at hx) fun g tk Eu c lq kp hd ac ta=>?_
  ·obtain⟨c,hx⟩:∃c,(tx l).cps[i]?=some c:=⟨_,d_ hi⟩
   refine next st hx fun h' be hs=>q _ h' (s'.toks+1) (bj _) (fun x u hx' _=>?_) ⟨c,_,hx,rfl⟩ be fun b o hb e=>hs.extBut b o (fun z=>hb (by simp[z])) e
   rw[aT]at hx'
   cases hx'
   exact⟨aF BM hn0,bY _⟩
  ·refine ae (wpAny_load hd (au (q g tk Eu lq (fun b o e=>kp b o ?_ ?_ (aq _ (kp1 b o e))) ac ta)))
   ·rw[<- hL];exact aW (aB e)
   ·intro hm
    rw[aT]at hm
    have:=aB e
    rw[hL,hm]at this
    have this:L+1<L:=this
    omega
 have hint:∀(s':Shared) (Q':Bool->Shared->Prop) (E':Value->Shared->Prop),Q' false s'->wpAny #[7] A.in1 (Builtin.List.listLengthHint (.str (tx l) t)) Q' E' s':=fun s' Q' E' y=>by
  unfold Builtin.List.listLengthHint
  refine ae (wpAny_specialOf (T:="str") (v:=.str (tx l) t) rfl PySem.F.str_len ?_)
  wp_delta
  refine ae (gl (T:="str") (v:=.str (tx l) t) (b:=true) rfl (by rw[dX];kernel_rfl) ?_)
  show wpAny _ A.in1 (typeOf (Value.str (tx l) t) >>= _) _ _ _
  exact ae (iK (T:="str") (v:=.str (tx l) t) rfl (au y))
 have key:∀(ob:Obj),codeAny #[7] A (.builtin "list.extend.loop" ⟨[.ref L,.ref (L+1),.ref L],[]⟩) (wants (fun r s'=>wpAny #[7] A (match r with|.ref a=>(do match (<- load a).data with|.seq xs _=>pure xs.toList|_=>unsupported "internal:collect")|_=>unsupported "internal:collect") Q E s') E) { s with heap:=g1.push ob }->_:=fun ob h=>h
 cases ha:(tx l).cps.all (· < 128)
 ·refine ae (mH ha (ae (c_ (hint _ _ _ ?_))))
  show wpAny _ _ _ _ _ _
  rw[show Shared.heap { s with heap:=g1 }=g1 from rfl,z1]
  rw[aQ #[3]]
  exact au ⟨e_ PySem.F.plain_extend_loop _,j_ _ "str_iterator" (fun A hA=>Walks.strWide hA _ (tx l) t) ⟨_,by rw[<- z1];exact ay _ rfl,rfl,rfl⟩ fun a b c=>jL a b c⟩
 ·refine ae (l9 ha (ae (c_ (hint _ _ _ ?_))))
  rw[show Shared.heap { s with heap:=g1 }=g1 from rfl,z1]
  rw[aQ #[3]]
  exact au ⟨e_ PySem.F.plain_extend_loop _,j_ _ "str_ascii_iterator" (fun A hA=>Walks.strAscii hA _ (tx l) t) ⟨_,by rw[<- z1];exact ay _ rfl,rfl,rfl⟩ fun a b c=>jv a b c⟩
theorem AI{t:Tok}(BM:0<s.toks)(NZ:l.length<64)(hh:A.handled=none)
  (q:∀(s1:Shared) (g1:Heap) (out:Array Value) (ss:List Str) (e:Nat),(∀b o,s.heap.get? b=some o->s1.heap.get? b=some o)->s1.gens=s.gens->s1.drawn=s.drawn->s1.os=s.os->(∀b o,s1.heap.get? b=some o->g1.get? b=some o)->g1.get? s1.heap.objs.size=some (seqObj "list" out e) ->
   s.toks<=s1.toks->iW s1.toks out.toList->StrsAre out.toList ss->ss.Perm (l.map fun c=>tx [c])->sortedS ss=true->Q (.ref s1.heap.objs.size) { s1 with heap:=g1 }):wpAny #[7] A (call (.builtin "sorted") [.str (tx l) t]) Q E s:=by
 have hn:(tx l).cps.size=l.length:=by simp[tx]
 apply mj kind_sorted plain_sorted entry_sorted (args_sorted1 _)
 show wpAny _ _ (checkCount "sorted" 1 1 _ >>= _) _ _ _
 refine ae (au (ae (yX BM (by simpa using hh) (by rw[kG];omega) (fun g tk i8 lq kp ha ta=>?_))))
 generalize hs1:({ s with heap:=g,toks:=tk }:Shared)=s1
 have eg:s1.gens=s.gens:=by rw[<- hs1]
 have ed:s1.drawn=s.drawn:=by rw[<- hs1]
 have eo:s1.os=s.os:=by rw[<- hs1]
 have kp:∀b o,s.heap.get? b=some o->s1.heap.get? b=some o:=by rw[<- hs1];exact kp
 have lq:s.toks<=s1.toks:=by rw[<- hs1];exact lq
 have ta:iW s1.toks i8.toList:=by rw[<- hs1];exact ta
 have n_:StrsAre i8.toList (l.map fun c=>tx [c]):=by
  refine v3 l _ (by rw[dZ,ha.1,hn]) fun j v hj=>?_
  obtain⟨c,u,hc,e⟩:=ha.2 j v (by simpa using hj)
  exact⟨c,u,by simpa[tx]using hc,e⟩
 have hvl:i8.toList.length<64:=by rw[dZ,ha.1,hn];exact NZ
 refine ae (wpAny_newList ?_ (by rw[kG];omega))
 have oL:(s1.heap.push (seqObj "list" i8.toList.toArray 0)).get? s1.heap.objs.size=some (seqObj "list" i8.toList.toArray 0):=ay _ rfl
 refine ae (c_ (bZ slot_list_sort ⟨_,oL,rfl⟩ entry_list_sort (list_sort_treeK qW oL n_.keysOf (fun a b r e=>sV (by rw[<- e];exact n_)) hvl fun st a1 a2=>⟨_,rfl,?_⟩) (args_list_sort _)))
 obtain⟨ss,h1,h2,h3⟩:=qg n_ a1 a2
 obtain⟨e,he⟩:=sortedHeap_at (out:=(arrOf st).map (·.2)) oL
 refine au ⟨_,rfl,q s1 _ _ ss e kp eg ed eo (fun b o hb=>?_) he lq (ta.sub (vF a1)) h1 h2 h3⟩
 rw[sortedHeap_old (aW (aB hb)) (by rw[bu];exact cL (aB hb))]
 exact aq _ hb
end
section
def kL(ws:List W)(st:List am):R W:=match ws with
 |[.str l]=>if l.length<64 then .ok (.loc st.length) (st++[.lst ((jq (l.map fun c=>[c])).map W.str)])else .bad
 |[.loc n]=>ql [.loc n] st
 |_=>.bad
theorem Lg(hc:X.calm=true:=by rfl):pL X (.builtin "sorted") kL:=⟨fun ak s σ H vs us Q I rv zq=>by
 obtain⟨μ,st,ws,S,r,q⟩:=zq
 unfold kL at q
 split at q
 ·rename_i l
  split at q
  ·rename_i c
   obtain⟨y,rfl,ry⟩:=r.one
   have:=ry.strE;subst this
   obtain⟨u,rfl,ru⟩:=pF rv
   obtain⟨t,rfl⟩:=ru
   refine AI I.pos c (I.ok.hd hc) fun s1 g1 out ss e kp eg ed eo k1 gL lq ta n_ hp hsr=>?_
   have es:s1={ s with heap:=s1.heap,toks:=s1.toks }:=by cases s1;cases s;cases eg;cases ed;cases eo;rfl
   generalize s1.heap=g0,s1.toks=tk at es kp k1 gL lq ta ⊢
   subst es
   have I2:bG X ak σ H { s with heap:=g0,toks:=tk }:=I.kept2 (d':=s.drawn) fun b o e=>kp b o e
   have xz:H g0.objs.size=none:=I2.hok.fresh (ax _)
   have hmap:(ss.map fun z=>z.cps.toList).map tx=ss:=by
    rw[b6]
    have:(tx∘fun z:Str=>z.cps.toList)=id:=funext fun z=>DM z
    rw[this,jw]
   have hperm:(ss.map fun z=>z.cps.toList).Perm (l.map fun c=>[c]):=by
    have e:=hp.map fun z:Str=>z.cps.toList
    rw[b6]at e
    exact e
   have ez:(ss.map fun z=>z.cps.toList)=jq (l.map fun c=>[c]):=vd (vV (by rw[hmap];exact hsr)) (vU _) (hperm.trans (gB _).symm)
   have hvals:cu tk ((jq (l.map fun c=>[c])).map fun l=>V.str (tx l)) out.toList:=by
    have e:=nM n_ ta
    rw[<- hmap,ez,b6]at e
    exact e
   refine⟨.ref g0.objs.size,_,I2.laid (o:=.lst ((jq (l.map fun c=>[c])).map fun l=>V.str (tx l))) (t':=tk) k1 (ax _) ⟨?_,out.toList,e,hvals,gL⟩,rfl,?_⟩
   ·rw[az,(gB _).length_eq,az]
    exact aI (fK c) #[3]
   ·exact q (μ++[g0.objs.size]) _ _ (aX _ _) (fU.same (cG xz _)) (S.newLst xz (AE _)) (pJ S)
  ·exact q.elim
 ·exact AF.h ak s σ H _ us Q I rv ⟨μ,st,_,S,r,q⟩
 ·exact q.elim,fun ws st=>by
 unfold kL
 split
 ·split<;>trivial
 ·exact(AF (X:=X)).n _ _
 ·trivial⟩
end
section
variable{a b c:Expr}{fs:FA}
end
section
variable{f:FG}
end
theorem bG.turnedL{s:Shared}{t':Nat}{ch:List Addr}(I:bG X ak σ H s)(k:∀b o,b∉ch->s.heap.get? b=some o->h'.get? b=some o)
  (f:∀b∈ch,tq X ak H b) (J_:s.toks<=t':=by first|exact ax _|exact bj _|assumption|omega):bG X ak σ H { s with heap:=h',toks:=t' }:=by
 have nit:∀b u,H b=some u->b∉ch:=fun b u q z=>by rw[(f b z).1]at q;cases q
 refine I.step (g':=s.gens) (d':=s.drawn) (ch:=ch) (fun b hb=>?_) (fun b o _ _ hc q _=>k b o hc q) (fun b o _ _ hc q _=>⟨o.slots,k b o hc q⟩) (fun _ _ _ _ n=>n)
  (fun b o hc q=>⟨o,k b o hc q⟩) (fun _ _ q=>q) (fun _ _ _ q=>q) (fun b ps q=>⟨#[],by rw[q];simp⟩) (fun m hm=>?_) (fun b u q=>?_) I.bare J_
 ·exact⟨(f b hb).2.2.2.1,(f b hb).2.1,(f b hb).2.2.2.2.1,(f b hb).2.2.2.2.2⟩
 ·obtain⟨o,es,ep,ho,r⟩:=hm
  exact⟨o,es,ep,k _ o (fun z=>(f _ z).2.1 rfl) ho,r⟩
 ·refine((I.hok b u q).up J_).stay (fun c v hc z=>?_) (fun _ z=>z) fun _ _ z=>z
  rcases hc with y|y
  ·rw[y]at z ⊢;exact k b v (nit b u q) z
  ·exact k c v (nit c _ y) z
section
variable{w:World}
variable{z P O i j a b:Addr}{m:Nat}{xs ys:Array Value}{x y:Value}
theorem Lh(D:ZipApart z P O i j a b)(qz:IsZip s.heap z P O .none)(qP:IsPair s.heap P (.ref i) (.ref j))(qO:IsPair s.heap O u v)
  (q1:s.heap.IsTupleIter i a n) (q2:s.heap.IsTupleIter j b m) (ta:s.heap.IsTuple a xs) (tb:s.heap.IsTuple b ys) (hx:xs[n]?=some x) (hy:ys[m]?=some y)
  (hQ:∀g,IsZip g z P O (rawInt s.heap.objs.size)->IsPair g O x y->g.IsTupleIter i a (n+1)->g.IsTupleIter j b (m+1)->IsPair g s.heap.objs.size x y ->
   (∀c o,c≠z->c≠O->c≠i->c≠j->s.heap.get? c=some o->g.get? c=some o)->Q (.ref s.heap.objs.size) { s with heap:=g }) :
  wpAny #[7] A (Builtin.«zip.__next__» ⟨[.ref z],[]⟩) (fun j_ s'=>∃v,j_=.done (.ret v)/\Q v s') E s:=by
 show wpAny _ _ (field (.ref z) 2 >>= _) _ _ _
 refine ae (cY qz rfl (x:=.bool false) rfl ?_)
 show wpAny _ _ (field (.ref z) 3 >>= _) _ _ _
 refine ae (cY qz rfl (x:=.ref P) rfl (ae (dU qP rfl ?_)))
 show wpAny _ _ (Builtin.SmallTypes.ownedTupleIsFree (.ref z) >>= _) _ _ _
 refine ae ?_;unfold Builtin.SmallTypes.ownedTupleIsFree
 refine ae (cY qz rfl (x:=.none) rfl (au ?_));simp only[fM]
 refine ae (kg (ae (cY qz rfl (x:=.ref O) rfl ?_)))
 refine ae (ce qz #[15] fun g1 z1 s1=>?_)
 replace z1:IsZip g1 z P O .ellipsis:=z1
 refine ae ?_
 simp only[List.zipIdx_cons,List.zipIdx_nil,kT,qf]
 refine ae (ae (mU ?_))
 show wpAny _ _ (Builtin.SmallTypes.nextOf (.ref i) >>= _) _ _ _
 refine ae (kj (q1.extBut s1.extBut D.i1z) (ta.extBut s1.extBut D.l1z) hx fun g2 k2 s2=>au ?_)
 have O2:IsPair g2 O u v:=s2.extBut _ _ D.TOi1 (s1.extBut _ _ D.TOz qO)
 refine ae (dU O2 rfl (ae (kK O2 fun g3 O3 s3=>?_)))
 replace O3:IsPair g3 O x v:=O3
 refine ae (wpAny_letGo (au (ae (ae (mU ?_)))))
 show wpAny _ _ (Builtin.SmallTypes.nextOf (.ref j) >>= _) _ _ _
 refine ae (kj (((q2.extBut s1.extBut D.i2z).extBut s2.extBut D.i12.symm).extBut s3.extBut D.TOi2.symm)
  (((tb.extBut s1.extBut D.l2z).extBut s2.extBut D.l2i1).extBut s3.extBut D.l2TO) hy fun g4 k4 s4=>au ?_)
 have O4:IsPair g4 O x v:=s4.extBut _ _ D.TOi2 O3
 refine ae (dU O4 rfl (ae (kK O4 fun g5 O5 s5=>?_)))
 replace O5:IsPair g5 O x y:=O5
 refine ae (wpAny_letGo (au (au (ae (dU O5 rfl (ae (wpAny_newTuple ?_)))))))
 have sz:g5.objs.size=s.heap.objs.size:=by rw[s5.1,s4.1,s3.1,s2.1,s1.1]
 have z5:IsZip g5 z P O .ellipsis:=s5.extBut _ _ D.TOz.symm (s4.extBut _ _ D.i2z.symm (s3.extBut _ _ D.TOz.symm (s2.extBut _ _ D.i1z.symm z1)))
 have kp:∀c o,c≠z->c≠O->c≠i->c≠j->s.heap.get? c=some o->g5.get? c=some o:=fun c o c1 c2 c3 c4 e=>
  s5.extBut _ _ c2 (s4.extBut _ _ c4 (s3.extBut _ _ c2 (s2.extBut _ _ c3 (s1.extBut _ _ c1 e))))
 have k5:g5.IsTupleIter i a (n+1):=((k2.extBut s3.extBut D.TOi1.symm).extBut s4.extBut D.i12).extBut s5.extBut D.TOi1.symm
 have l5:g5.IsTupleIter j b (m+1):=k4.extBut s5.extBut D.TOi2.symm
 have zlt:z<g5.objs.size:=aB z5
 show wpAny _ _ (Builtin.SmallTypes.ownedTupleHandOut (.ref z) (.ref g5.objs.size) >>= _) _ _ _
 refine ae ?_;unfold Builtin.SmallTypes.ownedTupleHandOut
 have z6:IsZip (g5.push { cls:=.type "tuple",data:=.seq #[x,y] }) z P O .ellipsis:=aq _ z5
 refine ae (ce z6 #[15] fun g7 z7 s7=>?_)
 replace z7:IsZip g7 z P O (rawInt g5.objs.size):=z7
 refine ce z7 #[15] fun g8 z8 s8=>?_
 replace z8:IsZip g8 z P O (rawInt g5.objs.size):=z8
 have up:∀c o,c≠z->g5.get? c=some o->g8.get? c=some o:=fun c o c1 e=>s8.extBut _ _ c1 (s7.extBut _ _ c1 (aq _ e))
 have T8:IsPair g8 g5.objs.size x y:=s8.extBut _ _ (dS zlt) (s7.extBut _ _ (dS zlt) (ay _ rfl))
 rw[sz]at z8 T8
 refine au ⟨_,rfl,?_⟩
 show Q (.ref g5.objs.size) _
 rw[sz]
 exact hQ g8 z8 (up _ _ D.TOz O5) (k5.at fun o e=>up _ o D.i1z e) (l5.at fun o e=>up _ o D.i2z e) T8 fun c o c1 c2 c3 c4 e=>up c o c1 (kp c o c1 c2 c3 c4 e)
theorem PR{Q:Fin->Shared->Prop}(hh:A.handled=none)(D:ZipApart z P O i j a b)(qz:IsZip s.heap z P O .none)(qP:IsPair s.heap P (.ref i) (.ref j))(qO:IsPair s.heap O u v)
  (q1:s.heap.IsTupleIter i a n) (q2:s.heap.IsTupleIter j b m) (ta:s.heap.IsTuple a xs) (tb:s.heap.IsTuple b ys) (he:xs[n]?=none\/ys[m]?=none)
  (hE:∀g e,(∀c o,c≠z->c≠O->c≠i->c≠j->s.heap.get? c=some o->g.get? c=some o)->(∃o,g.get? e=some o/\o.cls=.type "StopIteration")->E (.ref e) { s with heap:=g }) :
  wpAny #[7] A (Builtin.«zip.__next__» ⟨[.ref z],[]⟩) Q E s:=by
 show wpAny _ _ (field (.ref z) 2 >>= _) _ _ _
 refine ae (cY qz rfl (x:=.bool false) rfl ?_)
 show wpAny _ _ (field (.ref z) 3 >>= _) _ _ _
 refine ae (cY qz rfl (x:=.ref P) rfl (ae (dU qP rfl ?_)))
 show wpAny _ _ (Builtin.SmallTypes.ownedTupleIsFree (.ref z) >>= _) _ _ _
 refine ae ?_;unfold Builtin.SmallTypes.ownedTupleIsFree
 refine ae (cY qz rfl (x:=.none) rfl (au ?_));simp only[fM]
 refine ae (kg (ae (cY qz rfl (x:=.ref O) rfl ?_)))
 refine ae (ce qz #[15] fun g1 z1 s1=>?_)
 replace z1:IsZip g1 z P O .ellipsis:=z1
 refine ae ?_
 simp only[List.zipIdx_cons,List.zipIdx_nil,kT,qf]
 refine ae (ae (mU ?_))
 show wpAny _ _ (Builtin.SmallTypes.nextOf (.ref i) >>= _) _ _ _
 cases hx:xs[n]? with
 |none=>
  refine ae (k9 hh (q1.extBut s1.extBut D.i1z) (ta.extBut s1.extBut D.l1z) hx fun g2 e s2 ye=>?_)
  obtain⟨oe,h1,h2⟩:=ye
  have z2:IsZip g2 z P O .ellipsis:=s2 _ _ D.i1z.symm z1
  have nez:e≠z:=fun q=>by subst q;rw[z2]at h1;cases h1;simp at h2
  exact ce z2 #[15] fun g3 _ s3=>hE g3 e (fun c o c1 _ c3 _ q=>s3.extBut _ _ c1 (s2 _ _ c3 (s1.extBut _ _ c1 q))) ⟨oe,s3.extBut _ _ nez h1,h2⟩
 |some x=>
  have hy:ys[m]?=none:=by rcases he with h|h;rw[hx]at h;cases h;exact h
  refine ae (kj (q1.extBut s1.extBut D.i1z) (ta.extBut s1.extBut D.l1z) hx fun g2 k2 s2=>au ?_)
  have O2:IsPair g2 O u v:=s2.extBut _ _ D.TOi1 (s1.extBut _ _ D.TOz qO)
  refine ae (dU O2 rfl (ae (kK O2 fun g3 O3 s3=>?_)))
  refine ae (wpAny_letGo (au (ae (ae (mU ?_)))))
  show wpAny _ _ (Builtin.SmallTypes.nextOf (.ref j) >>= _) _ _ _
  refine ae (k9 hh (((q2.extBut s1.extBut D.i2z).extBut s2.extBut D.i12.symm).extBut s3.extBut D.TOi2.symm)
   (((tb.extBut s1.extBut D.l2z).extBut s2.extBut D.l2i1).extBut s3.extBut D.l2TO) hy fun g4 e s4 ye=>?_)
  obtain⟨oe,h1,h2⟩:=ye
  have z4:IsZip g4 z P O .ellipsis:=s4 _ _ D.i2z.symm (s3.extBut _ _ D.TOz.symm (s2.extBut _ _ D.i1z.symm z1))
  have nez:e≠z:=fun q=>by subst q;rw[z4]at h1;cases h1;simp at h2
  exact ce z4 #[15] fun g5 _ s5=>hE g5 e (fun c o c1 c2 c3 c4 q=>s5.extBut _ _ c1 (s4 _ _ c4 (s3.extBut _ _ c2 (s2.extBut _ _ c3 (s1.extBut _ _ c1 q))))) ⟨oe,s5.extBut _ _ nez h1,h2⟩
theorem Li{Q:Option Value->Shared->Prop}(D:ZipApart z P O i j a b)(qz:IsZip s.heap z P O .none)(qP:IsPair s.heap P (.ref i) (.ref j))(qO:IsPair s.heap O u v)
  (q1:s.heap.IsTupleIter i a n) (q2:s.heap.IsTupleIter j b m) (ta:s.heap.IsTuple a xs) (tb:s.heap.IsTuple b ys) (hx:xs[n]?=some x) (hy:ys[m]?=some y)
  (hQ:∀g,IsZip g z P O (rawInt s.heap.objs.size)->IsPair g O x y->g.IsTupleIter i a (n+1)->g.IsTupleIter j b (m+1)->IsPair g s.heap.objs.size x y ->
   (∀c o,c≠z->c≠O->c≠i->c≠j->s.heap.get? c=some o->g.get? c=some o)->Q (some (.ref s.heap.objs.size)) { s with heap:=g }) :
  wpAny #[7] A (pyNext (.ref z)) Q E s:=by
 have T:s.TypeIs (.ref z) "zip":=⟨_,qz,rfl⟩
 unfold pyNext
 exact ae (g_ (bS (name:=Str.ofString "__next__") T kX (bZ kX T F.entry_zip_next
   (Lh D qz qP qO q1 q2 ta tb hx hy fun g a1 a2 a3 a4 a5 a6=>au (hQ g a1 a2 a3 a4 a5 a6)) (F.args_zip_next_1 _))))
theorem Lj{Q:Option Value->Shared->Prop}(hh:A.handled=none)(D:ZipApart z P O i j a b)(qz:IsZip s.heap z P O .none)(qP:IsPair s.heap P (.ref i) (.ref j))(qO:IsPair s.heap O u v)
  (q1:s.heap.IsTupleIter i a n) (q2:s.heap.IsTupleIter j b m) (ta:s.heap.IsTuple a xs) (tb:s.heap.IsTuple b ys) (he:xs[n]?=none\/ys[m]?=none)
  (hQ:∀g,(∀c o,c≠z->c≠O->c≠i->c≠j->s.heap.get? c=some o->g.get? c=some o)->Q none { s with heap:=g }):wpAny #[7] A (pyNext (.ref z)) Q E s:=by
 have T:s.TypeIs (.ref z) "zip":=⟨_,qz,rfl⟩
 unfold pyNext
 refine ae (g_ (bS (name:=Str.ofString "__next__") T kX (bZ kX T F.entry_zip_next (PR hh D qz qP qO q1 q2 ta tb he fun g e hk ye=>?_) (F.args_zip_next_1 _))))
 obtain⟨o,ho,hc⟩:=ye
 exact ae (gl (T:="StopIteration") (b:=true) ⟨o,ho,hc⟩ l_ (au (hQ _ hk)))
end
open AutoSeq1 (wpAny_loadPart')
abbrev Vo(h:Heap)(a:Addr):Heap:=h.push (mq a)
abbrev Vp(h:Heap)(a b:Addr):Heap:=(Vo h a).push (mq b)
abbrev Vq(h:Heap)(a b:Addr):Heap:=(Vp h a b).push { cls:=.type "tuple",data:=.seq #[.ref h.objs.size,.ref (Vo h a).objs.size] }
abbrev Vr(h:Heap)(a b:Addr):Heap:=(Vq h a b).push { cls:=.type "tuple",data:=.seq #[.none,.none] }
abbrev RG(h:Heap)(a b:Addr):Heap:=(Vr h a b).push { cls:=.type "zip",data:=.fields #[.none,.bool false,.bool false,.ref (Vp h a b).objs.size,.ref (Vq h a b).objs.size] }
theorem PU     (a b : Addr) (xs ys : Array Value) : Meets (Builtin.«zip.__new__» ⟨[.type "zip", .ref a, .ref b], []⟩) (fun _ R s => s.heap.IsTuple a xs /\ s.heap.IsTuple b ys /\
      R (.ok (.ret (.ref (Vr  s.heap a b).objs.size))) { s with heap := RG  s.heap a b }) :=
  .of_wp fun prog w A R s h => by
    obtain ⟨hp, g, d, tk, os⟩ := s
    obtain ⟨ha, hb, h⟩ := h
    have sb := sub_zip
    have hA : Heap.IsTuple (Shared.heap ⟨hp, g, d, tk, os⟩) a xs := ha
    have hB : Heap.IsTuple (Shared.heap ⟨hp.push (mq      a), g, d, tk, os⟩) b ys := hb.at fun o e => aq                     _ e
    wp_walk using fw                 hA, fw                 hB
    exact ⟨_, rfl, h⟩
section
variable{w:World}
theorem Lk{a b:Addr}{xs ys:Array Value}(ha:s.heap.IsTuple a xs)(hb:s.heap.IsTuple b ys)
  (q:∀g,IsZip g (s.heap.objs.size+4) (s.heap.objs.size+2) (s.heap.objs.size+3) .none->IsPair g (s.heap.objs.size+2) (.ref s.heap.objs.size) (.ref #[8]) ->
   IsPair g (s.heap.objs.size+3) .none .none->g.IsTupleIter s.heap.objs.size a 0->g.IsTupleIter #[8] b 0->(∀c o,s.heap.get? c=some o->g.get? c=some o)->Q (.ref (s.heap.objs.size+4)) { s with heap:=g }) :
  wpAny #[7] A (call (.type "zip") [.ref a,.ref b]) Q E s:=by
 refine callType_new F.called_zip #[3] (F.typeCall_zip_2 _ _) (F.newCall_zip_2 _ _) (fun ob=>F.args_object_init_3 ob _ _) F.entry_zip_new (PU a b xs ys) ⟨ha,hb,?_⟩
 have n1:(Vo s.heap a).objs.size=s.heap.objs.size+1:=bu ..
 have n2:(Vp s.heap a b).objs.size=s.heap.objs.size+2:=by rw[bu,n1]
 have n3:(Vq s.heap a b).objs.size=s.heap.objs.size+3:=by rw[bu,n2]
 have n4:(Vr s.heap a b).objs.size=s.heap.objs.size+4:=by rw[bu,n3]
 have p:∀{h:Heap} {c:Addr} {o u:Obj},h.get? c=some o->(h.push u).get? c=some o:=fun e=>aq _ e
 have g5:(RG s.heap a b).get? (Vr s.heap a b).objs.size=some _:=ay _ rfl
 have g4:(RG s.heap a b).get? (Vq s.heap a b).objs.size=some _:=p (ay _ rfl)
 have g3:(RG s.heap a b).get? (Vp s.heap a b).objs.size=some _:=p (p (ay _ rfl))
 have g2:(RG s.heap a b).get? (Vo s.heap a).objs.size=some _:=p (p (p (ay _ rfl)))
 have g1:(RG s.heap a b).get? s.heap.objs.size=some _:=p (p (p (p (ay _ rfl))))
 show _/\_
 rw[n2,n3,n4]at g5
 rw[n1,n2]at g3
 rw[n3]at g4
 rw[n1]at g2
 rw[n4]
 exact⟨⟨_,g5,rfl⟩,q _ g5 g3 g4 ⟨_,g1,rfl,rfl⟩ ⟨_,g2,rfl,rfl⟩ fun c o e=>p (p (p (p (p e))))⟩
end
def WX(K:Frag)(a b:Addr):It:=
  ⟨fun i H=>∃xs ys x y,fU K H a xs/\fU K H b ys/\xs[i]?=some x/\ys[i]?=some y,
   fun i H v H'=>∃p,H p=none/\v=.ref p/\∀xs ys x y,fU K H a xs->fU K H b ys->xs[i]?=some x->ys[i]?=some y->H'=fB H p (.tup [x,y]),
   fun i H=>∃xs ys,fU K H a xs/\fU K H b ys/\(xs.length<=i\/ys.length<=i)⟩
theorem Ll{w:World}{z T O i j a b:Addr}(D:ZipApart z T O i j a b) :
  BR P w K (.Tuple wO kk pos) (WX K a b) [z,T,O,i,j] z (fun k h=>IsZip h z T O .none/\IsPair h T (.ref i) (.ref j)/\(∃u v,IsPair h O u v)/\h.IsTupleIter i a k/\h.IsTupleIter j b k) where
 mem:=by simp
 obj:=fun k h st c hc=>by
  obtain⟨h1,h2,⟨u,v,h3⟩,⟨o4,e4,_,d4⟩,⟨o5,e5,_,d5⟩⟩:=st
  have q:c=z\/c=T\/c=O\/c=i\/c=j:=by simpa using hc
  rcases q with rfl|rfl|rfl|rfl|rfl
  ·exact⟨_,h1,fun v q=>by cases q⟩
  ·exact⟨_,h2,fun v q=>by cases q⟩
  ·exact⟨_,h3,fun v q=>by cases q⟩
  ·exact⟨_,e4,fun v q=>by rw[d4]at q;cases q⟩
  ·exact⟨_,e5,fun v q=>by rw[d5]at q;cases q⟩
 keep:=fun k h h' st kp=>by
  obtain⟨h1,h2,⟨u,v,h3⟩,h4,h5⟩:=st
  exact⟨kp z #[15] _ h1,kp T #[15] _ h2,⟨u,v,kp O #[15] _ h3⟩,h4.at fun o e=>kp i #[15] o e,h5.at fun o e=>kp j #[15] o e⟩
 item:=by
  intro X hP hw hK hc k ak s σ H E I hf st hg
  subst hP hw hK
  obtain⟨xs,ys,x,y,hq,hr,hx,hy⟩:=hg
  obtain⟨bP,rv,p1,_⟩:=I.tuple hq
  obtain⟨jts,uq,p2,_⟩:=I.tuple hr
  obtain⟨u,hu,ru⟩:=rv.get hx
  obtain⟨v,hv,rv'⟩:=uq.get hy
  obtain⟨h1,h2,⟨c1,c2,h3⟩,h4,h5⟩:=st
  refine Li D h1 h2 h3 h4 h5 (show s.heap.IsTuple a bP.toArray from p1) (show s.heap.IsTuple b jts.toArray from p2) (x:=u) (y:=v) (by simpa using hu) (by simpa using hv) fun g a1 a2 a3 a4 a5 kp=>⟨_,rfl,?_⟩
  refine wpAny_letOwnedTupleGo_zip a1 fun g2 b1 s2=>?_
  have xz:H s.heap.objs.size=none:=I.hok.fresh (ax _)
  have I1:bG X ak σ (fB H s.heap.objs.size (.tup [x,y])) { s with heap:=s.heap.push { cls:=.type "tuple",data:=.seq #[u,v] },toks:=s.toks }:=I.laid (fun c o q=>aq _ q) (ax _)
   ⟨by show 2<=sizeLine;decide,[u,v],.cons ru (.cons rv' .nil),⟨_,ay _ rfl,rfl,_,rfl⟩⟩
  have lt:∀{c o},s.heap.get? c=some o->c≠s.heap.objs.size:=fun e=>aW (aB e)
  have nf:∀c∈[z,T,O,i,j],c≠s.heap.objs.size:=fun c hb=>by
   have q:c=z\/c=T\/c=O\/c=i\/c=j:=by simpa using hb
   rcases q with rfl|rfl|rfl|rfl|rfl
   ·exact lt h1
   ·exact lt h2
   ·exact lt h3
   ·obtain⟨_,e,_⟩:=h4;exact lt e
   ·obtain⟨_,e,_⟩:=h5;exact lt e
  have fp:∀c∈[z,T,O,i,j],tq X ak (fB H s.heap.objs.size (.tup [x,y])) c:=fun c hb=>by
   obtain⟨f0,f⟩:=hf c hb
   exact⟨by rw[cM (nf c hb)];exact f0,f⟩
  have I2:bG X ak σ (fB H s.heap.objs.size (.tup [x,y])) { s with heap:=g2,toks:=s.toks }:=bG.turnedL (s:={ s with heap:=s.heap.push { cls:=.type "tuple",data:=.seq #[u,v] },toks:=s.toks }) (ch:=[z,O,i,j]) (t':=s.toks) I1 (fun c o hb q=>?_) fun c hb=>fp c (by
   have q:c=z\/c=O\/c=i\/c=j:=by simpa using hb
   rcases q with rfl|rfl|rfl|rfl<;>simp)
  ·refine⟨.ref s.heap.objs.size,_,I2,rfl,⟨_,xz,rfl,fun xs' RO x' y' e1 e2 e3 e4=>?_⟩,⟨b1,s2.extBut _ _ D.TIz (kp _ _ D.TIz D.TITO D.TIi1 D.TIi2 h2),⟨_,_,s2.extBut _ _ D.TOz a2⟩,a3.extBut s2.extBut D.i1z,a4.extBut s2.extBut D.i2z⟩,fun c hb=>(fp c hb).1⟩
   have q1:=I.tuple_inj e1 hq
   have q2:=I.tuple_inj e2 hr
   subst q1 q2
   rw[hx]at e3;rw[hy]at e4;cases e3;cases e4;rfl
  ·have q':(s.heap.push { cls:=.type "tuple",data:=.seq #[u,v] }).get? c=some o:=q
   have hn:c≠z/\c≠O/\c≠i/\c≠j:=by simpa using hb
   refine s2.extBut c o hn.1 ?_
   by_cases hb':c=s.heap.objs.size
   ·subst hb'
    have e1:=ay s.heap (o:={ cls:=.type "tuple",data:=.seq #[u,v] }) rfl
    rw[e1]at q';cases q'
    exact a5
   ·rw[Heap.get?_push_ne _ _ _ hb']at q'
    exact kp c o hn.1 hn.2.1 hn.2.2.1 hn.2.2.2 q'
 done:=by
  intro X hP hw hK hc k ak s σ H E I hf st hg
  subst hP hw hK
  obtain⟨xs,ys,hq,hr,he⟩:=hg
  obtain⟨bP,rv,p1,_⟩:=I.tuple hq
  obtain⟨jts,uq,p2,_⟩:=I.tuple hr
  obtain⟨h1,h2,⟨c1,c2,h3⟩,h4,h5⟩:=st
  have l1:=rv.length
  have l2:=uq.length
  refine Lj (I.ok.hd hc) D h1 h2 h3 h4 h5 (show s.heap.IsTuple a bP.toArray from p1) (show s.heap.IsTuple b jts.toArray from p2) (by
   rcases he with q|q
   ·exact .inl (by simp;omega)
   ·exact .inr (by simp;omega)) fun g kp=>⟨rfl,?_⟩
  exact I.turnedL (ch:=[z,O,i,j]) (t':=s.toks) (fun c o hb q=>by
   have hn:c≠z/\c≠O/\c≠i/\c≠j:=by simpa using hb
   exact kp c o hn.1 hn.2.1 hn.2.2.1 hn.2.2.2 q) fun c hb=>hf c (by
   have q:c=z\/c=O\/c=i\/c=j:=by simpa using hb
   rcases q with rfl|rfl|rfl|rfl<;>simp)
 self:=fun A k s Q E st h=>wpAny_pyIter_zip st.1 h
def Wp(K:Frag)(ta:TA):TI:=fun σ H R=>ta σ H fun vs H1=>∃a b,vs=[.ref a,.ref b]/\(∃xs,fU K H1 a xs)/\(∃ys,fU K H1 b ys)/\R (WX K a b) H1
theorem Lm{a b:Expr}{ta:TA}{p pos tp:Pos}{wO:List Expr}{kk:Nat}(hm:X.mg "zip"=none)(ha:QA X [a,b] ta)(hg:Gl X "zip":=by rfl)(hs:starEach [a,b] X.env=(false,eval a X.env)::starEach [b] X.env:=by rfl)
  (uo:(backTo pos (starEach [b] X.env)).any (·.1)=false:=by rfl):QI X (.Tuple wO kk tp) (.Call (.Name "zip" p) [a,b] [] pos) (Wp X.K ta):=⟨by
 intro ak s σ H R I h
 refine Call_ (pE I hg hm boot_zip (dL (jQ (ha.h pos ak s σ H _ I h) fun us s1 kt1 ⟨vs,H1,I1,r1,q1⟩=>?_) hs uo))
 obtain⟨t,t',e,⟨xs,hq⟩,⟨ys,hr⟩,q⟩:=q1
 subst e
 cases r1 with
 |cons x1 r1=>cases r1 with
  |cons x2 r1=>
   cases r1
   cases x1
   cases x2
   obtain⟨bP,rv,p1,_⟩:=I1.tuple hq
   obtain⟨jts,uq,p2,_⟩:=I1.tuple hr
   have lt1:t<s1.heap.objs.size:=by obtain⟨_,e,_⟩:=(show s1.heap.IsTuple t bP.toArray from p1);exact aB e
   have lt2:t'<s1.heap.objs.size:=by obtain⟨_,e,_⟩:=(show s1.heap.IsTuple t' jts.toArray from p2);exact aB e
   refine Lk (show s1.heap.IsTuple t bP.toArray from p1) (show s1.heap.IsTuple t' jts.toArray from p2) fun g e1 e2 e3 e4 e5 kp=>?_
   refine wpAny_pyIter_zip e1 ?_
   refine⟨s1.heap.objs.size+4,[s1.heap.objs.size+4,s1.heap.objs.size+2,s1.heap.objs.size+3,s1.heap.objs.size,s1.heap.objs.size+1],_,_,H1,rfl,I1.kept (t':=s1.toks) kp,Ll (zipApart_new lt1 lt2),⟨e1,e2,⟨_,_,e3⟩,e4,e5⟩,fun c hb=>?_,q⟩
   have hc:s1.heap.objs.size<=c:=by
    have z:c=s1.heap.objs.size+4\/c=s1.heap.objs.size+2\/c=s1.heap.objs.size+3\/c=s1.heap.objs.size\/c=s1.heap.objs.size+1:=by simpa using hb
    rcases z with rfl|rfl|rfl|rfl|rfl<;>simp
   exact I1.fpOk hc (I1.hok.fresh hc)⟩
noncomputable def rj:List W->List W->List W
 |x::xs,y::ys=>.tup [x,y]::rj xs ys
 |_,_=>[]
theorem v5:∀{xs ys:List W} {i:Nat} {w:W},(rj xs ys)[i]?=some w->∃x y,xs[i]?=some x/\ys[i]?=some y/\w=.tup [x,y]
 |x::xs,y::ys,0,w,h=>by simp[rj]at h;exact⟨x,y,rfl,rfl,h.symm⟩
 |x::xs,y::ys,i+1,w,h=>by simp[rj]at h;simpa using v5 h
 |[],_,i,w,h=>by simp[rj]at h
 |_::_,[],i,w,h=>by simp[rj]at h
theorem v7:∀(xs ys:List W),(rj xs ys).length=min xs.length ys.length
 |x::xs,y::ys=>by simp[rj,v7 xs ys]
 |[],_=>by simp[rj]
 |_::_,[]=>by simp[rj]
section
variable{a b:Expr}{fs:FA}
def yY(fs:FA):FI:=fun ρ st=>(fs ρ st).bind fun ws st=>match ws with
 |[.tup xs,.tup ys]=>.ok (rj xs ys,none) st
 |_=>.bad
theorem Ln{wO:List Expr}{kk:Nat}{tp:Pos}(hm:X.mg "zip"=none)(ha:SA X [a,b] fs)(hg:Gl X "zip":=by rfl)(hs:starEach [a,b] X.env=(false,eval a X.env)::starEach [b] X.env:=by rfl)(lU:(backTo pos (starEach [b] X.env)).any (·.1)=false:=by rfl) :
  SI X (.Tuple wO kk tp) (.Call (.Name "zip" p) [a,b] [] pos) (yY fs):=⟨(Lm hm ⟨ha.h⟩ hg hs lU).h.imp fun σ H R h=>by
 walk_at "2"
 walk_at "1"
 split at h1
 ·rename_i zs ws
  obtain⟨y,ys,rfl,ry,r1⟩:=q1.consE
  obtain⟨w,rfl,uq⟩:=r1.one
  obtain⟨t,vs,rfl,hS,r⟩:=ry.tupE
  obtain⟨t',Du,rfl,hS',r'⟩:=uq.tupE
  refine⟨t,t',rfl,⟨vs,hS⟩,⟨Du,hS'⟩,h1 μ1 _ H1 (ao _) eV.refl l1.sto fun i μ' be H' pp xx S _=>⟨fun w hw=>?_,fun hl=>⟨vs,Du,xx _ _ hS,xx _ _ hS',by rw[v7]at hl;rw[<- r.len,<- r'.len];omega⟩⟩⟩
  obtain⟨x,y,hx,hy,rfl⟩:=v5 hw
  have m1:=r.mono pp xx
  have m2:=r'.mono pp xx
  obtain⟨v1,g1,g2⟩:=m1.get hx
  obtain⟨v2,g3,g4⟩:=m2.get hy
  refine⟨⟨vs,Du,v1,v2,xx _ _ hS,xx _ _ hS',g1,g3⟩,fun z H'' hz=>?_⟩
  obtain⟨q,hq,rfl,hH⟩:=hz
  have e:=hH vs Du v1 v2 (xx _ _ hS) (xx _ _ hS') g1 g3
  subst e
  have ex:=fU.same (K:=X.K) (cG hq (.tup [v1,v2]))
  exact⟨ex,S.same (cG hq _),.tupI fU.new (.consI (g2.mono (ao _) ex) (.consI (g4.mono (ao _) ex) .nilI))⟩
 ·exact h1.elim⟩
end
open Builtin.Str (tooLong)
section
variable{w:World}
end
section
end
section
end
end L2
namespace L2
open PySem PySem.Spec PyProof.Rows
section
end
end L2
namespace L2
open PySem PySem.Spec PyProof.Rows
end L2
namespace L2
open PySem PySem.Spec PyProof.Rows
noncomputable abbrev Ty:=List W×List (Nat×List W)
abbrev Xl:=cf->List am->R Ty
section
variable{fi:Xl}{f:FG}{m:Nat}
end
section
variable{a b:Expr}{fs:FA}
end
end L2
namespace L2
open PySem PySem.Spec PyProof.Rows
section
def x8(ws:List W)(st:List am):R W:=match ws with
 |[.str [c]]=>if 48<=c/\c<=51 then .ok (.int (c-48:Nat)) st else .bad
 |_=>E_ ws st
theorem PV:pL X (.type "int") x8:=⟨fun ak s σ H vs us Q I rv zq=>by
 obtain⟨μ,st,ws,S,r,q⟩:=zq
 unfold x8 at q
 split at q
 ·rename_i c
  split at q
  ·rename_i hc
   obtain⟨y,rfl,ry⟩:=r.one
   have:=ry.strE;subst this
   obtain⟨k,rfl⟩:∃k,c=48+k:=⟨c-48,by omega⟩
   refine O1.h ak s σ H _ us Q I rv ⟨k,rfl,by omega,?_⟩
   rw[show 48+k-48=k by omega]at q
   exact q μ _ H (ao _) eV.refl S .int
  ·exact q.elim
 ·exact Mn.h ak s σ H _ us Q I rv ⟨μ,st,_,S,r,q⟩,fun ws st=>by
 unfold x8
 split
 ·split<;>trivial
 ·exact(Mn (X:=X)).n _ _⟩
end
end L2
namespace L2
open PySem PySem.Spec PyProof.Rows
section
variable{wi:TI}{g:TG}{te:Cx->TE}
noncomputable def noB(sn:List (Str×NameKind)):Bool:=sn.all fun x=>!(x.2==.cell)&&!(x.2==.free)&&(!(x.2==.local)||sn.lookup x.1==some .local)
end
section
variable{f:FG}
end
end L2
namespace L2
open PySem PySem.Spec PyProof.Rows
abbrev dV(gz:List (DK×W))(vs:List V):List (vn×V):=(gz.map fun p=>p.1.key).zip vs
section
end
section
variable{a b c d i:Expr}{fb fc fi:FE}{fs:FA}
end
end L2
namespace L2
open PySem PySem.Spec PyProof.Rows
section
variable{y:Str}{a b:Expr}{fs:FA}
end
inductive DefIn(K:Frag)(x:Str)(st:Stmt):Prop
 |mk {ad:Addr} {od an:Option Addr} {sl:Array (Option Value)} {oc kV dc pm cd ct:Value} (a:nsIn K mainGlobals x=some (some (.ref ad)))
   (l:K.lookup ad=some ⟨oc,od,.func (fnOf x x (iD st) (gA st) (aK st) .none kV dc pm an cd ct),sl⟩) (c:codeIn K cd x=true) (k:keepIn K (.ref ad)=true):DefIn K x st
theorem DefIn.fn{st:Stmt}(d:DefIn K x st)(X:K.In h)(G:h.Ns mainGlobals mg):∃f fd,ie K x x st f fd/\mg x=some (.ref f):=by
 obtain⟨a,l,c,k⟩:=d
 exact⟨_,_,yM (st:=st) l c k,mg_of X G a⟩
theorem Tz{l:List Value}(h:l.length=n+1):∃a t,l=a::t/\t.length=n:=by
 cases l with
 |nil=>cases h
 |cons a t=>exact⟨a,t,rfl,Nat.succ.inj h⟩
theorem Vs{l:List Value}(h:l.length=1):∃a,l=[a]:=gF.mp h
theorem Vt{l:List Value}(h:l.length=2):∃a b,l=[a,b]:=by obtain⟨a,t,rfl,k⟩:=Tz h;obtain⟨b,rfl⟩:=Vs k;exact⟨a,b,rfl⟩
theorem Vu{l:List Value}(h:l.length=3):∃a b c,l=[a,b,c]:=by obtain⟨a,t,rfl,k⟩:=Tz h;obtain⟨b,c,rfl⟩:=Vt k;exact⟨a,b,c,rfl⟩
theorem Vv{l:List Value}(h:l.length=4):∃a b c d,l=[a,b,c,d]:=by obtain⟨a,t,rfl,k⟩:=Tz h;obtain⟨b,c,d,rfl⟩:=Vu k;exact⟨a,b,c,d,rfl⟩
theorem Vw{l:List Value}(h:l.length=5):∃a b c d e,l=[a,b,c,d,e]:=by obtain⟨a,t,rfl,k⟩:=Tz h;obtain⟨b,c,d,e,rfl⟩:=Vv k;exact⟨a,b,c,d,e,rfl⟩
theorem Wq{l:List Value}(h:l.length=6):∃a b c d e f,l=[a,b,c,d,e,f]:=by obtain⟨a,t,rfl,k⟩:=Tz h;obtain⟨b,c,d,e,f,rfl⟩:=Vw k;exact⟨a,b,c,d,e,f,rfl⟩
section
variable{P:Program}{w:World}{K:Frag}{mg:Str->Option Value}{base:Heap}{k n:Nat}{x:Str}{st:Stmt}{f:Addr}{fd:FuncData}{ps:List Str}{G:List W->List am->R W}
theorem PX{h:Heap}(d:DefIn K x st)(X:K.In h)(Gs:h.Ns mainGlobals mg)(ok:∀{f:Addr} {fd:FuncData},ie K x x st f fd->cJ P w K mg base (gY P w) k f fd ps (ig K mg n G))(hn:ps.length=n:=by rfl)
  (hb:∀(kV tf pm:Value) (an:Option Addr) (eP ct:Value) (us:List Value),us.length=ps.length->bindArgs (fnOf x x (iD st) (gA st) (aK st) .none kV tf pm an eP ct) ⟨us,[]⟩=pure (ps.zip us):=by(intro _ _ _ _ _ _ _ q;first|(obtain⟨_,rfl⟩:=Vs q;rfl)|(obtain⟨_,_,rfl⟩:=Vt q;rfl)|(obtain⟨_,_,_,rfl⟩:=Vu q;rfl)|(obtain⟨_,_,_,_,rfl⟩:=Vv q;rfl)|(obtain⟨_,_,_,_,_,rfl⟩:=Vw q;rfl)|(obtain⟨_,_,_,_,_,_,rfl⟩:=Wq q;rfl))):cN P w K mg base k x n G:=let ⟨_,_,F,m⟩:=d.fn X Gs;yT F m hn hb (ok F)
end
noncomputable def Vx:List Str->Bool
 |[]=>true
 |x::r=>!(r.any fun y=>y==x)&&Vx r
theorem Ha:∀{l:List Str},Vx l=true->l.Nodup
 |[],_=>.nil
 |x::r,h=>by
  simp only[Vx,cX,fN,mG,cI]at h
  exact gU.mpr ⟨fun m=>h.1 x m rfl,Ha h.2⟩
section
variable{sp:Scope}
theorem jx{N:List Str}(a:sp.kind=.function:=by rfl)(b:sp.isCoroutine=false:=by rfl)(c:sp.isGenerator=false:=by rfl)(d:N.Nodup:=by decide +kernel)(f:N.take ps.length=ps:=by rfl)(g:∀x∈ps,sp.names.lookup x=some .local\/sp.names.lookup x=some .cell:=by decide +kernel)(h:∀y∈sp.names,y.2≠.free:=by decide +kernel):aY N ps sp:=⟨a,b,c,d,f,g,h⟩
theorem sS(i:Nat){iI:Pos}(sc:aY X.N ps sp)(he:SE X e fe)(hi:X.N[i]?=some x:=by rfl)(hx:J3 X.env.scope x:=by first|exact .inl rfl|exact .inr rfl)(hs:swapsWith e (some (.Name x iI)) pos.line X.env=pure false:=by rfl)(hf:X.fn x=true\/X.env.scope.names.lookup x=some .local:=by first|exact .inl rfl|exact .inr rfl|assumption) :
  SS X (.Assign [.Name x iI] e pos) (a9 i fe):=Pt sc.nd hi hx he hs hf
theorem sG(i:Nat)(sc:aY X.N ps sp)(hi:X.N[i]?=some x:=by rfl)(hx:J3 X.env.scope x:=by first|exact .inl rfl|exact .inr rfl)(hf:X.fn x=true\/X.env.scope.names.lookup x=some .local:=by first|exact .inl rfl|exact .inr rfl|assumption):SG X (.Name x pos) (iP i):=DV sc.nd hi hx hf
theorem Xm{cl:List (Str×Addr)}{C s0 H0 fp}(i:Nat)(hN:Vx nm=true:=by first|rfl|kernel_rfl)(hi:nm[i]?=some x:=by rfl)(hx:J3 #[11].env.scope x:=by first|exact .inl rfl|exact .inr rfl)(hf:#[11].fn x=true\/#[11].env.scope.names.lookup x=some .local:=by first|exact .inl rfl|exact .inr rfl|assumption) :
  SG #[11] (.Name x pos) (iP i):=DV (X:=c7 X nm scope cl C s0 H0 fp) (Ha hN) hi hx hf
end
noncomputable def Lo:Expr->List Str
 |.Name x _=>[x]
 |.Tuple es _ _=>es.filterMap fun e=>match e with
  |.Name x _=>some x
  |_=>none
 |_=>[]
noncomputable def PY(N:List Str):List Str->List (Option Nat)->List Str
 |_,[]=>[]
 |ts,some j::r=>N.getD j "" :: PY N ts r
 |ts,none::r=>ts.headD "" :: PY N ts.tail r
abbrev Mv(X:Cx)(tg:Expr)(cap:List (Option Nat)):List Str:=PY X.N (Lo tg) cap
section
variable{f:FG}{m:Nat}
theorem D2(lN:X.env.cells=cellsFrom m X.env.scope.names [])(hi:SI X tg dA fi)(hg:∀cl C s0 H0 fp,SG (c7 X (Mv X tg cap) scope cl C s0 H0 fp) tg f)(ht:∀cl C s0 H0 fp,Pz (c7 X (Mv X tg cap) scope cl C s0 H0 fp) mi t)
  (he:∀cl C s0 H0 fp,SE (c7 X (Mv X tg cap) scope cl C s0 H0 fp) pD el) (hB:Af X.env.scope.names scope.names (Mv X tg cap) cap X.N=true:=by first|rfl|kernel_rfl) (iM:X.calm=true:=by rfl) (iN:scope.kind=.function:=by rfl) (hs:∀x,foldedSetIterable dA X.env x=pure x:=by intro _;rfl) :
  SE X #[10] (jo cap fi f t el):=PB hB lN hi hg ht he iM iN hs
theorem uG{x0:Str}{p0 p1:Pos}(Kd:SG X (.Name x0 p0) (iP i))(lN:X.env.cells=cellsFrom m X.env.scope.names [])(hi:SI X tg dA fi)(hg:∀cl C s0 H0 fp,SG (c7 X (Mv X tg cap) scope cl C s0 H0 fp) tg f)(ht:∀cl C s0 H0 fp,Pz (c7 X (Mv X tg cap) scope cl C s0 H0 fp) mi t)
  (he:∀cl C s0 H0 fp,SE (c7 X (Mv X tg cap) scope cl C s0 H0 fp) pD el) (hB:Af X.env.scope.names scope.names (Mv X tg cap) cap X.N=true:=by first|rfl|kernel_rfl) (RC:swapsWith #[10] (some (.Name x0 p0)) p1.line X.env=pure true:=by first|rfl|kernel_rfl) (iM:X.calm=true:=by rfl) (iN:scope.kind=.function:=by rfl) (hs:∀x,foldedSetIterable dA X.env x=pure x:=by intro _;rfl) :
  SS X (.Assign [.Name x0 p0] #[10] p1) (rd (jo cap fi f t el) (iP i)):=CA Kd hB lN hi hg ht he iM iN hs RC
end
section
end
section
end
section
variable{f:Expr}{fk fd:FE}
end
section
variable{a:Expr}
end
section
end
section
variable{w:World}
variable{K:Type}[DecidableEq K]{XA:KeyKind prog w K}
end
section
end
end L2
namespace L2
open PySem PySem.Spec PyProof.Rows
structure PZ(K:Frag)(mg:Str->Option Value)(c:Str)(fs:List Str):Prop where
 ex:∃C,mg c=some (.ref C)/\Cls K C/\∀f∈fs,qZ K C f
noncomputable def m7(st:List am):W->Option (Nat×Str×List (Str×W))
 |.loc n=>(match st[n]? with
  |some (.obj c fs)=>some (n,c,fs)
  |_=>none)
 |_=>none
noncomputable def xb(f:Str)(v:W):List (Str×W)->List (Str×W)
 |[]=>[(f,v)]
 |(g,x)::r=>if g=f then(g,v)::r else(g,x)::xb f v r
noncomputable abbrev fV(fs:List (Str×W))(vs:List V):List (Str×V):=(fs.map fun p=>p.1).zip vs
section
theorem rX(S:jd K mg μ st H){x:W}{v:V}{fs:List (Str×W)}(h:m7 st x=some (n,c,fs))(r:bO K μ H x v) :
  x=.loc n/\st[n]?=some (.obj c fs)/\∃a C dx vs,μ[n]?=some a/\v=.ref a/\mg c=some (.ref C)/\H a=some (.ins C dx (fV fs vs))/\RelWs K μ H (fs.map fun p=>p.2) vs:=by
 cases x with
 |loc m=>
  simp only[m7]at h
  cases e:st[m]? with
  |none=>rw[e]at h;cases h
  |some cc=>
   rw[e]at h
   cases cc with
   |obj c' z=>
    cases h
    obtain⟨a,g,C,dx,vs,m1,k,rr⟩:=S.get e
    obtain⟨b,f,rfl⟩:=r.locE
    rw[g]at f;cases f
    exact⟨rfl,e,a,C,dx,vs,g,rfl,m1,k,rr⟩
   |_=>cases h
 |_=>cases h
theorem yZ(f:Str):∀{fs:List (Str×W)} {vs:List V},RelWs K μ H (fs.map fun p=>p.2) vs->(∀w,fs.lookup f=some w->∃v,(fV fs vs).lookup f=some v/\bO K μ H w v)/\(fs.lookup f=none->(fV fs vs).lookup f=none)
 |[],vs,r=>⟨fun w h=>(by cases h),fun _=>rfl⟩
 |(g,x)::fs,vs,r=>by
  obtain⟨y,ys,rfl,a,b⟩:=RelWs.consE r
  have ih:=yZ f (fs:=fs) b
  have e1:List.lookup f ((g,x)::fs)=(match f==g with|true=>some x|false=>fs.lookup f):=rfl
  have e2:List.lookup f (fV ((g,x)::fs) (y::ys))=(match f==g with|true=>some y|false=>(fV fs ys).lookup f):=rfl
  rw[e1,e2]
  cases f==g with
  |true=>exact⟨fun w h=>(by cases h;exact⟨y,rfl,a⟩),fun h=>(by cases h)⟩
  |false=>exact ih
theorem Hb(f:Str){w:W}{v:V}(uq:bO K μ H w v):∀{fs:List (Str×W)} {vs:List V},RelWs K μ H (fs.map fun p=>p.2) vs->∃us,o_ f v (fV fs vs)=fV (xb f w fs) us/\RelWs K μ H ((xb f w fs).map fun p=>p.2) us
 |[],vs,r=>⟨[v],rfl,.consI uq .nilI⟩
 |(g,x)::fs,vs,r=>by
  obtain⟨y,ys,rfl,a,b⟩:=RelWs.consE r
  obtain⟨us,e,q⟩:=Hb f uq (fs:=fs) b
  show ∃us,(if g=f then(g,v)::fV fs ys else(g,y)::o_ f v (fV fs ys))=_/\_
  by_cases h:g=f
  ·refine⟨v::ys,?_,?_⟩
   ·rw[aD h];show _=fV (if g=f then(g,w)::fs else(g,x)::xb f w fs) _;rw[aD h];rfl
   ·show RelWs K μ H ((if g=f then(g,w)::fs else(g,x)::xb f w fs).map fun p=>p.2) _
    rw[aD h];exact .consI uq b
  ·refine⟨y::us,?_,?_⟩
   ·rw[aQ h];show _=fV (if g=f then(g,w)::fs else(g,x)::xb f w fs) _;rw[aQ h,e];rfl
   ·show RelWs K μ H ((if g=f then(g,w)::fs else(g,x)::xb f w fs).map fun p=>p.2) _
    rw[aQ h];exact .consI a q
theorem fU.butI{l dx:Addr}{xs:List (Str×V)}(e:V' l H H')(hl:H l=some (.ins C dx xs)):eV K H H':=by
 have Ey:∀{p:Addr} {o:HO},H p=some o->(∀c d zs,o≠.ins c d zs)->p≠l:=fun{p o} q hn z=>by subst z;rw[hl]at q;cases q;exact hn _ _ _ rfl
 refine⟨fun p ys h=>?_,fun b o u h=>e _ _ (Ey h (fun _ _ _ z=>by cases z)) h⟩
 rcases h with(h|⟨o,h⟩)|h
 ·exact .inl (.inl (e _ _ (Ey h (fun _ _ _ z=>by cases z)) h))
 ·exact .inl (.inr ⟨o,e _ _ (Ey h (fun _ _ _ z=>by cases z)) h⟩)
 ·exact .inr h
theorem jd.setI(S:jd K mg μ st H){a dx:Addr}{fs Vd:List (Str×W)}{xs:List (Str×V)}{us:List V}(hn:st[n]?=some (.obj c fs))(hm:μ[n]?=some a)(hc:mg c=some (.ref C))(ha:H a=some (.ins C dx xs))(hr:RelWs K μ H (Vd.map fun p=>p.2) us) :
  jd K mg μ (st.set n (.obj c Vd)) (fB H a (.ins C dx (fV Vd us))):=
 S.setG hn rfl hm ha (fun _ _ z=>by cases z) (fun _ z=>by cases z) (fU.butI ml ha) rfl ⟨C,dx,us,hc,gG,hr.mono (ao _) (fU.butI ml ha)⟩
end
section
variable{a value:Expr}{f m:Str}{fl:List Str}{fs:FA}
def iE(c f:Str)(fa:FE):FE:=fun ρ st=>(fa ρ st).bind fun x st=>match m7 st x with
 |some (_,c',fs)=>if c'=c then tL (fs.lookup f) fun w=>.ok w st else .bad
 |none=>.bad
theorem rY(hC:PZ X.K X.mg c fl)(ha:SE X a fa)(hf:f∈fl:=by decide)(hb:attributeBase a f X.env (eval a X.env)=eval a X.env:=by rfl):SE X (.Attribute a f pos) (iE c f fa):=⟨(OJ ha.h hb).imp fun σ H Q h=>by
 walk_at "2"
 walk_at "1"
 cases e0:m7 st1 x with
 |none=>rw[e0]at h1;exact h1.elim
 |some nk=>
  obtain⟨n,c',fs⟩:=nk
  rw[e0]at h1
  simp only at h1
  obtain⟨rfl,hn,a,C,dx,vs,hm,rfl,hc,hI,rr⟩:=rX l1.sto e0 q1
  by_cases z:c'=c
  ·rw[aD z]at h1
   subst z
   obtain⟨C',hc',cl,na⟩:=hC.ex
   rw[hc]at hc';cases hc'
   unfold tL at h1
   split at h1
   ·rename_i w ew
    obtain⟨v,ev,rv⟩:=(yZ f rr).1 w ew
    exact⟨a,C,dx,_,v,rfl,hI,cl,na f hf,ev,h1 μ1 v H1 (ao _) eV.refl l1.sto rv⟩
   ·exact h1.elim
  ·rw[aQ z]at h1;exact h1.elim⟩
def pO(c f:Str)(fo fe:FE):FS:=fun ρ st=>(fe ρ st).stmt ρ fun y st=>(fo ρ st).stmt ρ fun x st=>match m7 st x with
 |some (n,c',fs)=>if c'=c/\fs.length<900 then .nx ρ (st.set n (.obj c (xb f y fs)))else .bad
 |none=>.bad
theorem P0(hC:PZ X.K X.mg c fl)(ho:SE X o fo)(he:SE X value fe)(hf:f∈fl:=by decide)(hs:swapsWith value (some (.Attribute o f iI)) pos.line X.env=pure false:=by rfl):SS X (.Assign [.Attribute o f iI] value pos) (pO c f fo fe):=⟨(OK ho.h he.h hs).imp fun D σ H h=>by
 walk_at "2"
 refine⟨μ,ρ,st,l,RK.stmt h l fun μ1 st1 y yv H1 p1 x1 l1 q1 h1=>⟨μ1,ρ,st1,l1,RK.stmt h1 l1 fun μ2 cW x xv H2 p2 x2 l2 q2 h2=>?_⟩⟩
 cases e0:m7 cW x with
 |none=>rw[e0]at h2;exact h2.elim
 |some nk=>
  obtain⟨n,c',fs⟩:=nk
  rw[e0]at h2
  simp only at h2
  obtain⟨rfl,hn,a,C,dx,vs,hm,rfl,hc,hI,rr⟩:=rX l2.sto e0 q2
  by_cases z:c'=c/\fs.length<900
  ·rw[aD z]at h2
   obtain⟨z,hz⟩:=z
   subst z
   obtain⟨C',hc',cl,na⟩:=hC.ex
   rw[hc]at hc';cases hc'
   obtain⟨us,e1,r1⟩:=Hb f (q1.mono p2 x2) rr
   have fX:(fV fs vs).length<1000:=by
    unfold fV
    rw[List.length_zip,az]
    omega
   refine⟨a,C,dx,_,rfl,hI,cl,na f hf,fX,?_⟩
   rw[e1]
   exact h2 μ2 σ _ (ao _) (fU.butI ml hI) (l2.to (ao _) (fU.butI ml hI) (l2.sto.setI hn hm hc hI r1))
  ·rw[aQ z]at h2;exact h2.elim⟩
structure hJ(P:Program)(w:World)(K:Frag)(mg:Str->Option Value)(base:Heap)(k:Nat)(c m:Str)(n:Nat)(F:List W->List am->R W):Prop where
 ex:∃(C g:Addr) (fd:FuncData) (ps:List Str),mg c=some (.ref C)/\Cls K C/\Sd K C m g/\ps.length=n/\qx K fd ps []/\cJ P w K mg base (gY P w) k g fd ps (ig K mg n F)
theorem hJ.mono{w:World}(h:hJ P w K mg base j c m n F)(hj:j<=k):hJ P w K mg base k c m n F:=by
 obtain⟨C,g,fd,ps,a,b,b2,c,d,e⟩:=h.ex
 exact⟨C,g,fd,ps,a,b,b2,c,d,e.mono hj⟩
def gJ(c m:Str)(n:Nat)(F:List W->List am->R W)(fo:FE)(fs:FA):FE:=fun ρ st=>(fo ρ st).bind fun x st=>match m7 st x with
 |some (_,c',fl)=>if c'=c/\fl.lookup m=none then(fs ρ st).bind fun ws st=>if ws.length+1=n then F (x::ws) st else .bad else .bad
 |none=>.bad
theorem y0{k':Nat}{pl:Sem Bool}(Fn:hJ X.prog X.w X.K X.mg X.base k c m n F)(hr:jz k' X.A)(hk:k<=k')(ho:SE X o fo)(ha:SA X (e::es) fs)
  (n_:starEach (e::es) X.env=(false,eval e X.env)::starEach es X.env:=by rfl) (lU:(backTo pos (starEach es X.env)).any (·.1)=false:=by rfl)
  (ht:eval (.Call (.Attribute o m gj) (e::es) [] pos) X.env=(do
   let ov <- eval o X.env
   standAt gj.atName
   let (f,fst') <- holding [ov] (getMethod ov m pl)
   callWith pos f fst' (backTo pos (starEach (e::es) X.env)) (backToKw pos (keywordEach [] X.env))):=by rfl):SE X (.Call (.Attribute o m gj) (e::es) [] pos) (gJ c m n F fo fs):=⟨by
 intro ak s σ H Q I h
 obtain⟨C,g,fd,ps,hc,cl,hm,hn,hb,Fo⟩:=(Fn.mono hk).ex
 walk_at "2"
 have h':tE X fo σ H fun x H1=>∃(a dx:Addr) (xs:List (Str×V)),x=.ref a/\H1 a=some (.ins C dx xs)/\xs.lookup m=none/\SQ X fs σ H1 fun vs H2=>∃μ2 cW ws,Rl X μ2 ρ cW σ H2/\RelWs X.K μ2 H2 ws (.ref a::vs)/\ws.length=n/\RK X (tH X) μ2 σ H2 Q (F ws cW):=by
  walk_at "1"
  cases e0:m7 st1 x with
  |none=>rw[e0]at h1;exact h1.elim
  |some nk=>
   obtain⟨i,c',fl⟩:=nk
   rw[e0]at h1
   simp only at h1
   obtain⟨rfl,hi,a,C',dx,vs,hma,rfl,hc',hI,rr⟩:=rX l1.sto e0 q1
   by_cases z:c'=c/\fl.lookup m=none
   ·rw[aD z]at h1
    obtain⟨z,hz⟩:=z
    subst z
    rw[hc]at hc';cases hc'
    refine⟨a,dx,_,rfl,hI,(yZ m rr).2 hz,μ1,ρ,st1,l1,RK.bind h1 l1 fun μ2 cW ws vs2 H2 p2 x2 l2 q2 h2=>?_⟩
    by_cases y:ws.length+1=n
    ·rw[aD y]at h2
     exact⟨μ2,cW,.loc i::ws,l2,.consI (q1.mono p2 x2) q2,y,h2⟩
    ·rw[aQ y]at h2;exact h2.elim
   ·rw[aQ z]at h1;exact h1.elim
 refine PySem.W.methodCall_KW (pl:=pl) (jQ (ho.h ak s σ H _ I h') fun u s1 kt1 ⟨x,H1,I1,rx,a,dx,xs,ex,ea,lk,q⟩=>?_) ht
 subst ex
 obtain rfl:u=Value.ref a:=rx
 refine vq I1 ea cl hm lk ?_
 refine PySem.W.callWith_K (first:=[.ref a]) (h₀:=X.base) I.ok.mod.kin hm.kp (jQ (ha.h pos ak s1 σ H1 _ I1 q) fun us s2 kt2 ⟨vs,H2,I2,r,μ2,cW,ws,l2,r2,y,q2⟩=>⟨I2.kIn,?_⟩) n_ lU
 exact GY (us:=.ref a::us) (vs:=.ref a::vs) Fo hn hr hb I2 l2.sto r2 (.cons rfl r) y q2⟩
theorem Lp{k':Nat}(Fn:hJ X.prog X.w X.K X.mg X.base k c m 1 F)(hr:jz k' X.A)(hk:k<=k')(ho:SE X o fo)
  (ht:eval (.Call (.Attribute o m gj) [] [] pos) X.env=(do
   let ov <- eval o X.env
   standAt gj.atName
   let (f,fst') <- holding [ov] (getMethod ov m pl)
   callWith pos f fst' (backTo pos (starEach [] X.env)) (backToKw pos (keywordEach [] X.env))):=by rfl):SE X (.Call (.Attribute o m gj) [] [] pos) (gJ c m 1 F fo aw):=⟨by
 intro ak s σ H Q I h
 obtain⟨C,g,fd,ps,hc,cl,hm,hn,hb,Fo⟩:=(Fn.mono hk).ex
 walk_at "2"
 have h':tE X fo σ H fun x H1=>∃(a dx:Addr) (xs:List (Str×V)),x=.ref a/\H1 a=some (.ins C dx xs)/\xs.lookup m=none/\∃μ2 cW ws,Rl X μ2 ρ cW σ H1/\RelWs X.K μ2 H1 ws [.ref a]/\ws.length=1/\RK X (tH X) μ2 σ H1 Q (F ws cW):=by
  walk_at "1"
  cases e0:m7 st1 x with
  |none=>rw[e0]at h1;exact h1.elim
  |some nk=>
   obtain⟨i,c',fl⟩:=nk
   rw[e0]at h1
   simp only at h1
   obtain⟨rfl,hi,a,C',dx,vs,hma,rfl,hc',hI,rr⟩:=rX l1.sto e0 q1
   by_cases z:c'=c/\fl.lookup m=none
   ·rw[aD z]at h1
    obtain⟨z,hz⟩:=z
    subst z
    rw[hc]at hc';cases hc'
    exact⟨a,dx,_,rfl,hI,(yZ m rr).2 hz,μ1,st1,[.loc i],l1,.consI q1 .nilI,rfl,h1⟩
   ·rw[aQ z]at h1;exact h1.elim
 refine PySem.W.methodCall_KW (pl:=pl) (jQ (ho.h ak s σ H _ I h') fun u s1 kt1 ⟨x,H1,I1,rx,a,dx,xs,ex,ea,lk,μ2,cW,ws,l2,r2,y,q2⟩=>?_) ht
 subst ex
 obtain rfl:u=Value.ref a:=rx
 refine vq I1 ea cl hm lk ?_
 exact PySem.W.callWith_K0 (first:=[.ref a]) I1.kIn hm.kp (GY (us:=[.ref a]) (vs:=[.ref a]) Fo hn hr hb I1 l2.sto r2 (.cons rfl .nil) y q2)⟩
structure Lq(P:Program)(w:World)(K:Frag)(mg:Str->Option Value)(base:Heap)(k:Nat)(c:Str)(n:Nat)(F:List W->List am->R W):Prop where
 ex:∃(C g:Addr) (fd:FuncData) (ps:List Str),mg c=some (.ref C)/\Mk K C g/\ps.length=n/\qx K fd ps []/\cJ P w K mg base (gY P w) k g fd ps (ig K mg n F)
def D3(c:Str)(n:Nat)(F:List W->List am->R W)(fs:FA):FE:=fun ρ st=>(fs ρ st).bind fun ws st=>if ws.length+1=n then(match F (.loc st.length::ws) (st++[.obj c []])with
  |.ok .non be=>.ok (.loc st.length) be
  |_=>.bad)else .bad
theorem P1{k':Nat}(Fn:Lq X.prog X.w X.K X.mg X.base k c n F)(hr:jz k' X.A)(hk:k+1<=k')(ha:SA X (e::es) fs)(hg:Gl X c:=by rfl)(JZ:(c==("__debug__":Str))=false:=by decide)
  (he:starEach (e::es) X.env=(false,eval e X.env)::starEach es X.env:=by rfl) (lU:(backTo pos (starEach es X.env)).any (·.1)=false:=by rfl):SE X (.Call (.Name c p) (e::es) [] pos) (D3 c n F fs):=⟨by
 intro ak s σ H Q I h
 obtain⟨C,g,fd,ps,hc,M,hn,hb,Fo⟩:=Fn.ex
 refine fy (rJ I hg hc ?_ JZ)
 walk_at "2"
 have h':SQ X fs σ H fun vs H1=>∃μ1 st1 ws cW,Rl X μ1 ρ st1 σ H1/\RelWs X.K μ1 H1 ws vs/\ws.length+1=n/\F (.loc st1.length::ws) (st1++[.obj c []])=.ok .non cW/\RK X (tH X) μ1 σ H1 Q (.ok (.loc st1.length) cW):=by
  walk_at "1"
  by_cases y:x.length+1=n
  ·rw[aD y]at h1
   split at h1
   ·rename_i cW e2
    exact⟨μ1,st1,x,cW,l1,q1,y,e2,h1⟩
   ·exact h1.elim
  ·rw[aQ y]at h1;exact h1.elim
 refine PySem.W.callWith_K (h₀:=X.base) I.ok.mod.kin M.kp (jQ (ha.h pos ak s σ H _ I h') fun us s1 kt1 ⟨vs,H1,I1,r,μ1,st1,ws,cW,l1,r1,y,e2,q⟩=>⟨I1.kIn,?_⟩) he lU
 refine Gb (dvs:=[]) (ds:=[]) (E:=fun _ _ _=>False) M Fo (hr.mono hk) hb .nil (fun ak σ H s e s' I ht hq=>by obtain⟨_,_,_,_,_,_,z,_⟩:=hq;exact z.elim) I1 r fun x dx hx hdx Ey=>?_
 have hs1:uV H1 (fB H1 dx (.own x)):=cG hdx _
 have hx1:(fB H1 dx (.own x)) x=none:=by rw[cM (Ne.symm Ey)];exact hx
 have uo:uV (fB H1 dx (.own x)) (fB (fB H1 dx (.own x)) x (.ins C dx [])):=cG hx1 _
 have xt:eV X.K H1 (fB (fB H1 dx (.own x)) x (.ins C dx [])):=(fU.same hs1).trans (fU.same uo)
 have S2:jd X.K X.mg (μ1++[x]) (st1++[.obj c []]) (fB (fB H1 dx (.own x)) x (.ins C dx [])):=(l1.sto.same hs1).push (c:=.obj c []) hx1 ⟨C,dx,[],hc,gG,.nilI⟩
 have hmx:(μ1++[x])[st1.length]?=some x:=by rw[l1.sto.len];simp
 refine⟨by rw[a7,bg,<- r1.len];exact y,μ1++[x],.loc st1.length::ws,st1++[.obj c []],S2,.consI (.locI hmx) (by rw[a7];exact r1.mono (aX _ _) xt),?_⟩
 rw[e2]
 intro μ' v H' pp xx S' rv
 exact⟨rv.nonE,q μ' (.ref x) H' ((aX _ _).trans pp) (xt.trans xx) S' (.locI (L2.pre_get pp hmx))⟩⟩
end
noncomputable def hZ:Stmt->List Stmt
 |.ClassDef _ _ _ b _ _ _ _ _ _ _=>b
 |_=>[]
inductive DefM(K:Frag)(C:Addr)(q m:Str)(st:Stmt):Prop
 |mk {ad:Addr} {od an:Option Addr} {sl:Array (Option Value)} {oc kV dc pm cd ct:Value} (a:findIn K (.ref C) m=some (some (.ref ad))) (i:isFn K (.ref ad)=true)
   (l:K.lookup ad=some ⟨oc,od,.func (fnOf m q (iD st) (gA st) (aK st) .none kV dc pm an cd ct),sl⟩) (c:codeIn K cd q=true) (k:keepIn K (.ref ad)=true):DefM K C q m st
section
variable{w:World}{q m:Str}{st:Stmt}
theorem jW(d:DefM K C q m st)(hC:mg c=some (.ref C))(cl:Cls K C)(ok:∀{f:Addr} {fd:FuncData},ie K m q st f fd->cJ P w K mg base (gY P w) k f fd ps (ig K mg n G))(hn:ps.length=n:=by rfl)
  (hb:∀(kV tf pm:Value) (an:Option Addr) (eP ct:Value) (us:List Value),us.length=ps.length->bindArgs (fnOf m q (iD st) (gA st) (aK st) .none kV tf pm an eP ct) ⟨us,[]⟩=pure (ps.zip us):=by(intro _ _ _ _ _ _ _ q;first|(obtain⟨_,rfl⟩:=Vs q;rfl)|(obtain⟨_,_,rfl⟩:=Vt q;rfl)|(obtain⟨_,_,_,rfl⟩:=Vu q;rfl)|(obtain⟨_,_,_,_,rfl⟩:=Vv q;rfl)|(obtain⟨_,_,_,_,_,rfl⟩:=Vw q;rfl)|(obtain⟨_,_,_,_,_,_,rfl⟩:=Wq q;rfl))):hJ P w K mg base k c m n G:=by
 obtain⟨a,i,l,cc,kk⟩:=d
 exact⟨C,_,_,ps,hC,cl,⟨a,i,kk⟩,hn,qx.all fun us hl=>hb _ _ _ _ _ _ us hl,ok (yM (st:=st) l cc kk)⟩
theorem P2(d:DefM K C q "__init__" st)(hC:mg c=some (.ref C))(mk:makesIn K C=true)(kc:keepIn K (.ref C)=true)(ok:∀{f:Addr} {fd:FuncData},ie K "__init__" q st f fd->cJ P w K mg base (gY P w) k f fd ps (ig K mg n G))(hn:ps.length=n:=by rfl)
  (hb:∀(kV tf pm:Value) (an:Option Addr) (eP ct:Value) (us:List Value),us.length=ps.length->bindArgs (fnOf "__init__" q (iD st) (gA st) (aK st) .none kV tf pm an eP ct) ⟨us,[]⟩=pure (ps.zip us):=by(intro _ _ _ _ _ _ _ q;first|(obtain⟨_,rfl⟩:=Vs q;rfl)|(obtain⟨_,_,rfl⟩:=Vt q;rfl)|(obtain⟨_,_,_,rfl⟩:=Vu q;rfl)|(obtain⟨_,_,_,_,rfl⟩:=Vv q;rfl)|(obtain⟨_,_,_,_,_,rfl⟩:=Vw q;rfl)|(obtain⟨_,_,_,_,_,_,rfl⟩:=Wq q;rfl))):Lq P w K mg base k c n G:=by
 obtain⟨a,i,l,cc,kk⟩:=d
 exact⟨C,_,_,ps,hC,⟨mk,a,i,kc⟩,hn,qx.all fun us hl=>hb _ _ _ _ _ _ us hl,ok (yM (st:=st) l cc kk)⟩
end
end L2
namespace L2
open PySem PySem.Spec PyProof.Rows
theorem gC(st x:List am)(k:Nat):(st++x)[st.length+k]?=x[k]?:=by rw[aS #[0]];congr 1;omega
theorem dE(st x:List am):(st++x)[st.length]?=x[0]?:=gC st x 0
theorem lD(st x:List am)(k:Nat)(c:am):(st++x).set (st.length+k) c=st++x.set k c:=by rw[py _ _ #[0]];congr 2;omega
theorem fE(st x:List am)(c:am):(st++x).set st.length c=st++x.set 0 c:=lD st x 0 c
theorem cw{x:List am}{c:am}(h:st[n]?=some c):(st++x)[n]?=some c:=by
 rw[aH (ar.mp h).1];exact h
theorem CF(st:List am)(ws:List W):hX st st ws=st:=by unfold hX;split<;>simp
theorem tU{st x:List am}{ws:List W}(h:undWs st.length ws=true):hX st (st++x) ws=st:=by
 unfold hX
 rw[aD ⟨h,by simp,fun i hi=>.inl (aH hi)⟩]
 simp
theorem x9(h:undWs st.length ws=false):hX st be ws=be:=by
 unfold hX
 rw[aQ fun k=>by have:=k.1;rw[h]at this;cases this]
theorem iF{N:Nat}{body:FS}{ws:List W}{w:W}(h:body #[13] st=.rt w be):cQ N body ws st=.ok w (hX st be [w]):=by
 unfold cQ;rw[h]
theorem qo{w:W}(h:body #[13] st=.rt w st):cQ N body ws st=.ok w st:=by
 rw[iF h,CF]
theorem AJ{x:List am}{w:W}(h:body #[13] st=.rt w (st++x))(hu:undWs st.length [w]=true):cQ N body ws st=.ok w st:=by
 rw[iF h,tU hu]
theorem Hc{x:List am}(h:body #[13] st=.rt (.loc (st.length+k)) (st++x)):cQ N body ws st=.ok (.loc (st.length+k)) (st++x):=by
 rw[iF h,x9 (by simp[undWs,W.und])]
theorem He{g g':FS}{ρ':cf}(h:g ρ st=.nx ρ' be):aE g g' ρ st=g' ρ' be:=by unfold aE;rw[h]
theorem D4{f:FG}{k:GU}(h:fi ρ st=.ok k be):lv fi f body ρ st=rQ f body k.2 k.1 ρ be:=by unfold lv;rw[h];rfl
theorem AK{f:FG}{body:FS}{ck:Option (Nat×List W)}(I:Nat->cf->List am->Prop):∀{ws:List W} {ρ:cf} {st:List am} (i0:Nat),I i0 ρ st->(∀i ρ st,I i ρ st->kZ st ck) ->
  (∀i w ρ st,ws[i]?=some w->I (i0+i) ρ st->∃ρ' ρ2 cW,f w ρ=some ρ'/\body ρ' st=.nx ρ2 cW/\I (i0+i+1) ρ2 cW) ->
  ∃ρ2 cW,rQ f body ck ws ρ st=.nx ρ2 cW/\I (i0+ws.length) ρ2 cW
 |[],ρ,st,i0,h0,hc,hs=>⟨ρ,st,by unfold rQ;rw[aD (hc _ _ _ h0)],h0⟩
 |w::ws,ρ,st,i0,h0,hc,hs=>by
  obtain⟨ρ',ρ2,cW,e1,e2,h1⟩:=hs 0 w ρ st rfl h0
  obtain⟨ρ3,mF,e3,h3⟩:=AK I (ws:=ws) (ρ:=ρ2) (st:=cW) (i0+1) h1 hc fun i w ρ st hw hI=>by
   obtain⟨a,b,c,d,e,g⟩:=hs (i+1) w ρ st (by simpa using hw) (by rw[show i0+(i+1)=i0+1+i by omega];exact hI)
   exact⟨a,b,c,d,e,by rw[show i0+1+i+1=i0+(i+1)+1 by omega];exact g⟩
  refine⟨ρ3,mF,?_,by rw[bg,show i0+(ws.length+1)=i0+1+ws.length by omega];exact h3⟩
  unfold rQ
  rw[aD (hc _ _ _ h0),e1]
  simp only[e2]
  exact e3
theorem Ff{t:FT}{g:FS}(I:Nat->cf->List am->Prop):∀(n:Nat) {ρ:cf} {st:List am},I n ρ st ->
  (∀n ρ st,I n ρ st->t ρ st=.ok false st\/(t ρ st=.ok true st/\∃ρ2 cW m,g ρ st=.nx ρ2 cW/\m<n/\I m ρ2 cW)) ->
  ∃m ρ2 cW,pM t g ρ st=.nx ρ2 cW/\I m ρ2 cW/\t ρ2 cW=.ok false cW:=by
 intro n ρ st h hs
 have key:∀(k n:Nat) (ρ:cf) (st:List am),n<k->I n ρ st->∃m ρ2 cW,d6 t g k ρ st=.nx ρ2 cW/\I m ρ2 cW/\t ρ2 cW=.ok false cW:=by
  intro k
  induction k with
  |zero=>intro n _ _ h;exact absurd h (kW _)
  |succ k ih=>
   intro n ρ st hk hI
   rcases hs n ρ st hI with e|⟨e,ρ2,cW,m,e2,hm,h2⟩
   ·exact⟨n,ρ,st,by unfold d6;rw[e];rfl,hI,e⟩
   ·obtain⟨m',ρ3,mF,e3,h3⟩:=ih m ρ2 cW #[0] h2
    exact⟨m',ρ3,mF,by unfold d6;rw[e];simp only[R.stmt_ok,fM,e2];exact e3,h3⟩
 obtain⟨m,ρ2,cW,e,h2⟩:=key (n+1) n ρ st (bY n) h
 exact⟨m,ρ2,cW,xV e #[15],h2⟩
section
variable{ρ':cf}{cW mF VE:List am}{fb fi:FE}{fs:FA}{u:FT}{x y z w v:W}{xs zs:List W}{m:Nat}{a b k:Bool}{g g':FS}
theorem gK(h:ρ[i]?=some (some w)):af i ρ st=.ok w st:=by unfold af;rw[h]
theorem bf:eC w ρ st=.ok w st:=rfl
theorem bd{f:W->W->List am->R W}(h1:fa ρ st=.ok x st1)(h2:fb ρ st1=.ok y cW)(h3:f x y cW=.ok z mF):e2 f fa fb ρ st=.ok z mF:=by unfold e2;rw[h1];simp only[R.bind_ok];rw[h2];exact h3
theorem aG:aw ρ st=.ok [] st:=rfl
theorem ai(h1:fa ρ st=.ok x st1)(h2:fs ρ st1=.ok xs cW):aa fa fs ρ st=.ok (x::xs) cW:=by unfold aa;rw[h1];simp only[R.bind_ok];rw[h2];rfl
theorem P3:S6 ls ρ st=.ok (ls.map W.str) st:=rfl
theorem cE(h1:fs ρ st=.ok ws st1)(h2:ws.length<=m5):cZ fs ρ st=.ok (.tup ws) st1:=by unfold cZ;rw[h1];simp only[R.bind_ok,qB];rw[aD h2]
theorem k6(h1:fs ρ st=.ok ws st1)(h2:ws.length<=m5):jD fs ρ st=.ok (.loc st1.length) (st1++[.lst ws]):=by unfold jD;rw[h1];simp only[R.bind_ok,pI];rw[aD h2]
theorem bE(h1:fs ρ st=.ok ws st1)(h2:F ws st1=.ok w cW):bh F fs ρ st=.ok w cW:=by unfold bh;rw[h1];exact h2
theorem bT(h1:fs ρ st=.ok ws st1)(h2:F ws st1=.ok w cW)(hn:ws.length=n):bQ n F fs ρ st=.ok w cW:=by unfold bQ;rw[h1];simp only[R.bind_ok];rw[aD hn];exact h2
theorem aL(h:fa ρ st=.ok (.bl k) st1):dm fa ρ st=.ok k st1:=by unfold dm;rw[h];rfl
theorem jH(h1:t ρ st=.ok true st1)(h2:u ρ st1=.ok k cW):wS t u ρ st=.ok k cW:=by unfold wS;rw[h1];exact h2
theorem ld(h1:t ρ st=.ok false st1):wS t u ρ st=.ok false st1:=by unfold wS;rw[h1];rfl
theorem mz(h1:t ρ st=.ok false st1)(h2:u ρ st1=.ok k cW):E5 t u ρ st=.ok k cW:=by unfold E5;rw[h1];exact h2
theorem y4(h1:t ρ st=.ok true st1):E5 t u ρ st=.ok true st1:=by unfold E5;rw[h1];rfl
theorem qE(h1:t ρ st=.ok a st1)(h2:(!a)=k):zY t ρ st=.ok k st1:=by unfold zY;rw[h1,<- h2];rfl
theorem ve(h1:fa ρ st=.ok (.bl true) st1)(h2:fb ρ st1=.ok w cW):Cq fa fb ρ st=.ok w cW:=by unfold Cq;rw[h1];exact h2
theorem TB(h1:fa ρ st=.ok (.bl a) st1)(h2:(!a)=k):KW fa ρ st=.ok (.bl k) st1:=by unfold KW;rw[h1,<- h2];rfl
theorem rZ(h1:t ρ st=.ok true st1)(h2:fa ρ st1=.ok w cW):FP t fa fb ρ st=.ok w cW:=by unfold FP;rw[h1];exact h2
theorem r6(h1:t ρ st=.ok false st1)(h2:fb ρ st1=.ok w cW):FP t fa fb ρ st=.ok w cW:=by unfold FP;rw[h1];exact h2
theorem il{F:W->List W->List am->R W}(h1:fo ρ st=.ok x st1)(hl:ly st1 x=true)(h2:fs ρ st1=.ok ws cW)(h3:F x ws cW=.ok w mF):jR F fo fs ρ st=.ok w mF:=by unfold jR;rw[h1];simp only[R.bind_ok];rw[aD hl,h2];exact h3
theorem Lr{F:W->List W->List am->R W}(h1:fo ρ st=.ok x st1)(hl:xW x=true)(h2:fs ρ st1=.ok ws cW)(h3:F x ws cW=.ok w mF):J5 F fo fs ρ st=.ok w mF:=by unfold J5;rw[h1];simp only[R.bind_ok];rw[aD hl,h2];exact h3
theorem c6(h:st[n]?=some (.lst ws)):ly st (.loc n)=true:=by simp only[ly,h]
theorem uH{q:Int}(h:fa ρ st=.ok (.int q) st1):vS fa ρ st=.ok (.int (-q)) st1:=by unfold vS;rw[h];rfl
theorem TC{c:String}(h:fa ρ st=.ok x st1)(hx:x.ty=some c)(hk:Lc c T=k):vX T fa ρ st=.ok (.bl k) st1:=by unfold vX;rw[h];simp only[R.bind_ok,hx,hk]
theorem AL(h:fa ρ st=.ok x st1)(hk:x.isNon=k):yS fa ρ st=.ok (.bl k) st1:=by unfold yS;rw[h,<- hk];rfl
theorem eK(h:fa ρ st=.ok x st1)(hk:(!x.isNon)=k):gs fa ρ st=.ok (.bl k) st1:=by unfold gs;rw[h,<- hk];rfl
theorem tV:gI ρ st=.ok none st:=rfl
theorem m8{q:Int}(h:fa ρ st=.ok (.int q) st1):eG fa ρ st=.ok (some q) st1:=by unfold eG;rw[h];rfl
theorem m9{fl fh:FO}{l h:Option Int}(h1:fa ρ st=.ok x st1)(h2:fl ρ st1=.ok l cW)(h3:fh ρ cW=.ok h mF)(h4:wU x l h mF=.ok w VE):q_ fa fl fh ρ st=.ok w VE:=by unfold q_;rw[h1];simp only[R.bind_ok];rw[h2];simp only[R.bind_ok];rw[h3];exact h4
theorem a8(h:fe ρ st=.ok w st1):a9 i fe ρ st=.nx (ρ.set i (some w)) st1:=by unfold a9;rw[h];rfl
theorem dO(h:fe ρ st=.ok w st1):cv fe ρ st=.nx ρ st1:=by unfold cv;rw[h];rfl
theorem qF(h:fe ρ st=.ok w st1):cn fe ρ st=.rt w st1:=by unfold cn;rw[h];rfl
theorem D5{f:W->W->W->List am->Option (List am)}(h1:fe ρ st=.ok v st1)(h2:fo ρ st1=.ok x cW)(h3:fi ρ cW=.ok y mF)(h4:f x y v mF=some VE):AB fo fi fe f ρ st=.nx ρ VE:=by
 unfold AB;rw[h1];simp only[R.stmt_ok];rw[h2];simp only[R.stmt_ok];rw[h3];simp only[R.stmt_ok];rw[h4]
theorem cC{r:RS}(h1:t ρ st=.ok true st1)(h2:g ρ st1=r):eW t g g' ρ st=r:=by unfold eW;rw[h1];exact h2
theorem bK{r:RS}(h1:t ρ st=.ok false st1)(h2:g' ρ st1=r):eW t g g' ρ st=r:=by unfold eW;rw[h1];exact h2
theorem cU:bI ρ st=.nx ρ st:=rfl
theorem cr{r:RS}(h:g ρ st=.nx ρ' st1)(h2:g' ρ' st1=r):aE g g' ρ st=r:=by rw[He h];exact h2
theorem rk(h:g ρ st=.rt w st1):aE g g' ρ st=.rt w st1:=by unfold aE;rw[h]
theorem du{p q:Int}:cq (.int p) (.int q) st=.ok (.int (p+q)) st:=rfl
theorem CG{p q:List Nat}(h:p.length+q.length<=m5):cq (.str p) (.str q) st=.ok (.str (p++q)) st:=by simp only[cq];rw[aD h]
theorem P4(h1:st[n]?=some (.lst ws))(h2:st[m]?=some (.lst xs))(h:(ws++xs).length<=m5):cq (.loc n) (.loc m) st=.ok #[4] (st++[.lst (ws++xs)]):=by
 unfold cq;simp only[h1,h2,pI];rw[aD h]
theorem im{C:Int->Int->Prop}[∀i j,Decidable (C i j)]{f:Int->Int->Int}{p q:Int}(h:C p q):E6 C f (.int p) (.int q) st=.ok (.int (f p q)) st:=by simp only[E6];rw[aD h]
theorem pR{p q:Int}(h:Pf p q):ik (.int p) (.int q) st=.ok (.int (p*q)) st:=by simp only[ik];rw[aD h]
theorem iX{f:Int->Int->Bool}{p q:Int}(h:f p q=k):E7 f (.int p) (.int q) st=.ok (.bl k) st:=by rw[<- h];rfl
theorem AM{p q:Int}(h:decide (p<=q)=k):Fc (.int p) (.int q) st=.ok (.bl k) st:=by rw[<- h];rfl
theorem ec{p q:Int}(h:(p==q)=k):hW (.int p) (.int q) st=.ok (.bl k) st:=by rw[<- h];rfl
theorem TD{p q:Int}(h:(!(p==q))=k):Mm (.int p) (.int q) st=.ok (.bl k) st:=by rw[<- h];rfl
theorem cF{p q:List Nat}(h:(p==q)=k):hW (.str p) (.str q) st=.ok (.bl k) st:=by rw[<- h];rfl
theorem mB{q:Int}(h:tz ws q=some w):bp (.tup ws) (.int q) st=.ok w st:=by unfold bp;simp only[h,eF]
theorem kv(h:ρ[i]?=some (some w):=by rfl):af i ρ st=.ok w st:=gK h
theorem ox{q:Int}(h:tz ws q=some w:=by rfl):bp (.tup ws) (.int q) st=.ok w st:=mB h
theorem kn(h:ρ[i]?=some (some w):=by rfl):aa (af i) aw ρ st=.ok [w] st:=ai (gK h) aG
theorem kx{q:Int}(h:ρ[i]?=some (some (.tup ws)):=by rfl)(h2:tz ws q=some w:=by rfl):e2 bp (af i) (eC (.int q)) ρ st=.ok w st:=bd (gK h) bf (mB h2)
theorem Hf{q:Int}{c:Nat}(hl:l.length<=m5)(h:tz l q=some c):bp (.str l) (.int q) st=.ok (.str [c]) st:=by unfold bp;simp only[h,eF];rw[aD hl]
theorem jI{q:Int}(hl:lstOf st n=some ws)(h:tz ws q=some w):bp (.loc n) (.int q) st=.ok w st:=by unfold bp;simp only[hl,h,eF]
theorem v8:cP [.tup ws] st=.ok (.int ws.length) st:=rfl
theorem y6(h:l.length<=m5):cP [.str l] st=.ok (.int l.length) st:=by unfold cP;simp only;rw[aD h]
theorem iR(hl:lstOf st n=some ws):cP [.loc n] st=.ok (.int ws.length) st:=by unfold cP;simp only[hl,eF]
theorem bB(h:st[n]?=some (.lst ws)):lstOf st n=some ws:=by unfold lstOf;rw[h]
theorem r9(h:st[n]?=some (.ro ws)):lstOf st n=some ws:=by unfold lstOf;rw[h]
theorem oG(h:st[n]?=some (.lst ws))(hl:ws.length<m5):bv (.loc n) [y] st=.ok .non (st.set n (.lst (ws++[y]))):=by unfold bv;simp only[h];rw[aD hl]
theorem v9(h:st[n]?=some (.lst (ws++[y]))):m6 (.loc n) [] st=.ok y (st.set n (.lst ws)):=by unfold m6;simp only[h];simp
theorem P5{q:Int}(h:st[n]?=some (.lst ws))(hi:DC ws.length q=some j):qC (.loc n) (.int q) v st=some (st.set n (.lst (ws.set j v))):=by unfold qC;simp only[h,hi];rfl
theorem CH{sep:List Nat}(h:lstOf st n=some (ls.map W.str))(hl:(ls.map List.length).sum+ls.length*sep.length<=m5):oF (.str sep) [.loc n] st=.ok (.str (lr sep ls)) st:=by
 unfold oF;simp only[h,eF,xX];rw[aD hl]
theorem TF{l h:Option Int}(hl:lstOf st n=some ws):wU (.loc n) l h st=.ok #[4] (st++[.lst (jE ws l h)]):=by unfold wU;simp only[hl,eF]
theorem Hg{l h:Option Int}{z:List Nat}(hl:z.length<=m5):wU (.str z) l h st=.ok (.str (jE z l h)) st:=by unfold wU;simp only;rw[aD hl]
theorem AN{l h:Option Int}:wU (.tup ws) l h st=.ok (.tup (jE ws l h)) st:=rfl
theorem y7(h:fe ρ st=.ok (.tup ws) st1):gu fe ρ st=.ok (ws,none) st1:=by unfold gu;rw[h];rfl
theorem vf(h:fe ρ st=.ok (.loc n) st1)(hl:lstOf st1 n=some ws):gu fe ρ st=.ok (ws,some (n,ws)) st1:=by unfold gu;rw[h];simp only[R.bind_ok,hl]
theorem iY{q:Int}(h:fs ρ st=.ok [.int q] st1)(hq:-(2^62)<=q/\q<2^62):dr fs ρ st=.ok (eX 0 q.toNat,none) st1:=by unfold dr;rw[h];simp only[R.bind_ok];rw[aD hq]
theorem y8{l:List W}{q:Nat}(h:l.reverse[q]?=some x):tz l (-((q:Int)+1))=some x:=by
 have hq:q<l.length:=by have:=(ar.mp h).1;simpa using this
 unfold tz DC
 rw[aQ #[0],aD #[0]]
 rw[hV hq]at h
 simp only[Option.bind_some]
 rw[show((-((q:Int)+1))+(l.length:Int)).toNat=l.length-1-q by omega]
 exact h
theorem fP{l:List α}{q:Nat}{x:α}(h:l[q]?=some x):tz l (q:Int)=some x:=by
 have hq:q<l.length:=(ar.mp h).1
 unfold tz DC
 rw[aD #[0],aD #[0]]
 simpa using h
def jX(P:RS->Prop)(r:RS):Prop:=P r
def Ls(I:cf->List am->Prop):RS->Prop:=fun r=>∃ρ st,r=.nx ρ st/\I ρ st
def y9(I:W->List am->Prop):RS->Prop:=fun r=>∃w st,r=.rt w st/\I w st
variable{P:RS->Prop}{gb:FS}
theorem c8{r r':RS}(h:r=r')(h2:P r'):jX P r:=by rw[h];exact h2
theorem av(h:g ρ st=.nx ρ' st1)(h2:jX P (g' ρ' st1)):jX P (aE g g' ρ st):=by rw[He h];exact h2
theorem pS(h1:t ρ st=.ok true st1)(h2:jX P (g ρ st1)):jX P (eW t g g' ρ st):=by rw[cC h1 rfl];exact h2
theorem lE(h1:t ρ st=.ok false st1)(h2:jX P (g' ρ st1)):jX P (eW t g g' ρ st):=by rw[bK h1 rfl];exact h2
theorem dF(h1:t ρ st=.ok true st1)(h2:jX P (aE g gb ρ st1)):jX P (aE (eW t g g') gb ρ st):=by
 unfold aE at h2 ⊢;rw[cC h1 rfl];exact h2
theorem bn(h1:t ρ st=.ok false st1)(h2:jX P (aE g' gb ρ st1)):jX P (aE (eW t g g') gb ρ st):=by
 unfold aE at h2 ⊢;rw[bK h1 rfl];exact h2
theorem tW{h:FS}(h2:jX P (aE g (aE g' h) ρ st)):jX P (aE (aE g g') h ρ st):=by
 unfold aE at h2 ⊢
 cases e:g ρ st<;>simp only[e]at h2 ⊢ <;> exact h2
theorem bM(h2:jX P (gb ρ st)):jX P (aE bI gb ρ st):=h2
theorem bH(h:fe ρ st=.ok w st1)(h2:P (.rt w st1)):jX P (cn fe ρ st):=by rw[qF h];exact h2
theorem dy(h:fe ρ st=.ok w st1)(h2:P (.rt w st1)):jX P (aE (cn fe) gb ρ st):=by rw[rk (qF h)];exact h2
theorem fJ{fi:FI}{f:FG}{k:GU}(I:Nat->cf->List am->Prop)(h:fi ρ st=.ok k st1)(h0:I 0 ρ st1)(hc:∀i ρ st,I i ρ st->kZ st k.2)
  (hs:∀i w ρ st,k.1[i]?=some w->I i ρ st->∃ρ',f w ρ=some ρ'/\jX (Ls (I (i+1))) (body ρ' st)) (he:∀ρ st,I k.1.length ρ st->jX P (gb ρ st)):jX P (aE (lv fi f body) gb ρ st):=by
 obtain⟨ρ2,cW,e,h2⟩:=AK (f:=f) (body:=body) (ck:=k.2) I (ws:=k.1) (ρ:=ρ) (st:=st1) 0 h0 hc fun i w ρ st hw hI=>by
  rw[oy]at hI ⊢
  obtain⟨ρ',e1,ρ2,cW,e2,h2⟩:=hs i w ρ st hw hI
  exact⟨ρ',ρ2,cW,e1,e2,h2⟩
 rw[oy]at h2
 exact av (by rw[D4 h];exact e) (he _ _ h2)
theorem Fg(I:Nat->cf->List am->Prop)(n:Nat)(h0:I n ρ st)
  (hs:∀n ρ st,I n ρ st->t ρ st=.ok false st\/(t ρ st=.ok true st/\jX (Ls fun ρ2 cW=>∃m,m<n/\I m ρ2 cW) (body ρ st))) (he:∀m ρ st,I m ρ st->t ρ st=.ok false st->jX P (gb ρ st)):jX P (aE (pM t body) gb ρ st):=by
 obtain⟨m,ρ2,cW,e,h2,h3⟩:=Ff (t:=t) (g:=body) I n h0 fun n ρ st hI=>by
  rcases hs n ρ st hI with e|⟨e,ρ2,cW,e2,m,hm,h2⟩
  ·exact .inl e
  ·exact .inr ⟨e,ρ2,cW,m,e2,hm,h2⟩
 exact av e (he _ _ _ h2 h3)
theorem r_{Q:W->Prop}(h:jX (y9 fun w be=>(∃x,be=st++x)/\undWs st.length [w]=true/\Q w) (body #[13] st)):∃w,Q w/\cQ N body ws st=.ok w st:=by
 obtain⟨w,be,e,⟨x,rfl⟩,hu,q⟩:=h
 exact⟨w,q,AJ e hu⟩
theorem eM{N:Nat}{body:FS}(h:jX (y9 fun w' be=>w'=w/\∃x,be=st++x) (body #[13] st))(hu:undWs st.length [w]=true):cQ N body ws st=.ok w st:=by
 obtain⟨w,be,e,rfl,x,rfl⟩:=h
 exact AJ e hu
theorem se{Q:Nat->List am->Prop}(h:jX (y9 fun w be=>∃j x,w=.loc (st.length+j)/\be=st++x/\Q j x) (body #[13] st)):∃j x,Q j x/\cQ N body ws st=.ok (.loc (st.length+j)) (st++x):=by
 obtain⟨w,be,e,j,x,rfl,rfl,q⟩:=h
 exact⟨j,x,q,Hc e⟩
theorem jY{lo:Int}(h:(eX lo q)[i]?=some w):i<q/\w=.int (lo+i):=by
 unfold eX at h
 obtain⟨h1,h2⟩:=ar.mp h
 simp only[az,List.length_range]at h1
 exact⟨h1,by rw[<- h2];simp⟩
theorem nS{l:List α}{q:Nat}(h:q<=l.length):jE l none (some (q:Int))=l.take q:=by
 unfold jE;rw[HT.sIx_none,HT.sIx_nat,gW h];simp
theorem sf{l:List α}(h:q<=l.length):jE l (some (q:Int)) none=l.drop q:=by
 unfold jE;rw[HT.sIx_none,HT.sIx_nat,gW h];rw[bD #[15]]
theorem fY{q:Int}{n:Nat}(h:0<n):∃m:Nat,m<n/\q%(n:Int)=m:=by
 have h0:0<=q%(n:Int):=jb _ #[0]
 have h1:q%(n:Int)<n:=me _ #[0]
 exact⟨(q%(n:Int)).toNat,by omega,by omega⟩
end
section
variable{u:FT}{a b k:Bool}{P:RS->Prop}{g g' gb:FS}{w:W}
theorem P6(h1:t ρ st=.ok a st)(h2:u ρ st=.ok b st):wS t u ρ st=.ok (a&&b) st:=by cases a;exact ld h1;exact jH h1 h2
theorem Hh(h1:t ρ st=.ok a st)(h2:u ρ st=.ok b st):E5 t u ρ st=.ok (a||b) st:=by cases a;exact mz h1 h2;exact y4 h1
theorem P7(h1:t ρ st=.ok a st):zY t ρ st=.ok (!a) st:=qE h1 rfl
theorem dY(h:jX (y9 fun w' be=>w'=w/\be=st) (body #[13] st)):cQ N body ws st=.ok w st:=by
 obtain⟨w,be,e,rfl,rfl⟩:=h
 exact qo e
end
end L2
open L2
local macro_rules | `(tactic| walk_at "ev1") => `(tactic| first
 | (with_reducible apply gK) <;> rfl
 | (with_reducible apply mB) <;> rfl
 | with_reducible first
  | exact bf | exact aG | exact P3 | exact tV | exact du | exact v8 | exact cU | exact AN
  | apply bd | apply ai | apply cE | apply k6 | apply bE | apply bT | apply aL | apply qE | apply TB
  | apply il | apply Lr | apply uH | apply TC | apply AL | apply eK | apply m8 | apply m9 | apply a8 | apply dO | apply qF | apply D5
  | apply im | apply pR | apply iX | apply AM | apply ec | apply TD | apply cF | apply CG
 | decide
 | (show List.length _ <= m5; exact ag rfl)
 | (show @Eq Nat _ _; exact rfl)
 | (show @Eq Bool _ _; exact rfl)
 | (show @Eq (Option String) _ _; exact rfl)
 | (show @Eq _ _ _; with_reducible assumption))
local macro_rules | `(tactic| walk_at "evs") => `(tactic| repeat' walk_at "ev1")
local macro_rules | `(tactic| walk_at "tst") => `(tactic| first
 | (walk_at "evs"; done)
 | (apply ld; (focus walk_at "tst"); done)
 | (apply jH; (focus walk_at "tst"); (focus walk_at "tst"); done)
 | (apply y4; (focus walk_at "tst"); done)
 | (apply mz; (focus walk_at "tst"); (focus walk_at "tst"); done))
local macro_rules | `(tactic| walk_at "go1") => `(tactic| first
 | apply bM
 | (apply dy; (focus (walk_at "evs"; done)))
 | (apply bH; (focus (walk_at "evs"; done)))
 | (apply dF; (focus walk_at "tst"))
 | (apply bn; (focus walk_at "tst"))
 | (apply pS; (focus walk_at "tst"))
 | (apply lE; (focus walk_at "tst"))
 | (apply av; (focus (walk_at "evs"; done))))
local macro_rules | `(tactic| walk_at "go") => `(tactic| repeat walk_at "go1")
local macro_rules | `(tactic| walk_at "tb") => `(tactic| repeat' (first | with_reducible apply P6 | with_reducible apply Hh | with_reducible apply P7 | walk_at "ev1"))
local macro_rules | `(tactic| walk_at "len") => `(tactic| (simp only [ah, bg, oX]; show _ <= 1000000; omega))
namespace L2
open PySem PySem.Spec PyProof.Rows
section
variable{ρ' ρ2:cf}{cW:List am}{fs:FA}{g gh gb:FS}{w:W}{cs:List Str}{P:RS->Prop}{b:Bool}
def WY(c:Str)(I:List am->Prop):RS->Prop:=fun r=>∃ρ st,r=.ex c ρ st/\I st
theorem fZ{N:Nat}{body:FS}(h:jX (WY c fun be=>∃x,be=st++x) (body #[13] st)):cQ N body ws st=.ex c st:=by
 obtain⟨ρ,be,e,x,rfl⟩:=h
 unfold cQ
 rw[e]
 simp only[tU (st:=st) (x:=x) (ws:=[]) rfl]
theorem AO{N:Nat}{body:FS}(h:jX (Ls fun _ be=>∃x,be=st++x) (body #[13] st)):cQ N body ws st=.ok .non st:=by
 obtain⟨ρ,be,e,x,rfl⟩:=h
 unfold cQ
 rw[e]
 simp only[tU (st:=st) (x:=x) (ws:=[]) rfl]
theorem tX(h:P (.ex c ρ st)):jX P (rh c ρ st):=h
theorem qG(h:P (.ex c ρ st)):jX P (aE (rh c) gb ρ st):=h
theorem ku(h1:fs ρ st=.ok ws st1)(h2:F ws st1=.ex c cW)(hn:ws.length=n):bQ n F fs ρ st=.ex c cW:=by unfold bQ;rw[h1];simp only[R.bind_ok];rw[aD hn];exact h2
theorem sg(h:fe ρ st=.ex c st1):a9 i fe ρ st=.ex c ρ st1:=by unfold a9;rw[h];rfl
theorem qp(h:fe ρ st=.ex c st1):cv fe ρ st=.ex c ρ st1:=by unfold cv;rw[h];rfl
theorem pT(h:fe ρ st=.ex c st1):cn fe ρ st=.ex c ρ st1:=by unfold cn;rw[h];rfl
theorem fm(h:g ρ st=.ex c ρ' st1)(h2:P (.ex c ρ' st1)):jX P (aE g gb ρ st):=by unfold aE;rw[h];exact h2
theorem Hi(h:g ρ st=.nx ρ' st1):CC g cs i gh ρ st=.nx ρ' st1:=by unfold CC;rw[h]
theorem Hj(h:g ρ st=.ex c ρ' st1)(hc:c∈cs)(h2:gh (ρ'.set i (some (.loc st1.length))) (st1++[.exc c])=.nx ρ2 cW):CC g cs i gh ρ st=.nx (ρ2.set i none) cW:=by
 unfold CC;rw[h];simp only;rw[aD hc,h2];rfl
theorem AQ{f:Str->Option Bool}(h:fa ρ st=.ok (.loc n) st1)(hc:st1[n]?=some (.exc c))(hf:f c=some b):vZ f fa ρ st=.ok (.bl b) st1:=by
 unfold vZ;rw[h];simp only[R.bind_ok,hc,hf]
theorem TH{p q:Bool}(h:(p==q)=b):hW (.bl p) (.bl q) st=.ok (.bl b) st:=by rw[<- h];rfl
theorem vg(I:cf->List am->Prop)(h:jX (Ls I) (g ρ st))(h2:∀ρ st,I ρ st->jX P (gb ρ st)):jX P (aE g gb ρ st):=by
 obtain⟨ρ',be,e,hi⟩:=h
 exact av e (h2 _ _ hi)
end
section
variable{f:FG}
theorem AR{ρ0:cf}(hc:kZ st ck)(T:W->Bool)(Y:W->W):∀(ws i8:List W),(∀w∈ws,∃ρ',f w ρ0=some ρ'/\t ρ' st=.ok (T w) st/\(T w=true->el ρ' st=.ok (Y w) st)) ->
  rR f t el ck ρ0 ws i8 st=.ok (i8++(ws.filter T).map Y) st
 |[],i8,_=>by unfold rR;rw[aD hc];simp
 |w::ws,i8,h=>by
  obtain⟨ρ',e1,e2,e3⟩:=h w #[15]
  have ih:=fun i8=>AR hc T Y ws i8 fun w' hw'=>h w' (by simp[hw'])
  unfold rR
  rw[aD hc,e1]
  simp only[e2]
  cases hT:T w with
  |true=>
   simp only[e3 hT]
   rw[ih]
   simp[List.filter_cons,hT]
  |false=>
   simp only
   rw[ih]
   simp[List.filter_cons,hT]
theorem CI(T:W->Bool)(Y:W->W)(h:fi ρ st=.ok (ws,ck) st1)(hl:ws.length<=m5)(hc:kZ st1 ck)
  (hs:∀w∈ws,∃ρ',f w (tO cap ρ)=some ρ'/\t ρ' st1=.ok (T w) st1/\(T w=true->el ρ' st1=.ok (Y w) st1)):jo cap fi f t el ρ st=.ok (.loc st1.length) (st1++[.lst ((ws.filter T).map Y)]):=by
 unfold jo
 rw[h]
 simp only[R.bind_ok]
 rw[aD hl,AR hc T Y ws [] hs]
 simp only[R.bind_ok,dD,pI]
 rw[aD]
 rw[az]
 exact aI (jU _ _) hl
theorem y_(Y:W->W)(h:fi ρ st=.ok (ws,ck) st1)(hl:ws.length<=m5)(hc:kZ st1 ck)
  (hs:∀w∈ws,∃ρ',f w (tO cap ρ)=some ρ'/\el ρ' st1=.ok (Y w) st1):jo cap fi f vR el ρ st=.ok (.loc st1.length) (st1++[.lst (ws.map Y)]):=by
 have:=CI (fi:=fi) (f:=f) (t:=vR) (el:=el) (cap:=cap) (fun _=>true) Y h hl hc fun w hw=>by
  obtain⟨ρ',e1,e2⟩:=hs w hw
  exact⟨ρ',e1,rfl,fun _=>e2⟩
 rw[k8.mpr (fun _ _=>rfl)]at this
 exact this
theorem tY{lo:Int}{w:W}(h:w∈eX lo q):∃i:Nat,i<q/\w=.int (lo+i):=by
 unfold eX at h
 obtain⟨i,hi,rfl⟩:=cV.mp h
 exact⟨i,lV.mp hi,rfl⟩
theorem mP(h:lstOf st n=some ws):ij [.loc n] st=.ok (.tup ws) st:=by unfold ij;simp only[h,eF]
theorem Hk{xs:List W}(h:(ws++xs).length<=m5):cq (.tup ws) (.tup xs) st=.ok (.tup (ws++xs)) st:=by simp only[cq,qB];rw[aD h]
theorem TJ{p q:Int}:Cr [.int p,.int q] st=.ok (.int (if q>p then q else p)) st:=rfl
theorem Hl{l:List α}(hj:j<=l.length)(hi:i<=j):jE l (some (i:Int)) (some (j:Int))=(l.drop i).take (j-i):=by
 unfold jE;rw[HT.sIx_nat,HT.sIx_nat,gW hj,gW #[0]]
theorem Hm{l:List α}:jE l none (some (-1))=l.dropLast:=by
 unfold jE
 rw[HT.sIx_none]
 have:HT.sIx l.length l.length (some (-1))=l.length-1:=by
  show(if (-1:Int)<0 then(-1+(l.length:Int)).toNat else min (-1:Int).toNat l.length)=_
  rw[aD #[0]]
  omega
 rw[this,pz];simp
end
open Builtin Builtin.Str
theorem x_{c:Nat}:∀ws:List (List Nat),(∀w∈ws,c∉w)->(lr [c] ws).filter (fun d=>d != c)=ws.flatten
 |[],_=>rfl
 |[x],h=>by
  have hx:c∉x:=h x #[15]
  show x.filter _=_
  rw[k8.mpr fun d hd=>by simp;rintro rfl;exact hx hd]
  simp
 |x::y::r,h=>by
  have hx:c∉x:=h x #[15]
  show(x++[c]++lr [c] (y::r)).filter _=_
  rw[List.filter_append,List.filter_append,x_ (y::r) fun w hw=>h w (aO _ hw),k8.mpr fun d hd=>by simp;rintro rfl;exact hx hd]
  simp
theorem Lu(l:List Nat)(c:Nat):Txt.replace (tx l) (tx [c]) (tx [])=tx (l.filter fun d=>d != c):=by
 obtain⟨f,hg,hfree⟩:=StrLaws.occ_tight (tx l) (tx [c]) (by simp[tx,Str.length])
 obtain⟨f',hc⟩:=StrLaws.occ_chain (tx l) (tx [c]) ((tx l).length+1)
 have pf:=StrLaws.parts_free (tx l) c _ 0 f hg hfree
 have pj:=StrLaws.join_partsFrom (tx l) (tx [c]) _ 0 f' hc
 rw[StrLaws.sub_whole]at pj
 unfold Txt.replace
 rw[StrLaws.partsBetween_eq]
 have pe:(occurrences (tx l) (tx [c]) 0 (tx l).length ((tx l).length+1)).isEmpty=true->StrLaws.partsFrom (tx l) (tx [c]).length 0 (occurrences (tx l) (tx [c]) 0 (tx l).length ((tx l).length+1))=[tx l]:=fun h=>by
  rw[List.isEmpty_iff.mp h]
  show[strSub (tx l) 0 (tx l).length]=_
  rw[StrLaws.sub_whole]
 generalize occurrences (tx l) (tx [c]) 0 (tx l).length ((tx l).length+1)=os at pf pj pe ⊢
 have pf:∀p∈StrLaws.partsFrom (tx l) (tx [c]).length 0 os,c∉p.cps.toList:=pf
 generalize StrLaws.partsFrom (tx l) (tx [c]).length 0 os=ps at pf pj pe ⊢
 have em:ps=(ps.map fun z=>z.cps.toList).map tx:=by
  rw[b6]
  conv=>lhs;rw[<- jw ps]
  exact eR fun z _=>(Su z).symm
 have fr:∀w∈ps.map (fun z=>z.cps.toList),c∉w:=fun w hw=>by
  obtain⟨p,hp,rfl⟩:=cV.mp hw
  exact pf p hp
 generalize ps.map (fun z=>z.cps.toList)=ws at em fr
 subst em
 have ej:∀sep:List Nat,Str.join (tx sep) (ws.map tx)=tx (lr sep ws):=fun sep=>by
  rw[<- DI sep ws]
  show _=glued _ _
  rw[hU]
 rw[ej]at pj
 have el:lr [c] ws=l:=Ch.mp pj
 have hfl:=x_ ws fr
 rw[el]at hfl
 split
 ·rename_i h
  rw[show((tx [c]).length==0&&(tx []).length==0)=false from rfl,mT]at h
  have e1:=pe h
  have:ws.flatten=l:=by
   have e2:ws=[l]:=by
    cases ws with
    |nil=>cases e1
    |cons a r=>
     cases r with
     |nil=>simp only[bt,List.map_nil,List.cons.injEq,and_true]at e1;rw[Ch.mp e1]
     |cons _ _=>simp at e1
   rw[e2];simp
  rw[hfl,this]
 ·rw[hU,ej,mZ,hfl]
section
variable{to:TE}
def TK(to te:TE):TE:=fun σ H Q=>to σ H fun x H1=>(∃l,x=.str (tx l))/\te σ H1 fun y H2=>∃l c,x=.str (tx l)/\y=.str (tx [c])/\l.length<=1000000/\Q (.str (tx (l.filter fun d=>d != c))) H2
theorem Lw(ho:PE X o to)(he:PE X e te)
  (jK:attributeBase o "replace" X.env (eval o X.env)=eval o X.env)
  (rE:((backTo d7 (starEach [e,.Constant (.str (tx [])) j p2] X.env)).all (fun x=>!x.1)&&(backToKw d7 (keywordEach [] X.env)).all (fun x=>x.1.isSome)
   && decide ([e,.Constant (.str (tx [])) j p2].length+([]:List Keyword).length+(if ([]:List Keyword).isEmpty then 0 else 1)<30))=true)
  (kE:(gj.endLine==d7.line)=true) (hs:starEach [e,.Constant (.str (tx [])) j p2] X.env=(false,eval e X.env)::starEach [.Constant (.str (tx [])) j p2] X.env) :
  PE X (.Call (.Attribute o "replace" gj) [e,.Constant (.str (tx [])) j p2] [] d7) (TK to te):=by
 intro ak s σ H Q I h
 refine on jK rE kE rfl (jQ (ho ak s σ H _ I h) fun v s1 kt1 zq=>?_)
 obtain⟨x,H1,I1,r1,ty,q1⟩:=zq
 obtain⟨h1,h2⟩:=Cd I1 r1 (DJ ty)
 refine⟨"str",_,F.plainAttrs_str,F.slot_str_replace,F.type_str_replace,h1,h2,?_⟩
 rw[hs]
 refine jM rfl (kH ?_)
 show wpAny _ _ (spliced ((false,eval e X.env)::backTo d7 (starEach [.Constant (.str (tx [])) j p2] X.env))) _ _ s1
 refine fx (jQ (he ak s1 σ H1 _ I1 q1) fun u s2 kt2 zq=>?_)
 obtain⟨y,H2,I2,r2,l,c,ex,ey,hl,q2⟩:=zq
 subst ex ey
 obtain⟨t,rfl⟩:=r1.up kt2
 obtain⟨t2,rfl⟩:=r2
 show wpAny _ _ (spliced ((false,eval (.Constant (.str (tx [])) j p2) X.env)::backTo d7 (starEach [] X.env))) _ _ s2
 refine fx (Calls.Constant_str ?_)
 show wpAny _ _ (spliced []) _ _ _
 refine ic ?_
 obtain⟨p1,p2⟩:=t2.2 rfl
 have n1:t2.1≠0:=dS p1
 have n2:s2.toks≠0:=dS I2.pos
 have n3:t2.1≠s2.toks:=aW p2
 have e0:(tx []).length=0:=rfl
 have e1:(1000000:Nat)<=sizeLine:=by decide
 refine call_gives F.slot_str_replace (lZ _ _ _) F.entry_str_replace (F.args_str_replace_3 _ _ _)
  (gives_str_replace (tx l) (tx [c]) (tx []) t.1 t2.1 s2.toks fun _=>⟨by simp[n1,n2],by simp[n3],rfl,?_⟩) ?_
 ·rw[e0,Nat.mul_zero,sU,jc]
  unfold tooLong
  exact aU #[0]
 ·have hq:=Lu l c
  unfold Txt.replace at hq
  cases hc:((occurrences (tx l) (tx [c]) 0 (tx l).length ((tx l).length+1)).isEmpty||((tx [c]).length==0&&(tx []).length==0))
  ·rw[hc]at hq
   simp only[eu,fL]at hq ⊢
   rw[hq]
   have I3:=I2.tok (s2.toks+1)
   refine⟨?_,⟨.str _,H2,I3.tok _,I3.tkS,q2⟩⟩
   rw[jc]
   exact aI (jU _ _) (aI hl e1)
  ·rw[hc]at hq
   simp only[fM]at hq ⊢
   rw[<- hq]at q2
   exact⟨.str (tx l),H2,I2.tok _,⟨t.up (bj _),rfl⟩,q2⟩
end
section
def Ho:W->W->List am->R W
 |.str l,.str [c],st=>if l.length<=m5 then .ok (.str (l.filter fun d=>d != c)) st else .bad
 |_,_,_=>.bad
def D6(fo fe:FE):FE:=fun ρ st=>(fo ρ st).bind fun x st=>if xW x then(fe ρ st).bind fun y st=>Ho x y st else .bad
theorem P8{z:Str}(ho:SE X o fo)(he:SE X e fe)(hz:z=tx []:=by first|rfl|decide +kernel)
  (jK:attributeBase o "replace" X.env (eval o X.env)=eval o X.env:=by rfl)
  (rE:((backTo d7 (starEach [e,.Constant (.str z) j p2] X.env)).all (fun x=>!x.1)&&(backToKw d7 (keywordEach [] X.env)).all (fun x=>x.1.isSome)
   && decide ([e,.Constant (.str z) j p2].length+([]:List Keyword).length+(if ([]:List Keyword).isEmpty then 0 else 1)<30))=true:=by rfl)
  (kE:(gj.endLine==d7.line)=true:=by rfl) (hs:starEach [e,.Constant (.str z) j p2] X.env=(false,eval e X.env)::starEach [.Constant (.str z) j p2] X.env:=by rfl) :
  SE X (.Call (.Attribute o "replace" gj) [e,.Constant (.str z) j p2] [] d7) (D6 fo fe):=⟨by
 subst hz
 refine(Lw ho.h he.h jK rE kE hs).imp fun σ H Q h=>?_
 walk_at "2"
 walk_at "1"
 cases x with
 |str z=>
  rw[aD (show xW (W.str z)=true from rfl)]at h1
  refine⟨⟨z,q1.strE⟩,μ1,ρ,st1,l1,RK.bind h1 l1 fun μ2 cW y u H2 p2 x2 l2 q2 h2=>?_⟩
  unfold Ho at h2
  split at h2
  ·rename_i l' c e1
   cases e1
   split at h2
   ·rename_i hl
    exact⟨_,c,q1.strE,q2.strE,hl,h2 μ2 _ H2 (ao _) eV.refl l2.sto .str⟩
   ·exact h2.elim
  ·exact h2.elim
 |_=>exact h1.elim⟩
theorem P9{cW:List am}{c:Nat}(h1:fo ρ st=.ok (.str l) st1)(h2:fe ρ st1=.ok (.str [c]) cW)(hl:l.length<=m5):D6 fo fe ρ st=.ok (.str (l.filter fun d=>d != c)) cW:=by
 unfold D6
 rw[h1]
 simp only[R.bind_ok]
 rw[aD (show xW (W.str l)=true from rfl),h2]
 simp only[R.bind_ok]
 unfold Ho
 simp only
 rw[aD hl]
end
end L2
namespace P
open PySem L2
open PyProof.Rows (boot_sorted boot_set boot_ord boot_all boot_enumerate boot_int boot_str boot_bool boot_list boot_tuple boot_isinstance boot_max boot_min boot_zip)
noncomputable def ii(i:Nat):Stmt:=PySem.Challenge.pw_trunksay_k68_changes_refused.main.body.getD i (.Pass ⟨0,0,0,0⟩)
abbrev P_:Stmt:=ii 12
noncomputable abbrev CJ:List Str:=["letters"]
noncomputable abbrev TL:List Str:=["letters"]
theorem TM:aY CJ TL (aK P_):=jx
abbrev P':Stmt:=ii 13
noncomputable abbrev AS:List Str:=["names","marks","number","name"]
noncomputable abbrev TN:List Str:=["names","marks"]
theorem Mw:aY AS TN (aK P'):=jx
abbrev Qa:Stmt:=ii 16
noncomputable abbrev CK:List Str:=["place"]
noncomputable abbrev TQ:List Str:=["place"]
theorem Mx:aY CK TQ (aK Qa):=jx
abbrev Qb:Stmt:=ii 17
noncomputable abbrev AT:List Str:=["place"]
noncomputable abbrev TR:List Str:=["place"]
theorem My:aY AT TR (aK Qb):=jx
abbrev Qc:Stmt:=ii 18
noncomputable abbrev CL:List Str:=["tree","links","tops","number","place","right","left"]
noncomputable abbrev TU:List Str:=["tree"]
theorem Mz:aY CL TU (aK Qc):=jx
abbrev Qd:Stmt:=ii 19
noncomputable abbrev Hq:List Str:=["tree","lefts","rights","number","pair"]
noncomputable abbrev TV:List Str:=["tree"]
theorem MA:aY Hq TV (aK Qd):=jx
abbrev Qe:Stmt:=ii 20
noncomputable abbrev Fh:List Str:=["ups","place"]
noncomputable abbrev TW:List Str:=["ups","place"]
theorem MB:aY Fh TW (aK Qe):=jx
abbrev Qf:Stmt:=ii 21
noncomputable abbrev CM:List Str:=["tree","sizes","left","right","size"]
noncomputable abbrev TX:List Str:=["tree"]
theorem MC:aY CM TX (aK Qf):=jx
abbrev Qg:Stmt:=ii 22
noncomputable abbrev xc:List Str:=["tree","place"]
noncomputable abbrev TY:List Str:=["tree","place"]
theorem TZ:aY xc TY (aK Qg):=jx
abbrev Qh:Stmt:=ii 23
noncomputable abbrev za:List Str:=["size"]
noncomputable abbrev T0:List Str:=["size"]
theorem T3:aY za T0 (aK Qh):=jx
abbrev Hr:Stmt:=ii 24
noncomputable abbrev Fi:List Str:=["tree","place"]
noncomputable abbrev MD:List Str:=["tree","place"]
theorem Hs:aY Fi MD (aK Hr):=jx
abbrev Ht:Stmt:=ii 25
noncomputable abbrev xf:List Str:=["tree","place","below","right_size","middle"]
noncomputable abbrev ME:List Str:=["tree","place"]
theorem Hu:aY xf ME (aK Ht):=jx
abbrev Hv:Stmt:=ii 26
noncomputable abbrev CN:List Str:=["left","right","marks","branches"]
noncomputable abbrev MF:List Str:=["left","right","marks"]
theorem Hw:aY CN MF (aK Hv):=jx
abbrev Hy:Stmt:=ii 27
noncomputable abbrev zb:List Str:=["tree","place","side","other","branches","left","right","start","changed"]
noncomputable abbrev MG:List Str:=["tree","place","side","other"]
theorem Hz:aY zb MG (aK Hy):=jx
abbrev HA:Stmt:=ii 29
noncomputable abbrev zc:List Str:=["rooms","number"]
noncomputable abbrev MH:List Str:=["rooms","number"]
theorem HB:aY zc MH (aK HA):=jx
abbrev HC:Stmt:=ii 30
noncomputable abbrev Fj:List Str:=["machine","marks","pair","rooms","leads"]
noncomputable abbrev MI:List Str:=["machine","marks","pair","rooms"]
theorem HD:aY Fj MI (aK HC):=jx
abbrev HE:Stmt:=ii 31
noncomputable abbrev CO:List Str:=["machine","tree","rooms","place","pair"]
noncomputable abbrev MJ:List Str:=["machine","tree"]
theorem HF:aY CO MJ (aK HE):=jx
abbrev HG:Stmt:=ii 33
noncomputable abbrev HH:List Str:=["deed"]
noncomputable abbrev MK:List Str:=["deed"]
theorem HI:aY HH MK (aK HG):=jx
abbrev HJ:Stmt:=ii 34
noncomputable abbrev zd:List Str:=["tree","place","marks"]
noncomputable abbrev ML:List Str:=["tree","place","marks"]
theorem HK:aY zd ML (aK HJ):=jx
abbrev HL:Stmt:=ii 35
noncomputable abbrev v_:List Str:=["machine","rooms","deed","old","new","start","middle","fresh"]
noncomputable abbrev MM:List Str:=["machine","rooms","deed"]
theorem HM:aY v_ MM (aK HL):=jx
abbrev HN:Stmt:=ii 36
noncomputable abbrev Fk:List Str:=["machine","tree","rooms","place","links","ups","fresh","many","at","room"]
noncomputable abbrev MN:List Str:=["machine","tree","rooms","place"]
theorem HP:aY Fk MN (aK HN):=jx
abbrev kM:Stmt:=(hZ (ii 37)).getD 0 (.Pass ⟨0,0,0,0⟩)
noncomputable abbrev uY:List Str:=["self","machine","tree"]
noncomputable abbrev oH:List Str:=["self","machine","tree"]
theorem m_:aY uY oH (aK kM):=jx
abbrev jZ:Stmt:=(hZ (ii 37)).getD 1 (.Pass ⟨0,0,0,0⟩)
noncomputable abbrev tZ:List Str:=["self","deed","moved","above"]
noncomputable abbrev ng:List Str:=["self","deed"]
theorem mC:aY tZ ng (aK jZ):=jx
abbrev lF:Stmt:=(hZ (ii 37)).getD 2 (.Pass ⟨0,0,0,0⟩)
noncomputable abbrev wa:List Str:=["self","deed"]
noncomputable abbrev pU:List Str:=["self","deed"]
theorem oI:aY wa pU (aK lF):=jx
abbrev j4:Stmt:=(hZ (ii 37)).getD 3 (.Pass ⟨0,0,0,0⟩)
noncomputable abbrev t0:List Str:=["self","place","marks"]
noncomputable abbrev nh:List Str:=["self","place","marks"]
theorem mD:aY t0 nh (aK j4):=jx
abbrev rq:Stmt:=(hZ (ii 37)).getD 4 (.Pass ⟨0,0,0,0⟩)
noncomputable abbrev CP:List Str:=["self","place","letter"]
noncomputable abbrev wb:List Str:=["self","place","letter"]
theorem uI:aY CP wb (aK rq):=jx
abbrev pV:Stmt:=(hZ (ii 37)).getD 5 (.Pass ⟨0,0,0,0⟩)
noncomputable abbrev AU:List Str:=["self","place","letter"]
noncomputable abbrev uJ:List Str:=["self","place","letter"]
theorem ze:aY AU uJ (aK pV):=jx
abbrev mQ:Stmt:=(hZ (ii 37)).getD 6 (.Pass ⟨0,0,0,0⟩)
noncomputable abbrev xg:List Str:=["self","place","side","tree","changed"]
noncomputable abbrev qH:List Str:=["self","place","side","tree"]
theorem pW:aY xg qH (aK mQ):=jx
abbrev nT:Stmt:=(hZ (ii 37)).getD 7 (.Pass ⟨0,0,0,0⟩)
noncomputable abbrev zf:List Str:=["self","tree"]
noncomputable abbrev si:List Str:=["self","tree"]
theorem qI:aY zf si (aK nT):=jx
abbrev pX:Stmt:=(hZ (ii 37)).getD 8 (.Pass ⟨0,0,0,0⟩)
noncomputable abbrev AV:List Str:=["self","deed"]
noncomputable abbrev uK:List Str:=["self"]
theorem sk:aY AV uK (aK pX):=jx
abbrev nU:Stmt:=(hZ (ii 37)).getD 9 (.Pass ⟨0,0,0,0⟩)
noncomputable abbrev zg:List Str:=["self","deed"]
noncomputable abbrev sm:List Str:=["self"]
theorem qJ:aY zg sm (aK nU):=jx
abbrev kN:Stmt:=(hZ (ii 37)).getD 10 (.Pass ⟨0,0,0,0⟩)
noncomputable abbrev uZ:List Str:=["self"]
noncomputable abbrev oJ:List Str:=["self"]
theorem ni:aY uZ oJ (aK kN):=jx
abbrev j6:Stmt:=(hZ (ii 37)).getD 11 (.Pass ⟨0,0,0,0⟩)
noncomputable abbrev t5:List Str:=["self"]
noncomputable abbrev nj:List Str:=["self"]
theorem mE:aY t5 nj (aK j6):=jx
abbrev kO:Stmt:=(hZ (ii 37)).getD 12 (.Pass ⟨0,0,0,0⟩)
noncomputable abbrev u0:List Str:=["self"]
noncomputable abbrev oK:List Str:=["self"]
theorem nn:aY u0 oK (aK kO):=jx
abbrev kP:Stmt:=(hZ (ii 37)).getD 13 (.Pass ⟨0,0,0,0⟩)
noncomputable abbrev u3:List Str:=["self"]
noncomputable abbrev oM:List Str:=["self"]
theorem nq:aY u3 oM (aK kP):=jx
abbrev HQ:Stmt:=ii 39
noncomputable abbrev AW:List Str:=["_law_script","_law_k"]
noncomputable abbrev MO:List Str:=["_law_script","_law_k"]
theorem HR:aY AW MO (aK HQ):=jx
abbrev HS:Stmt:=ii 40
noncomputable abbrev zh:List Str:=["_law_cell_here","_law_k","_law_salt","_law_first"]
noncomputable abbrev MP:List Str:=["_law_cell_here","_law_k","_law_salt"]
theorem HU:aY zh MP (aK HS):=jx
abbrev HV:Stmt:=ii 41
noncomputable abbrev zi:List Str:=["_law_cell_here","_law_many","_law_salt","_law_found","_law_rest","_law_k"]
noncomputable abbrev MQ:List Str:=["_law_cell_here","_law_many","_law_salt"]
theorem HW:aY zi MQ (aK HV):=jx
abbrev HX:Stmt:=ii 42
noncomputable abbrev AX:List Str:=["_law_found","_law_due","_law_k"]
noncomputable abbrev HY:List Str:=["_law_found","_law_due"]
theorem HZ:aY AX HY (aK HX):=jx
abbrev H9:Stmt:=ii 43
noncomputable abbrev AY:List Str:=["_law_cell_here","_law_many","_law_salt","_law_rest","_law_found","_law_d","_law_at"]
noncomputable abbrev MR:List Str:=["_law_cell_here","_law_many","_law_salt"]
theorem H_:aY AY MR (aK H9):=jx
abbrev Ia:Stmt:=ii 44
noncomputable abbrev zj:List Str:=["_law_pool_here","_law_number"]
noncomputable abbrev MS:List Str:=["_law_pool_here","_law_number"]
theorem Ib:aY zj MS (aK Ia):=jx
abbrev Ic:Stmt:=ii 45
noncomputable abbrev AZ:List Str:=["_law_draws_here","_law_pool_here","_law_found","_law_high","_law_d","_law_branches"]
noncomputable abbrev MU:List Str:=["_law_draws_here","_law_pool_here"]
theorem Id:aY AZ MU (aK Ic):=jx
abbrev Ie:Stmt:=ii 46
noncomputable abbrev zk:List Str:=["_law_tree_here","_law_heap","_law_found","_law_k","_law_left","_law_right"]
noncomputable abbrev MV:List Str:=["_law_tree_here"]
theorem Ig:aY zk MV (aK Ie):=jx
abbrev Ih:Stmt:=ii 47
noncomputable abbrev wc:List Str:=["_law_names","_law_many","_law_top","_law_draws_here","_law_good","_law_table","_law_at","_law_letter_here","_law_rows","_law_l"]
noncomputable abbrev MW:List Str:=["_law_names","_law_many","_law_top","_law_draws_here"]
theorem Ii:aY wc MW (aK Ih):=jx
abbrev Ij:Stmt:=ii 48
noncomputable abbrev xh:List Str:=["_law_names","_law_marks_here","_law_found","_law_name"]
noncomputable abbrev MX:List Str:=["_law_names","_law_marks_here"]
theorem Ik:aY xh MX (aK Ij):=jx
abbrev Il:Stmt:=ii 49
noncomputable abbrev CQ:List Str:=["_law_machine_here","_law_tree_here","_law_heap","_law_found","_law_branches","_law_marks_here","_law_left","_law_right"]
noncomputable abbrev MY:List Str:=["_law_machine_here","_law_tree_here"]
theorem Im:aY CQ MY (aK Il):=jx
abbrev Io:Stmt:=ii 50
noncomputable abbrev A6:List Str:=["_law_machine_here","_law_tree_here"]
noncomputable abbrev MZ:List Str:=["_law_machine_here","_law_tree_here"]
theorem Ip:aY A6 MZ (aK Io):=jx
abbrev Iq:Stmt:=ii 51
noncomputable abbrev zm:List Str:=["_law_links_here","_law_found","_law_left","_law_right","_law_many"]
noncomputable abbrev M0:List Str:=["_law_links_here"]
theorem Ir:aY zm M0 (aK Iq):=jx
abbrev Iu:Stmt:=ii 52
noncomputable abbrev xi:List Str:=["_law_tree_here","_law_place","_law_links_here","_law_sizes_here","_law_middle","_law_first"]
noncomputable abbrev M1:List Str:=["_law_tree_here","_law_place"]
theorem Iv:aY xi M1 (aK Iu):=jx
abbrev Iw:Stmt:=ii 53
noncomputable abbrev u4:List Str:=["_law_tree_here","_law_place","_law_side","_law_other","_law_first","_law_middle","_law_left","_law_right","_law_top"]
noncomputable abbrev M2:List Str:=["_law_tree_here","_law_place","_law_side","_law_other"]
theorem Iy:aY u4 M2 (aK Iw):=jx
abbrev Iz:Stmt:=ii 54
noncomputable abbrev zn:List Str:=["_law_script","_law_sizes_here","_law_pool_here","_law_many","_law_names","_law_entries","_law_machine_here","_law_high"]
noncomputable abbrev M3:List Str:=["_law_script"]
theorem IA:aY zn M3 (aK Iz):=jx
abbrev IB:Stmt:=ii 55
noncomputable abbrev we:List Str:=["_law_script","_law_k","_law_most","_law_tree_here","_law_pool_here","_law_draws_here","_law_other","_law_kind","_law_place"]
noncomputable abbrev M4:List Str:=["_law_script","_law_k","_law_most","_law_tree_here","_law_pool_here"]
theorem IC:aY we M4 (aK IB):=jx
abbrev ID:Stmt:=ii 56
noncomputable abbrev wf:List Str:=["_law_tree_here","_law_deed","_law_branches","_law_marks_here"]
noncomputable abbrev M5:List Str:=["_law_tree_here","_law_deed"]
theorem IE:aY wf M5 (aK ID):=jx
abbrev IF:Stmt:=ii 57
noncomputable abbrev zo:List Str:=["_law_kept","_law_deed"]
noncomputable abbrev M6:List Str:=["_law_kept","_law_deed"]
theorem IG:aY zo M6 (aK IF):=jx
abbrev IH:Stmt:=ii 58
noncomputable abbrev xj:List Str:=["_law_kept","_law_machine_here","_law_tree_here","_law_turn","_law_k","_law_asked"]
noncomputable abbrev M7:List Str:=["_law_kept","_law_machine_here","_law_tree_here","_law_turn"]
theorem II:aY xj M7 (aK IH):=jx
abbrev IJ:Stmt:=ii 59
noncomputable abbrev wg:List Str:=["_law_kept","_law_deed","_law_told","e"]
noncomputable abbrev M8:List Str:=["_law_kept","_law_deed"]
theorem wj:aY wg M8 (aK IJ):=jx
abbrev IK:Stmt:=ii 60
noncomputable abbrev xk:List Str:=["_law_many"]
noncomputable abbrev M9:List Str:=["_law_many"]
theorem IL:aY xk M9 (aK IK):=jx
abbrev IM:Stmt:=ii 61
noncomputable abbrev CS:List Str:=["_law_script","_law_k","_law_tree_here","_law_past","_law_later","_law_none","_law_great","_law_gone","_law_size","_law_draws_here","_law_place","_law_side","_law_found","_law_at","_law_first","_law_middle","_law_old"]
noncomputable abbrev M_:List Str:=["_law_script","_law_k","_law_tree_here","_law_past","_law_later"]
theorem IN:aY CS M_ (aK IM):=jx
abbrev IO:Stmt:=ii 62
noncomputable abbrev zp:List Str:=["_law_kept","_law_machine_here","_law_tree_here","_law_bad_here","_law_turn","_law_many","_law_deed","_law_due"]
noncomputable abbrev M':List Str:=["_law_kept","_law_machine_here","_law_tree_here","_law_bad_here","_law_turn"]
theorem IP:aY zp M' (aK IO):=jx
abbrev IQ:Stmt:=ii 63
noncomputable abbrev t6:List Str:=["_law_kept","_law_machine_here","_law_tree_here","_law_first","_law_middle","_law_other"]
noncomputable abbrev Na:List Str:=["_law_kept","_law_machine_here","_law_tree_here"]
theorem IR:aY t6 Na (aK IQ):=jx
abbrev su:Stmt:=ii 64
noncomputable abbrev T4:List Str:=["_law_script","_law_machine_here","_law_tree_here","_law_pool_here","_law_kept","_law_past","_law_later","_law_k","_law_deed"]
noncomputable abbrev IS:List Str:=["_law_script"]
theorem IT:aY T4 IS (aK su):=jx
structure Bl(mg:Str->Option Value):Prop where
 ValueError:mg "ValueError"=Option.none
 bool:mg "bool"=Option.none
 enumerate:mg "enumerate"=Option.none
 int:mg "int"=Option.none
 isinstance:mg "isinstance"=Option.none
 len:mg "len"=Option.none
 list:mg "list"=Option.none
 max:mg "max"=Option.none
 min:mg "min"=Option.none
 range:mg "range"=Option.none
 set:mg "set"=Option.none
 sorted:mg "sorted"=Option.none
 str:mg "str"=Option.none
 tuple:mg "tuple"=Option.none
 zip:mg "zip"=Option.none
noncomputable def ko:W:=.int 100
structure Gc(K:Frag)(mg:Str->Option Value):Prop where
 MOST_PLACES:∃u v,mg "MOST_PLACES"=some u/\dh 0 v u/\∀μ H,bO K μ H ko v
noncomputable abbrev qK:List Str:=["TrunkError","NoPlace","TooGreat","NothingDone"]
noncomputable def je:Str->Option Bool:=fun c=>if c="TrunkError" then some false else if c="NoPlace" then some true else if c="TooGreat" then some false else if c="NothingDone" then some false else none
noncomputable def fq:Str->Option Bool:=fun c=>if c="TrunkError" then some false else if c="NoPlace" then some false else if c="TooGreat" then some false else if c="NothingDone" then some true else none
noncomputable def ip:Str->Option Bool:=fun c=>if c="TrunkError" then some false else if c="NoPlace" then some false else if c="TooGreat" then some true else if c="NothingDone" then some false else none
noncomputable def wl:Str->Option Bool:=fun c=>if c="TrunkError" then some false else if c="NoPlace" then some false else if c="TooGreat" then some false else if c="NothingDone" then some false else none
noncomputable def fQ:Str->Option Bool:=fun c=>if c="TrunkError" then some true else if c="NoPlace" then some true else if c="TooGreat" then some true else if c="NothingDone" then some true else none
theorem Lx:bootBuiltins "ValueError"=some (.type "ValueError"):=by first|rfl|kernel_rfl|decide +kernel
structure Cls(K:Frag)(mg:Str->Option Value):Prop where
 TrunkError:G3 K mg "TrunkError"
 NoPlace:G3 K mg "NoPlace"
 TooGreat:G3 K mg "TooGreat"
 NothingDone:G3 K mg "NothingDone"
 isi_NoPlace:∃Ta,mg "NoPlace"=some (.ref Ta)/\CD K mg (.ref Ta) je
 isi_NothingDone:∃Ta,mg "NothingDone"=some (.ref Ta)/\CD K mg (.ref Ta) fq
 isi_TooGreat:∃Ta,mg "TooGreat"=some (.ref Ta)/\CD K mg (.ref Ta) ip
 isi_t0:∃A0,∃A1,∃A2,∃A3,∃A4,∃A5,mg "NoTree"=some (.ref A0)/\mg "NoStatement"=some (.ref A1)/\mg "NoNumber"=some (.ref A2)/\mg "NoName"=some (.ref A3)/\mg "NoLine"=some (.ref A4)/\mg "NothingHeld"=some (.ref A5)/\G_ K mg [A0,A1,A2,A3,A4,A5] wl
 isi_ValueError:CD K mg (.type "ValueError") fQ
 catch_TrunkError:G4 K mg "TrunkError" qK
structure Ow(K:Frag)(mg:Str->Option Value):Prop where
 Kept:PZ K mg "Kept" ["machine","many","rooms","standing","taken_back","tree"]
section
variable{w:World}{f:Addr}
local macro_rules | `(tactic| walk_at "w1") => `(tactic| first | exact eQ _ | refine d9 ?_ ?_ | exact As | exact jC | refine km ?_ ?_ | refine Pp ?_ ?_ | refine jF ?_ | refine sS _ ‹_› ?_ | refine Wi (by first | exact Tf | exact S9 | exact PP | exact Tb | exact Ph | exact Tc | exact Td | exact Te | exact Pi) ?_ ?_ | refine DW ‹_› ‹_› (by omega) ?_ | refine Cu ?_ | refine Ml ?_ | exact sG _ ‹_› | refine rY ‹Ow _ _›.Kept ?_ | refine P0 ‹Ow _ _›.Kept ?_ ?_ | refine y0 ‹_› ‹_› (by omega) ?_ ?_ | refine Lp ‹_› ‹_› (by omega) ?_ | refine P1 ‹_› ‹_› (by omega) ?_ | refine nN DU ‹Bl _›.len boot_len ?_ | refine nN Tl ‹Bl _›.max boot_max ?_ | refine nN Tm ‹Bl _›.min boot_min ?_ | refine nN Lg ‹Bl _›.sorted boot_sorted ?_ | refine tJ (by first | exact K4 ‹_› | exact Tg ‹_› | exact Th ‹_› | exact w_lt | exact Mt | exact Pm | exact Po) ?_ ?_ | refine SV (by first | exact K4 ‹_› | exact Tg ‹_› | exact Th ‹_› | exact w_lt | exact Mt | exact Pm | exact Po) ?_ ?_ | refine AA ?_ ?_ ?_ | exact vN | refine Pw ?_ ?_ ?_ | refine GT ?_ ?_ | exact K8 | refine Pr rfl ?_ | refine nO ?_ | refine S7 ?_ | exact Wg | exact GG | exact Mh | refine vM PV ‹Bl _›.int boot_int ?_ | refine vM K7 ‹Bl _›.tuple boot_tuple ?_ | refine vM Pq ‹Bl _›.list boot_list ?_ | refine Py PySem.F.slot_list_append PySem.F.type_list_append tN ?_ ?_ | refine GZ PySem.F.slot_list_pop PySem.F.type_list_pop Cz ?_ | refine Tq PySem.F.slot_str_join PySem.F.type_str_join DY ?_ ?_ | refine Fa ‹Bl _›.range ?_ | refine La ‹Bl _›.enumerate ?_ | refine Ln ‹Bl _›.zip ?_ | refine D2 rfl ?_ (fun _ _ _ _ _ => ?_) (fun _ _ _ _ _ => ?_) (fun _ _ _ _ _ => ?_) | refine uG (sG _ ‹_›) rfl ?_ (fun _ _ _ _ _ => ?_) (fun _ _ _ _ _ => ?_) (fun _ _ _ _ _ => ?_) | refine D2 (m := 0) rfl ?_ (fun _ _ _ _ _ => ?_) (fun _ _ _ _ _ => ?_) (fun _ _ _ _ _ => ?_) | refine uG (sG _ ‹_›) (m := 0) rfl ?_ (fun _ _ _ _ _ => ?_) (fun _ _ _ _ _ => ?_) (fun _ _ _ _ _ => ?_) | exact Xm _ | exact K_ | refine K' ?_ | refine PF ?_ | refine Pd ?_ | refine KY ?_ | refine S5 ?_ | refine Pa ?_ | refine O_ (GI ?_ ?_) | refine O_ (GJ ?_ ?_) | refine GI ?_ ?_ | refine GJ ?_ ?_ | refine KU ?_ | refine GH ?_ | refine O9 ?_ | refine SZ ?_ | refine Ts ?_ | refine Wj ?_ ?_ ?_ | refine SY ?_ ?_ | refine SX ?_ | refine K6 ?_ | exact K5 | refine Wn ?_ ?_ ?_ | refine Pv Pu ?_ ?_ ?_ | refine GV ?_ ?_ | refine Ps ?_ ?_ | exact GS | exact Az | exact SU ‹Gc _ _›.MOST_PLACES | refine D1 ‹Bl _›.isinstance ‹Bl _›.bool boot_bool ?_ | refine D1 ‹Bl _›.isinstance ‹Bl _›.int boot_int ?_ | refine D1 ‹Bl _›.isinstance ‹Bl _›.str boot_str ?_ | refine D1 ‹Bl _›.isinstance ‹Bl _›.tuple boot_tuple ?_)
local macro_rules | `(tactic| walk_at "w") => `(tactic| repeat' walk_at "w1")
def Wr:FS:=(cn (J5 oF (eC (.str [])) (aa (rV (af 0)) aw)))
def Ly:List W->List am->R W:=cQ 1 Wr
theorem T5(F:ie K "in_order" "in_order" P_ f fd)(B:Bl mg) :cJ P w K mg base (gY P w) 1 f fd TL (ig K mg 1 Ly):=
 bJ (k:=0) F TM rfl fun eP A outer s H E hr=>(jF (Cu (Tq PySem.F.slot_str_join PySem.F.type_str_join DY GG (d9 (Fd B.sorted B.set (eQ 0)) jC))))
def T6:FS:=(aE (a9 2 (eI 0)) (aE (lv (gu (af 0)) (iP 3) (aE (a9 2 (e2 ik (af 2) (eI 2))) (eW (dm (e2 (FQ false) (af 3) (af 1))) (a9 2 (e2 cq (af 2) (eI 1))) bI))) (cn (af 2))))
def Lz:List W->List am->R W:=cQ 4 T6
theorem T7(F:ie K "letter_of" "letter_of" P' f fd)  :cJ P w K mg base (gY P w) 1 f fd TN (ig K mg 2 Lz):=
 bJ (k:=0) F Mw rfl fun eP A outer s H E hr=>by have sc:=Mw;walk_at "w"
def Ws:FS:=(cn (e2 (FQ false) (e2 bp (af 0) (eI 0)) (cZ (aa (eI 1) (aa (eI 3) aw)))))
def A7:List W->List am->R W:=cQ 1 Ws
theorem T9(F:ie K "has_left" "has_left" Qa f fd)  :cJ P w K mg base (gY P w) 1 f fd TQ (ig K mg 1 A7):=
 bJ (k:=0) F Mx rfl fun eP A outer s H E hr=>by have sc:=Mx;walk_at "w"
def Wt:FS:=(cn (e2 (FQ false) (e2 bp (af 0) (eI 0)) (cZ (aa (eI 2) (aa (eI 3) aw)))))
def xl:List W->List am->R W:=cQ 1 Wt
theorem T_(F:ie K "has_right" "has_right" Qb f fd)  :cJ P w K mg base (gY P w) 1 f fd TR (ig K mg 1 xl):=
 bJ (k:=0) F My rfl fun eP A outer s H E hr=>by have sc:=My;walk_at "w"
def T':FS:=(aE (a9 1 (jD aw)) (aE (a9 2 (jD aw)) (aE (lv (re (aa (af 0) aw)) (Cv 2 (dN (iP 3) (dN (iP 4) mx))) (aE (a9 5 (FP (dm (bQ 1 xl (aa (af 4) aw))) (jR m6 (af 2) aw) (eC .non))) (aE (a9 6 (FP (dm (bQ 1 A7 (aa (af 4) aw))) (jR m6 (af 2) aw) (eC .non))) (aE (cv (jR bv (af 2) (aa (af 3) aw))) (cv (jR bv (af 1) (aa (cZ (aa (af 6) (aa (af 5) aw))) aw))))))) (cn (bh ij (aa (af 1) aw))))))
def xn:List W->List am->R W:=cQ 7 T'
theorem Ua(F:ie K "links_of" "links_of" Qc f fd)(B:Bl mg)(U8:cN P w K mg base 1 "has_left" 1 A7)(L1:cN P w K mg base 1 "has_right" 1 xl):cJ P w K mg base (gY P w) 2 f fd TU (ig K mg 1 xn):=
 bJ (k:=1) F Mz rfl fun eP A outer s H E hr=>by have sc:=Mz;walk_at "w"
def Qi:FS:=(aE (rd (jo [none] (gu (af 0)) (iP 0) vR (eC .non)) (iP 1)) (aE (rd (jo [none] (gu (af 0)) (iP 0) vR (eC .non)) (iP 2)) (aE (lv (re (aa (bQ 1 xn (aa (af 0) aw)) aw)) (Cv 2 (dN (iP 3) (dN (iP 4) mx))) (aE (eW (dm (gs (e2 bp (af 4) (eI 0)))) (AB (af 1) (e2 bp (af 4) (eI 0)) (af 3) qC) bI) (eW (dm (gs (e2 bp (af 4) (eI 1)))) (AB (af 2) (e2 bp (af 4) (eI 1)) (af 3) qC) bI))) (cn (cZ (aa (af 1) #[19]))))))
def LA:List W->List am->R W:=cQ 5 Qi
theorem Ub(F:ie K "ups_of" "ups_of" Qd f fd)(B:Bl mg)(BC:cN P w K mg base 2 "links_of" 1 xn):cJ P w K mg base (gY P w) 3 f fd TV (ig K mg 1 LA):=
 bJ (k:=2) F MA rfl fun eP A outer s H E hr=>by have sc:=MA;walk_at "w"
def Wu:FS:=(cn (FP (dm (gs (e2 bp (e2 bp (af 0) (eI 0)) (af 1)))) (e2 bp (e2 bp (af 0) (eI 0)) (af 1)) (e2 bp (e2 bp (af 0) (eI 1)) (af 1))))
def IU:List W->List am->R W:=cQ 2 Wu
theorem Uc(F:ie K "up_from" "up_from" Qe f fd)  :cJ P w K mg base (gY P w) 1 f fd TW (ig K mg 2 IU):=
 bJ (k:=0) F MB rfl fun eP A outer s H E hr=>by have sc:=MB;walk_at "w"
def Ud:FS:=(aE (a9 1 (jD aw)) (aE (lv (gu (bQ 1 xn (aa (af 0) aw))) (Cv 2 (dN (iP 2) (dN (iP 3) mx))) (aE (a9 4 (eI 1)) (aE (eW (dm (gs (af 2))) (a9 4 (e2 cq (af 4) (e2 bp (af 1) (af 2)))) bI) (aE (eW (dm (gs (af 3))) (a9 4 (e2 cq (af 4) (e2 bp (af 1) (af 3)))) bI) (cv (jR bv (af 1) (aa (af 4) aw))))))) (cn (bh ij (aa (af 1) aw)))))
def Fl:List W->List am->R W:=cQ 5 Ud
theorem Ue(F:ie K "sizes_of" "sizes_of" Qf f fd)(B:Bl mg)(BC:cN P w K mg base 2 "links_of" 1 xn):cJ P w K mg base (gY P w) 3 f fd TX (ig K mg 1 Fl):=
 bJ (k:=2) F MC rfl fun eP A outer s H E hr=>by have sc:=MC;walk_at "w"
def Qj:FS:=(eW (E5 (dm (e2 Pj (af 1) (eI 0))) (dm (e2 Pk (af 1) (bh cP (aa (af 0) aw))))) (rh "NoPlace") bI)
def zq:List W->List am->R W:=cQ 2 Qj
theorem Uf(F:ie K "check_place" "check_place" Qg f fd)(B:Bl mg)(C:Cls K mg) :cJ P w K mg base (gY P w) 1 f fd TY (ig K mg 2 zq):=
 bJ (k:=0) F TZ rfl fun eP A outer s H E hr=>(jF (AA (O_ (GJ (tJ w_lt (eQ 1) As) (GH (tJ Po (eQ 1) (nN DU B.len boot_len (d9 (eQ 0) jC)))))) (jF (rW C.NoPlace)) vN))
def IV:FS:=(eW (dm (e2 wT (af 0) (eC ko))) (rh "TooGreat") bI)
def Fp:List W->List am->R W:=cQ 1 IV
theorem Ug(F:ie K "check_size" "check_size" Qh f fd)(G:Gc K mg)(C:Cls K mg) :cJ P w K mg base (gY P w) 1 f fd T0 (ig K mg 1 Fp):=
 bJ (k:=0) F T3 rfl fun eP A outer s H E hr=>(jF (AA (tJ Pm (eQ 0) (SU G.MOST_PLACES)) (jF (rW C.TooGreat)) vN))
def IW:FS:=(aE (cv (bQ 2 zq (aa (af 0) (aa (af 1) aw)))) (cn (q_ (af 0) (eG (e2 gp (e2 cq (af 1) (eI 1)) (e2 bp (bQ 1 Fl (aa (af 0) aw)) (af 1)))) (eG (e2 cq (af 1) (eI 1))))))
def wm:List W->List am->R W:=cQ 2 IW
theorem Ql(F:ie K "part_at" "part_at" Hr f fd) (Dk:cN P w K mg base 1 "check_place" 2 zq)(L8:cN P w K mg base 3 "sizes_of" 1 Fl):cJ P w K mg base (gY P w) 4 f fd MD (ig K mg 2 wm):=
 bJ (k:=3) F Hs rfl fun eP A outer s H E hr=>by have sc:=Hs;walk_at "w"
def IX:FS:=(aE (a9 2 (q_ (bQ 2 wm (aa (af 0) (aa (af 1) aw))) gI (eG (vS (eI 1))))) (aE (a9 3 (eI 0)) (aE (eW (dm (bQ 1 xl (aa (e2 bp (af 0) (af 1)) aw))) (a9 3 (e2 bp (bQ 1 Fl (aa (af 0) aw)) (e2 gp (af 1) (eI 1)))) bI) (aE (a9 4 (e2 gp (bh cP #[19]) (af 3))) (cn (cZ (aa (q_ (af 2) gI (eG (af 4))) (aa (q_ (af 2) (eG (af 4)) gI) aw))))))))
def qL:List W->List am->R W:=cQ 5 IX
theorem Qm(F:ie K "branches_at" "branches_at" Ht f fd)(B:Bl mg)(L1:cN P w K mg base 1 "has_right" 1 xl)(N6:cN P w K mg base 4 "part_at" 2 wm)(L8:cN P w K mg base 3 "sizes_of" 1 Fl):cJ P w K mg base (gY P w) 5 f fd ME (ig K mg 2 qL):=
 bJ (k:=4) F Hu rfl fun eP A outer s H E hr=>by have sc:=Hu;walk_at "w"
def Nb:FS:=(aE (a9 3 (eI 0)) (aE (eW (dm (e2 wT (bh cP (aa (af 0) aw)) (eI 0))) (a9 3 (e2 cq (af 3) (eI 1))) bI) (aE (eW (dm (e2 wT (bh cP (aa (af 1) aw)) (eI 0))) (a9 3 (e2 cq (af 3) (eI 2))) bI) (cn (e2 cq (e2 cq (af 0) (af 1)) (cZ (aa (cZ (aa (af 3) #[19])) aw)))))))
def D7:List W->List am->R W:=cQ 4 Nb
theorem Qn(F:ie K "with_top" "with_top" Hv f fd)(B:Bl mg) :cJ P w K mg base (gY P w) 1 f fd MF (ig K mg 3 D7):=
 bJ (k:=0) F Hw rfl fun eP A outer s H E hr=>by have sc:=Hw;walk_at "w"
def A8:FS:=(aE (a9 4 (bQ 2 qL (aa (af 0) (aa (af 1) aw)))) (aE (a9 5 (FP (dm (e2 hW (af 2) (eC (.str [108,101,102,116])))) (af 3) (e2 bp (af 4) (eI 0)))) (aE (a9 6 (FP (dm (e2 hW (af 2) (eC (.str [114,105,103,104,116])))) (af 3) (e2 bp (af 4) (eI 1)))) (aE (a9 7 (e2 gp (e2 gp (af 1) (bh cP (aa (e2 bp (af 4) (eI 0)) aw))) (bh cP (aa (e2 bp (af 4) (eI 1)) aw)))) (aE (a9 8 (e2 cq (e2 cq (q_ (af 0) gI (eG (af 7))) (bQ 3 D7 (aa (af 5) (aa (af 6) (aa (e2 bp (e2 bp (af 0) (af 1)) (eI 1)) aw))))) (q_ (af 0) (eG (e2 cq (af 1) (eI 1))) gI))) (aE (cv (bQ 1 Fp (aa (bh cP (aa (af 8) aw)) aw))) (cn (af 8))))))))
def wn:List W->List am->R W:=cQ 9 A8
theorem Qo(F:ie K "branch_put" "branch_put" Hy f fd)(B:Bl mg)(Ez:cN P w K mg base 5 "branches_at" 2 qL)(U6:cN P w K mg base 1 "check_size" 1 Fp)(NK:cN P w K mg base 1 "with_top" 3 D7):cJ P w K mg base (gY P w) 6 f fd MG (ig K mg 4 wn):=
 bJ (k:=5) F Hz rfl fun eP A outer s H E hr=>by have sc:=Hz;walk_at "w"
def Uh:FS:=(cn (FP (dm (yS (af 1))) (eI 0) (e2 bp (af 0) (af 1))))
def A9:List W->List am->R W:=cQ 2 Uh
theorem Qp(F:ie K "room_below" "room_below" HA f fd)  :cJ P w K mg base (gY P w) 1 f fd MH (ig K mg 2 A9):=
 bJ (k:=0) F HB rfl fun eP A outer s H E hr=>by have sc:=HB;walk_at "w"
def Ui:FS:=(aE (a9 4 (e2 bp (e2 bp (af 0) (eI 2)) (bQ 2 Lz (aa (e2 bp (af 0) (eI 0)) (aa (af 1) aw))))) (cn (e2 bp (e2 bp (af 4) (bQ 2 A9 (aa (af 3) (aa (e2 bp (af 2) (eI 0)) aw)))) (bQ 2 A9 (aa (af 3) (aa (e2 bp (af 2) (eI 1)) aw))))))
def uL:List W->List am->R W:=cQ 5 Ui
theorem Qq(F:ie K "room_at" "room_at" HC f fd) (U5:cN P w K mg base 1 "letter_of" 2 Lz)(N5:cN P w K mg base 1 "room_below" 2 A9):cJ P w K mg base (gY P w) 2 f fd MI (ig K mg 4 uL):=
 bJ (k:=1) F HD rfl fun eP A outer s H E hr=>by have sc:=HD;walk_at "w"
def Nc:FS:=(aE (a9 2 (jD aw)) (aE (lv (yY (aa (af 1) (aa (bQ 1 xn (aa (af 1) aw)) aw))) (Cv 2 (dN (iP 3) (dN (iP 4) mx))) (cv (jR bv (af 2) (aa (bQ 4 uL (aa (af 0) (aa (e2 bp (af 3) (eI 1)) (aa (af 4) #[19])))) aw)))) (cn (bh ij #[19]))))
def pY:List W->List am->R W:=cQ 5 Nc
theorem Qr(F:ie K "rooms_of" "rooms_of" HE f fd)(B:Bl mg)(BC:cN P w K mg base 2 "links_of" 1 xn)(Et:cN P w K mg base 2 "room_at" 4 uL):cJ P w K mg base (gY P w) 3 f fd MJ (ig K mg 2 pY):=
 bJ (k:=2) F HF rfl fun eP A outer s H E hr=>by have sc:=HF;walk_at "w"
def Uj:FS:=(cn (cZ (aa (e2 bp (af 0) (eI 2)) (aa (e2 bp (af 0) (eI 3)) (aa (e2 bp (af 0) (eI 0)) (aa (e2 bp (af 0) (eI 1)) (aa (e2 bp (af 0) (eI 4)) aw)))))))
def D8:List W->List am->R W:=cQ 1 Uj
theorem Qs(F:ie K "turned" "turned" HG f fd)  :cJ P w K mg base (gY P w) 1 f fd MK (ig K mg 1 D8):=
 bJ (k:=0) F HI rfl fun eP A outer s H E hr=>by have sc:=HI;walk_at "w"
def Uk:FS:=(cn (e2 cq (e2 cq (q_ (af 0) gI (eG (af 1))) (cZ (aa (cZ (aa (e2 bp (e2 bp (af 0) (af 1)) (eI 0)) #[19])) aw))) (q_ (af 0) (eG (e2 cq (af 1) (eI 1))) gI)))
def D9:List W->List am->R W:=cQ 3 Uk
theorem Qt(F:ie K "with_marks" "with_marks" HJ f fd)  :cJ P w K mg base (gY P w) 1 f fd ML (ig K mg 3 D9):=
 bJ (k:=0) F HK rfl fun eP A outer s H E hr=>by have sc:=HK;walk_at "w"
def Ul:FS:=(aE (a9 3 (bQ 2 qL (aa (e2 bp (af 2) (eI 0)) (aa (e2 bp (af 2) (eI 1)) aw)))) (aE (a9 4 (bQ 2 qL (aa (e2 bp (af 2) (eI 2)) (aa (e2 bp (af 2) (eI 3)) aw)))) (aE (a9 5 (e2 gp (e2 gp (e2 bp (af 2) (eI 1)) (bh cP (aa (e2 bp (af 3) (eI 0)) aw))) (bh cP (aa (e2 bp (af 3) (eI 1)) aw)))) (aE (a9 6 (e2 cq (af 5) (bh cP (aa (e2 bp (af 3) (eI 0)) aw)))) (aE (eW (dm (e2 hW (e2 bp (af 2) (eI 4)) (eC (.str [108,101,102,116])))) (aE (a9 7 (bQ 2 pY (aa (af 0) (aa (e2 bp (af 4) (eI 0)) aw)))) (cn (cZ (aa (e2 cq (e2 cq (q_ (af 1) gI (eG (af 5))) (af 7)) (q_ (af 1) (eG (af 6)) gI)) (aa (bh cP (aa (af 7) aw)) aw))))) bI) (aE (a9 7 (bQ 2 pY (aa (af 0) (aa (e2 bp (af 4) (eI 1)) aw)))) (cn (cZ (aa (e2 cq (e2 cq (q_ (af 1) gI (eG (af 6))) (af 7)) (q_ (af 1) (eG (e2 bp (af 2) (eI 1))) gI)) (aa (bh cP (aa (af 7) aw)) aw))))))))))
def A_:List W->List am->R W:=cQ 8 Ul
theorem Qu(F:ie K "branch_rooms" "branch_rooms" HL f fd)(B:Bl mg)(Ez:cN P w K mg base 5 "branches_at" 2 qL)(yy:cN P w K mg base 3 "rooms_of" 2 pY):cJ P w K mg base (gY P w) 6 f fd MM (ig K mg 3 A_):=
 bJ (k:=5) F HM rfl fun eP A outer s H E hr=>by have sc:=HM;walk_at "w"
def Um:FS:=(aE (a9 4 (bQ 1 xn (aa (af 1) aw))) (aE (a9 5 (bQ 1 LA (aa (af 1) aw))) (aE (a9 6 (bh xS #[19])) (aE (a9 7 (eI 0)) (aE (a9 8 (af 3)) (aE (pM (dm (gs (af 8))) (aE (a9 9 (bQ 4 uL (aa (af 0) (aa (e2 bp (e2 bp (af 1) (af 8)) (eI 1)) (aa (e2 bp (af 4) (af 8)) (aa (af 6) aw)))))) (aE (a9 7 (e2 cq (af 7) (eI 1))) (aE (eW (dm (e2 hW (af 9) (e2 bp (af 6) (af 8)))) Ct bI) (aE (AB (af 6) (af 8) (af 9) qC) (a9 8 (bQ 2 IU (aa (af 5) (aa (af 8) aw))))))))) (cn (cZ (aa (bh ij (aa (af 6) aw)) (aa (af 7) aw))))))))))
def D_:List W->List am->R W:=cQ 10 Um
theorem Qw(F:ie K "climbed" "climbed" HN f fd)(B:Bl mg)(BC:cN P w K mg base 2 "links_of" 1 xn)(Et:cN P w K mg base 2 "room_at" 4 uL)(UQ:cN P w K mg base 1 "up_from" 2 IU)(Vf:cN P w K mg base 3 "ups_of" 1 LA):cJ P w K mg base (gY P w) 4 f fd MN (ig K mg 4 D_):=
 bJ (k:=3) F HP rfl fun eP A outer s H E hr=>by have sc:=HP;walk_at "w"
def oN:FS:=(aE (pO "Kept" "machine" (af 0) (af 1)) (aE (pO "Kept" "tree" (af 0) (af 2)) (aE (pO "Kept" "rooms" (af 0) (bQ 2 pY (aa (af 1) #[19]))) (aE (pO "Kept" "many" (af 0) (bh cP #[19])) (aE (pO "Kept" "standing" (af 0) (jD aw)) (pO "Kept" "taken_back" (af 0) (jD aw)))))))
def gM:List W->List am->R W:=cQ 3 oN
theorem t7(F:ie K "__init__" "Kept.__init__" kM f fd)(B:Bl mg)(O:Ow K mg)(yy:cN P w K mg base 3 "rooms_of" 2 pY):cJ P w K mg base (gY P w) 4 f fd oH (ig K mg 3 gM):=
 bJ (k:=3) F m_ rfl fun eP A outer s H E hr=>by have sc:=m_;walk_at "w"
def j7:FS:=(aE (eW (dm (yS (e2 bp (af 1) (eI 1)))) (aE (pO "Kept" "rooms" (af 0) (bQ 2 pY (aa (iE "Kept" "machine" (af 0)) (aa (e2 bp (af 1) (eI 2)) aw)))) (pO "Kept" "many" (af 0) (bh cP (aa (e2 bp (af 1) (eI 2)) aw)))) (aE (a9 2 (cZ (aa (iE "Kept" "rooms" (af 0)) (aa (eI 0) aw)))) (aE (eW (dm (gs (e2 bp (af 1) (eI 4)))) (a9 2 (bQ 3 A_ (aa (iE "Kept" "machine" (af 0)) (aa (iE "Kept" "rooms" (af 0)) (aa (af 1) aw))))) bI) (aE (a9 3 (bQ 4 D_ (aa (iE "Kept" "machine" (af 0)) (aa (e2 bp (af 1) (eI 2)) (aa (e2 bp (af 2) (eI 0)) (aa (e2 bp (af 1) (eI 3)) aw)))))) (aE (pO "Kept" "rooms" (af 0) (e2 bp (af 3) (eI 0))) (pO "Kept" "many" (af 0) (e2 cq (e2 bp (af 2) (eI 1)) (e2 bp (af 3) (eI 1))))))))) (pO "Kept" "tree" (af 0) (e2 bp (af 1) (eI 2))))
def dq:List W->List am->R W:=cQ 4 j7
theorem sw(F:ie K "carry_out" "Kept.carry_out" jZ f fd)(B:Bl mg)(O:Ow K mg)(NJ:cN P w K mg base 6 "branch_rooms" 3 A_)(NI:cN P w K mg base 4 "climbed" 4 D_)(yy:cN P w K mg base 3 "rooms_of" 2 pY):cJ P w K mg base (gY P w) 7 f fd ng (ig K mg 2 dq):=
 bJ (k:=6) F mC rfl fun eP A outer s H E hr=>by have sc:=mC;walk_at "w"
def pZ:FS:=(aE (cv (gJ "Kept" "carry_out" 2 dq (af 0) (aa (af 1) aw))) (aE (cv (jR bv (iE "Kept" "standing" (af 0)) (aa (af 1) aw))) (pO "Kept" "taken_back" (af 0) (jD aw))))
def dP:List W->List am->R W:=cQ 2 pZ
theorem u5(F:ie K "do_deed" "Kept.do_deed" lF f fd)(O:Ow K mg)(dG:hJ P w K mg base 7 "Kept" "carry_out" 2 dq):cJ P w K mg base (gY P w) 8 f fd pU (ig K mg 2 dP):=
 bJ (k:=7) F oI rfl fun eP A outer s H E hr=>by have sc:=oI;walk_at "w"
def t8:FS:=(cv (gJ "Kept" "do_deed" 2 dP (af 0) (aa (cZ (aa (iE "Kept" "tree" (af 0)) (aa (af 1) (aa (bQ 3 D9 (aa (iE "Kept" "tree" (af 0)) (aa (af 1) #[19]))) (aa (af 1) (aa (eC .non) aw)))))) aw)))
def eh:List W->List am->R W:=cQ 3 t8
theorem sy(F:ie K "mark_deed" "Kept.mark_deed" j4 f fd)(O:Ow K mg)(gf:hJ P w K mg base 8 "Kept" "do_deed" 2 dP)(NW:cN P w K mg base 1 "with_marks" 3 D9):cJ P w K mg base (gY P w) 9 f fd nh (ig K mg 3 eh):=
 bJ (k:=8) F mD rfl fun eP A outer s H E hr=>by have sc:=mD;walk_at "w"
def wq:FS:=(aE (cv (bQ 2 zq (aa (iE "Kept" "tree" (af 0)) (aa (af 1) aw)))) (cv (gJ "Kept" "mark_deed" 3 eh (af 0) (aa (af 1) (aa (bQ 1 Ly (aa (e2 cq (e2 bp (e2 bp (iE "Kept" "tree" (af 0)) (af 1)) (eI 1)) (af 2)) aw)) aw)))))
def jf:List W->List am->R W:=cQ 3 wq
theorem A'(F:ie K "put" "Kept.put" rq f fd)(O:Ow K mg)(gg:hJ P w K mg base 9 "Kept" "mark_deed" 3 eh)(Dk:cN P w K mg base 1 "check_place" 2 zq)(Va:cN P w K mg base 1 "in_order" 1 Ly):cJ P w K mg base (gY P w) 10 f fd wb (ig K mg 3 jf):=
 bJ (k:=9) F uI rfl fun eP A outer s H E hr=>by have sc:=uI;walk_at "w"
def uM:FS:=(aE (cv (bQ 2 zq (aa (iE "Kept" "tree" (af 0)) (aa (af 1) aw)))) (cv (gJ "Kept" "mark_deed" 3 eh (af 0) (aa (af 1) (aa (D6 (e2 bp (e2 bp (iE "Kept" "tree" (af 0)) (af 1)) (eI 1)) (af 2)) aw)))))
def iq:List W->List am->R W:=cQ 3 uM
theorem zt(F:ie K "take" "Kept.take" pV f fd)(O:Ow K mg)(gg:hJ P w K mg base 9 "Kept" "mark_deed" 3 eh)(Dk:cN P w K mg base 1 "check_place" 2 zq):cJ P w K mg base (gY P w) 10 f fd uJ (ig K mg 3 iq):=
 bJ (k:=9) F ze rfl fun eP A outer s H E hr=>(km (nO (DW Dk hr #[0] (d9 (rY O.Kept (eQ 0)) (d9 (eQ 1) jC)))) (jF (nO (y0 gg hr #[0] (eQ 0) (d9 (eQ 1) (d9 (P8 (Pp (Pp (rY O.Kept (eQ 0)) (eQ 1)) As) (eQ 2)) jC))))))
def qM:FS:=(aE (a9 4 (bQ 4 wn (aa (iE "Kept" "tree" (af 0)) (aa (af 1) (aa (af 2) (aa (af 3) aw)))))) (cv (gJ "Kept" "do_deed" 2 dP (af 0) (aa (cZ (aa (iE "Kept" "tree" (af 0)) (aa (af 1) (aa (af 4) (aa (e2 gp (e2 cq (af 1) (bh cP (aa (af 4) aw))) (bh cP (aa (iE "Kept" "tree" (af 0)) aw))) #[19]))))) aw))))
def fR:List W->List am->R W:=cQ 5 qM
theorem wt(F:ie K "branch" "Kept.branch" mQ f fd)(B:Bl mg)(O:Ow K mg)(gf:hJ P w K mg base 8 "Kept" "do_deed" 2 dP)(NV:cN P w K mg base 6 "branch_put" 4 wn):cJ P w K mg base (gY P w) 9 f fd qH (ig K mg 4 fR):=
 bJ (k:=8) F pW rfl fun eP A outer s H E hr=>by have sc:=pW;walk_at "w"
def zu:FS:=(cv (gJ "Kept" "do_deed" 2 dP (af 0) (aa (cZ (aa (iE "Kept" "tree" (af 0)) (aa (eC .non) (aa (af 1) (aa (eC .non) (aa (eC .non) aw)))))) aw)))
def iG:List W->List am->R W:=cQ 2 zu
theorem xo(F:ie K "whole" "Kept.whole" nT f fd)(O:Ow K mg)(gf:hJ P w K mg base 8 "Kept" "do_deed" 2 dP):cJ P w K mg base (gY P w) 9 f fd si (ig K mg 2 iG):=
 bJ (k:=8) F qI rfl fun eP A outer s H E hr=>by have sc:=qI;walk_at "w"
def p5:FS:=(aE (eW (dm (e2 hW (bh cP (aa (iE "Kept" "standing" (af 0)) aw)) (eI 0))) (rh "NothingDone") bI) (aE (a9 1 (jR m6 (iE "Kept" "standing" (af 0)) aw)) (aE (cv (gJ "Kept" "carry_out" 2 dq (af 0) (aa (bQ 1 D8 (aa (af 1) aw)) aw))) (cv (jR bv (iE "Kept" "taken_back" (af 0)) (aa (af 1) aw))))))
def iu:List W->List am->R W:=cQ 2 p5
theorem zv(F:ie K "back" "Kept.back" pX f fd)(B:Bl mg)(C:Cls K mg)(O:Ow K mg)(dG:hJ P w K mg base 7 "Kept" "carry_out" 2 dq)(J2:cN P w K mg base 1 "turned" 1 D8):cJ P w K mg base (gY P w) 8 f fd uK (ig K mg 1 iu):=
 bJ (k:=7) F sk rfl fun eP A outer s H E hr=>(km (AA (tJ (K4 hr) (nN DU B.len boot_len (d9 (rY O.Kept (eQ 0)) jC)) As) (jF (rW C.NothingDone)) vN) (km (sS 1 sk (GZ PySem.F.slot_list_pop PySem.F.type_list_pop Cz (rY O.Kept (eQ 0)))) (km (nO (y0 dG hr #[0] (eQ 0) (d9 (DW J2 hr #[0] (d9 (eQ 1) jC)) jC))) (jF (nO (Py PySem.F.slot_list_append PySem.F.type_list_append tN (rY O.Kept (eQ 0)) (d9 (eQ 1) jC)))))))
def nV:FS:=(aE (eW (dm (e2 hW (bh cP (aa (iE "Kept" "taken_back" (af 0)) aw)) (eI 0))) (rh "NothingDone") bI) (aE (a9 1 (jR m6 (iE "Kept" "taken_back" (af 0)) aw)) (aE (cv (gJ "Kept" "carry_out" 2 dq (af 0) (aa (af 1) aw))) (cv (jR bv (iE "Kept" "standing" (af 0)) (aa (af 1) aw))))))
def gD:List W->List am->R W:=cQ 2 nV
theorem xp(F:ie K "again" "Kept.again" nU f fd)(B:Bl mg)(C:Cls K mg)(O:Ow K mg)(dG:hJ P w K mg base 7 "Kept" "carry_out" 2 dq):cJ P w K mg base (gY P w) 8 f fd sm (ig K mg 1 gD):=
 bJ (k:=7) F qJ rfl fun eP A outer s H E hr=>(km (AA (tJ (K4 hr) (nN DU B.len boot_len (d9 (rY O.Kept (eQ 0)) jC)) As) (jF (rW C.NothingDone)) vN) (km (sS 1 qJ (GZ PySem.F.slot_list_pop PySem.F.type_list_pop Cz (rY O.Kept (eQ 0)))) (km (nO (y0 dG hr #[0] (eQ 0) (d9 (eQ 1) jC))) (jF (nO (Py PySem.F.slot_list_append PySem.F.type_list_append tN (rY O.Kept (eQ 0)) (d9 (eQ 1) jC)))))))
def u6:FS:=(cn (iE "Kept" "tree" (af 0)))
def gN:List W->List am->R W:=cQ 1 u6
theorem t9(F:ie K "tree_now" "Kept.tree_now" kN f fd)(O:Ow K mg) :cJ P w K mg base (gY P w) 1 f fd oJ (ig K mg 1 gN):=
 bJ (k:=0) F ni rfl fun eP A outer s H E hr=>by have sc:=ni;walk_at "w"
def t_:FS:=(cn (iE "Kept" "rooms" (af 0)))
def gc:List W->List am->R W:=cQ 1 t_
theorem sA(F:ie K "rooms_now" "Kept.rooms_now" j6 f fd)(O:Ow K mg) :cJ P w K mg base (gY P w) 1 f fd nj (ig K mg 1 gc):=
 bJ (k:=0) F mE rfl fun eP A outer s H E hr=>by have sc:=mE;walk_at "w"
def u7:FS:=(cn (e2 bp (e2 bp (iE "Kept" "machine" (af 0)) (eI 1)) (FP (dm (e2 wT (bh cP (aa (iE "Kept" "rooms" (af 0)) aw)) (eI 0))) (e2 bp (iE "Kept" "rooms" (af 0)) (vS (eI 1))) (eI 0))))
def gO:List W->List am->R W:=cQ 1 u7
theorem uc(F:ie K "lets_now" "Kept.lets_now" kO f fd)(B:Bl mg)(O:Ow K mg) :cJ P w K mg base (gY P w) 1 f fd oK (ig K mg 1 gO):=
 bJ (k:=0) F nn rfl fun eP A outer s H E hr=>by have sc:=nn;walk_at "w"
def u8:FS:=(cn (iE "Kept" "many" (af 0)))
def fF:List W->List am->R W:=cQ 1 u8
theorem ud(F:ie K "reckoned" "Kept.reckoned" kP f fd)(O:Ow K mg) :cJ P w K mg base (gY P w) 1 f fd oM (ig K mg 1 fF):=
 bJ (k:=0) F nq rfl fun eP A outer s H E hr=>by have sc:=nq;walk_at "w"
def Uo:FS:=(aE (eW (dm (e2 hW (bh cP (aa (af 0) aw)) (eI 0))) (cn (eI 0)) bI) (cn (e2 bp (af 0) (e2 gH (af 1) (bh cP (aa (af 0) aw))))))
def nr:List W->List am->R W:=cQ 2 Uo
theorem Qx(F:ie K "_law_cell" "_law_cell" HQ f fd)(B:Bl mg) :cJ P w K mg base (gY P w) 1 f fd MO (ig K mg 2 nr):=
 bJ (k:=0) F HR rfl fun eP A outer s H E hr=>by have sc:=HR;walk_at "w"
def Uq:FS:=(aE (a9 3 (e2 gH (e2 ik (e2 cq (e2 cq (e2 cq (af 0) (e2 ik (e2 ik (eI 7) (af 1)) (af 1))) (e2 ik (eI 13) (af 1))) (af 2)) (eI 69621)) (eI 2147483647))) (cn (e2 gH (e2 ik (e2 gH (e2 cq (e2 cq (e2 ik (af 3) (e2 cq (e2 uD (af 3) (eI 1009)) (eI 3))) (e2 ik (eI 31) (af 1))) (af 2)) (eI 2147483629)) (eI 48271)) (eI 1000000007))))
def Ba:List W->List am->R W:=cQ 4 Uq
theorem Qy(F:ie K "_law_mixed" "_law_mixed" HS f fd)  :cJ P w K mg base (gY P w) 1 f fd MP (ig K mg 3 Ba):=
 bJ (k:=0) F HU rfl fun eP A outer s H E hr=>by have sc:=HU;walk_at "w"
def Nd:FS:=(aE (a9 3 (jD aw)) (aE (a9 4 (eI 0)) (aE (eW (dm (e2 Pk (af 0) (e2 KZ (eI 10) (eI 18)))) (a9 4 (af 0)) bI) (aE (lv (dr (aa (af 1) aw)) (iP 5) (eW (dm (e2 wT (af 4) (eI 0))) (aE (cv (jR bv (af 3) (aa (e2 gH (af 4) (eI 64)) aw))) (a9 4 (e2 uD (af 4) (eI 64)))) (cv (jR bv (af 3) (aa (bQ 3 Ba (aa (af 0) (aa (af 5) #[19]))) aw))))) (cn (af 3))))))
def ky:List W->List am->R W:=cQ 6 Nd
theorem Qz(F:ie K "_law_draws" "_law_draws" HV f fd)(B:Bl mg)(NO:cN P w K mg base 1 "_law_mixed" 3 Ba):cJ P w K mg base (gY P w) 2 f fd MQ (ig K mg 3 ky):=
 bJ (k:=1) F HW rfl fun eP A outer s H E hr=>by have sc:=HW;walk_at "w"
def Bb(U_:List W->List am->R W):FS:=(aE (eW (dm (vX "tuple" (af 1))) (aE (eW (E5 (zY (dm (vX "tuple" (af 0)))) (dm (e2 Mm (bh cP (aa (af 0) aw)) (bh cP (aa (af 1) aw))))) (cn (eC (.bl false))) bI) (aE (lv (dr (aa (bh cP (aa (af 1) aw)) aw)) (iP 2) (eW (zY (dm (bQ 2 U_ (aa (e2 bp (af 0) (af 2)) (aa (e2 bp (af 1) (af 2)) aw))))) (cn (eC (.bl false))) bI)) (cn (eC (.bl true))))) bI) (aE (eW (dm (yS (af 1))) (cn (yS (af 0))) bI) (aE (eW (dm (vX "bool" (af 1))) (cn (Cq (vX "bool" (af 0)) (e2 hW (af 0) (af 1)))) bI) (aE (eW (dm (vX "int" (af 1))) (cn (Cq (vX "int" (af 0)) (Cq (KW (vX "bool" (af 0))) (e2 hW (af 0) (af 1))))) bI) (cn (Cq (vX "str" (af 0)) (e2 hW (af 0) (af 1))))))))
def jr:Nat->List W->List am->R W
 |0=>fun _ _=>.bad
 |k+1=>cQ 3 (Bb (jr k))
theorem D'{JN:Addr}{Rq:FuncData}(yC:ie K "_law_same" "_law_same" HX JN Rq)(BF:mg "_law_same"=some (.ref JN))(B:Bl mg) :∀k:Nat,cN P w K mg base (0+k) "_law_same" 2 (jr k)
 |0=>G1 (ps:=HY) yC BF rfl (fun _ _ _ _ _ _ us hl=>match us,hl with|[_,_],_=>rfl)
 |k+1=>by
  have Bw:=D' yC BF B  k
  exact yT (ps:=HY) yC BF rfl (fun _ _ _ _ _ _ us hl=>match us,hl with|[_,_],_=>rfl) (bJ (k:=0+k) yC HZ rfl fun eP A outer s H E hr=>by have sc:=HZ;walk_at "w")
def Nf:FS:=(aE (a9 3 (eC (.str [65,66,67,68,69,70,71,72,73,74,75,76,77,78,79,80,81,82,83,84,85,86,87,88,89,90,97,98,99,100,101,102,103,104,105,106,107,108,109,110,111,112,113,114,115,116,117,118,119,120,121,122]))) (aE (a9 4 (eC (.str []))) (aE (lv (gu (bQ 3 ky (aa (af 0) (aa (af 1) #[19])))) (iP 5) (aE (a9 6 (e2 gH (af 5) (bh cP (aa (af 3) aw)))) (aE (a9 4 (e2 cq (af 4) (e2 bp (af 3) (af 6)))) (a9 3 (e2 cq (q_ (af 3) gI (eG (af 6))) (q_ (af 3) (eG (e2 cq (af 6) (eI 1))) gI)))))) (cn (af 4)))))
def Bc:List W->List am->R W:=cQ 7 Nf
theorem QB(F:ie K "_law_pool" "_law_pool" H9 f fd)(B:Bl mg)(uR:cN P w K mg base 2 "_law_draws" 3 ky):cJ P w K mg base (gY P w) 3 f fd MR (ig K mg 3 Bc):=
 bJ (k:=2) F H_ rfl fun eP A outer s H E hr=>by have sc:=H_;walk_at "w"
def Ng:FS:=(cn (J5 oF (eC (.str [])) (aa (bh kL (aa (jo [none,some 0,some 1] (dr (aa (bh cP (aa (af 0) aw)) aw)) (iP 0) (dm (e2 hW (e2 GM (e2 Pg (af 2) (af 0)) (eI 1)) (eI 1))) (e2 bp (af 1) (af 0))) aw)) aw)))
def Ea:List W->List am->R W:=cQ 2 Ng
theorem QC(F:ie K "_law_marks" "_law_marks" Ia f fd)(B:Bl mg) :cJ P w K mg base (gY P w) 1 f fd MS (ig K mg 2 Ea):=
 bJ (k:=0) F Ib rfl fun eP A outer s H E hr=>by have sc:=Ib;walk_at "w"
def Nh:FS:=(aE (a9 2 (jD aw)) (aE (a9 3 (eI 0)) (aE (lv (gu (af 0)) (iP 4) (aE (a9 5 (e2 gH (af 4) (eI 4))) (aE (eW (dm (e2 wT (e2 uD (e2 cq (af 5) (eI 1)) (eI 2)) (af 3))) (a9 5 (eI 0)) bI) (aE (cv (jR bv (af 2) (aa (cZ (aa (af 5) (aa (bQ 2 Ea (aa (af 1) (aa (e2 gH (e2 uD (af 4) (eI 4)) (eI 16)) aw))) aw))) aw))) (a9 3 (e2 gp (e2 cq (af 3) (eI 1)) (e2 uD (e2 cq (af 5) (eI 1)) (eI 2)))))))) (aE (pM (dm (e2 wT (af 3) (eI 1))) (aE (cv (jR bv (af 2) (aa (cZ (aa (eI 3) (aa (e2 bp (e2 bp (af 2) (e2 gp (af 3) (eI 1))) (eI 1)) aw))) aw))) (a9 3 (e2 gp (af 3) (eI 1))))) (cn (bh ij #[19]))))))
def ya:List W->List am->R W:=cQ 6 Nh
theorem QD(F:ie K "_law_tree" "_law_tree" Ic f fd)(B:Bl mg)(NG:cN P w K mg base 1 "_law_marks" 2 Ea):cJ P w K mg base (gY P w) 2 f fd MU (ig K mg 2 ya):=
 bJ (k:=1) F Id rfl fun eP A outer s H E hr=>by have sc:=Id;walk_at "w"
def Ni:FS:=(aE (a9 1 (jD aw)) (aE (a9 2 (jD aw)) (aE (lv (dr (aa (bh cP (aa (af 0) aw)) aw)) (iP 3) (aE (a9 4 (eC .non)) (aE (a9 5 (eC .non)) (aE (eW (dm (e2 Pk (e2 bp (e2 bp (af 0) (af 3)) (eI 0)) (eI 2))) (a9 5 (jR m6 (af 1) aw)) bI) (aE (eW (dm (e2 hW (e2 gH (e2 bp (e2 bp (af 0) (af 3)) (eI 0)) (eI 2)) (eI 1))) (a9 4 (jR m6 (af 1) aw)) bI) (aE (cv (jR bv (af 2) (aa (cZ (aa (af 4) (aa (af 5) aw))) aw))) (cv (jR bv (af 1) (aa (af 3) aw))))))))) (cn (af 2)))))
def Eb:List W->List am->R W:=cQ 6 Ni
theorem QF(F:ie K "_law_links" "_law_links" Ie f fd)(B:Bl mg) :cJ P w K mg base (gY P w) 1 f fd MV (ig K mg 1 Eb):=
 bJ (k:=0) F Ig rfl fun eP A outer s H E hr=>by have sc:=Ig;walk_at "w"
def Nj:FS:=(aE (a9 4 (bh ij (aa (jo [none,some 3] (dr (aa (af 1) aw)) (iP 0) vR (e2 hW (e2 gH (e2 bp (af 1) (af 0)) (eI 2)) (eI 1))) aw))) (aE (a9 5 (jD aw)) (aE (a9 6 (af 1)) (aE (lv (dr (aa (e2 Av (eI 1) (bh cP (aa (af 0) aw))) aw)) (iP 7) (aE (a9 8 (jD aw)) (aE (lv (dr (aa (af 1) aw)) (iP 9) (aE (cv (jR bv (af 8) (aa (bh ij (aa (jo [none,some 2,some 3,some 6] (dr (aa (af 1) aw)) (iP 0) vR (e2 gH (e2 bp (af 2) (e2 cq (af 3) (af 0))) (af 1))) aw)) aw))) (a9 6 (e2 cq (af 6) (af 1))))) (cv (jR bv (af 5) (aa (bh ij (aa (af 8) aw)) aw)))))) (cn (cZ (aa (af 0) (aa (af 4) (aa (bh ij (aa (af 5) aw)) aw)))))))))
def Ec:List W->List am->R W:=cQ 10 Nj
theorem QH(F:ie K "_law_machine" "_law_machine" Ih f fd)(B:Bl mg) :cJ P w K mg base (gY P w) 1 f fd MW (ig K mg 4 Ec):=
 bJ (k:=0) F Ii rfl fun eP A outer s H E hr=>by have sc:=Ii;walk_at "w"
def Nk:FS:=(aE (a9 2 (eI 0)) (aE (lv (gu (af 0)) (iP 3) (a9 2 (e2 cq (e2 ik (eI 2) (af 2)) (bh x8 (aa (e2 (FQ false) (af 3) (af 1)) aw))))) (cn (af 2))))
def Be:List W->List am->R W:=cQ 4 Nk
theorem QJ(F:ie K "_law_letter" "_law_letter" Ij f fd)(B:Bl mg) :cJ P w K mg base (gY P w) 1 f fd MX (ig K mg 2 Be):=
 bJ (k:=0) F Ik rfl fun eP A outer s H E hr=>by have sc:=Ik;walk_at "w"
def Nl:FS:=(aE (a9 2 (jD aw)) (aE (a9 3 (jD aw)) (aE (lv (gu (af 1)) (Cv 2 (dN (iP 4) (dN (iP 5) mx))) (aE (a9 6 (eI 0)) (aE (a9 7 (eI 0)) (aE (eW (dm (e2 Pk (af 4) (eI 2))) (a9 7 (jR m6 (af 2) aw)) bI) (aE (eW (dm (e2 hW (e2 gH (af 4) (eI 2)) (eI 1))) (a9 6 (jR m6 (af 2) aw)) bI) (aE (cv (jR bv (af 2) (aa (e2 bp (e2 bp (e2 bp (e2 bp (af 0) (eI 2)) (bQ 2 Be (aa (e2 bp (af 0) (eI 0)) (aa (af 5) aw)))) (af 6)) (af 7)) aw))) (cv (jR bv (af 3) (aa (e2 bp (af 2) (vS (eI 1))) aw))))))))) (cn (af 3)))))
def yb:List W->List am->R W:=cQ 8 Nl
theorem QK(F:ie K "_law_run" "_law_run" Il f fd) (NH:cN P w K mg base 1 "_law_letter" 2 Be):cJ P w K mg base (gY P w) 2 f fd MY (ig K mg 2 yb):=
 bJ (k:=1) F Im rfl fun eP A outer s H E hr=>by have sc:=Im;walk_at "w"
def Nm:FS:=(aE (eW (dm (e2 hW (bh cP (aa (af 1) aw)) (eI 0))) (cn (e2 bp (e2 bp (af 0) (eI 1)) (eI 0))) bI) (cn (e2 bp (e2 bp (af 0) (eI 1)) (e2 bp (bQ 2 yb (aa (af 0) (aa (af 1) aw))) (vS (eI 1))))))
def Ed:List W->List am->R W:=cQ 2 Nm
theorem QL(F:ie K "_law_lets" "_law_lets" Io f fd)(B:Bl mg)(Ex:cN P w K mg base 2 "_law_run" 2 yb):cJ P w K mg base (gY P w) 3 f fd MZ (ig K mg 2 Ed):=
 bJ (k:=2) F Ip rfl fun eP A outer s H E hr=>by have sc:=Ip;walk_at "w"
def Nn:FS:=(aE (a9 1 (jD aw)) (aE (lv (gu (af 0)) (Cv 2 (dN (iP 2) (dN (iP 3) mx))) (aE (a9 4 (eI 1)) (aE (eW (dm (gs (af 2))) (a9 4 (e2 cq (af 4) (e2 bp (af 1) (af 2)))) bI) (aE (eW (dm (gs (af 3))) (a9 4 (e2 cq (af 4) (e2 bp (af 1) (af 3)))) bI) (cv (jR bv (af 1) (aa (af 4) aw))))))) (cn (af 1))))
def Ee:List W->List am->R W:=cQ 5 Nn
theorem QM(F:ie K "_law_sizes" "_law_sizes" Iq f fd)  :cJ P w K mg base (gY P w) 1 f fd M0 (ig K mg 1 Ee):=
 bJ (k:=0) F Ir rfl fun eP A outer s H E hr=>by have sc:=Ir;walk_at "w"
def Ur:FS:=(aE (a9 2 (bQ 1 Eb (aa (af 0) aw))) (aE (a9 3 (bQ 1 Ee #[19])) (aE (a9 4 (af 1)) (aE (eW (dm (gs (e2 bp (e2 bp (af 2) (af 1)) (eI 1)))) (a9 4 (e2 gp (af 1) (e2 bp (af 3) (e2 bp (e2 bp (af 2) (af 1)) (eI 1))))) bI) (aE (a9 5 (af 4)) (aE (eW (dm (gs (e2 bp (e2 bp (af 2) (af 1)) (eI 0)))) (a9 5 (e2 gp (af 4) (e2 bp (af 3) (e2 bp (e2 bp (af 2) (af 1)) (eI 0))))) bI) (cn (cZ (aa (af 5) (aa (af 4) aw))))))))))
def sB:List W->List am->R W:=cQ 6 Ur
theorem QN(F:ie K "_law_bounds" "_law_bounds" Iu f fd) (NX:cN P w K mg base 1 "_law_links" 1 Eb)(N3:cN P w K mg base 1 "_law_sizes" 1 Ee):cJ P w K mg base (gY P w) 2 f fd M1 (ig K mg 2 sB):=
 bJ (k:=1) F Iv rfl fun eP A outer s H E hr=>by have sc:=Iv;walk_at "w"
def Us:FS:=(aE (rd (bQ 2 sB (aa (af 0) (aa (af 1) aw))) (Cv 2 (dN (iP 4) (dN (iP 5) mx)))) (aE (a9 6 (q_ (af 0) (eG (af 4)) (eG (af 5)))) (aE (a9 7 (q_ (af 0) (eG (af 5)) (eG (af 1)))) (aE (eW (dm (e2 hW (af 2) (eC (.str [108,101,102,116])))) (a9 6 (af 3)) (a9 7 (af 3))) (aE (a9 8 (cZ (aa (e2 cq (bh x8 (aa (e2 wT (bh cP (aa (af 6) aw)) (eI 0)) aw)) (e2 ik (eI 2) (bh x8 (aa (e2 wT (bh cP (aa (af 7) aw)) (eI 0)) aw)))) (aa (e2 bp (e2 bp (af 0) (af 1)) (eI 1)) aw)))) (cn (e2 cq (e2 cq (e2 cq (e2 cq (q_ (af 0) gI (eG (af 4))) (af 6)) (af 7)) (cZ (aa (af 8) aw))) (q_ (af 0) (eG (e2 cq (af 1) (eI 1))) gI))))))))
def yc:List W->List am->R W:=cQ 9 Us
theorem QO(F:ie K "_law_branched" "_law_branched" Iw f fd)(B:Bl mg)(yr:cN P w K mg base 2 "_law_bounds" 2 sB):cJ P w K mg base (gY P w) 3 f fd M2 (ig K mg 4 yc):=
 bJ (k:=2) F Iy rfl fun eP A outer s H E hr=>by have sc:=Iy;walk_at "w"
def No:FS:=(aE (a9 1 (bQ 3 ky (aa (bQ 2 nr (aa (af 0) (aa (eI 0) aw))) (aa (eI 4) (aa (eI 100003) aw))))) (aE (a9 2 (bQ 3 Bc (aa (bQ 2 nr (aa (af 0) (aa (eI 1) aw))) (aa (eI 4) (aa (eI 200017) aw))))) (aE (a9 3 (e2 cq (eI 1) (e2 gH (e2 bp (af 1) (eI 0)) (eI 4)))) (aE (a9 4 (J5 oF (eC (.str [])) (aa (bh kL (aa (q_ (af 2) gI (eG (e2 gH (e2 bp (af 1) (eI 1)) (eI 3)))) aw)) aw))) (aE (eW (dm (e2 hW (af 3) (eI 4))) (a9 4 (q_ (af 4) gI (eG (eI 1)))) bI) (aE (a9 5 (e2 cq (af 3) (e2 ik (e2 ik (af 3) (af 3)) (e2 Av (eI 1) (bh cP (aa (af 4) aw)))))) (aE (a9 6 (bQ 4 Ec (aa (af 4) (aa (af 3) (aa (af 3) (aa (bQ 3 ky (aa (bQ 2 nr (aa (af 0) (aa (eI 2) aw))) (aa (af 5) (aa (eI 300007) aw)))) aw)))))) (aE (a9 7 (e2 gH (e2 bp (af 1) (eI 2)) (eI 8))) (aE (eW (dm (e2 hW (e2 gH (e2 bp (af 1) (eI 3)) (eI 4)) (eI 1))) (a9 7 (e2 gH (e2 bp (af 1) (eI 2)) (eI 41))) bI) (cn (cZ (aa (af 6) (aa (bQ 2 ya (aa (bQ 3 ky (aa (bQ 2 nr (aa (af 0) (aa (eI 3) aw))) (aa (af 7) (aa (eI 400009) aw)))) #[19])) #[19])))))))))))))
def Ef:List W->List am->R W:=cQ 8 No
theorem QP(F:ie K "_law_start" "_law_start" Iz f fd)(B:Bl mg)(yz:cN P w K mg base 1 "_law_cell" 2 nr)(uR:cN P w K mg base 2 "_law_draws" 3 ky)(NS:cN P w K mg base 1 "_law_machine" 4 Ec)(NP:cN P w K mg base 3 "_law_pool" 3 Bc)(EB:cN P w K mg base 2 "_law_tree" 2 ya):cJ P w K mg base (gY P w) 4 f fd M3 (ig K mg 1 Ef):=
 bJ (k:=3) F IA rfl fun eP A outer s H E hr=>by have sc:=IA;walk_at "w"
def Np:FS:=(aE (a9 5 (bQ 3 ky (aa (bQ 2 nr (aa (af 0) (aa (e2 cq (eI 4) (af 1)) aw))) (aa (eI 12) (aa (e2 cq (eI 500009) (e2 ik (eI 101) (af 1))) aw))))) (aE (a9 6 (bQ 2 ya (aa (q_ (af 5) (eG (eI 6)) (eG (e2 cq (eI 6) (e2 gH (e2 bp (af 5) (eI 5)) (eI 6))))) (aa (af 4) aw)))) (aE (a9 7 (e2 gH (e2 bp (af 5) (eI 0)) (af 2))) (aE (eW (dm (e2 hW (af 7) (eI 8))) (cn (cZ (aa (eC (.str [98,97,99,107])) aw))) bI) (aE (eW (dm (e2 hW (af 7) (eI 9))) (cn (cZ (aa (eC (.str [97,103,97,105,110])) aw))) bI) (aE (eW (E5 (dm (e2 hW (af 7) (eI 7))) (dm (e2 hW (bh cP (aa (af 3) aw)) (eI 0)))) (cn (cZ (aa (eC (.str [119,104,111,108,101])) (aa (af 6) aw)))) bI) (aE (a9 8 (e2 gH (e2 cq (e2 ik (eI 64) (e2 bp (af 5) (eI 1))) (e2 bp (af 5) (eI 2))) (bh cP (aa (af 3) aw)))) (aE (eW (dm (e2 Pj (af 7) (eI 4))) (cn (cZ (aa (e2 bp (jD (aa (eC (.str [112,117,116])) (aa (eC (.str [116,97,107,101])) aw))) (e2 uD (af 7) (eI 2))) (aa (af 8) (aa (e2 bp (af 4) (e2 gH (e2 bp (af 5) (eI 3)) (eI 4))) aw))))) bI) (cn (cZ (aa (eC (.str [98,114,97,110,99,104])) (aa (af 8) (aa (e2 bp (jD (aa (eC (.str [108,101,102,116])) (aa (eC (.str [114,105,103,104,116])) aw))) (e2 gH (e2 bp (af 5) (eI 4)) (eI 2))) (aa (af 6) aw))))))))))))))
def wu:List W->List am->R W:=cQ 9 Np
theorem QQ(F:ie K "_law_planned" "_law_planned" IB f fd)(B:Bl mg)(yz:cN P w K mg base 1 "_law_cell" 2 nr)(uR:cN P w K mg base 2 "_law_draws" 3 ky)(EB:cN P w K mg base 2 "_law_tree" 2 ya):cJ P w K mg base (gY P w) 3 f fd M4 (ig K mg 5 wu):=
 bJ (k:=2) F IC rfl fun eP A outer s H E hr=>by have sc:=IC;walk_at "w"
def Ut:FS:=(aE (eW (dm (e2 hW (e2 bp (af 1) (eI 0)) (eC (.str [119,104,111,108,101])))) (cn (e2 bp (af 1) (eI 1))) bI) (aE (eW (dm (e2 hW (e2 bp (af 1) (eI 0)) (eC (.str [98,114,97,110,99,104])))) (cn (bQ 4 yc (aa (af 0) (aa (e2 bp (af 1) (eI 1)) (aa (e2 bp (af 1) (eI 2)) (aa (e2 bp (af 1) (eI 3)) aw)))))) bI) (aE (rd (e2 bp (af 0) (e2 bp (af 1) (eI 1))) (Cv 2 (dN (iP 2) (dN (iP 3) mx)))) (aE (rd (jo [none,some 1] (gu (af 3)) (iP 0) (dm (e2 Mm (af 0) (e2 bp (af 1) (eI 2)))) (af 0)) (iP 3)) (aE (eW (dm (e2 hW (e2 bp (af 1) (eI 0)) (eC (.str [112,117,116])))) (cv (jR bv (af 3) (aa (e2 bp (af 1) (eI 2)) aw))) bI) (cn (e2 cq (e2 cq (q_ (af 0) gI (eG (e2 bp (af 1) (eI 1)))) (cZ (aa (cZ (aa (af 2) (aa (J5 oF (eC (.str [])) (aa (bh kL (aa (af 3) aw)) aw)) aw))) aw))) (q_ (af 0) (eG (e2 cq (e2 bp (af 1) (eI 1)) (eI 1))) gI))))))))
def qN:List W->List am->R W:=cQ 4 Ut
theorem QR(F:ie K "_law_changed" "_law_changed" ID f fd)(B:Bl mg)(Ev:cN P w K mg base 3 "_law_branched" 4 yc):cJ P w K mg base (gY P w) 4 f fd M5 (ig K mg 2 qN):=
 bJ (k:=3) F IE rfl fun eP A outer s H E hr=>by have sc:=IE;walk_at "w"
def yd:FS:=(aE (eW (dm (e2 hW (e2 bp (af 1) (eI 0)) (eC (.str [112,117,116])))) (cn (gJ "Kept" "put" 3 jf (af 0) (aa (e2 bp (af 1) (eI 1)) (aa (e2 bp (af 1) (eI 2)) aw)))) bI) (aE (eW (dm (e2 hW (e2 bp (af 1) (eI 0)) (eC (.str [116,97,107,101])))) (cn (gJ "Kept" "take" 3 iq (af 0) (aa (e2 bp (af 1) (eI 1)) (aa (e2 bp (af 1) (eI 2)) aw)))) bI) (aE (eW (dm (e2 hW (e2 bp (af 1) (eI 0)) (eC (.str [98,114,97,110,99,104])))) (cn (gJ "Kept" "branch" 4 fR (af 0) (aa (e2 bp (af 1) (eI 1)) (aa (e2 bp (af 1) (eI 2)) (aa (e2 bp (af 1) (eI 3)) aw))))) bI) (aE (eW (dm (e2 hW (e2 bp (af 1) (eI 0)) (eC (.str [119,104,111,108,101])))) (cn (gJ "Kept" "whole" 2 iG (af 0) (aa (e2 bp (af 1) (eI 1)) aw))) bI) (aE (eW (dm (e2 hW (e2 bp (af 1) (eI 0)) (eC (.str [98,97,99,107])))) (cn (gJ "Kept" "back" 1 iu (af 0) aw)) bI) (cn (gJ "Kept" "again" 1 gD (af 0) aw)))))))
def kz:List W->List am->R W:=cQ 2 yd
theorem QT(F:ie K "_law_doing" "_law_doing" IF f fd) (sP:hJ P w K mg base 8 "Kept" "again" 1 gD)(uS:hJ P w K mg base 8 "Kept" "back" 1 iu)(qS:hJ P w K mg base 9 "Kept" "branch" 4 fR)(wP:hJ P w K mg base 10 "Kept" "put" 3 jf)(uQ:hJ P w K mg base 10 "Kept" "take" 3 iq)(sQ:hJ P w K mg base 9 "Kept" "whole" 2 iG):cJ P w K mg base (gY P w) 11 f fd M6 (ig K mg 2 kz):=
 bJ (k:=10) F IG rfl fun eP A outer s H E hr=>by have sc:=IG;walk_at "w"
def Uu:FS:=(aE (lv (dr (aa (eI 3) aw)) (iP 4) (aE (a9 5 (e2 gH (e2 cq (af 3) (af 4)) (eI 3))) (aE (eW (wS (dm (e2 hW (af 5) (eI 0))) (zY (dm (bQ 2 (jr 40) (aa (gJ "Kept" "rooms_now" 1 gc (af 0) aw) (aa (bh ij (aa (bQ 2 yb (aa (af 1) #[19])) aw)) aw)))))) (cn (eC (.bl false))) bI) (aE (eW (wS (dm (e2 hW (af 5) (eI 1))) (zY (dm (bQ 2 (jr 40) (aa (gJ "Kept" "lets_now" 1 gO (af 0) aw) (aa (bQ 2 Ed (aa (af 1) #[19])) aw)))))) (cn (eC (.bl false))) bI) (eW (wS (dm (e2 hW (af 5) (eI 2))) (zY (dm (bQ 2 (jr 40) (aa (gJ "Kept" "tree_now" 1 gN (af 0) aw) #[19]))))) (cn (eC (.bl false))) bI))))) (cn (eC (.bl true))))
def qR:List W->List am->R W:=cQ 6 Uu
theorem QU(F:ie K "_law_stands" "_law_stands" IH f fd)(B:Bl mg)(oR:hJ P w K mg base 1 "Kept" "lets_now" 1 gO)(nF:hJ P w K mg base 1 "Kept" "rooms_now" 1 gc)(oP:hJ P w K mg base 1 "Kept" "tree_now" 1 gN)(N4:cN P w K mg base 3 "_law_lets" 2 Ed)(Ex:cN P w K mg base 2 "_law_run" 2 yb)(Bw:cN P w K mg base 40 "_law_same" 2 (jr 40)):cJ P w K mg base (gY P w) 41 f fd M7 (ig K mg 4 qR):=
 bJ (k:=40) F II rfl fun eP A outer s H E hr=>by have sc:=II;walk_at "w"
def Nq:FS:=(aE (a9 2 (eC .non)) (aE (CC (a9 2 (bQ 2 kz (aa (af 0) (aa (af 1) aw)))) qK 3 (a9 2 (cZ (aa (eC (.str [114,101,102,117,115,101,100])) (aa (vZ fQ (af 3)) (aa (vZ je (af 3)) (aa (vZ ip (af 3)) (aa (vZ fq (af 3)) (aa (vZ wl (af 3)) aw))))))))) (cn (af 2))))
def nu:List W->List am->R W:=cQ 4 Nq
theorem QV(F:ie K "_law_refused" "_law_refused" IJ f fd)(B:Bl mg)(C:Cls K mg)(JU:cN P w K mg base 11 "_law_doing" 2 kz):cJ P w K mg base (gY P w) 12 f fd M8 (ig K mg 2 nu):=
 bJ (k:=11) F wj rfl fun eP A outer s H E hr=>(km (sS 2 wj Mh) (km (PJ (i:=3) C.catch_TrunkError wj.nd rfl (Or.inl rfl) (fun _ _=>(jF (sS 2 wj (DW JU hr #[0] (d9 (eQ 0) (d9 (eQ 1) jC)))))) (fun _=>(jF (sS 2 wj (Ml (d9 GG (d9 (Tw B.isinstance B.ValueError Lx C.isi_ValueError (eQ 3)) (d9 (C.isi_NoPlace.elim fun _ h=>G9 B.isinstance h.1 h.2 (eQ 3)) (d9 (C.isi_TooGreat.elim fun _ h=>G9 B.isinstance h.1 h.2 (eQ 3)) (d9 (C.isi_NothingDone.elim fun _ h=>G9 B.isinstance h.1 h.2 (eQ 3)) (d9 (C.isi_t0.elim fun _ h=>h.elim fun _ h=>h.elim fun _ h=>h.elim fun _ h=>h.elim fun _ h=>h.elim fun _ h=>PM B.isinstance (.cons h.1 rfl #[3] (.cons h.2.1 rfl #[3] (.cons h.2.2.1 rfl #[3] (.cons h.2.2.2.1 rfl #[3] (.cons h.2.2.2.2.1 rfl #[3] (.cons h.2.2.2.2.2.1 rfl #[3] .nil)))))) h.2.2.2.2.2.2 (ag rfl) (eQ 3)) jC))))))))))) (jF (Cu (eQ 2)))))
def Uv:FS:=(aE (eW (dm (e2 hW (af 0) (eI 0))) (cn (cZ aw)) bI) (cn (bh ij (aa (e2 cq (jD (aa (cZ (aa (eI 0) (aa (eC (.str [81])) aw))) aw)) (jo [none] (dr (aa (e2 gp (af 0) (eI 1)) aw)) (iP 0) vR (cZ (aa (e2 cq (eI 1) (e2 gH (af 0) (eI 2))) (aa (eC (.str [])) aw))))) aw))))
def sC:List W->List am->R W:=cQ 1 Uv
theorem QW(F:ie K "_law_row_of" "_law_row_of" IK f fd)(B:Bl mg) :cJ P w K mg base (gY P w) 1 f fd M9 (ig K mg 1 sC):=
 bJ (k:=0) F IL rfl fun eP A outer s H E hr=>by have sc:=IL;walk_at "w"
def Nr:FS:=(aE (a9 5 (cZ (aa (eC (.str [114,101,102,117,115,101,100])) (aa (eC (.bl true)) (aa (eC (.bl true)) (aa (eC (.bl false)) (aa (eC (.bl false)) (aa (eC (.bl false)) aw)))))))) (aE (a9 6 (cZ (aa (eC (.str [114,101,102,117,115,101,100])) (aa (eC (.bl true)) (aa (eC (.bl false)) (aa (eC (.bl true)) (aa (eC (.bl false)) (aa (eC (.bl false)) aw)))))))) (aE (a9 7 (cZ (aa (eC (.str [114,101,102,117,115,101,100])) (aa (eC (.bl true)) (aa (eC (.bl false)) (aa (eC (.bl false)) (aa (eC (.bl true)) (aa (eC (.bl false)) aw)))))))) (aE (a9 8 (bh cP #[19])) (aE (a9 9 (bQ 3 ky (aa (bQ 2 nr (aa (af 0) (aa (e2 cq (eI 4) (af 1)) aw))) (aa (eI 4) (aa (e2 cq (eI 900001) (e2 ik (eI 101) (af 1))) aw))))) (aE (a9 10 (e2 bp (jD (aa (vS (eI 1)) (aa (af 8) (aa (e2 cq (af 8) (eI 7)) (aa (e2 gp (vS (af 8)) (eI 1)) (aa (e2 cq (af 8) (e2 KZ (eI 10) (eI 20))) aw)))))) (e2 gH (e2 bp (af 9) (eI 0)) (eI 5)))) (aE (a9 11 (e2 bp (jD (aa (eC (.str [108,101,102,116])) (aa (eC (.str [114,105,103,104,116])) aw))) (e2 gH (e2 bp (af 9) (eI 1)) (eI 2)))) (aE (a9 12 (jD (aa (cZ (aa (cZ (aa (eC (.str [112,117,116])) (aa (af 10) (aa (eC (.str [98])) aw)))) (aa (af 5) aw))) (aa (cZ (aa (cZ (aa (eC (.str [116,97,107,101])) (aa (af 10) (aa (eC (.str [98])) aw)))) (aa (af 5) aw))) (aa (cZ (aa (cZ (aa (eC (.str [112,117,116])) (aa (vS (eI 1)) (aa (eC (.str [90])) aw)))) (aa (af 5) aw))) aw))))) (aE (cv (jR bv (af 12) (aa (cZ (aa (cZ (aa (eC (.str [116,97,107,101])) (aa (af 8) (aa (eC (.str [90])) aw)))) (aa (af 5) aw))) aw))) (aE (cv (jR bv (af 12) (aa (cZ (aa (cZ (aa (eC (.str [98,114,97,110,99,104])) (aa (af 10) (aa (af 11) (aa (cZ aw) aw))))) (aa (af 5) aw))) aw))) (aE (cv (jR bv (af 12) (aa (cZ (aa (cZ (aa (eC (.str [98,114,97,110,99,104])) (aa (af 10) (aa (af 11) (aa (bQ 1 sC (aa (eI 100) aw)) aw))))) (aa (af 5) aw))) aw))) (aE (eW (dm (e2 wT (af 8) (eI 0))) (aE (a9 13 (e2 gH (e2 bp (af 9) (eI 2)) (af 8))) (aE (rd (bQ 2 sB (aa (af 2) (aa (af 13) aw))) (Cv 2 (dN (iP 14) (dN (iP 15) mx)))) (aE (a9 16 (e2 gp (af 15) (af 14))) (aE (eW (dm (e2 hW (af 11) (eC (.str [114,105,103,104,116])))) (a9 16 (e2 gp (af 13) (af 15))) bI) (cv (jR bv (af 12) (aa (cZ #[23]) aw))))))) bI) (aE (eW (dm (e2 hW (bh cP (aa (af 3) aw)) (eI 0))) (cv (jR bv (af 12) (aa (cZ (aa (cZ (aa (eC (.str [98,97,99,107])) aw)) (aa (af 7) aw))) aw))) bI) (aE (eW (dm (e2 hW (bh cP (aa (af 4) aw)) (eI 0))) (cv (jR bv (af 12) (aa (cZ (aa (cZ (aa (eC (.str [97,103,97,105,110])) aw)) (aa (af 7) aw))) aw))) bI) (cn (af 12))))))))))))))))
def yf:List W->List am->R W:=cQ 17 Nr
theorem QX(F:ie K "_law_bad" "_law_bad" IM f fd)(B:Bl mg)(yr:cN P w K mg base 2 "_law_bounds" 2 sB)(yz:cN P w K mg base 1 "_law_cell" 2 nr)(uR:cN P w K mg base 2 "_law_draws" 3 ky)(Ew:cN P w K mg base 1 "_law_row_of" 1 sC):cJ P w K mg base (gY P w) 3 f fd M_ (ig K mg 5 yf):=
 bJ (k:=2) F IN rfl fun eP A outer s H E hr=>by have sc:=IN;walk_at "w"
def Uw:FS:=(aE (a9 5 (gJ "Kept" "reckoned" 1 fF (af 0) aw)) (aE (lv (gu (af 3)) (Cv 2 (dN (iP 6) (dN (iP 7) mx))) (aE (eW (zY (dm (bQ 2 (jr 40) (aa (bQ 2 nu (aa (af 0) (aa (af 6) aw))) (aa (af 7) aw))))) (cn (eC (.bl false))) bI) (eW (E5 (zY (dm (bQ 4 qR (aa (af 0) (aa (af 1) (aa (af 2) (aa (af 4) aw))))))) (zY (dm (bQ 2 (jr 40) (aa (gJ "Kept" "reckoned" 1 fF (af 0) aw) (aa (af 5) aw)))))) (cn (eC (.bl false))) bI))) (cn (eC (.bl true)))))
def yg:List W->List am->R W:=cQ 8 Uw
theorem QY(F:ie K "_law_stays" "_law_stays" IO f fd) (oO:hJ P w K mg base 1 "Kept" "reckoned" 1 fF)(yB:cN P w K mg base 12 "_law_refused" 2 nu)(Bw:cN P w K mg base 40 "_law_same" 2 (jr 40))(yw:cN P w K mg base 41 "_law_stands" 4 qR):cJ P w K mg base (gY P w) 42 f fd M' (ig K mg 5 yg):=
 bJ (k:=41) F IP rfl fun eP A outer s H E hr=>by have sc:=IP;walk_at "w"
def Nt:FS:=(aE (eW (dm (e2 hW (bh cP #[19]) (eI 0))) (cn (eC (.bl true))) bI) (aE (rd (bQ 2 sB (aa (af 2) (aa (e2 gp (bh cP #[19]) (eI 1)) aw))) (Cv 2 (dN (iP 3) (dN (iP 4) mx)))) (aE (a9 5 (bQ 1 sC (aa (e2 gp (e2 cq (e2 gp (eI 100) (bh cP #[19])) (af 4)) (af 3)) aw))) (aE (eW (dm (gs (bQ 2 nu (aa (af 0) (aa (cZ (aa (eC (.str [98,114,97,110,99,104])) (aa (e2 gp (bh cP #[19]) (eI 1)) (aa (eC (.str [108,101,102,116])) (aa (af 5) aw))))) aw))))) (cn (eC (.bl false))) bI) (cn (bQ 4 qR (aa (af 0) (aa (af 1) (aa (bQ 4 yc (aa (af 2) (aa (e2 gp (bh cP #[19]) (eI 1)) (aa (eC (.str [108,101,102,116])) (aa (af 5) aw))))) (aa (eI 2) aw))))))))))
def Eg:List W->List am->R W:=cQ 6 Nt
theorem QZ(F:ie K "_law_filled_up" "_law_filled_up" IQ f fd)(B:Bl mg)(yr:cN P w K mg base 2 "_law_bounds" 2 sB)(Ev:cN P w K mg base 3 "_law_branched" 4 yc)(yB:cN P w K mg base 12 "_law_refused" 2 nu)(Ew:cN P w K mg base 1 "_law_row_of" 1 sC)(yw:cN P w K mg base 41 "_law_stands" 4 qR):cJ P w K mg base (gY P w) 42 f fd Na (ig K mg 3 Eg):=
 bJ (k:=41) F IR rfl fun eP A outer s H E hr=>by have sc:=IR;walk_at "w"
def Nu:FS:=(aE (rd (bQ 1 Ef (aa (af 0) aw)) (Cv 3 (dN (iP 1) (dN (iP 2) (dN (iP 3) mx))))) (aE (a9 4 (D3 "Kept" 3 gM (aa (af 1) #[19]))) (aE (a9 5 (jD aw)) (aE (a9 6 (jD aw)) (aE (lv (dr (aa (bh E9 (aa (eI 16) (aa (bh Cr (aa (eI 3) (aa (e2 gp (bh cP (aa (af 0) aw)) (eI 4)) aw))) aw))) aw)) (iP 7) (aE #[17] (aE (a9 8 (bQ 5 wu (aa (af 0) (aa (af 7) (aa (eI 10) (aa (af 2) (aa (af 3) aw))))))) (aE (eW (wS (dm (e2 hW (e2 bp (af 8) (eI 0)) (eC (.str [98,97,99,107])))) (dm (e2 wT (bh cP (aa (af 5) aw)) (eI 0)))) (aE (cv (jR bv (af 6) #[19])) (a9 2 (jR m6 (af 5) aw))) (eW (wS (dm (e2 hW (e2 bp (af 8) (eI 0)) (eC (.str [97,103,97,105,110])))) (dm (e2 wT (bh cP (aa (af 6) aw)) (eI 0)))) (aE (cv (jR bv (af 5) #[19])) (a9 2 (jR m6 (af 6) aw))) (eW (wS (dm (e2 wT (bh cP (aa (af 8) aw)) (eI 1))) (dm (e2 Fc (bh cP (aa (bQ 2 qN (aa (af 2) (aa (af 8) aw))) aw)) (eI 100)))) (aE (cv (jR bv (af 5) #[19])) (aE (a9 6 (jD aw)) (a9 2 (bQ 2 qN (aa (af 2) (aa (af 8) aw)))))) GR))) #[24])))) (cn (bQ 3 Eg (aa (af 4) (aa (af 1) #[19])))))))))
def f_q46:List W->List am->R W:=cQ 9 Nu
theorem Q0(F:ie K "law" "law" su f fd)(B:Bl mg)(oQ:Lq P w K mg base 4 "Kept" 3 gM)(NU:cN P w K mg base 3 "_law_bad" 5 yf)(NT:cN P w K mg base 4 "_law_changed" 2 qN)(NE:cN P w K mg base 42 "_law_filled_up" 3 Eg)(NN:cN P w K mg base 3 "_law_planned" 5 wu)(yB:cN P w K mg base 12 "_law_refused" 2 nu)(yw:cN P w K mg base 41 "_law_stands" 4 qR)(N2:cN P w K mg base 4 "_law_start" 1 Ef)(N1:cN P w K mg base 42 "_law_stays" 5 yg):cJ P w K mg base (gY P w) 43 f fd IS (ig K mg 1 f_q46):=
 bJ (k:=42) F IT rfl fun eP A outer s H E hr=>by have sc:=IT;walk_at "w"
end
noncomputable abbrev lO(n:Nat):Option W:=some (.loc n)
noncomputable abbrev iO(q:Int):Option W:=some (.int q)
theorem Q1(ns:List α)(hl:0<ns.length)(k:Int):∃c∈ns,tz ns (k%((ns.length:Nat):Int))=some c:=by
 have h0:0<=k%((ns.length:Nat):Int):=jb _ #[0]
 have h1:k%((ns.length:Nat):Int)<ns.length:=me _ #[0]
 obtain⟨m,hm⟩:=Int.eq_ofNat_of_zero_le h0
 rw[hm]at h1 ⊢
 have h2:m<ns.length:=by omega
 exact⟨ns[m],dH _,fP (by simp[h2])⟩
theorem qr(h:st[n]?=some (.ro (ns.map W.int)))(k:Int):∃c,nr [.loc n,.int k] st=.ok (.int c) st:=by
 by_cases hn:ns=[]
 ·subst hn
  refine⟨0,?_⟩
  apply qo;apply rk;apply cC
  ·(repeat' (first|with_reducible exact iR (r9 h)|walk_at "ev1"))
  ·(walk_at "evs")
 ·have hl:0<ns.length:=List.length_pos_iff.mpr hn
  obtain⟨c,hc,e⟩:=Q1 (ns.map W.int) (by simpa using hl) k
  obtain⟨c,_,rfl⟩:=cV.mp hc
  refine⟨c,?_⟩
  apply qo;apply cr
  ·apply bK
   ·(repeat' (first|with_reducible exact iR (r9 h)|walk_at "ev1"))
    rw[ba,az];omega
   ·(walk_at "evs")
  ·(repeat' (first|with_reducible exact iR (r9 h)|with_reducible exact jI (r9 h) e|walk_at "ev1"))
   rw[az];omega
theorem IY(c k s:Int)(hk:-(2^64)<k/\k<2^64)(st:List am):∃r,0<=r/\Ba [.int c,.int k,.int s] st=.ok (.int r) st:=by
 have big:∀q:Int,0<=q%2147483647/\q%2147483647<2147483647:=fun q=>⟨jb _ #[3],me _ #[3]⟩
 refine⟨(((c+7*k*k+13*k+s)*69621%2147483647*((c+7*k*k+13*k+s)*69621%2147483647/1009+3)+31*k+s)%2147483629*48271)%1000000007,jb _ #[3],?_⟩
 apply qo;apply cr
 ·(walk_at "evs")<;>first|exact .inl #[3]|exact .inr #[3]|exact .inr hk
 ·(walk_at "evs")<;>first|exact .inl #[3]|exact .inr #[3]|exact .inl (by have:=big ((c+7*k*k+13*k+s)*69621);omega)
theorem nv(c s:Int)(m:Nat)(hm:m<=1000)(st:List am):∃ds:List Int,ds.length=m/\(∀d∈ds,0<=d)/\ky [.int c,.int m,.int s] st=.ok #[4] (st++[.lst (ds.map W.int)]):=by
 suffices hh:jX (y9 fun w be=>∃j x,w=.loc (st.length+j)/\be=st++x/\j=0/\∃ds:List Int,x=[.lst (ds.map W.int)]/\ds.length=m/\∀d∈ds,0<=d) (Nd ([W.int c,.int m,.int s].map some++List.replicate (6-3) none) st) by
  obtain⟨j,x,⟨rfl,ds,rfl,h1,h2⟩,e⟩:=se hh
  exact⟨ds,h1,h2,e⟩
 apply av
 ·(walk_at "evs")
 apply av
 ·(walk_at "evs")
 have main:∀r0:Int,jX (y9 fun w be=>∃j x,w=.loc (st.length+j)/\be=st++x/\j=0/\∃ds:List Int,x=[.lst (ds.map W.int)]/\ds.length=m/\∀d∈ds,0<=d)
   (aE (lv (dr (aa (af 1) aw)) (iP 5) (eW (dm (e2 wT (af 4) (eI 0))) (aE (cv (jR bv (af 3) (aa (e2 gH (af 4) (eI 64)) aw))) (a9 4 (e2 uD (af 4) (eI 64)))) (cv (jR bv (af 3) (aa (bQ 3 Ba (aa (af 0) (aa (af 5) #[19]))) aw))))) (cn (af 3))
   [some (.int c),some (.int m),some (.int s),some #[4],some (.int r0),none] (st++[.lst []])):=by
  intro r0
  refine fJ (fun i ρ be=>∃(r:Int) (o:Option W) (ds:List Int),ρ=[some (.int c),some (.int m),some (.int s),some #[4],some (.int r),o]/\be=st++[.lst (ds.map W.int)]/\ds.length=i/\∀d∈ds,0<=d) (iY (by(walk_at "evs");rfl) #[0])
   ⟨r0,none,[],rfl,rfl,rfl,by simp⟩ (fun _ _ _ _=>trivial) ?_ ?_
  ·rintro i w ρ be hw ⟨r,o,ds,rfl,rfl,hd,h⟩
   obtain⟨hi,rfl⟩:=jY hw
   refine⟨_,rfl,?_⟩
   have h_:(st++[am.lst (ds.map W.int)])[st.length]?=some (.lst (ds.map W.int)):=by rw[dE];rfl
   have hsh:(ds.map W.int).length<m5:=by rw[az,hd];show i<1000000;omega
   by_cases hr:0<r
   ·apply pS
    ·(walk_at "evs");simpa using hr
    apply av
    ·(repeat' (first|with_reducible exact c6 h_|with_reducible exact oG h_ hsh|walk_at "ev1"))
    rw[fE]
    apply c8
    ·(walk_at "evs")
    ·refine⟨_,_,rfl,r/64,_,ds++[r%64],rfl,by simp,by simp[hd],fun d hd'=>?_⟩
     rcases aP.mp hd' with hd'|hd'
     ·exact h d hd'
     ·rw[aT.mp hd'];exact jb _ #[3]
   ·obtain⟨q,hq,e⟩:=IY c (0+i) s #[0] (st++[am.lst (ds.map W.int)])
    apply lE
    ·(walk_at "evs");simpa using hr
    apply c8
    ·(repeat' (first|with_reducible exact c6 h_|with_reducible exact oG h_ hsh|with_reducible exact e|walk_at "ev1"))
    ·refine⟨_,_,rfl,r,_,ds++[q],rfl,by rw[fE];simp,by simp[hd],fun d hd'=>?_⟩
     rcases aP.mp hd' with hd'|hd'
     ·exact h d hd'
     ·rw[aT.mp hd'];exact hq
  ·rintro ρ be ⟨r,o,ds,rfl,rfl,hd,h⟩
   apply bH
   ·(walk_at "evs")
   ·exact⟨_,_,rfl,0,_,rfl,rfl,rfl,ds,rfl,by rw[hd];simpa using ef 0 m,h⟩
 by_cases hc:(10:Int)^18<=c
 ·apply av
  ·apply cC
   ·(walk_at "evs")<;>simpa using hc
   ·(walk_at "evs")
  ·exact main c
 ·apply av
  ·apply bK
   ·(walk_at "evs")<;>simpa using hc
   ·(walk_at "evs")
  ·exact main 0
noncomputable abbrev LL:List Nat:=[65,66,67,68,69,70,71,72,73,74,75,76,77,78,79,80,81,82,83,84,85,86,87,88,89,90,97,98,99,100,101,102,103,104,105,106,107,108,109,110,111,112,113,114,115,116,117,118,119,120,121,122]
theorem LB(c s:Int)(m:Nat)(hm:m<=52)(st:List am):∃l:List Nat,l.length=m/\l.Nodup/\(∀d∈l,d∈LL)/\Bc [.int c,.int m,.int s] st=.ok (.str l) st:=by
 suffices hh:jX (y9 fun w be=>(∃x,be=st++x)/\undWs st.length [w]=true/\∃l:List Nat,w=.str l/\l.length=m/\l.Nodup/\∀d∈l,d∈LL) (Nf ([W.int c,.int m,.int s].map some++List.replicate (7-3) none) st) by
  obtain⟨w,⟨l,rfl,h1,h2,h3⟩,e⟩:=r_ hh
  exact⟨l,h1,h2,h3,e⟩
 obtain⟨ds,h1,h2,e⟩:=nv c s m #[0] st
 apply av
 ·(walk_at "evs")
 apply av
 ·(walk_at "evs")
 have h_:lstOf (st++[am.lst (ds.map W.int)]) st.length=some (ds.map W.int):=bB (by rw[dE];rfl)
 refine fJ (fun i ρ be=>∃(r f:List Nat) (o o2:Option W),ρ=[iO c,iO m,iO s,some (.str r),some (.str f),o,o2]/\be=st++[.lst (ds.map W.int)]/\f.length=i/\r.length+i=52/\(f++r).Perm LL) (vf (by(repeat' (first|with_reducible exact e|walk_at "ev1"))) h_)
  ⟨LL,[],none,none,rfl,rfl,rfl,rfl,.refl _⟩ (fun i ρ be h=>?_) ?_ ?_
 ·obtain⟨r,f,o,o2,rfl,rfl,_⟩:=h
  exact h_
 ·rintro i w ρ be hw ⟨r,f,o,o2,rfl,rfl,hf,hr,hfl⟩
  obtain⟨d,hd,rfl⟩:∃d,ds[i]?=some d/\w=.int d:=by
   simp only[aC,eY]at hw
   obtain⟨d,h1,rfl⟩:=hw
   exact⟨d,h1,rfl⟩
  have hi:i<m:=by rw[<- h1];exact(ar.mp hd).1
  obtain⟨q,hq,eq⟩:=fY (q:=d) (n:=r.length) #[0]
  have hL:r.length<=m5:=by show _<=1000000;omega
  have hLf:f.length<=m5:=by show _<=1000000;omega
  have hat:tz r (d%(r.length:Int))=some r[q]:=by rw[eq];exact fP (by simp[hq])
  refine⟨_,rfl,?_⟩
  apply av
  ·(repeat' (first|with_reducible exact y6 hL|walk_at "ev1"))
   show 0<(r.length:Int);omega
  apply av
  ·have ha:f.length+[r[q]].length<=m5:=by show _+1<=1000000;omega
   (repeat' (first|with_reducible exact Hf hL hat|with_reducible exact CG ha|walk_at "ev1"))
  apply c8
  ·(repeat' (first|with_reducible exact Hg hL|walk_at "ev1"))
   rw[eq,nS #[0],show((q:Int)+1)=((q+1:Nat):Int)from rfl,sf #[0],aJ,b8]
   show _<=1000000;omega
  ·refine⟨_,_,rfl,_,_,_,_,rfl,rfl,by simp[hf],?_,?_⟩
   ·rw[eq,nS #[0],show((q:Int)+1)=((q+1:Nat):Int)from rfl,sf #[0],ah,aJ,b8]
    omega
   ·rw[eq,nS #[0],show((q:Int)+1)=((q+1:Nat):Int)from rfl,sf #[0]]
    refine List.Perm.trans ?_ hfl
    rw[aj]
    refine pw f ?_
    have e:r=r.take q++r[q]::r.drop (q+1):=by rw[<- fD hq,List.take_append_drop]
    have e2:(r[q]::(r.take q++r.drop (q+1))).Perm r:=(List.perm_middle.symm).trans (by rw[<- e])
    exact e2
 ·rintro ρ be ⟨r,f,o,o2,rfl,rfl,hf,hr,hfl⟩
  apply bH
  ·(walk_at "evs")
  ·exact⟨_,_,rfl,⟨_,rfl⟩,rfl,f,rfl,by rw[hf];simpa using h1,(mJ.mp (hfl.nodup_iff.mpr #[3])).1,fun d hd=>hfl.mem_iff.mp (bz _ hd)⟩
structure Pl where
 b:Nat
 m:List Nat
noncomputable def Pl.w(p:Pl):W:=.tup [.int p.b,.str p.m]
def bw(t:List Pl):W:=.tup (t.map Pl.w)
inductive St(n:Nat):List Nat->Nat->List Nat->Nat->Option Nat×Option Nat->Prop
 |z {S:List Nat}:St n S 0 (1::S) 1 (none,none)
 |l {a:Nat} {S:List Nat}:St n (a::S) 1 ((1+a)::S) (1+a) (some (n-1),none)
 |r {a:Nat} {S:List Nat}:St n (a::S) 2 ((1+a)::S) (1+a) (none,some (n-1))
 |b {c a:Nat} {S:List Nat}:St n (c::a::S) 3 ((1+c+a)::S) (1+c+a) (some (n-1-c),some (n-1))
inductive Gr:List Pl->List Nat->List Nat->List #[9]->Prop
 |nil:Gr [] [] [] []
 |snoc {ps:List Pl} {S S' sz:List Nat} {lk:List (Option Nat×Option Nat)} {b k:Nat} {m:List Nat} {x:Option Nat×Option Nat}:Gr ps S sz lk->St ps.length S b S' k x->Gr (ps++[⟨b,m⟩]) S' (sz++[k]) (lk++[x])
def At(sz:List Nat):List Nat->Nat->Prop
 |[],n=>n=0
 |a::S,n=>sz[n-1]?=some a/\a<=n/\1<=a/\At sz S (n-a)
theorem At.app{sz x:List Nat}:∀{S:List Nat} {n:Nat},n<=sz.length->At sz S n->At (sz++x) S n
 |[],_,_,h=>h
 |a::S,n,hn,⟨h1,h2,h3,h4⟩=>⟨by rw[aH (by omega)];exact h1,h2,h3,At.app (by omega) h4⟩
theorem St.at'{sz S':List Nat}{b:Nat}{x:Option Nat×Option Nat}(h:St n S b S' k x)(hn:sz.length=n)(ha:At sz S n):At (sz++[k]) S' (n+1):=by
 have hk:(sz++[k])[n+1-1]?=some k:=by rw[Nat.add_sub_cancel,<- hn];simp
 cases h with
 |z=>exact⟨hk,by omega,by omega,by rw[Nat.add_sub_cancel];exact ha.app (by omega)⟩
 |@l a S=>exact⟨hk,by have:=ha.2.1;omega,by omega,by rw[show n+1-(1+a)=n-a by omega];exact ha.2.2.2.app (by omega)⟩
 |@r a S=>exact⟨hk,by have:=ha.2.1;omega,by omega,by rw[show n+1-(1+a)=n-a by omega];exact ha.2.2.2.app (by omega)⟩
 |@b c a S=>exact⟨hk,by have:=ha.2.1;have:=ha.2.2.2.2.1;omega,by omega,by rw[show n+1-(1+c+a)=n-c-a by omega];exact ha.2.2.2.2.2.2.app (by omega)⟩
theorem Gr.ok{ps:List Pl}{sz:List Nat}{lk:List #[9]}(h:Gr ps S sz lk):sz.length=ps.length/\lk.length=ps.length/\At sz S ps.length:=by
 induction h with
 |nil=>exact⟨rfl,rfl,rfl⟩
 |snoc _ hs ih=>
  obtain⟨h1,h2,h3⟩:=ih
  exact⟨by simp[h1],by simp[h2],by rw[ah];exact hs.at' h1 h3⟩
theorem Gr.step{ps:List Pl}{sz:List Nat}{lk:List #[9]}(h:Gr ps S sz lk):∀i,i<ps.length->∃S1 S2 p k x,Gr (ps.take i) S1 (sz.take i) (lk.take i)/\ps[i]?=some p/\sz[i]?=some k/\lk[i]?=some x/\St i S1 p.b S2 k x/\Gr (ps.take (i+1)) S2 (sz.take (i+1)) (lk.take (i+1)):=by
 induction h with
 |nil=>intro i hi;simp at hi
 |@snoc ps S S' sz lk b k m x hg hs ih=>
  intro i hi
  obtain⟨l1,l2,_⟩:=hg.ok
  by_cases e:i=ps.length
  ·subst e
   refine⟨S,S',⟨b,m⟩,k,x,?_,by simp,by rw[<- l1];simp,by rw[<- l2];simp,hs,?_⟩
   ·rw[gn,<- l1,gn]
    rw[l1,<- l2,gn];exact hg
   ·rw[bD #[15],bD (by simp[l1]),bD (by simp[l2])]
    exact .snoc hg hs
  ·have hi':i<ps.length:=by simp at hi;omega
   obtain⟨S1,S2,p,k1,x1,g1,q1,q2,q3,hs1,g2⟩:=ih i hi'
   refine⟨S1,S2,p,k1,x1,?_,by rw[aH hi'];exact q1,by rw[aH #[0]];exact q2,by rw[aH #[0]];exact q3,hs1,?_⟩
   ·rw[cm #[0],cm #[0],cm #[0]];exact g1
   ·rw[cm #[0],cm #[0],cm #[0]];exact g2
theorem Gr.cut{ps:List Pl}{sz:List Nat}{lk:List #[9]}(h:Gr ps S sz lk)(hi:i<ps.length):∃(p:Pl) (L R:Nat),ps[i]?=some p/\sz[i]?=some (1+L+R)/\L+R<=i/\p.b<=3/\(0<L↔p.b%2=1)/\(0<R↔2<=p.b)/\(2<=p.b->1<=i/\sz[i-1]?=some R):=by
 obtain⟨S1,S2,p,k,x,g1,q1,q2,q3,hs,_⟩:=h.step i hi
 obtain⟨l1,l2,ha⟩:=g1.ok
 have fX:(ps.take i).length=i:=by rw[aJ];omega
 rw[fX]at ha
 obtain⟨b,m⟩:=p
 have get:∀j a,1<=i->j=i-1->(sz.take i)[j]?=some a->sz[j]?=some a:=fun j a hi1 hj e=>by
  rw[cD #[0]]at e;exact e
 cases hs with
 |z=>exact⟨⟨0,m⟩,0,0,q1,q2,by omega,by simp,by simp,by simp,by simp⟩
 |@l a S=>
  have ha1:(sz.take i)[i-1]?=some a:=ha.1
  have ha2:a<=i:=ha.2.1
  have ha3:1<=a:=ha.2.2.1
  exact⟨⟨1,m⟩,a,0,q1,q2,by omega,by simp,by simp;omega,by simp,by simp⟩
 |@r a S=>
  have ha1:(sz.take i)[i-1]?=some a:=ha.1
  have ha2:a<=i:=ha.2.1
  have ha3:1<=a:=ha.2.2.1
  exact⟨⟨2,m⟩,0,a,q1,by rw[q2],by omega,by simp,by simp,by simp;omega,fun _=>⟨by omega,get _ _ #[0] rfl ha1⟩⟩
 |@b c a S=>
  have ha1:(sz.take i)[i-1]?=some c:=ha.1
  have ha2:c<=i:=ha.2.1
  have ha3:1<=c:=ha.2.2.1
  have hb2:a<=i-c:=ha.2.2.2.2.1
  have hb3:1<=a:=ha.2.2.2.2.2.1
  exact⟨⟨3,m⟩,a,c,q1,by rw[q2];congr 1<;>omega,by omega,by simp,by simp;omega,by simp;omega,fun _=>⟨by omega,get _ _ #[0] rfl ha1⟩⟩
theorem Ux{b:Nat}(h:b<=3)(st:List am):FQ false (.int b) (.tup [.int 1,.int 3]) st=.ok (.bl (decide (b%2=1))) st:=by
 obtain rfl|rfl|rfl|rfl:b=0\/b=1\/b=2\/b=3:=by omega
 all_goals rfl
theorem Uy{b:Nat}(h:b<=3)(st:List am):FQ false (.int b) (.tup [.int 2,.int 3]) st=.ok (.bl (decide (2<=b))) st:=by
 obtain rfl|rfl|rfl|rfl:b=0\/b=1\/b=2\/b=3:=by omega
 all_goals rfl
theorem LC{p:Pl}(h:p.b<=3)(st:List am):A7 [p.w] st=.ok (.bl (decide (p.b%2=1))) st:=by
 have:=Ux h st
 have i0:bp p.w (.int 0) st=.ok (.int p.b) st:=rfl
 apply dY
 apply bH
 ·(walk_at "evs")
 ·exact⟨_,_,rfl,rfl,rfl⟩
theorem Bf{p:Pl}(h:p.b<=3)(st:List am):xl [p.w] st=.ok (.bl (decide (2<=p.b))) st:=by
 have:=Uy h st
 have i0:bp p.w (.int 0) st=.ok (.int p.b) st:=rfl
 apply dY
 apply bH
 ·(walk_at "evs")
 ·exact⟨_,_,rfl,rfl,rfl⟩
noncomputable def oW:Option Nat->W
 |none=>.non
 |some k=>.int k
def jg(x:Option Nat×Option Nat):W:=.tup [oW x.1,oW x.2]
noncomputable def jy:List Nat->Nat->List Nat
 |[],_=>[]
 |a::S,n=>(n-1)::jy S (n-a)
theorem iH:∀(S:List Nat) (n:Nat),(jy S n).length=S.length
 |[],_=>rfl
 |a::S,n=>by simp[jy,iH S]
theorem At.le{sz:List Nat}:∀{S:List Nat} {n:Nat},At sz S n->S.length<=n
 |[],_,_=>b7 _
 |a::S,n,⟨_,h2,h3,h4⟩=>by have:=At.le h4;simp;omega
theorem St.det{S1 S2:List Nat}{b k1 k2:Nat}{x1 x2:Option Nat×Option Nat}(h1:St n S b S1 k1 x1)(h2:St n S b S2 k2 x2):S1=S2/\k1=k2/\x1=x2:=by
 cases h1<;>cases h2<;>exact⟨rfl,rfl,rfl⟩
theorem Gr.det{ps:List Pl}{sz:List Nat}{lk:List #[9]}(h:Gr ps S sz lk):∀{VI:List Pl} {S' Ww:List Nat} {RJ:List #[9]},Gr VI S' Ww RJ->ps=VI->S=S':=by
 induction h with
 |nil=>
  intro VI S' Ww RJ h' e
  cases h' with
  |nil=>rfl
  |snoc _ _=>simp at e
 |snoc hg hs ih=>
  intro VI S' Ww RJ h' e
  cases h' with
  |nil=>simp at e
  |snoc hg' hs'=>
   have e2:=List.append_inj' e rfl
   have:=ih hg' e2.1
   subst this
   have e3:Pl.mk _ _=Pl.mk _ _:=List.head_eq_of_cons_eq e2.2
   injection e3 with eb em
   subst eb
   rw[<- e2.1]at hs'
   exact(hs.det hs').1
noncomputable def cO(l:List Nat):List W:=l.map fun k:Nat=>W.int k
section
variable{ps:List Pl}{sz:List Nat}{lk:List #[9]}
theorem sD(h:Gr ps S sz lk)(hn:ps.length<=1000)(st:List am):xn [bw ps] st=.ok (.tup (lk.map jg)) st:=by
 obtain⟨l1,l2,_⟩:=h.ok
 have hu:∀(l:List #[9]) (n:Nat),undWs n (l.map jg)=true:=by
  intro l n
  induction l with
  |nil=>rfl
  |cons x r ih=>
   obtain⟨a,b⟩:=x
   simp only[bt,undWs,ih,dg,jg,W.und]
   cases a<;>cases b<;>rfl
 refine eM (N:=7) (ws:=[bw ps]) (body:=T') ?_ (by simp[undWs,W.und,hu])
 apply av
 ·(walk_at "evs")
 apply av
 ·(walk_at "evs")
 rw[show(st++[am.lst []]).length=st.length+1 by simp,show st++[am.lst []]++[am.lst []]=st++[am.lst [],am.lst []] by simp]
 refine fJ (fun i ρ be=>∃(S1:List Nat) (o3 o4 o5 o6:Option W),ρ=[some (bw ps),some #[4],some (.loc (st.length+1)),o3,o4,o5,o6]/\be=st++[.lst ((lk.take i).map jg),.lst (cO (jy S1 i).reverse)]/\Gr (ps.take i) S1 (sz.take i) (lk.take i)/\i<=ps.length) (k:=(my (ps.map Pl.w),none))
  (by show re (aa (af 0) aw) _ _=_;unfold re;rfl) ⟨[],none,none,none,none,rfl,rfl,.nil,b7 _⟩ (fun _ _ _ _=>trivial) ?_ ?_
 ·rintro i w ρ be hw ⟨S1,o3,o4,o5,o6,rfl,rfl,hg,hi⟩
  obtain⟨y,hy,rfl⟩:=tP hw
  have hip:i<ps.length:=by have:=(ar.mp hy).1;simpa using this
  obtain⟨S1',S2,p,k,x,g1,q1,q2,q3,hs,g2⟩:=h.step i hip
  rw[aC,q1]at hy
  cases hy
  refine⟨_,rfl,?_⟩
  have hS:=hg.det g1 rfl
  subst hS
  obtain⟨lz,ll,ha⟩:=g1.ok
  have hti:(ps.take i).length=i:=by rw[aJ];omega
  rw[hti]at ha lz ll
  have hSl:=ha.le
  obtain⟨p',L,R,q1',q2',_,hb3,hL,hR,_⟩:=h.cut hip
  rw[q1]at q1';cases q1'
  have hlk:lk.take (i+1)=lk.take i++[x]:=by rw[jP,q3];rfl
  have hrt:=fun st=>Bf (p:=p) hb3 st
  have hlf:=fun st=>LC (p:=p) hb3 st
  have pop:∀(A:List W) (B:List Nat) (q:Nat),m6 (.loc (st.length+1)) [] (st++[.lst A,.lst (cO (q::B).reverse)])=.ok (.int q) (st++[.lst A,.lst (cO B.reverse)]):=fun A B q=>by
   have hc:(st++[am.lst A,.lst (cO (q::B).reverse)])[st.length+1]?=some (.lst (cO B.reverse++[.int q])):=by rw[gC];simp[cO]
   rw[v9 hc,lD];rfl
  have isl:∀(A:List W) (B:List W),ly (st++[.lst A,.lst B]) (.loc (st.length+1))=true:=fun A B=>c6 (by rw[gC];rfl)
  have isl0:∀(A:List W) (B:List W),ly (st++[.lst A,.lst B]) #[4]=true:=fun A B=>c6 (by rw[dE];rfl)
  have app:∀(A:List W) (B:List Nat) (q:Nat),B.length<1000->bv (.loc (st.length+1)) [.int q] (st++[.lst A,.lst (cO B.reverse)])=.ok .non (st++[.lst A,.lst (cO (q::B).reverse)]):=fun A B q hB=>by
   have hc:(st++[am.lst A,.lst (cO B.reverse)])[st.length+1]?=some (.lst (cO B.reverse)):=by rw[gC];rfl
   rw[oG hc (by simp[cO];show _<1000000;omega),lD]
   simp[cO]
  have app0:∀(B:List W) (w:W),bv #[4] [w] (st++[.lst ((lk.take i).map jg),.lst B])=.ok .non (st++[.lst ((lk.take i).map jg++[w]),.lst B]):=fun B w=>by
   have hc:(st++[am.lst ((lk.take i).map jg),.lst B])[st.length]?=some (.lst ((lk.take i).map jg)):=by rw[dE];rfl
   rw[oG hc (by simp;show _<1000000;omega),fE];rfl
  have j_:∀(o3 o4 o5 o6:Option W) (B:List Nat),B=jy S2 (i+1)->Ls (fun ρ be=>∃(S1:List Nat) (o3 o4 o5 o6:Option W),ρ=[some (bw ps),some #[4],some (.loc (st.length+1)),o3,o4,o5,o6]/\be=st++[.lst ((lk.take (i+1)).map jg),.lst (cO (jy S1 (i+1)).reverse)]/\Gr (ps.take (i+1)) S1 (sz.take (i+1)) (lk.take (i+1))/\i+1<=ps.length)
    (.nx [some (bw ps),some #[4],some (.loc (st.length+1)),o3,o4,o5,o6] (st++[.lst ((lk.take i).map jg++[jg x]),.lst (cO B.reverse)])):=by
   rintro o3 o4 o5 o6 B rfl
   exact⟨_,_,rfl,S2,_,_,_,_,rfl,by rw[hlk];simp,g2,by omega⟩
  obtain⟨b,m⟩:=p
  have hiS:∀T:List Nat,T.length<=i->(jy T i).length<1000:=fun T hT=>by rw[iH];omega
  cases hs with
  |@z=>
   have hr:xl [(Pl.mk 0 m).w]=fun st=>.ok (.bl false) st:=funext hrt
   have hl:A7 [(Pl.mk 0 m).w]=fun st=>.ok (.bl false) st:=funext hlf
   have a1:=app ((lk.take i).map jg) (jy S1 i) i (hiS _ hSl)
   have a2:=app0 (cO (i::jy S1 i).reverse) (.tup [.non,.non])
   apply av
   ·apply a8
    apply r6
    ·(repeat' (first|with_reducible exact mf hr _|walk_at "ev1"))
    ·(walk_at "evs")
   apply av
   ·apply a8
    apply r6
    ·(repeat' (first|with_reducible exact mf hl _|walk_at "ev1"))
    ·(walk_at "evs")
   apply av
   ·(repeat' (first|with_reducible exact isl _ _|walk_at "ev1"))
   apply c8
   ·(repeat' (first|with_reducible exact isl0 _ _|walk_at "ev1"))
   ·exact j_ _ _ _ _ (i::jy S1 i) rfl
  |@l a S=>
   have hr:xl [(Pl.mk 1 m).w]=fun st=>.ok (.bl false) st:=funext hrt
   have hl:A7 [(Pl.mk 1 m).w]=fun st=>.ok (.bl true) st:=funext hlf
   have hSl':S.length<=i:=by simp at hSl;omega
   have p1:=pop ((lk.take i).map jg) (jy S (i-a)) (i-1)
   have a1:=app ((lk.take i).map jg) (jy S (i-a)) i (by rw[iH];omega)
   have a2:=app0 (cO (i::jy S (i-a)).reverse) (.tup [.int (i-1:Nat),.non])
   apply av
   ·apply a8
    apply r6
    ·(repeat' (first|with_reducible exact mf hr _|walk_at "ev1"))
    ·(walk_at "evs")
   apply av
   ·apply a8
    apply rZ
    ·(repeat' (first|with_reducible exact mf hl _|walk_at "ev1"))
    ·exact il kv (isl _ _) aG p1
   apply av
   ·(repeat' (first|with_reducible exact isl _ _|walk_at "ev1"))
   apply c8
   ·(repeat' (first|with_reducible exact isl0 _ _|walk_at "ev1"))
   ·exact j_ _ _ _ _ (i::jy S (i-a)) (by simp only[jy];congr 1;congr 1;omega)
  |@r a S=>
   have hr:xl [(Pl.mk 2 m).w]=fun st=>.ok (.bl true) st:=funext hrt
   have hl:A7 [(Pl.mk 2 m).w]=fun st=>.ok (.bl false) st:=funext fun st=>(hlf st).trans (by rw[show decide ((Pl.mk 2 m).b%2=1)=false from by simp])
   have hSl':S.length<=i:=by simp at hSl;omega
   have p1:=pop ((lk.take i).map jg) (jy S (i-a)) (i-1)
   have a1:=app ((lk.take i).map jg) (jy S (i-a)) i (by rw[iH];omega)
   have a2:=app0 (cO (i::jy S (i-a)).reverse) (.tup [.non,.int (i-1:Nat)])
   apply av
   ·apply a8
    apply rZ
    ·(repeat' (first|with_reducible exact mf hr _|walk_at "ev1"))
    ·exact il kv (isl _ _) aG p1
   apply av
   ·apply a8
    apply r6
    ·(repeat' (first|with_reducible exact mf hl _|walk_at "ev1"))
    ·(walk_at "evs")
   apply av
   ·(repeat' (first|with_reducible exact isl _ _|walk_at "ev1"))
   apply c8
   ·(repeat' (first|with_reducible exact isl0 _ _|walk_at "ev1"))
   ·exact j_ _ _ _ _ (i::jy S (i-a)) (by simp only[jy];congr 1;congr 1;omega)
  |@b c a S=>
   have hr:xl [(Pl.mk 3 m).w]=fun st=>.ok (.bl true) st:=funext hrt
   have hl:A7 [(Pl.mk 3 m).w]=fun st=>.ok (.bl true) st:=funext fun st=>(hlf st).trans (by rw[show decide ((Pl.mk 3 m).b%2=1)=true from by simp])
   have hSl':S.length<=i:=by simp at hSl;omega
   have hca:(i-c-1)=(i-1-c):=by omega
   have p1:=pop ((lk.take i).map jg) ((i-1-c)::jy S (i-c-a)) (i-1)
   have p2:=pop ((lk.take i).map jg) (jy S (i-c-a)) (i-1-c)
   have a1:=app ((lk.take i).map jg) (jy S (i-c-a)) i (by rw[iH];omega)
   have a2:=app0 (cO (i::jy S (i-c-a)).reverse) (.tup [.int (i-1-c:Nat),.int (i-1:Nat)])
   have ht:jy (c::a::S) i=(i-1)::(i-1-c)::jy S (i-c-a):=by simp only[jy,hca]
   rw[ht]
   apply av
   ·apply a8
    apply rZ
    ·(repeat' (first|with_reducible exact mf hr _|walk_at "ev1"))
    ·exact il kv (isl _ _) aG p1
   apply av
   ·apply a8
    apply rZ
    ·(repeat' (first|with_reducible exact mf hl _|walk_at "ev1"))
    ·exact il kv (isl _ _) aG p2
   apply av
   ·(repeat' (first|with_reducible exact isl _ _|walk_at "ev1"))
   apply c8
   ·(repeat' (first|with_reducible exact isl0 _ _|walk_at "ev1"))
   ·exact j_ _ _ _ _ (i::jy S (i-c-a)) (by simp only[jy];congr 1;congr 1;omega)
 ·rintro ρ be ⟨S1,o3,o4,o5,o6,rfl,rfl,hg,hi⟩
  have fX:(my (ps.map Pl.w)).length=ps.length:=by simp[my]
  have hc:(st++[am.lst ((lk.take (my (ps.map Pl.w),(none:Option (Nat×List W))).1.length).map jg),.lst (cO (jy S1 (my (ps.map Pl.w),(none:Option (Nat×List W))).1.length).reverse)])[st.length]?=some (.lst (lk.map jg)):=by
   rw[dE]
   show some (am.lst ((lk.take (my (ps.map Pl.w)).length).map jg))=_
   rw[fX,bD #[0]]
  apply bH
  ·(repeat' (first|with_reducible exact mP (bB hc)|walk_at "ev1"))
  ·exact⟨_,_,rfl,rfl,_,rfl⟩
end
theorem kQ(t:List Pl)(n:Nat):(bw t).und n=true:=by
 unfold bw W.und
 induction t with
 |nil=>rfl
 |cons x r ih=>simp only[bt,undWs,ih,dg];simp[Pl.w,W.und,undWs]
theorem fS(a:List Pl)(st:List am):cP [bw a] st=.ok (.int a.length) st:=by
 unfold bw
 rw[v8,az]
theorem sE{a:List Pl}{p:Pl}(h:a[q]?=some p)(st:List am):bp (bw a) (.int q) st=.ok p.w st:=mB (fP (by simp[h]))
theorem CT(p:Pl)(st:List am):bp p.w (.int 1) st=.ok (.str p.m) st:=rfl
theorem Q3(p:Pl)(st:List am):bp p.w (.int 0) st=.ok (.int p.b) st:=rfl
section
variable{ps:List Pl}{sz:List Nat}{lk:List #[9]}
theorem Fq(h:Gr ps S sz lk)(hn:ps.length<=1000)(st:List am):∃x,(∃A,x=[am.lst A,.lst (lk.map jg)])/\Eb [bw ps] st=.ok (.loc (st.length+1)) (st++x):=by
 obtain⟨l1,l2,_⟩:=h.ok
 suffices hh:jX (y9 fun w be=>∃j x,w=.loc (st.length+j)/\be=st++x/\j=1/\∃A,x=[am.lst A,.lst (lk.map jg)]) (Ni ([bw ps].map some++List.replicate (6-1) none) st) by
  obtain⟨j,x,⟨rfl,h1⟩,e⟩:=se hh
  exact⟨x,h1,e⟩
 apply av
 ·(walk_at "evs")
 apply av
 ·(walk_at "evs")
 rw[show(st++[am.lst []]).length=st.length+1 by simp,show st++[am.lst []]++[am.lst []]=st++[am.lst [],am.lst []] by simp]
 refine fJ (fun i ρ be=>∃(S1:List Nat) (o3 o4 o5:Option W),ρ=[some (bw ps),some #[4],some (.loc (st.length+1)),o3,o4,o5]/\be=st++[.lst (cO (jy S1 i).reverse),.lst ((lk.take i).map jg)]/\Gr (ps.take i) S1 (sz.take i) (lk.take i)/\i<=ps.length)
  (iY (q:=(ps.length:Int)) (st1:=st++[am.lst [],am.lst []]) (ai (bE kn (fS ps _)) aG) #[0]) ⟨[],none,none,none,rfl,rfl,.nil,b7 _⟩ (fun _ _ _ _=>trivial) ?_ ?_
 ·rintro i w ρ be hw ⟨S1,o3,o4,o5,rfl,rfl,hg,hi⟩
  obtain⟨hip,rfl⟩:=jY hw
  rw[b9]at hip
  obtain⟨S1',S2,p,k,x,g1,q1,q2,q3,hs,g2⟩:=h.step i hip
  refine⟨_,rfl,?_⟩
  have hS:=hg.det g1 rfl
  subst hS
  obtain⟨lz,ll,ha⟩:=g1.ok
  have hti:(ps.take i).length=i:=by rw[aJ];omega
  rw[hti]at ha lz ll
  have hSl:=ha.le
  have hlk:lk.take (i+1)=lk.take i++[x]:=by rw[jP,q3];rfl
  have it:∀s:List am,bp (bw ps) (.int (0+(i:Int))) s=.ok p.w s:=fun s=>by rw[sZ];exact sE q1 s
  have pop:∀(A:List W) (B:List Nat) (q:Nat),m6 #[4] [] (st++[.lst (cO (q::B).reverse),.lst A])=.ok (.int q) (st++[.lst (cO B.reverse),.lst A]):=fun A B q=>by
   have hc:(st++[am.lst (cO (q::B).reverse),.lst A])[st.length]?=some (.lst (cO B.reverse++[.int q])):=by rw[dE];simp[cO]
   rw[v9 hc,fE];rfl
  have isl:∀(A:List W) (B:List W),ly (st++[.lst A,.lst B]) (.loc (st.length+1))=true:=fun A B=>c6 (by rw[gC];rfl)
  have isl0:∀(A:List W) (B:List W),ly (st++[.lst A,.lst B]) #[4]=true:=fun A B=>c6 (by rw[dE];rfl)
  have app:∀(A:List W) (B:List Nat),B.length<1001->bv #[4] [.int (0+(i:Int))] (st++[.lst (cO B.reverse),.lst A])=.ok .non (st++[.lst (cO (i::B).reverse),.lst A]):=fun A B hB=>by
   have hc:(st++[am.lst (cO B.reverse),.lst A])[st.length]?=some (.lst (cO B.reverse)):=by rw[dE];rfl
   rw[oG hc (by simp[cO];show _<1000000;omega),fE]
   simp[cO]
  have app1:∀(B:List W) (w:W),bv (.loc (st.length+1)) [w] (st++[.lst B,.lst ((lk.take i).map jg)])=.ok .non (st++[.lst B,.lst ((lk.take i).map jg++[w])]):=fun B w=>by
   have hc:(st++[am.lst B,.lst ((lk.take i).map jg)])[st.length+1]?=some (.lst ((lk.take i).map jg)):=by rw[gC];rfl
   rw[oG hc (by simp;show _<1000000;omega),lD];rfl
  have T1:∀(k:Bool) (ρ:cf) (s:List am),decide ((2:Int)<=(p.b:Int))=k->ρ[0]?=some (some (bw ps))->ρ[3]?=some (some (.int (0+(i:Int))))->dm (e2 Pk (e2 bp (e2 bp (af 0) (af 3)) (eI 0)) (eI 2)) ρ s=.ok k s:=fun k ρ s e h0 h3=>aL (bd (bd (bd (gK h0) (gK h3) (it s)) bf (Q3 p s)) bf (AM e))
  have T2:∀(k:Bool) (ρ:cf) (s:List am),(((p.b:Int)%2)==1)=k->ρ[0]?=some (some (bw ps))->ρ[3]?=some (some (.int (0+(i:Int))))->dm (e2 hW (e2 gH (e2 bp (e2 bp (af 0) (af 3)) (eI 0)) (eI 2)) (eI 1)) ρ s=.ok k s:=fun k ρ s e h0 h3=>aL (bd (bd (bd (bd (gK h0) (gK h3) (it s)) bf (Q3 p s)) bf (im #[3])) bf (ec e))
  have j_:∀(o3 o4 o5:Option W) (B:List Nat),i::B=jy S2 (i+1)->Ls (fun ρ be=>∃(S1:List Nat) (o3 o4 o5:Option W),ρ=[some (bw ps),some #[4],some (.loc (st.length+1)),o3,o4,o5]/\be=st++[.lst (cO (jy S1 (i+1)).reverse),.lst ((lk.take (i+1)).map jg)]/\Gr (ps.take (i+1)) S1 (sz.take (i+1)) (lk.take (i+1))/\i+1<=ps.length)
    (.nx [some (bw ps),some #[4],some (.loc (st.length+1)),o3,o4,o5] (st++[.lst (cO (i::B).reverse),.lst ((lk.take i).map jg++[jg x])])):=by
   rintro o3 o4 o5 B e
   exact⟨_,_,rfl,S2,_,_,_,rfl,by rw[hlk,e];simp,g2,by omega⟩
  have put:∀(lw uq:W) (o3:Option W) (B:List Nat),o3=some (.int (0+(i:Int)))->B.length<1001->jg x=.tup [lw,uq]->i::B=jy S2 (i+1) ->
    jX (Ls (fun ρ be=>∃(S1:List Nat) (o3 o4 o5:Option W),ρ=[some (bw ps),some #[4],some (.loc (st.length+1)),o3,o4,o5]/\be=st++[.lst (cO (jy S1 (i+1)).reverse),.lst ((lk.take (i+1)).map jg)]/\Gr (ps.take (i+1)) S1 (sz.take (i+1)) (lk.take (i+1))/\i+1<=ps.length))
     (aE (cv (jR bv (af 2) (aa (cZ (aa (af 4) (aa (af 5) aw))) aw))) (cv (jR bv (af 1) (aa (af 3) aw))) [some (bw ps),some #[4],some (.loc (st.length+1)),o3,some lw,some uq] (st++[.lst (cO B.reverse),.lst ((lk.take i).map jg)])):=by
   intro lw uq o3 B e3 hB hx hT
   subst e3
   have a1:=app1 (cO B.reverse) (.tup [lw,uq])
   have a2:=app ((lk.take i).map jg++[.tup [lw,uq]]) B hB
   have ff:=j_ (some (.int (0+(i:Int)))) (some lw) (some uq) B hT
   rw[hx]at ff
   apply av
   ·exact dO (il kv (isl _ _) (ai (cE (ai kv kn) (ag rfl)) aG) a1)
   apply c8
   ·exact dO (il kv (isl0 _ _) kn a2)
   ·exact ff
  apply av
  ·exact a8 bf
  apply av
  ·exact a8 bf
  obtain⟨b,m⟩:=p
  cases hs with
  |@z=>
   apply bn
   ·exact T1 false _ _ rfl rfl rfl
   apply bM
   apply bn
   ·exact T2 false _ _ rfl rfl rfl
   apply bM
   exact put _ _ _ (jy S1 i) rfl (by rw[iH];omega) rfl rfl
  |@l a S=>
   apply bn
   ·exact T1 false _ _ rfl rfl rfl
   apply bM
   apply av
   ·exact cC (T2 true _ _ rfl rfl rfl) (a8 (il kv (isl0 _ _) aG (pop _ (jy S (i-a)) (i-1))))
   exact put _ _ _ (jy S (i-a)) rfl (by rw[iH];simp at hSl;omega) rfl (by simp only[jy];congr 1;congr 1;omega)
  |@r a S=>
   apply av
   ·exact cC (T1 true _ _ rfl rfl rfl) (a8 (il kv (isl0 _ _) aG (pop _ (jy S (i-a)) (i-1))))
   apply bn
   ·exact T2 false _ _ (by show((2:Int)%2==1)=false;decide) rfl rfl
   apply bM
   exact put _ _ _ (jy S (i-a)) rfl (by rw[iH];simp at hSl;omega) rfl (by simp only[jy];congr 1;congr 1;omega)
  |@b c a S=>
   apply av
   ·exact cC (T1 true _ _ rfl rfl rfl) (a8 (il kv (isl0 _ _) aG (pop _ (jy (a::S) (i-c)) (i-1))))
   apply av
   ·exact cC (T2 true _ _ (by show((3:Int)%2==1)=true;decide) rfl rfl) (a8 (il kv (isl0 _ _) aG (pop _ (jy S (i-c-a)) (i-c-1))))
   exact put _ _ _ (jy S (i-c-a)) rfl (by rw[iH];simp at hSl;omega) (by show W.tup [.int ((i-1-c:Nat):Int),_]=_;rw[show i-1-c=i-c-1 by omega];rfl) (by simp only[jy];congr 1;congr 1;omega)
 ·rintro ρ be ⟨S1,o3,o4,o5,rfl,rfl,hg,hi⟩
  rw[show(eX 0 (ps.length:Int).toNat,(none:Option (Nat×List W))).fst.length=lk.length by rw[l2];simp[ef],dJ]
  apply bH
  ·(walk_at "evs")
  ·exact⟨_,_,rfl,1,_,rfl,rfl,rfl,_,rfl⟩
end
theorem sF{s:List am}{p:Nat}{c:am}(h:st <+: s)(hp:st.length<=p):st <+: s.set p c:=by
 obtain⟨x,rfl⟩:=h
 rw[show p=st.length+(p-st.length) by omega,lD]
 exact aX _ _
theorem zw{s y:List am}(h:st <+: s):st <+: s++y:=h.trans (aX _ _)
theorem pre_get{s:List am}{c:am}(h:st <+: s)(e:st[i]?=some c):s[i]?=some c:=by
 obtain⟨x,rfl⟩:=h
 exact cw e
theorem dQ{s:List am}{p:Nat}{c d:am}(h:s[p]?=some d):(s.set p c)[p]?=some c:=by
 rw[bW (ar.mp h).1]
theorem bN{s:List am}{p:Nat}{c:am}(h:p≠q):(s.set p c)[q]?=s[q]?:=cy h
theorem fC{s:List am}{p:Nat}{c:am}(h:s[p]?=some c):p<s.length:=(ar.mp h).1
theorem cK{s:List am}{c:am}:(s++[c])[s.length]?=some c:=by rw[dE];rfl
noncomputable def yh(l:List Int):List W:=l.map W.int
theorem sH{s:List am}{p:Nat}{ds:List Int}{d:Int}(h:s[p]?=some (.lst (yh ds)))(e:ds[i]?=some d):bp (.loc p) (.int i) s=.ok (.int d) s:=jI (bB h) (fP (by rw[yh,aC,e];rfl))
theorem IZ(h:lstOf st n=some (ls.map W.str))(hl:ls.length<64):kL [.loc n] st=.ok #[4] (st++[.lst ((jq ls).map W.str)]):=by
 show ql [.loc n] st=_
 unfold ql
 simp only[h,eF,xX]
 rw[aD hl]
theorem ww{a b:List (List Nat)}(h:a.Perm b):(a.map List.length).sum=(b.map List.length).sum:=by
 induction h with
 |nil=>rfl
 |cons x _ ih=>simp only[bt,qY,ih]
 |swap x y l=>simp only[bt,qY];omega
 |trans _ _ ih1 ih2=>rw[ih1,ih2]
theorem sI(l:List Nat):(((l.map fun c=>[c])).map List.length).sum=l.length:=by
 induction l with
 |nil=>rfl
 |cons a r ih=>simp only[bt,qY,bg,ih,oX];omega
def CU(l:List Nat):List Nat:=lr [] (jq (l.map fun c=>[c]))
theorem Eh(l:List Nat):(CU l).length=l.length:=by
 unfold CU;rw[mZ,List.length_flatten,ww (gB _),sI]
theorem I_(l:List Nat):(CU l).Perm l:=by
 unfold CU;rw[mZ]
 have h:(jq (l.map fun c=>[c])).flatten.Perm (l.map fun c=>[c]).flatten:=(gB _).flatten
 refine h.trans (.of_eq ?_)
 induction l with
 |nil=>rfl
 |cons a r ih=>
  have ih':=ih ((gB _).flatten)
  simp only[bt,mK,ih',List.cons_append,dD]
theorem Ei{fe:FE}{s1:List am}(h:fe ρ st=.ok (.loc n) s1)(hc:lstOf s1 n=some ((l.map fun c=>[c]).map W.str))(hl:l.length<64) :
  J5 oF (eC (.str [])) (aa (bh kL (aa fe aw)) aw) ρ st=.ok (.str (CU l)) (s1++[.lst ((jq (l.map fun c=>[c])).map W.str)]):=by
 have hs:=IZ hc (by simpa using hl)
 have hcell2:lstOf (s1++[am.lst ((jq (l.map fun c=>[c])).map W.str)]) s1.length=some ((jq (l.map fun c=>[c])).map W.str):=bB cK
 have hj:=CH (sep:=[]) hcell2 (by rw[ww (gB _),sI];show _<=1000000;simp;omega)
 exact Lr bf rfl (ai (bE (ai h aG) hs) aG) hj
section
variable{fs:FA}
theorem LD(V:β->W)(Pb:Nat->β->Prop)(hr:fs ρ st=.ok [.int n] st)(hn:n<=100000)(h:∀i:Nat,i<n->∃b,Pb i b/\el ((tO cap ρ).set 0 (some (.int i))) st=.ok (V b) st) :
  ∃r:List β,r.length=n/\(∀i b,r[i]?=some b->Pb i b)/\jo cap (dr fs) (iP 0) vR el ρ st=.ok #[4] (st++[.lst (r.map V)]):=by
 let f:Fin n->β:=fun i=>Classical.choose (h i i.2)
 have hf:∀i:Fin n,Pb i (f i)/\el ((tO cap ρ).set 0 (some (.int (i:Nat)))) st=.ok (V (f i)) st:=fun i=>Classical.choose_spec (h i i.2)
 let Y:W->W:=fun w=>match w with
  |.int z=>if hz:z.toNat<n then V (f ⟨z.toNat,hz⟩)else .non
  |_=>.non
 have ir:dr fs ρ st=.ok (eX 0 n,none) st:=by
  have:=iY hr #[0]
  rw[b9]at this
  exact this
 have hc:=y_ (fi:=dr fs) (f:=iP 0) (el:=el) (cap:=cap) (ρ:=ρ) Y ir (by rw[ef];show _<=1000000;omega) trivial fun w hw=>by
  obtain⟨i,hi,rfl⟩:=tY hw
  refine⟨_,rfl,?_⟩
  rw[show((0:Int)+(i:Int))=(i:Int) by omega]
  show _=R.ok (if hz:(i:Int).toNat<n then V (f ⟨(i:Int).toNat,hz⟩)else .non) st
  rw[dif_pos (show(i:Int).toNat<n by omega)]
  exact(hf ⟨i,hi⟩).2
 refine⟨List.ofFn f,by simp,fun i b hb=>?_,?_⟩
 ·obtain⟨h1,h2⟩:=ar.mp hb
  rw[List.getElem_ofFn]at h2
  rw[<- h2]
  exact(hf ⟨i,by simpa using h1⟩).1
 ·rw[hc]
  have e:(eX 0 n).map Y=(List.ofFn f).map V:=by
   refine List.ext_getElem (by simp[ef]) fun i h1 h2=>?_
   have hi:i<n:=by simpa[ef]using h1
   rw[nK,nK,List.getElem_ofFn]
   unfold eX
   rw[nK,List.getElem_range,show((0:Int)+(i:Int))=(i:Int) by omega]
   show(if hz:(i:Int).toNat<n then V (f ⟨(i:Int).toNat,hz⟩)else .non)=_
   rw[dif_pos (show(i:Int).toNat<n by omega)]
  rw[e]
theorem Ja(V:β->W)(Pb:Nat->β->Prop)(hr:fs ρ st=.ok [.int n] st)(hn:n<=100000)(h:∀i:Nat,i<n->∃b,Pb i b/\el ((tO cap ρ).set 0 (some (.int i))) st=.ok (V b) st) :
  ∃r:List β,r.length=n/\(∀i b,r[i]?=some b->Pb i b)/\bh ij (aa (jo cap (dr fs) (iP 0) vR el) aw) ρ st=.ok (.tup (r.map V)) (st++[.lst (r.map V)]):=by
 obtain⟨r,h1,h2,e⟩:=LD (cap:=cap) (el:=el) V Pb hr hn h
 exact⟨r,h1,h2,bE (ai e aG) (mP (bB cK))⟩
end
structure Mc where
 nm:List Nat
 gd:List Bool
 tb:List (List (List Nat))
noncomputable def fW(r:List Nat):W:=.tup (r.map fun k=>W.int (k:Nat))
def xq(t:List (List Nat)):W:=.tup (t.map fW)
def Mc.w(M:Mc):W:=.tup [.str M.nm,.tup (M.gd.map W.bl),.tup (M.tb.map xq)]
def WZ(n:Nat)(t:List (List Nat)):Prop:=t.length=n/\∀r∈t,r.length=n/\∀k∈r,k<n
structure lj(M:Mc)(n:Nat):Prop where
 gd:M.gd.length=n
 tb:M.tb.length=2^M.nm.length
 t:∀t∈M.tb,WZ n t
theorem vh(r:List Nat)(n:Nat):(fW r).und n=true:=by
 unfold fW W.und
 induction r with
 |nil=>rfl
 |cons x r ih=>simp only[bt,undWs,ih,dg];rfl
theorem LE(t:List (List Nat))(n:Nat):(xq t).und n=true:=by
 unfold xq W.und
 induction t with
 |nil=>rfl
 |cons x r ih=>simp only[bt,undWs,ih,dg];exact vh x n
theorem Jb(t:List (List (List Nat)))(n:Nat):undWs n (t.map xq)=true:=by
 induction t with
 |nil=>rfl
 |cons x r ih=>simp only[bt,undWs,ih,dg];exact LE x n
theorem LF(t:List Bool)(n:Nat):undWs n (t.map W.bl)=true:=by
 induction t with
 |nil=>rfl
 |cons x r ih=>simp only[bt,undWs,ih,dg];rfl
theorem Jc(M:Mc)(n:Nat):M.w.und n=true:=by
 unfold Mc.w
 simp[W.und,undWs,Jb,LF]
theorem Gu{c:Nat}(h:c<=100):Av (.int 1) (.int c) st=.ok (.int ((2^c:Nat):Int)) st:=by
 have:=im (C:=fun i j=>0<=j/\j<=1000000/\i.natAbs<2^64) (f:=fun i j=>i*2^j.toNat) (p:=1) (q:=(c:Int)) (st:=st) ⟨by omega,by omega,by decide⟩
 rw[show Av (.int 1) (.int c) st=_ from this]
 simp
theorem lG{s:List am}{p:Nat}{y:W}(h:s[p]?=some (.lst ws))(hl:ws.length<1000000):bv (.loc p) [y] s=.ok .non (s.set p (.lst (ws++[y]))):=oG h hl
theorem Q4(h:q<n):DC n (q:Int)=some q:=by
 unfold DC
 rw[aD #[0],aD #[0]];simp
theorem CV{s:List am}{p q:Nat}{v:W}(h:s[p]?=some (.lst ws))(hq:q<ws.length):qC (.loc p) (.int q) v s=some (s.set p (.lst (ws.set q v))):=P5 h (Q4 hq)
theorem Q5{s:List am}:xS [.tup ws] s=.ok (.loc s.length) (s++[.lst ws]):=rfl
noncomputable def nW(l:List Nat):List W:=l.map fun k=>W.int (k:Nat)
theorem Nv{s:List am}{p:Nat}(h:s[p]?=some (.lst (nW l)))(e:l[i]?=some k):bp (.loc p) (.int i) s=.ok (.int k) s:=jI (bB h) (fP (by rw[nW,aC,e];rfl))
theorem Jd{s:List am}(e:l[i]?=some k):bp (fW l) (.int i) s=.ok (.int k) s:=mB (fP (by rw[aC,e];rfl))
theorem Je{s:List am}{t:List (List Nat)}{r:List Nat}(e:t[i]?=some r):bp (xq t) (.int i) s=.ok (fW r) s:=mB (fP (by rw[aC,e];rfl))
theorem uN{f:FG}{ρ':cf}{w:W}(h:fe ρ st=.ok w st1)(h2:f w ρ=some ρ'):rd fe f ρ st=.nx ρ' st1:=by
 unfold rd;rw[h];simp only[R.stmt_ok];rw[h2]
theorem Jf{c:Nat}:FQ false (.str [c]) (.str l) st=.ok (.bl (decide (c∈l))) st:=rfl
theorem zx{st1:List am}(h:fe ρ st=.ok (.str l) st1):gu fe ρ st=.ok (iQ l,none) st1:=by unfold gu;rw[h];rfl
theorem Bg{w:W}(h:(iQ l)[i]?=some w):∃c,l[i]?=some c/\w=.str [c]:=by
 simp only[iQ,aC,eY]at h
 obtain⟨c,h1,rfl⟩:=h
 exact⟨c,h1,rfl⟩
theorem ue(l:List Nat):(iQ l).length=l.length:=by simp[iQ]
theorem qs{l:List α}{c:α}(h:l[i]?=some c):l.take (i+1)=l.take i++[c]:=by
 rw[List.take_succ,h];rfl
noncomputable def kR(m:List Nat)(l:List Nat):Nat:=l.foldl (fun a c=>2*a+if c∈m then 1 else 0) 0
theorem yi(m l:List Nat)(c:Nat):kR m (l++[c])=2*kR m l+if c∈m then 1 else 0:=by unfold kR;rw[List.foldl_append];rfl
theorem Ej(m:List Nat)(l:List Nat):kR m l<2^l.length:=by
 have key:∀(l:List Nat) (a k:Nat),a<2^k->l.foldl (fun a c=>2*a+if c∈m then 1 else 0) a<2^(k+l.length):=by
  intro l
  induction l with
  |nil=>intro a k h;simpa using h
  |cons c r ih=>
   intro a k h
   have:=ih (2*a+if c∈m then 1 else 0) (k+1) (by rw[Nat.pow_succ];split<;>omega)
   rw[List.foldl_cons,bg,show k+(r.length+1)=k+1+r.length by omega];exact this
 have:=key l 0 0 #[15]
 simpa[kR]using this
theorem Fr(names m:List Nat)(st:List am):Lz [.str names,.str m] st=.ok (.int (kR m names:Nat)) st:=by
 refine eM (N:=4) (ws:=[.str names,.str m]) (body:=T6) ?_ rfl
 apply av
 ·(walk_at "evs")
 refine fJ (fun i ρ s=>∃o3:Option W,ρ=[some (.str names),some (.str m),some (.int (kR m (names.take i):Nat)),o3]/\s=st) (zx (st1:=st) kv) ⟨none,rfl,rfl⟩ (fun _ _ _ _=>trivial) ?_ ?_
 ·rintro i w ρ s hw ⟨o3,rfl,rfl⟩
  obtain⟨c,hc,rfl⟩:=Bg hw
  refine⟨_,rfl,?_⟩
  have e:=yi m (names.take i) c
  rw[<- qs hc]at e
  apply av
  ·exact a8 (bd kv bf (pR (.inr #[3])))
  by_cases h:c∈m
  ·have t1:decide (c∈m)=true:=a_ h
   rw[aD h]at e
   apply pS
   ·exact aL (bd kv kv (by rw[Jf,t1]))
   apply c8
   ·exact a8 (bd kv bf du)
   ·exact⟨_,_,rfl,_,by rw[e,fH,ja,ou];rfl,rfl⟩
  ·have t1:decide (c∈m)=false:=aU h
   rw[aQ h]at e
   apply lE
   ·exact aL (bd kv kv (by rw[Jf,t1]))
   apply c8
   ·exact cU
   ·exact⟨_,_,rfl,_,by rw[e,fH,ja,ou];rfl,rfl⟩
 ·rintro ρ s ⟨o3,rfl,rfl⟩
  apply bH
  ·(walk_at "evs")
  ·exact⟨_,_,rfl,by rw[show(iQ names,(none:Option (Nat×List W))).fst.length=names.length from ue names,dJ],[],by simp⟩
theorem CW(names m:List Nat)(st:List am):Be [.str names,.str m] st=.ok (.int (kR m names:Nat)) st:=by
 refine eM (N:=4) (ws:=[.str names,.str m]) (body:=Nk) ?_ rfl
 apply av
 ·(walk_at "evs")
 refine fJ (fun i ρ s=>∃o3:Option W,ρ=[some (.str names),some (.str m),some (.int (kR m (names.take i):Nat)),o3]/\s=st) (zx (st1:=st) kv) ⟨none,rfl,rfl⟩ (fun _ _ _ _=>trivial) ?_ ?_
 ·rintro i w ρ s hw ⟨o3,rfl,rfl⟩
  obtain⟨c,hc,rfl⟩:=Bg hw
  refine⟨_,rfl,?_⟩
  have e:=yi m (names.take i) c
  rw[<- qs hc]at e
  have bi:E_ [.bl (decide (c∈m))] s=.ok (.int ((if c∈m then 1 else 0:Nat):Int)) s:=by
   by_cases h:c∈m
   ·rw[a_ h,aD h];rfl
   ·rw[aU h,aQ h];rfl
  apply c8
  ·exact a8 (bd (bd bf kv (pR (.inl #[3]))) (bE (ai (bd kv kv Jf) aG) bi) du)
  ·exact⟨_,_,rfl,_,by rw[e,fH,ja];rfl,rfl⟩
 ·rintro ρ s ⟨o3,rfl,rfl⟩
  apply bH
  ·(walk_at "evs")
  ·exact⟨_,_,rfl,by rw[show(iQ names,(none:Option (Nat×List W))).fst.length=names.length from ue names,dJ],[],by simp⟩
noncomputable def zy(r:List Nat):Option Nat->Nat
 |none=>0
 |some k=>r.getD k 0
def vi(M:Mc)(r:List Nat)(m:List Nat)(x:Option Nat×Option Nat):Nat:=((M.tb.getD (kR m M.nm) []).getD (zy r x.1) []).getD (zy r x.2) 0
def Fs(M:Mc):List Pl->List #[9]->List Nat->List Nat
 |p::ps,x::xs,r=>Fs M ps xs (r++[vi M r p.m x])
 |_,_,r=>r
def Jg(n:Nat)(x:Option Nat×Option Nat):Prop:=(∀k,x.1=some k->k<n)/\∀k,x.2=some k->k<n
theorem Bh(r:List Nat)(o:Option Nat)(p:Nat)(st:List am)(hc:st[p]?=some (.lst (nW r)))(ho:∀k,o=some k->k<r.length):A9 [.loc p,oW o] st=.ok (.int (zy r o:Nat)) st:=by
 cases o with
 |none=>
  apply dY
  apply bH
  ·exact rZ (aL (AL kv rfl)) bf
  ·exact⟨_,_,rfl,rfl,rfl⟩
 |some k=>
  have hk:=ho k rfl
  have e:r[k]?=some (r.getD k 0):=by rw[aA,al hk];rfl
  apply dY
  apply bH
  ·exact r6 (aL (AL kv rfl)) (bd kv kv (Nv hc e))
  ·exact⟨_,_,rfl,rfl,rfl⟩
theorem Gr.lk{ps:List Pl}{sz:List Nat}{lk:List #[9]}(h:Gr ps S sz lk){x:Option Nat×Option Nat}(hx:lk[i]?=some x):Jg i x:=by
 obtain⟨_,l2,_⟩:=h.ok
 have hi:i<ps.length:=by have:=(ar.mp hx).1;omega
 obtain⟨S1,S2,p,k,x',g1,q1,q2,q3,hs,g2⟩:=h.step i hi
 rw[hx]at q3;cases q3
 obtain⟨_,_,ha⟩:=g1.ok
 rw[show(ps.take i).length=i by rw[aJ];omega]at ha
 obtain⟨b,m⟩:=p
 cases hs with
 |z=>exact⟨fun k e=>by simp at e,fun k e=>by simp at e⟩
 |@l a S=>have:=ha.2.1;have:=ha.2.2.1;exact⟨fun k e=>by simp at e;omega,fun k e=>by simp at e⟩
 |@r a S=>have:=ha.2.1;have:=ha.2.2.1;exact⟨fun k e=>by simp at e,fun k e=>by simp at e;omega⟩
 |@b c a S=>have:=ha.2.1;have:=ha.2.2.1;exact⟨fun k e=>by simp at e;omega,fun k e=>by simp at e;omega⟩
theorem Bi(M:Mc)(p:Pl)(x:Option Nat×Option Nat):∀(ps:List Pl) (lk:List #[9]) (r:List Nat),ps.length=lk.length->Fs M (ps++[p]) (lk++[x]) r=Fs M ps lk r++[vi M (Fs M ps lk r) p.m x]
 |[],[],r,_=>rfl
 |q::ps,y::lk,r,h=>by
  show Fs M (ps++[p]) (lk++[x]) _=_
  rw[Bi M p x ps lk _ (by simpa using h)];rfl
 |[],_::_,_,h=>by simp at h
 |_::_,[],_,h=>by simp at h
def fT(M:Mc)(ps:List Pl)(lk:List #[9]):List Nat:=Fs M ps lk []
theorem Jh{r:List Nat}{o:Option Nat}(hn:1<=n)(hr:∀k∈r,k<n)(ho:∀k,o=some k->k<r.length):zy r o<n:=by
 cases o with
 |none=>exact hn
 |some k=>
  have hk:=ho k rfl
  have e:r[k]?=some (r.getD k 0):=by rw[aA,al hk];rfl
  exact hr _ (bX e)
theorem CY{M:Mc}{r:List Nat}{m:List Nat}{x:Option Nat×Option Nat}(hM:lj M n)(hn:1<=n)(hr:∀k∈r,k<n)(hx:Jg r.length x) :
  ∃t q,M.tb[kR m M.nm]?=some t/\t[zy r x.1]?=some q/\q[zy r x.2]?=some (vi M r m x)/\vi M r m x<n:=by
 have h1:kR m M.nm<M.tb.length:=by rw[hM.tb];exact Ej m M.nm
 have e1:M.tb[kR m M.nm]?=some (M.tb.getD (kR m M.nm) []):=by rw[aA,al h1];rfl
 obtain⟨t1,t2⟩:=hM.t _ (bX e1)
 have h2:zy r x.1<(M.tb.getD (kR m M.nm) []).length:=by rw[t1];exact Jh hn hr hx.1
 have e2:(M.tb.getD (kR m M.nm) [])[zy r x.1]?=some ((M.tb.getD (kR m M.nm) []).getD (zy r x.1) []):=by rw[aA (l:=M.tb.getD (kR m M.nm) []),al h2];rfl
 obtain⟨t3,t4⟩:=t2 _ (bX e2)
 have h3:zy r x.2<((M.tb.getD (kR m M.nm) []).getD (zy r x.1) []).length:=by rw[t3];exact Jh hn hr hx.2
 have e3:((M.tb.getD (kR m M.nm) []).getD (zy r x.1) [])[zy r x.2]?=some (vi M r m x):=by unfold vi;rw[aA (l:=(M.tb.getD (kR m M.nm) []).getD (zy r x.1) []),al h3];rfl
 exact⟨_,_,e1,e2,e3,t4 _ (bX e3)⟩
theorem Ji{M:Mc}{t:List (List Nat)}(h:M.tb[k]?=some t)(st:List am):bp (.tup (M.tb.map xq)) (.int k) st=.ok (xq t) st:=mB (fP (by rw[aC,h];rfl))
theorem Nw{M:Mc}{r:List Nat}{m:List Nat}{x:Option Nat×Option Nat}{p:Nat}(hM:lj M n)(hn:1<=n)(hr:∀k∈r,k<n)(hx:Jg r.length x)(st:List am)(hc:st[p]?=some (.lst (nW r))) :
  uL [M.w,.str m,jg x,.loc p] st=.ok (.int (vi M r m x:Nat)) st:=by
 obtain⟨t,q,e1,e2,e3,_⟩:=CY (m:=m) hM hn hr hx
 have g0:bp M.w (.int 0) st=.ok (.str M.nm) st:=rfl
 have g2:bp M.w (.int 2) st=.ok (.tup (M.tb.map xq)) st:=rfl
 have x0:bp (jg x) (.int 0) st=.ok (oW x.1) st:=rfl
 have x1:bp (jg x) (.int 1) st=.ok (oW x.2) st:=rfl
 have lt:=Fr M.nm m st
 have b1:=Bh r x.1 p st hc hx.1
 have b2:=Bh r x.2 p st hc hx.2
 apply dY
 apply av
 ·exact a8 (bd (bd kv bf g2) (bT (ai (bd kv bf g0) kn) lt rfl) (Ji e1 st))
 apply bH
 ·exact bd (bd kv (bT (ai kv (ai (bd kv bf x0) aG)) b1 rfl) (Je e2)) (bT (ai kv (ai (bd kv bf x1) aG)) b2 rfl) (Jd e3)
 ·exact⟨_,_,rfl,rfl,rfl⟩
section
variable{ps:List Pl}{sz:List Nat}{lk:List #[9]}{M:Mc}
theorem nX(h:Gr ps S sz lk){p:Pl}{x:Option Nat×Option Nat}(hp:ps[i]?=some p)(hx:lk[i]?=some x):fT M (ps.take (i+1)) (lk.take (i+1))=fT M (ps.take i) (lk.take i)++[vi M (fT M (ps.take i) (lk.take i)) p.m x]:=by
 obtain⟨_,l2,_⟩:=h.ok
 unfold fT
 rw[qs hp,qs hx,Bi M p x _ _ _ (by rw[aJ,aJ,l2])]
theorem nY(h:Gr ps S sz lk)(hM:lj M n)(hn:1<=n):∀i,i<=ps.length->(fT M (ps.take i) (lk.take i)).length=i/\∀k∈fT M (ps.take i) (lk.take i),k<n:=by
 obtain⟨_,l2,_⟩:=h.ok
 intro i
 induction i with
 |zero=>intro _;exact⟨rfl,by simp[fT,Fs]⟩
 |succ i ih=>
  intro hi
  obtain⟨h1,h2⟩:=ih #[0]
  obtain⟨p,hp⟩:∃p,ps[i]?=some p:=⟨_,al #[0]⟩
  obtain⟨x,hx⟩:∃x,lk[i]?=some x:=⟨_,al #[0]⟩
  obtain⟨_,_,_,_,_,e⟩:=CY (m:=p.m) hM hn h2 (by rw[h1];exact h.lk hx)
  rw[nX h hp hx]
  refine⟨by simp[h1],fun k hk=>?_⟩
  rcases aP.mp hk with z|z
  ·exact h2 k z
  ·simp at z;subst z;exact e
theorem Q6{a b:List W}{w:W}(h:(rj a b)[i]?=some w):∃x y,a[i]?=some x/\b[i]?=some y/\w=.tup [x,y]:=v5 h
theorem Uz{fs:FA}{st1:List am}{xs ys:List W}(h:fs ρ st=.ok [.tup xs,.tup ys] st1):yY fs ρ st=.ok (rj xs ys,none) st1:=by unfold yY;rw[h];rfl
theorem Jj(h:Gr ps S sz lk)(hl:ps.length<=900)(hM:lj M n)(hn:1<=n)(st:List am):pY [M.w,bw ps] st=.ok (fW (fT M ps lk)) st:=by
 obtain⟨_,l2,_⟩:=h.ok
 have lo:=sD h #[0] (st++[am.lst []])
 refine eM (N:=5) (ws:=[M.w,bw ps]) (body:=Nc) ?_ (by simp only[undWs,dg];exact vh _ _)
 apply av
 ·(walk_at "evs")
 refine fJ (fun i ρ s=>∃(o3 o4:Option W),ρ=[some M.w,some (bw ps),some #[4],o3,o4]/\st <+: s/\s[st.length]?=some (.lst (nW (fT M (ps.take i) (lk.take i))))/\i<=ps.length) (k:=(rj (ps.map Pl.w) (lk.map jg),none))
  (Uz (st1:=st++[am.lst []]) (ai kv (ai (bT kn lo rfl) aG))) ⟨none,none,rfl,aX _ _,cK,b7 _⟩ (fun _ _ _ _=>trivial) ?_ ?_
 ·rintro i w ρ s hw ⟨o3,o4,rfl,hp,hc,hi⟩
  obtain⟨a,b,ha,hb,rfl⟩:=Q6 hw
  have hip:i<ps.length:=by have:=(ar.mp ha).1;simpa using this
  obtain⟨p,yt⟩:∃p,ps[i]?=some p:=⟨_,al hip⟩
  obtain⟨x,hx⟩:∃x,lk[i]?=some x:=⟨_,al #[0]⟩
  rw[aC,yt]at ha;cases ha
  rw[aC,hx]at hb;cases hb
  refine⟨_,rfl,?_⟩
  obtain⟨r1,r2⟩:=nY (M:=M) h hM hn i hi
  have ra:=Nw (m:=p.m) hM hn r2 (by rw[r1];exact h.lk hx) s hc
  have ap:=lG (y:=.int (vi M (fT M (ps.take i) (lk.take i)) p.m x:Nat)) hc (by simp[nW];omega)
  apply c8
  ·exact dO (il kv (c6 hc) (ai (bT (ai kv (ai (bd kv bf (CT p s)) (ai kv kn))) ra rfl) aG) ap)
  ·refine⟨_,_,rfl,_,_,rfl,sF hp (ax _),?_,by omega⟩
   rw[dQ hc,nX h yt hx];simp[nW]
 ·rintro ρ s ⟨o3,o4,rfl,⟨x,rfl⟩,hc,hi⟩
  rw[show(rj (ps.map Pl.w) (lk.map jg),(none:Option (Nat×List W))).fst.length=ps.length by rw[v7];simp[l2],dJ,show ps.length=lk.length by omega,dJ]at hc
  apply bH
  ·exact bE kn (mP (bB hc))
  ·exact⟨_,_,rfl,rfl,x,rfl⟩
end
theorem Bj(l:List Nat)(k:Nat)(st:List am):jr (k+1) [.str l,.str l] st=.ok (.bl true) st:=by
 refine eM (N:=3) (ws:=[.str l,.str l]) (body:=Bb (jr k)) ?_ rfl
 (walk_at "go")
 apply bH
 ·apply ve
  ·(walk_at "evs")
  ·(walk_at "evs")
 ·exact⟨_,_,rfl,by simp,[],by simp⟩
theorem sJ{k:Nat}(hl:ws.length<=1000)(h:∀w∈ws,jr k [w,w] st=.ok (.bl true) st):jr (k+1) [.tup ws,.tup ws] st=.ok (.bl true) st:=by
 refine eM (N:=3) (ws:=[.tup ws,.tup ws]) (body:=Bb (jr k)) ?_ rfl
 apply dF
 ·(walk_at "evs")
 apply tW
 apply bn
 ·apply mz
  ·(walk_at "evs")
  ·(walk_at "evs")
   simp
 apply bM
 apply tW
 refine fJ (fun i ρ be=>∃o,ρ=[some (.tup ws),some (.tup ws),o]/\be=st) (iY (by(walk_at "evs")) #[0]) ⟨none,rfl,rfl⟩ (fun _ _ _ _=>trivial) ?_ ?_
 ·rintro i w ρ be hw ⟨o,rfl,rfl⟩
  obtain⟨hi,rfl⟩:=jY hw
  refine⟨_,rfl,?_⟩
  have hi':i<ws.length:=by simpa using hi
  have hat:bp (.tup ws) (.int (0+(i:Int))) be=.ok ws[i] be:=mB (by rw[sZ];exact fP (by simp[hi']))
  have hs:=h ws[i] (dH _)
  apply lE
  ·(walk_at "evs")
  apply c8
  ·(walk_at "evs")
  ·exact⟨_,_,rfl,_,rfl,rfl⟩
 ·rintro ρ be ⟨o,rfl,rfl⟩
  apply dy
  ·(walk_at "evs")
  ·exact⟨_,_,rfl,rfl,[],by simp⟩
theorem yj(b:Bool)(k:Nat)(st:List am):jr (k+1) [.bl b,.bl b] st=.ok (.bl true) st:=by
 have hb:hW (.bl b) (.bl b) st=.ok (.bl true) st:=TH #[15]
 refine eM (N:=3) (ws:=[.bl b,.bl b]) (body:=Bb (jr k)) ?_ rfl
 apply bn
 ·(walk_at "evs")
 apply bM
 apply bn
 ·(walk_at "evs")
 apply bM
 apply dF
 ·(walk_at "evs")
 apply dy
 ·apply ve
  ·(walk_at "evs")
  ·(walk_at "evs")
 ·exact⟨_,_,rfl,rfl,[],by simp⟩
theorem wz(z:Int)(k:Nat)(st:List am):jr (k+1) [.int z,.int z] st=.ok (.bl true) st:=by
 have hb:hW (.int z) (.int z) st=.ok (.bl true) st:=ec #[15]
 refine eM (N:=3) (ws:=[.int z,.int z]) (body:=Bb (jr k)) ?_ rfl
 apply bn
 ·(walk_at "evs")
 apply bM
 apply bn
 ·(walk_at "evs")
 apply bM
 apply bn
 ·(walk_at "evs")
 apply bM
 apply dF
 ·(walk_at "evs")
 apply dy
 ·apply ve
  ·(walk_at "evs")
  ·apply ve
   ·(walk_at "evs")
   ·(walk_at "evs")
 ·exact⟨_,_,rfl,by simp,[],by simp⟩
def Sm(w:W):Prop:=∀st,jr 40 [w,w] st=.ok (.bl true) st
theorem Q7(z:Int):Sm (.int z):=fun st=>wz z 39 st
theorem UA(b:Bool):Sm (.bl b):=fun st=>yj b 39 st
theorem Q8(r:List Nat)(h:r.length<=1000):Sm (fW r):=fun st=>sJ (k:=39) (by simpa using h) fun w hw=>by
 obtain⟨z,_,rfl⟩:=cV.mp hw
 exact wz _ _ _
section
variable{ps:List Pl}{sz:List Nat}{lk:List #[9]}{M:Mc}
theorem Bk{r:List Nat}{o:Option Nat}(h:∀j,o=some j->j<k):zy (r.take k) o=zy r o:=by
 cases o with
 |none=>rfl
 |some j=>show(r.take k).getD j 0=r.getD j 0;rw[aA,aA,cD (h j rfl)]
theorem yk(h:Gr ps S sz lk)(hM:lj M n)(hn:1<=n):∀i,i<=ps.length->(fT M ps lk).take i=fT M (ps.take i) (lk.take i):=by
 obtain⟨_,l2,_⟩:=h.ok
 have key:∀d i,i+d=ps.length->(fT M ps lk).take i=fT M (ps.take i) (lk.take i):=by
  intro d
  induction d with
  |zero=>
   intro i hi
   have e1:ps.take i=ps:=bD #[0]
   have e2:lk.take i=lk:=bD #[0]
   have hg:=(nY (M:=M) h hM hn i #[0]).1
   rw[e1,e2]at hg ⊢
   exact bD #[0]
  |succ d ih=>
   intro i hi
   have e:=ih (i+1) #[0]
   obtain⟨p,hp⟩:∃p,ps[i]?=some p:=⟨_,al #[0]⟩
   obtain⟨x,hx⟩:∃x,lk[i]?=some x:=⟨_,al #[0]⟩
   rw[nX h hp hx]at e
   have hg:=(nY (M:=M) h hM hn i #[0]).1
   have e2:=gT (List.take i) e
   rw[qi,gW #[0],cm #[0]]at e2
   rw[e2];exact bD #[0]
 intro i hi
 exact key (ps.length-i) i #[0]
theorem ny(h:Gr ps S sz lk)(hM:lj M n)(hn:1<=n):(fT M ps lk).length=ps.length/\∀k∈fT M ps lk,k<n:=by
 obtain⟨_,l2,_⟩:=h.ok
 have:=nY (M:=M) h hM hn ps.length (ax _)
 rw[dJ,show ps.length=lk.length by omega,dJ]at this
 exact⟨by rw[this.1];omega,this.2⟩
theorem Jk(h:Gr ps S sz lk)(hM:lj M n)(hn:1<=n){i:Nat}{p:Pl}{x:Option Nat×Option Nat}(hp:ps[i]?=some p)(hx:lk[i]?=some x):(fT M ps lk)[i]?=some (vi M (fT M ps lk) p.m x):=by
 have hi:i<ps.length:=(ar.mp hp).1
 have e:=yk (M:=M) h hM hn (i+1) #[0]
 rw[nX h hp hx,<- yk (M:=M) h hM hn i #[0]]at e
 have RJ:=h.lk hx
 have e3:vi M ((fT M ps lk).take i) p.m x=vi M (fT M ps lk) p.m x:=by unfold vi;rw[Bk RJ.1,Bk RJ.2]
 rw[e3]at e
 have hl:=(ny (M:=M) h hM hn).1
 have:=gT (fun l=>l[i]?) e
 simp only[cD (show i<i+1 by omega)]at this
 rw[this,aS (by rw[aJ];omega),aJ,show i-min i (fT M ps lk).length=0 by omega];rfl
def Bm(M:Mc)(ps:List Pl)(lk:List #[9]):Nat:=(fT M ps lk).getD (ps.length-1) 0
def LG(M:Mc)(ps:List Pl)(lk:List #[9]):Bool:=M.gd.getD (if 0<ps.length then Bm M ps lk else 0) false
theorem Vy(h:Gr ps S sz lk)(hM:lj M n)(hn:1<=n)(h0:0<ps.length)(st:List am):bp (fW (fT M ps lk)) (.int (-1)) st=.ok (.int (Bm M ps lk:Nat)) st:=by
 have hl:=(ny (M:=M) h hM hn).1
 refine mB ?_
 rw[show(-1:Int)=-((0:Nat)+1:Int) by rfl]
 refine y8 ?_
 rw[hV (by rw[az];omega),az,aC,hl,show ps.length-1-0=ps.length-1 by omega,al #[0]]
 show some (W.int _)=some (W.int _)
 unfold Bm
 rw[aA,al #[0]];rfl
theorem Jl(hM:lj M n){k:Nat}(hk:k<n)(st:List am):bp (.tup (M.gd.map W.bl)) (.int k) st=.ok (.bl (M.gd.getD k false)) st:=
 mB (fP (by rw[aC,al (by rw[hM.gd];exact hk),aA,al (by rw[hM.gd];exact hk)];rfl))
theorem Q9(h:Gr ps S sz lk)(hM:lj M n)(hn:1<=n):(if 0<ps.length then Bm M ps lk else 0)<n:=by
 split
 ·rename_i h0
  obtain⟨hl,hr⟩:=ny (M:=M) h hM hn
  unfold Bm
  rw[aA,al #[0]]
  exact hr _ (dH _)
 ·exact hn
end
section
variable{ps:List Pl}{sz:List Nat}{lk:List #[9]}
theorem Q_{fs:FA}(h:fs ρ st=.ok [.tup ws] st1):re fs ρ st=.ok (my ws,none) st1:=by unfold re;rw[h];rfl
end
section
variable{ps:List Pl}{sz:List Nat}{lk:List #[9]}
theorem Ek(ps:List Pl)(hn:ps.length<=1000)(hρ:ρ[0]?=some (some (bw ps)))(st:List am):jo [none] (gu (af 0)) (iP 0) vR (eC .non) ρ st=.ok #[4] (st++[.lst ((List.replicate ps.length none).map oW)]):=by
 have:=y_ (cap:=[none]) (f:=iP 0) (el:=eC .non) (ρ:=ρ) (st:=st) (fun _=>.non) (y7 (fe:=af 0) (ws:=ps.map Pl.w) (st1:=st) (gK hρ)) (by rw[az];show _<=1000000;omega) trivial fun w _=>⟨_,rfl,bf⟩
 rw[this,List.map_replicate,b6]
 congr 4
 exact List.map_const' ..
def Up(lk:List #[9])(f:Option Nat×Option Nat->Option Nat)(i:Nat)(l:List (Option Nat)):Prop:=
 (∀p u:Nat,l[p]?=some (some u)->∃x,lk[u]?=some x/\f x=some p)/\∀u x p,u<i->lk[u]?=some x->f x=some p->∃v,l[p]?=some (some v)
theorem Up.zero:Up lk f 0 (List.replicate k none):=⟨fun p u e=>by
 rw[ju]at e
 split at e<;>simp at e,fun u x p h=>absurd h #[0]⟩
theorem Up.skip{l:List (Option Nat)}{x:Option Nat×Option Nat}(h:Up lk f i l)(hx:lk[i]?=some x)(hf:f x=none):Up lk f (i+1) l:=⟨h.1,fun u y p hu hy hp=>by
 by_cases e:u=i
 ·subst e;rw[hx]at hy;cases hy;rw[hf]at hp;cases hp
 ·exact h.2 u y p #[0] hy hp⟩
theorem Up.put{l:List (Option Nat)}{x:Option Nat×Option Nat}(h:Up lk f i l)(hx:lk[i]?=some x)(hf:f x=some q)(hq:q<l.length):Up lk f (i+1) (l.set q (some i)):=⟨fun p u e=>by
 by_cases z:q=p
 ·subst z
  rw[bW hq]at e
  cases e;exact⟨x,hx,hf⟩
 ·rw[cy z]at e;exact h.1 p u e,fun u y p hu hy hp=>by
 by_cases z:q=p
 ·subst z;exact⟨i,bW hq⟩
 ·rw[cy z]
  by_cases e:u=i
  ·subst e;rw[hx]at hy;cases hy;rw[hf]at hp;exact absurd (bq hp) z
  ·exact h.2 u y p #[0] hy hp⟩
theorem Ra(h:Gr ps S sz lk)(hn:ps.length<=900)(st:List am):∃(A B:List (Option Nat)) (x:List am),A.length=ps.length/\B.length=ps.length/\Up lk Prod.fst ps.length A/\Up lk Prod.snd ps.length B/\(st++x)[st.length]?=some (.lst (A.map oW))/\(st++x)[st.length+1]?=some (.lst (B.map oW))/\LA [bw ps] st=.ok (.tup [.loc st.length,.loc (st.length+1)]) (st++x):=by
 obtain⟨l1,l2,_⟩:=h.ok
 suffices hh:jX (y9 fun w be=>w=.tup [.loc st.length,.loc (st.length+1)]/\st <+: be/\∃(A B:List (Option Nat)),A.length=ps.length/\B.length=ps.length/\Up lk Prod.fst ps.length A/\Up lk Prod.snd ps.length B/\be[st.length]?=some (.lst (A.map oW))/\be[st.length+1]?=some (.lst (B.map oW))) (Qi ([bw ps].map some++List.replicate (5-1) none) st) by
  obtain⟨w,s',e,rfl,⟨x,rfl⟩,A,B,a1,a2,a3,a4,a5,a6⟩:=hh
  refine⟨A,B,x,a1,a2,a3,a4,a5,a6,?_⟩
  have:=iF (N:=5) (body:=Qi) (ws:=[bw ps]) e
  rw[x9 (by simp[undWs,W.und])]at this
  exact this
 have eA:=Ek ps #[0] (ρ:=[some (bw ps),none,none,none,none]) rfl st
 apply av
 ·exact uN eA rfl
 generalize hA0:List.replicate ps.length (none:Option Nat)=A0 at *
 have eB:=Ek ps #[0] (ρ:=[some (bw ps),lO st.length,none,none,none]) rfl (st++[.lst (A0.map oW)])
 rw[hA0]at eB
 apply av
 ·exact uN eB rfl
 rw[show(st++[am.lst (A0.map oW)]).length=st.length+1 by simp]
 have lA0:A0.length=ps.length:=by rw[<- hA0];simp
 have uA:∀f,Up lk f 0 A0:=fun f=>by rw[<- hA0];exact Up.zero
 have hlk:=sD h #[0] (st++[am.lst (A0.map oW)]++[.lst (A0.map oW)])
 refine fJ (fun i ρ s=>∃(o3 o4:Option W) (A B:List (Option Nat)),ρ=[some (bw ps),lO st.length,lO (st.length+1),o3,o4]/\st <+: s/\A.length=ps.length/\B.length=ps.length/\s[st.length]?=some (.lst (A.map oW))/\s[st.length+1]?=some (.lst (B.map oW))/\Up lk Prod.fst i A/\Up lk Prod.snd i B) (k:=(my (lk.map jg),none))
  (st1:=st++[am.lst (A0.map oW)]++[.lst (A0.map oW)]) (Q_ (ai (bT kn hlk rfl) aG)) ⟨none,none,A0,A0,rfl,zw (zw (ao _)),lA0,lA0,cw cK,by rw[show st.length+1=(st++[am.lst (A0.map oW)]).length by simp];exact cK,uA _,uA _⟩ (fun _ _ _ _=>trivial) ?_ ?_
 ·rintro i w ρ s hw ⟨o3,o4,A,B,rfl,hp,hA,hB,cA,cB,uA,uB⟩
  obtain⟨y,hy,rfl⟩:=tP hw
  rw[aC]at hy
  obtain⟨x,hx,rfl⟩:=eY.mp hy
  obtain⟨k1,k2⟩:=h.lk hx
  have hi:i<ps.length:=by have:=(ar.mp hx).1;omega
  refine⟨_,rfl,?_⟩
  obtain⟨a,b⟩:=x
  have last:∀(s:List am) (A:List (Option Nat)),st <+: s->A.length=ps.length->s[st.length]?=some (.lst (A.map oW))->s[st.length+1]?=some (.lst (B.map oW))->Up lk Prod.fst (i+1) A->jX (Ls fun ρ s=>∃(o3 o4:Option W) (A B:List (Option Nat)),ρ=[some (bw ps),lO st.length,lO (st.length+1),o3,o4]/\st <+: s/\A.length=ps.length/\B.length=ps.length/\s[st.length]?=some (.lst (A.map oW))/\s[st.length+1]?=some (.lst (B.map oW))/\Up lk Prod.fst (i+1) A/\Up lk Prod.snd (i+1) B)
    (eW (dm (gs (e2 bp (af 4) (eI 1)))) (AB (af 2) (e2 bp (af 4) (eI 1)) (af 3) qC) bI [some (bw ps),lO st.length,lO (st.length+1),iO (i:Nat),some (jg (a,b))] s):=by
   intro s A hp hA cA cB uA
   cases b with
   |none=>
    apply lE
    ·exact aL (eK kx rfl)
    ·exact⟨_,_,rfl,_,_,A,B,rfl,hp,hA,hB,cA,cB,uA,uB.skip hx rfl⟩
   |some q=>
    have:=k2 q rfl
    apply pS
    ·exact aL (eK kx rfl)
    apply c8
    ·exact D5 kv kv kx (CV (q:=q) cB (by rw[az];omega))
    ·exact⟨_,_,rfl,_,_,A,B.set q (some i),rfl,sF hp #[0],hA,by rw[oT];exact hB,by rw[bN #[0]];exact cA,by rw[dQ cB,s9];rfl,uA,uB.put hx rfl #[0]⟩
  cases a with
  |none=>
   apply bn
   ·exact aL (eK kx rfl)
   apply bM
   exact last s A hp hA cA cB (uA.skip hx rfl)
  |some q=>
   have:=k1 q rfl
   apply av
   ·exact cC (aL (eK kx rfl)) (D5 kv kv kx (CV (q:=q) cA (by rw[az];omega)))
   exact last _ (A.set q (some i)) (sF hp (ax _)) (by rw[oT];exact hA) (by rw[dQ cA,s9];rfl) (by rw[bN #[0]];exact cB) (uA.put hx rfl #[0])
 ·rintro ρ s ⟨o3,o4,A,B,rfl,hp,hA,hB,cA,cB,uA,uB⟩
  rw[show(my (lk.map jg),(none:Option (Nat×List W))).fst.length=ps.length by rw[xZ,az,l2]]at uA uB
  apply bH
  ·exact cE (ai kv kn) (ag rfl)
  ·exact⟨_,_,rfl,rfl,hp,A,B,hA,hB,uA,uB,cA,cB⟩
end
theorem Ft(l:List α)(d:α)(f:α->β):(List.range l.length).map (fun i=>f (l.getD i d))=l.map f:=by
 refine jN fun i=>?_
 rw[aC,aC]
 by_cases h:i<l.length
 ·rw[iU h,al h]
  show some (f (l.getD i d))=_
  rw[aA,al h];rfl
 ·rw[bU (by simpa using h),bU #[0]];rfl
theorem kA{l:List α}(d:α)(h:i<l.length):l[i]?=some (l.getD i d):=by
 rw[aA,al h];rfl
theorem St.ex{n b:Nat}{S:List Nat}(hb:b<=3)(h:(b+1)/2<=S.length):∃S' k x,St n S b S' k x/\S'.length+(b+1)/2=S.length+1:=by
 obtain rfl|rfl|rfl|rfl:b=0\/b=1\/b=2\/b=3:=by omega
 ·exact⟨_,_,_,.z,by simp⟩
 ·match S,h with
  |a::S,_=>exact⟨_,_,_,.l,by simp⟩
 ·match S,h with
  |a::S,_=>exact⟨_,_,_,.r,by simp⟩
 ·match S,h with
  |c::a::S,_=>exact⟨_,_,_,.b,by simp⟩
  |[_],hz=>simp at hz
  |[],hz=>simp at hz
noncomputable def yl(d:Int)(i:Nat):Bool:=Builtin.bitAnd (d/2^i) 1==1
def p6(pool:List Nat)(d:Int):List Nat:=((List.range pool.length).filter (yl d)).map fun i=>pool.getD i 0
theorem nZ(pool:List Nat)(d:Int):(p6 pool d).Sublist pool:=by
 unfold p6
 have:((List.range pool.length).map fun i=>pool.getD i 0)=pool:=by
  have:=Ft pool 0 (fun x=>x)
  rw[List.map_id']at this;exact this
 conv=>rhs;rw[<- this]
 exact List.Sublist.map _ List.filter_sublist
noncomputable def zz:W->Nat
 |.int i=>i.toNat
 |_=>0
theorem Fu(pool:List Nat)(hp:pool.length<=50)(d:Int)(st:List am):Ea [.str pool,.int d] st=.ok (.str (CU (p6 pool d))) st:=by
 have hL:pool.length<=m5:=by show _<=1000000;omega
 have hc:=CI (fi:=dr (aa (bh cP (aa (af 0) aw)) aw)) (f:=iP 0) (t:=dm (e2 hW (e2 GM (e2 Pg (af 2) (af 0)) (eI 1)) (eI 1))) (el:=e2 bp (af 1) (af 0)) (cap:=[none,some 0,some 1]) (ρ:=[some (.str pool),iO d]) (st:=st) (st1:=st) (ws:=eX 0 pool.length) (ck:=none) (fun w=>yl d (zz w)) (fun w=>.str [pool.getD (zz w) 0])
   (by
    have:=iY (fs:=aa (bh cP (aa (af 0) aw)) aw) (ρ:=[some (.str pool),iO d]) (st:=st) (st1:=st) (q:=(pool.length:Int)) (ai (bE kn (y6 hL)) aG) #[0]
    rw[b9]at this
    exact this) (by rw[ef];show _<=1000000;omega) trivial fun w hw=>by
   obtain⟨i,hi,rfl⟩:=tY hw
   refine⟨[iO (0+(i:Int)),some (.str pool),iO d],rfl,?_,fun _=>?_⟩
   ·have h0:(0:Int)<=0+(i:Int):=by omega
    have hk:(Builtin.bitAnd (d/2^(0+(i:Int)).toNat) 1==1)=yl d (zz (.int (0+(i:Int)))):=rfl
    exact aL (bd (bd (bd kv kv (im h0)) bf (im trivial)) bf (ec hk))
   ·refine bd kv kv ?_
    rw[show((0:Int)+(i:Int))=(i:Int) by omega]
    have e2:tz pool (i:Int)=some (pool.getD i 0):=fP (kA 0 hi)
    rw[Hf hL e2]
    simp[zz]
 have e:((eX 0 pool.length).filter fun w=>yl d (zz w)).map (fun w=>W.str [pool.getD (zz w) 0])=((p6 pool d).map fun c=>[c]).map W.str:=by
  unfold eX p6
  rw[List.filter_map,b6,b6,b6]
  have e1:((fun w=>yl d (zz w))∘fun k:Nat=>W.int (0+(k:Int)))=yl d:=by funext k;simp[zz]
  rw[e1]
  refine eR fun k _=>?_
  simp[zz]
 rw[e]at hc
 have hl:(p6 pool d).length<=50:=aI (nZ pool d).length_le hp
 refine eM (N:=2) (ws:=[.str pool,.int d]) (body:=Ng) ?_ rfl
 apply bH
 ·exact Ei hc (bB cK) #[0]
 ·exact⟨_,_,rfl,rfl,_,by rw[aj]⟩
theorem ym(l:List Nat):lr [] (l.map fun c=>[c])=l:=by
 rw[mZ]
 induction l with
 |nil=>rfl
 |cons a r ih=>simp only[bt,mK,ih];rfl
theorem uf(h:l.Nodup):CU l=gy l:=by
 have hp:(gy l).Perm l:=(List.perm_ext_iff_of_nodup ((jG l).imp fun h=>aW h) h).mpr fun d=>jp
 have e:jq (l.map fun c=>[c])=(gy l).map fun c=>[c]:=by
  refine vd (vU _) ?_ ((gB _).trans (hp.map _).symm)
  refine List.pairwise_map.mpr ((jG l).imp fun{a b} h=>?_)
  intro z
  rcases List.cons_lt_cons_iff.mp z with y|⟨y,_⟩<;>omega
 unfold CU
 rw[e,ym]
def Fv(pool m:List Nat):Prop:=m.length<=50/\(∀d∈m,d∈pool)/\(pool.Nodup->m.Pairwise (· < ·))
theorem UB(hp:pool.length<=50)(d:Int):Fv pool (CU (p6 pool d)):=
 ⟨by rw[Eh];exact aI (nZ pool d).length_le hp,fun c hc=>(nZ pool d).subset ((I_ _).mem_iff.mp hc),fun h=>by rw[uf ((nZ pool d).nodup h)];exact jG _⟩
theorem Rb{f:cf->List am->R Bool}{a b:List am}(h1:f ρ st=.ok false a)(h2:f ρ st=.ok true b):False:=by
 rw[h1]at h2;cases h2
theorem El{nd:Nat}{ds:List Int}{pool:List Nat}(hd:st[nd]?=some (.lst (yh ds)))(WC:ds.length<=100)(hp:pool.length<=50) :
  ∃ps S sz lk,Gr ps S sz lk/\S.length<=1/\ps.length<=2*ds.length/\(∀p∈ps,Fv pool p.m)/\ya [.loc nd,.str pool] st=.ok (bw ps) st:=by
 suffices hh:jX (y9 fun w be=>(∃x,be=st++x)/\undWs st.length [w]=true/\∃ps S sz lk,w=bw ps/\Gr ps S sz lk/\S.length<=1/\ps.length<=2*ds.length/\∀p∈ps,Fv pool p.m) (Nh ([W.loc nd,.str pool].map some++List.replicate (6-2) none) st) by
  obtain⟨w,⟨ps,S,sz,lk,rfl,h1,h2,h3,h4⟩,e⟩:=r_ hh
  exact⟨ps,S,sz,lk,h1,h2,h3,h4,e⟩
 apply av
 ·(walk_at "evs")
 apply av
 ·(walk_at "evs")
 have h_:∀A:List W,lstOf (st++[am.lst A]) nd=some (yh ds):=fun A=>bB (cw hd)
 refine fJ (fun i ρ be=>∃(ps:List Pl) (S sz:List Nat) (lk:List #[9]) (o5 o6:Option W),ρ=[lO nd,some (.str pool),lO st.length,iO S.length,o5,o6]/\be=st++[.lst (ps.map Pl.w)]/\Gr ps S sz lk/\ps.length=i/\∀p∈ps,Fv pool p.m) (vf (st1:=st++[am.lst []]) (by(walk_at "evs")) (h_ []))
  ⟨[],[],[],[],none,none,rfl,rfl,.nil,rfl,by simp⟩ (fun i ρ be h=>?_) ?_ ?_
 ·obtain⟨ps,S,sz,lk,o5,o6,rfl,rfl,_⟩:=h
  exact h_ _
 ·rintro i w ρ be hw ⟨ps,S,sz,lk,o5,o6,rfl,rfl,hg,lq,hpm⟩
  obtain⟨d,hdd,rfl⟩:∃d,ds[i]?=some d/\w=.int d:=by
   simp only[yh,aC,eY]at hw
   obtain⟨d,h1,rfl⟩:=hw
   exact⟨d,h1,rfl⟩
  have hi:i<ds.length:=(ar.mp hdd).1
  refine⟨_,rfl,?_⟩
  have hc:(st++[am.lst (ps.map Pl.w)])[st.length]?=some (.lst (ps.map Pl.w)):=cK
  obtain⟨b0,hb0,eb0⟩:=fY (q:=d) (n:=4) #[0]
  have eb0:d%4=(b0:Int):=eb0
  apply av
  ·exact a8 (bd kv bf (im #[3]))
  rw[eb0]
  refine vg (fun ρ be=>∃b:Nat,b<=3/\(b+1)/2<=S.length/\ρ=[lO nd,some (.str pool),lO st.length,iO S.length,iO d,iO b]/\be=st++[.lst (ps.map Pl.w)]) ?_ ?_
  ·by_cases h1:S.length<(b0+1)/2
   ·have t1:decide ((S.length:Int)<((b0:Int)+1)/2)=true:=a_ #[0]
    apply pS
    ·exact aL (bd (bd (bd kv bf du) bf (im #[3])) kv (iX t1))
    apply c8
    ·(walk_at "evs")
    ·exact⟨_,_,rfl,0,by omega,by omega,rfl,rfl⟩
   ·have t1:decide ((S.length:Int)<((b0:Int)+1)/2)=false:=aU #[0]
    apply lE
    ·exact aL (bd (bd (bd kv bf du) bf (im #[3])) kv (iX t1))
    apply c8
    ·exact cU
    ·exact⟨_,_,rfl,b0,by omega,by omega,rfl,rfl⟩
  rintro ρ be ⟨b2,hb2,uo,rfl,rfl⟩
  obtain⟨S',k,x,n_,hlen'⟩:=St.ex (n:=ps.length) hb2 uo
  have em:=Fu pool hp (d/4%16) (st++[am.lst (ps.map Pl.w)])
  have hmk:=UB hp (d/4%16)
  generalize CU (p6 pool (d/4%16))=m at em hmk
  have ap:=oG (y:=(Pl.mk b2 m).w) hc (by rw[az];show _<1000000;omega)
  rw[fE]at ap
  have ap:bv #[4] [.tup [.int b2,.str m]] (st++[am.lst (ps.map Pl.w)])=_:=ap
  apply av
  ·exact dO (il kv (c6 hc) (ai (cE (ai kv (ai (bT (ai kv (ai (bd (bd kv bf (im #[3])) bf (im #[3])) aG)) em rfl) aG)) (ag rfl)) aG) ap)
  apply c8
  ·exact a8 (bd (bd kv bf du) (bd (bd kv bf du) bf (im #[3])) (im trivial))
  ·refine⟨_,_,rfl,ps++[⟨b2,m⟩],S',sz++[k],lk++[x],iO d,iO b2,?_,by simp,.snoc hg n_,by simp[lq],?_⟩
   ·show[_,_,_,iO ((S.length:Int)+1-((b2:Int)+1)/2),_,_]=_
    rw[show(S.length:Int)+1-((b2:Int)+1)/2=(S'.length:Int) by omega]
   ·intro p hp'
    rcases aP.mp hp' with z|z
    ·exact hpm p z
    ·simp at z;subst z;exact hmk
 ·rintro ρ be ⟨ps,S,sz,lk,o5,o6,rfl,rfl,hg,lq,hpm⟩
  rw[show(yh ds,some (nd,yh ds)).fst.length=ds.length by simp[yh]]at lq
  have hSle:=hg.ok.2.2.le
  refine Fg (fun n ρ be=>∃(ps:List Pl) (S sz:List Nat) (lk:List #[9]),ρ=[lO nd,some (.str pool),lO st.length,iO S.length,o5,o6]/\be=st++[.lst (ps.map Pl.w)]/\Gr ps S sz lk/\ps.length+S.length<=2*ds.length/\(∀p∈ps,Fv pool p.m)/\S.length=n) S.length ⟨ps,S,sz,lk,rfl,rfl,hg,by omega,hpm,rfl⟩ ?_ ?_
  ·rintro n ρ be ⟨ps,S,sz,lk,rfl,rfl,hg,lq,hpm,rfl⟩
   by_cases h1:1<S.length
   ·refine .inr ?_
    have t1:decide ((1:Int)<(S.length:Int))=true:=a_ #[0]
    constructor
    ·exact aL (bd kv bf (iX t1))
    obtain⟨S',k,x,n_,hlen'⟩:=St.ex (n:=ps.length) (b:=3) (S:=S) #[0] #[0]
    have hc:(st++[am.lst (ps.map Pl.w)])[st.length]?=some (.lst (ps.map Pl.w)):=cK
    have hS2:=hg.ok.2.2.le
    obtain⟨p,yt⟩:∃p,ps[S.length-1]?=some p:=⟨_,al #[0]⟩
    have ix:bp #[4] (.int ((S.length:Int)-1)) (st++[am.lst (ps.map Pl.w)])=.ok p.w (st++[am.lst (ps.map Pl.w)]):=by
     rw[show(S.length:Int)-1=((S.length-1:Nat):Int) by omega]
     exact jI (bB hc) (fP (by rw[aC,yt];rfl))
    have hmk:=hpm p (bX yt)
    have ap:=oG (y:=(Pl.mk 3 p.m).w) hc (by rw[az];show _<1000000;omega)
    rw[fE]at ap
    have ap:bv #[4] [.tup [.int 3,.str p.m]] (st++[am.lst (ps.map Pl.w)])=_:=ap
    apply av
    ·exact dO (il kv (c6 hc) (ai (cE (ai bf (ai (bd (bd kv (bd kv bf (im trivial)) ix) bf (CT p _)) aG)) (ag rfl)) aG) ap)
    apply c8
    ·exact a8 (bd kv bf (im trivial))
    ·refine⟨_,_,rfl,S'.length,by omega,ps++[⟨3,p.m⟩],S',sz++[k],lk++[x],?_,by simp,.snoc hg n_,by simp;omega,?_,rfl⟩
     ·show[_,_,_,iO ((S.length:Int)-1),_,_]=_
      rw[show(S.length:Int)-1=(S'.length:Int) by omega]
     ·intro q hq
      rcases aP.mp hq with z|z
      ·exact hpm q z
      ·simp at z;subst z;exact hmk
   ·refine .inl ?_
    have t1:decide ((1:Int)<(S.length:Int))=false:=aU #[0]
    exact aL (bd kv bf (iX t1))
  ·rintro n ρ be ⟨ps,S,sz,lk,rfl,rfl,hg,lq,hpm,rfl⟩ hno
   have hc:(st++[am.lst (ps.map Pl.w)])[st.length]?=some (.lst (ps.map Pl.w)):=cK
   have hS1:S.length<=1:=by
    rcases Nat.lt_or_ge 1 S.length with h1|h1
    ·have t1:decide ((1:Int)<(S.length:Int))=true:=a_ #[0]
     exact(Rb hno (aL (bd kv bf (iX t1)))).elim
    ·exact h1
   apply bH
   ·exact bE kn (mP (bB hc))
   ·exact⟨_,_,rfl,⟨_,rfl⟩,by simp only[undWs,dg];exact kQ ps _,ps,S,sz,lk,rfl,hg,hS1,by omega,hpm⟩
theorem Jm{l:List Nat}(hl:l.length<4000)(h:∀c∈l,c∈LL)(st:List am):Ly [.str l] st=.ok (.str (gy l)) st:=by
 have hs:(gy l).length<64:=by
  have:(gy l).length<=LL.length:=mO ((jG l).imp fun h=>aW h) fun c hc=>h c (jp.mp hc)
  have e:LL.length=52:=by decide
  omega
 have e1:rV (af 0) [some (.str l)] st=.ok #[4] (st++[.lst (iQ (gy l))]):=by
  unfold rV
  rw[gK (w:=.str l) rfl]
  simp only[R.bind_ok,vW,eF]
  rw[aD ⟨hl,hs⟩]
 have hj:=CH (sep:=[]) (ls:=(gy l).map fun c=>[c]) (st:=st++[.lst (iQ (gy l))]) (n:=st.length) (bB (by rw[cK];unfold iQ;rw[b6];rfl)) (by
  rw[sI];show _<=1000000;simp;omega)
 rw[ym]at hj
 exact eM (bH (Lr bf rfl (ai e1 aG) hj) ⟨_,_,rfl,rfl,_,rfl⟩) rfl
section
variable{ps:List Pl}{sz:List Nat}{lk:List #[9]}
theorem Jn(l:List Nat)(n:Nat):undWs n (cO l)=true:=by
 unfold cO
 induction l with
 |nil=>rfl
 |cons x r ih=>simp[undWs,W.und,ih]
theorem yn{st:List am}{z:List Nat}{a:Nat}(x:List am)(h:z[q]?=some a):bp #[4] (.int q) (st++.lst (cO z)::x)=.ok (.int a) (st++.lst (cO z)::x):=
 jI (bB (by rw[dE];rfl)) (fP (by unfold cO;rw[aC,h];rfl))
theorem Jo{st:List am}{z:List Nat}(q:Nat)(hz:z.length<1000):bv #[4] [.int q] (st++[.lst (cO z)])=.ok .non (st++[.lst (cO (z++[q]))]):=by
 have hc:(st++[am.lst (cO z)])[st.length]?=some (.lst (cO z)):=by rw[dE];rfl
 rw[oG hc (by simp[cO];show _<1000000;omega),fE]
 simp[cO]
theorem W0{l:List α}{x:α}(h:l[i]?=some x):l.take (i+1)=l.take i++[x]:=by rw[jP,h];rfl
theorem Bn(h:Gr ps S sz lk)(hn:ps.length<=900)(st:List am):Fl [bw ps] st=.ok (.tup (cO sz)) st:=by
 obtain⟨l1,l2,_⟩:=h.ok
 refine eM (N:=5) (ws:=[bw ps]) (body:=Ud) ?_ (by simp[undWs,W.und,Jn])
 apply av
 ·(walk_at "evs")
 have hlk:=sD h #[0] (st++[am.lst []])
 refine fJ (fun i ρ be=>∃(o2 o3 o4:Option W),ρ=[some (bw ps),some #[4],o2,o3,o4]/\be=st++[.lst (cO (sz.take i))]) (k:=(lk.map jg,none))
  (y7 (st1:=st++[am.lst []]) (by(walk_at "evs"))) ⟨none,none,none,rfl,rfl⟩ (fun _ _ _ _=>trivial) ?_ ?_
 ·rintro i w ρ be hw ⟨o2,o3,o4,rfl,rfl⟩
  have hip:i<ps.length:=by have:=(ar.mp hw).1;simp at this;omega
  obtain⟨S1,S2,p,k,x,g1,q1,q2,q3,hs,g2⟩:=h.step i hip
  rw[show(lk.map jg,(none:Option (Nat×List W))).1=lk.map jg from rfl,aC,q3]at hw
  cases hw
  obtain⟨lz,ll,ha⟩:=g1.ok
  have hti:(ps.take i).length=i:=by rw[aJ];omega
  rw[hti]at ha lz
  have isl:ly #[16] #[4]=true:=c6 (by rw[dE];rfl)
  have ap:=Jo (st:=st) (z:=sz.take i) k #[0]
  rw[<- W0 q2]at ap
  obtain⟨b,m⟩:=p
  cases hs with
  |z=>
   rw[show((1:Nat):Int)=1 from rfl]at ap
   refine⟨_,rfl,?_⟩
   apply av
   ·(walk_at "evs")
   apply bn
   ·(walk_at "evs")
   apply bM
   apply bn
   ·(walk_at "evs")
   apply bM
   apply c8
   ·(walk_at "evs")
   ·exact⟨_,_,rfl,_,_,_,rfl,rfl⟩
  |@l a S=>
   rw[show((1+a:Nat):Int)=1+(a:Int) by omega]at ap
   have x1:bp #[4] (oW ((some (i-1),none):Option Nat×Option Nat).fst) #[16]=.ok (.int a) #[16]:=yn (st:=st) [] ha.1
   refine⟨_,rfl,?_⟩
   apply av
   ·(walk_at "evs")
   apply av
   ·apply cC
    ·(walk_at "evs")
    ·(walk_at "evs")
   apply bn
   ·(walk_at "evs")
   apply bM
   apply c8
   ·(walk_at "evs")
   ·exact⟨_,_,rfl,_,_,_,rfl,rfl⟩
  |@r a S=>
   rw[show((1+a:Nat):Int)=1+(a:Int) by omega]at ap
   have x1:bp #[4] (oW ((none,some (i-1)):Option Nat×Option Nat).snd) #[16]=.ok (.int a) #[16]:=yn (st:=st) [] ha.1
   refine⟨_,rfl,?_⟩
   apply av
   ·(walk_at "evs")
   apply bn
   ·(walk_at "evs")
   apply bM
   apply av
   ·apply cC
    ·(walk_at "evs")
    ·(walk_at "evs")
   apply c8
   ·(walk_at "evs")
   ·exact⟨_,_,rfl,_,_,_,rfl,rfl⟩
  |@b c a S=>
   have x1:bp #[4] (oW ((some (i-1-c),some (i-1)):Option Nat×Option Nat).snd) #[16]=.ok (.int c) #[16]:=yn (st:=st) [] ha.1
   have x2:=yn (st:=st) [] ha.2.2.2.1
   rw[show i-c-1=i-1-c by omega]at x2
   have x2:bp #[4] (oW ((some (i-1-c),some (i-1)):Option Nat×Option Nat).fst) #[16]=.ok (.int a) #[16]:=x2
   rw[show((1+c+a:Nat):Int)=1+(a:Int)+(c:Int) by omega]at ap
   refine⟨_,rfl,?_⟩
   apply av
   ·(walk_at "evs")
   apply av
   ·apply cC
    ·(walk_at "evs")
    ·(walk_at "evs")
   apply av
   ·apply cC
    ·(walk_at "evs")
    ·(walk_at "evs")
   apply c8
   ·(walk_at "evs")
   ·exact⟨_,_,rfl,_,_,_,rfl,rfl⟩
 ·rintro ρ be ⟨o2,o3,o4,rfl,rfl⟩
  have hc:(st++[am.lst (cO (sz.take (lk.map jg,(none:Option (Nat×List W))).1.length))])[st.length]?=some (.lst (cO sz)):=by
   rw[dE]
   show some (am.lst (cO (sz.take (lk.map jg).length)))=_
   rw[bD (by simp;omega)]
  apply bH
  ·(repeat' (first|with_reducible exact mP (bB hc)|walk_at "ev1"))
  ·exact⟨_,_,rfl,rfl,_,rfl⟩
end
structure Em(ps:List Pl)(sz:List Nat)(q:Nat)(p:Pl)(L R:Nat):Prop where
 hp:ps[q]?=some p
 hz:sz[q]?=some (1+L+R)
 le:L+R<=q
 b3:p.b<=3
 hL:0<L↔p.b%2=1
 hR:0<R↔2<=p.b
 hr:2<=p.b->1<=q/\sz[q-1]?=some R
theorem Em.lt{ps:List Pl}{sz:List Nat}{p:Pl}{R:Nat}(c:Em ps sz q p L R):q<ps.length:=(ar.mp c.hp).1
theorem jJ(a b:List Pl)(h:(a++b).length<=100000)(st:List am):cq (bw a) (bw b) st=.ok (bw (a++b)) st:=by
 unfold bw
 rw[Hk (by rw[<- aV,az];show _<=1000000;omega),<- aV]
theorem Nx{z:List Nat}{a:Nat}(h:z[q]?=some a)(st:List am):bp (.tup (cO z)) (.int q) st=.ok (.int a) st:=mB (fP (by unfold cO;rw[aC,h];rfl))
theorem wA{a:List Pl}{q:Nat}(h:q<=a.length)(st:List am):wU (bw a) none (some (q:Int)) st=.ok (bw (a.take q)) st:=by
 unfold bw;rw[AN,nS (by simpa using h),mV]
theorem wB{a:List Pl}{q:Nat}(h:q<=a.length)(st:List am):wU (bw a) (some (q:Int)) none st=.ok (bw (a.drop q)) st:=by
 unfold bw;rw[AN,sf (by simpa using h),mW]
theorem CZ{a:List Pl}{i j:Nat}(hj:j<=a.length)(hi:i<=j)(st:List am):wU (bw a) (some (i:Int)) (some (j:Int)) st=.ok (bw ((a.drop i).take (j-i))) st:=by
 unfold bw;rw[AN,Hl (by simpa using hj) hi,mV,mW]
section
variable{ps:List Pl}{sz:List Nat}{lk:List #[9]}{p:Pl}{R:Nat}
theorem wC(h:q<ps.length)(st:List am):zq [bw ps,.int q] st=.ok .non st:=by
 have d1:decide ((q:Int)<0)=false:=aU #[0]
 have d2:decide ((ps.length:Int)<=(q:Int))=false:=aU #[0]
 have hl:=fS ps st
 refine AO (N:=2) (ws:=[bw ps,.int q]) (body:=Qj) ?_
 apply lE
 ·apply mz
  ·(walk_at "evs")
  ·(walk_at "evs")
 apply c8
 ·(walk_at "evs")
 ·exact⟨_,_,rfl,[],by simp⟩
theorem Bo{z:Int}(h:z<0\/(ps.length:Int)<=z)(st:List am):zq [bw ps,.int z] st=.ex "NoPlace" st:=by
 have hl:=fS ps st
 refine fZ (N:=2) (ws:=[bw ps,.int z]) (body:=Qj) ?_
 by_cases h0:z<0
 ·have d1:decide (z<0)=true:=a_ h0
  apply pS
  ·apply y4
   (walk_at "evs")
  apply tX
  exact⟨_,_,rfl,[],by simp⟩
 ·have d1:decide (z<0)=false:=aU h0
  have d2:decide ((ps.length:Int)<=z)=true:=a_ #[0]
  apply pS
  ·apply mz
   ·(walk_at "evs")
   ·(walk_at "evs")
  apply tX
  exact⟨_,_,rfl,[],by simp⟩
theorem Jp(h:n<=100)(st:List am):Fp [.int n] st=.ok .non st:=by
 have d1:decide ((100:Int)<(n:Int))=false:=aU #[0]
 refine AO (N:=1) (ws:=[.int n]) (body:=IV) ?_
 simp only[IV,ko]
 apply lE
 ·(walk_at "evs")
 apply c8
 ·(walk_at "evs")
 ·exact⟨_,_,rfl,[],by simp⟩
theorem LH(h:100<n)(st:List am):Fp [.int n] st=.ex "TooGreat" st:=by
 have d1:decide ((100:Int)<(n:Int))=true:=a_ #[0]
 refine fZ (N:=1) (ws:=[.int n]) (body:=IV) ?_
 simp only[IV,ko]
 apply pS
 ·(walk_at "evs")
 apply tX
 exact⟨_,_,rfl,[],by simp⟩
theorem LI(h:Gr ps S sz lk)(hn:ps.length<=900)(c:Em ps sz q p L R)(st:List am):wm [bw ps,.int q] st=.ok (bw ((ps.drop (q-L-R)).take (1+L+R))) st:=by
 have hq:=c.lt
 have lq:=c.le
 have h1:=wC hq st
 have h2:=Bn h hn st
 have h3:=Nx c.hz st
 have h4:=CZ (a:=ps) (i:=q-L-R) (j:=q+1) #[0] #[0] st
 rw[show q+1-(q-L-R)=1+L+R by omega,show((q-L-R:Nat):Int)=(q:Int)+1-((1+L+R:Nat):Int) by omega,show((q+1:Nat):Int)=(q:Int)+1 from rfl]at h4
 refine eM (N:=2) (ws:=[bw ps,.int q]) (body:=IW) ?_ (by simp[undWs,kQ])
 apply av
 ·(walk_at "evs")
 apply bH
 ·apply m9
  ·(walk_at "evs")
  ·(walk_at "evs")
  ·(walk_at "evs")
  ·exact h4
 ·exact⟨_,_,rfl,rfl,[],by simp⟩
theorem LJ{z:Int}(h:z<0\/(ps.length:Int)<=z)(st:List am):wm [bw ps,.int z] st=.ex "NoPlace" st:=by
 refine fZ (N:=2) (ws:=[bw ps,.int z]) (body:=IW) ?_
 apply fm
 ·apply qp
  apply ku
  ·(walk_at "evs")
  ·exact Bo h st
  ·rfl
 ·exact⟨_,_,rfl,[],by simp⟩
theorem Jq(h:Gr ps S sz lk)(hn:ps.length<=900)(c:Em ps sz q p L R)(st:List am):qL [bw ps,.int q] st=.ok (.tup [bw ((ps.drop (q-L-R)).take L),bw ((ps.drop (q-R)).take R)]) st:=by
 have hq:=c.lt
 have lq:=c.le
 have h1:=LI h hn c st
 have h2:=Bn h hn st
 have h3:=sE c.hp st
 have h4:=Bf c.b3 st
 have hl:wU (bw ((ps.drop (q-L-R)).take (1+L+R))) none (some (-1)) st=.ok (bw ((ps.drop (q-L-R)).take (L+R))) st:=by
  unfold bw
  rw[AN,Hm,<- List.map_dropLast,pz,aJ,b8,qi,show min (min (1+L+R) (ps.length-(q-L-R))-1) (1+L+R)=L+R by omega]
 have hbl:((ps.drop (q-L-R)).take (L+R)).length=L+R:=by rw[aJ,b8];omega
 have h5:=fS ((ps.drop (q-L-R)).take (L+R)) st
 rw[hbl]at h5
 have h6:=wA (a:=(ps.drop (q-L-R)).take (L+R)) (q:=L) #[0] st
 have h7:=wB (a:=(ps.drop (q-L-R)).take (L+R)) (q:=L) #[0] st
 rw[qi,gW #[0]]at h6
 rw[List.drop_take,List.drop_drop,show q-L-R+L=q-R by omega,show L+R-L=R by omega]at h7
 have eL:((L+R:Nat):Int)-(R:Int)=(L:Int):=by omega
 refine eM (N:=5) (ws:=[bw ps,.int q]) (body:=IX) ?_ (by simp[undWs,W.und,kQ])
 apply av
 ·apply a8
  apply m9
  ·(walk_at "evs")
  ·(walk_at "evs")
  ·apply m8
   apply uH
   (walk_at "evs")
  ·exact hl
 apply av
 ·(walk_at "evs")
 refine vg (fun ρ be=>ρ=[some (bw ps),some (.int q),some (bw ((ps.drop (q-L-R)).take (L+R))),some (.int R),none]/\be=st) ?_ ?_
 ·by_cases hb:2<=p.b
  ·rw[a_ hb]at h4
   obtain⟨hq1,hz1⟩:=c.hr hb
   have h8:=Nx hz1 st
   rw[show((q-1:Nat):Int)=(q:Int)-1 by omega]at h8
   apply pS
   ·(walk_at "evs")
   apply c8
   ·(walk_at "evs")
   ·exact⟨_,_,rfl,rfl,rfl⟩
  ·rw[aU hb]at h4
   have hR0:R=0:=by have:=c.hR;omega
   apply lE
   ·(walk_at "evs")
   apply c8
   ·(walk_at "evs")
   ·exact⟨_,_,rfl,by subst hR0;rfl,rfl⟩
 ·rintro ρ be ⟨rfl,rfl⟩
  apply av
  ·(walk_at "evs")
  rw[eL]
  apply bH
  ·apply cE
   ·apply ai
    ·apply m9
     ·(walk_at "evs")
     ·(walk_at "evs")
     ·(walk_at "evs")
     ·exact h6
    ·apply ai
     ·apply m9
      ·(walk_at "evs")
      ·(walk_at "evs")
      ·(walk_at "evs")
      ·exact h7
     ·(walk_at "evs")
   ·(walk_at "evs")
  ·exact⟨_,_,rfl,rfl,[],by simp⟩
end
noncomputable def qt(l:List Pl):Nat:=if 0<l.length then 1 else 0
theorem Jr(a b:List Pl)(m:List Nat)(h:a.length+b.length<=5000)(st:List am):D7 [bw a,bw b,.str m] st=.ok (bw (a++b++[⟨qt a+2*qt b,m⟩])) st:=by
 have h1:=fS a st
 have h2:=fS b st
 have h3:=jJ a b (by simp;omega) st
 have h4:=jJ (a++b) [⟨qt a+2*qt b,m⟩] (by simp;omega) st
 refine eM (N:=4) (ws:=[bw a,bw b,.str m]) (body:=Nb) ?_ (by simp[undWs,kQ])
 apply av
 ·(walk_at "evs")
 refine vg (fun ρ be=>ρ=[some (bw a),some (bw b),some (.str m),some (.int (qt a:Nat))]/\be=st) ?_ ?_
 ·by_cases ha:0<a.length
  ·have d:decide ((0:Int)<(a.length:Int))=true:=a_ #[0]
   apply pS
   ·(walk_at "evs")
   apply c8
   ·(walk_at "evs")
   ·exact⟨_,_,rfl,by simp only[qt,aD ha];rfl,rfl⟩
  ·have d:decide ((0:Int)<(a.length:Int))=false:=aU #[0]
   apply lE
   ·(walk_at "evs")
   apply c8
   ·(walk_at "evs")
   ·exact⟨_,_,rfl,by simp only[qt,aQ ha];rfl,rfl⟩
 rintro ρ be ⟨rfl,rfl⟩
 refine vg (fun ρ st''=>ρ=[some (bw a),some (bw b),some (.str m),some (.int (qt a+2*qt b:Nat))]/\st''=be) ?_ ?_
 ·by_cases hb:0<b.length
  ·have d:decide ((0:Int)<(b.length:Int))=true:=a_ #[0]
   apply pS
   ·(walk_at "evs")
   apply c8
   ·(walk_at "evs")
   ·exact⟨_,_,rfl,by simp only[qt,aD hb];rfl,rfl⟩
  ·have d:decide ((0:Int)<(b.length:Int))=false:=aU #[0]
   apply lE
   ·(walk_at "evs")
   apply c8
   ·(walk_at "evs")
   ·exact⟨_,_,rfl,by simp only[qt,aQ hb];rfl,rfl⟩
 rintro ρ st'' ⟨rfl,rfl⟩
 have h5:cq (bw (a++b)) (.tup [.tup [.int (qt a+2*qt b:Nat),.str m]]) st''=.ok (bw (a++b++[⟨qt a+2*qt b,m⟩])) st'':=h4
 apply bH
 ·(walk_at "evs")
 ·exact⟨_,_,rfl,rfl,[],by simp⟩
noncomputable def C0(ps:List Pl)(q L R:Nat):List Pl:=(ps.drop (q-L-R)).take L
noncomputable def C1(ps:List Pl)(q R:Nat):List Pl:=(ps.drop (q-R)).take R
def J6(ps:List Pl)(q L R:Nat)(m:List Nat)(sd:Bool)(oth:List Pl):List Pl:=
 let l:=if sd then oth else C0 ps q L R
 let r:=if sd then C1 ps q R else oth
 ps.take (q-L-R)++(l++r++[⟨qt l+2*qt r,m⟩])++ps.drop (q+1)
noncomputable def mR(sd:Bool):W:=.str (if sd then[108,101,102,116]else[114,105,103,104,116])
section
variable{ps oth:List Pl}{sz:List Nat}{lk:List #[9]}{p:Pl}{R:Nat}
theorem Em.l0(c:Em ps sz q p L R):(C0 ps q L R).length=L:=by have:=c.lt;have:=c.le;unfold C0;rw[aJ,b8];omega
theorem Em.l1(c:Em ps sz q p L R):(C1 ps q R).length=R:=by have:=c.lt;have:=c.le;unfold C1;rw[aJ,b8];omega
theorem Em.len(c:Em ps sz q p L R)(sd:Bool):(J6 ps q L R p.m sd oth).length+(if sd then L else R)=ps.length+oth.length:=by
 have:=c.lt;have:=c.le;have h0:=c.l0;have h1:=c.l1
 unfold J6
 cases sd
 ·simp[h0];omega
 ·simp[h1];omega
theorem En(h:Gr ps S sz lk)(hn:ps.length<=900)(ho:oth.length<=900)(c:Em ps sz q p L R)(sd:Bool)(st:List am){P:RS->Prop}
  (he:∀o4 o5 o6 o7:Option W,jX P ((aE (cv (bQ 1 Fp (aa (bh cP (aa (af 8) aw)) aw))) (cn (af 8))) [some (bw ps),some (.int q),some (mR sd),some (bw oth),o4,o5,o6,o7,some (bw (J6 ps q L R p.m sd oth))] st)) :
  jX P (A8 ([bw ps,.int q,mR sd,bw oth].map some++List.replicate (9-4) none) st):=by
 have hq:=c.lt
 have lq:=c.le
 have h0:=c.l0
 have h1:=c.l1
 have a1:=Jq h hn c st
 change _=L2.R.ok (W.tup [bw (C0 ps q L R),bw (C1 ps q R)]) st at a1
 have b0:bp (.tup [bw (C0 ps q L R),bw (C1 ps q R)]) (.int 0) st=.ok (bw (C0 ps q L R)) st:=rfl
 have b1:bp (.tup [bw (C0 ps q L R),bw (C1 ps q R)]) (.int 1) st=.ok (bw (C1 ps q R)) st:=rfl
 have n0:=fS (C0 ps q L R) st
 have n1:=fS (C1 ps q R) st
 rw[h0]at n0
 rw[h1]at n1
 have i1:=sE c.hp st
 have i2:=CT p st
 have s1:=wA (a:=ps) (q:=q-L-R) #[0] st
 rw[show((q-L-R:Nat):Int)=(q:Int)-(L:Int)-(R:Int) by omega]at s1
 have s2:=wB (a:=ps) (q:=q+1) #[0] st
 rw[show((q+1:Nat):Int)=(q:Int)+1 from rfl]at s2
 cases sd with
 |true=>
  have q1:hW (mR true) (.str [108,101,102,116]) st=.ok (.bl true) st:=rfl
  have q2:hW (mR true) (.str [114,105,103,104,116]) st=.ok (.bl false) st:=rfl
  have t1:=Jr oth (C1 ps q R) p.m #[0] st
  have t2:=jJ (ps.take (q-L-R)) (oth++C1 ps q R++[⟨qt oth+2*qt (C1 ps q R),p.m⟩]) (by simp;omega) st
  have t3:=jJ (ps.take (q-L-R)++(oth++C1 ps q R++[⟨qt oth+2*qt (C1 ps q R),p.m⟩])) (ps.drop (q+1)) (by simp;omega) st
  apply av
  ·(walk_at "evs")
  apply av
  ·apply a8
   apply rZ
   ·(walk_at "evs")
   ·(walk_at "evs")
  apply av
  ·apply a8
   apply r6
   ·(walk_at "evs")
   ·(walk_at "evs")
  apply av
  ·(walk_at "evs")
  apply av
  ·(repeat' (first|with_reducible exact s1|with_reducible exact s2|walk_at "ev1"))
  exact he _ _ _ _
 |false=>
  have q1:hW (mR false) (.str [108,101,102,116]) st=.ok (.bl false) st:=rfl
  have q2:hW (mR false) (.str [114,105,103,104,116]) st=.ok (.bl true) st:=rfl
  have t1:=Jr (C0 ps q L R) oth p.m #[0] st
  have t2:=jJ (ps.take (q-L-R)) (C0 ps q L R++oth++[⟨qt (C0 ps q L R)+2*qt oth,p.m⟩]) (by simp;omega) st
  have t3:=jJ (ps.take (q-L-R)++(C0 ps q L R++oth++[⟨qt (C0 ps q L R)+2*qt oth,p.m⟩])) (ps.drop (q+1)) (by simp;omega) st
  apply av
  ·(walk_at "evs")
  apply av
  ·apply a8
   apply r6
   ·(walk_at "evs")
   ·(walk_at "evs")
  apply av
  ·apply a8
   apply rZ
   ·(walk_at "evs")
   ·(walk_at "evs")
  apply av
  ·(walk_at "evs")
  apply av
  ·(repeat' (first|with_reducible exact s1|with_reducible exact s2|walk_at "ev1"))
  exact he _ _ _ _
theorem Rc(h:Gr ps S sz lk)(hn:ps.length<=900)(ho:oth.length<=900)(c:Em ps sz q p L R)(sd:Bool)(st:List am)(hs:(J6 ps q L R p.m sd oth).length<=100):wn [bw ps,.int q,mR sd,bw oth] st=.ok (bw (J6 ps q L R p.m sd oth)) st:=by
 refine eM (N:=9) (ws:=[bw ps,.int q,mR sd,bw oth]) (body:=A8) (En h hn ho c sd st fun o4 o5 o6 o7=>?_) (by simp[undWs,kQ])
 have n:=fS (J6 ps q L R p.m sd oth) st
 have z:=Jp hs st
 apply av
 ·(walk_at "evs")
 apply bH
 ·(walk_at "evs")
 ·exact⟨_,_,rfl,rfl,[],by simp⟩
theorem Fw(h:Gr ps S sz lk)(hn:ps.length<=900)(ho:oth.length<=900)(c:Em ps sz q p L R)(sd:Bool)(st:List am)(hs:100<(J6 ps q L R p.m sd oth).length):wn [bw ps,.int q,mR sd,bw oth] st=.ex "TooGreat" st:=by
 refine fZ (N:=9) (ws:=[bw ps,.int q,mR sd,bw oth]) (body:=A8) (En h hn ho c sd st fun o4 o5 o6 o7=>?_)
 have n:=fS (J6 ps q L R p.m sd oth) st
 have z:=LH hs st
 apply fm
 ·apply qp
  apply ku
  ·(walk_at "evs")
  ·exact z
  ·rfl
 ·exact⟨_,_,rfl,[],by simp⟩
theorem Re{z:Int}(h:z<0\/(ps.length:Int)<=z)(sd oth:W)(st:List am):wn [bw ps,.int z,sd,oth] st=.ex "NoPlace" st:=by
 have hb:qL [bw ps,.int z] st=.ex "NoPlace" st:=by
  refine fZ (N:=5) (ws:=[bw ps,.int z]) (body:=IX) ?_
  refine fm (c:="NoPlace") (ρ':=[some (bw ps),some (.int z),none,none,none]) (st1:=st) ?_ ⟨_,_,rfl,[],by simp⟩
  refine sg ?_
  have e:bQ 2 wm (aa (af 0) (aa (af 1) aw)) [some (bw ps),some (.int z),none,none,none] st=.ex "NoPlace" st:=ku (ai kv kn) (LJ h st) rfl
  unfold q_
  change (bQ 2 wm (aa (af 0) (aa (af 1) aw)) [some (bw ps),some (.int z),none,none,none] st).bind _=_
  rw[e]
  rfl
 refine fZ (N:=9) (ws:=[bw ps,.int z,sd,oth]) (body:=A8) ?_
 apply fm
 ·apply sg
  apply ku
  ·(walk_at "evs")
  ·exact hb
  ·rfl
 ·exact⟨_,_,rfl,[],by simp⟩
end
theorem LK{l:List α}{x d:α}(h:l[i]?=some x):l.getD i d=x:=by rw[aA,h];rfl
section
variable{ps:List Pl}{sz:List Nat}{lk:List #[9]}{M:Mc}
noncomputable def yo(R:List Nat)(q:Nat):W:=.int ((R.getD q 0:Nat):Int)
theorem Eo(h:Gr ps S sz lk)(hl:ps.length<=900)(hM:lj M n)(hn:1<=n)(st:List am) :
  ∃x,yb [M.w,bw ps] st=.ok (.loc (st.length+1)) (st++x)/\x[1]?=some (.lst (nW (fT M ps lk))):=by
 suffices hh:jX (y9 fun w be=>∃j x,w=.loc (st.length+j)/\be=st++x/\j=1/\x[1]?=some (.lst (nW (fT M ps lk)))) (Nl ([M.w,bw ps].map some++List.replicate (8-2) none) st) by
  obtain⟨j,x,⟨rfl,hx⟩,e⟩:=se hh
  exact⟨x,e,hx⟩
 obtain⟨l1,l2,_⟩:=h.ok
 obtain⟨rl,rlt⟩:=ny (M:=M) h hM hn
 have rat:=fun{i:Nat} {p:Pl} {x:Option Nat×Option Nat}=>Jk (M:=M) (i:=i) (p:=p) (x:=x) h hM hn
 generalize fT M ps lk=R at *
 apply av
 ·exact a8 (k6 aG (ag rfl))
 apply av
 ·exact a8 (k6 aG (ag rfl))
 have l3:(st++[am.lst []]).length=st.length+1:=by simp
 rw[l3]
 refine fJ (fun i ρ s=>∃(S1:List Nat) (o4 o5 o6 o7:Option W),ρ=[some M.w,some (bw ps),some #[4],some (.loc (st.length+1)),o4,o5,o6,o7]/\s=st++[.lst ((jy S1 i).map (yo R)).reverse,.lst (nW (R.take i))]/\Gr (ps.take i) S1 (sz.take i) (lk.take i)/\i<=ps.length)
  (k:=(ps.map Pl.w,none)) (st1:=(st++[am.lst []])++[am.lst []]) (y7 kv) ⟨[],none,none,none,none,rfl,by rw[aj];rfl,.nil,b7 _⟩ (fun _ _ _ _=>trivial) ?_ ?_
 ·rintro i w ρ s hw ⟨S1,o4,o5,o6,o7,rfl,rfl,hg,hi⟩
  have hip:i<ps.length:=by have:=(ar.mp hw).1;simpa using this
  obtain⟨S1',S2,p,k,x,g1,q1,q2,q3,hs,g2⟩:=h.step i hip
  have hw:w=p.w:=by
   simp only at hw
   rw[aC,q1]at hw
   exact(bq hw).symm
  subst hw
  refine⟨_,rfl,?_⟩
  have hS:=hg.det g1 rfl
  subst hS
  obtain⟨lz,ll,ha⟩:=g1.ok
  have hti:(ps.take i).length=i:=by rw[aJ];omega
  rw[hti]at ha lz ll
  have hSl:=ha.le
  have hR:=rat q1 q3
  have hlo:Jg R.length x:=⟨fun j e=>by have:=(h.lk q3).1 j e;omega,fun j e=>by have:=(h.lk q3).2 j e;omega⟩
  obtain⟨t,r,f1,f2,f3,_⟩:=CY (m:=p.m) hM hn rlt hlo
  have hRt:R.take (i+1)=R.take i++[vi M R p.m x]:=by rw[jP,hR];rfl
  have pop:∀(A:List W) (B:List Nat) (q:Nat),m6 #[4] [] (st++[.lst ((q::B).map (yo R)).reverse,.lst A])=.ok (yo R q) (st++[.lst (B.map (yo R)).reverse,.lst A]):=fun A B q=>by
   have hc:(st++[am.lst ((q::B).map (yo R)).reverse,.lst A])[st.length]?=some (.lst ((B.map (yo R)).reverse++[yo R q])):=by rw[dE];simp
   rw[v9 hc,fE];rfl
  have isl0:∀(A:List W) (B:List W),ly (st++[.lst A,.lst B]) #[4]=true:=fun A B=>c6 (by rw[dE];rfl)
  have T1:∀(k:Bool) (ρ:cf) (s:List am),decide ((2:Int)<=(p.b:Int))=k->ρ[4]?=some (some (.int p.b))->dm (e2 Pk (af 4) (eI 2)) ρ s=.ok k s:=fun k ρ s e h4=>aL (bd (gK h4) bf (AM e))
  have T2:∀(k:Bool) (ρ:cf) (s:List am),(((p.b:Int)%2)==1)=k->ρ[4]?=some (some (.int p.b))->dm (e2 hW (e2 gH (af 4) (eI 2)) (eI 1)) ρ s=.ok k s:=fun k ρ s e h4=>aL (bd (bd (gK h4) bf (im #[3])) bf (ec e))
  have put:∀(u v:W) (B:List Nat),u=.int (zy R x.1:Nat)->v=.int (zy R x.2:Nat)->B.length<1001->i::B=jy S2 (i+1) ->
    jX (Ls (fun ρ s=>∃(S1:List Nat) (o4 o5 o6 o7:Option W),ρ=[some M.w,some (bw ps),some #[4],some (.loc (st.length+1)),o4,o5,o6,o7]/\s=st++[.lst ((jy S1 (i+1)).map (yo R)).reverse,.lst (nW (R.take (i+1)))]/\Gr (ps.take (i+1)) S1 (sz.take (i+1)) (lk.take (i+1))/\i+1<=ps.length))
     (aE (cv (jR bv (af 2) (aa (e2 bp (e2 bp (e2 bp (e2 bp (af 0) (eI 2)) (bQ 2 Be (aa (e2 bp (af 0) (eI 0)) (aa (af 5) aw)))) (af 6)) (af 7)) aw))) (cv (jR bv (af 3) (aa (e2 bp (af 2) (vS (eI 1))) aw)))
      [some M.w,some (bw ps),some #[4],some (.loc (st.length+1)),some (.int p.b),some (.str p.m),some u,some v] (st++[.lst (B.map (yo R)).reverse,.lst (nW (R.take i))])):=by
   rintro u v B rfl rfl hB hT
   have hc:(st++[am.lst (B.map (yo R)).reverse,.lst (nW (R.take i))])[st.length]?=some (.lst (B.map (yo R)).reverse):=by rw[dE];rfl
   apply av
   ·exact dO (il kv (c6 hc) (ai (bd (bd (bd kx (bT (ai kx kn) (CW M.nm p.m _) rfl) (Ji f1 _)) kv (Je f2)) kv (Jd f3)) aG) (oG hc (by rw[List.length_reverse,az];show _<1000000;omega)))
   rw[fE]
   have hc1:(st++[am.lst (B.map (yo R)).reverse,.lst (nW (R.take i))].set 0 (.lst ((B.map (yo R)).reverse++[W.int (vi M R p.m x:Nat)])))[st.length]?=some (.lst ((B.map (yo R)).reverse++[W.int (vi M R p.m x:Nat)])):=by rw[dE];rfl
   have hc2:(st++[am.lst (B.map (yo R)).reverse,.lst (nW (R.take i))].set 0 (.lst ((B.map (yo R)).reverse++[W.int (vi M R p.m x:Nat)])))[st.length+1]?=some (.lst (nW (R.take i))):=by rw[gC];rfl
   have last:tz ((B.map (yo R)).reverse++[W.int (vi M R p.m x:Nat)]) (-1)=some (.int (vi M R p.m x:Nat)):=y8 (q:=0) (by rw[List.reverse_append];rfl)
   refine c8 (dO (il kv (c6 hc2) (ai (bd kv (uH bf) (jI (bB hc1) last)) aG) (oG hc2 (by simp[nW];show _<1000000;omega)))) ?_
   refine⟨_,_,rfl,S2,_,_,_,_,rfl,?_,g2,by omega⟩
   rw[lD,<- hT,hRt]
   have:yo R i=.int (vi M R p.m x:Nat):=by unfold yo;rw[LK hR]
   simp[nW,this]
  apply av
  ·exact a8 bf
  apply av
  ·exact a8 bf
  obtain⟨b,m⟩:=p
  cases hs with
  |@z=>
   apply bn
   ·exact T1 false _ _ rfl rfl
   apply bM
   apply bn
   ·exact T2 false _ _ rfl rfl
   apply bM
   exact put _ _ (jy S1 i) rfl rfl (by rw[iH];omega) rfl
  |@l a S=>
   apply bn
   ·exact T1 false _ _ rfl rfl
   apply bM
   apply av
   ·exact cC (T2 true _ _ rfl rfl) (a8 (il kv (isl0 _ _) aG (pop _ (jy S (i-a)) (i-1))))
   exact put _ _ (jy S (i-a)) rfl rfl (by rw[iH];simp at hSl;omega) (by simp only[jy];congr 1;congr 1;omega)
  |@r a S=>
   apply av
   ·exact cC (T1 true _ _ rfl rfl) (a8 (il kv (isl0 _ _) aG (pop _ (jy S (i-a)) (i-1))))
   apply bn
   ·exact T2 false _ _ (by show((2:Int)%2==1)=false;decide) rfl
   apply bM
   exact put _ _ (jy S (i-a)) rfl rfl (by rw[iH];simp at hSl;omega) (by simp only[jy];congr 1;congr 1;omega)
  |@b c a S=>
   apply av
   ·exact cC (T1 true _ _ rfl rfl) (a8 (il kv (isl0 _ _) aG (pop _ (jy (a::S) (i-c)) (i-1))))
   apply av
   ·exact cC (T2 true _ _ (by show((3:Int)%2==1)=true;decide) rfl) (a8 (il kv (isl0 _ _) aG (pop _ (jy S (i-c-a)) (i-c-1))))
   exact put _ _ (jy S (i-c-a)) (by show yo R _=W.int ((R.getD (i-1-c) 0:Nat):Int);rw[show i-1-c=i-c-1 by omega];rfl) rfl (by rw[iH];simp at hSl;omega) (by simp only[jy];congr 1;congr 1;omega)
 ·rintro ρ s ⟨S1,o4,o5,o6,o7,rfl,rfl,hg,hi⟩
  apply bH
  ·exact gK rfl
  ·refine⟨_,_,rfl,1,_,rfl,rfl,rfl,?_⟩
   rw[show(ps.map Pl.w,(none:Option (Nat×List W))).fst.length=R.length by simp[rl],dJ]
   rfl
theorem Js(h:Gr ps S sz lk)(hl:ps.length<=900)(hM:lj M n)(hn:1<=n)(st:List am):Ed [M.w,bw ps] st=.ok (.bl (LG M ps lk)) st:=by
 refine eM (N:=2) (ws:=[M.w,bw ps]) (body:=Nm) ?_ rfl
 have ll:=fS ps st
 have tl:=Q9 (M:=M) h hM hn
 unfold LG
 by_cases z:0<ps.length
 ·refine bn (aL (bd (bE kn ll) bf (ec (by rw[ba];omega)))) ?_
  refine bM ?_
  rw[aD z]at tl ⊢
  obtain⟨x,e,hx⟩:=Eo h hl hM hn st
  have hx2:(st++x)[st.length+1]?=some (.lst (nW (fT M ps lk))):=by rw[gC];exact hx
  refine bH (bd kx (bd (bT (ai kv kn) e rfl) (uH bf) (jI (bB hx2) (y8 (q:=0) (x:=.int (Bm M ps lk:Nat)) ?_))) (Jl hM tl _)) ⟨_,_,rfl,rfl,_,rfl⟩
  have rl:=(ny (M:=M) h hM hn).1
  unfold nW
  rw[hV (by rw[az];omega),az,aC,rl,show ps.length-1-0=ps.length-1 by omega,al #[0]]
  show some (W.int _)=some (W.int _)
  unfold Bm
  rw[aA,al #[0]];rfl
 ·rw[aQ z]
  refine dF (aL (bd (bE kn ll) bf (ec (by rw[cI];omega)))) ?_
  exact dy (bd kx bf (Jl (k:=0) hM hn st)) ⟨_,_,rfl,rfl,[],by simp⟩
end
theorem C2(nm:List Nat)(n ii dl:Nat)(ds:List Int)(st:List am)(UX:nm.length<=6)(hn:1<=n)(XB:n<=9)(RI:1<=ii)(Xz:ii<=n)(hd:st[dl]?=some (.lst (yh ds)))(N0:n+2^nm.length*(n*n)<=ds.length) :
  ∃M:Mc,M.nm=nm/\lj M n/\Ec [.str nm,.int n,.int ii,.loc dl] st=.ok M.w st:=by
 suffices hh:jX (y9 fun w be=>(∃x,be=st++x)/\undWs st.length [w]=true/\∃M:Mc,w=M.w/\M.nm=nm/\lj M n) (Nj ([W.str nm,.int n,.int ii,.loc dl].map some++List.replicate (10-4) none) st) by
  obtain⟨w,⟨M,rfl,h1,h2⟩,e⟩:=r_ hh
  exact⟨M,h1,h2,e⟩
 have fX:∀s:List am,cP [.str nm] s=.ok (.int nm.length) s:=fun s=>y6 (by show _<=1000000;omega)
 have p2:2^nm.length<=64:=Nat.pow_le_pow_right #[0] UX
 obtain⟨N,hN⟩:∃N,N=2^nm.length:=⟨_,rfl⟩
 have sh:∀s:List am,Av (.int 1) (.int nm.length) s=.ok (.int N) s:=fun s=>by rw[hN];exact Gu #[0]
 rw[<- hN]at p2 N0
 have hdn:n<=ds.length:=by omega
 obtain⟨gd,hgl,_,eg⟩:=Ja (cap:=[none,some 3]) (ρ:=[some (.str nm),iO n,iO ii,lO dl,none,none,none,none,none,none]) (st:=st) (fs:=aa (af 1) aw) (n:=n)
  (el:=e2 hW (e2 gH (e2 bp (af 1) (af 0)) (eI 2)) (eI 1)) W.bl (fun _ _=>True) kn #[0] fun q hq=>by
   obtain⟨d,hdd⟩:∃d,ds[q]?=some d:=⟨_,al #[0]⟩
   exact⟨_,trivial,bd (bd (bd kv kv (sH hd hdd)) bf (im #[3])) bf (ec rfl)⟩
 apply av
 ·exact a8 eg
 generalize hs0:st++[am.lst (gd.map W.bl)]=s0
 have hst0:st <+: s0:=by rw[<- hs0];exact aX _ _
 apply av
 ·(walk_at "evs")
 apply av
 ·(walk_at "evs")
 refine fJ (fun i ρ s=>∃(tb:List (List (List Nat))) (a:Nat) (o7 o8 o9:Option W),ρ=[some (.str nm),iO n,iO ii,lO dl,some (.tup (gd.map W.bl)),lO s0.length,iO a,o7,o8,o9]/\s0 <+: s/\s[s0.length]?=some (.lst (tb.map xq))/\tb.length=i/\(∀t∈tb,WZ n t)/\a+(N-i)*(n*n)<=ds.length)
  (iY (q:=(N:Int)) (st1:=s0++[am.lst []]) (ai (bd bf (bE kn (fX _)) (sh _)) aG) #[0])
  ⟨[],n,none,none,none,rfl,aX _ _,cK,rfl,by simp,by simpa using N0⟩ (fun _ _ _ _=>trivial) ?_ ?_
 ·rintro i w ρ s hw ⟨tb,a,o7,o8,o9,rfl,hp,hc,hl,ht,hal⟩
  obtain⟨hi,rfl⟩:=jY hw
  rw[b9]at hi
  refine⟨_,rfl,?_⟩
  rw[show N-i=(N-(i+1))+1 by omega,Nat.succ_mul]at hal
  apply av
  ·(walk_at "evs")
  refine fJ (fun j ρ z=>∃(zM:List (List Nat)) (a:Nat) (o9:Option W),ρ=[some (.str nm),iO n,iO ii,lO dl,some (.tup (gd.map W.bl)),lO s0.length,iO a,iO (0+(i:Int)),lO s.length,o9]/\s <+: z/\z[s.length]?=some (.lst (zM.map fW))/\zM.length=j/\(∀r∈zM,r.length=n/\∀k∈r,k<n)/\a+((N-(i+1))*(n*n)+(n-j)*n)<=ds.length)
   (iY (q:=(n:Int)) (st1:=s++[am.lst []]) (by(walk_at "evs")) #[0]) ⟨[],a,_,rfl,aX _ _,cK,rfl,by simp,by simpa using hal⟩ (fun _ _ _ _=>trivial) ?_ ?_
  ·rintro j w ρ z hw ⟨zM,a,o9,rfl,hz,hcz,hrl,hr,hal⟩
   obtain⟨hj,rfl⟩:=jY hw
   rw[b9]at hj
   refine⟨_,rfl,?_⟩
   rw[show n-j=(n-(j+1))+1 by omega,Nat.succ_mul]at hal
   have pt:(0:Int)<(ii:Int):=by omega
   obtain⟨r,hrn,hrb,er⟩:=Ja (cap:=[none,some 2,some 3,some 6]) (ρ:=[some (.str nm),iO n,iO ii,lO dl,some (.tup (gd.map W.bl)),lO s0.length,iO a,iO (0+(i:Int)),lO s.length,iO (0+(j:Int))]) (st:=z) (fs:=aa (af 1) aw) (n:=n)
    (el:=e2 gH (e2 bp (af 2) (e2 cq (af 3) (af 0))) (af 1)) (fun k:Nat=>W.int (k:Nat)) (fun _ k=>k<n) kn #[0] fun q hq=>by
     obtain⟨d,hdd⟩:∃d,ds[a+q]?=some d:=⟨_,al #[0]⟩
     obtain⟨k,hk,ek⟩:=fY (q:=d) (n:=ii) #[0]
     refine⟨k,by omega,?_⟩
     rw[<- ek]
     exact bd (bd kv (bd kv kv du) (sH (pre_get (hst0.trans (hp.trans hz)) hd) hdd)) kv (im pt)
   have ap:=lG (y:=fW r) (pre_get (s:=z++[.lst (r.map fun k:Nat=>W.int k)]) (aX _ _) hcz) (by rw[az];omega)
   apply av
   ·exact dO (il kv (c6 hcz) (ai er aG) ap)
   apply c8
   ·exact a8 (bd kv kv du)
   ·refine⟨_,_,rfl,zM++[r],a+n,_,rfl,sF (zw hz) (ax _),?_,by simp[hrl],?_,by omega⟩
    ·rw[dQ (pre_get (aX _ _) hcz)];simp
    ·intro x hx
     rcases aP.mp hx with y|y
     ·exact hr x y
     ·simp at y;subst y
      refine⟨hrn,fun k hk=>?_⟩
      obtain⟨q,hq⟩:=List.getElem?_of_mem hk
      exact hrb q k hq
  ·rintro ρ z ⟨zM,a,o9,rfl,hz,hcz,hrl,hr,hal⟩
   have hrl:zM.length=n:=by rw[hrl];simp[ef]
   have hcp:=pre_get hz hc
   have ap:=lG (y:=xq zM) hcp (by rw[az,hl];omega)
   apply c8
   ·exact dO (il kv (c6 hcp) (ai (bE kn (mP (bB hcz))) aG) ap)
   ·refine⟨_,_,rfl,tb++[zM],a,_,_,_,rfl,sF (hp.trans hz) (ax _),?_,by simp[hl],?_,by omega⟩
    ·rw[dQ hcp];simp
    ·intro x hx
     rcases aP.mp hx with y|y
     ·exact ht x y
     ·simp at y;subst y
      exact⟨hrl,hr⟩
 ·rintro ρ s ⟨tb,a,o7,o8,o9,rfl,hp,hc,hl,ht,hal⟩
  have hl:tb.length=N:=by rw[hl];simp[ef]
  obtain⟨x,rfl⟩:=hst0.trans hp
  apply bH
  ·exact cE (ai kv (ai kv (ai (bE kn (mP (bB hc))) aG))) (ag rfl)
  ·exact⟨_,_,rfl,⟨_,rfl⟩,by simp only[undWs,dg];exact Jc ⟨nm,gd,tb⟩ _,⟨nm,gd,tb⟩,rfl,rfl,hgl,by rw[hl,hN],ht⟩
inductive MT where
 |nil
 |nd (l r:MT) (m:List Nat)
namespace MT
noncomputable def one:MT->Nat
 |nil=>0
 |nd _ _ _=>1
noncomputable def size:MT->Nat
 |nil=>0
 |nd l r _=>l.size+r.size+1
noncomputable def po:MT->List Pl
 |nil=>[]
 |nd l r m=>l.po++r.po++[⟨l.one+2*r.one,m⟩]
noncomputable def tp:MT->Nat->Option Nat
 |nil,_=>none
 |nd l r _,o=>some (o+l.size+r.size)
noncomputable def lkT:MT->Nat->List #[9]
 |nil,_=>[]
 |nd l r _,o=>l.lkT o++r.lkT (o+l.size)++[(l.tp o,r.tp (o+l.size))]
noncomputable def szT:MT->List Nat
 |nil=>[]
 |nd l r _=>l.szT++r.szT++[l.size+r.size+1]
theorem po_len:∀t:MT,t.po.length=t.size
 |nil=>rfl
 |nd l r m=>by unfold po size;rw[ah,ah,po_len l,po_len r];rfl
theorem sz_len:∀t:MT,t.szT.length=t.size
 |nil=>rfl
 |nd l r m=>by unfold szT size;rw[ah,ah,sz_len l,sz_len r];rfl
theorem lk_len:∀(t:MT) (o:Nat),(t.lkT o).length=t.size
 |nil,_=>rfl
 |nd l r m,o=>by unfold lkT size;rw[ah,ah,lk_len l,lk_len r];rfl
theorem size_nd(l r:MT)(m:List Nat):(nd l r m).size=l.size+r.size+1:=rfl
theorem tp_nd(l r:MT)(m:List Nat)(o:Nat):(nd l r m).tp o=some (o+(nd l r m).size-1):=by
 show some (o+l.size+r.size)=_
 rw[size_nd];congr 1;omega
theorem Wv(l r:MT)(m:List Nat)(o k:Nat):(nd l r m).tp o=some (o+(nd l r m).size+k-1-k):=by
 rw[tp_nd,size_nd];congr 1;omega
def cs(S:List Nat):MT->List Nat
 |nil=>S
 |nd l r m=>(nd l r m).size::S
theorem gr:∀(t:MT) {ps:List Pl} {S sz:List Nat} {lk:List #[9]},Gr ps S sz lk->Gr (ps++t.po) (t.cs S) (sz++t.szT) (lk++t.lkT ps.length)
 |nil,ps,S,sz,lk,h=>by
  show Gr (ps++[]) S (sz++[]) (lk++[])
  rw[a7,a7,a7];exact h
 |nd l r m,ps,S,sz,lk,h=>by
  have h1:=gr l h
  have h2:=gr r h1
  rw[ah,po_len]at h2
  unfold po szT lkT
  rw[<- aj,<- aj,<- aj,<- aj,<- aj,<- aj]
  refine .snoc h2 ?_
  rw[ah,ah,po_len,po_len]
  cases l with
  |nil=>
   cases r with
   |nil=>exact .z
   |nd r1 r2 rm=>
    have:=St.r (n:=ps.length+(nil:MT).size+(nd r1 r2 rm).size) (a:=(nd r1 r2 rm).size) (S:=S)
    have e:(none,(nd r1 r2 rm).tp (ps.length+(nil:MT).size))=((none:Option Nat),some (ps.length+(nil:MT).size+(nd r1 r2 rm).size-1)):=by rw[tp_nd]
    show St _ _ 2 _ _ (none,_)
    rw[e,show(nil:MT).size+(nd r1 r2 rm).size+1=1+(nd r1 r2 rm).size by simp only[size];omega]
    show St _ _ 2 ((nil.size+(nd r1 r2 rm).size+1)::S) _ _
    rw[show(nil:MT).size+(nd r1 r2 rm).size+1=1+(nd r1 r2 rm).size by simp only[size];omega]
    exact this
  |nd l1 l2 lm=>
   cases r with
   |nil=>
    have:=St.l (n:=ps.length+(nd l1 l2 lm).size+(nil:MT).size) (a:=(nd l1 l2 lm).size) (S:=S)
    have e:((nd l1 l2 lm).tp ps.length,(none:Option Nat))=(some (ps.length+(nd l1 l2 lm).size+(nil:MT).size-1),none):=by rw[tp_nd];rfl
    show St _ _ 1 ((_+1)::S) _ (_,none)
    rw[e,show(nd l1 l2 lm).size+(nil:MT).size+1=1+(nd l1 l2 lm).size by simp only[size];omega]
    exact this
   |nd r1 r2 rm=>
    have:=St.b (n:=ps.length+(nd l1 l2 lm).size+(nd r1 r2 rm).size) (c:=(nd r1 r2 rm).size) (a:=(nd l1 l2 lm).size) (S:=S)
    have e:((nd l1 l2 lm).tp ps.length,(nd r1 r2 rm).tp (ps.length+(nd l1 l2 lm).size))=(some (ps.length+(nd l1 l2 lm).size+(nd r1 r2 rm).size-1-(nd r1 r2 rm).size),some (ps.length+(nd l1 l2 lm).size+(nd r1 r2 rm).size-1)):=by rw[tp_nd r1,Wv l1 l2 lm _ (nd r1 r2 rm).size]
    show St _ _ 3 ((_+1)::S) _ _
    rw[e,show(nd l1 l2 lm).size+(nd r1 r2 rm).size+1=1+(nd r1 r2 rm).size+(nd l1 l2 lm).size by omega]
    exact this
theorem gr0(t:MT):Gr t.po (t.cs []) t.szT (t.lkT 0):=by
 have:=gr t Gr.nil
 simpa using this
def Bl:MT->Nat->Nat->Prop
 |nil,_,_=>False
 |nd l r _,q,j=>(q<l.size/\j<l.size/\l.Bl q j)\/(l.size<=q/\q<l.size+r.size/\l.size<=j/\j<l.size+r.size/\r.Bl (q-l.size) (j-l.size))\/(q=l.size+r.size/\j<l.size+r.size)
end MT
end P
namespace P
open PySem L2
def sv(M:Mc)(m:List Nat)(a b:Nat):Nat:=((M.tb.getD (kR m M.nm) []).getD a []).getD b 0
namespace MT
def tR(M:Mc):MT->Nat
 |nil=>0
 |nd l r m=>sv M m (l.tR M) (r.tR M)
def rT(M:Mc):MT->List Nat
 |nil=>[]
 |nd l r m=>l.rT M++r.rT M++[sv M m (l.tR M) (r.tR M)]
theorem rT_len(M:Mc):∀t:MT,(t.rT M).length=t.size
 |nil=>rfl
 |nd l r m=>by unfold rT size;rw[ah,ah,rT_len M l,rT_len M r];rfl
theorem C3(M:Mc)(u w:List Nat):∀t:MT,zy (u++t.rT M++w) (t.tp u.length)=t.tR M
 |nil=>rfl
 |nd l r m=>by
  show(u++(l.rT M++r.rT M++[_])++w).getD (u.length+l.size+r.size) 0=_
  rw[aj,aj,aj,aA,aS #[0],aS (by rw[rT_len];omega),aS (by rw[rT_len,rT_len];omega),rT_len,rT_len,show u.length+l.size+r.size-u.length-l.size-r.size=0 by omega]
  rfl
theorem stp_tp(M:Mc)(u w:List Nat)(l r:MT)(m:List Nat):vi M (u++(l.rT M++r.rT M)++w) m (l.tp u.length,r.tp (u.length+l.size))=sv M m (l.tR M) (r.tR M):=by
 unfold vi sv
 have e1:=C3 M u (r.rT M++w) l
 have e2:=C3 M (u++l.rT M) w r
 rw[ah,rT_len]at e2
 simp only[aj]at e1 e2 ⊢
 rw[e1,e2]
theorem zA(M:Mc):∀(a b:List Pl) (la lb:List #[9]) (r:List Nat),a.length=la.length->Fs M (a++b) (la++lb) r=Fs M b lb (Fs M a la r)
 |[],b,[],lb,r,_=>rfl
 |p::a,b,x::la,lb,r,h=>by
  show Fs M (a++b) (la++lb) _=_
  rw[zA M a b la lb _ (by simpa using h)];rfl
theorem C4(M:Mc):∀(t:MT) (r:List Nat),Fs M t.po (t.lkT r.length) r=r++t.rT M
 |nil,r=>(a7 r).symm
 |nd l r m,u=>by
  show Fs M (l.po++r.po++[_]) (l.lkT u.length++r.lkT (u.length+l.size)++[(l.tp u.length,r.tp (u.length+l.size))]) u=_
  rw[zA M _ _ _ _ _ (by rw[ah,ah,po_len,po_len,lk_len,lk_len]),zA M _ _ _ _ _ (by rw[po_len,lk_len]),C4 M l u]
  have e:=C4 M r (u++l.rT M)
  rw[ah,rT_len]at e
  rw[e]
  show(u++l.rT M++r.rT M)++[vi M (u++l.rT M++r.rT M) m _]=_
  have e2:=stp_tp M u [] l r m
  rw[a7,<- aj]at e2
  rw[e2]
  show _=u++(l.rT M++r.rT M++[_])
  rw[aj,aj,aj]
theorem rooms_po(M:Mc)(t:MT):fT M t.po (t.lkT 0)=t.rT M:=C4 M t []
theorem rT_top(M:Mc)(t:MT)(h:0<t.size):(t.rT M).getD (t.size-1) 0=t.tR M:=by
 have:=C3 M [] [] t
 cases t with
 |nil=>exact absurd h (by decide)
 |nd l r m=>
  rw[dD,a7,tp_nd]at this
  rw[<- this];show _=List.getD _ _ 0
  congr 1
  show _=0+_-1
  omega
end MT
inductive Fm where
 |lf (r:MT) (m:List Nat)
 |rg (l:MT) (m:List Nat)
noncomputable def Fm.ap:Fm->MT->MT
 |.lf r m,x=>.nd x r m
 |.rg l m,x=>.nd l x m
noncomputable def aZ:List Fm->MT->MT
 |[],x=>x
 |f::C,x=>aZ C (f.ap x)
noncomputable def pA:List Fm->List Pl
 |[]=>[]
 |.lf _ _::C=>pA C
 |.rg l _::C=>pA C++l.po
noncomputable def pB:List Fm->List Pl
 |[]=>[]
 |.lf r m::C=>r.po++[⟨1+2*r.one,m⟩]++pB C
 |.rg l m::C=>[⟨l.one+2,m⟩]++pB C
noncomputable def rA(M:Mc):List Fm->List Nat
 |[]=>[]
 |.lf _ _::C=>rA M C
 |.rg l _::C=>rA M C++l.rT M
def rB(M:Mc):List Fm->Nat->List Nat
 |[],_=>[]
 |.lf r m::C,a=>r.rT M++[sv M m a (r.tR M)]++rB M C (sv M m a (r.tR M))
 |.rg l m::C,a=>[sv M m (l.tR M) a]++rB M C (sv M m (l.tR M) a)
theorem c5:∀(C:List Fm) (l r:MT) (m:List Nat),#[1].po=pA C++(MT.nd l r m).po++pB C
 |[],l,r,m=>by show _=[]++_++[];rw[dD,a7];rfl
 |.lf y w::C,l,r,m=>by
  show(aZ C (.nd (.nd l r m) y w)).po=_
  rw[c5 C]
  show pA C++((MT.nd l r m).po++y.po++[⟨1+2*y.one,w⟩])++pB C=pA C++_++(y.po++[⟨1+2*y.one,w⟩]++pB C)
  simp only[aj]
 |.rg y w::C,l,r,m=>by
  show(aZ C (.nd y (.nd l r m) w)).po=_
  rw[c5 C]
  show pA C++(y.po++(MT.nd l r m).po++[⟨y.one+2*1,w⟩])++pB C=(pA C++y.po)++_++([⟨y.one+2,w⟩]++pB C)
  simp only[aj]
theorem qu(M:Mc):∀(C:List Fm) (x:MT),(aZ C x).rT M=rA M C++x.rT M++rB M C (x.tR M)
 |[],x=>by show _=[]++_++[];rw[dD,a7];rfl
 |.lf y w::C,x=>by
  show(aZ C (.nd x y w)).rT M=_
  rw[qu M C]
  show rA M C++(x.rT M++y.rT M++[_])++rB M C _=rA M C++_++(y.rT M++[_]++rB M C _)
  simp only[aj];rfl
 |.rg y w::C,x=>by
  show(aZ C (.nd y x w)).rT M=_
  rw[qu M C]
  show rA M C++(y.rT M++x.rT M++[_])++rB M C _=(rA M C++y.rT M)++_++([_]++rB M C _)
  simp only[aj];rfl
theorem n5(M:Mc):∀C:List Fm,(rA M C).length=(pA C).length
 |[]=>rfl
 |.lf _ _::C=>n5 M C
 |.rg l _::C=>by show(rA M C++l.rT M).length=(pA C++l.po).length;rw[ah,ah,n5 M C,MT.rT_len,MT.po_len]
theorem zB:∀(C:List Fm) (x:MT),∃u w,(aZ C x).lkT 0=u++x.lkT (pA C).length++w/\u.length=(pA C).length
 |[],x=>⟨[],[],by rw[dD,a7];rfl,rfl⟩
 |.lf y w::C,x=>by
  obtain⟨u,v,e,h⟩:=zB C (.nd x y w)
  refine⟨u,y.lkT ((pA C).length+x.size)++[(x.tp (pA C).length,y.tp ((pA C).length+x.size))]++v,?_,h⟩
  show(aZ C (.nd x y w)).lkT 0=u++x.lkT (pA C).length++_
  rw[e]
  show u++(x.lkT (pA C).length++_++[_])++v=_
  simp only[aj]
 |.rg y w::C,x=>by
  obtain⟨u,v,e,h⟩:=zB C (.nd y x w)
  have hl:(pA (.rg y w::C)).length=(pA C).length+y.size:=by show(pA C++y.po).length=_;rw[ah,MT.po_len]
  refine⟨u++y.lkT (pA C).length,[(y.tp (pA C).length,x.tp ((pA C).length+y.size))]++v,?_,by rw[ah,MT.lk_len,h,hl]⟩
  show(aZ C (.nd y x w)).lkT 0=_
  rw[e,hl]
  show u++(y.lkT (pA C).length++x.lkT _++[_])++v=_
  simp only[aj]
theorem vj:∀(C:List Fm) (x:MT),∃u w,(aZ C x).szT=u++x.szT++w/\u.length=(pA C).length
 |[],x=>⟨[],[],by rw[dD,a7];rfl,rfl⟩
 |.lf y w::C,x=>by
  obtain⟨u,v,e,h⟩:=vj C (.nd x y w)
  refine⟨u,y.szT++[x.size+y.size+1]++v,?_,h⟩
  show(aZ C (.nd x y w)).szT=_
  rw[e]
  show u++(x.szT++y.szT++[_])++v=_
  simp only[aj]
 |.rg y w::C,x=>by
  obtain⟨u,v,e,h⟩:=vj C (.nd y x w)
  refine⟨u++y.szT,[y.size+x.size+1]++v,?_,by rw[ah,MT.sz_len,h];show _=(pA C++y.po).length;rw[ah,MT.po_len]⟩
  show(aZ C (.nd y x w)).szT=_
  rw[e]
  show u++(y.szT++x.szT++[_])++v=_
  simp only[aj]
theorem ug(f:Fm):∀(C:List Fm) (x:MT),aZ (C++[f]) x=f.ap (aZ C x)
 |[],x=>rfl
 |g::C,x=>ug f C (g.ap x)
theorem Jt(r:MT)(m:List Nat):∀C:List Fm,pA (C++[.lf r m])=pA C
 |[]=>rfl
 |.lf _ _::C=>Jt r m C
 |.rg l _::C=>by show pA (C++[.lf r m])++l.po=pA C++l.po;rw[Jt r m C]
theorem Ju(l:MT)(m:List Nat):∀C:List Fm,pA (C++[.rg l m])=l.po++pA C
 |[]=>by show[]++l.po=l.po++[];simp
 |.lf _ _::C=>Ju l m C
 |.rg y _::C=>by show pA (C++[.rg l m])++y.po=l.po++(pA C++y.po);rw[Ju l m C,aj]
theorem sK:∀(t:MT) (q:Nat),q<t.size->∃C l r m,t=aZ C (.nd l r m)/\q=(pA C).length+l.size+r.size
 |.nil,q,h=>absurd h (by simp[MT.size])
 |.nd l r m,q,h=>by
  rw[MT.size_nd]at h
  by_cases h1:q<l.size
  ·obtain⟨C,a,b,w,e1,e2⟩:=sK l q h1
   exact⟨C++[.lf r m],a,b,w,by rw[ug,<- e1];rfl,by rw[Jt];exact e2⟩
  ·by_cases h2:q<l.size+r.size
   ·obtain⟨C,a,b,w,e1,e2⟩:=sK r (q-l.size) #[0]
    exact⟨C++[.rg l m],a,b,w,by rw[ug,<- e1];rfl,by rw[Ju,ah,MT.po_len];omega⟩
   ·exact⟨[],l,r,m,rfl,by show q=0+_+_;omega⟩
end P
namespace P
open PySem L2
theorem Jv{a b:List α}{c x:α}{u:Nat}(h:(a++b++[c])[u]?=some x):(u<a.length/\a[u]?=some x)\/(a.length<=u/\u<a.length+b.length/\b[u-a.length]?=some x)\/(u=a.length+b.length/\x=c):=by
 by_cases h1:u<a.length
 ·rw[aj,aH h1]at h
  exact .inl ⟨h1,h⟩
 ·by_cases h2:u<a.length+b.length
  ·rw[aj,aS #[0],aH #[0]]at h
   exact .inr (.inl ⟨by omega,h2,h⟩)
  ·have hu:=(ar.mp h).1
   rw[ah,ah,bb]at hu
   have e:u=a.length+b.length:=by omega
   subst e
   rw[aS (by rw[ah];omega),ah,Nat.sub_self]at h
   cases h
   exact .inr (.inr ⟨rfl,rfl⟩)
def RH(x:Option Nat×Option Nat)(j:Nat):Prop:=x.1=some j\/x.2=some j
namespace MT
theorem tp_some{t:MT}{o:Nat}(h:t.tp o=some j):0<t.size/\j+1=o+t.size:=by
 cases t with
 |nil=>cases h
 |nd l r m=>
  have:some (o+l.size+r.size)=some j:=h
  rw[size_nd]
  have:=bq this
  omega
theorem kid_lt:∀(t:MT) {o u j:Nat} {x:Option Nat×Option Nat},(t.lkT o)[u]?=some x->RH x j->o<=j/\j<o+u
 |nil,o,u,j,x,h,_=>by cases h
 |nd l r m,o,u,j,x,h,k=>by
  rcases Jv h with⟨h1,h2⟩|⟨h1,h2,h3⟩|⟨h1,h2⟩
  ·exact kid_lt l h2 k
  ·rw[lk_len]at h1 h2 h3
   have:=kid_lt r h3 k
   omega
  ·rw[lk_len,lk_len]at h1
   subst h2
   rcases k with k|k
   ·have:=tp_some k;omega
   ·have:=tp_some k;omega
theorem par_one:∀(t:MT) {o u v j:Nat} {x y:Option Nat×Option Nat},(t.lkT o)[u]?=some x->(t.lkT o)[v]?=some y->RH x j->RH y j->u=v
 |nil,o,u,v,j,x,y,h,_,_,_=>by cases h
 |nd l r m,o,u,v,j,x,y,h,h',k,k'=>by
  have hl:=lk_len l o
  have hr:=lk_len r (o+l.size)
  have rt:∀{z:Option Nat×Option Nat},z=(l.tp o,r.tp (o+l.size))->RH z j->(j+1=o+l.size/\0<l.size)\/(j+1=o+l.size+r.size/\0<r.size):=fun{z} e k=>by
   subst e
   rcases k with k|k
   ·have:=tp_some k;exact .inl ⟨by omega,by omega⟩
   ·have:=tp_some k;exact .inr ⟨by omega,by omega⟩
  rcases Jv h with⟨h1,h2⟩|⟨h1,h2,h3⟩|⟨h1,h2⟩
  ·have b:=kid_lt l h2 k
   rcases Jv h' with⟨g1,g2⟩|⟨g1,g2,g3⟩|⟨g1,g2⟩
   ·exact par_one l h2 g2 k k'
   ·have:=kid_lt r g3 k';omega
   ·have:=rt g2 k';omega
  ·have b:=kid_lt r h3 k
   rcases Jv h' with⟨g1,g2⟩|⟨g1,g2,g3⟩|⟨g1,g2⟩
   ·have:=kid_lt l g2 k';omega
   ·have:=par_one r h3 g3 k k';omega
   ·have:=rt g2 k';omega
  ·have b:=rt h2 k
   rcases Jv h' with⟨g1,g2⟩|⟨g1,g2,g3⟩|⟨g1,g2⟩
   ·have:=kid_lt l g2 k';omega
   ·have:=kid_lt r g3 k';omega
   ·omega
end MT
noncomputable def FR(A B:List (Option Nat))(p:Nat):Option Nat:=match A.getD p none with
 |some u=>some u
 |none=>B.getD p none
theorem fg:∀(C:List Fm) (x:MT),0<x.size->(pA C).length+x.size<=(aZ C x).size
 |[],x,h=>by show 0+x.size<=x.size;omega
 |.lf y w::C,x,h=>by
  have:=fg C (.nd x y w) (by rw[MT.size_nd];omega)
  rw[MT.size_nd]at this
  show(pA C).length+x.size<=(aZ C (.nd x y w)).size
  omega
 |.rg y w::C,x,h=>by
  have:=fg C (.nd y x w) (by rw[MT.size_nd];omega)
  rw[MT.size_nd]at this
  show(pA C++y.po).length+x.size<=(aZ C (.nd y x w)).size
  rw[ah,MT.po_len]
  omega
theorem vk(C:List Fm)(l r:MT)(m:List Nat):(#[1].lkT 0)[(pA C).length+l.size+r.size]?=some (l.tp (pA C).length,r.tp ((pA C).length+l.size)):=by
 obtain⟨u,w,e,h⟩:=zB C (.nd l r m)
 rw[e,aj,aS #[0],h]
 show((l.lkT (pA C).length++r.lkT ((pA C).length+l.size)++[_])++w)[_]?=_
 rw[aH (by simp[MT.lk_len];omega),aS (by rw[ah,MT.lk_len,MT.lk_len];omega),ah,MT.lk_len,MT.lk_len,show(pA C).length+l.size+r.size-(pA C).length-(l.size+r.size)=0 by omega]
 rfl
theorem Up.is{t:MT}{A:List (Option Nat)}(hf:∀x j,f x=some j->RH x j)(h:Up (t.lkT 0) f t.size A){p:Nat}{x:Option Nat×Option Nat}(hx:(t.lkT 0)[p]?=some x)(hk:f x=some j):A.getD j none=some p:=by
 have hp:p<t.size:=by have:=(ar.mp hx).1;rwa[MT.lk_len]at this
 obtain⟨v,hv⟩:=h.2 p x j hp hx hk
 obtain⟨y,hy,hy2⟩:=h.1 j v hv
 rw[aA,hv,Option.getD_some,MT.par_one t hy hx (hf _ _ hy2) (hf _ _ hk)]
theorem Up.no{t:MT}{A:List (Option Nat)}(h:Up (t.lkT 0) f t.size A)(hn:∀(p:Nat) (x:Option Nat×Option Nat),(t.lkT 0)[p]?=some x->f x≠some j):A.getD j none=none:=by
 rw[aA]
 cases e:A[j]? with
 |none=>rfl
 |some o=>
  cases o with
  |none=>rfl
  |some u=>
   obtain⟨y,hy,hy2⟩:=h.1 j u e
   exact absurd hy2 (hn u y hy)
theorem Rf{x:MT}{A:List (Option Nat)}(hA:Up (x.lkT 0) Prod.fst x.size A)(hB:Up (x.lkT 0) Prod.snd x.size B)(h0:0<x.size):FR A B (x.size-1)=none:=by
 have key:∀(p:Nat) (y:Option Nat×Option Nat),(x.lkT 0)[p]?=some y->¬ RH y (x.size-1):=fun p y hy hk=>by
  have:=MT.kid_lt x hy hk
  have hp:=(ar.mp hy).1
  rw[MT.lk_len]at hp
  omega
 unfold FR
 rw[hA.no fun p y hy e=>key p y hy (.inl e)]
 exact hB.no fun p y hy e=>key p y hy (.inr e)
theorem UC{C:List Fm}{x y:MT}{w:List Nat}{A B:List (Option Nat)}{t:MT}(ht:t=aZ C (.nd x y w))(hA:Up (t.lkT 0) Prod.fst t.size A)(h0:0<x.size):FR A B ((pA C).length+x.size-1)=some ((pA C).length+x.size+y.size):=by
 subst ht
 have e:=vk C x y w
 have hx:x.tp (pA C).length=some ((pA C).length+x.size-1):=by
  cases x with
  |nil=>exact absurd h0 (by decide)
  |nd a b c=>rw[MT.tp_nd]
 unfold FR
 rw[hA.is (fun _ _ h=>.inl h) e hx]
theorem UD{C:List Fm}{x y:MT}{w:List Nat}{A:List (Option Nat)}{t:MT}(ht:t=aZ C (.nd y x w))(hA:Up (t.lkT 0) Prod.fst t.size A)(hB:Up (t.lkT 0) Prod.snd t.size B)(h0:0<x.size):FR A B ((pA C).length+y.size+x.size-1)=some ((pA C).length+y.size+x.size):=by
 subst ht
 have e:=vk C y x w
 have hx:x.tp ((pA C).length+y.size)=some ((pA C).length+y.size+x.size-1):=by
  cases x with
  |nil=>exact absurd h0 (by decide)
  |nd a b c=>rw[MT.tp_nd]
 unfold FR
 rw[hA.no (fun p z hz k=>by
  obtain rfl:=MT.par_one _ hz e (.inl k) (.inr hx)
  rw[e]at hz
  cases hz
  have:=MT.tp_some k
  omega)]
 exact hB.is (fun _ _ h=>.inr h) e hx
end P
namespace P
open PySem L2
section
variable{M:Mc}
theorem wD(hM:lj M n)(m:List Nat){a b:Nat}(ha:a<n)(hb:b<n):sv M m a b<n:=by
 have h1:kR m M.nm<M.tb.length:=by rw[hM.tb];exact Ej m M.nm
 have e1:=kA [] h1
 obtain⟨t1,t2⟩:=hM.t _ (bX e1)
 have e2:=kA (l:=M.tb.getD (kR m M.nm) []) [] (i:=a) #[0]
 obtain⟨t3,t4⟩:=t2 _ (bX e2)
 have e3:=kA (l:=(M.tb.getD (kR m M.nm) []).getD a []) 0 (i:=b) #[0]
 exact t4 _ (bX e3)
theorem MT.tR_lt(hM:lj M n)(hn:1<=n):∀t:MT,t.tR M<n
 |.nil=>hn
 |.nd l r m=>wD hM m (tR_lt hM hn l) (tR_lt hM hn r)
theorem MT.rT_lt(hM:lj M n)(hn:1<=n):∀t:MT,∀k∈t.rT M,k<n
 |.nil,k,h=>by cases h
 |.nd l r m,k,h=>by
  rcases aP.mp h with h|h
  ·rcases aP.mp h with h|h
   ·exact rT_lt hM hn l k h
   ·exact rT_lt hM hn r k h
  ·rw[aT.mp h];exact wD hM m (tR_lt hM hn l) (tR_lt hM hn r)
def Fm.rm(M:Mc):Fm->Nat->Nat
 |.lf r m,a=>sv M m a (r.tR M)
 |.rg l m,a=>sv M m (l.tR M) a
theorem Jw(hM:lj M n)(hn:1<=n):∀C:List Fm,∀k∈rA M C,k<n
 |[],k,h=>by cases h
 |.lf _ _::C,k,h=>Jw hM hn C k h
 |.rg l _::C,k,h=>by
  rcases aP.mp h with h|h
  ·exact Jw hM hn C k h
  ·exact l.rT_lt hM hn k h
theorem Jx(hM:lj M n)(hn:1<=n):∀(C:List Fm) {a:Nat},a<n->∀k∈rB M C a,k<n
 |[],a,_,k,h=>by cases h
 |.lf r m::C,a,ha,k,h=>by
  have hv:=wD hM m ha (r.tR_lt hM hn)
  rcases aP.mp h with h|h
  ·rcases aP.mp h with h|h
   ·exact r.rT_lt hM hn k h
   ·rw[aT.mp h];exact hv
  ·exact Jx hM hn C hv k h
 |.rg l m::C,a,ha,k,h=>by
  have hv:=wD hM m (l.tR_lt hM hn) ha
  rcases aP.mp h with h|h
  ·rw[aT.mp h];exact hv
  ·exact Jx hM hn C hv k h
def fr(M:Mc)(C:List Fm)(l r:MT)(o:Nat):List Nat:=rA M C++(l.rT M++r.rT M++[o])++rB M C o
theorem UE(hM:lj M n)(hn:1<=n)(C:List Fm)(l r:MT){o:Nat}(ho:o<n):∀k∈fr M C l r o,k<n:=fun k h=>by
 rcases aP.mp h with h|h
 ·rcases aP.mp h with h|h
  ·exact Jw hM hn C k h
  ·rcases aP.mp h with h|h
   ·rcases aP.mp h with h|h
    ·exact l.rT_lt hM hn k h
    ·exact r.rT_lt hM hn k h
   ·rw[aT.mp h];exact ho
 ·exact Jx hM hn C ho k h
theorem zC(a b c d:List α)(o:α){p:Nat}(hp:p=a.length+b.length+c.length):(a++(b++c++[o])++d)[p]?=some o:=by
 subst hp
 rw[show a++(b++c++[o])++d=(a++b++c)++o::d by simp,aS (by simp[mX])]
 simp[mX]
theorem LM(a b c d:List α)(o v:α){p:Nat}(hp:p=a.length+b.length+c.length):(a++(b++c++[o])++d).set p v=a++(b++c++[v])++d:=by
 subst hp
 rw[show a++(b++c++[o])++d=(a++b++c)++o::d by simp,py _ _ (by simp[mX]),show a.length+b.length+c.length-(a++b++c).length=0 by simp;omega]
 simp
theorem Ny(M:Mc)(C:List Fm)(l r:MT):(pA C).length+l.size+r.size=(rA M C).length+(l.rT M).length+(r.rT M).length:=by rw[n5,MT.rT_len,MT.rT_len]
noncomputable def LN(M:Mc):List Fm->Nat->Nat->Nat
 |[],_,_=>1
 |f::C,v,o=>if v=o then 1 else 1+LN M C (f.rm M v) (f.rm M o)
theorem C5{A:List (Option Nat)}{ua ub p:Nat}(ha:st[ua]?=some (.lst (A.map oW)))(hb:st[ub]?=some (.lst (B.map oW)))(hp:p<A.length)(Kc:p<B.length):IU [.tup [.loc ua,.loc ub],.int p] st=.ok (oW (FR A B p)) st:=by
 have ea:bp (.loc ua) (.int p) st=.ok (oW (A.getD p none)) st:=jI (bB ha) (fP (by rw[aC,kA none hp];rfl))
 have eb:bp (.loc ub) (.int p) st=.ok (oW (B.getD p none)) st:=jI (bB hb) (fP (by rw[aC,kA none Kc];rfl))
 unfold FR
 cases e:A.getD p none with
 |some u=>
  rw[e]at ea
  apply dY
  apply bH
  ·exact rZ (aL (eK (bd kx kv ea) rfl)) (bd kx kv ea)
  ·exact⟨_,_,rfl,rfl,rfl⟩
 |none=>
  rw[e]at ea
  apply dY
  apply bH
  ·exact r6 (aL (eK (bd kx kv ea) rfl)) (bd kx kv eb)
  ·exact⟨_,_,rfl,rfl,rfl⟩
theorem Rg{g g':FS}{ρ':cf}(h:g ρ st=.bk ρ' st1):aE g g' ρ st=.bk ρ' st1:=by unfold aE;rw[h]
abbrev cT:FT:=dm (gs (af 8))
abbrev cB:FS:=(aE (a9 9 (bQ 4 uL (aa (af 0) (aa (e2 bp (e2 bp (af 1) (af 8)) (eI 1)) (aa (e2 bp (af 4) (af 8)) (aa (af 6) aw)))))) (aE (a9 7 (e2 cq (af 7) (eI 1))) (aE (eW (dm (e2 hW (af 9) (e2 bp (af 6) (af 8)))) Ct bI) (aE (AB (af 6) (af 8) (af 9) qC) (a9 8 (bQ 2 IU (aa (af 5) (aa (af 8) aw))))))))
abbrev cR(M:Mc)(t:MT)(x2:W)(q ua ub pf c:Nat)(o8 o9:Option W):cf:=[some M.w,some (bw t.po),some x2,iO (q:Nat),some (.tup ((t.lkT 0).map jg)),some (.tup [.loc ua,.loc ub]),lO pf,iO (c:Nat),o8,o9]
theorem Bp{g:FS}{ρ':cf}(h:t ρ st=.ok true st)(e:g ρ st=.bk ρ' be):d6 t g (k+1) ρ st=.nx ρ' be:=by unfold d6;rw[h];simp only[R.stmt_ok,fM,e]
theorem wE{g:FS}{ρ':cf}{rs:RS}(h:t ρ st=.ok true st)(e:g ρ st=.nx ρ' be)(e2:d6 t g k ρ' be=rs):d6 t g (k+1) ρ st=rs:=by unfold d6;rw[h];simp only[R.stmt_ok,fM,e];exact e2
theorem Fx{g:FS}(h:t ρ st=.ok false st):d6 t g (k+1) ρ st=.nx ρ st:=by unfold d6;rw[h];rfl
theorem n6(C:List Fm)(l r:MT)(m:List Nat):#[1].po[(pA C).length+l.size+r.size]?=some ⟨l.one+2*r.one,m⟩:=by
 rw[c5]
 exact zC (pA C) l.po r.po (pB C) _ (by rw[MT.po_len,MT.po_len])
section
variable{t:MT}{A:List (Option Nat)}{ua ub pf:Nat}
theorem LO(M:Mc)(C:List Fm)(l r:MT)(m:List Nat)(o:Nat):vi M (fr M C l r o) m (l.tp (pA C).length,r.tp ((pA C).length+l.size))=sv M m (l.tR M) (r.tR M):=by
 have:=MT.stp_tp M (rA M C) ([o]++rB M C o) l r m
 rw[n5]at this
 rw[<- this]
 unfold fr
 simp only[aj]
theorem wF(hM:lj M n)(hn:1<=n)(x2:W)(q:Nat)(lA:A.length=t.size)(lB:B.length=t.size)(na:pf≠ua)(nb:pf≠ub){C:List Fm}{l r:MT}{o:Nat}(c:Nat)(o9:Option W)(ht:t=aZ C (.nd l r m))(ho:o<n)(ha:st[ua]?=some (.lst (A.map oW)))(hb:st[ub]?=some (.lst (B.map oW)))(hf:st[pf]?=some (.lst (nW (fr M C l r o)))) :
  (sv M m (l.tR M) (r.tR M)=o->cB (cR M t x2 q ua ub pf c (iO ((pA C).length+l.size+r.size:Nat)) o9) st=.bk (cR M t x2 q ua ub pf (c+1) (iO ((pA C).length+l.size+r.size:Nat)) (iO (o:Nat))) st) /\
  (sv M m (l.tR M) (r.tR M)≠o->cB (cR M t x2 q ua ub pf c (iO ((pA C).length+l.size+r.size:Nat)) o9) st=.nx (cR M t x2 q ua ub pf (c+1) (some (oW (FR A B ((pA C).length+l.size+r.size)))) (iO (sv M m (l.tR M) (r.tR M):Nat))) (st.set pf (.lst (nW (rA M C++(l.rT M++r.rT M++[sv M m (l.tR M) (r.tR M)])++rB M C o))))):=by
 have hx:=vk C l r m
 have hp:=n6 C l r m
 have hg:=MT.gr0 #[1]
 have hz:=fg C (.nd l r m) (by rw[MT.size_nd];omega)
 rw[<- ht]at hx hp hg hz
 rw[MT.size_nd]at hz
 have hs:=LO M C l r m o
 have hat:(fr M C l r o)[(pA C).length+l.size+r.size]?=some o:=zC _ _ _ _ _ (Ny M C l r)
 have RA:(fr M C l r o).set ((pA C).length+l.size+r.size) (sv M m (l.tR M) (r.tR M))=rA M C++(l.rT M++r.rT M++[sv M m (l.tR M) (r.tR M)])++rB M C o:=LM _ _ _ _ _ _ (Ny M C l r)
 have hfl:=(ar.mp hat).1
 have hlk:=hg.lk hx
 have hr:=Nw (m:=m) hM hn (UE hM hn C l r ho) (x:=(l.tp (pA C).length,r.tp ((pA C).length+l.size))) ⟨fun k e=>sY (hlk.1 k e) hfl,fun k e=>sY (hlk.2 k e) hfl⟩ st hf
 rw[hs]at hr
 generalize hv:sv M m (l.tR M) (r.tR M)=v at *
 generalize hP:(pA C).length+l.size+r.size=p at *
 have e9:a9 9 (bQ 4 uL (aa (af 0) (aa (e2 bp (e2 bp (af 1) (af 8)) (eI 1)) (aa (e2 bp (af 4) (af 8)) (aa (af 6) aw))))) (cR M t x2 q ua ub pf c (iO (p:Nat)) o9) st=.nx (cR M t x2 q ua ub pf c (iO (p:Nat)) (iO (v:Nat))) st:=
  a8 (bT (ai kv (ai (bd (bd kv kv (sE hp st)) bf (CT _ st)) (ai (bd kv kv (mB (fP (by rw[aC,hx];rfl)))) kn))) hr rfl)
 have e7:a9 7 (e2 cq (af 7) (eI 1)) (cR M t x2 q ua ub pf c (iO (p:Nat)) (iO (v:Nat))) st=.nx (cR M t x2 q ua ub pf (c+1) (iO (p:Nat)) (iO (v:Nat))) st:=a8 (bd kv bf du)
 have eq:∀b,decide (v=o)=b->dm (e2 hW (af 9) (e2 bp (af 6) (af 8))) (cR M t x2 q ua ub pf (c+1) (iO (p:Nat)) (iO (v:Nat))) st=.ok b st:=fun b hb=>aL (bd kv (bd kv kv (Nv hf hat)) (ec (by rw[<- hb,oY,cI,mh];omega)))
 refine⟨fun h=>?_,fun h=>?_⟩
 ·refine cr e9 (cr e7 (Rg ?_))
  rw[cC (eq true (a_ h)) rfl,h];rfl
 ·refine cr e9 (cr e7 (cr (bK (eq false (aU h)) rfl) (cr (D5 kv kv kv (CV hf (by show _<(List.map _ _).length;rw[az];exact hfl))) ?_)))
  rw[show(nW (fr M C l r o)).set p (W.int (v:Nat))=nW ((fr M C l r o).set p v) by unfold nW;rw[s9],RA]
  exact a8 (bT (ai kv kn) (C5 (by rw[bN na];exact ha) (by rw[bN nb];exact hb) #[0] #[0]) rfl)
theorem C6(hM:lj M n)(hn:1<=n)(x2:W)(q:Nat)(hA:Up (t.lkT 0) Prod.fst t.size A)(hB:Up (t.lkT 0) Prod.snd t.size B)(lA:A.length=t.size)(lB:B.length=t.size)(na:pf≠ua)(nb:pf≠ub) :
  ∀(C:List Fm) (l r:MT) (m:List Nat) (o c:Nat) (o9:Option W) (st:List am),t=aZ C (.nd l r m)->o<n->st[ua]?=some (.lst (A.map oW))->st[ub]?=some (.lst (B.map oW))->st[pf]?=some (.lst (nW (fr M C l r o))) ->
   ∃o8 o9' be,d6 cT cB (C.length+2) (cR M t x2 q ua ub pf c (iO ((pA C).length+l.size+r.size:Nat)) o9) st=.nx (cR M t x2 q ua ub pf (c+LN M C (sv M m (l.tR M) (r.tR M)) o) o8 o9') be/\be[pf]?=some (.lst (nW (t.rT M)))/\∀i,i≠pf->be[i]?=st[i]?:=by
 intro C
 induction C with
 |nil=>
  intro l r m o c o9 st ht ho ha hb hf
  obtain⟨s1,s2⟩:=wF hM hn x2 q lA lB na nb c o9 ht ho ha hb hf
  by_cases h:sv M m (l.tR M) (r.tR M)=o
  ·refine⟨_,_,st,Bp (aL (eK kv rfl)) (s1 h),?_,fun _ _=>rfl⟩
   rw[hf,ht]
   unfold fr
   rw[show(aZ [] (.nd l r m)).rT M=rA M []++(l.rT M++r.rT M++[sv M m (l.tR M) (r.tR M)])++rB M [] (sv M m (l.tR M) (r.tR M))from qu M [] _,h]
  ·have e:=s2 h
   have hu:FR A B ((pA []).length+l.size+r.size)=none:=by
    have:=Rf hA hB (by rw[ht];show 0<l.size+r.size+1;omega)
    rw[show t.size=l.size+r.size+1 by rw[ht];rfl]at this
    rw[<- this];congr 1;show 0+_+_=_;omega
   rw[hu]at e
   refine⟨_,_,_,wE (aL (eK kv rfl)) e (Fx (aL (eK kv rfl))),?_,fun i hi=>bN (Ne.symm hi)⟩
   rw[dQ hf,ht]
   show some (am.lst (nW ([]++_++[])))=_
   rw[dD,a7];rfl
 |cons f C ih=>
  intro l r m o c o9 st ht ho ha hb hf
  obtain⟨s1,s2⟩:=wF hM hn x2 q lA lB na nb c o9 ht ho ha hb hf
  by_cases h:sv M m (l.tR M) (r.tR M)=o
  ·rw[show LN M (f::C) (sv M m (l.tR M) (r.tR M)) o=1 from aD h]
   refine⟨_,_,st,Bp (aL (eK kv rfl)) (s1 h),?_,fun _ _=>rfl⟩
   rw[hf,ht]
   unfold fr
   rw[qu M (f::C),show(MT.nd l r m).tR M=o from h,show(MT.nd l r m).rT M=l.rT M++r.rT M++[sv M m (l.tR M) (r.tR M)]from rfl,h]
  ·have e:=s2 h
   rw[show LN M (f::C) (sv M m (l.tR M) (r.tR M)) o=1+LN M C (f.rm M (sv M m (l.tR M) (r.tR M))) (f.rm M o)from aQ h,<- mX]
   cases f with
   |lf y w=>
    have hu:FR A B ((pA (.lf y w::C)).length+l.size+r.size)=some ((pA C).length+(MT.nd l r m).size+y.size):=by
     have:=UC (B:=B) (t:=t) (C:=C) (x:=.nd l r m) (y:=y) (w:=w) ht hA (by rw[MT.size_nd];omega)
     rw[<- this];congr 1;rw[MT.size_nd];show(pA C).length+_+_=_;omega
    rw[hu]at e
    obtain⟨o8,o9',be,e2,e3,e4⟩:=ih (.nd l r m) y w (sv M w o (y.tR M)) (c+1) (iO (sv M m (l.tR M) (r.tR M):Nat)) (st.set pf (.lst (nW (rA M (.lf y w::C)++(l.rT M++r.rT M++[sv M m (l.tR M) (r.tR M)])++rB M (.lf y w::C) o)))) ht (wD hM w ho (y.tR_lt hM hn)) (by rw[bN na];exact ha) (by rw[bN nb];exact hb) (by
     rw[dQ hf]
     unfold fr
     show some (am.lst (nW (rA M C++_++(y.rT M++[_]++rB M C _))))=some (am.lst (nW (rA M C++((l.rT M++r.rT M++[_])++y.rT M++[_])++rB M C _)))
     simp only[aj])
    exact⟨o8,o9',be,wE (aL (eK kv rfl)) e e2,e3,fun i hi=>by rw[e4 i hi];exact bN (Ne.symm hi)⟩
   |rg y w=>
    have hu:FR A B ((pA (.rg y w::C)).length+l.size+r.size)=some ((pA C).length+y.size+(MT.nd l r m).size):=by
     have:=UD (t:=t) (C:=C) (x:=.nd l r m) (y:=y) (w:=w) ht hA hB (by rw[MT.size_nd];omega)
     rw[<- this];congr 1;rw[MT.size_nd];show(pA C++y.po).length+_+_=_;rw[ah,MT.po_len];omega
    rw[hu]at e
    obtain⟨o8,o9',be,e2,e3,e4⟩:=ih y (.nd l r m) w (sv M w (y.tR M) o) (c+1) (iO (sv M m (l.tR M) (r.tR M):Nat)) (st.set pf (.lst (nW (rA M (.rg y w::C)++(l.rT M++r.rT M++[sv M m (l.tR M) (r.tR M)])++rB M (.rg y w::C) o)))) ht (wD hM w (y.tR_lt hM hn) ho) (by rw[bN na];exact ha) (by rw[bN nb];exact hb) (by
     rw[dQ hf]
     unfold fr
     show some (am.lst (nW ((rA M C++y.rT M)++_++([_]++rB M C _))))=some (am.lst (nW (rA M C++(y.rT M++(l.rT M++r.rT M++[_])++[_])++rB M C _)))
     simp only[aj])
    exact⟨o8,o9',be,wE (aL (eK kv rfl)) e e2,e3,fun i hi=>by rw[e4 i hi];exact bN (Ne.symm hi)⟩
end
theorem C7(hM:lj M n)(hn:1<=n){C:List Fm}{l r t:MT}{o:Nat}(ht:t=aZ C (.nd l r m))(ho:o<n)(hs:t.size<=900)(st:List am) :
  D_ [M.w,bw t.po,fW (fr M C l r o),.int ((pA C).length+l.size+r.size:Nat)] st=.ok (.tup [fW (t.rT M),.int (LN M C (sv M m (l.tR M) (r.tR M)) o:Nat)]) st:=by
 have hg:=t.gr0
 have hl:=t.po_len
 obtain⟨A,B,x,lA,lB,uA,uB,cA,cB',e5⟩:=Ra hg #[0] st
 rw[hl]at lA lB uA uB
 have e6:xS [fW (fr M C l r o)] (st++x)=.ok (.loc (st++x).length) (st++x++[.lst (nW (fr M C l r o))]):=Q5
 have nA:(st++x).length≠st.length:=fun e=>by have:=fC cA;omega
 have nB:(st++x).length≠st.length+1:=fun e=>by have:=fC cB';omega
 obtain⟨o8,o9,be,e8,e9,e10⟩:=C6 hM hn (fW (fr M C l r o)) ((pA C).length+l.size+r.size) uA uB lA lB nA nB C l r m o 0 none (st++x++[.lst (nW (fr M C l r o))]) ht ho (cw cA) (cw cB') cK
 rw[oy]at e8
 refine eM ?_ (by simp[undWs,vh,W.und])
 apply av
 ·exact a8 (bT kn (sD hg #[0] st) rfl)
 apply av
 ·exact a8 (bT kn e5 rfl)
 apply av
 ·exact a8 (bE kn e6)
 apply av
 ·exact a8 bf
 apply av
 ·exact a8 kv
 apply av
 ·exact xV e8 #[15]
 apply bH
 ·exact cE (ai (bE kn (mP (bB e9))) kn) (ag rfl)
 ·refine⟨_,_,rfl,rfl,?_⟩
  have:st <+: be:=List.prefix_iff_getElem?.mpr fun i hi=>by
   rw[e10 i (by rw[ah];omega),aj,aH hi,al hi]
  exact this.imp fun x e=>e.symm
end
theorem MT.one_of:∀{t:MT},0<t.size->t.one=1
 |.nil,h=>absurd h (by decide)
 |.nd _ _ _,_=>rfl
theorem MT.one_bit:∀t:MT,qt t.po=t.one
 |.nil=>rfl
 |.nd l r m=>by unfold qt;rw[aD (by rw[MT.po_len,MT.size_nd];omega)];rfl
theorem MT.one_le:∀t:MT,t.one<=1/\(0<t.size↔t.one=1)
 |.nil=>⟨by decide,by decide⟩
 |.nd l r m=>⟨ax 1,by rw[MT.size_nd];exact⟨fun _=>rfl,fun _=>by omega⟩⟩
theorem Gr.mts{ps:List Pl}{sz:List Nat}{lk:List #[9]}(h:Gr ps S sz lk):∃F:List MT,(∀t∈F,0<t.size)/\S=F.map MT.size/\ps=(F.reverse.map MT.po).flatten:=by
 induction h with
 |nil=>exact⟨[],by simp,rfl,rfl⟩
 |@snoc ps S S' sz lk b k m x h hs ih=>
  obtain⟨F,h1,rfl,rfl⟩:=ih
  have add:∀(t:MT) (G:List MT),0<t.size->(∀x∈G,0<x.size)->∀x∈t::G,0<x.size:=fun t G h g x hx=>by
   rcases aN.mp hx with rfl|hx
   ·exact h
   ·exact g x hx
  generalize hS:F.map MT.size=S0 at hs
  cases hs with
  |z=>
   refine⟨.nd .nil .nil m::F,add _ _ (Nat.succ_pos _) h1,by rw[<- hS];rfl,?_⟩
   rw[bA,aV,dv];rfl
  |l=>
   match F,hS with
   |t::F,hS=>
    rw[bt]at hS
    cases hS
    have ht:=h1 t bF
    refine⟨.nd t .nil m::F,add _ _ (by rw[MT.size_nd];omega) fun x hx=>h1 x (aO _ hx),?_,?_⟩
    ·rw[bt,MT.size_nd];congr 1;show _=_+0+1;omega
    ·rw[bA,aV,dv,bA,aV,dv,aj]
     congr 1
     show(t.po++[])++_=(t.po++[]++[⟨t.one+2*0,m⟩])++[]
     rw[MT.one_of ht];simp
  |r=>
   match F,hS with
   |t::F,hS=>
    rw[bt]at hS
    cases hS
    have ht:=h1 t bF
    refine⟨.nd .nil t m::F,add _ _ (by rw[MT.size_nd];omega) fun x hx=>h1 x (aO _ hx),?_,?_⟩
    ·rw[bt,MT.size_nd];congr 1;show _=0+_+1;omega
    ·rw[bA,aV,dv,bA,aV,dv,aj]
     congr 1
     show(t.po++[])++_=([]++t.po++[⟨0+2*t.one,m⟩])++[]
     rw[MT.one_of ht];simp
  |b=>
   match F,hS with
   |c::t::F,hS=>
    rw[bt,bt]at hS
    cases hS
    have hc:=h1 c bF
    have ht:=h1 t (aO _ bF)
    refine⟨.nd t c m::F,add _ _ (by rw[MT.size_nd];omega) fun x hx=>h1 x (aO _ (aO _ hx)),?_,?_⟩
    ·rw[bt,MT.size_nd];congr 1;omega
    ·rw[bA,aV,dv,bA,bA,aV,dv,aV,dv,aj,aj]
     congr 1
     show(t.po++[])++((c.po++[])++_)=(t.po++c.po++[⟨t.one+2*c.one,m⟩])++[]
     rw[MT.one_of ht,MT.one_of hc];simp
   |[_],hS=>simp at hS
theorem Gr.mt{ps:List Pl}{sz:List Nat}{lk:List #[9]}(h:Gr ps S sz lk)(h1:S.length<=1):∃t:MT,ps=t.po:=by
 obtain⟨F,_,rfl,rfl⟩:=h.mts
 match F,h1 with
 |[],_=>exact⟨.nil,rfl⟩
 |[t],_=>exact⟨t,by simp⟩
 |_::_::_,h=>simp at h
section
variable{M:Mc}
def pq(C:List Fm)(l r:MT):Nat:=(pA C).length+l.size+r.size
theorem sL(C:List Fm)(l r:MT)(m:List Nat):Em #[1].po #[1].szT (pq C l r) ⟨l.one+2*r.one,m⟩ l.size r.size:=by
 obtain⟨u,w,e,hu⟩:=vj C (.nd l r m)
 have hl:=l.one_le
 have hr:=r.one_le
 refine⟨n6 C l r m,?_,by unfold pq;omega,by show l.one+2*r.one<=3;omega,by show _↔(l.one+2*r.one)%2=1;omega,by show _↔2<=l.one+2*r.one;omega,fun h=>?_⟩
 ·rw[e,show 1+l.size+r.size=l.size+r.size+1 by omega]
  exact zC u l.szT r.szT w _ (by rw[hu,MT.sz_len,MT.sz_len];rfl)
 ·have h2:2<=l.one+2*r.one:=h
  cases r with
  |nil=>exact absurd h2 (by show ¬ 2<=l.one+2*0;omega)
  |nd a b c=>
   rw[MT.size_nd]
   refine⟨by unfold pq;rw[MT.size_nd];omega,?_⟩
   rw[e,show(MT.nd l (.nd a b c) m).szT=l.szT++(a.szT++b.szT++[a.size+b.size+1])++[l.size+(MT.nd a b c).size+1]from rfl,<- aj,<- aj,aj]
   exact zC (u++l.szT) a.szT b.szT _ _ (by rw[ah,hu,MT.sz_len,MT.sz_len,MT.sz_len];unfold pq;rw[MT.size_nd];omega)
theorem vm{a b c d:List α}{p q:Nat}(hp:p=a.length)(hk:k=b.length):((a++(b++c)++d).drop p).take k=b:=by
 subst hp;subst hk
 rw[aj,List.drop_left,aj,gn]
theorem Bq(C:List Fm)(l r:MT)(m:List Nat):C0 #[1].po (pq C l r) l.size r.size=l.po:=by
 unfold C0 pq
 rw[c5,show(MT.nd l r m).po=l.po++(r.po++[⟨l.one+2*r.one,m⟩])from aj _ _ _]
 exact vm (q:=0) #[0] (MT.po_len l).symm
theorem Br(C:List Fm)(l r:MT)(m:List Nat):C1 #[1].po (pq C l r) r.size=r.po:=by
 unfold C1 pq
 rw[c5,show pA C++(MT.nd l r m).po++pB C=(pA C++l.po)++(r.po++[⟨l.one+2*r.one,m⟩])++pB C by show pA C++(l.po++r.po++_)++_=_;simp only[aj]]
 exact vm (q:=0) (by rw[ah,MT.po_len];omega) (MT.po_len r).symm
theorem sM(C:List Fm)(l r x:MT)(m:List Nat)(sd:Bool):J6 #[1].po (pq C l r) l.size r.size m sd x.po=(aZ C (.nd (if sd then x else l) (if sd then r else x) m)).po:=by
 unfold J6
 rw[Bq,Br]
 have e1:#[1].po.take (pq C l r-l.size-r.size)=pA C:=by
  rw[c5,aj,show pq C l r-l.size-r.size=(pA C).length by unfold pq;omega,gn]
 have e2:#[1].po.drop (pq C l r+1)=pB C:=by
  rw[c5]
  exact gX (by rw[ah,MT.po_len,MT.size_nd];unfold pq;omega)
 rw[e1,e2,c5]
 cases sd
 ·show pA C++(l.po++x.po++[⟨qt l.po+2*qt x.po,m⟩])++pB C=_
  rw[MT.one_bit,MT.one_bit];rfl
 ·show pA C++(x.po++r.po++[⟨qt x.po+2*qt r.po,m⟩])++pB C=_
  rw[MT.one_bit,MT.one_bit];rfl
theorem Bs{a:List Nat}(h:q<=a.length)(st:List am):wU (fW a) none (some (q:Int)) st=.ok (fW (a.take q)) st:=by
 show R.ok (W.tup (jE _ _ _)) st=_
 rw[nS (by simpa using h),<- mV];rfl
theorem Bt{a:List Nat}(h:q<=a.length)(st:List am):wU (fW a) (some (q:Int)) none st=.ok (fW (a.drop q)) st:=by
 show R.ok (W.tup (jE _ _ _)) st=_
 rw[sf (by simpa using h),<- mW];rfl
theorem sN(a b:List Nat)(h:(a++b).length<=100000)(st:List am):cq (fW a) (fW b) st=.ok (fW (a++b)) st:=by
 unfold fW
 rw[aV]
 exact Hk (by rw[<- aV,az];show _<=1000000;omega)
theorem sO(hM:lj M n)(hn:1<=n)(t:MT)(h:t.size<=900)(st:List am):pY [M.w,bw t.po] st=.ok (fW (t.rT M)) st:=by
 have:=Jj t.gr0 (by rw[MT.po_len];omega) hM hn st
 rwa[MT.rooms_po]at this
theorem Jy(C:List Fm)(l r:MT)(m:List Nat)(h:#[1].size<=900)(st:List am):qL [bw #[1].po,.int (pq C l r:Nat)] st=.ok (.tup [bw l.po,bw r.po]) st:=by
 have:=Jq #[1].gr0 (by rw[MT.po_len];exact h) (sL C l r m) st
 rwa[show(List.drop (pq C l r-l.size-r.size) #[1].po).take l.size=l.po from Bq C l r m,show(List.drop (pq C l r-r.size) #[1].po).take r.size=r.po from Br C l r m]at this
theorem zD(r:List Nat)(st:List am):cP [fW r] st=.ok (.int r.length) st:=by
 have:cP [fW r] st=.ok (.int (r.map fun k=>W.int (k:Nat)).length) st:=v8
 rwa[az]at this
theorem Ep(M:Mc)(C:List Fm)(l r:MT)(o:Nat):fr M C l r o=rA M C++(l.rT M++(r.rT M++([o]++rB M C o))):=by unfold fr;simp only[aj]
theorem Jz(M:Mc)(C:List Fm)(l r:MT)(o:Nat):(fr M C l r o).take (pA C).length=rA M C:=by rw[Ep];exact kY (n5 M C)
theorem JA(M:Mc)(C:List Fm)(l r:MT)(o:Nat):(fr M C l r o).drop ((pA C).length+l.size)=r.rT M++([o]++rB M C o):=by
 rw[Ep,<- aj];exact gX (by rw[ah,n5,MT.rT_len])
theorem JB(M:Mc)(C:List Fm)(l r:MT)(o:Nat):(fr M C l r o).take ((pA C).length+l.size)=rA M C++l.rT M:=by
 rw[Ep,<- aj];exact kY (by rw[ah,n5,MT.rT_len])
theorem JC(M:Mc)(C:List Fm)(l r:MT)(o:Nat):(fr M C l r o).drop (pq C l r)=[o]++rB M C o:=by
 rw[Ep,<- aj,<- aj];exact gX (by rw[ah,ah,n5,MT.rT_len,MT.rT_len];rfl)
theorem JD(M:Mc):∀(D:List Fm) (a b:Nat),(rB M D a).length=(rB M D b).length
 |[],a,b=>rfl
 |.lf y w::D,a,b=>by
  show(y.rT M++[_]++rB M D _).length=(y.rT M++[_]++rB M D _).length
  rw[ah,ah,ah,ah,JD M D _ (sv M w b (y.tR M))];rfl
 |.rg y w::D,a,b=>by
  show([_]++rB M D _).length=([_]++rB M D _).length
  rw[ah,ah,JD M D _ (sv M w (y.tR M) b)];rfl
theorem Rh(M:Mc)(C:List Fm)(l r:MT)(o:Nat)(m:List Nat):(fr M C l r o).length=#[1].size:=by
 rw[<- MT.rT_len M,qu M C (.nd l r m)]
 unfold fr
 simp only[ah,MT.rT_len,JD M C o ((MT.nd l r m).tR M),MT.size_nd,bb]
def dW(C C':List Fm)(l r:MT)(m:List Nat)(l' r':MT)(m':List Nat)(s:W):W:=.tup [bw #[1].po,.int (pq C l r:Nat),bw (aZ C' (.nd l' r' m')).po,.int (pq C' l' r':Nat),s]
theorem Fy(hM:lj M n)(hn:1<=n)(C:List Fm)(l r l' r':MT)(m m':List Nat)(sd:Bool)(h1:#[1].size<=900)(h2:(aZ C (.nd l' r' m')).size<=900)(hl:sd=false->l'=l)(hr:sd=true->r'=r)(o:Nat)(st:List am) :
  A_ [M.w,fW (fr M C l r o),dW C C l r m l' r' m' (mR sd)] st=.ok (.tup [fW (fr M C l' r' o),.int ((if sd then l'.size else r'.size:Nat))]) st:=by
 have z1:=fg C (.nd l r m) (by rw[MT.size_nd];omega)
 have z2:=fg C (.nd l' r' m') (by rw[MT.size_nd];omega)
 rw[MT.size_nd]at z1 z2
 have b1:=Jy C l r m h1 st
 have b2:=Jy C l' r' m' h2 st
 have n1:=fS l.po st
 have n2:=fS r.po st
 rw[MT.po_len]at n1 n2
 have hA:=n5 M C
 have hfl:=Rh M C l r o m
 have i3:∀ρ:cf,ρ[2]?=some (some (dW C C l r m l' r' m' (mR sd)))->e2 bp (af 2) (eI 4) ρ st=.ok (mR sd) st:=fun ρ h=>bd (gK h) bf ox
 have eS:hW (mR sd) (.str [108,101,102,116]) st=.ok (.bl sd) st:=by cases sd<;>exact cF rfl
 have a5:(pq C l r:Int)-(l.size:Nat)-(r.size:Nat)=((pA C).length:Nat):=by unfold pq;omega
 have d3:a9 3 (bQ 2 qL (aa (e2 bp (af 2) (eI 0)) (aa (e2 bp (af 2) (eI 1)) aw))) [some M.w,some (fW (fr M C l r o)),some (dW C C l r m l' r' m' (mR sd)),none,none,none,none,none] st=.nx [some M.w,some (fW (fr M C l r o)),some (dW C C l r m l' r' m' (mR sd)),some (.tup [bw l.po,bw r.po]),none,none,none,none] st:=
  a8 (bT (ai kx (ai kx aG)) b1 rfl)
 refine eM ?_ (by simp[undWs,vh,W.und])
 apply av
 ·exact d3
 apply av
 ·exact a8 (bT (ai kx (ai kx aG)) b2 rfl)
 apply av
 ·refine a8 (st1:=st) (w:=.int ((pA C).length:Nat)) ?_
  rw[<- a5]
  exact bd (bd kx (bE (ai kx aG) n1) rfl) (bE (ai kx aG) n2) rfl
 apply av
 ·refine a8 (st1:=st) (w:=.int ((pA C).length+l.size:Nat)) ?_
  rw[fH]
  exact bd kv (bE (ai kx aG) n1) du
 cases sd with
 |true=>
  obtain rfl:=hr rfl
  have rm:=sO hM hn l' #[0] st
  have nl:=zD (l'.rT M) st
  rw[MT.rT_len]at nl
  apply dF
  ·exact aL (bd (i3 _ rfl) bf eS)
  apply tW
  apply av
  ·exact a8 (bT (ai kv (ai kx aG)) rm rfl)
  apply dy
  ·refine cE (ai (bd (bd (m9 kv tV (m8 kv) (Bs #[0] st)) kv (sN _ _ ?_ st)) (m9 kv (m8 kv) tV (Bt #[0] st)) (sN _ _ ?_ st)) (ai (bE kn nl) aG)) (ag rfl)
   ·simp only[ah,aJ,MT.rT_len];omega
   ·simp only[ah,aJ,b8,MT.rT_len];omega
  ·refine⟨_,_,rfl,?_,[],by simp⟩
   rw[Jz,JA]
   unfold fr
   simp only[aj];rfl
 |false=>
  obtain rfl:=hl rfl
  have rm:=sO hM hn r' #[0] st
  have nl:=zD (r'.rT M) st
  rw[MT.rT_len]at nl
  apply bn
  ·exact aL (bd (i3 _ rfl) bf eS)
  apply bM
  apply av
  ·exact a8 (bT (ai kv (ai kx aG)) rm rfl)
  apply bH
  ·refine cE (ai (bd (bd (m9 kv tV (m8 kv) (Bs #[0] st)) kv (sN _ _ ?_ st)) (m9 kv (m8 kx) tV (Bt (by unfold pq;omega) st)) (sN _ _ ?_ st)) (ai (bE kn nl) aG)) (ag rfl)
   ·simp only[ah,aJ,MT.rT_len];omega
   ·simp only[ah,aJ,b8,MT.rT_len];omega
  ·refine⟨_,_,rfl,?_,[],by simp⟩
   rw[JB,JC]
   unfold fr
   simp only[aj];rfl
end
inductive Dd where
 |mk (C:List Fm) (l r:MT) (m:List Nat) (l' r':MT) (m':List Nat) (sd:Option Bool)
 |wh (t t':MT)
namespace Dd
def a:Dd->MT
 |mk C l r m _ _ _ _=>aZ C (.nd l r m)
 |wh t _=>t
def b:Dd->MT
 |mk C _ _ _ l' r' m' _=>aZ C (.nd l' r' m')
 |wh _ t'=>t'
def sW:Option Bool->W
 |none=>.non
 |some s=>mR s
def w:Dd->W
 |mk C l r m l' r' m' sd=>dW C C l r m l' r' m' (sW sd)
 |wh t t'=>.tup [bw t.po,.non,bw t'.po,.non,.non]
noncomputable def tn:Dd->Dd
 |mk C l r m l' r' m' sd=>mk C l' r' m' l r m sd
 |wh t t'=>wh t' t
def ok:Dd->Prop
 |mk C l r m l' r' m' sd=>(aZ C (.nd l r m)).size<=100/\(aZ C (.nd l' r' m')).size<=100/\(sd≠some true->l'=l)/\(sd≠some false->r'=r)
 |wh t t'=>t.size<=100/\t'.size<=100
noncomputable def bc:Option Bool->MT->MT->Nat
 |none,_,_=>0
 |some sd,l,r=>if sd then l.size else r.size
def ct(M:Mc):Dd->Nat
 |mk C l r m l' r' m' sd=>bc sd l' r'+LN M C (sv M m' (l'.tR M) (r'.tR M)) (sv M m (l.tR M) (r.tR M))
 |wh _ t'=>t'.size
theorem tn_a(d:Dd):d.tn.a=d.b:=by cases d<;>rfl
theorem tn_b(d:Dd):d.tn.b=d.a:=by cases d<;>rfl
theorem tn_ok{d:Dd}(h:d.ok):d.tn.ok:=by
 cases d with
 |mk C l r m l' r' m' sd=>exact⟨h.2.1,h.1,fun e=>(h.2.2.1 e).symm,fun e=>(h.2.2.2 e).symm⟩
 |wh t t'=>exact⟨h.2,h.1⟩
theorem ok_a{d:Dd}(h:d.ok):d.a.size<=100:=by
 cases d with
 |mk C l r m l' r' m' sd=>exact h.1
 |wh t t'=>exact h.1
theorem ok_b{d:Dd}(h:d.ok):d.b.size<=100:=by rw[<- tn_a];exact ok_a (tn_ok h)
end Dd
section
variable{f m:Str}{fs:FA}{z1 z2 z3:List am}{fl Xy:List (Str×W)}{y w:W}{P:RS->Prop}{gb:FS}
theorem p9(h1:fe ρ z=.ok y z1)(h2:fo ρ z1=.ok (.loc n) z2)(h3:z2[n]?=some (.obj c fl))(hl:fl.length<900):pO c f fo fe ρ z=.nx ρ (z2.set n (.obj c (xb f y fl))):=by
 unfold pO
 rw[h1];simp only[R.stmt_ok];rw[h2];simp only[R.stmt_ok,m7,h3]
 rw[aD ⟨trivial,hl⟩]
theorem c9(h:fa ρ z=.ok (.loc n) z1)(h3:z1[n]?=some (.obj c fl))(hk:fl.lookup f=some w):iE c f fa ρ z=.ok w z1:=by
 unfold iE
 rw[h];simp only[R.bind_ok,m7,h3,fM,hk,eF]
theorem gE(h:fo ρ z=.ok (.loc n) z1)(h3:z1[n]?=some (.obj c fl))(hm:fl.lookup m=none)(ha:fs ρ z1=.ok ws z2)(hn:ws.length+1=k)(hF:F (.loc n::ws) z2=.ok w z3):gJ c m k F fo fs ρ z=.ok w z3:=by
 unfold gJ
 rw[h];simp only[R.bind_ok,m7,h3]
 rw[aD ⟨trivial,hm⟩,ha];simp only[R.bind_ok]
 rw[aD hn,hF]
theorem Ri(ha:fs ρ z=.ok ws z1)(hn:ws.length+1=k)(hF:F (.loc z1.length::ws) (z1++[.obj c []])=.ok .non z2):D3 c k F fs ρ z=.ok (.loc z1.length) z2:=by
 unfold D3
 rw[ha];simp only[R.bind_ok]
 rw[aD hn,hF]
theorem j8(h:be.length=st.length):hX st be ws=be:=by
 unfold hX
 split
 ·rw[bD #[0]]
 ·rfl
theorem wG(ws:List W)(hL:L<st.length)(h:be[L]?=some (.obj c fl))(hu:undWs st.length (fl.map fun p=>p.2)=false)(hz:st[L]?≠some (.obj c fl)):hX st be ws=be:=by
 unfold hX
 rw[aQ]
 rintro⟨_,_,k⟩
 rcases k L hL with e|⟨c,e,hc⟩
 ·rw[h]at e;exact hz e.symm
 ·rw[h]at e
  cases e
  have hc:undWs st.length (fl.map fun p=>p.2)=true:=hc
  rw[hu]at hc;cases hc
theorem kr{N:Nat}(h:body #[13] st=.nx ρ be):cQ N body ws st=.ok .non (hX st be []):=by
 unfold cQ;rw[h]
end
section
variable{M:Mc}{a b:Nat}
def kF(M:Mc)(t:MT)(k:Nat)(a b:Nat):List (Str×W):=[("machine",M.w),("tree",bw t.po),("rooms",fW (t.rT M)),("many",.int (k:Nat)),("standing",.loc a),("taken_back",.loc b)]
theorem wH(hM:lj M n)(hn:1<=n){d:Dd}(hd:d.ok)(hz:z[L]?=some (.obj "Kept" (kF M d.a k a b))):dq [.loc L,d.w] z=.ok .non (z.set L (.obj "Kept" (kF M d.b (d.ct M) a b))):=by
 suffices hh:∃ρ,j7 ([.loc L,d.w].map some++List.replicate (4-2) none) z=.nx ρ (z.set L (.obj "Kept" (kF M d.b (d.ct M) a b))) by
  obtain⟨ρ,e⟩:=hh
  show cQ 4 j7 _ _=_
  rw[kr e,j8 #[15]]
 cases d with
 |wh t t'=>
  have hd2:t'.size<=100:=hd.2
  refine⟨[lO L,some (Dd.wh t t').w,none,none],?_⟩
  have e1:pO "Kept" "rooms" (af 0) (bQ 2 pY (aa (iE "Kept" "machine" (af 0)) (aa (e2 bp (af 1) (eI 2)) aw))) [lO L,some (Dd.wh t t').w,none,none] z=.nx [lO L,some (Dd.wh t t').w,none,none] (z.set L (.obj "Kept" [("machine",M.w),("tree",bw t.po),("rooms",fW (t'.rT M)),("many",.int (k:Nat)),("standing",.loc a),("taken_back",.loc b)])):=
   p9 (bT (ai (c9 kv hz rfl) (ai kx aG)) (sO hM hn t' #[0] z) rfl) kv hz (ag rfl)
  have l1:=fS t'.po (z.set L (.obj "Kept" [("machine",M.w),("tree",bw t.po),("rooms",fW (t'.rT M)),("many",.int (k:Nat)),("standing",.loc a),("taken_back",.loc b)]))
  rw[MT.po_len]at l1
  refine cr (cC (aL (AL kx rfl)) (cr e1 (p9 (bE (ai kx aG) l1) kv (dQ hz) (ag rfl)))) ?_
  rw[oz]
  rw[p9 (f:="tree") kx kv (dQ hz) (ag rfl),oz]
  rfl
 |mk C l r m l' r' m' sd=>
  obtain⟨h1,h2,h3,h4⟩:=hd
  have z0:z[L]?=some (.obj "Kept" (kF M #[1] k a b)):=hz
  have hrm:#[1].rT M=fr M C l r (sv M m (l.tR M) (r.tR M)):=by rw[qu];rfl
  have ho:=wD hM m (l.tR_lt hM hn) (r.tR_lt hM hn)
  generalize hov:sv M m (l.tR M) (r.tR M)=o at *
  obtain⟨k1,hk1,e2⟩:∃k1,k1=Dd.bc sd l' r'/\eW (dm (gs (e2 bp (af 1) (eI 4)))) (a9 2 (bQ 3 A_ (aa (iE "Kept" "machine" (af 0)) (aa (iE "Kept" "rooms" (af 0)) (aa (af 1) aw))))) bI [lO L,some (Dd.mk C l r m l' r' m' sd).w,some (.tup [fW (fr M C l r o),.int 0]),none] z=.nx [lO L,some (Dd.mk C l r m l' r' m' sd).w,some (.tup [fW (fr M C l' r' o),.int (k1:Nat)]),none] z:=by
   cases sd with
   |none=>
    obtain rfl:=h3 #[3]
    obtain rfl:=h4 #[3]
    exact⟨_,rfl,bK (aL (eK kx rfl)) cU⟩
   |some s=>
    have bo:=Fy hM hn C l r l' r' m m' s #[0] #[0] (fun e=>h3 (by rw[e];decide)) (fun e=>h4 (by rw[e];decide)) o z
    refine⟨_,rfl,cC (aL (eK kx (by cases s<;>rfl))) (a8 (bT (ai (c9 kv z0 rfl) (ai (c9 kv z0 ?_) kn)) bo rfl))⟩
    show some (fW (#[1].rT M))=_
    rw[hrm]
  have cl:=C7 hM hn (C:=C) (l:=l') (r:=r') (m:=m') (o:=o) rfl ho #[0] z
  refine⟨[lO L,some (Dd.mk C l r m l' r' m' sd).w,some (.tup [fW (fr M C l' r' o),.int (k1:Nat)]),some (.tup [fW ((aZ C (.nd l' r' m')).rT M),.int (LN M C (sv M m' (l'.tR M) (r'.tR M)) o:Nat)])],?_⟩
  refine cr (bK (aL (AL kx rfl)) (cr (a8 (w:=.tup [fW (fr M C l r o),.int 0]) (cE (ai (c9 (w:=fW (fr M C l r o)) kv z0 ?_) (ai bf aG)) (ag rfl))) (cr e2 (cr (a8 (bT (ai (c9 kv z0 rfl) (ai kx (ai kx (ai kx aG)))) cl rfl)) (cr (p9 kx kv z0 (ag rfl)) (p9 (bd kx kx du) kv (dQ z0) (ag rfl))))))) ?_
  ·show some (fW (#[1].rT M))=_
   rw[hrm]
  ·rw[oz]
   rw[p9 (f:="tree") kx kv (dQ z0) (ag rfl),oz]
   have hct:(Dd.mk C l r m l' r' m' sd).ct M=k1+LN M C (sv M m' (l'.tR M) (r'.tR M)) o:=by rw[hk1,<- hov];rfl
   rw[hct]
   rfl
end
end P
namespace P
open PySem L2
structure lH(M:Mc)(L a b:Nat)(t:MT)(k:Nat)(sd tk:List Dd)(z:List am):Prop where
 ob:z[L]?=some (.obj "Kept" (kF M t k a b))
 s:z[a]?=some (.lst (sd.reverse.map Dd.w))
 u:z[b]?=some (.lst (tk.reverse.map Dd.w))
 la:L≠a
 lb:L≠b
 ab:a≠b
 ls:sd.length<=1000
 lu:tk.length<=1000
def K3(L a b:Nat)(z z':List am):Prop:=z.length<=z'.length/\∀i,i<z.length->i≠L->i≠a->i≠b->z'[i]?=z[i]?
section
variable{M:Mc}{a b:Nat}{t:MT}{sd tk:List Dd}{d:Dd}
theorem JE(hM:lj M n)(hn:1<=n)(hd:d.ok)(hz:lH M L a b d.a k sd tk z)(hs:sd.length<1000):∃z',dP [.loc L,d.w] z=.ok .non z'/\lH M L a z.length d.b (d.ct M) (d::sd) [] z'/\K3 L a b z z':=by
 have c1:=wH hM hn hd hz.ob
 have lL:=fC hz.ob
 have lA:=fC hz.s
 have lB:=fC hz.u
 have g1:(z.set L (.obj "Kept" (kF M d.b (d.ct M) a b)))[a]?=some (.lst (sd.reverse.map Dd.w)):=by rw[bN hz.la];exact hz.s
 have g2:((z.set L (.obj "Kept" (kF M d.b (d.ct M) a b))).set a (.lst (sd.reverse.map Dd.w++[d.w])))[L]?=some (.obj "Kept" (kF M d.b (d.ct M) a b)):=by rw[bN (Ne.symm hz.la)];exact dQ hz.ob
 have hl:((z.set L (.obj "Kept" (kF M d.b (d.ct M) a b))).set a (.lst (sd.reverse.map Dd.w++[d.w]))).length=z.length:=by simp
 have e:pZ ([.loc L,d.w].map some++List.replicate (2-2) none) z=.nx [lO L,some d.w] ((((z.set L (.obj "Kept" (kF M d.b (d.ct M) a b))).set a (.lst (sd.reverse.map Dd.w++[d.w])))++[am.lst []]).set L (.obj "Kept" (kF M d.b (d.ct M) a z.length))):=by
  refine cr (dO (gE kv hz.ob rfl kn rfl c1)) (cr (dO (il (c9 kv (dQ hz.ob) rfl) (c6 g1) kn (lG g1 (by simp;omega)))) ?_)
  rw[p9 (f:="taken_back") (k6 aG (ag rfl)) kv (cw g2) (ag rfl),hl]
  rfl
 have e2:=kr (N:=2) e
 generalize hz':(((z.set L (.obj "Kept" (kF M d.b (d.ct M) a b))).set a (.lst (sd.reverse.map Dd.w++[d.w])))++[am.lst []]).set L (.obj "Kept" (kF M d.b (d.ct M) a z.length))=z' at *
 have oL:z'[L]?=some (.obj "Kept" (kF M d.b (d.ct M) a z.length)):=by rw[<- hz'];exact dQ (cw g2)
 have oA:z'[a]?=some (.lst ((d::sd).reverse.map Dd.w)):=by
  rw[<- hz',bN hz.la]
  refine cw ?_
  rw[dQ g1,bA,aV];rfl
 have oB:z'[z.length]?=some (.lst (([]:List Dd).reverse.map Dd.w)):=by
  rw[<- hz',bN #[0],<- hl]
  exact cK
 rw[wG [] lL oL (by simp[kF,undWs,W.und]) (by rw[hz.ob];intro e;injection e with e;injection e with _ e;simp[kF]at e;omega)]at e2
 refine⟨z',e2,⟨oL,oA,oB,hz.la,by omega,by omega,by rw[bg];omega,by simp⟩,by rw[<- hz'];simp,fun i hi h1 h2 h3=>?_⟩
 rw[<- hz',bN (Ne.symm h1),aH (by simpa using hi),bN (Ne.symm h2),bN (Ne.symm h1)]
theorem gR{z':List am}{t':MT}{k':Nat}{Xr Rp:List Dd}(ws:List W)(hz:lH M L a b t k sd tk z)(h:lH M L a z.length t' k' Xr Rp z'):hX z z' ws=z':=
 wG ws (fC hz.ob) h.ob (by simp[kF,undWs,W.und]) (by
  have:=fC hz.u
  rw[hz.ob];intro e;injection e with e;injection e with _ e;simp[kF]at e;omega)
theorem zE(C:List Fm)(l r:MT)(m m':List Nat)(h:#[1].size<=900)(st:List am):D9 [bw #[1].po,.int (pq C l r:Nat),.str m'] st=.ok (bw (aZ C (.nd l r m')).po) st:=by
 have z1:=fg C (.nd l r m) (by rw[MT.size_nd];omega)
 rw[MT.size_nd]at z1
 have hl:=MT.po_len #[1]
 have hq:pq C l r+1<=#[1].po.length:=by unfold pq;omega
 have e1:#[1].po.take (pq C l r)=pA C++(l.po++r.po):=by
  rw[c5,show pA C++(MT.nd l r m).po++pB C=(pA C++(l.po++r.po))++(⟨l.one+2*r.one,m⟩::pB C) by show pA C++(l.po++r.po++[_])++pB C=_;simp only[aj];rfl]
  exact kY (by rw[ah,ah,MT.po_len,MT.po_len];unfold pq;omega)
 have e2:#[1].po.drop (pq C l r+1)=pB C:=by
  rw[c5]
  exact gX (by rw[ah,MT.po_len,MT.size_nd];unfold pq;omega)
 have e3:(aZ C (.nd l r m')).po=(pA C++(l.po++r.po))++[⟨l.one+2*r.one,m'⟩]++pB C:=by
  rw[c5];show pA C++(l.po++r.po++[_])++pB C=_;simp only[aj]
 have hs:(aZ C (.nd l r m')).po.length=#[1].po.length:=by rw[c5,c5];simp only[ah,MT.po_len,MT.size_nd]
 rw[e3]at hs
 have s1:=wA (a:=#[1].po) (q:=pq C l r) #[0] st
 have s2:=wB (a:=#[1].po) (q:=pq C l r+1) #[0] st
 rw[e1]at s1
 rw[e2]at s2
 rw[ah]at hs
 refine eM ?_ (by simp only[undWs,kQ,dg])
 apply bH
 ·exact bd (bd (m9 kv tV (m8 kv) s1) (cE (ai (cE (ai (bd (bd kv kv (sE (n6 C l r m) st)) bf (Q3 _ st)) kn) (ag rfl)) aG) (ag rfl)) (jJ _ [⟨l.one+2*r.one,m'⟩] #[0] st)) (m9 kv (m8 (bd kv bf du)) tV s2) (jJ _ _ (by rw[ah];omega) st)
 ·exact⟨_,_,rfl,by rw[e3],[],by simp⟩
theorem Er(hM:lj M n)(hn:1<=n){C:List Fm}{l r:MT}{m':List Nat}(hd:(Dd.mk C l r m l r m' none).ok)(hz:lH M L a b #[1] k sd tk z)(hs:sd.length<1000):∃z',eh [.loc L,.int (pq C l r:Nat),.str m'] z=.ok .non z'/\lH M L a z.length (aZ C (.nd l r m')) ((Dd.mk C l r m l r m' none).ct M) (Dd.mk C l r m l r m' none::sd) [] z'/\K3 L a b z z':=by
 obtain⟨z',e,h,h3⟩:=JE hM hn (d:=Dd.mk C l r m l r m' none) hd hz hs
 refine⟨z',?_,h,h3⟩
 rw[<- gR [] hz h]
 refine kr (N:=3) (ρ:=[lO L,iO (pq C l r:Nat),some (.str m')]) (dO (gE kv hz.ob rfl (ai (cE (ai (c9 kv hz.ob rfl) (ai kv (ai (bT (ai (c9 kv hz.ob rfl) (ai kv kn)) (zE C l r m m' (by have:=hd.1;omega) z) rfl) (ai kv (ai bf aG))))) (ag rfl)) aG) rfl e))
def qw(m:List Nat):Prop:=m.Pairwise (· < ·)/\∀c∈m,c∈LL
theorem C8(hM:lj M n)(hn:1<=n){C:List Fm}{l r:MT}{c:Nat}(h1:#[1].size<=100)(h2:(aZ C (.nd l r (gy (m++[c])))).size<=100)(hm:∀d∈m,d∈LL)(Xb:m.length<=60)(hc:c∈LL)(hz:lH M L a b #[1] k sd tk z)(hs:sd.length<1000) :
  ∃z',jf [.loc L,.int (pq C l r:Nat),.str [c]] z=.ok .non z'/\lH M L a z.length (aZ C (.nd l r (gy (m++[c])))) ((Dd.mk C l r m l r (gy (m++[c])) none).ct M) (Dd.mk C l r m l r (gy (m++[c])) none::sd) [] z'/\K3 L a b z z':=by
 obtain⟨z',e,h,h3⟩:=Er hM hn (C:=C) (l:=l) (r:=r) (m:=m) (m':=gy (m++[c])) ⟨h1,h2,fun _=>rfl,fun _=>rfl⟩ hz hs
 refine⟨z',?_,h,h3⟩
 have z1:=fg C (.nd l r m) (by rw[MT.size_nd];omega)
 rw[MT.size_nd]at z1
 have hl:=MT.po_len #[1]
 have hml2:m.length<=m5:=by show _<=1000000;omega
 have hcp:=wC (ps:=#[1].po) (q:=pq C l r) (by unfold pq;omega) z
 have io:=Jm (l:=m++[c]) (by rw[ah,bb];omega) (fun d hd=>by
  rcases aP.mp hd with hd|hd
  ·exact hm d hd
  ·rw[aT.mp hd];exact hc) z
 rw[<- gR [] hz h]
 refine kr (N:=3) (ρ:=[lO L,iO (pq C l r:Nat),some (.str [c])]) (cr (dO (bT (ai (c9 kv hz.ob rfl) kn) hcp rfl)) (dO (gE kv hz.ob rfl (ai kv (ai (bT (ai (bd (bd (bd (c9 kv hz.ob rfl) kv (sE (n6 C l r m) z)) bf (CT _ z)) kv (CG (by show _<=1000000;simp;omega))) aG) io rfl) aG)) rfl e)))
theorem Bu(hM:lj M n)(hn:1<=n){C:List Fm}{l r:MT}{c:Nat}(h1:#[1].size<=100)(h2:(aZ C (.nd l r (m.filter fun d=>d != c))).size<=100)(Xb:m.length<=60)(hz:lH M L a b #[1] k sd tk z)(hs:sd.length<1000) :
  ∃z',iq [.loc L,.int (pq C l r:Nat),.str [c]] z=.ok .non z'/\lH M L a z.length (aZ C (.nd l r (m.filter fun d=>d != c))) ((Dd.mk C l r m l r (m.filter fun d=>d != c) none).ct M) (Dd.mk C l r m l r (m.filter fun d=>d != c) none::sd) [] z'/\K3 L a b z z':=by
 obtain⟨z',e,h,h3⟩:=Er hM hn (C:=C) (l:=l) (r:=r) (m:=m) (m':=m.filter fun d=>d != c) ⟨h1,h2,fun _=>rfl,fun _=>rfl⟩ hz hs
 refine⟨z',?_,h,h3⟩
 have z1:=fg C (.nd l r m) (by rw[MT.size_nd];omega)
 rw[MT.size_nd]at z1
 have hl:=MT.po_len #[1]
 have hml2:m.length<=m5:=by show _<=1000000;omega
 have hcp:=wC (ps:=#[1].po) (q:=pq C l r) (by unfold pq;omega) z
 rw[<- gR [] hz h]
 refine kr (N:=3) (ρ:=[lO L,iO (pq C l r:Nat),some (.str [c])]) (cr (dO (bT (ai (c9 kv hz.ob rfl) kn) hcp rfl)) (dO (gE kv hz.ob rfl (ai kv (ai (P9 (bd (bd (c9 kv hz.ob rfl) kv (sE (n6 C l r m) z)) bf (CT _ z)) kv hml2) aG)) rfl e)))
theorem yp(hM:lj M n)(hn:1<=n){C:List Fm}{l r x:MT}{m:List Nat}{s:Bool}(h1:#[1].size<=100)(hx:x.size<=100)(h2:(aZ C #[12]).size<=100)(hz:lH M L a b #[1] k sd tk z)(hs:sd.length<1000) :
  ∃z',fR [.loc L,.int (pq C l r:Nat),mR s,bw x.po] z=.ok .non z'/\lH M L a z.length (aZ C #[12]) ((Dd.mk C l r m (if s then x else l) (if s then r else x) m (some s)).ct M) (Dd.mk C l r m (if s then x else l) (if s then r else x) m (some s)::sd) [] z'/\K3 L a b z z':=by
 obtain⟨z',e,h,h3⟩:=JE hM hn (d:=Dd.mk C l r m (if s then x else l) (if s then r else x) m (some s)) ⟨h1,h2,fun e=>by cases s<;>first|rfl|exact absurd rfl e,fun e=>by cases s<;>first|rfl|exact absurd rfl e⟩ hz hs
 refine⟨z',?_,h,h3⟩
 have z1:=fg C (.nd l r m) (by rw[MT.size_nd];omega)
 have z2:=fg C #[12] (by rw[MT.size_nd];omega)
 rw[MT.size_nd]at z1 z2
 have hl:=MT.po_len #[1]
 have hl2:=MT.po_len (aZ C #[12])
 have hxl:=MT.po_len x
 have pb:=Rc (oth:=x.po) #[1].gr0 #[0] #[0] (sL C l r m) s z (by rw[sM];omega)
 rw[sM]at pb
 have n1:=fS (aZ C #[12]).po z
 have n2:=fS #[1].po z
 have hq:(pq C l r:Int)+((aZ C #[12]).po.length:Nat)-(#[1].po.length:Nat)=(pq C (if s then x else l) (if s then r else x):Nat):=by
  rw[c5,c5]
  simp only[ah,MT.po_len,MT.size_nd]
  unfold pq
  omega
 rw[<- gR [] hz h]
 refine kr (N:=5) (ρ:=[lO L,iO (pq C l r:Nat),some (mR s),some (bw x.po),some (bw (aZ C #[12]).po)]) (cr (a8 (bT (ai (c9 kv hz.ob rfl) (ai kv (ai kv kn))) pb rfl)) (dO (gE (ws:=[(Dd.mk C l r m (if s then x else l) (if s then r else x) m (some s)).w]) kv hz.ob rfl (ai ?_ aG) rfl e)))
 show _=R.ok (W.tup [bw #[1].po,.int (pq C l r:Nat),bw (aZ C #[12]).po,.int (pq C (if s then x else l) (if s then r else x):Nat),mR s]) z
 rw[<- hq]
 exact cE (ai (c9 kv hz.ob rfl) (ai kv (ai kv (ai (bd (bd kv (bE kn n1) du) (bE (ai (c9 kv hz.ob rfl) aG) n2) rfl) kn)))) (ag rfl)
theorem JF(hM:lj M n)(hn:1<=n){x:MT}(h1:t.size<=100)(hx:x.size<=100)(hz:lH M L a b t k sd tk z)(hs:sd.length<1000) :
  ∃z',iG [.loc L,bw x.po] z=.ok .non z'/\lH M L a z.length x x.size (Dd.wh t x::sd) [] z'/\K3 L a b z z':=by
 obtain⟨z',e,h,h3⟩:=JE hM hn (d:=Dd.wh t x) ⟨h1,hx⟩ hz hs
 refine⟨z',?_,h,h3⟩
 rw[<- gR [] hz h]
 exact kr (N:=2) (ρ:=[lO L,some (bw x.po)]) (dO (gE kv hz.ob rfl (ai (cE (ai (c9 kv hz.ob rfl) (ai bf (ai kv (ai bf (ai bf aG))))) (ag rfl)) aG) rfl e))
end
section
variable{M:Mc}{a b:Nat}{t:MT}{sd tk:List Dd}{d:Dd}
theorem Fz(d:Dd)(st:List am):D8 [d.w] st=.ok d.tn.w st:=by
 cases d with
 |mk C l r m l' r' m' s=>
  apply dY
  apply bH
  ·exact cE (ai kx (ai kx (ai kx (ai kx (ai kx aG))))) (ag rfl)
  ·exact⟨_,_,rfl,rfl,rfl⟩
 |wh t t'=>
  apply dY
  apply bH
  ·exact cE (ai kx (ai kx (ai kx (ai kx (ai kx aG))))) (ag rfl)
  ·exact⟨_,_,rfl,rfl,rfl⟩
theorem LP(hM:lj M n)(hn:1<=n)(hd:d.ok)(hz:lH M L a b d.b k (d::sd) tk z)(hs:tk.length<1000):∃z',iu [.loc L] z=.ok .non z'/\lH M L a b d.a (d.tn.ct M) sd (d::tk) z'/\K3 L a b z z'/\z'.length=z.length:=by
 have hsr:z[a]?=some (.lst (sd.reverse.map Dd.w++[d.w])):=by rw[hz.s,bA,aV];rfl
 have oL:(z.set a (.lst (sd.reverse.map Dd.w)))[L]?=some (.obj "Kept" (kF M d.tn.a k a b)):=by rw[bN (Ne.symm hz.la),Dd.tn_a];exact hz.ob
 have c1:=wH hM hn (Dd.tn_ok hd) oL
 rw[Dd.tn_b]at c1
 have oB:((z.set a (.lst (sd.reverse.map Dd.w))).set L (.obj "Kept" (kF M d.a (d.tn.ct M) a b)))[b]?=some (.lst (tk.reverse.map Dd.w)):=by rw[bN hz.lb,bN hz.ab];exact hz.u
 have e:p5 ([.loc L].map some++List.replicate (2-1) none) z=.nx [lO L,some d.w] (((z.set a (.lst (sd.reverse.map Dd.w))).set L (.obj "Kept" (kF M d.a (d.tn.ct M) a b))).set b (.lst (tk.reverse.map Dd.w++[d.w]))):=
  cr (bK (aL (bd (bE (ai (c9 kv hz.ob rfl) aG) (iR (bB hsr))) bf (ec (by simp;omega)))) cU)
   (cr (a8 (il (c9 kv hz.ob rfl) (c6 hsr) aG (v9 hsr))) (cr (dO (gE kv oL rfl (ai (bT kn (Fz d _) rfl) aG) rfl c1))
    (dO (il (c9 kv (dQ oL) rfl) (c6 oB) kn (lG oB (by simp;omega))))))
 have e2:=kr (N:=2) e
 rw[j8 #[15]]at e2
 refine⟨_,e2,⟨?_,?_,?_,hz.la,hz.lb,hz.ab,by have:=hz.ls;rw[bg]at this;omega,by rw[bg];omega⟩,⟨by simp,fun i hi h1 h2 h3=>?_⟩,by simp⟩
 ·rw[bN (Ne.symm hz.lb)];exact dQ oL
 ·rw[bN (Ne.symm hz.ab),bN hz.la];exact dQ hsr
 ·rw[dQ oB,bA,aV];rfl
 ·rw[bN (Ne.symm h3),bN (Ne.symm h1),bN (Ne.symm h2)]
theorem JG(hM:lj M n)(hn:1<=n)(hd:d.ok)(hz:lH M L a b d.a k sd (d::tk) z)(hs:sd.length<1000):∃z',gD [.loc L] z=.ok .non z'/\lH M L a b d.b (d.ct M) (d::sd) tk z'/\K3 L a b z z'/\z'.length=z.length:=by
 have hsr:z[b]?=some (.lst (tk.reverse.map Dd.w++[d.w])):=by rw[hz.u,bA,aV];rfl
 have oL:(z.set b (.lst (tk.reverse.map Dd.w)))[L]?=some (.obj "Kept" (kF M d.a k a b)):=by rw[bN (Ne.symm hz.lb)];exact hz.ob
 have c1:=wH hM hn hd oL
 have oA:((z.set b (.lst (tk.reverse.map Dd.w))).set L (.obj "Kept" (kF M d.b (d.ct M) a b)))[a]?=some (.lst (sd.reverse.map Dd.w)):=by rw[bN hz.la,bN (Ne.symm hz.ab)];exact hz.s
 have e:nV ([.loc L].map some++List.replicate (2-1) none) z=.nx [lO L,some d.w] (((z.set b (.lst (tk.reverse.map Dd.w))).set L (.obj "Kept" (kF M d.b (d.ct M) a b))).set a (.lst (sd.reverse.map Dd.w++[d.w]))):=
  cr (bK (aL (bd (bE (ai (c9 kv hz.ob rfl) aG) (iR (bB hsr))) bf (ec (by simp;omega)))) cU)
   (cr (a8 (il (c9 kv hz.ob rfl) (c6 hsr) aG (v9 hsr))) (cr (dO (gE kv oL rfl kn rfl c1))
    (dO (il (c9 kv (dQ oL) rfl) (c6 oA) kn (lG oA (by simp;omega))))))
 have e2:=kr (N:=2) e
 rw[j8 #[15]]at e2
 refine⟨_,e2,⟨?_,?_,?_,hz.la,hz.lb,hz.ab,by rw[bg];omega,by have:=hz.lu;rw[bg]at this;omega⟩,⟨by simp,fun i hi h1 h2 h3=>?_⟩,by simp⟩
 ·rw[bN (Ne.symm hz.la)];exact dQ oL
 ·rw[dQ oA,bA,aV];rfl
 ·rw[bN hz.ab,bN hz.lb];exact dQ hsr
 ·rw[bN (Ne.symm h2),bN (Ne.symm h1),bN (Ne.symm h3)]
theorem lH.app{x:List am}(h:lH M L a b t k sd tk z):lH M L a b t k sd tk (z++x):=⟨cw h.ob,cw h.s,cw h.u,h.la,h.lb,h.ab,h.ls,h.lu⟩
theorem LQ(hM:lj M n)(hn:1<=n)(ht:t.size<=900)(z:List am):∃z',gM [.loc z.length,M.w,bw t.po] (z++[.obj "Kept" []])=.ok .non z'/\lH M z.length (z.length+1) (z.length+2) t t.size [] [] z'/\z <+: z':=by
 have rm:=sO hM hn t ht
 have ln:=fS t.po
 rw[MT.po_len]at ln
 have sx:∀(c:am) (y:List am),(z++c::y)[z.length]?=some c:=fun c y=>by rw[dE];rfl
 have ss:∀(c d:am) (y:List am),(z++c::y).set z.length d=z++d::y:=fun c d y=>by rw[fE];rfl
 have e:oN ([.loc z.length,M.w,bw t.po].map some++List.replicate (3-3) none) (z++[.obj "Kept" []])=.nx [lO z.length,some M.w,some (bw t.po)] (z++[.obj "Kept" (kF M t t.size (z.length+1) (z.length+2)),.lst [],.lst []]):=by
  have F:∀{f:Str} {fe:FE} {ρ:cf} {fl:List (Str×W)} {y:List am} {w:W} {y':List am},ρ[0]?=some (lO z.length)->fl.length<900->fe ρ (z++.obj "Kept" fl::y)=.ok w (z++.obj "Kept" fl::y')->pO "Kept" f (af 0) fe ρ (z++.obj "Kept" fl::y)=.nx ρ (z++.obj "Kept" (xb f w fl)::y'):=fun h hl h1=>by
   rw[p9 h1 (gK h) (sx _ _) hl,ss]
  refine cr (F rfl (ag rfl) kv) (cr (F rfl (ag rfl) kv) (cr (F rfl (ag rfl) (bT (ai kv kn) (rm _) rfl)) (cr (F rfl (ag rfl) (bE kn (ln _))) (cr (F (w:=.loc (z.length+1)) (y':=[.lst []]) rfl (ag rfl) ?_) ?_))))
  ·rw[k6 aG (ag rfl),aj];simp
  ·rw[F (w:=.loc (z.length+2)) (y':=[.lst [],.lst []]) rfl (ag rfl) (by rw[k6 aG (ag rfl),aj];simp)]
   rfl
 have e2:=kr (N:=3) e
 have oL:(z++[.obj "Kept" (kF M t t.size (z.length+1) (z.length+2)),.lst [],.lst []])[z.length]?=some (.obj "Kept" (kF M t t.size (z.length+1) (z.length+2))):=sx _ _
 rw[wG (L:=z.length) [] #[15] oL (by simp[kF,undWs,W.und]) (by rw[sx];intro e;injection e with e;injection e with _ e;simp[kF]at e)]at e2
 exact⟨_,e2,⟨oL,by rw[gC];rfl,by rw[gC];rfl,by omega,by omega,by omega,by simp,by simp⟩,aX _ _⟩
theorem Bv(hz:lH M L a b t k sd tk z):gc [.loc L] z=.ok (fW (t.rT M)) z:=by
 apply dY
 apply bH
 ·exact c9 kv hz.ob rfl
 ·exact⟨_,_,rfl,rfl,rfl⟩
theorem C9(hz:lH M L a b t k sd tk z):gN [.loc L] z=.ok (bw t.po) z:=by
 apply dY
 apply bH
 ·exact c9 kv hz.ob rfl
 ·exact⟨_,_,rfl,rfl,rfl⟩
theorem C_(hM:lj M n)(hn:1<=n)(hz:lH M L a b t k sd tk z):gO [.loc L] z=.ok (.bl (M.gd.getD (t.tR M) false)) z:=by
 have g1:bp M.w (.int 1) z=.ok (.tup (M.gd.map W.bl)) z:=rfl
 have nl:=zD (t.rT M) z
 rw[MT.rT_len]at nl
 have gi:=Jl hM (t.tR_lt hM hn) z
 apply dY
 apply bH
 ·by_cases h:0<t.size
  ·have lx:bp (fW (t.rT M)) (.int (-1)) z=.ok (.int (t.tR M:Nat)) z:=by
    refine mB (q:=-(((0:Nat):Int)+1)) (y8 ?_)
    have:=MT.rT_top M t h
    rw[hV (by rw[az,MT.rT_len];exact h),az,MT.rT_len,aC,show t.size-1-0=t.size-1 from rfl,kA 0 (by rw[MT.rT_len];omega),this];rfl
   exact bd (bd (c9 kv hz.ob rfl) bf g1) (rZ (aL (bd (bE (ai (c9 kv hz.ob rfl) aG) nl) bf (iX (by simp;omega)))) (bd (c9 kv hz.ob rfl) (uH bf) lx)) gi
  ·have h0:t.tR M=0:=by
    cases t with
    |nil=>rfl
    |nd l r m=>rw[MT.size_nd]at h;omega
   rw[h0]at gi
   rw[h0]
   exact bd (bd (c9 kv hz.ob rfl) bf g1) (r6 (aL (bd (bE (ai (c9 kv hz.ob rfl) aG) nl) bf (iX (by simp;omega)))) bf) gi
 ·exact⟨_,_,rfl,rfl,rfl⟩
theorem LR(M:Mc)(t:MT):LG M t.po (t.lkT 0)=M.gd.getD (t.tR M) false:=by
 unfold LG Bm
 rw[MT.rooms_po,MT.po_len]
 by_cases h:0<t.size
 ·rw[aD h,MT.rT_top M t h]
 ·rw[aQ h]
  cases t with
  |nil=>rfl
  |nd l r m=>rw[MT.size_nd]at h;omega
theorem UF(t:MT)(h:t.size<=1000):Sm (bw t.po):=fun st=>sJ (k:=39) (by rw[az,MT.po_len];exact h) fun w hw=>by
 obtain⟨p,_,rfl⟩:=cV.mp hw
 refine sJ (k:=38) #[15] fun w hw=>?_
 simp only[aN,dI,kJ]at hw
 rcases hw with rfl|rfl
 ·exact wz _ 37 _
 ·exact Bj _ 37 _
theorem uh(hM:lj M n)(hn:1<=n)(ht:t.size<=900)(hz:lH M L a b t k sd tk z)(q:Int):qR [.loc L,M.w,bw t.po,.int q] z=.ok (.bl true) z:=by
 refine eM ?_ rfl
 refine fJ (fun i ρ be=>∃(o4 o5:Option W) (x:List am),ρ=[lO L,some M.w,some (bw t.po),iO q,o4,o5]/\be=z++x) (iY (ai bf aG) #[3])
  ⟨none,none,[],rfl,(a7 _).symm⟩ (fun _ _ _ _=>trivial) ?_ ?_
 ·rintro i w ρ be hw ⟨o4,o5,x,rfl,rfl⟩
  obtain⟨hi,rfl⟩:=jY hw
  obtain⟨j,hj,ej⟩:=fY (q:=q+(0+(i:Int))) (n:=3) #[0]
  have ej:(q+(0+(i:Int)))%3=(j:Int):=ej
  refine⟨_,rfl,?_⟩
  apply av
  ·exact a8 (w:=.int (j:Nat)) (by rw[<- ej];exact bd (bd kv kv du) bf (im #[3]))
  have hzx:=hz.app (x:=x)
  have no:∀(v:Nat) (gb:FT) (s:List am),v≠j->wS (dm (e2 hW (af 5) (eC (.int (v:Nat))))) gb [lO L,some M.w,some (bw t.po),iO q,some (.int (0+(i:Int))),iO (j:Nat)] s=.ok false s:=fun v gb s h=>ld (aL (bd kv bf (ec (by rw[ba];omega))))
  have rl:=MT.rT_len M t
  obtain rfl|rfl|rfl:j=0\/j=1\/j=2:=by omega
  ·obtain⟨y,ey,hy⟩:=Eo t.gr0 (by rw[MT.po_len];exact ht) hM hn (z++x)
   rw[MT.rooms_po]at hy
   apply bn
   ·exact jH (aL (bd kv bf (ec rfl))) (qE (aL (bT (ai (gE kv hzx.ob rfl aG rfl (Bv hzx)) (ai (bE (ai (bT (ai kv kn) ey rfl) aG) (mP (bB (by rw[gC];exact hy)))) aG)) (Q8 (t.rT M) #[0] _) rfl)) rfl)
   apply bM
   apply bn
   ·exact no 1 _ _ #[3]
   apply bM
   apply lE
   ·exact no 2 _ _ #[3]
   ·exact⟨_,_,rfl,_,_,x++y,rfl,(aj _ _ _)⟩
  ·have le:=Js t.gr0 (by rw[MT.po_len];exact ht) hM hn (z++x)
   rw[LR]at le
   apply bn
   ·exact no 0 _ _ #[3]
   apply bM
   apply bn
   ·exact jH (aL (bd kv bf (ec rfl))) (qE (aL (bT (ai (gE kv hzx.ob rfl aG rfl (C_ hM hn hzx)) (ai (bT (ai kv kn) le rfl) aG)) (UA _ _) rfl)) rfl)
   apply bM
   apply lE
   ·exact no 2 _ _ #[3]
   ·exact⟨_,_,rfl,_,_,x,rfl,rfl⟩
  ·apply bn
   ·exact no 0 _ _ #[3]
   apply bM
   apply bn
   ·exact no 1 _ _ #[3]
   apply bM
   apply lE
   ·exact jH (aL (bd kv bf (ec rfl))) (qE (aL (bT (ai (gE kv hzx.ob rfl aG rfl (C9 hzx)) kn) (UF t #[0] _) rfl)) rfl)
   ·exact⟨_,_,rfl,_,_,x,rfl,rfl⟩
 ·rintro ρ be ⟨o4,o5,x,rfl,rfl⟩
  apply bH
  ·exact bf
  ·exact⟨_,_,rfl,rfl,x,rfl⟩
end
noncomputable def J7(sz:List Nat):Option Nat->Nat
 |none=>0
 |some j=>sz.getD j 0
section
variable{ps:List Pl}{sz:List Nat}{lk:List #[9]}
theorem Gr.szl(h:Gr ps S sz lk)(hi:i<ps.length):∃x,lk[i]?=some x/\Jg i x/\sz[i]?=some (1+J7 (sz.take i) x.1+J7 (sz.take i) x.2):=by
 obtain⟨S1,S2,p,k,x,g1,q1,q2,q3,hs,g2⟩:=h.step i hi
 obtain⟨lz,ll,ha⟩:=g1.ok
 rw[show(ps.take i).length=i by rw[aJ];omega]at ha
 refine⟨x,q3,h.lk q3,?_⟩
 rw[q2]
 congr 1
 have g:∀{j a:Nat},(sz.take i)[j]?=some a->J7 (sz.take i) (some j)=a:=fun e=>by show List.getD _ _ _=_;rw[aA,e];rfl
 obtain⟨b,m⟩:=p
 cases hs with
 |z=>rfl
 |l=>rw[g ha.1];rfl
 |r=>rw[g ha.1];show _=1+0+_;omega
 |b=>
  have:=ha.2.2.2.1
  rw[g ha.1,show ∀c,i-1-c=i-c-1 by omega,g this];omega
theorem FB(h:Gr ps S sz lk)(hn:ps.length<=900){p:Nat}(hp:st[p]?=some (.lst (lk.map jg))):Ee [.loc p] st=.ok #[4] (st++[.lst (cO sz)]):=by
 obtain⟨l1,l2,_⟩:=h.ok
 have hh:jX (y9 fun w be=>∃j x,w=.loc (st.length+j)/\be=st++x/\j=0/\x=[.lst (cO sz)]) (Nn ([W.loc p].map some++List.replicate (5-1) none) st):=by
  apply av
  ·exact a8 (k6 aG (ag rfl))
  refine fJ (fun i ρ be=>∃(o2 o3 o4:Option W),ρ=[lO p,lO st.length,o2,o3,o4]/\be=st++[.lst (cO (sz.take i))]) (vf kv (bB (cw hp))) ⟨none,none,none,rfl,rfl⟩ (fun i ρ be hI=>?_) ?_ ?_
  ·obtain⟨o2,o3,o4,rfl,rfl⟩:=hI
   exact bB (cw hp)
  ·rintro i w ρ be hw ⟨o2,o3,o4,rfl,rfl⟩
   have hw:(lk.map jg)[i]?=some w:=hw
   obtain⟨x0,hx0,rfl⟩:=by rw[aC]at hw;exact eY.mp hw
   have hil:i<lk.length:=(ar.mp hx0).1
   obtain⟨x,hx,lkx,hz⟩:=h.szl (show i<ps.length by omega)
   rw[hx0]at hx;cases hx
   have ht:(sz.take i).length=i:=by rw[aJ];omega
   have get:∀k:Nat,k<i->bp #[4] (.int k) #[16]=.ok (.int ((sz.take i).getD k 0:Nat)) #[16]:=fun k hk=>yn [] (kA 0 #[0])
   have ap:=Jo (st:=st) (z:=sz.take i) (1+J7 (sz.take i) x0.1+J7 (sz.take i) x0.2) #[0]
   rw[<- W0 hz]at ap
   have isl:ly #[16] #[4]=true:=c6 cK
   refine⟨[lO p,lO st.length,some (oW x0.1),some (oW x0.2),o4],rfl,?_⟩
   apply av
   ·exact a8 bf
   have e1:eW (dm (gs (af 2))) (a9 4 (e2 cq (af 4) (e2 bp (af 1) (af 2)))) bI [lO p,lO st.length,some (oW x0.1),some (oW x0.2),iO 1] #[16]=.nx [lO p,lO st.length,some (oW x0.1),some (oW x0.2),iO (1+J7 (sz.take i) x0.1:Nat)] #[16]:=by
    obtain⟨a,b⟩:=x0
    cases a with
    |none=>exact bK (aL (eK kv rfl)) rfl
    |some j=>rw[fH];exact cC (aL (eK kv rfl)) (a8 (bd kv (bd kv kv (get j (lkx.1 j rfl))) du))
   apply av
   ·exact e1
   have e2:eW (dm (gs (af 3))) (a9 4 (e2 cq (af 4) (e2 bp (af 1) (af 3)))) bI [lO p,lO st.length,some (oW x0.1),some (oW x0.2),iO (1+J7 (sz.take i) x0.1:Nat)] #[16]=.nx [lO p,lO st.length,some (oW x0.1),some (oW x0.2),iO (1+J7 (sz.take i) x0.1+J7 (sz.take i) x0.2:Nat)] #[16]:=by
    obtain⟨a,b⟩:=x0
    cases b with
    |none=>exact bK (aL (eK kv rfl)) rfl
    |some j=>rw[fH _ (J7 _ _)];exact cC (aL (eK kv rfl)) (a8 (bd kv (bd kv kv (get j (lkx.2 j rfl))) du))
   apply av
   ·exact e2
   apply c8
   ·exact dO (il kv isl kn ap)
   ·exact⟨_,_,rfl,_,_,_,rfl,rfl⟩
  ·rintro ρ be ⟨o2,o3,o4,rfl,rfl⟩
   apply bH
   ·exact gK rfl
   ·refine⟨_,_,rfl,0,_,rfl,rfl,rfl,?_⟩
    rw[show((lk.map jg,some (p,lk.map jg)):List W×Option (Nat×List W)).1.length=sz.length by show(lk.map jg).length=_;rw[az];omega,bD (ax _)]
 obtain⟨j,x,⟨rfl,rfl⟩,e⟩:=se hh
 exact e
end
theorem MT.sz_top:∀t:MT,0<t.size->t.szT[t.size-1]?=some t.size
 |.nil,h=>absurd h (by decide)
 |.nd l r m,_=>by
  rw[MT.size_nd]
  show(l.szT++r.szT++[_])[_]?=_
  rw[aS (by rw[ah,MT.sz_len,MT.sz_len];omega),ah,MT.sz_len,MT.sz_len,show l.size+r.size+1-1-(l.size+r.size)=0 by omega];rfl
section
theorem Rj{C:List Fm}{l r:MT}{m:List Nat}:(0<l.size->#[1].szT[(pA C).length+l.size-1]?=some l.size)/\(0<r.size->#[1].szT[(pA C).length+l.size+r.size-1]?=some r.size):=by
 obtain⟨u,w,e,hu⟩:=vj C (.nd l r m)
 have e2:#[1].szT=u++(l.szT++(r.szT++([l.size+r.size+1]++w))):=by rw[e];show u++(l.szT++r.szT++[_])++w=_;simp only[aj]
 rw[e2]
 refine⟨fun h=>?_,fun h=>?_⟩
 ·rw[aS #[0],aH (by rw[MT.sz_len];omega),hu,show(pA C).length+l.size-1-(pA C).length=l.size-1 by omega,MT.sz_top l h]
 ·rw[aS #[0],aS (by rw[MT.sz_len];omega),aH (by rw[MT.sz_len,MT.sz_len];omega),hu,MT.sz_len,show(pA C).length+l.size+r.size-1-(pA C).length-l.size=r.size-1 by omega,MT.sz_top r h]
theorem ui(C:List Fm)(l r:MT)(m:List Nat)(h:#[1].size<=900)(st:List am):sB [bw #[1].po,.int (pq C l r:Nat)] st=.ok (.tup [.int ((pA C).length:Nat),.int ((pA C).length+l.size:Nat)]) st:=by
 have hg:=#[1].gr0
 have hl:=MT.po_len #[1]
 obtain⟨x,⟨A,rfl⟩,el⟩:=Fq hg #[0] st
 have c1:(st++[am.lst A,.lst ((#[1].lkT 0).map jg)])[st.length+1]?=some (.lst ((#[1].lkT 0).map jg)):=by rw[gC];rfl
 have es:=FB hg #[0] c1
 generalize hs1:st++[am.lst A,.lst ((#[1].lkT 0).map jg)]=s1 at *
 have hx:=vk C l r m
 obtain⟨zl,zr⟩:=Rj (C:=C) (l:=l) (r:=r) (m:=m)
 have lx:∀(s:List am),s[st.length+1]?=some (.lst ((#[1].lkT 0).map jg))->bp (.loc (st.length+1)) (.int (pq C l r:Nat)) s=.ok (jg (l.tp (pA C).length,r.tp ((pA C).length+l.size))) s:=fun s hs=>jI (bB hs) (fP (by rw[aC];unfold pq;rw[hx];rfl))
 have c2:(s1++[.lst (cO #[1].szT)])[st.length+1]?=some (.lst ((#[1].lkT 0).map jg)):=cw c1
 have lx2:=lx _ c2
 have sx:∀{j a:Nat},#[1].szT[j]?=some a->bp (.loc s1.length) (.int j) (s1++[.lst (cO #[1].szT)])=.ok (.int a) (s1++[.lst (cO #[1].szT)]):=fun e=>yn [] e
 have x0:bp (jg (l.tp (pA C).length,r.tp ((pA C).length+l.size))) (.int 0) (s1++[.lst (cO #[1].szT)])=.ok (oW (l.tp (pA C).length)) (s1++[.lst (cO #[1].szT)]):=rfl
 have x1:bp (jg (l.tp (pA C).length,r.tp ((pA C).length+l.size))) (.int 1) (s1++[.lst (cO #[1].szT)])=.ok (oW (r.tp ((pA C).length+l.size))) (s1++[.lst (cO #[1].szT)]):=rfl
 generalize uo:s1++[am.lst (cO #[1].szT)]=s2 at *
 generalize hT:bw #[1].po=T at *
 have tpn:∀(t:MT) (o:Nat),(t.size=0/\t.tp o=none)\/(0<t.size/\t.tp o=some (o+t.size-1)):=fun t o=>by
  cases t with
  |nil=>exact .inl ⟨rfl,rfl⟩
  |nd a b c=>exact .inr ⟨by rw[MT.size_nd];omega,MT.tp_nd a b c o⟩
 have e4:eW (dm (gs (e2 bp (e2 bp (af 2) (af 1)) (eI 1)))) (a9 4 (e2 gp (af 1) (e2 bp (af 3) (e2 bp (e2 bp (af 2) (af 1)) (eI 1))))) bI [some T,iO (pq C l r:Nat),lO (st.length+1),lO s1.length,iO (pq C l r:Nat),none] s2=.nx [some T,iO (pq C l r:Nat),lO (st.length+1),lO s1.length,iO ((pA C).length+l.size:Nat),none] s2:=by
  rcases tpn r ((pA C).length+l.size)with⟨h0,e⟩|⟨h0,e⟩
  ·rw[e]at x1 lx2
   rw[show pq C l r=(pA C).length+l.size by unfold pq;omega]at lx2 ⊢
   exact bK (aL (eK (bd (bd kv kv lx2) bf x1) rfl)) rfl
  ·rw[e]at x1 lx2
   have:((pA C).length+l.size:Nat)=((pq C l r:Nat):Int)-(r.size:Nat):=by unfold pq;omega
   rw[this]
   exact cC (aL (eK (bd (bd kv kv lx2) bf x1) rfl)) (a8 (bd kv (bd kv (bd (bd kv kv lx2) bf x1) (sx (zr h0))) rfl))
 have e5:eW (dm (gs (e2 bp (e2 bp (af 2) (af 1)) (eI 0)))) (a9 5 (e2 gp (af 4) (e2 bp (af 3) (e2 bp (e2 bp (af 2) (af 1)) (eI 0))))) bI [some T,iO (pq C l r:Nat),lO (st.length+1),lO s1.length,iO ((pA C).length+l.size:Nat),iO ((pA C).length+l.size:Nat)] s2=.nx [some T,iO (pq C l r:Nat),lO (st.length+1),lO s1.length,iO ((pA C).length+l.size:Nat),iO ((pA C).length:Nat)] s2:=by
  rcases tpn l (pA C).length with⟨h0,e⟩|⟨h0,e⟩
  ·rw[e]at x0 lx2
   rw[show(pA C).length+l.size=(pA C).length by omega]at lx2 x0 ⊢
   exact bK (aL (eK (bd (bd kv kv lx2) bf x0) rfl)) rfl
  ·rw[e]at x0 lx2
   have:((pA C).length:Nat)=(((pA C).length+l.size:Nat):Int)-(l.size:Nat):=by omega
   refine(cC (aL (eK (bd (bd kv kv lx2) bf x0) rfl)) (a8 (bd kv (bd kv (bd (bd kv kv lx2) bf x0) (sx (zl h0))) rfl))).trans ?_
   rw[this];rfl
 refine eM ?_ rfl
 apply av
 ·exact a8 (bT kn el rfl)
 apply av
 ·exact a8 (bT kn es rfl)
 apply av
 ·exact a8 kv
 apply av
 ·exact e4
 apply av
 ·exact a8 kv
 apply av
 ·exact e5
 apply bH
 ·exact cE (ai kv kn) (ag rfl)
 ·exact⟨_,_,rfl,rfl,_,by rw[<- uo,<- hs1,aj]⟩
theorem UG(a:List Pl)(st:List am):E_ [.bl (decide ((0:Int)<(a.length:Int)))] st=.ok (.int (qt a:Nat)) st:=by
 by_cases h:0<a.length
 ·rw[a_ #[0]];unfold qt;rw[aD h];rfl
 ·rw[aU #[0]];unfold qt;rw[aQ h];rfl
theorem uO(C:List Fm)(l r x:MT)(m:List Nat)(s:Bool)(h:#[1].size<=900)(hx:x.size<=900)(st:List am):yc [bw #[1].po,.int (pq C l r:Nat),mR s,bw x.po] st=.ok (bw (aZ C #[12]).po) st:=by
 have z1:=fg C (.nd l r m) (by rw[MT.size_nd];omega)
 rw[MT.size_nd]at z1
 have hl:=MT.po_len #[1]
 have hxl:=MT.po_len x
 have b:=ui C l r m h st
 have c1:=CZ (a:=#[1].po) (i:=(pA C).length) (j:=(pA C).length+l.size) #[0] #[0] st
 have c2:=CZ (a:=#[1].po) (i:=(pA C).length+l.size) (j:=pq C l r) (by unfold pq;omega) (by unfold pq;omega) st
 have d1:(#[1].po.drop (pA C).length).take ((pA C).length+l.size-(pA C).length)=l.po:=by
  rw[c5,show(MT.nd l r m).po=l.po++(r.po++[⟨l.one+2*r.one,m⟩])from aj _ _ _]
  exact vm (q:=0) rfl (by rw[MT.po_len];omega)
 have d2:(#[1].po.drop ((pA C).length+l.size)).take (pq C l r-((pA C).length+l.size))=r.po:=by
  rw[c5,show pA C++(MT.nd l r m).po++pB C=(pA C++l.po)++(r.po++[⟨l.one+2*r.one,m⟩])++pB C by show pA C++(l.po++r.po++_)++_=_;simp only[aj]]
  exact vm (q:=0) (by rw[ah,MT.po_len]) (by rw[MT.po_len];unfold pq;omega)
 rw[d1]at c1
 rw[d2]at c2
 have w1:#[1].po.take (pA C).length=pA C:=by rw[c5,aj,gn]
 have w2:#[1].po.drop (pq C l r+1)=pB C:=by
  rw[c5]
  exact gX (by rw[ah,MT.po_len,MT.size_nd];unfold pq;omega)
 have s1:=wA (a:=#[1].po) (q:=(pA C).length) #[0] st
 have s2:=wB (a:=#[1].po) (q:=pq C l r+1) (by unfold pq;omega) st
 rw[w1]at s1
 rw[w2]at s2
 have s2:wU (bw #[1].po) (some ((pq C l r:Int)+1)) none st=.ok (bw (pB C)) st:=s2
 have hB:(pB C).length<=900:=by rw[<- w2,b8];omega
 have hA:(pA C).length<=900:=by omega
 have eS:hW (mR s) (.str [108,101,102,116]) st=.ok (.bl s) st:=by cases s<;>exact cF rfl
 have e7:eW (dm (e2 hW (af 2) (eC (.str [108,101,102,116])))) (a9 6 (af 3)) (a9 7 (af 3)) [some (bw #[1].po),iO (pq C l r:Nat),some (mR s),some (bw x.po),iO ((pA C).length:Nat),iO ((pA C).length+l.size:Nat),some (bw l.po),some (bw r.po),none] st=.nx [some (bw #[1].po),iO (pq C l r:Nat),some (mR s),some (bw x.po),iO ((pA C).length:Nat),iO ((pA C).length+l.size:Nat),some (bw (MT.po (if s then x else l))),some (bw (MT.po (if s then r else x))),none] st:=by
  cases s
  ·exact bK (aL (bd kv bf eS)) (a8 kv)
  ·exact cC (aL (bd kv bf eS)) (a8 kv)
 have hl2:(MT.po (if s then x else l)).length<=900:=by cases s<;>simp only[fM,eu,fL,MT.po_len]<;>omega
 have hr2:(MT.po (if s then r else x)).length<=900:=by cases s<;>simp only[fM,eu,fL,MT.po_len]<;>omega
 generalize (if s then x else l)=l' at *
 generalize (if s then r else x)=r' at *
 have t1:=UG l'.po st
 have t2:=UG r'.po st
 rw[MT.one_bit]at t1 t2
 refine eM ?_ (by simp only[undWs,kQ,dg])
 apply av
 ·exact uN (bT (ai kv kn) b rfl) rfl
 apply av
 ·exact a8 (m9 kv (m8 kv) (m8 kv) c1)
 apply av
 ·exact a8 (m9 kv (m8 kv) (m8 kv) c2)
 apply av
 ·exact e7
 apply av
 ·refine a8 (w:=.tup [.int (l'.one+2*r'.one:Nat),.str m]) (cE (ai ?_ (ai (bd (bd kv kv (sE (n6 C l r m) st)) bf (CT _ st)) aG)) (ag rfl))
  rw[show((l'.one+2*r'.one:Nat):Int)=(l'.one:Int)+2*(r'.one:Int) by omega]
  exact bd (bE (ai (bd (bE kn (fS l'.po st)) bf (iX rfl)) aG) t1) (bd bf (bE (ai (bd (bE kn (fS r'.po st)) bf (iX rfl)) aG) t2) (pR (.inl #[3]))) du
 apply bH
 ·refine bd (bd (bd (bd (m9 kv tV (m8 kv) s1) kv (jJ _ _ ?_ st)) kv (jJ _ _ ?_ st)) (cE kn (ag rfl)) (jJ _ [⟨l'.one+2*r'.one,m⟩] ?_ st)) (m9 kv (m8 (bd kv bf du)) tV s2) (jJ _ _ ?_ st)
  ·rw[ah];omega
  ·rw[ah,ah];omega
  ·rw[ah,ah,ah,bb];omega
  ·rw[ah,ah,ah,ah,bb];omega
 ·refine⟨_,_,rfl,?_,[],by simp⟩
  rw[c5]
  show _=bw (pA C++(l'.po++r'.po++[⟨l'.one+2*r'.one,m⟩])++pB C)
  simp only[aj]
end
theorem Da(h:l.Pairwise (· < ·)):gy l=l:=yV (jG l) h fun _=>jp
def zF(t:MT):Prop:=∀p∈t.po,qw p.m
theorem zF.plg{C:List Fm}{l r l' r':MT}{m':List Nat}(h:zF #[1])(hl:zF l')(hr:zF r')(hm:qw m'):zF (aZ C (.nd l' r' m')):=fun p hp=>by
 rw[c5]at hp
 rcases aP.mp hp with hp|hp
 ·rcases aP.mp hp with hp|hp
  ·exact h p (by rw[c5];exact bz _ (bz _ hp))
  ·rcases aP.mp hp with hp|hp
   ·rcases aP.mp hp with hp|hp
    ·exact hl p hp
    ·exact hr p hp
   ·rw[aT.mp hp];exact hm
 ·exact h p (by rw[c5];exact aM _ hp)
theorem zF.at{C:List Fm}{l r:MT}(h:zF #[1]):zF l/\zF r/\qw m:=
  ⟨fun p hp=>h p (by rw[c5];exact bz _ (aM _ (bz _ (bz _ hp)))),
   fun p hp=>h p (by rw[c5];exact bz _ (aM _ (bz _ (aM _ hp)))),
   h ⟨_,m⟩ (by rw[c5];exact bz _ (aM _ (aM _ (aT.mpr rfl))))⟩
theorem qw.ln(h:qw m):m.length<=52:=mO (h.1.imp fun h=>aW h) h.2
theorem qw.take(h:qw m)(c:Nat):qw (m.filter fun d=>d != c):=⟨h.1.sublist List.filter_sublist,fun d hd=>h.2 d (i9.mp hd).1⟩
theorem qw.put(h:qw m){c:Nat}(hc:c∈LL):qw (gy (m++[c])):=⟨jG _,fun d hd=>by
 rcases aP.mp (jp.mp hd)with hd|hd
 ·exact h.2 d hd
 ·rw[aT.mp hd];exact hc⟩
theorem qw.srt_take(h:qw m)(c:Nat):CU (m.filter fun d=>d != c)=m.filter fun d=>d != c:=by
 rw[uf ((h.take c).1.imp fun h=>aW h),Da (h.take c).1]
theorem qw.srt_put(h:qw m)(c:Nat):CU ((m.filter fun d=>d != c)++[c])=gy (m++[c]):=by
 rw[uf]
 ·refine yV (jG _) (jG _) fun d=>?_
  rw[jp,jp,aP,aP,i9,aT,bne_iff_ne]
  by_cases e:d=c
  ·simp[e]
  ·simp[e]
 ·refine mJ.mpr ⟨(h.take c).1.imp fun h=>aW h,by simp,fun d hd e he=>?_⟩
  rw[aT.mp he]
  exact bne_iff_ne.mp (i9.mp hd).2
theorem UH{p q:List Nat}{k:Bool}(h:(!(p==q))=k):Mm (.str p) (.str q) st=.ok (.bl k) st:=by rw[<- h];rfl
theorem LS{fe:FE}(T:Nat->Bool)(h:fe ρ st=.ok (.str l) st1)(hl:l.length<=10000)(h0:0<cap.length)
  (ht:∀c∈l,t ((tO cap ρ).set 0 (some (.str [c]))) st1=.ok (T c) st1) :
  jo cap (gu fe) (iP 0) t (af 0) ρ st=.ok (.loc st1.length) (st1++[.lst (((l.filter T).map fun c=>[c]).map W.str)]):=by
 have cg:=CI (cap:=cap) (ρ:=ρ) (st:=st) (st1:=st1) (f:=iP 0) (t:=t) (el:=af 0) (fun w=>match w with|.str [c]=>T c|_=>false) id (zx h) (by rw[ue];show _<=1000000;omega) trivial fun w hw=>by
  obtain⟨c,hc,rfl⟩:=cV.mp hw
  exact⟨_,rfl,ht c hc,fun _=>gK (by rw[bW (by simp[tO];exact h0)];rfl)⟩
 have e:((iQ l).filter (fun w=>match w with|.str [c]=>T c|_=>false)).map id=((l.filter T).map fun c=>[c]).map W.str:=by
  rw[jw]
  unfold iQ
  rw[List.filter_map,b6];rfl
 rwa[e]at cg
inductive Pn where
 |back|again
 |wh (x:MT)
 |mk (b:Bool) (q c:Nat)
 |br (q:Nat) (s:Bool) (x:MT)
def J8(b:Bool):W:=.str (if b then[112,117,116]else[116,97,107,101])
def Pn.w:Pn->W
 |back=>.tup [.str [98,97,99,107]]
 |again=>.tup [.str [97,103,97,105,110]]
 |wh x=>.tup [.str [119,104,111,108,101],bw x.po]
 |mk b q c=>.tup [J8 b,.int (q:Nat),.str [c]]
 |br q s x=>.tup [.str [98,114,97,110,99,104],.int (q:Nat),mR s,bw x.po]
def Pn.ok(n:Nat):Pn->Prop
 |back=>True
 |again=>True
 |wh x=>x.size<=10/\zF x
 |mk _ q c=>q<n/\c∈LL
 |br q _ x=>q<n/\x.size<=10/\zF x
theorem Db(T:W)(x:MT)(st:List am):qN [T,(Pn.wh x).w] st=.ok (bw x.po) st:=by
 apply dY
 apply dF
 ·exact aL (bd kx bf (cF rfl))
 apply dy
 ·exact bd kv bf ox
 ·exact⟨_,_,rfl,rfl,rfl⟩
theorem Dc(C:List Fm)(l r x:MT)(m:List Nat)(s:Bool)(h:#[1].size<=900)(hx:x.size<=900)(st:List am):qN [bw #[1].po,(Pn.br (pq C l r) s x).w] st=.ok (bw (aZ C #[12]).po) st:=by
 apply dY
 apply bn
 ·exact aL (bd kx bf (cF rfl))
 apply bM
 apply dF
 ·exact aL (bd kx bf (cF rfl))
 apply dy
 ·exact bT (ai kv (ai kx (ai kx (ai kx aG)))) (uO C l r x m s h hx st) rfl
 ·exact⟨_,_,rfl,rfl,rfl⟩
def nm'(b:Bool)(m:List Nat)(c:Nat):List Nat:=if b then gy (m++[c])else m.filter fun d=>d != c
theorem De(C:List Fm)(l r:MT)(m:List Nat)(b:Bool)(c:Nat)(h:#[1].size<=900)(hm:qw m)(st:List am):qN [bw #[1].po,(Pn.mk b (pq C l r) c).w] st=.ok (bw (aZ C (.nd l r (nm' b m c))).po) st:=by
 have Xb:=hm.ln
 have z1:=fg C (.nd l r m) (by rw[MT.size_nd];omega)
 rw[MT.size_nd]at z1
 have hl:=MT.po_len #[1]
 have w1:#[1].po.take (pq C l r)=pA C++(l.po++r.po):=by
  rw[c5,show pA C++(MT.nd l r m).po++pB C=(pA C++(l.po++r.po))++(⟨l.one+2*r.one,m⟩::pB C) by show pA C++(l.po++r.po++[_])++pB C=_;simp only[aj];rfl]
  exact kY (by rw[ah,ah,MT.po_len,MT.po_len];unfold pq;omega)
 have w2:#[1].po.drop (pq C l r+1)=pB C:=by
  rw[c5]
  exact gX (by rw[ah,MT.po_len,MT.size_nd];unfold pq;omega)
 have w3:∀m',(aZ C (.nd l r m')).po=(pA C++(l.po++r.po))++[⟨l.one+2*r.one,m'⟩]++pB C:=fun m'=>by
  rw[c5];show pA C++(l.po++r.po++[_])++pB C=_;simp only[aj]
 have hs:=gT List.length (w3 m)
 rw[ah,ah,bb]at hs
 have s1:∀st,wU (bw #[1].po) none (some (pq C l r:Int)) st=.ok (bw (pA C++(l.po++r.po))) st:=fun st=>by
  have:=wA (a:=#[1].po) (q:=pq C l r) (by unfold pq;omega) st
  rwa[w1]at this
 have s2:∀st,wU (bw #[1].po) (some ((pq C l r:Int)+1)) none st=.ok (bw (pB C)) st:=fun st=>by
  have:=wB (a:=#[1].po) (q:=pq C l r+1) (by unfold pq;omega) st
  rwa[w2]at this
 have pk:=LS (fe:=af 3) (t:=dm (e2 Mm (af 0) (e2 bp (af 1) (eI 2)))) (cap:=[none,some 1]) (ρ:=[some (bw #[1].po),some (Pn.mk b (pq C l r) c).w,iO (l.one+2*r.one:Nat),some (.str m)]) (st:=st) (st1:=st) (l:=m) (fun d=>d != c) kv #[0] #[3] fun d _=>aL (bd kv kx (UH (by simp[bne])))
 have c1:(st++[am.lst (((m.filter fun d=>d != c).map fun c=>[c]).map W.str)])[st.length]?=some (.lst (((m.filter fun d=>d != c).map fun c=>[c]).map W.str)):=cK
 have hfl:=jU (fun d=>d != c) m
 have ap:=lG (y:=.str [c]) c1 (by rw[az,az];omega)
 have j_:∀(l2:List Nat) (s:List am) (x:List am),s=st++x->CU l2=nm' b m c->l2.length<64->s[st.length]?=some (.lst ((l2.map fun c=>[c]).map W.str)) ->
   jX (y9 fun w' be=>w'=bw (aZ C (.nd l r (nm' b m c))).po/\∃x,be=st++x) (cn (e2 cq (e2 cq (q_ (af 0) gI (eG (e2 bp (af 1) (eI 1)))) (cZ (aa (cZ (aa (af 2) (aa (J5 oF (eC (.str [])) (aa (bh kL (aa (af 3) aw)) aw)) aw))) aw))) (q_ (af 0) (eG (e2 cq (e2 bp (af 1) (eI 1)) (eI 1))) gI)) [some (bw #[1].po),some (Pn.mk b (pq C l r) c).w,iO (l.one+2*r.one:Nat),lO st.length] s):=fun l2 s x uo hsr hl2 hc=>by
  have sj:=Ei (fe:=af 3) (ρ:=[some (bw #[1].po),some (Pn.mk b (pq C l r) c).w,iO (l.one+2*r.one:Nat),lO st.length]) (st:=s) kv (bB hc) hl2
  rw[hsr]at sj
  apply bH
  ·exact bd (bd (m9 kv tV (m8 kx) (s1 _)) (cE (ai (cE (ai kv (ai sj aG)) (ag rfl)) aG) (ag rfl)) (jJ _ [⟨l.one+2*r.one,nm' b m c⟩] (by rw[ah,bb];omega) _)) (m9 kv (m8 (bd kx bf du)) tV (s2 _)) (jJ _ _ (by rw[ah,ah,bb];omega) _)
  ·exact⟨_,_,rfl,by rw[w3],_,by rw[uo,aj]⟩
 refine eM ?_ (by simp only[undWs,kQ,dg])
 apply bn
 ·exact aL (bd kx bf (cF (by cases b<;>rfl)))
 apply bM
 apply bn
 ·exact aL (bd kx bf (cF (by cases b<;>rfl)))
 apply bM
 apply av
 ·exact uN (bd kv kx (sE (n6 C l r m) st)) rfl
 apply av
 ·exact uN pk rfl
 cases b with
 |true=>
  apply dF
  ·exact aL (bd kx bf (cF rfl))
  apply av
  ·exact dO (il kv (c6 c1) (ai kx aG) ap)
  ·rw[fE]
   refine j_ ((m.filter fun d=>d != c)++[c]) _ _ rfl (hm.srt_put c) (by rw[ah,bb];omega) ?_
   rw[dE,aV,aV];rfl
 |false=>
  apply bn
  ·exact aL (bd kx bf (cF rfl))
  apply bM
  exact j_ (m.filter fun d=>d != c) _ _ rfl (hm.srt_take c) #[0] c1
theorem Nz{ps:List Pl}{sz:List Nat}{lk:List #[9]}(hp:pool.Nodup)(hL:∀d∈pool,d∈LL)(h:Gr ps S sz lk)(h1:S.length<=1)(hm:∀p∈ps,Fv pool p.m):∃t:MT,ps=t.po/\zF t:=by
 obtain⟨t,rfl⟩:=h.mt h1
 exact⟨t,rfl,fun p Kc=>⟨(hm p Kc).2.2 hp,fun d hd=>hL d ((hm p Kc).2.1 d hd)⟩⟩
theorem LT(h:l.length<64):kL [.str l] st=.ok #[4] (st++[.lst ((jq (l.map fun c=>[c])).map W.str)]):=by
 unfold kL;simp only;rw[aD h]
theorem LU{s1:List am}(h:fe ρ st=.ok (.str l) s1)(hl:l.length<64) :
  J5 oF (eC (.str [])) (aa (bh kL (aa fe aw)) aw) ρ st=.ok (.str (CU l)) (s1++[.lst ((jq (l.map fun c=>[c])).map W.str)]):=by
 have hcell2:lstOf (s1++[am.lst ((jq (l.map fun c=>[c])).map W.str)]) s1.length=some ((jq (l.map fun c=>[c])).map W.str):=bB cK
 have hj:=CH (sep:=[]) hcell2 (by rw[ww (gB _),sI];show _<=1000000;simp;omega)
 exact Lr bf rfl (ai (bE (ai h aG) (LT hl)) aG) hj
theorem JH{a b:Nat}(h:a<1000000):ik (.int (a:Nat)) (.int (b:Nat)) st=.ok (.int ((a*b:Nat):Int)) st:=by
 rw[pR (.inl ⟨by omega,by omega⟩),ja]
theorem JI(h0:st[n]?=some (.ro (ns.map W.int))):∃(M:Mc) (r:Nat) (t:MT) (pool:List Nat),lj M r/\1<=r/\t.size<=80/\zF t/\pool.length=4/\(∀d∈pool,d∈LL)/\pool.Nodup/\Ef [.loc n] st=.ok (.tup [M.w,bw t.po,.str pool]) st:=by
 suffices hh:jX (y9 fun w be=>(∃x,be=st++x)/\undWs st.length [w]=true/\∃(M:Mc) (r:Nat) (t:MT) (pool:List Nat),w=.tup [M.w,bw t.po,.str pool]/\lj M r/\1<=r/\t.size<=80/\zF t/\pool.length=4/\(∀d∈pool,d∈LL)/\pool.Nodup) (No ([W.loc n].map some++List.replicate (8-1) none) st) by
  obtain⟨w,⟨M,r,t,pool,rfl,h1,h2,h3,h4,h5,h6,h7⟩,e⟩:=r_ hh
  exact⟨M,r,t,pool,h1,h2,h3,h4,h5,h6,h7,e⟩
 obtain⟨c0,e0⟩:=qr h0 0
 obtain⟨ds,WC,hdp,e1⟩:=nv c0 100003 4 #[0] st
 have e1:ky [.int c0,.int 4,.int 100003] st=_:=e1
 have hsh:(st++[am.lst (ds.map W.int)])[st.length]?=some (.lst (yh ds)):=cK
 have ish:∀(i:Nat),i<4->∃d:Int,∀x:List am,bp #[4] (.int (i:Nat)) (st++[am.lst (ds.map W.int)]++x)=.ok (.int d) (st++[am.lst (ds.map W.int)]++x):=fun i hi=>by
  obtain⟨d,hd⟩:∃d,ds[i]?=some d:=⟨_,al #[0]⟩
  exact⟨d,fun x=>sH (cw hsh) hd⟩
 obtain⟨d0,i0⟩:=ish 0 #[0]
 obtain⟨d1,i1⟩:=ish 1 #[0]
 obtain⟨d2,i2⟩:=ish 2 #[0]
 obtain⟨d3,i3⟩:=ish 3 #[0]
 have h1:∀x:List am,(st++[am.lst (ds.map W.int)]++x)[n]?=some (.ro (ns.map W.int)):=fun x=>cw (cw h0)
 generalize hs1:st++[am.lst (ds.map W.int)]=s1 at *
 have j0:bp #[4] (.int 0) s1=.ok (.int d0) s1:=by have:=i0 [];rwa[a7]at this
 have j1:bp #[4] (.int 1) s1=.ok (.int d1) s1:=by have:=i1 [];rwa[a7]at this
 have g1:s1[n]?=some (.ro (ns.map W.int)):=by have:=h1 [];rwa[a7]at this
 obtain⟨c1,e2'⟩:=qr g1 1
 obtain⟨pool,lU,Kb,yt,ep⟩:=LB c1 200017 4 #[0] s1
 have ep:Bc [.int c1,.int 4,.int 200017] s1=_:=ep
 obtain⟨a,ha,ea⟩:=fY (q:=d0) (n:=4) #[0]
 have ea:d0%4=(a:Int):=ea
 obtain⟨b,hb,eb⟩:=fY (q:=d1) (n:=3) #[0]
 have eb:d1%3=(b:Int):=eb
 apply av
 ·exact a8 (bT (ai (bT (ai kv (ai bf aG)) e0 rfl) (ai bf (ai bf aG))) e1 rfl)
 apply av
 ·exact a8 (bT (ai (bT (ai kv (ai bf aG)) e2' rfl) (ai bf (ai bf aG))) ep rfl)
 apply av
 ·exact a8 (bd bf (bd (bd kv bf j0) bf (im #[3])) du)
 rw[show(1:Int)+d0%4=((1+a:Nat):Int) by rw[ea,fH];rfl]
 have hpt:(pool.take b).length<=2:=by rw[aJ];omega
 have esl:q_ (af 2) gI (eG (e2 gH (e2 bp (af 1) (eI 1)) (eI 3))) [lO n,lO st.length,some (.str pool),iO (1+a:Nat),none,none,none,none] s1=.ok (.str (pool.take b)) s1:=by
  have c:jE pool none (some (b:Int))=pool.take b:=nS #[0]
  rw[<- c,<- eb]
  exact m9 kv tV (m8 (bd (bd kv bf j1) bf (im #[3]))) (Hg (by show _<=1000000;omega))
 apply av
 ·exact a8 (LU esl #[0])
 generalize hN:CU (pool.take b)=nm
 have hnl:nm.length<=2:=by rw[<- hN,Eh];exact hpt
 generalize uo:s1++[am.lst ((jq ((pool.take b).map fun c=>[c])).map W.str)]=s2
 have i2':∀x,bp #[4] (.int 2) (s2++x)=.ok (.int d2) (s2++x):=fun x=>by rw[<- uo,aj];exact i2 _
 have i3':∀x,bp #[4] (.int 3) (s2++x)=.ok (.int d3) (s2++x):=fun x=>by rw[<- uo,aj];exact i3 _
 have g2:s2[n]?=some (.ro (ns.map W.int)):=by rw[<- uo];exact cw g1
 obtain⟨nm2,UV,e4⟩:∃nm2:List Nat,((1+a)*(1+a)*2^nm2.length+(1+a)<=68/\nm2.length<=2)/\eW (dm (e2 hW (af 3) (eI 4))) (a9 4 (q_ (af 4) gI (eG (eI 1)))) bI [lO n,lO st.length,some (.str pool),iO (1+a:Nat),some (.str nm),none,none,none] s2=.nx [lO n,lO st.length,some (.str pool),iO (1+a:Nat),some (.str nm2),none,none,none] s2:=by
  by_cases h:a=3
  ·subst h
   refine⟨jE nm none (some 1),?_,cC (aL (bd kv bf (ec rfl))) (a8 (m9 kv tV (m8 bf) (Hg (by show _<=1000000;omega))))⟩
   have hc:(jE nm none (some 1)).length<=1:=by
    by_cases h1:1<=nm.length
    ·rw[show jE nm none (some 1)=nm.take 1 from nS (q:=1) h1,aJ];omega
    ·match nm,h1 with
     |[],_=>exact b7 1
     |_::_,h=>simp at h
   have h1:(jE nm none (some 1)).length=0\/(jE nm none (some 1)).length=1:=by omega
   rcases h1 with e|e<;>rw[e]<;>decide
  ·refine⟨nm,?_,bK (aL (bd kv bf (ec (by rw[ba];omega)))) rfl⟩
   have h1:nm.length=0\/nm.length=1\/nm.length=2:=by omega
   have h2:a=0\/a=1\/a=2:=by omega
   rcases h1 with e|e|e<;>rw[e]<;>rcases h2 with rfl|rfl|rfl<;>decide
 apply av
 ·exact e4
 have sh:Av (.int 1) (.int nm2.length) s2=.ok (.int (2^nm2.length:Nat)) s2:=Gu #[0]
 have x2:(1+a)*(1+a)<=4*4:=Nat.mul_le_mul #[0] #[0]
 have eE:e2 cq (af 3) (e2 ik (e2 ik (af 3) (af 3)) (e2 Av (eI 1) (bh cP (aa (af 4) aw)))) [lO n,lO st.length,some (.str pool),iO (1+a:Nat),some (.str nm2),none,none,none] s2=.ok (.int (((1+a)+(1+a)*(1+a)*2^nm2.length:Nat):Int)) s2:=by
  rw[show(((1+a)+(1+a)*(1+a)*2^nm2.length:Nat):Int)=((1+a:Nat):Int)+(((1+a)*(1+a)*2^nm2.length:Nat):Int) by omega]
  exact bd kv (bd (bd kv kv (JH #[0])) (bd bf (bE kn (y6 (by show _<=1000000;omega))) sh) (JH #[0])) du
 apply av
 ·exact a8 eE
 generalize hE:(1+a)+(1+a)*(1+a)*2^nm2.length=E
 obtain⟨c2,e5⟩:=qr g2 2
 obtain⟨ds2,hdl2,_,e6⟩:=nv c2 300007 E #[0] s2
 have hd2:(s2++[am.lst (ds2.map W.int)])[s2.length]?=some (.lst (yh ds2)):=cK
 obtain⟨M,hMn,hM,e7⟩:=C2 nm2 (1+a) (1+a) s2.length ds2 _ #[0] #[0] #[0] #[0] (ax _) hd2 (by rw[hdl2,<- hE,Nat.mul_comm (2^_)];omega)
 have e5:nr [.loc n,.int 2] s2=_:=e5
 have e6:ky [.int c2,.int E,.int 300007] s2=_:=e6
 apply av
 ·exact a8 (bT (ai kv (ai kv (ai kv (ai (bT (ai (bT (ai kv (ai bf aG)) e5 rfl) (ai kv (ai bf aG))) e6 rfl) aG)))) e7 rfl)
 generalize hs3:s2++[am.lst (ds2.map W.int)]=s3
 have i2'':bp #[4] (.int 2) s3=.ok (.int d2) s3:=by rw[<- hs3];exact i2' _
 have i3'':bp #[4] (.int 3) s3=.ok (.int d3) s3:=by rw[<- hs3];exact i3' _
 have g3:s3[n]?=some (.ro (ns.map W.int)):=by rw[<- hs3];exact cw g2
 obtain⟨q,hq,eq⟩:=fY (q:=d2) (n:=8) #[0]
 have eq:d2%8=(q:Int):=eq
 apply av
 ·exact a8 (bd (bd kv bf i2'') bf (im #[3]))
 rw[eq]
 obtain⟨hi,hh,e8⟩:∃hi:Nat,hi<=40/\eW (dm (e2 hW (e2 gH (e2 bp (af 1) (eI 3)) (eI 4)) (eI 1))) (a9 7 (e2 gH (e2 bp (af 1) (eI 2)) (eI 41))) bI [lO n,lO st.length,some (.str pool),iO (1+a:Nat),some (.str nm2),iO E,some M.w,iO q] s3=.nx [lO n,lO st.length,some (.str pool),iO (1+a:Nat),some (.str nm2),iO E,some M.w,iO hi] s3:=by
  by_cases h:d3%4=1
  ·obtain⟨q2,hq2,eq2⟩:=fY (q:=d2) (n:=41) #[0]
   have eq2:d2%41=(q2:Int):=eq2
   refine⟨q2,by omega,?_⟩
   rw[<- eq2]
   exact cC (aL (bd (bd (bd kv bf i3'') bf (im #[3])) bf (ec (by rw[cI];exact h)))) (a8 (bd (bd kv bf i2'') bf (im #[3])))
  ·exact⟨q,by omega,bK (aL (bd (bd (bd kv bf i3'') bf (im #[3])) bf (ec (by rw[ba];exact h)))) rfl⟩
 apply av
 ·exact e8
 obtain⟨c3,e9⟩:=qr g3 3
 obtain⟨ds3,hdl3,_,e10⟩:=nv c3 400009 hi #[0] s3
 have hd3:(s3++[am.lst (ds3.map W.int)])[s3.length]?=some (.lst (yh ds3)):=cK
 obtain⟨ps,S,sz,lk,hg,hS,hpsl,hpm,e11⟩:=El (pool:=pool) hd3 #[0] #[0]
 obtain⟨t,rfl,ht⟩:=Nz Kb yt hg hS hpm
 have e9:nr [.loc n,.int 3] s3=_:=e9
 have e10:ky [.int c3,.int hi,.int 400009] s3=_:=e10
 rw[MT.po_len]at hpsl
 apply bH
 ·exact cE (ai kv (ai (bT (ai (bT (ai (bT (ai kv (ai bf aG)) e9 rfl) (ai kv (ai bf aG))) e10 rfl) kn) e11 rfl) kn)) (ag rfl)
 ·exact⟨_,_,rfl,⟨_,by rw[<- hs3,<- uo,<- hs1,aj,aj,aj]⟩,by simp[undWs,Jc,kQ,W.und],M,1+a,t,pool,rfl,hM,by omega,by omega,ht,lU,yt,Kb⟩
theorem Df(h0:st[n]?=some (.ro (ns.map W.int)))(k:Int){t:MT}(lU:pool.length=4)(yt:∀d∈pool,d∈LL)(Kb:pool.Nodup)(mo:Nat)(Xt:0<mo) :
  ∃p:Pn,p.ok t.size/\(p=.back\/p=.again->8<mo)/\wu [.loc n,.int k,.int (mo:Nat),bw t.po,.str pool] st=.ok p.w st:=by
 suffices hh:jX (y9 fun w be=>(∃x,be=st++x)/\undWs st.length [w]=true/\∃p:Pn,w=p.w/\p.ok t.size/\(p=.back\/p=.again->8<mo)) (Np ([W.loc n,.int k,.int (mo:Nat),bw t.po,.str pool].map some++List.replicate (9-5) none) st) by
  obtain⟨w,⟨p,rfl,h1,h2⟩,e⟩:=r_ hh
  exact⟨p,h1,h2,e⟩
 obtain⟨c0,e0⟩:=qr h0 (4+k)
 obtain⟨ds,WC,hdp,e1⟩:=nv c0 (500009+101*k) 12 #[0] st
 have e1:ky [.int c0,.int 12,.int (500009+101*k)] st=_:=e1
 have hsh:(st++[am.lst (ds.map W.int)])[st.length]?=some (.lst (yh ds)):=cK
 have ish:∀(i:Nat),i<12->∃d:Int,∀x:List am,bp #[4] (.int (i:Nat)) (st++[am.lst (ds.map W.int)]++x)=.ok (.int d) (st++[am.lst (ds.map W.int)]++x):=fun i hi=>by
  obtain⟨d,hd⟩:∃d,ds[i]?=some d:=⟨_,al #[0]⟩
  exact⟨d,fun x=>sH (cw hsh) hd⟩
 obtain⟨d0,i0⟩:=ish 0 #[0]
 obtain⟨d1,i1⟩:=ish 1 #[0]
 obtain⟨d2,i2⟩:=ish 2 #[0]
 obtain⟨d3,i3⟩:=ish 3 #[0]
 obtain⟨d4,i4⟩:=ish 4 #[0]
 obtain⟨d5,i5⟩:=ish 5 #[0]
 generalize hs1:st++[am.lst (ds.map W.int)]=s1 at *
 have j5:bp #[4] (.int 5) s1=.ok (.int d5) s1:=by have:=i5 [];rwa[a7]at this
 obtain⟨m,hm,em⟩:=fY (q:=d5) (n:=6) #[0]
 have em:d5%6=(m:Int):=em
 apply av
 ·exact a8 (bT (ai (bT (ai kv (ai (bd bf kv du) aG)) e0 rfl) (ai bf (ai (bd bf (bd bf kv (pR (.inl #[3]))) du) aG))) e1 rfl)
 have hsl:wU #[4] (some 6) (some ((6:Int)+d5%6)) s1=.ok (.loc s1.length) (s1++[.lst (yh ((ds.drop 6).take m))]):=by
  rw[TF (bB hsh),em,show((6:Int)+(m:Int))=((6+m:Nat):Int)from rfl,show(6:Int)=((6:Nat):Int)from rfl,Hl (by unfold yh;rw[az];omega) #[0]]
  unfold yh
  rw[<- mW,<- mV,show 6+m-6=m by omega]
 obtain⟨ps,S,sz,lk,hg,hS,hpsl,hpm,e2'⟩:=El (st:=s1++[.lst (yh ((ds.drop 6).take m))]) (nd:=s1.length) (ds:=(ds.drop 6).take m) (pool:=pool) cK (by rw[aJ,b8];omega) #[0]
 obtain⟨x,rfl,hx⟩:=Nz Kb yt hg hS hpm
 have hxs:x.size<=10:=by rw[MT.po_len,aJ,b8]at hpsl;omega
 generalize uo:s1++[am.lst (yh ((ds.drop 6).take m))]=s2 at *
 have i0':bp #[4] (.int 0) s2=.ok (.int d0) s2:=by rw[<- uo];exact i0 _
 have i1':bp #[4] (.int 1) s2=.ok (.int d1) s2:=by rw[<- uo];exact i1 _
 have i2':bp #[4] (.int 2) s2=.ok (.int d2) s2:=by rw[<- uo];exact i2 _
 have i3':∀y,bp #[4] (.int 3) (s2++y)=.ok (.int d3) (s2++y):=fun y=>by rw[<- uo,aj];exact i3 _
 have i4':∀y,bp #[4] (.int 4) (s2++y)=.ok (.int d4) (s2++y):=fun y=>by rw[<- uo,aj];exact i4 _
 have hs:s2=st++([am.lst (ds.map W.int)]++[.lst (yh ((ds.drop 6).take m))]):=by rw[<- uo,<- hs1,aj]
 apply av
 ·exact a8 (bT (ai (m9 kv (m8 bf) (m8 (bd bf (bd (bd kv bf j5) bf (im #[3])) du)) hsl) kn) e2' rfl)
 obtain⟨kd,hkd,ek⟩:=fY (q:=d0) (n:=mo) Xt
 apply av
 ·exact a8 (bd (bd kv bf i0') kv (im #[0]))
 rw[ek]
 have hln:cP [bw t.po] s2=.ok (.int (t.size:Nat)) s2:=by have:=fS t.po s2;rwa[MT.po_len]at this
 by_cases h8:kd=8
 ·subst h8
  apply dF
  ·exact aL (bd kv bf (ec rfl))
  apply dy
  ·exact cE (ai bf aG) (ag rfl)
  ·exact⟨_,_,rfl,⟨_,hs⟩,rfl,.back,rfl,trivial,fun _=>by omega⟩
 apply bn
 ·exact aL (bd kv bf (ec (by rw[ba];omega)))
 apply bM
 by_cases h9:kd=9
 ·subst h9
  apply dF
  ·exact aL (bd kv bf (ec rfl))
  apply dy
  ·exact cE (ai bf aG) (ag rfl)
  ·exact⟨_,_,rfl,⟨_,hs⟩,rfl,.again,rfl,trivial,fun _=>by omega⟩
 apply bn
 ·exact aL (bd kv bf (ec (by rw[ba];omega)))
 apply bM
 by_cases h7:kd=7\/t.size=0
 ·apply dF
  ·refine Hh (a:=decide (kd=7)) (b:=decide (t.size=0)) (aL (bd kv bf (ec ?_))) (aL (bd (bE kn hln) bf (ec ?_)))|>.trans ?_
   ·rw[oY,cI,mh];omega
   ·rw[oY,cI,mh];omega
   ·rcases h7 with h|h
    ·rw[a_ h];rfl
    ·rw[a_ h,Bool.or_true]
  apply dy
  ·exact cE (ai bf kn) (ag rfl)
  ·exact⟨_,_,rfl,⟨_,hs⟩,by simp[undWs,kQ,W.und],.wh x,rfl,⟨hxs,hx⟩,fun e=>by rcases e with e|e<;>cases e⟩
 apply bn
 ·refine mz (aL (bd kv bf (ec ?_))) (aL (bd (bE kn hln) bf (ec ?_)))
  ·rw[ba];omega
  ·rw[ba];omega
 apply bM
 have ht0:0<t.size:=by omega
 obtain⟨q,hq,eq⟩:=fY (q:=64*d1+d2) (n:=t.size) ht0
 apply av
 ·exact a8 (bd (bd (bd bf (bd kv bf i1') (pR (.inl #[3]))) (bd kv bf i2') du) (bE kn hln) (im #[0]))
 rw[eq]
 by_cases h4:kd<4
 ·obtain⟨m3,hm3,em3⟩:=fY (q:=d3) (n:=4) #[0]
  have em3:d3%4=(m3:Int):=em3
  obtain⟨c,hc⟩:∃c,pool[m3]?=some c:=⟨_,al #[0]⟩
  have hcL:=yt c (bX hc)
  have hix:∀s,bp (.str pool) (.int (d3%4)) s=.ok (.str [c]) s:=fun s=>by rw[em3];exact Hf (by show _<=1000000;omega) (fP hc)
  have hk2:∃b:Bool,∀s:List am,s[s2.length]?=some (.lst [.str [112,117,116],.str [116,97,107,101]])->bp (.loc s2.length) (.int ((kd:Int)/2)) s=.ok (J8 b) s:=by
   obtain rfl|rfl|rfl|rfl:kd=0\/kd=1\/kd=2\/kd=3:=by omega
   ·exact⟨true,fun s hs=>jI (bB hs) rfl⟩
   ·exact⟨true,fun s hs=>jI (bB hs) rfl⟩
   ·exact⟨false,fun s hs=>jI (bB hs) rfl⟩
   ·exact⟨false,fun s hs=>jI (bB hs) rfl⟩
  obtain⟨b,hb⟩:=hk2
  apply dF
  ·exact aL (bd kv bf (iX (a_ #[0])))
  apply dy
  ·exact cE (ai (bd (k6 (ai bf (ai bf aG)) (ag rfl)) (bd kv bf (im #[3])) (hb _ cK)) (ai kv (ai (bd kv (bd (bd kv bf (i3' _)) bf (im #[3])) (hix _)) aG))) (ag rfl)
  ·exact⟨_,_,rfl,⟨_,by rw[hs,aj]⟩,by cases b<;>rfl,.mk b q c,rfl,⟨hq,hcL⟩,fun e=>by rcases e with e|e<;>cases e⟩
 apply bn
 ·exact aL (bd kv bf (iX (aU #[0])))
 apply bM
 have hk2:∃b:Bool,∀s:List am,s[s2.length]?=some (.lst [.str [108,101,102,116],.str [114,105,103,104,116]])->bp (.loc s2.length) (.int (d4%2)) s=.ok (mR b) s:=by
  obtain⟨m4,hm4,em4⟩:=fY (q:=d4) (n:=2) #[0]
  have em4:d4%2=(m4:Int):=em4
  rw[em4]
  obtain rfl|rfl:m4=0\/m4=1:=by omega
  ·exact⟨true,fun s hs=>jI (bB hs) rfl⟩
  ·exact⟨false,fun s hs=>jI (bB hs) rfl⟩
 obtain⟨b,hb⟩:=hk2
 apply bH
 ·exact cE (ai bf (ai kv (ai (bd (k6 (ai bf (ai bf aG)) (ag rfl)) (bd (bd kv bf (i4' _)) bf (im #[3])) (hb _ cK)) kn))) (ag rfl)
 ·exact⟨_,_,rfl,⟨_,by rw[hs,aj]⟩,by cases b<;>simp[undWs,kQ,W.und,mR],.br q b x,rfl,⟨hq,hxs,hx⟩,fun e=>by rcases e with e|e<;>cases e⟩
section
variable{M:Mc}{z':List am}{a b:Nat}{t:MT}{sd tk:List Dd}{d:Dd}
theorem NA{c:Nat}{B:Bool}(hm:(if B then jf else iq) [.loc L,.int (q:Nat),.str [c]] z=.ok .non z')(hz:z[L]?=some (.obj "Kept" (kF M t k a b)))(ht:hX z z' [.non]=z'):kz [.loc L,(Pn.mk B q c).w] z=.ok .non z':=by
 rw[<- ht]
 cases B with
 |true=>exact iF (rk (cC (aL (bd kx bf (cF rfl))) (qF (gE kv hz rfl (ai kx (ai kx aG)) rfl hm))))
 |false=>exact iF (cr (bK (aL (bd kx bf (cF rfl))) cU) (rk (cC (aL (bd kx bf (cF rfl))) (qF (gE kv hz rfl (ai kx (ai kx aG)) rfl hm)))))
theorem NB{q:Nat}{s:Bool}{x:MT}(hm:fR [.loc L,.int (q:Nat),mR s,bw x.po] z=.ok .non z')(hz:z[L]?=some (.obj "Kept" (kF M t k a b)))(ht:hX z z' [.non]=z'):kz [.loc L,(Pn.br q s x).w] z=.ok .non z':=by
 rw[<- ht]
 exact iF (cr #[6] (cr #[6] (rk (cC (aL (bd kx bf (cF rfl))) (qF (gE kv hz rfl (ai kx (ai kx (ai kx aG))) rfl hm))))))
theorem UI{x:MT}(hm:iG [.loc L,bw x.po] z=.ok .non z')(hz:z[L]?=some (.obj "Kept" (kF M t k a b)))(ht:hX z z' [.non]=z'):kz [.loc L,(Pn.wh x).w] z=.ok .non z':=by
 rw[<- ht]
 exact iF (cr #[6] (cr #[6] (cr #[6] (rk (cC (aL (bd kx bf (cF rfl))) (qF (gE kv hz rfl (ai kx aG) rfl hm)))))))
theorem LV(hm:iu [.loc L] z=.ok .non z')(hz:z[L]?=some (.obj "Kept" (kF M t k a b)))(ht:hX z z' [.non]=z'):kz [.loc L,Pn.back.w] z=.ok .non z':=by
 rw[<- ht]
 exact iF (cr #[6] (cr #[6] (cr #[6] (cr #[6] (rk (cC (aL (bd kx bf (cF rfl))) (qF (gE kv hz rfl aG rfl hm))))))))
theorem JJ(hm:gD [.loc L] z=.ok .non z')(hz:z[L]?=some (.obj "Kept" (kF M t k a b)))(ht:hX z z' [.non]=z'):kz [.loc L,Pn.again.w] z=.ok .non z':=by
 rw[<- ht]
 exact iF (cr #[6] (cr #[6] (cr #[6] (cr #[6] (cr #[6] (qF (gE kv hz rfl aG rfl hm)))))))
theorem lH.fr(h:lH M L a b t k sd tk z)(hL:z'[L]?=z[L]?)(ha:z'[a]?=z[a]?)(hb:z'[b]?=z[b]?):lH M L a b t k sd tk z':=⟨hL.trans h.ob,ha.trans h.s,hb.trans h.u,h.la,h.lb,h.ab,h.ls,h.lu⟩
theorem UJ(hM:lj M n)(hn:1<=n){p:Pn}(hp:p.ok t.size)(hb:p≠.back)(hA:p≠.again)(yu:t.size<=100)(VH:zF t):∃(t2:MT) (s:List Nat) (ws:List W),zF t2/\p.w=.tup (.str s::ws)/\0<ws.length/\(s==[98,97,99,107])=false/\(s==[97,103,97,105,110])=false/\(∀z,qN [bw t.po,p.w] z=.ok (bw t2.po) z) /\
  (t2.size<=100->∃d:Dd,d.ok/\d.a=t/\d.b=t2/\∀{L a b k:Nat} {sd tk:List Dd} {z1:List am},lH M L a b t k sd tk z1->sd.length<1000->∃z2,kz [.loc L,p.w] z1=.ok .non z2/\lH M L a z1.length t2 (d.ct M) (d::sd) [] z2/\K3 L a b z1 z2):=by
 cases p with
 |back=>exact absurd rfl hb
 |again=>exact absurd rfl hA
 |wh x=>
  exact⟨x,[119,104,111,108,101],_,hp.2,rfl,nL 0,rfl,rfl,fun z=>Db _ x z,fun h=>⟨.wh t x,⟨yu,h⟩,rfl,rfl,fun hk1 hl=>by
   obtain⟨z2,e2',hk2,h3⟩:=JF hM hn yu h hk1 hl
   exact⟨z2,UI e2' hk1.ob (gR _ hk1 hk2),hk2,h3⟩⟩⟩
 |mk B q c=>
  obtain⟨hq,hcL⟩:=hp
  obtain⟨C,l,r,m,rfl,rfl⟩:=sK t q hq
  obtain⟨g1,g2,gm⟩:=VH.at
  refine⟨aZ C (.nd l r (nm' B m c)),if B then[112,117,116]else[116,97,107,101],_,VH.plg g1 g2 (by cases B;exact gm.take c;exact gm.put hcL),rfl,nL 1,by cases B<;>rfl,by cases B<;>rfl,fun z=>De C l r m B c #[0] gm z,fun h=>?_⟩
  cases B with
  |true=>
   exact⟨.mk C l r m l r (gy (m++[c])) none,⟨yu,h,fun _=>rfl,fun _=>rfl⟩,rfl,rfl,fun hk1 hl=>by
    obtain⟨z2,e2',hk2,h3⟩:=C8 hM hn yu h gm.2 (by have:=gm.ln;omega) hcL hk1 hl
    exact⟨z2,NA (B:=true) e2' hk1.ob (gR _ hk1 hk2),hk2,h3⟩⟩
  |false=>
   exact⟨.mk C l r m l r (m.filter fun d=>d != c) none,⟨yu,h,fun _=>rfl,fun _=>rfl⟩,rfl,rfl,fun hk1 hl=>by
    obtain⟨z2,e2',hk2,h3⟩:=Bu hM hn yu h (by have:=gm.ln;omega) hk1 hl
    exact⟨z2,NA (B:=false) e2' hk1.ob (gR _ hk1 hk2),hk2,h3⟩⟩
 |br q s x=>
  obtain⟨hq,hx,Kd⟩:=hp
  obtain⟨C,l,r,m,rfl,rfl⟩:=sK t q hq
  obtain⟨g1,g2,gm⟩:=VH.at
  exact⟨aZ C #[12],[98,114,97,110,99,104],_,VH.plg (by cases s;exact g1;exact Kd) (by cases s;exact Kd;exact g2) gm,rfl,nL 2,rfl,rfl,fun z=>Dc C l r x m s #[0] #[0] z,fun h=>⟨.mk C l r m (if s then x else l) (if s then r else x) m (some s),⟨yu,h,fun e=>by cases s<;>first|rfl|exact absurd rfl e,fun e=>by cases s<;>first|rfl|exact absurd rfl e⟩,rfl,rfl,fun hk1 hl=>by
   obtain⟨z2,e2',hk2,h3⟩:=yp hM hn yu #[0] h hk1 hl
   exact⟨z2,NB e2' hk1.ob (gR _ hk1 hk2),hk2,h3⟩⟩⟩
end
noncomputable def uj:Nat->MT
 |0=>.nil
 |1=>.nd .nil .nil [81]
 |k+2=>if k%2=0 then .nd (uj (k+1)) .nil []else .nd .nil (uj (k+1)) []
theorem lI:∀k,(uj k).size=k
 |0=>rfl
 |1=>rfl
 |k+2=>by
  unfold uj
  have:=lI (k+1)
  by_cases h:k%2=0
  ·rw[aD h,MT.size_nd,this];rfl
  ·rw[aQ h,MT.size_nd,this];show 0+(k+1)+1=_;omega
theorem Rk(k:Nat):(uj (k+2)).po=(uj (k+1)).po++[⟨1+k%2,[]⟩]:=by
 have h1:(uj (k+1)).one=1:=MT.one_of (by rw[lI];omega)
 rw[show uj (k+2)=if k%2=0 then .nd (uj (k+1)) .nil []else .nd .nil (uj (k+1)) []from rfl]
 by_cases h:k%2=0
 ·rw[aD h,h]
  show(uj (k+1)).po++[]++[⟨(uj (k+1)).one+2*0,[]⟩]=_
  rw[h1,a7]
 ·rw[aQ h,show k%2=1 by omega]
  show[]++(uj (k+1)).po++[⟨0+2*(uj (k+1)).one,[]⟩]=_
  rw[h1,dD]
theorem Es:∀k:Nat,(uj (k+1)).po.map Pl.w=[W.tup [.int 0,.str [81]]]++(eX 0 k).map fun w=>match w with
  |.int z=>W.tup [.int (1+z%2),.str []]
  |w=>w
 |0=>rfl
 |k+1=>by
  rw[Rk,aV,Es k]
  unfold eX
  rw[List.range_succ,aV,aV,aj]
  congr 2
  show[W.tup [.int ((1+k%2:Nat):Int),.str []]]=[W.tup [.int (1+(0+(k:Int))%2),.str []]]
  rw[show((1+k%2:Nat):Int)=1+(0+(k:Int))%2 by omega]
theorem wI(m:Nat)(hm:m<=1000)(st:List am):sC [.int (m:Nat)] st=.ok (bw (uj m).po) st:=by
 refine eM ?_ (by simp only[undWs,kQ,dg])
 cases m with
 |zero=>
  apply dF
  ·exact aL (bd kv bf (ec rfl))
  apply dy
  ·exact cE aG (ag rfl)
  ·exact⟨_,_,rfl,rfl,[],(a7 _).symm⟩
 |succ k=>
  apply bn
  ·exact aL (bd kv bf (ec (by rw[ba];omega)))
  apply bM
  have a0:=k6 (fs:=aa (cZ (aa (eI 0) (aa (eC (.str [81])) aw))) aw) (ρ:=[iO (k+1:Nat)]) (st:=st) (ai (cE (ai bf (ai bf aG)) (ag rfl)) aG) (ag rfl)
  have hr:dr (aa (e2 gp (af 0) (eI 1)) aw) [iO (k+1:Nat)] (st++[am.lst [W.tup [.int 0,.str [81]]]])=.ok (eX 0 k,none) (st++[am.lst [W.tup [.int 0,.str [81]]]]):=by
   have:=iY (fs:=aa (e2 gp (af 0) (eI 1)) aw) (ρ:=[iO (k+1:Nat)]) (st:=st++[am.lst [W.tup [.int 0,.str [81]]]]) (q:=((k+1:Nat):Int)-1) (ai (bd kv bf rfl) aG) #[0]
   rwa[show(((k+1:Nat):Int)-1).toNat=k by omega]at this
  have a1:=y_ (cap:=[none]) (f:=iP 0) (el:=cZ (aa (e2 cq (eI 1) (e2 gH (af 0) (eI 2))) (aa (eC (.str [])) aw))) (fun w=>match w with
   |.int z=>W.tup [.int (1+z%2),.str []]
   |w=>w) hr (by rw[ef];show _<=1000000;omega) trivial fun w hw=>by
    obtain⟨i,_,rfl⟩:=tY hw
    exact⟨_,rfl,cE (ai (bd bf (bd kv bf (im #[3])) du) (ai bf aG)) (ag rfl)⟩
  have hl:(st++[am.lst [W.tup [.int 0,.str [81]]]]).length=st.length+1:=by simp
  rw[hl,aj]at a1
  have a2:=P4 (st:=st++([am.lst [W.tup [.int 0,.str [81]]]]++[.lst ((eX 0 k).map fun w=>match w with
   |.int z=>W.tup [.int (1+z%2),.str []]
   |w=>w)])) (n:=st.length) (m:=st.length+1) (by rw[dE];rfl) (by rw[gC];rfl) (by rw[ah,az,ef];show _<=1000000;simp;omega)
  rw[<- Es]at a2
  apply bH
  ·exact bE (ai (bd a0 a1 a2) aG) (mP (bB cK))
  ·exact⟨_,_,rfl,rfl,_,by rw[aj]⟩
section
variable{M:Mc}{z':List am}{a b:Nat}{t:MT}{sd tk:List Dd}{d:Dd}
theorem nz{m e:Str}{fs:FA}{z1 z2 z3:List am}{fl:List (Str×W)}(h:fo ρ z=.ok (.loc n) z1)(h3:z1[n]?=some (.obj c fl))(hm:fl.lookup m=none)(ha:fs ρ z1=.ok ws z2)(hn:ws.length+1=k)(hF:F (.loc n::ws) z2=.ex e z3):gJ c m k F fo fs ρ z=.ex e z3:=by
 unfold gJ
 rw[h];simp only[R.bind_ok,m7,h3]
 rw[aD ⟨trivial,hm⟩,ha];simp only[R.bind_ok]
 rw[aD hn,hF]
abbrev Xn(c:Str)(z:List am):RS->Prop:=WY c fun be=>∃x,be=z++x
theorem mS:Xn c z (.ex c ρ z):=⟨_,_,rfl,[],(a7 _).symm⟩
theorem LW(hz:lH M L a b t k [] tk z):kz [.loc L,Pn.back.w] z=.ex "NothingDone" z:=by
 have e:iu [.loc L] z=.ex "NothingDone" z:=fZ (N:=2) (body:=p5) (ws:=[.loc L]) (dF (aL (bd (bE (ai (c9 kv hz.ob rfl) aG) (iR (bB hz.s))) bf (ec rfl))) (qG mS))
 exact fZ (N:=2) (body:=yd) (ws:=[.loc L,Pn.back.w]) (av #[6] (av #[6] (av #[6] (av #[6] (fm (cC (aL (bd kx bf (cF rfl))) (pT (nz kv hz.ob rfl aG rfl e))) mS)))))
theorem JK(hz:lH M L a b t k sd [] z):kz [.loc L,Pn.again.w] z=.ex "NothingDone" z:=by
 have e:gD [.loc L] z=.ex "NothingDone" z:=fZ (N:=2) (body:=nV) (ws:=[.loc L]) (dF (aL (bd (bE (ai (c9 kv hz.ob rfl) aG) (iR (bB hz.u))) bf (ec rfl))) (qG mS))
 exact fZ (N:=2) (body:=yd) (ws:=[.loc L,Pn.again.w]) (av #[6] (av #[6] (av #[6] (av #[6] (av #[6] (c8 (pT (nz kv hz.ob rfl aG rfl e)) mS))))))
theorem UK(hz:lH M L a b t k sd tk z)(B:Bool){q:Int}(hq:q<0\/(t.size:Int)<=q)(l:List Nat):kz [.loc L,.tup [J8 B,.int q,.str l]] z=.ex "NoPlace" z:=by
 have hp:=Bo (ps:=t.po) (z:=q) (by rw[MT.po_len];exact hq) z
 cases B with
 |true=>
  have e:jf [.loc L,.int q,.str l] z=.ex "NoPlace" z:=fZ (N:=3) (body:=wq) (ws:=[.loc L,.int q,.str l]) (fm (qp (ku (ai (c9 kv hz.ob rfl) kn) hp rfl)) mS)
  exact fZ (N:=2) (body:=yd) (ws:=[.loc L,.tup [J8 true,.int q,.str l]]) (fm (cC (aL (bd kx bf (cF rfl))) (pT (nz kv hz.ob rfl (ai kx (ai kx aG)) rfl e))) mS)
 |false=>
  have e:iq [.loc L,.int q,.str l] z=.ex "NoPlace" z:=fZ (N:=3) (body:=uM) (ws:=[.loc L,.int q,.str l]) (fm (qp (ku (ai (c9 kv hz.ob rfl) kn) hp rfl)) mS)
  exact fZ (N:=2) (body:=yd) (ws:=[.loc L,.tup [J8 false,.int q,.str l]]) (av #[6] (fm (cC (aL (bd kx bf (cF rfl))) (pT (nz kv hz.ob rfl (ai kx (ai kx aG)) rfl e))) mS))
theorem NC(hz:lH M L a b t k sd tk z){q:Int}{s:Bool}{x:MT}(h:wn [bw t.po,.int q,mR s,bw x.po] z=.ex c z):kz [.loc L,.tup [.str [98,114,97,110,99,104],.int q,mR s,bw x.po]] z=.ex c z:=by
 have e:fR [.loc L,.int q,mR s,bw x.po] z=.ex c z:=fZ (N:=5) (body:=qM) (ws:=[.loc L,.int q,mR s,bw x.po]) (fm (sg (ku (ai (c9 kv hz.ob rfl) (ai kv (ai kv kn))) h rfl)) mS)
 exact fZ (N:=2) (body:=yd) (ws:=[.loc L,.tup [.str [98,114,97,110,99,104],.int q,mR s,bw x.po]]) (av #[6] (av #[6] (fm (cC (aL (bd kx bf (cF rfl))) (pT (nz kv hz.ob rfl (ai kx (ai kx (ai kx aG))) rfl e))) mS)))
theorem UL(hz:lH M L a b t k sd tk z){q:Int}(hq:q<0\/(t.size:Int)<=q)(s:Bool)(x:MT):kz [.loc L,.tup [.str [98,114,97,110,99,104],.int q,mR s,bw x.po]] z=.ex "NoPlace" z:=NC hz (Re (ps:=t.po) (by rw[MT.po_len];exact hq) (mR s) (bw x.po) z)
theorem JL{C:List Fm}{l r x:MT}(h1:#[1].size<=900)(hx:x.size<=900)(hz:lH M L a b #[1] k sd tk z)(s:Bool)(hg:100<(aZ C #[12]).size):kz [.loc L,.tup [.str [98,114,97,110,99,104],.int (pq C l r:Nat),mR s,bw x.po]] z=.ex "TooGreat" z:=
 NC hz (Fw (oth:=x.po) #[1].gr0 (by rw[MT.po_len];exact h1) (by rw[MT.po_len];exact hx) (sL C l r m) s z (by rw[sM,MT.po_len];exact hg))
noncomputable def lJ(i:Nat):W:=.tup [.str [114,101,102,117,115,101,100],.bl true,.bl (i==0),.bl (i==1),.bl (i==2),.bl false]
theorem LX(i:Nat)(st:List am):jr 40 [lJ i,lJ i] st=.ok (.bl true) st:=sJ (k:=39) (ag rfl) fun w hw=>by
 simp only[aN,dI,kJ]at hw
 rcases hw with rfl|rfl|rfl|rfl|rfl|rfl
 ·exact Bj _ 38 st
 all_goals exact yj _ 38 st
noncomputable def Rm(i:Nat):Str:=if i=0 then "NoPlace" else if i=1 then "TooGreat" else "NothingDone"
theorem lK(hi:i<3){w:W}(e:kz [.loc L,w] z=.ex (Rm i) z):nu [.loc L,w] z=.ok (lJ i) z:=by
 have cx:(z++[am.exc (Rm i)])[z.length]?=some (.exc (Rm i)):=cK
 obtain rfl|rfl|rfl:i=0\/i=1\/i=2:=by omega
 all_goals exact eM (N:=4) (body:=Nq) (ws:=[.loc L,w]) (av (a8 bf) (av (Hj (sg (ku (ai kv kn) e rfl)) #[3] (a8 (cE (ai bf (ai (AQ kv cx rfl) (ai (AQ kv cx rfl) (ai (AQ kv cx rfl) (ai (AQ kv cx rfl) (ai (AQ kv cx rfl) aG)))))) (ag rfl)))) (bH kv ⟨_,_,rfl,rfl,_,rfl⟩))) rfl
theorem n9{w:W}(e:kz [.loc L,w] z=.ok .non z')(ht:hX z z' [.non]=z'):nu [.loc L,w] z=.ok .non z':=by
 rw[<- ht]
 exact iF (N:=4) (cr (a8 bf) (cr (Hi (a8 (bT (ai kv kn) e rfl))) (qF kv)))
theorem uP(hz:lH M L a b t k sd tk z):fF [.loc L] z=.ok (.int (k:Nat)) z:=by
 apply dY
 apply bH
 ·exact c9 kv hz.ob rfl
 ·exact⟨_,_,rfl,rfl,rfl⟩
def Bd(M:Mc)(L a b:Nat)(t:MT)(k:Nat)(sd tk:List Dd)(w:W):Prop:=∃(dw:W) (i:Nat),w=.tup [dw,lJ i]/\∀z,lH M L a b t k sd tk z->nu [.loc L,dw] z=.ok (lJ i) z
theorem JM(hM:lj M n)(hn:1<=n)(ht:t.size<=900){p:Nat}{bl:List W}(hp:z[p]?=some (.lst bl))(hz:lH M L a b t k sd tk z)(hb:∀w∈bl,Bd M L a b t k sd tk w)(q:Int):yg [.loc L,M.w,bw t.po,.loc p,.int q] z=.ok (.bl true) z:=by
 apply dY
 apply av
 ·exact a8 (gE kv hz.ob rfl aG rfl (uP hz))
 refine fJ (fun i ρ be=>∃(o6 o7:Option W),ρ=[lO L,some M.w,some (bw t.po),lO p,iO q,iO (k:Nat),o6,o7]/\be=z) (vf kv (bB hp)) ⟨none,none,rfl,rfl⟩ (fun i ρ be h=>?_) ?_ ?_
 ·obtain⟨o6,o7,rfl,rfl⟩:=h
  exact bB hp
 ·rintro i w ρ be hw ⟨o6,o7,rfl,rfl⟩
  have hw:bl[i]?=some w:=hw
  obtain⟨dw,j,rfl,hd⟩:=hb w (bX hw)
  refine⟨[lO L,some M.w,some (bw t.po),lO p,iO q,iO (k:Nat),some dw,some (lJ j)],rfl,?_⟩
  apply bn
  ·exact qE (aL (bT (ai (bT (ai kv kn) (hd _ hz) rfl) kn) (LX j _) rfl)) rfl
  apply bM
  apply lE
  ·exact mz (qE (aL (bT (ai kv (ai kv (ai kv kn))) (uh hM hn ht hz q) rfl)) rfl) (qE (aL (bT (ai (gE kv hz.ob rfl aG rfl (uP hz)) kn) (Q7 _ _) rfl)) rfl)
  ·exact⟨_,_,rfl,_,_,rfl,rfl⟩
 ·rintro ρ be ⟨o6,o7,rfl,rfl⟩
  apply bH
  ·exact bf
  ·exact⟨_,_,rfl,rfl,rfl⟩
end
theorem zG(t:MT)(st:List am):cP [bw t.po] st=.ok (.int (t.size:Nat)) st:=by have:=fS t.po st;rwa[MT.po_len]at this
section
variable{M:Mc}{z':List am}{a b:Nat}{t:MT}{sd tk:List Dd}{d:Dd}
noncomputable abbrev gS(st:List am)(c1 c2 c3:am)(bl:List W):List am:=st++[c1,c2,c3,.lst bl]
theorem ND(st:List am)(c1 c2 c3:am)(bl:List W):(gS st c1 c2 c3 bl)[st.length+3]?=some (.lst bl):=by rw[gC];rfl
theorem uk{st:List am}{c1 c2 c3:am}{bl:List W}{w:W}(hρ:ρ[12]?=some (lO (st.length+3)))(hl:bl.length<1000)(h:fe ρ (gS st c1 c2 c3 bl)=.ok w (gS st c1 c2 c3 bl)):cv (jR bv (af 12) (aa fe aw)) ρ (gS st c1 c2 c3 bl)=.nx ρ (gS st c1 c2 c3 (bl++[w])):=by
 refine(dO (il (gK hρ) (c6 (ND st c1 c2 c3 bl)) (ai h aG) (lG (ND st c1 c2 c3 bl) #[0]))).trans ?_
 rw[lD];rfl
theorem ul{bl:List W}{w:W}(h:∀w∈bl,Bd M L a b t k sd tk w)(h2:Bd M L a b t k sd tk w):∀w'∈bl++[w],Bd M L a b t k sd tk w':=fun w' hw=>by
 rcases aP.mp hw with hw|hw
 ·exact h w' hw
 ·rw[aT.mp hw];exact h2
abbrev bR(n0 k P Q l:Nat)(t:MT)(pl:Int)(s:Bool)(a b c d:Option W):cf:=[lO n0,iO (k:Nat),some (bw t.po),lO P,lO Q,some (lJ 0),some (lJ 1),some (lJ 2),iO (t.size:Nat),lO l,iO pl,some (mR s),lO (l+3),a,b,c,d]
theorem Rn{n0 P Q:Nat}{A B:List W}(h0:st[n0]?=some (.ro (ns.map W.int)))(hP:st[P]?=some (.lst A))(hQ:st[Q]?=some (.lst B))(hA:A.length=sd.length)(hB:B.length=tk.length)(EA:Nat)(ht:t.size<=100) :
  ∃(x:List am) (bl:List W),yf [.loc n0,.int (EA:Nat),bw t.po,.loc P,.loc Q] st=.ok (.loc (st.length+3)) (st++x)/\x[3]?=some (.lst bl)/\∀w∈bl,Bd M L a b t k sd tk w:=by
 suffices hh:jX (y9 fun w be=>∃j x,w=.loc (st.length+j)/\be=st++x/\j=3/\∃bl:List W,x[3]?=some (.lst bl)/\∀w∈bl,Bd M L a b t k sd tk w) (Nr ([W.loc n0,.int (EA:Nat),bw t.po,.loc P,.loc Q].map some++List.replicate (17-5) none) st) by
  obtain⟨j,x,⟨rfl,bl,h1,h2⟩,e⟩:=se hh
  exact⟨x,bl,e,h1,h2⟩
 apply av
 ·exact a8 (w:=lJ 0) (cE (ai bf (ai bf (ai bf (ai bf (ai bf (ai bf aG)))))) (ag rfl))
 apply av
 ·exact a8 (w:=lJ 1) (cE (ai bf (ai bf (ai bf (ai bf (ai bf (ai bf aG)))))) (ag rfl))
 apply av
 ·exact a8 (w:=lJ 2) (cE (ai bf (ai bf (ai bf (ai bf (ai bf (ai bf aG)))))) (ag rfl))
 apply av
 ·exact a8 (bE kn (zG t st))
 obtain⟨c0,e0⟩:=qr h0 (4+(EA:Int))
 obtain⟨ds,WC,_,e1⟩:=nv c0 (900001+101*(EA:Int)) 4 #[0] st
 have e1:ky [.int c0,.int 4,.int (900001+101*(EA:Int))] st=_:=e1
 have hsh:(st++[am.lst (ds.map W.int)])[st.length]?=some (.lst (yh ds)):=cK
 have ish:∀(i:Nat),i<4->∃d:Int,∀x:List am,bp #[4] (.int (i:Nat)) (st++[am.lst (ds.map W.int)]++x)=.ok (.int d) (st++[am.lst (ds.map W.int)]++x):=fun i hi=>by
  obtain⟨d,hd⟩:∃d,ds[i]?=some d:=⟨_,al #[0]⟩
  exact⟨d,fun x=>sH (cw hsh) hd⟩
 obtain⟨d0,i0⟩:=ish 0 #[0]
 obtain⟨d1,i1⟩:=ish 1 #[0]
 obtain⟨d2,i2⟩:=ish 2 #[0]
 apply av
 ·exact a8 (bT (ai (bT (ai kv (ai (bd bf kv du) aG)) e0 rfl) (ai bf (ai (bd bf (bd bf kv (pR (.inl #[3]))) du) aG))) e1 rfl)
 generalize hc1:am.lst (ds.map W.int)=c1 at *
 obtain⟨v,hv,ev⟩:∃v:Int,0<=v/\∀(ρ:cf) (s:List am),e2 KZ (eI 10) (eI 20) ρ s=.ok (.int v) s:=⟨(10:Int)^(20:Int).toNat,by decide,fun ρ s=>bd bf bf (im #[3])⟩
 obtain⟨m0,hm0,em0⟩:=fY (q:=d0) (n:=5) #[0]
 have em0:d0%5=(m0:Int):=em0
 obtain⟨pl,lU,epl⟩:∃pl:Int,(pl<0\/(t.size:Int)<=pl)/\([W.int (-1),.int (t.size:Nat),.int ((t.size:Nat)+7),.int (-((t.size:Nat):Int)-1),.int ((t.size:Nat)+v)]:List W)[m0]?=some (.int pl):=by
  obtain rfl|rfl|rfl|rfl|rfl:m0=0\/m0=1\/m0=2\/m0=3\/m0=4:=by omega
  ·exact⟨-1,by omega,rfl⟩
  ·exact⟨_,by omega,rfl⟩
  ·exact⟨_,by omega,rfl⟩
  ·exact⟨_,by omega,rfl⟩
  ·exact⟨_,by omega,rfl⟩
 apply av
 ·refine a8 (w:=.int pl) (bd (k6 (ai (uH bf) (ai kv (ai (bd kv bf du) (ai (bd (uH kv) bf rfl) (ai (bd kv (ev _ _) du) aG))))) (ag rfl)) (bd (bd kv bf (i0 _)) bf (im #[3])) (jI (bB cK) ?_))
  rw[em0];exact fP epl
 generalize hc2:am.lst [W.int (-1),.int (t.size:Nat),.int ((t.size:Nat)+7),.int (-((t.size:Nat):Int)-1),.int ((t.size:Nat)+v)]=c2 at *
 have hk2:∃s:Bool,∀(y:List am) (p:Nat),(st++[c1]++y)[p]?=some (.lst [.str [108,101,102,116],.str [114,105,103,104,116]])->bp (.loc p) (.int (d1%2)) (st++[c1]++y)=.ok (mR s) (st++[c1]++y):=by
  obtain⟨m4,hm4,em4⟩:=fY (q:=d1) (n:=2) #[0]
  have em4:d1%2=(m4:Int):=em4
  rw[em4]
  obtain rfl|rfl:m4=0\/m4=1:=by omega
  ·exact⟨true,fun y p h=>jI (bB h) rfl⟩
  ·exact⟨false,fun y p h=>jI (bB h) rfl⟩
 obtain⟨s,hs⟩:=hk2
 have j1:bp #[4] (.int 1) (st++[c1]++[c2]++[.lst [.str [108,101,102,116],.str [114,105,103,104,116]]])=.ok (.int d1) (st++[c1]++[c2]++[.lst [.str [108,101,102,116],.str [114,105,103,104,116]]]):=by
  rw[aj (st++[c1])];exact i1 _
 have js:bp (.loc (st++[c1]++[c2]).length) (.int (d1%2)) (st++[c1]++[c2]++[.lst [.str [108,101,102,116],.str [114,105,103,104,116]]])=.ok (mR s) (st++[c1]++[c2]++[.lst [.str [108,101,102,116],.str [114,105,103,104,116]]]):=by
  have:=hs ([c2]++[.lst [.str [108,101,102,116],.str [114,105,103,104,116]]]) (st++[c1]++[c2]).length (by rw[<- aj];exact cK)
  rwa[<- aj]at this
 apply av
 ·exact a8 (bd (k6 (ai bf (ai bf aG)) (ag rfl)) (bd (bd kv bf j1) bf (im #[3])) js)
 generalize hc3:am.lst [W.str [108,101,102,116],.str [114,105,103,104,116]]=c3 at *
 have hG:∀bl:List W,st++[c1]++[c2]++[c3]++[am.lst bl]=gS st c1 c2 c3 bl:=fun bl=>by simp only[aj];rfl
 have hD:(st++[c1]++[c2]++[c3]).length=st.length+3:=by simp
 have bmk:∀(X:Bool) (q:Int) (l:List Nat),(q<0\/(t.size:Int)<=q)->Bd M L a b t k sd tk (.tup [.tup [J8 X,.int q,.str l],lJ 0]):=fun X q l hq=>⟨_,0,rfl,fun z hz=>lK #[3] (UK hz X hq l)⟩
 obtain⟨bl3,hb3⟩:∃x,x=([.tup [.tup [J8 true,.int pl,.str [98]],lJ 0],.tup [.tup [J8 false,.int pl,.str [98]],lJ 0],.tup [.tup [J8 true,.int (-1),.str [90]],lJ 0]]:List W):=⟨_,rfl⟩
 apply av
 ·refine a8 (w:=.loc (st++[c1]++[c2]++[c3]).length) (st1:=st++[c1]++[c2]++[c3]++[.lst bl3]) ?_
  rw[hb3]
  exact k6 (ai (cE (ai (cE (ai bf (ai kv (ai bf aG))) (ag rfl)) kn) (ag rfl)) (ai (cE (ai (cE (ai bf (ai kv (ai bf aG))) (ag rfl)) kn) (ag rfl)) (ai (cE (ai (cE (ai bf (ai (uH bf) (ai bf aG))) (ag rfl)) kn) (ag rfl)) aG))) (ag rfl)
 rw[hG,hD]
 have B3:∀w∈bl3,Bd M L a b t k sd tk w:=fun w hw=>by
  rw[hb3]at hw
  simp only[aN,dI,kJ]at hw
  rcases hw with rfl|rfl|rfl
  ·exact bmk true pl _ lU
  ·exact bmk false pl _ lU
  ·exact bmk true (-1) _ (.inl #[3])
 have l3:bl3.length=3:=by rw[hb3];rfl
 obtain⟨w4,hw4⟩:∃x,x=(.tup [.tup [J8 false,.int (t.size:Nat),.str [90]],lJ 0]:W):=⟨_,rfl⟩
 obtain⟨w5,hw5⟩:∃x,x=(.tup [.tup [.str [98,114,97,110,99,104],.int pl,mR s,bw MT.nil.po],lJ 0]:W):=⟨_,rfl⟩
 obtain⟨w6,hw6⟩:∃x,x=(.tup [.tup [.str [98,114,97,110,99,104],.int pl,mR s,bw (uj 100).po],lJ 0]:W):=⟨_,rfl⟩
 apply av
 ·refine uk (w:=w4) rfl #[0] ?_
  rw[hw4]
  exact cE (ai (cE (ai bf (ai kv (ai bf aG))) (ag rfl)) kn) (ag rfl)
 have B4:=ul B3 (by rw[hw4];exact bmk false (t.size:Nat) [90] (.inr (Int.le_refl _)):Bd M L a b t k sd tk w4)
 have bbr:∀x:MT,Bd M L a b t k sd tk (.tup [.tup [.str [98,114,97,110,99,104],.int pl,mR s,bw x.po],lJ 0]):=fun x=>⟨_,0,rfl,fun z hz=>lK #[3] (UL hz lU s x)⟩
 apply av
 ·refine uk (w:=w5) rfl (by rw[ah,bb];omega) ?_
  rw[hw5]
  exact cE (ai (cE (ai bf (ai kv (ai kv (ai (cE aG (ag rfl)) aG)))) (ag rfl)) kn) (ag rfl)
 have B5:=ul B4 (by rw[hw5];exact bbr .nil:Bd M L a b t k sd tk w5)
 apply av
 ·refine uk (w:=w6) rfl (by rw[ah,ah,bb,bb];omega) ?_
  rw[hw6]
  exact cE (ai (cE (ai bf (ai kv (ai kv (ai (bT (ai bf aG) (wI 100 #[3] _) rfl) aG)))) (ag rfl)) kn) (ag rfl)
 have B6:=ul B5 (by rw[hw6];exact bbr (uj 100):Bd M L a b t k sd tk w6)
 have l6:(bl3++[w4]++[w5]++[w6]).length=6:=by simp only[ah,bb,l3]
 generalize bl3++[w4]++[w5]++[w6]=bl at *
 obtain⟨RM,RN,RL,RP,Rv,B7,l7,e7⟩:∃(RM RN RL RP:Option W) (Rv:List W),(∀w∈Rv,Bd M L a b t k sd tk w)/\Rv.length<=7 /\
   eW (dm (e2 wT (af 8) (eI 0))) (aE (a9 13 (e2 gH (e2 bp (af 9) (eI 2)) (af 8))) (aE (rd (bQ 2 sB (aa (af 2) (aa (af 13) aw))) (Cv 2 (dN (iP 14) (dN (iP 15) mx)))) (aE (a9 16 (e2 gp (af 15) (af 14))) (aE (eW (dm (e2 hW (af 11) (eC (.str [114,105,103,104,116])))) (a9 16 (e2 gp (af 13) (af 15))) bI) (cv (jR bv (af 12) (aa (cZ #[23]) aw))))))) bI (bR n0 EA P Q st.length t pl s none none none none) (gS st c1 c2 c3 bl)=.nx (bR n0 EA P Q st.length t pl s RM RN RL RP) (gS st c1 c2 c3 Rv):=by
  by_cases h:0<t.size
  ·have j2:bp #[4] (.int 2) (gS st c1 c2 c3 bl)=.ok (.int d2) (gS st c1 c2 c3 bl):=by
    have:=i2 [c2,c3,.lst bl]
    rwa[aj]at this
   obtain⟨q,hq,eq⟩:=fY (q:=d2) (n:=t.size) h
   obtain⟨C,l,r,m,rfl,rfl⟩:=sK t q hq
   have eq:d2%(#[1].size:Int)=((pq C l r:Nat):Int):=eq
   have bo:=ui C l r m #[0] (gS st c1 c2 c3 bl)
   obtain⟨N,hN⟩:∃N:Nat,N=101-#[1].size+(if s then l.size else r.size):=⟨_,rfl⟩
   have cl:=(sL C l r m).len (oth:=(uj N).po) s
   rw[sM,MT.po_len,MT.po_len,MT.po_len,lI]at cl
   have hlr:=fg C (.nd l r m) (by rw[MT.size_nd];omega)
   rw[MT.size_nd]at hlr
   have hN1:N<=201:=by cases s<;>simp only[fM,eu,fL]at hN<;>omega
   have e16:eW (dm (e2 hW (af 11) (eC (.str [114,105,103,104,116])))) (a9 16 (e2 gp (af 13) (af 15))) bI (bR n0 EA P Q st.length #[1] pl s (iO (pq C l r:Nat)) (iO ((pA C).length:Nat)) (iO ((pA C).length+l.size:Nat)) (some (.int ((((pA C).length+l.size:Nat):Int)-((pA C).length:Nat))))) (gS st c1 c2 c3 bl)=.nx (bR n0 EA P Q st.length #[1] pl s (iO (pq C l r:Nat)) (iO ((pA C).length:Nat)) (iO ((pA C).length+l.size:Nat)) (iO (if s then l.size else r.size:Nat))) (gS st c1 c2 c3 bl):=by
    cases s with
    |true=>
     rw[show(((pA C).length+l.size:Nat):Int)-((pA C).length:Nat)=(l.size:Nat) by omega]
     exact bK (aL (bd kv bf (cF rfl))) cU
    |false=>
     have:((if false=true then l.size else r.size:Nat):Int)=(pq C l r:Int)-((pA C).length+l.size:Nat):=by show(r.size:Int)=_;unfold pq;omega
     rw[this]
     exact cC (aL (bd kv bf (cF rfl))) (a8 (bd kv kv rfl))
   obtain⟨w7,hw7⟩:∃x,x=(.tup [.tup [.str [98,114,97,110,99,104],.int (pq C l r:Nat),mR s,bw (uj N).po],lJ 1]:W):=⟨_,rfl⟩
   have ad:=uk (st:=st) (c1:=c1) (c2:=c2) (c3:=c3) (bl:=bl) (w:=w7) (ρ:=(bR n0 EA P Q st.length #[1] pl s (iO (pq C l r:Nat)) (iO ((pA C).length:Nat)) (iO ((pA C).length+l.size:Nat)) (iO (if s then l.size else r.size:Nat)))) (fe:=cZ #[23]) rfl #[0] (by
     rw[hw7]
     refine cE (ai (cE (ai bf (ai kv (ai kv (ai (bT (ai (x:=.int (N:Nat)) ?_ aG) (wI N #[0] _) rfl) aG)))) (ag rfl)) kn) (ag rfl)
     rw[show((N:Nat):Int)=(101-(#[1].size:Nat):Int)+((if s then l.size else r.size:Nat):Int) by omega]
     exact bd (bd bf kv rfl) kv du)
   refine⟨_,_,_,_,bl++[w7],ul B6 ?_,by rw[ah,bb];omega,cC (aL (bd kv bf (iX (a_ #[0])))) (cr (a8 (w:=.int (pq C l r:Nat)) (by rw[<- eq];exact bd (bd kv bf j2) kv (im #[0]))) (cr (uN (bT (ai kv kn) bo rfl) rfl) (cr (a8 (bd kv kv rfl)) (cr e16 ad))))⟩
   rw[hw7]
   exact⟨_,1,rfl,fun z hz=>lK #[3] (JL #[0] (by rw[lI];omega) hz s #[0])⟩
  ·exact⟨none,none,none,none,bl,B6,by omega,bK (aL (bd kv bf (iX (aU #[0])))) cU⟩
 apply av
 ·exact e7
 have gP:∀bl,(gS st c1 c2 c3 bl)[P]?=some (.lst A):=fun bl=>cw hP
 have gQ:∀bl,(gS st c1 c2 c3 bl)[Q]?=some (.lst B):=fun bl=>cw hQ
 obtain⟨bl8,B8,l8,e8⟩:∃bl8:List W,(∀w∈bl8,Bd M L a b t k sd tk w)/\bl8.length<=8/\eW (dm (e2 hW (bh cP (aa (af 3) aw)) (eI 0))) (cv (jR bv (af 12) (aa (cZ (aa (cZ (aa (eC (.str [98,97,99,107])) aw)) (aa (af 7) aw))) aw))) bI (bR n0 EA P Q st.length t pl s RM RN RL RP) (gS st c1 c2 c3 Rv)=.nx (bR n0 EA P Q st.length t pl s RM RN RL RP) (gS st c1 c2 c3 bl8):=by
  by_cases h:A.length=0
  ·refine⟨Rv++[.tup [Pn.back.w,lJ 2]],ul B7 ⟨_,2,rfl,fun z hz=>lK #[3] (LW (tk:=tk) (k:=k) (t:=t) (a:=a) (b:=b) (M:=M) ?_)⟩,by rw[ah,bb];omega,cC (aL (bd (bE kn (iR (bB (gP _)))) bf (ec (by rw[cI];omega)))) (uk rfl #[0] (cE (ai (cE (ai bf aG) (ag rfl)) kn) (ag rfl)))⟩
   rwa[dz (show sd.length=0 by omega)]at hz
  ·exact⟨Rv,B7,by omega,bK (aL (bd (bE kn (iR (bB (gP _)))) bf (ec (by rw[ba];omega)))) cU⟩
 apply av
 ·exact e8
 obtain⟨bl9,B9,e9⟩:∃bl9:List W,(∀w∈bl9,Bd M L a b t k sd tk w)/\eW (dm (e2 hW (bh cP (aa (af 4) aw)) (eI 0))) (cv (jR bv (af 12) (aa (cZ (aa (cZ (aa (eC (.str [97,103,97,105,110])) aw)) (aa (af 7) aw))) aw))) bI (bR n0 EA P Q st.length t pl s RM RN RL RP) (gS st c1 c2 c3 bl8)=.nx (bR n0 EA P Q st.length t pl s RM RN RL RP) (gS st c1 c2 c3 bl9):=by
  by_cases h:B.length=0
  ·refine⟨bl8++[.tup [Pn.again.w,lJ 2]],ul B8 ⟨_,2,rfl,fun z hz=>lK #[3] (JK (sd:=sd) (k:=k) (t:=t) (a:=a) (b:=b) (M:=M) ?_)⟩,cC (aL (bd (bE kn (iR (bB (gQ _)))) bf (ec (by rw[cI];omega)))) (uk rfl #[0] (cE (ai (cE (ai bf aG) (ag rfl)) kn) (ag rfl)))⟩
   rwa[dz (show tk.length=0 by omega)]at hz
  ·exact⟨bl8,B8,bK (aL (bd (bE kn (iR (bB (gQ _)))) bf (ec (by rw[ba];omega)))) cU⟩
 apply av
 ·exact e9
 apply bH
 ·exact gK rfl
 ·exact⟨_,_,rfl,3,[c1,c2,c3,.lst bl9],rfl,rfl,rfl,bl9,rfl,B9⟩
end
section
variable{M:Mc}{z':List am}{a b:Nat}{t:MT}{sd tk:List Dd}{d:Dd}
def W1:List Dd->MT->Prop
 |[],_=>True
 |d::sd,t=>d.b=t/\W1 sd d.a
def W2:List Dd->MT->Prop
 |[],_=>True
 |d::tk,t=>d.a=t/\W2 tk d.b
def W3(d:Dd):Prop:=d.ok/\zF d.a/\zF d.b
structure Lv(M:Mc)(ns:List Int)(L a b P Q:Nat)(t:MT)(k:Nat)(sd tk:List Dd)(i:Nat)(z:List am):Prop where
 ks:lH M L a b t k sd tk z
 r0:z[0]?=some (.ro (ns.map W.int))
 pP:z[P]?=some (.lst (sd.reverse.map fun d=>bw d.a.po))
 pQ:z[Q]?=some (.lst (tk.reverse.map fun d=>bw d.b.po))
 cs:W1 sd t
 ct:W2 tk t
 gd:zF t
 sz:t.size<=100
 os:∀d∈sd,W3 d
 ot:∀d∈tk,W3 d
 ln:sd.length+tk.length<=i
 n0:0≠L/\0≠a/\0≠b/\0≠P/\0≠Q
 nP:P≠L/\P≠a/\P≠b/\P≠Q
 nQ:Q≠L/\Q≠a/\Q≠b
theorem yq{f:FG}{body:FS}(I:Nat->cf->List am->Prop):∀{ws:List W} {ρ:cf} {st:List am} (i0:Nat),I i0 ρ st ->
  (∀i w ρ st,ws[i]?=some w->I (i0+i) ρ st->∃ρ' ρ2 cW,f w ρ=some ρ'/\(body ρ' st=.nx ρ2 cW\/body ρ' st=.ct ρ2 cW)/\I (i0+i+1) ρ2 cW) ->
  ∃ρ2 cW,rQ f body none ws ρ st=.nx ρ2 cW/\I (i0+ws.length) ρ2 cW
 |[],ρ,st,i0,h0,hs=>⟨ρ,st,by unfold rQ;rw[aD (show kZ st none from trivial)],h0⟩
 |w::ws,ρ,st,i0,h0,hs=>by
  obtain⟨ρ',ρ2,cW,e1,e2,h1⟩:=hs 0 w ρ st rfl h0
  obtain⟨ρ3,mF,e3,h3⟩:=yq I (ws:=ws) (ρ:=ρ2) (st:=cW) (i0+1) h1 fun i w ρ st hw hI=>by
   obtain⟨a,b,c,d,e,g⟩:=hs (i+1) w ρ st (by simpa using hw) (by rw[show i0+(i+1)=i0+1+i by omega];exact hI)
   exact⟨a,b,c,d,e,by rw[show i0+1+i+1=i0+(i+1)+1 by omega];exact g⟩
  refine⟨ρ3,mF,?_,by rw[bg,show i0+(ws.length+1)=i0+1+ws.length by omega];exact h3⟩
  unfold rQ
  rw[aD (show kZ st none from trivial),e1]
  rcases e2 with e2|e2<;>simp only[e2]<;>exact e3
theorem Dg{g g':FS}{ρ':cf}(h:g ρ st=.ct ρ' st1):aE g g' ρ st=.ct ρ' st1:=by unfold aE;rw[h]
abbrev lR(M:Mc)(t:MT)(pool:List Nat)(L P Q:Nat)(o7 o8:Option W):cf:=[lO 0,some M.w,some (bw t.po),some (.str pool),lO L,lO P,lO Q,o7,o8]
abbrev lB:FS:=(aE #[17] (aE (a9 8 (bQ 5 wu (aa (af 0) (aa (af 7) (aa (eI 10) (aa (af 2) (aa (af 3) aw))))))) (aE (eW (wS (dm (e2 hW (e2 bp (af 8) (eI 0)) (eC (.str [98,97,99,107])))) (dm (e2 wT (bh cP (aa (af 5) aw)) (eI 0)))) (aE (cv (jR bv (af 6) #[19])) (a9 2 (jR m6 (af 5) aw))) (eW (wS (dm (e2 hW (e2 bp (af 8) (eI 0)) (eC (.str [97,103,97,105,110])))) (dm (e2 wT (bh cP (aa (af 6) aw)) (eI 0)))) (aE (cv (jR bv (af 5) #[19])) (a9 2 (jR m6 (af 6) aw))) (eW (wS (dm (e2 wT (bh cP (aa (af 8) aw)) (eI 1))) (dm (e2 Fc (bh cP (aa (bQ 2 qN (aa (af 2) (aa (af 8) aw))) aw)) (eI 100)))) (aE (cv (jR bv (af 5) #[19])) (aE (a9 6 (jD aw)) (a9 2 (bQ 2 qN (aa (af 2) (aa (af 8) aw)))))) GR))) #[24])))
theorem Dh(hM:lj M n)(hn:1<=n){P Q:Nat}{p:Pn}(ht:t.size<=100)(hd:nu [.loc L,p.w] z=.ok .non z')(hk:lH M L a b t k sd tk z') :
  #[24] (lR M t pool L P Q (iO (i:Nat)) (some p.w)) z=.nx (lR M t pool L P Q (iO (i:Nat)) (some p.w)) z':=
 bK (mz (aL (eK (bT (ai kv kn) hd rfl) rfl)) (qE (aL (bT (ai kv (ai kv (ai kv kn))) (uh hM hn #[0] hk i) rfl)) rfl)) cU
def Go(M:Mc)(ns:List Int)(pool:List Nat)(L P i:Nat)(r:RS):Prop:=
 ∃(t:MT) (a b Q k:Nat) (sd tk:List Dd) (o7 o8:Option W) (z2:List am),(r=.nx (lR M t pool L P Q o7 o8) z2\/r=.ct (lR M t pool L P Q o7 o8) z2)/\Lv M ns L a b P Q t k sd tk i z2
theorem Lv.up{P Q:Nat}(h:Lv M ns L a b P Q t k sd tk i z)(hj:i<=j):Lv M ns L a b P Q t k sd tk j z:={ h with ln:=aI h.ln hj }
theorem Lv.app{P Q:Nat}{x:List am}(h:Lv M ns L a b P Q t k sd tk i z):Lv M ns L a b P Q t k sd tk i (z++x):={ h with ks:=h.ks.app,r0:=cw h.r0,pP:=cw h.pP,pQ:=cw h.pQ }
section
variable{P Q:Nat}{o8:Option W}{z0:List am}
def Hd(M:Mc)(t:MT)(pool:List Nat)(L P Q i:Nat)(o8:Option W)(z0 z:List am)(p:Pn):Prop:=∀{g:FS} {r:RS},g (lR M t pool L P Q (iO (i:Nat)) (some p.w)) z=r->aE #[17] (aE (a9 8 (bQ 5 wu (aa (af 0) (aa (af 7) (aa (eI 10) (aa (af 2) (aa (af 3) aw))))))) g) (lR M t pool L P Q (iO (i:Nat)) o8) z0=r
theorem UM(hM:lj M n)(hn:1<=n)(lU:pool.length=4)(yt:∀d∈pool,d∈LL)(Kb:pool.Nodup)(hv:Lv M ns L a b P Q t k sd tk i z0):∃(x:List am) (p:Pn),p.ok t.size/\Hd M t pool L P Q i o8 z0 (z0++x) p:=by
 have yu:=hv.sz
 obtain⟨x,bl,eb,hx,hb⟩:=Rn (M:=M) (L:=L) (a:=a) (b:=b) (k:=k) (t:=t) (sd:=sd) (tk:=tk) hv.r0 hv.pP hv.pQ #[15] #[15] i hv.sz
 have hv2:=hv.app (x:=x)
 have st:=JM hM hn #[0] (p:=z0.length+3) (bl:=bl) (z:=z0++x) (by rw[gC];exact hx) hv2.ks hb i
 obtain⟨p,hp,_,e⟩:=Df hv2.r0 (i:Nat) (t:=t) lU yt Kb 10 #[3]
 have e:wu [.loc 0,.int (i:Nat),.int 10,bw t.po,.str pool] (z0++x)=.ok p.w (z0++x):=e
 refine⟨x,p,hp,fun{g r} h=>?_⟩
 exact cr (bK (qE (aL (bT (ai kv (ai kv (ai kv (ai (bT (ai kv (ai kv (ai kv (ai kv kn)))) eb rfl) kn)))) st rfl)) rfl) cU) (cr (a8 (bT (ai kv (ai kv (ai bf (ai kv kn)))) e rfl)) h)
theorem FC(hM:lj M n)(hn:1<=n)(hv:Lv M ns L a b P Q t k sd tk i z)(hi:i<100)(H:Hd M t pool L P Q i o8 z0 z .back):Go M ns pool L P (i+1) (lB (lR M t pool L P Q (iO (i:Nat)) o8) z0):=by
 have pP:=hv.pP
 have pQ:=hv.pQ
 have hln:=hv.ln
 have nA:∀{ρ:cf} {s:List am} {g:FT},ρ[8]?=some (some Pn.back.w)->wS (dm (e2 hW (e2 bp (af 8) (eI 0)) (eC (.str [97,103,97,105,110])))) g ρ s=.ok false s:=fun h=>ld (aL (bd (bd (gK h) bf ox) bf (cF rfl)))
 have n1:∀{ρ:cf} {s:List am} {g:FT},ρ[8]?=some (some Pn.back.w)->wS (dm (e2 wT (bh cP (aa (af 8) aw)) (eI 1))) g ρ s=.ok false s:=fun h=>ld (aL (bd (bE (ai (gK h) aG) v8) bf (iX rfl)))
 cases sd with
 |nil=>exact⟨t,a,b,Q,k,[],tk,_,_,z,.inr (H (Dg (bK (jH (aL (bd kx bf (cF rfl))) (aL (bd (bE kn (iR (bB pP))) bf (iX rfl)))) (bK (nA rfl) (bK (n1 rfl) rfl))))),hv.up (by omega)⟩
 |cons d sd=>
  rw[bg]at hln
  obtain⟨c1,c2⟩:=hv.cs
  subst c1
  rw[bA,aV]at pP
  have pP2:(z.set Q (.lst (tk.reverse.map (fun d=>bw d.b.po)++[bw d.b.po])))[P]?=some (.lst (sd.reverse.map (fun d=>bw d.a.po)++[bw d.a.po])):=by rw[bN (Ne.symm hv.nP.2.2.2)];exact pP
  have hl0:∀x:List W,x.length=sd.length+1->decide ((x.length:Int)>0)=true:=fun x hx=>a_ #[0]
  have hk1:lH M L a b d.b k (d::sd) tk #[20]:=hv.ks.fr (by rw[bN hv.nP.1,bN hv.nQ.1]) (by rw[bN hv.nP.2.1,bN hv.nQ.2.1]) (by rw[bN hv.nP.2.2.1,bN hv.nQ.2.2])
  obtain⟨z2,e2',hk2,h3,hzl⟩:=LP hM hn (hv.os d bF).1 hk1 #[0]
  have oD:=hv.os d bF
  have qb:#[20][Q]?=some (.lst (tk.reverse.map (fun d=>bw d.b.po)++[bw d.b.po])):=by rw[bN hv.nP.2.2.2];exact dQ pQ
  have qa:#[20][P]?=some (.lst (sd.reverse.map fun d=>bw d.a.po)):=dQ pP2
  have q0:#[20][0]?=some (.ro (ns.map W.int)):=by rw[bN (Ne.symm hv.n0.2.2.2.1),bN (Ne.symm hv.n0.2.2.2.2)];exact hv.r0
  have f:=Dh hM hn (pool:=pool) (P:=P) (Q:=Q) (i:=i) (p:=.back) (Dd.ok_a oD.1) (n9 (LV e2' hk1.ob (j8 hzl)) (j8 hzl)) hk2
  have eB:lB (lR M d.b pool L P Q (iO (i:Nat)) o8) z0=.nx (lR M d.a pool L P Q (iO (i:Nat)) (some Pn.back.w)) z2:=H (cr (cC (jH (aL (bd kx bf (cF rfl))) (aL (bd (bE kn (iR (bB pP))) bf (iX (hl0 _ #[15]))))) (cr (dO (il kv (c6 pQ) kn (lG pQ (by simp;omega)))) (a8 (il kv (c6 pP2) aG (v9 pP2))))) f)
  refine⟨d.a,a,b,Q,d.tn.ct M,sd,d::tk,_,_,z2,.inl eB,?_⟩
  exact⟨hk2,(h3.2 0 (fC q0) hv.n0.1 hv.n0.2.1 hv.n0.2.2.1).trans q0,(h3.2 P (fC qa) hv.nP.1 hv.nP.2.1 hv.nP.2.2.1).trans qa,(h3.2 Q (fC qb) hv.nQ.1 hv.nQ.2.1 hv.nQ.2.2).trans (qb.trans (by rw[bA,aV];rfl)),c2,⟨rfl,hv.ct⟩,oD.2.1,Dd.ok_a oD.1,fun x hx=>hv.os x (aO _ hx),fun x hx=>by
   rcases aN.mp hx with rfl|hx
   ·exact oD
   ·exact hv.ot x hx,by rw[bg];omega,hv.n0,hv.nP,hv.nQ⟩
theorem Di(hM:lj M n)(hn:1<=n)(hv:Lv M ns L a b P Q t k sd tk i z)(hi:i<100)(H:Hd M t pool L P Q i o8 z0 z .again):Go M ns pool L P (i+1) (lB (lR M t pool L P Q (iO (i:Nat)) o8) z0):=by
 have pP:=hv.pP
 have pQ:=hv.pQ
 have hln:=hv.ln
 have nB:∀{ρ:cf} {s:List am} {g:FT},ρ[8]?=some (some Pn.again.w)->wS (dm (e2 hW (e2 bp (af 8) (eI 0)) (eC (.str [98,97,99,107])))) g ρ s=.ok false s:=fun h=>ld (aL (bd (bd (gK h) bf ox) bf (cF rfl)))
 have n1:∀{ρ:cf} {s:List am} {g:FT},ρ[8]?=some (some Pn.again.w)->wS (dm (e2 wT (bh cP (aa (af 8) aw)) (eI 1))) g ρ s=.ok false s:=fun h=>ld (aL (bd (bE (ai (gK h) aG) v8) bf (iX rfl)))
 cases tk with
 |nil=>exact⟨t,a,b,Q,k,sd,[],_,_,z,.inr (H (Dg (bK (nB rfl) (bK (jH (aL (bd kx bf (cF rfl))) (aL (bd (bE kn (iR (bB pQ))) bf (iX rfl)))) (bK (n1 rfl) rfl))))),hv.up (by omega)⟩
 |cons d tk=>
  rw[bg]at hln
  obtain⟨c1,c2⟩:=hv.ct
  subst c1
  rw[bA,aV]at pQ
  have pQ2:(z.set P (.lst (sd.reverse.map (fun d=>bw d.a.po)++[bw d.a.po])))[Q]?=some (.lst (tk.reverse.map (fun d=>bw d.b.po)++[bw d.b.po])):=by rw[bN hv.nP.2.2.2];exact pQ
  have hl0:∀x:List W,x.length=tk.length+1->decide ((x.length:Int)>0)=true:=fun x hx=>a_ #[0]
  have hk1:lH M L a b d.a k sd (d::tk) #[21]:=hv.ks.fr (by rw[bN hv.nQ.1,bN hv.nP.1]) (by rw[bN hv.nQ.2.1,bN hv.nP.2.1]) (by rw[bN hv.nQ.2.2,bN hv.nP.2.2.1])
  have oD:=hv.ot d bF
  obtain⟨z2,e2',hk2,h3,hzl⟩:=JG hM hn oD.1 hk1 #[0]
  have qb:#[21][P]?=some (.lst (sd.reverse.map (fun d=>bw d.a.po)++[bw d.a.po])):=by rw[bN (Ne.symm hv.nP.2.2.2)];exact dQ pP
  have qa:#[21][Q]?=some (.lst (tk.reverse.map fun d=>bw d.b.po)):=dQ pQ2
  have q0:#[21][0]?=some (.ro (ns.map W.int)):=by rw[bN (Ne.symm hv.n0.2.2.2.2),bN (Ne.symm hv.n0.2.2.2.1)];exact hv.r0
  have f:=Dh hM hn (pool:=pool) (P:=P) (Q:=Q) (i:=i) (p:=.again) (Dd.ok_b oD.1) (n9 (JJ e2' hk1.ob (j8 hzl)) (j8 hzl)) hk2
  have eB:lB (lR M d.a pool L P Q (iO (i:Nat)) o8) z0=.nx (lR M d.b pool L P Q (iO (i:Nat)) (some Pn.again.w)) z2:=H (cr (bK (nB rfl) (cC (jH (aL (bd kx bf (cF rfl))) (aL (bd (bE kn (iR (bB pQ))) bf (iX (hl0 _ #[15]))))) (cr (dO (il kv (c6 pP) kn (lG pP (by simp;omega)))) (a8 (il kv (c6 pQ2) aG (v9 pQ2)))))) f)
  refine⟨d.b,a,b,Q,d.ct M,d::sd,tk,_,_,z2,.inl eB,?_⟩
  exact⟨hk2,(h3.2 0 (fC q0) hv.n0.1 hv.n0.2.1 hv.n0.2.2.1).trans q0,(h3.2 P (fC qb) hv.nP.1 hv.nP.2.1 hv.nP.2.2.1).trans (qb.trans (by rw[bA,aV];rfl)),(h3.2 Q (fC qa) hv.nQ.1 hv.nQ.2.1 hv.nQ.2.2).trans qa,⟨rfl,hv.cs⟩,c2,oD.2.2,Dd.ok_b oD.1,fun x hx=>by
   rcases aN.mp hx with rfl|hx
   ·exact oD
   ·exact hv.os x hx,fun x hx=>hv.ot x (aO _ hx),by rw[bg];omega,hv.n0,hv.nP,hv.nQ⟩
theorem FD(hM:lj M n)(hn:1<=n){p:Pn}(hv:Lv M ns L a b P Q t k sd tk i z)(hi:i<100)(hp:p.ok t.size)(hb:p≠.back)(hA:p≠.again)(H:Hd M t pool L P Q i o8 z0 z p):Go M ns pool L P (i+1) (lB (lR M t pool L P Q (iO (i:Nat)) o8) z0):=by
 obtain⟨t2,s,ws,g2,hw,VD,n1,n2,hc,hd⟩:=UJ hM hn hp hb hA hv.sz hv.gd
 have pP:=hv.pP
 have pQ:=hv.pQ
 have hln:=hv.ln
 have ix:∀z:List am,bp p.w (.int 0) z=.ok (.str s) z:=fun z=>by rw[hw];exact mB (fP (q:=0) rfl)
 have lU:∀z:List am,cP [p.w] z=.ok (.int (ws.length+1:Nat)) z:=fun z=>by rw[hw];rfl
 have hl2:=zG t2 z
 have nB:∀{g:FT},wS (dm (e2 hW (e2 bp (af 8) (eI 0)) (eC (.str [98,97,99,107])))) g (lR M t pool L P Q (iO (i:Nat)) (some p.w)) z=.ok false z:=ld (aL (bd (bd kv bf (ix _)) bf (cF n1)))
 have nA:∀{g:FT},wS (dm (e2 hW (e2 bp (af 8) (eI 0)) (eC (.str [97,103,97,105,110])))) g (lR M t pool L P Q (iO (i:Nat)) (some p.w)) z=.ok false z:=ld (aL (bd (bd kv bf (ix _)) bf (cF n2)))
 have t1:dm (e2 wT (bh cP (aa (af 8) aw)) (eI 1)) (lR M t pool L P Q (iO (i:Nat)) (some p.w)) z=.ok true z:=aL (bd (bE kn (lU _)) bf (iX (a_ #[0])))
 by_cases h:t2.size<=100
 ·obtain⟨d,dk,da,db,hdo⟩:=hd h
  have lP:=fC pP
  have lQ:=fC pQ
  have lL:=fC hv.ks.ob
  have lA:=fC hv.ks.s
  have lB':=fC hv.ks.u
  have l0:=fC hv.r0
  have zl:#[25].length=z.length:=by simp
  have hk1:lH M L a b t k sd tk (#[25]++[.lst []]):=hv.ks.fr (by rw[aH #[0],bN hv.nP.1]) (by rw[aH #[0],bN hv.nP.2.1]) (by rw[aH #[0],bN hv.nP.2.2.1])
  obtain⟨z2,ed,hk2,h3⟩:=hdo hk1 #[0]
  have f:=Dh hM hn (pool:=pool) (P:=P) (Q:=z.length) (i:=i) h (n9 ed (gR _ hk1 hk2)) hk2
  have eB:lB (lR M t pool L P Q (iO (i:Nat)) o8) z0=.nx (lR M t2 pool L P z.length (iO (i:Nat)) (some p.w)) z2:=by
   refine H (cr (bK nB (bK nA (cC (jH t1 (aL (bd (bE (ai (bT (ai kv kn) (hc _) rfl) aG) hl2) bf (AM (a_ #[0]))))) (cr (dO (il kv (c6 pP) kn (lG pP (by simp;omega)))) (cr (a8 (k6 aG (ag rfl))) (a8 (bT (ai kv kn) (hc _) rfl))))))) ?_)
   rw[zl]
   exact f
  have q0:(#[25]++[.lst []])[0]?=some (.ro (ns.map W.int)):=by rw[aH #[0],bN (Ne.symm hv.n0.2.2.2.1)];exact hv.r0
  have qP:(#[25]++[.lst []])[P]?=some (.lst (sd.reverse.map (fun d=>bw d.a.po)++[bw t.po])):=by rw[aH #[0]];exact dQ pP
  have qQ:(#[25]++[.lst []])[z.length]?=some (.lst []):=by rw[<- zl];exact cK
  have zl2:(#[25]++[am.lst []]).length=z.length+1:=by simp
  rw[zl2]at hk2
  refine⟨t2,a,z.length+1,z.length,d.ct M,d::sd,[],_,_,z2,.inl eB,?_⟩
  exact⟨hk2,(h3.2 0 (fC q0) hv.n0.1 hv.n0.2.1 hv.n0.2.2.1).trans q0,(h3.2 P (fC qP) hv.nP.1 hv.nP.2.1 hv.nP.2.2.1).trans (qP.trans (by rw[bA,aV,<- da];rfl)),(h3.2 z.length #[0] #[0] #[0] #[0]).trans qQ,⟨db,by rw[da];exact hv.cs⟩,trivial,g2,h,fun x hx=>by
   rcases aN.mp hx with rfl|hx
   ·exact⟨dk,by rw[da];exact hv.gd,by rw[db];exact g2⟩
   ·exact hv.os x hx,fun x hx=>(by cases hx),by rw[bg,oX];omega,⟨hv.n0.1,hv.n0.2.1,by omega,hv.n0.2.2.2.1,by omega⟩,⟨hv.nP.1,hv.nP.2.1,by omega,by omega⟩,⟨by omega,by omega,by omega⟩⟩
 ·have eB:lB (lR M t pool L P Q (iO (i:Nat)) o8) z0=.ct (lR M t pool L P Q (iO (i:Nat)) (some p.w)) z:=H (Dg (bK nB (bK nA (bK (jH t1 (aL (bd (bE (ai (bT (ai kv kn) (hc _) rfl) aG) hl2) bf (AM (aU #[0]))))) rfl))))
  exact⟨t,a,b,Q,k,sd,tk,_,_,z,.inr eB,hv.up #[0]⟩
theorem LY(hM:lj M n)(hn:1<=n)(lU:pool.length=4)(yt:∀d∈pool,d∈LL)(Kb:pool.Nodup)(hv:Lv M ns L a b P Q t k sd tk i z)(hi:i<100):Go M ns pool L P (i+1) (lB (lR M t pool L P Q (iO (i:Nat)) o8) z):=by
 obtain⟨x,p,hp,H⟩:=UM (o8:=o8) hM hn lU yt Kb hv
 by_cases hb:p=.back
 ·subst hb;exact FC hM hn hv.app hi H
 ·by_cases hA:p=.again
  ·subst hA;exact Di hM hn hv.app hi H
  ·exact FD hM hn hv.app hi hp hb hA H
end
theorem FF(hM:lj M n)(hn:1<=n)(ht:t.size<=100)(hz:lH M L a b t k sd tk z)(hs:sd.length<1000):∃z',Eg [.loc L,M.w,bw t.po] z=.ok (.bl true) z':=by
 suffices hh:jX (y9 fun w be=>w=.bl true) (Nt ([W.loc L,M.w,bw t.po].map some++List.replicate (6-3) none) z) by
  obtain⟨w,be,e,rfl⟩:=hh
  exact⟨_,iF e⟩
 have hln:=zG t z
 cases t with
 |nil=>
  apply dF
  ·exact aL (bd (bE kn hln) bf (ec rfl))
  apply dy
  ·exact bf
  ·exact⟨_,_,rfl,rfl⟩
 |nd l r m=>
  have h1:(aZ [] (.nd l r m)).size<=900:=by show(MT.nd l r m).size<=900;omega
  have bo:=ui [] l r m h1 z
  have yu:=MT.size_nd l r m
  obtain⟨N,hN⟩:∃N:Nat,N=100-(MT.nd l r m).size+l.size:=⟨_,rfl⟩
  have hq:(((MT.nd l r m).size:Nat):Int)-1=((pq [] l r:Nat):Int):=by show _=((0+l.size+r.size:Nat):Int);omega
  have q1:∀(ρ:cf),ρ[2]?=some (some (bw (MT.nd l r m).po))->e2 gp (bh cP #[19]) (eI 1) ρ z=.ok (.int ((pq [] l r:Nat):Int)) z:=fun ρ h=>by
   rw[<- hq]
   exact bd (bE (ai (gK h) aG) hln) bf rfl
  have h2:(aZ [] (.nd (uj N) r m)).size=100:=by show(MT.nd (uj N) r m).size=100;rw[MT.size_nd,lI];omega
  obtain⟨z2,eb,hk2,h3⟩:=yp (C:=[]) (l:=l) (r:=r) (x:=uj N) (m:=m) (s:=true) hM hn (by show(MT.nd l r m).size<=100;exact ht) (by rw[lI];omega) (by show(aZ [] (.nd (uj N) r m)).size<=100;omega) hz hs
  have rf:=n9 (NB (q:=pq [] l r) (s:=true) eb hz.ob (gR _ hz hk2)) (gR _ hz hk2)
  have bc:=uO [] l r (uj N) m true h1 (by rw[lI];omega) z2
  have hk3:lH M L a z.length (aZ [] (.nd (uj N) r m)) _ _ [] z2:=hk2
  have sd2:=uh hM hn #[0] hk3 2
  have hln2:=zG (MT.nd l r m) z2
  apply bn
  ·exact aL (bd (bE kn hln) bf (ec (by rw[ba];omega)))
  apply bM
  apply av
  ·exact uN (bT (ai kv (ai (q1 _ rfl) aG)) bo rfl) rfl
  have eN:e2 gp (e2 cq (e2 gp (eI 100) (bh cP #[19])) (af 4)) (af 3) [lO L,some M.w,some (bw (MT.nd l r m).po),iO ((pA []).length:Nat),iO ((pA []).length+l.size:Nat),none] z=.ok (.int (N:Nat)) z:=by
   have:((N:Nat):Int)=(100-((MT.nd l r m).size:Nat):Int)+(((pA []).length+l.size:Nat):Int)-((pA []).length:Nat):=by
    show _=(100-((MT.nd l r m).size:Nat):Int)+((0+l.size:Nat):Int)-((0:Nat):Int)
    omega
   rw[this]
   exact bd (bd (bd bf (bE kn hln) rfl) kv du) kv rfl
  apply av
  ·exact a8 (bT (ai eN aG) (wI N #[0] z) rfl)
  apply bn
  ·exact aL (eK (bT (ai kv (ai (x:=(Pn.br (pq [] l r) true (uj N)).w) (cE (ai bf (ai (q1 _ rfl) (ai bf kn))) (ag rfl)) aG)) rf rfl) rfl)
  apply bM
  have q2:∀(ρ:cf),ρ[2]?=some (some (bw (MT.nd l r m).po))->e2 gp (bh cP #[19]) (eI 1) ρ z2=.ok (.int ((pq [] l r:Nat):Int)) z2:=fun ρ h=>by
   rw[<- hq]
   exact bd (bE (ai (gK h) aG) hln2) bf rfl
  apply bH
  ·exact bT (ai kv (ai kv (ai (bT (ai kv (ai (q2 _ rfl) (ai bf kn))) bc rfl) (ai bf aG)))) sd2 rfl
  ·exact⟨_,_,rfl,rfl⟩
end
theorem law_ok:Mu f_q46:=by
 intro ns Wz
 suffices hh:jX (y9 fun w be=>w=.bl true) (Nu ([W.loc 0].map some++List.replicate (9-1) none) [.ro (ns.map W.int)]) by
  obtain⟨w,be,e,rfl⟩:=hh
  exact⟨_,iF e⟩
 have h0:([am.ro (ns.map W.int)]:List am)[0]?=some (.ro (ns.map W.int)):=rfl
 have hl0:([am.ro (ns.map W.int)]:List am).length=1:=rfl
 generalize hs0:([am.ro (ns.map W.int)]:List am)=s0 at h0 hl0
 obtain⟨M,n,t,pool,hM,hn,hts,htg,lU,yt,Kb,es⟩:=JI h0
 apply av
 ·exact uN (bT kn es rfl) rfl
 obtain⟨z1,ei,hk,BB⟩:=LQ hM hn (t:=t) #[0] s0
 rw[hl0]at hk
 apply av
 ·exact a8 (Ri (ai kv kn) rfl ei)
 rw[hl0]
 have r0:z1[0]?=some (.ro (ns.map W.int)):=pre_get BB h0
 apply av
 ·exact a8 (k6 aG (ag rfl))
 apply av
 ·exact a8 (k6 aG (ag rfl))
 have l1:=fC hk.u
 have pP:(z1++[am.lst []]++[.lst []])[z1.length]?=some (.lst []):=cw cK
 have pQ:(z1++[am.lst []]++[.lst []])[(z1++[am.lst []]).length]?=some (.lst []):=cK
 have lQ:(z1++[am.lst []]).length=z1.length+1:=by simp
 have r0':(z1++[am.lst []]++[.lst []])[0]?=some (.ro (ns.map W.int)):=cw (cw r0)
 rw[lQ]at pQ ⊢
 have hv:Lv M ns 1 2 3 z1.length (z1.length+1) t t.size [] [] 0 (z1++[am.lst []]++[.lst []]):=⟨hk.app.app,r0',pP,pQ,trivial,trivial,htg,by omega,fun _ h=>(by cases h),fun _ h=>(by cases h),ax _,⟨by omega,by omega,by omega,by omega,by omega⟩,⟨by omega,by omega,by omega,by omega⟩,⟨by omega,by omega,by omega⟩⟩
 generalize z1.length=P at *
 generalize z1++[am.lst []]++[.lst []]=z at *
 have hrange:∃m:Nat,m<=16/\dr (aa (bh E9 (aa (eI 16) (aa (bh Cr (aa (eI 3) (aa (e2 gp (bh cP (aa (af 0) aw)) (eI 4)) aw))) aw))) aw) (lR M t pool 1 P (P+1) none none) z=.ok (eX 0 m,none) z:=by
  have hln:=iR (r9 r0')
  have a1:aa (bh E9 (aa (eI 16) (aa (bh Cr (aa (eI 3) (aa (e2 gp (bh cP (aa (af 0) aw)) (eI 4)) aw))) aw))) aw (lR M t pool 1 P (P+1) none none) z=.ok [.int (if (if ((ns.map W.int).length:Int)-4>3 then((ns.map W.int).length:Int)-4 else 3)<16 then(if ((ns.map W.int).length:Int)-4>3 then((ns.map W.int).length:Int)-4 else 3)else 16)] z:=
   ai (bE (ai bf (ai (bE (ai bf (ai (bd (bE kn hln) bf rfl) aG)) TJ) aG)) rfl) aG
  generalize hq:(if (if ((ns.map W.int).length:Int)-4>3 then((ns.map W.int).length:Int)-4 else 3)<16 then(if ((ns.map W.int).length:Int)-4>3 then((ns.map W.int).length:Int)-4 else 3)else 16)=q at a1
  have hq1:0<=q/\q<=16:=by rw[<- hq];split<;>split<;>omega
  exact⟨q.toNat,by omega,iY a1 #[0]⟩
 obtain⟨m,hm,er⟩:=hrange
 obtain⟨ρ2,cW,e2',t',a,b,Q,k,sd,tk,o7,o8,rfl,hv2⟩:=yq (f:=iP 7) (body:=lB) (fun i ρ st=>∃t a b Q k sd tk o7 o8,ρ=lR M t pool 1 P Q o7 o8/\Lv M ns 1 a b P Q t k sd tk i st) (ws:=eX 0 m) (ρ:=lR M t pool 1 P (P+1) none none) (st:=z) 0 ⟨t,2,3,P+1,t.size,[],[],none,none,rfl,hv⟩ fun i w ρ st hw hI=>by
  obtain⟨t',a,b,Q,k,sd,tk,o7,o8,rfl,Vz⟩:=hI
  obtain⟨hi,rfl⟩:=jY hw
  rw[oy]at Vz ⊢
  obtain⟨t2,a2,b2,Q2,k2,sd2,tb2,p7,p8,z2,er2,hv2⟩:=LY (o8:=o8) hM hn lU yt Kb Vz #[0]
  refine⟨lR M t' pool 1 P Q (iO (i:Nat)) o8,lR M t2 pool 1 P Q2 p7 p8,z2,by rw[sZ];rfl,er2,t2,a2,b2,Q2,k2,sd2,tb2,p7,p8,rfl,hv2⟩
 apply av
 ·exact(D4 er).trans e2'
 have hl2:=hv2.ln
 have hm2:(eX 0 m).length=m:=ef 0 m
 obtain⟨z9,e9⟩:=FF hM hn hv2.sz hv2.ks #[0]
 apply bH
 ·exact bT (ai kv (ai kv kn)) e9 rfl
 ·exact⟨_,_,rfl,rfl⟩
theorem all_mk{l:PySem.W.OpenLaw}{w:World}{fa:Addr}(X:K.In h)(G:h.Ns mainGlobals mg)(Xq:mg "law"=some (.ref fa))
  {Dr:Addr} {Rs JW:Option Addr} {Ry:Array (Option Value)} {Rx JQ JV J0 Dn J1:Value} {eO:Addr} {bx:Addr} {nD:Addr} {g9:Addr} {cH:Addr} {j9:Addr} {cb:Addr} {nE:Addr} {nC:Addr} {bC:Addr} {gZ:Addr} {xF:Tok}
  (Dj:DefIn K "in_order" P_)
  (BO:DefIn K "letter_of" P')
  (Dt:DefIn K "has_left" Qa)
  (Bz:DefIn K "has_right" Qb)
  (Dx:DefIn K "links_of" Qc)
  (JR:DefIn K "ups_of" Qd)
  (FL:DefIn K "up_from" Qe)
  (Dq:DefIn K "sizes_of" Qf)
  (xE:DefIn K "check_place" Qg)
  (zL:DefIn K "check_size" Qh)
  (FJ:DefIn K "part_at" Hr)
  (xr:DefIn K "branches_at" Ht)
  (Dl:DefIn K "with_top" Hv)
  (zV:DefIn K "branch_put" Hy)
  (zS:DefIn K "room_below" HA)
  (FK:DefIn K "room_at" HC)
  (Dm:DefIn K "rooms_of" HE)
  (JY:DefIn K "turned" HG)
  (zP:DefIn K "with_marks" HJ)
  (wN:DefIn K "branch_rooms" HL)
  (FH:DefIn K "climbed" HN)
  (BK:DefIn K "_law_cell" HQ)
  (zO:DefIn K "_law_mixed" HS)
  (zN:DefIn K "_law_draws" HV)
  (BG:DefIn K "_law_same" HX)
  (BH:DefIn K "_law_pool" H9)
  (zH:DefIn K "_law_marks" Ia)
  (By:DefIn K "_law_tree" Ic)
  (zQ:DefIn K "_law_links" Ie)
  (wM:DefIn K "_law_machine" Ih)
  (xA:DefIn K "_law_letter" Ij)
  (Dp:DefIn K "_law_run" Il)
  (BN:DefIn K "_law_lets" Io)
  (zI:DefIn K "_law_sizes" Iq)
  (xy:DefIn K "_law_bounds" Iu)
  (u_:DefIn K "_law_branched" Iw)
  (zJ:DefIn K "_law_start" Iz)
  (wK:DefIn K "_law_planned" IB)
  (wL:DefIn K "_law_changed" ID)
  (zU:DefIn K "_law_doing" IF)
  (xB:DefIn K "_law_stands" IH)
  (wJ:DefIn K "_law_refused" IJ)
  (xu:DefIn K "_law_row_of" IK)
  (Dw:DefIn K "_law_bad" IM)
  (zK:DefIn K "_law_stays" IO)
  (um:DefIn K "_law_filled_up" IQ)
  (NQ:nsIn K mainGlobals "law"=some (some (.ref Dr)))
  (U7:K.lookup Dr=some ⟨Rx,Rs,.func (fnOf "law" "law" (iD su) (gA su) (aK su) .none JQ JV J0 JW Dn J1),Ry⟩)
  (FM:codeIn K Dn "law"=true)
  (U4:keepIn K (.ref Dr)=true)
  (jh:nsIn K mainGlobals "Kept"=some (some (.ref eO)))
  (cl_Kept:L2.Cls K eO)
  (vb:findIn K (.ref eO) "machine"=some none)
  (zX:findIn K (.ref eO) "many"=some none)
  (xw:findIn K (.ref eO) "rooms"=some none)
  (ur:findIn K (.ref eO) "standing"=some none)
  (rC:findIn K (.ref eO) "taken_back"=some none)
  (zT:findIn K (.ref eO) "tree"=some none)
  (L7:makesIn K eO=true)
  (L6:keepIn K (.ref eO)=true)
  (dm_Kept___init__:DefM K eO "Kept.__init__" "__init__" kM)
  (dm_Kept_carry_out:DefM K eO "Kept.carry_out" "carry_out" jZ)
  (dm_Kept_do_deed:DefM K eO "Kept.do_deed" "do_deed" lF)
  (dm_Kept_mark_deed:DefM K eO "Kept.mark_deed" "mark_deed" j4)
  (dm_Kept_put:DefM K eO "Kept.put" "put" rq)
  (dm_Kept_take:DefM K eO "Kept.take" "take" pV)
  (dm_Kept_branch:DefM K eO "Kept.branch" "branch" mQ)
  (dm_Kept_whole:DefM K eO "Kept.whole" "whole" nT)
  (dm_Kept_back:DefM K eO "Kept.back" "back" pX)
  (dm_Kept_again:DefM K eO "Kept.again" "again" nU)
  (dm_Kept_tree_now:DefM K eO "Kept.tree_now" "tree_now" kN)
  (dm_Kept_rooms_now:DefM K eO "Kept.rooms_now" "rooms_now" j6)
  (dm_Kept_lets_now:DefM K eO "Kept.lets_now" "lets_now" kO)
  (dm_Kept_reckoned:DefM K eO "Kept.reckoned" "reckoned" kP)
  (dR:nsIn K mainGlobals "TrunkError"=some (some (.ref bx)))
  (JP:nsIn K mainGlobals "NoTree"=some (some (.ref nD)))
  (xG:nsIn K mainGlobals "NoStatement"=some (some (.ref g9)))
  (jt:nsIn K mainGlobals "NoPlace"=some (some (.ref cH)))
  (Dv:nsIn K mainGlobals "NoNumber"=some (some (.ref j9)))
  (iA:nsIn K mainGlobals "TooGreat"=some (some (.ref cb)))
  (JO:nsIn K mainGlobals "NoName"=some (some (.ref nE)))
  (JX:nsIn K mainGlobals "NoLine"=some (some (.ref nC)))
  (eZ:nsIn K mainGlobals "NothingDone"=some (some (.ref bC)))
  (xD:nsIn K mainGlobals "NothingHeld"=some (some (.ref gZ)))
  (x_TrunkError:excIn K bx qv qD=true)
  (i6:findIn K (.ref bx) "__getattribute__"=some (some (.builtin "BaseException.__getattribute__")))
  (i7:findIn K (.ref bx) "__getattr__"=some none)
  (iZ:findIn K (.ref bx) "__class__"=some (some (.builtin "object.__class__")))
  (w_TrunkError_NoPlace:kitOne K (.ref bx) (.ref cH)=some false)
  (w_TrunkError_NothingDone:kitOne K (.ref bx) (.ref bC)=some false)
  (w_TrunkError_TooGreat:kitOne K (.ref bx) (.ref cb)=some false)
  (w_TrunkError_t0:kitAny K (.ref bx) ([nD,g9,j9,nE,nC,gZ].map Value.ref)=some false)
  (w_TrunkError_VE:kitOne K (.ref bx) (.type "ValueError")=some true)
  (x_NoPlace:excIn K cH qv qD=true)
  (lM:findIn K (.ref cH) "__getattribute__"=some (some (.builtin "BaseException.__getattribute__")))
  (lT:findIn K (.ref cH) "__getattr__"=some none)
  (lS:findIn K (.ref cH) "__class__"=some (some (.builtin "object.__class__")))
  (w_NoPlace_NoPlace:kitOne K (.ref cH) (.ref cH)=some true)
  (w_NoPlace_NothingDone:kitOne K (.ref cH) (.ref bC)=some false)
  (w_NoPlace_TooGreat:kitOne K (.ref cH) (.ref cb)=some false)
  (w_NoPlace_t0:kitAny K (.ref cH) ([nD,g9,j9,nE,nC,gZ].map Value.ref)=some false)
  (w_NoPlace_VE:kitOne K (.ref cH) (.type "ValueError")=some true)
  (x_TooGreat:excIn K cb qv qD=true)
  (kD:findIn K (.ref cb) "__getattribute__"=some (some (.builtin "BaseException.__getattribute__")))
  (kC:findIn K (.ref cb) "__getattr__"=some none)
  (kB:findIn K (.ref cb) "__class__"=some (some (.builtin "object.__class__")))
  (w_TooGreat_NoPlace:kitOne K (.ref cb) (.ref cH)=some false)
  (w_TooGreat_NothingDone:kitOne K (.ref cb) (.ref bC)=some false)
  (w_TooGreat_TooGreat:kitOne K (.ref cb) (.ref cb)=some true)
  (w_TooGreat_t0:kitAny K (.ref cb) ([nD,g9,j9,nE,nC,gZ].map Value.ref)=some false)
  (w_TooGreat_VE:kitOne K (.ref cb) (.type "ValueError")=some true)
  (x_NothingDone:excIn K bC qv qD=true)
  (iz:findIn K (.ref bC) "__getattribute__"=some (some (.builtin "BaseException.__getattribute__")))
  (iw:findIn K (.ref bC) "__getattr__"=some none)
  (iy:findIn K (.ref bC) "__class__"=some (some (.builtin "object.__class__")))
  (w_NothingDone_NoPlace:kitOne K (.ref bC) (.ref cH)=some false)
  (w_NothingDone_NothingDone:kitOne K (.ref bC) (.ref bC)=some true)
  (w_NothingDone_TooGreat:kitOne K (.ref bC) (.ref cb)=some false)
  (w_NothingDone_t0:kitAny K (.ref bC) ([nD,g9,j9,nE,nC,gZ].map Value.ref)=some false)
  (w_NothingDone_VE:kitOne K (.ref bC) (.type "ValueError")=some true)
  (u_TrunkError_TrunkError:(AG K bx).contains (.ref bx)=true)
  (u_NoPlace_TrunkError:(AG K cH).contains (.ref bx)=true)
  (u_TooGreat_TrunkError:(AG K cb).contains (.ref bx)=true)
  (u_NothingDone_TrunkError:(AG K bC).contains (.ref bx)=true)
  (zW:nsIn K mainGlobals "ValueError"=some none)
  (Rz:nsIn K mainGlobals "bool"=some none)
  (BI:nsIn K mainGlobals "enumerate"=some none)
  (U':nsIn K mainGlobals "int"=some none)
  (zR:nsIn K mainGlobals "isinstance"=some none)
  (UW:nsIn K mainGlobals "len"=some none)
  (Rw:nsIn K mainGlobals "list"=some none)
  (U3:nsIn K mainGlobals "max"=some none)
  (U1:nsIn K mainGlobals "min"=some none)
  (L5:nsIn K mainGlobals "range"=some none)
  (UU:nsIn K mainGlobals "set"=some none)
  (JT:nsIn K mainGlobals "sorted"=some none)
  (UP:nsIn K mainGlobals "str"=some none)
  (L3:nsIn K mainGlobals "tuple"=some none)
  (Ve:nsIn K mainGlobals "zip"=some none)
  (xC:nsIn K mainGlobals "MOST_PLACES"=some (some (.int 100 xF))) :
  ∃fd:FuncData,fd.scope.names.lookup ("_law_script":Str)=some .local/\(∀(s:Shared) (v:Value),BindsTo s fd ⟨[v],[]⟩ [("_law_script",v)])/\∀base:Heap,K.In base->base.Ns mainGlobals mg->cJ l.prog w K mg base (gY l.prog w) 43 fa fd IS (ig K mg 1 f_q46):=by
 have e:=Xq.symm.trans (mg_of X G NQ)
 cases e
 obtain⟨_,_,yC,BF⟩:=BG.fn X G
 have F_q46:=yM (st:=su) U7 FM U4
 have m_q46:=mg_of X G NQ
 have B:Bl mg:=⟨mg_none_of X G zW,mg_none_of X G Rz,mg_none_of X G BI,mg_none_of X G U',mg_none_of X G zR,mg_none_of X G UW,mg_none_of X G Rw,mg_none_of X G U3,mg_none_of X G U1,mg_none_of X G L5,mg_none_of X G UU,mg_none_of X G JT,mg_none_of X G UP,mg_none_of X G L3,mg_none_of X G Ve⟩
 have C:Cls K mg:=⟨⟨bx,mg_of X G dR,x_TrunkError⟩,⟨cH,mg_of X G jt,x_NoPlace⟩,⟨cb,mg_of X G iA,x_TooGreat⟩,⟨bC,mg_of X G eZ,x_NothingDone⟩,⟨cH,mg_of X G jt,⟨fun c b hb=>by by_cases e0:c="TrunkError";(· subst e0;rw[show je "TrunkError"=some false from by decide +kernel]at hb;cases hb;exact⟨bx,mg_of X G dR,x_TrunkError,⟨i6,i7,iZ⟩,w_TrunkError_NoPlace⟩);by_cases e1:c="NoPlace";(· subst e1;rw[show je "NoPlace"=some true from by decide +kernel]at hb;cases hb;exact⟨cH,mg_of X G jt,x_NoPlace,⟨lM,lT,lS⟩,w_NoPlace_NoPlace⟩);by_cases e2:c="TooGreat";(· subst e2;rw[show je "TooGreat"=some false from by decide +kernel]at hb;cases hb;exact⟨cb,mg_of X G iA,x_TooGreat,⟨kD,kC,kB⟩,w_TooGreat_NoPlace⟩);by_cases e3:c="NothingDone";(· subst e3;rw[show je "NothingDone"=some false from by decide +kernel]at hb;cases hb;exact⟨bC,mg_of X G eZ,x_NothingDone,⟨iz,iw,iy⟩,w_NothingDone_NoPlace⟩);simp only[je,e0,e1,e2,e3,fL,reduceCtorEq]at hb⟩⟩,⟨bC,mg_of X G eZ,⟨fun c b hb=>by by_cases e0:c="TrunkError";(· subst e0;rw[show fq "TrunkError"=some false from by decide +kernel]at hb;cases hb;exact⟨bx,mg_of X G dR,x_TrunkError,⟨i6,i7,iZ⟩,w_TrunkError_NothingDone⟩);by_cases e1:c="NoPlace";(· subst e1;rw[show fq "NoPlace"=some false from by decide +kernel]at hb;cases hb;exact⟨cH,mg_of X G jt,x_NoPlace,⟨lM,lT,lS⟩,w_NoPlace_NothingDone⟩);by_cases e2:c="TooGreat";(· subst e2;rw[show fq "TooGreat"=some false from by decide +kernel]at hb;cases hb;exact⟨cb,mg_of X G iA,x_TooGreat,⟨kD,kC,kB⟩,w_TooGreat_NothingDone⟩);by_cases e3:c="NothingDone";(· subst e3;rw[show fq "NothingDone"=some true from by decide +kernel]at hb;cases hb;exact⟨bC,mg_of X G eZ,x_NothingDone,⟨iz,iw,iy⟩,w_NothingDone_NothingDone⟩);simp only[fq,e0,e1,e2,e3,fL,reduceCtorEq]at hb⟩⟩,⟨cb,mg_of X G iA,⟨fun c b hb=>by by_cases e0:c="TrunkError";(· subst e0;rw[show ip "TrunkError"=some false from by decide +kernel]at hb;cases hb;exact⟨bx,mg_of X G dR,x_TrunkError,⟨i6,i7,iZ⟩,w_TrunkError_TooGreat⟩);by_cases e1:c="NoPlace";(· subst e1;rw[show ip "NoPlace"=some false from by decide +kernel]at hb;cases hb;exact⟨cH,mg_of X G jt,x_NoPlace,⟨lM,lT,lS⟩,w_NoPlace_TooGreat⟩);by_cases e2:c="TooGreat";(· subst e2;rw[show ip "TooGreat"=some true from by decide +kernel]at hb;cases hb;exact⟨cb,mg_of X G iA,x_TooGreat,⟨kD,kC,kB⟩,w_TooGreat_TooGreat⟩);by_cases e3:c="NothingDone";(· subst e3;rw[show ip "NothingDone"=some false from by decide +kernel]at hb;cases hb;exact⟨bC,mg_of X G eZ,x_NothingDone,⟨iz,iw,iy⟩,w_NothingDone_TooGreat⟩);simp only[ip,e0,e1,e2,e3,fL,reduceCtorEq]at hb⟩⟩,⟨nD,g9,j9,nE,nC,gZ,mg_of X G JP,mg_of X G xG,mg_of X G Dv,mg_of X G JO,mg_of X G JX,mg_of X G xD,⟨fun c b hb=>by by_cases e0:c="TrunkError";(· subst e0;rw[show wl "TrunkError"=some false from by decide +kernel]at hb;cases hb;exact⟨bx,mg_of X G dR,x_TrunkError,⟨i6,i7,iZ⟩,w_TrunkError_t0⟩);by_cases e1:c="NoPlace";(· subst e1;rw[show wl "NoPlace"=some false from by decide +kernel]at hb;cases hb;exact⟨cH,mg_of X G jt,x_NoPlace,⟨lM,lT,lS⟩,w_NoPlace_t0⟩);by_cases e2:c="TooGreat";(· subst e2;rw[show wl "TooGreat"=some false from by decide +kernel]at hb;cases hb;exact⟨cb,mg_of X G iA,x_TooGreat,⟨kD,kC,kB⟩,w_TooGreat_t0⟩);by_cases e3:c="NothingDone";(· subst e3;rw[show wl "NothingDone"=some false from by decide +kernel]at hb;cases hb;exact⟨bC,mg_of X G eZ,x_NothingDone,⟨iz,iw,iy⟩,w_NothingDone_t0⟩);simp only[wl,e0,e1,e2,e3,fL,reduceCtorEq]at hb⟩⟩,⟨fun c b hb=>by by_cases e0:c="TrunkError";(· subst e0;rw[show fQ "TrunkError"=some true from by decide +kernel]at hb;cases hb;exact⟨bx,mg_of X G dR,x_TrunkError,⟨i6,i7,iZ⟩,w_TrunkError_VE⟩);by_cases e1:c="NoPlace";(· subst e1;rw[show fQ "NoPlace"=some true from by decide +kernel]at hb;cases hb;exact⟨cH,mg_of X G jt,x_NoPlace,⟨lM,lT,lS⟩,w_NoPlace_VE⟩);by_cases e2:c="TooGreat";(· subst e2;rw[show fQ "TooGreat"=some true from by decide +kernel]at hb;cases hb;exact⟨cb,mg_of X G iA,x_TooGreat,⟨kD,kC,kB⟩,w_TooGreat_VE⟩);by_cases e3:c="NothingDone";(· subst e3;rw[show fQ "NothingDone"=some true from by decide +kernel]at hb;cases hb;exact⟨bC,mg_of X G eZ,x_NothingDone,⟨iz,iw,iy⟩,w_NothingDone_VE⟩);simp only[fQ,e0,e1,e2,e3,fL,reduceCtorEq]at hb⟩,⟨fun c hc=>by simp only[aN,dI,kJ]at hc;rcases hc with rfl|rfl|rfl|rfl;(· exact⟨bx,bx,mg_of X G dR,mg_of X G dR,x_TrunkError,x_TrunkError,u_TrunkError_TrunkError⟩);(· exact⟨cH,bx,mg_of X G jt,mg_of X G dR,x_NoPlace,x_TrunkError,u_NoPlace_TrunkError⟩);(· exact⟨cb,bx,mg_of X G iA,mg_of X G dR,x_TooGreat,x_TrunkError,u_TooGreat_TrunkError⟩);(· exact⟨bC,bx,mg_of X G eZ,mg_of X G dR,x_NothingDone,x_TrunkError,u_NothingDone_TrunkError⟩)⟩⟩
 have O:Ow K mg:=⟨⟨eO,mg_of X G jh,cl_Kept,fun f hf=>by simp only[aN,dI,kJ]at hf;rcases hf with rfl|rfl|rfl|rfl|rfl|rfl;(· exact vb);(· exact zX);(· exact xw);(· exact ur);(· exact rC);(· exact zT)⟩⟩
 have Gg:Gc K mg:=⟨⟨_,.int 100,mg_of X G xC,⟨_,rfl⟩,fun μ H=>.int⟩⟩
 refine⟨fnOf "law" "law" (iD su) (gA su) (aK su) .none JQ JV J0 JW Dn J1,rfl,fun s v=>.of_eq rfl,fun base _ _=>?_⟩
 have qd:=@PX l.prog w K mg base
 have Va:=qd Dj X G fun F=>T5 F B  
 have U5:=qd BO X G fun F=>T7 F   
 have U8:=qd Dt X G fun F=>T9 F   
 have L1:=qd Bz X G fun F=>T_ F   
 have BC:=qd Dx X G fun F=>Ua F B  U8 L1
 have Vf:=qd JR X G fun F=>Ub F B  BC
 have UQ:=qd FL X G fun F=>Uc F   
 have L8:=qd Dq X G fun F=>Ue F B  BC
 have Dk:=qd xE X G fun F=>Uf F B C  
 have U6:=qd zL X G fun F=>Ug F Gg C  
 have N6:=qd FJ X G fun F=>Ql F   Dk L8
 have Ez:=qd xr X G fun F=>Qm F B  L1 N6 L8
 have NK:=qd Dl X G fun F=>Qn F B  
 have NV:=qd zV X G fun F=>Qo F B  Ez U6 NK
 have N5:=qd zS X G fun F=>Qp F   
 have Et:=qd FK X G fun F=>Qq F   U5 N5
 have yy:=qd Dm X G fun F=>Qr F B  BC Et
 have J2:=qd JY X G fun F=>Qs F   
 have NW:=qd zP X G fun F=>Qt F   
 have NJ:=qd wN X G fun F=>Qu F B  Ez yy
 have NI:=qd FH X G fun F=>Qw F B  BC Et UQ Vf
 have oQ:Lq l.prog w K mg base 4 "Kept" 3 gM:=P2 dm_Kept___init__ (mg_of X G jh) L7 L6 (fun F=>t7 F B O yy)
 have dG:hJ l.prog w K mg base 7 "Kept" "carry_out" 2 dq:=jW dm_Kept_carry_out (mg_of X G jh) cl_Kept (fun F=>sw F B O NJ NI yy)
 have gf:hJ l.prog w K mg base 8 "Kept" "do_deed" 2 dP:=jW dm_Kept_do_deed (mg_of X G jh) cl_Kept (fun F=>u5 F O dG)
 have gg:hJ l.prog w K mg base 9 "Kept" "mark_deed" 3 eh:=jW dm_Kept_mark_deed (mg_of X G jh) cl_Kept (fun F=>sy F O gf NW)
 have wP:hJ l.prog w K mg base 10 "Kept" "put" 3 jf:=jW dm_Kept_put (mg_of X G jh) cl_Kept (fun F=>A' F O gg Dk Va)
 have uQ:hJ l.prog w K mg base 10 "Kept" "take" 3 iq:=jW dm_Kept_take (mg_of X G jh) cl_Kept (fun F=>zt F O gg Dk)
 have qS:hJ l.prog w K mg base 9 "Kept" "branch" 4 fR:=jW dm_Kept_branch (mg_of X G jh) cl_Kept (fun F=>wt F B O gf NV)
 have sQ:hJ l.prog w K mg base 9 "Kept" "whole" 2 iG:=jW dm_Kept_whole (mg_of X G jh) cl_Kept (fun F=>xo F O gf)
 have uS:hJ l.prog w K mg base 8 "Kept" "back" 1 iu:=jW dm_Kept_back (mg_of X G jh) cl_Kept (fun F=>zv F B C O dG J2)
 have sP:hJ l.prog w K mg base 8 "Kept" "again" 1 gD:=jW dm_Kept_again (mg_of X G jh) cl_Kept (fun F=>xp F B C O dG)
 have oP:hJ l.prog w K mg base 1 "Kept" "tree_now" 1 gN:=jW dm_Kept_tree_now (mg_of X G jh) cl_Kept (fun F=>t9 F O)
 have nF:hJ l.prog w K mg base 1 "Kept" "rooms_now" 1 gc:=jW dm_Kept_rooms_now (mg_of X G jh) cl_Kept (fun F=>sA F O)
 have oR:hJ l.prog w K mg base 1 "Kept" "lets_now" 1 gO:=jW dm_Kept_lets_now (mg_of X G jh) cl_Kept (fun F=>uc F B O)
 have oO:hJ l.prog w K mg base 1 "Kept" "reckoned" 1 fF:=jW dm_Kept_reckoned (mg_of X G jh) cl_Kept (fun F=>ud F O)
 have yz:=qd BK X G fun F=>Qx F B  
 have NO:=qd zO X G fun F=>Qy F   
 have uR:=qd zN X G fun F=>Qz F B  NO
 have Bw:=D' (P:=l.prog) (w:=w) (base:=base) yC BF B  40
 have NP:=qd BH X G fun F=>QB F B  uR
 have NG:=qd zH X G fun F=>QC F B  
 have EB:=qd By X G fun F=>QD F B  NG
 have NX:=qd zQ X G fun F=>QF F B  
 have NS:=qd wM X G fun F=>QH F B  
 have NH:=qd xA X G fun F=>QJ F B  
 have Ex:=qd Dp X G fun F=>QK F   NH
 have N4:=qd BN X G fun F=>QL F B  Ex
 have N3:=qd zI X G fun F=>QM F   
 have yr:=qd xy X G fun F=>QN F   NX N3
 have Ev:=qd u_ X G fun F=>QO F B  yr
 have N2:=qd zJ X G fun F=>QP F B  yz uR NS NP EB
 have NN:=qd wK X G fun F=>QQ F B  yz uR EB
 have NT:=qd wL X G fun F=>QR F B  Ev
 have JU:=qd zU X G fun F=>QT F   sP uS qS wP uQ sQ
 have yw:=qd xB X G fun F=>QU F B  oR nF oP N4 Ex Bw
 have yB:=qd wJ X G fun F=>QV F B C  JU
 have Ew:=qd xu X G fun F=>QW F B  
 have NU:=qd Dw X G fun F=>QX F B  yr yz uR Ew
 have N1:=qd zK X G fun F=>QY F   oO yB Bw yw
 have NE:=qd um X G fun F=>QZ F B  yr Ev yB Ew yw
 exact Q0 F_q46 B  oQ NU NT NE NN yB yw N2 N1
end P
end
namespace PySem.W.Fast
def tw4483769889745293663:=tv0
def tw6709009307286148188:=tv0
def tw3394065279423588314:=tv0
def tw17362796606201158522:=tv0
def tw12663816279849171063:=tv0
def tw1638270834239951638:=tv0
def tw2682085434615062677:=tv0
def tw15605951130325974132:=tv0
def tw7898107261424092212:=tv0
def tw12376874584295604211:=tv0
def tw13536672017696232435:=tv0
def tw1995203012811736627:=tv0
def tw9678933120081636371:=tv0
def tw2278729840614656114:=tv0
def tw627056917903922096:=tv0
def tw16520880944355517264:=tv0
def tw14699622002876093968:=tv0
def tw5474318007493432624:=tv0
def tw5560615266811084559:=tv0
def tw12989538866543571470:=tv0
def tw4854842587753420045:=tv0
def tw354306827755132875:=tv0
def tw10397178422736048811:=tv0
def tw3109096697911533163:=tv0
def tw12450714358726853386:=tv0
def tw12386357367923917322:=tv0
def tw17022658315721575626:=tv0
def tw16602530715149578185:=tv0
def tw13444896180877193065:=tv0
def tw3972220189879515209:=tv0
def tw9183540455068930760:=tv0
def tw9693086423427387496:=tv0
def tw2756921657451780069:=tv0
def tw11288870742386302181:=tv0
def tw9388184334693870788:=tv0
def tw16251267718129647331:=tv0
def tw4778719338236579906:=tv0
def tw9694005588281385281:=tv0
def tw16354803358128852118:=tv0
def tw3151205898209611975:=tv0
def tw2276620589170373298:=tv0
def tw11622891289286679909:=tv0
def tw7000787618762441870:=tv0
def tw7715471901061970533:=tv0
def tw15335828035155575205:=tv0
def tw5161103002304841800:=tv0
def tw12103001807330855404:=tv0
def tw13739874020471704789:=tv0
def tw11377799364160647229:=tv0
def tw15724573387319557321:=tv0
def tw17595526707791735268:=tv0
def tw950288686746579542:=tv0
def tw13874524352610326301:=tv0
def tw6743998850061568562:=tv0
def tw10731863359706144029:=tv0
def tw9024391211698736437:=tv0
def tw7843038408683636321:=tv0
def tw16941708415083734578:=tv0
def tw18281506064393213367:=tv0
def tw14833233576002342474:=tv0
def tw16745852280384843246:=tv0
def tw3134446272044600702:=tv0
def tw16856108902042583633:=tv0
def tw3115846241852191918:=tv0
def tw5995315079731685964:=tv0
def tw16526774606356803399:=tv0
def tw8268156265067272743:=tv0
def tw3165863474258382986:=tv0
def tw17584682358457924707:=tv0
def tw1549331905309158323:=tv0
def tw2456932281262864824:=tv0
def tw7845171439873232628:=tv0
def tw2325930382942598914:=tv0
def tw11709396297812433592:=tv0
def tw11431111644183657635:=tv0
def tw1573771934205661310:=tv0
def tw16068739952100224570:=tv0
def tw15880623623629801601:=tv0
def tw6295867287523115029:=tv0
def tw2036209514525855848:=tv0
def tw7644983474778461385:=tv0
def tw6607901554188813508:=tv0
def tw5282290287365242843:=tv0
def tw7434054059404118115:=tv0
def tw2789055480967660869:=tv0
def tw14274108449073431932:=tv0
def tw6945736320058076872:=tv0
def tw11626824320595119509:=tv0
def tw1112353122475947809:=tv0
def tw7373063315527575117:=tv0
def tw16212893729024082546:=tv0
def tw16613670440069057184:=tv0
def tw7637480772627488507:=tv0
def tw17672628116689642274:=tv0
def tw17916736359757910867:=tv0
def tw16279402121960521132:=tv0
def tw18412252895387998430:=tv0
def tw1996606443770810954:=tv0
def tw10242821667209169306:=tv0
def tw17719189650454753021:=tv0
def tw16407222182198739923:=tv0
def tw8212563147284986161:=tv0
def tw8649257179046484785:=tv0
def tw9310408020203497168:=tv0
def tw10192092483626516263:=tv0
def tw1717523993928530227:=tv0
def tw15287836714460080472:=tv0
def tw2281050989160073750:=tv0
def tw15944929035441789600:=tv0
def tw4213076970543707537:=tv0
def tw4239921092508110208:=tv0
def tw13002588245877933325:=tv0
def tw50230104651744711:=tv0
def tw6964369039229786981:=tv0
def tw2517088992490104827:=tv0
def tw5455039652461791190:=tv0
def tw3701404895277754976:=tv0
def tw14780085456473185794:=tv0
def tw10033254087181052246:=tv0
def tw18103247208970128191:=tv0
def tw17890369767295522356:=tv0
def tw6575578717156029536:=tv0
def tw4923714477119827596:=tv0
def tw8548851839114064690:=tv0
def tw1231469790752817260:=tv0
def tw10977991737953608942:=tv0
def tw7679501970823084158:=tv0
def tw14160051142807461420:=tv0
def tw16982050633228990573:=tv0
def tw7012191478907068805:=tv0
def tw11362204695842889138:=tv0
def tw14512490862698235998:=tv0
def tw8787243658419670798:=tv0
def tw4424597499093191642:=tv0
def tw17466131734498870475:=tv0
def tw17459765356554835109:=tv0
def tw4164505917371108771:=tv0
def tw15004630282104209542:=tv0
def tw13437284124784210381:=tv0
def tw10669229139120233335:=tv0
def tw15525600762749072202:=tv0
def tw16050605097602370195:=tv0
def tw16598590098548308584:=tv0
def tw16269571511381622847:=tv0
def tw5989352990172617600:=tv0
def tw16024397022260360944:=tv0
def tw16910104052754882246:=tv0
def tw5986678517107672587:=tv0
def tw16710920940399185159:=tv0
def tw13167369992864141671:=tv0
def tw12895734915157083125:=tv0
def tw16784224670691046000:=tv0
def tw6655713560910044309:=tv0
def tw2005652136571222794:=tv0
def tw1514867612497595075:=tv0
def tw6674354543535857032:=tv0
def tw8985526217623656559:=tv0
def tw9051114348285056604:=tv0
def tw366357112077005516:=tv0
def tw16355218530214198945:=tv0
def tw15263402297517661592:=tv0
def tw8094959826091510334:=tv0
def tw4175508504390928679:=tv0
def tw4688884072985516271:=tv0
def tw14652709833449801858:=tv0
def tw6540466015045409428:=tv0
def tw286834016540090687:=tv0
def tw7655118834462789335:=tv0
def tw13165618274433392153:=tv0
def tw2387021279317059345:=tv0
def tw7804954746368014615:=tv0
def tw6744328913716859702:=tv0
def tw2856737758045523609:=tv0
def tw16245316967924028309:=tv0
def tw17770559758379977959:=tv0
def tw9750197647702772865:=tv0
def tw16560287060525339430:=tv0
def tw560202322163572708:=tv0
def tw14818508190814768175:=tv0
def tw3803895500408065994:=tv0
def tw15138243062280139105:=tv0
def tw1665114794828305629:=tv0
def tw9057554435123999884:=tv0
def tw15401607691713998420:=tv0
def tw1508991392405626248:=tv0
def tw11616674402722190804:=tv0
def tw12747175614278699909:=tv0
def tw16162635853185218729:=tv0
def tw7626132044089865113:=tv0
def tw16761877231973653601:=tv0
def tw11117110395859850867:=tv0
def tw5702913709965999818:=tv0
def tw9313078820344091098:=tv0
def tw16605310497236087128:=tv0
def tw16355728934962826465:=tv0
def tw2830873531246069775:=tv0
def tw5107690852453550546:=tv0
def tw6852513604441795776:=tv0
def tw12051925708511286468:=tv0
def tw9125577100225387351:=tv0
def tw13507513193269541141:=tv0
def tw1497189982583727430:=tv0
def tw13637884549938477580:=tv0
def tw11895656079671013169:=tv0
def tw16624757040811636955:=tv0
def tw17488169803616645407:=tv0
def tw5840593416671598517:=tv0
def tw17931508080166684771:=tv0
def tw17027331046965559887:=tv0
def tw14124615203961197046:=tv0
def tw11559622430438146605:=tv0
def tw12463451283081865036:=tv0
def tw294575142780287100:=tv0
def tw5364878059856182625:=tv0
def tw3348367638898632650:=tv0
def tw3250937341059258464:=tv0
def tw3360929050218096131:=tv0
def tw17908715360201116182:=tv0
def tw8573619117942264944:=tv0
def tw14660378348284637449:=tv0
def tw17464198025633062257:=tv0
def tw8761362945565783459:=tv0
def tw7032737319477662564:=tv0
def tw6280167264723552097:=tv0
def tw526501304285768583:=tv0
def tw3595122252085111792:=tv0
def tw18112336806380878535:=tv0
def tw17143739336075963824:=tv0
def tw6122474368842627198:=tv0
def tw15719860845792105849:=tv0
def tw17431508489592213344:=tv0
def tw5963187216883792042:=tv0
def tw3201431902905510102:=tv0
def tw12520320687200090968:=tv0
def tw11762045149282543030:=tv0
def tw10382937524247077252:=tv0
def tw12790785647456954608:=tv0
def tw2345808320714230848:=tv0
def tw10691009987237712981:=tv0
def tw15774527455101701284:=tv0
def tw5646305600553226034:=tv0
def tw14843723861276738781:=tv0
def tw9926078190794600839:=tv0
def tw3438075202287163842:=tv0
def tw16971036690115164618:=tv0
def tw7261815282634351038:=tv0
def tw13008290089470915502:=tv0
def tw12577840870777212773:=tv0
def tw7074735766462627710:=tv0
def tw11177784749637856963:=tv0
def tw4963363063554247840:=tv0
def tw16582314876377214542:=tv0
def tw15316837055462342770:=tv0
def tw5364530062895017562:=tv0
def tw15642944316882204174:=tv0
def tw4154213263202210349:=tv0
def tw10270876906228206379:=tv0
def tw17681786710557484435:=tv0
def tw2937825323062943408:=tv0
def tw581785373125478996:=tv0
def tw10249500310257921246:=tv0
def tw1332425119892968555:=tv0
def tw8527043214044279801:=tv0
def tw12875904388840200977:=tv0
def tw10482158638249755535:=tv0
def tw1002969962208870873:=tv0
def tw14878294068347246337:=tv0
def tw13219000489428585023:=tv0
def tw2253375907582038872:=tv0
def tw2441698648031484918:=tv0
def tw15602303499862553625:=tv0
def tw17990643851874738730:=tv0
def tw11208377312048638678:=tv0
def tw7065870039972198349:=tv0
def tw11069756821677472987:=tv0
def tw1652050291150862726:=tv0
def tw14184471552292219498:=tv0
def tw6413458471893113077:=tv0
def tw1842952768810108792:=tv0
def tw11990469051761877567:=tv0
def tw5740980118612659999:=tv0
def tw15246993111935761825:=tv0
def tw12872309227041467504:=tv0
def tw18366367596623210904:=tv0
def tw15156175832028342775:=tv0
def tw5383410283979973651:=tv0
def tw13527798374786462386:=tv0
def tw2815217021785718989:=tv0
def tw10667457478600187784:=tv0
def tw2607485171695426093:=tv0
def tw11576035534237722928:=tv0
def tw7550313349190752967:=tv0
def tw7255412477812866969:=tv0
def tw4204182924871007088:=tv0
def tw15108962840110731092:=tv0
def tw6443230378953216070:=tv0
def tw7845655281644274627:=tv0
def tw17767085025097045248:=tv0
def tw9044082809879381324:=tv0
def tw7006187243148700578:=tv0
def tw6758816167790536419:=tv0
def tw17290624503753329267:=tv0
def tw16522095930000989037:=tv0
def tw10744774319810772930:=tv0
def tw16369872312522114016:=tv0
def tw945370587970421381:=tv0
def tw9279758274115238597:=tv0
def tw8268665848015062196:=tv0
def tw6879055140134495669:=tv0
def tw5770101350302805615:=tv0
end PySem.W.Fast
open PySem PySem.W PyProof.Rows
set_option maxRecDepth 100000 in
set_option maxHeartbeats 0 in
theorem PySem.Challenge.cw_trunksay_k68_changes_refused_holds : PySem.Challenge.rw_trunksay_k68_changes_refused.Holds := by
 w_on; o_law; k_head; (case hw => w_witness2)
 k_fill
 refine L2.walkW (l := PySem.Challenge.rw_trunksay_k68_changes_refused) (k := 43) (x := "_law_script") (G := P.f_q46) rfl rfl ⟨rfl, by decide, by decide⟩ (fun w h Y => PySem.W.kIn_of Y) ?F P.law_ok
 case F =>
  intro w mg fa h KX G hmg
  refine' P.all_mk KX G hmg ?_ ?_ ?_ ?_ ?_ ?_ ?_ ?_ ?_ ?_ ?_ ?_ ?_ ?_ ?_ ?_ ?_ ?_ ?_ ?_ ?_ ?_ ?_ ?_ ?_ ?_ ?_ ?_ ?_ ?_ ?_ ?_ ?_ ?_ ?_ ?_ ?_ ?_ ?_ ?_ ?_ ?_ ?_ ?_ ?_ ?_ ?_ ?_ ?_ ?_ ?_ ?cl_Kept ?_ ?_ ?_ ?_ ?_ ?_ ?_ ?_ ?dm_Kept___init__ ?dm_Kept_carry_out ?dm_Kept_do_deed ?dm_Kept_mark_deed ?dm_Kept_put ?dm_Kept_take ?dm_Kept_branch ?dm_Kept_whole ?dm_Kept_back ?dm_Kept_again ?dm_Kept_tree_now ?dm_Kept_rooms_now ?dm_Kept_lets_now ?dm_Kept_reckoned ?_ ?_ ?_ ?_ ?_ ?_ ?_ ?_ ?_ ?_ ?x_TrunkError ?_ ?_ ?_ ?w_TrunkError_NoPlace ?w_TrunkError_NothingDone ?w_TrunkError_TooGreat ?w_TrunkError_t0 ?w_TrunkError_VE ?x_NoPlace ?_ ?_ ?_ ?w_NoPlace_NoPlace ?w_NoPlace_NothingDone ?w_NoPlace_TooGreat ?w_NoPlace_t0 ?w_NoPlace_VE ?x_TooGreat ?_ ?_ ?_ ?w_TooGreat_NoPlace ?w_TooGreat_NothingDone ?w_TooGreat_TooGreat ?w_TooGreat_t0 ?w_TooGreat_VE ?x_NothingDone ?_ ?_ ?_ ?w_NothingDone_NoPlace ?w_NothingDone_NothingDone ?w_NothingDone_TooGreat ?w_NothingDone_t0 ?w_NothingDone_VE ?u_TrunkError_TrunkError ?u_NoPlace_TrunkError ?u_TooGreat_TrunkError ?u_NothingDone_TrunkError ?_ ?_ ?_ ?_ ?_ ?_ ?_ ?_ ?_ ?_ ?_ ?_ ?_ ?_ ?_ ?_
  any_goals (refine' L2.DefIn.mk ?a ?l ?c ?k; (case a => k_is); (case l => k_is); (case c => k_is); (case k => k_is))
  any_goals k_is
  (case cl_Kept => exact ⟨by kernel_rfl, by kernel_rfl, by kernel_rfl, by first | k_is | kernel_rfl⟩)
  (case dm_Kept___init__ => (refine' L2.DefM.mk ?a ?i ?l ?c ?k; (case a => k_is); (case i => first | k_is | kernel_rfl); (case l => k_is); (case c => k_is); (case k => k_is)))
  (case dm_Kept_carry_out => (refine' L2.DefM.mk ?a ?i ?l ?c ?k; (case a => k_is); (case i => first | k_is | kernel_rfl); (case l => k_is); (case c => k_is); (case k => k_is)))
  (case dm_Kept_do_deed => (refine' L2.DefM.mk ?a ?i ?l ?c ?k; (case a => k_is); (case i => first | k_is | kernel_rfl); (case l => k_is); (case c => k_is); (case k => k_is)))
  (case dm_Kept_mark_deed => (refine' L2.DefM.mk ?a ?i ?l ?c ?k; (case a => k_is); (case i => first | k_is | kernel_rfl); (case l => k_is); (case c => k_is); (case k => k_is)))
  (case dm_Kept_put => (refine' L2.DefM.mk ?a ?i ?l ?c ?k; (case a => k_is); (case i => first | k_is | kernel_rfl); (case l => k_is); (case c => k_is); (case k => k_is)))
  (case dm_Kept_take => (refine' L2.DefM.mk ?a ?i ?l ?c ?k; (case a => k_is); (case i => first | k_is | kernel_rfl); (case l => k_is); (case c => k_is); (case k => k_is)))
  (case dm_Kept_branch => (refine' L2.DefM.mk ?a ?i ?l ?c ?k; (case a => k_is); (case i => first | k_is | kernel_rfl); (case l => k_is); (case c => k_is); (case k => k_is)))
  (case dm_Kept_whole => (refine' L2.DefM.mk ?a ?i ?l ?c ?k; (case a => k_is); (case i => first | k_is | kernel_rfl); (case l => k_is); (case c => k_is); (case k => k_is)))
  (case dm_Kept_back => (refine' L2.DefM.mk ?a ?i ?l ?c ?k; (case a => k_is); (case i => first | k_is | kernel_rfl); (case l => k_is); (case c => k_is); (case k => k_is)))
  (case dm_Kept_again => (refine' L2.DefM.mk ?a ?i ?l ?c ?k; (case a => k_is); (case i => first | k_is | kernel_rfl); (case l => k_is); (case c => k_is); (case k => k_is)))
  (case dm_Kept_tree_now => (refine' L2.DefM.mk ?a ?i ?l ?c ?k; (case a => k_is); (case i => first | k_is | kernel_rfl); (case l => k_is); (case c => k_is); (case k => k_is)))
  (case dm_Kept_rooms_now => (refine' L2.DefM.mk ?a ?i ?l ?c ?k; (case a => k_is); (case i => first | k_is | kernel_rfl); (case l => k_is); (case c => k_is); (case k => k_is)))
  (case dm_Kept_lets_now => (refine' L2.DefM.mk ?a ?i ?l ?c ?k; (case a => k_is); (case i => first | k_is | kernel_rfl); (case l => k_is); (case c => k_is); (case k => k_is)))
  (case dm_Kept_reckoned => (refine' L2.DefM.mk ?a ?i ?l ?c ?k; (case a => k_is); (case i => first | k_is | kernel_rfl); (case l => k_is); (case c => k_is); (case k => k_is)))
  (case x_TrunkError => k_exc)
  (case w_TrunkError_NoPlace => kernel_rfl)
  (case w_TrunkError_NothingDone => kernel_rfl)
  (case w_TrunkError_TooGreat => kernel_rfl)
  (case w_TrunkError_t0 => kernel_rfl)
  (case w_TrunkError_VE => kernel_rfl)
  (case x_NoPlace => k_exc)
  (case w_NoPlace_NoPlace => kernel_rfl)
  (case w_NoPlace_NothingDone => kernel_rfl)
  (case w_NoPlace_TooGreat => kernel_rfl)
  (case w_NoPlace_t0 => kernel_rfl)
  (case w_NoPlace_VE => kernel_rfl)
  (case x_TooGreat => k_exc)
  (case w_TooGreat_NoPlace => kernel_rfl)
  (case w_TooGreat_NothingDone => kernel_rfl)
  (case w_TooGreat_TooGreat => kernel_rfl)
  (case w_TooGreat_t0 => kernel_rfl)
  (case w_TooGreat_VE => kernel_rfl)
  (case x_NothingDone => k_exc)
  (case w_NothingDone_NoPlace => kernel_rfl)
  (case w_NothingDone_NothingDone => kernel_rfl)
  (case w_NothingDone_TooGreat => kernel_rfl)
  (case w_NothingDone_t0 => kernel_rfl)
  (case w_NothingDone_VE => kernel_rfl)
  (case u_TrunkError_TrunkError => kernel_rfl)
  (case u_NoPlace_TrunkError => kernel_rfl)
  (case u_TooGreat_TrunkError => kernel_rfl)
  (case u_NothingDone_TrunkError => kernel_rfl)
