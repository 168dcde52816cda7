import PyProof.Rows.All
import Wide.All
import OpenK.AllK
import Wide.FinOn
import Lean
import PyProof.EqAt
import PyProof.EqKinds
import PyProof.TupleCall
import PyProof.StrLawsIn
import PyProof.StationsW
import PyProof.NeData
import OpenK.KOwn
import PyProof.NsDelKeeps
import PyProof.ExcArgsOwn
import PyProof.ExcAttrAll.ValueError
import PyProof.IsiH_tuple
import KE.KIsAll
import PyProof.CollectStr
import PyProof.ZipIter
import PyProof.Rows.ZipGen
import PyProof.JoinWalk
import PyProof.CollectIter
import PyProof.EnumMake
import PyProof.SumAny
import PyProof.MeetsSeq3
import PyProof.ListRange
import PyProof.ListNew
import PyProof.DictUpdate
import PyProof.FitsBits
import PyProof.StrCalls6
import PySem.Challenge.RW_trunksay_k68_changes_refused
set_option Elab.async false
set_option linter.all false
set_option maxRecDepth 100000
set_option hygiene false
local macro_rules|`(tactic|walk_at "1")=>`(tactic|refine⟨μ,ρ,st,l,RK.bind h l fun μ1 st1 x v H1 p1 x1 l1 q1 h1=>?_⟩)
local macro_rules|`(tactic|walk_at "2")=>`(tactic|obtain⟨μ,ρ,st,l,h⟩:=h)
local macro_rules|`(tactic|walk_at "3")=>`(tactic|intro X hP hw hK hc i am s σ H E I hf st hg)
local macro_rules|`(tactic|walk_at "4")=>`(tactic|obtain⟨f0,f1,f2,f3,f4,f5⟩:=hf it (by simp))
local macro_rules|`(tactic|walk_at "5")=>`(tactic|refine ag (iE (ce (name:=Str.ofString "__next__") T fx (cv fx T nD ?_ (nE _)))))
local macro_rules|`(tactic|walk_at "6")=>`(tactic|have T:Shared.TypeIs s (.ref it) "set_iterator":=⟨_,rC,rfl⟩)
local macro_rules|`(tactic|walk_at "7")=>`(tactic|intro am s σ H x y v u Q I rx ry h)
local macro_rules|`(tactic|walk_at "8")=>`(tactic|exact⟨_,_,rfl,rfl,rfl⟩)
local macro_rules|`(tactic|walk_at "9")=>`(tactic|intro am s σ H Q I h)
local macro_rules|`(tactic|walk_at "10")=>`(tactic|obtain⟨μ,st,wx,wy,S,rx,ry,q⟩:=zq)
local macro_rules|`(tactic|walk_at "11")=>`(tactic|intro am s σ H xs us Q I r h)
local macro_rules|`(tactic|walk_at "12")=>`(tactic|obtain⟨x,H1,I1,r1,q1⟩:=zq)
local macro_rules|`(#[0])=>`(by omega)
local macro_rules|`(#[1])=>`(ba C (.nd l r m))
local macro_rules|`(#[2])=>`(fH X nm scope (cellsFrom (G2.objs.size+1) scope.names []++cl) G2.objs.size s2 H1 fp)
local macro_rules|`(#[3])=>`(by decide)
local macro_rules|`(#[4])=>`(.loc st.length)
local macro_rules|`(#[5])=>`(model X.prog X.w)
local macro_rules|`(#[6])=>`(bZ (aR (bq kx bu (c6 rfl))) du)
local macro_rules|`(#[7])=>`(model prog w)
local macro_rules|`(#[8])=>`(s.heap.objs.size+1)
local macro_rules|`(#[9])=>`(Option Nat×Option Nat)
local macro_rules|`(#[10])=>`(eD X nm scope cl C s0 H0 fp)
local macro_rules|`(#[11])=>`(.ListComp tt [⟨tg,eP,oY,0⟩] scope pos)
local macro_rules|`(#[12])=>`(.nd (if s then x else l) (if s then r else x) m)
local macro_rules|`(#[13])=>`(ws.map some++List.replicate (N-ws.length) none)
local macro_rules|`(#[14])=>`((relabel scope X.env).names.lookup x=some .cell\/(relabel scope X.env).names.lookup x=some .free)
local macro_rules|`(#[15])=>`(by simp)
local macro_rules|`(#[16])=>`(st++[.lst (dg (sz.take i))])
local macro_rules|`(#[17])=>`(gE O.Kept (ae 0))
local macro_rules|`(#[18])=>`(fK (BK (dO (b_ 5 yg (af (ah 4) (af (ah 1) (af (ah 2) (af (b_ 5 yf (af (ah 0) (af (ah 7) (af (ah 2) (af (ah 5) (af (ah 6) aA)))))) (af (ah 7) aA)))))))) (cM (eC (.bl false))) bW)
local macro_rules|`(#[19])=>`((e::es).length+([]:List Keyword).length+(if ([]:List Keyword).isEmpty then 0 else 1)<30)
local macro_rules|`(#[20])=>`(af (ah 2) aA)
local macro_rules|`(#[21])=>`((z.set Q (.lst (tk.reverse.map (fun d=>bF d.b.po)++[bF d.b.po]))).set P (.lst (sd.reverse.map fun d=>bF d.a.po)))
local macro_rules|`(#[22])=>`((z.set P (.lst (sd.reverse.map (fun d=>bF d.a.po)++[bF d.a.po]))).set Q (.lst (tk.reverse.map fun d=>bF d.b.po)))
local macro_rules|`(#[23])=>`(bp (ae 1) aB)
local macro_rules|`(#[24])=>`(excClassObj nm q C N bs bm hdct sn sub ab col dd k0 k1 k2 k3 k5 rq)
local macro_rules|`(#[25])=>`(af (dC (af (eC (.str [98,114,97,110,99,104])) (af (ah 13) (af (ah 11) (af (b_ 1 sE (af (e2 cN (e2 g9 (eI 101) (ah 8)) (ah 16)) aA)) aA))))) (af (ah 6) aA))
local macro_rules|`(#[26])=>`(fK (GJ (dO (hU (b_ 2 nL (af (ah 4) (af (ah 8) aA))))) (BK (dO (b_ 4 q_ (af (ah 4) (af (ah 1) (af (ah 2) (af (ah 7) aA)))))))) (cM (eC (.bl false))) bW)
local macro_rules|`(#[27])=>`(z.set P (.lst (sd.reverse.map (fun d=>bF d.a.po)++[bF t.po])))
local macro_rules|`(#[28])=>`(.ref s.heap.objs.size)
local macro_rules|`(#[29])=>`(.builtin "object.__class__")
local macro_rules|`(#[30])=>`(af (ah 1) aA)
local macro_rules|`(#[31])=>`(.obj "Kept" (kF M d.b (d.ct M) a b))
local macro_rules|`(#[32])=>`(dH kv hz.ob rfl)
local macro_rules|`(#[33])=>`(ns.map W.int)
local macro_rules|`(#[34])=>`(some (.builtin "BaseException.__getattribute__"))
local macro_rules|`(#[35])=>`(aa (ae 2) aq)
local macro_rules|`(#[36])=>`(.loc (st.length+1))
local macro_rules|`(#[37])=>`((∃o0,X.s₀.heap.get? b=some o0)/\b∉X.fs/\b∉X.ex)
local macro_rules|`(#[38])=>`(Addr×Obj)
local macro_rules|`(#[39])=>`(cellsFrom (G2.objs.size+1) scope.names []++cl)
local macro_rules|`(#[40])=>`(aa (ae 1) aq)
local macro_rules|`(#[41])=>`(ai rfl)
local macro_rules|`(#[42])=>`((lk.take i).map jS)
local macro_rules|`(#[43])=>`(x==("__debug__":Str))
local macro_rules|`(#[44])=>`((∃y,X.env.cells.lookup y=some b)/\b∉tF X.stack)
local macro_rules|`(#[45])=>`(lR M t pool L P Q (iO (i:Nat)) (some p.w))
local macro_rules|`(#[46])=>`(.Pass ⟨0,0,0,0⟩)
local macro_rules|`(#[47])=>`(e2 bB (ah 1) (eI 2))
local macro_rules|`(#[48])=>`(PySem.strKind prog w)
local macro_rules|`(#[49])=>`(l.map fun c=>[c])
local macro_rules|`(#[50])=>`(ds.map W.int)
local macro_rules|`(#[51])=>`(st++[c1]++[c2]++[.lst [.str [108,101,102,116],.str [114,105,103,104,116]]])
local macro_rules|`(#[52])=>`(iB P w)
local macro_rules|`(#[53])=>`(.str [108,101,102,116])
local macro_rules|`(#[54])=>`(m.filter fun d=>d != c)
local macro_rules|`(#[55])=>`(cellsFrom #[8] scope.names [])
local macro_rules|`(#[56])=>`(bM dF B.len bE (aa (ae 0) aq))
local macro_rules|`(#[57])=>`(e2 bB (ah 1) (eI 1))
local macro_rules|`(#[58])=>`(bw dm (af (ah 0) aA))
local macro_rules|`(#[59])=>`(fun _ _ _ _=>trivial)
local macro_rules|`(#[60])=>`((pA C).length+l.size)
local macro_rules|`(#[61])=>`(b_ 4 ui (af (ah 0) (af (e2 bB (e2 bB (ah 1) (ah 8)) (eI 1)) (af (e2 bB (ah 4) (ah 8)) (af (ah 6) aA)))))
local macro_rules|`(#[62])=>`(jg "Kept" "tree" (ah 0))
local macro_rules|`(#[63])=>`(fr M C l r o)
local macro_rules|`(#[64])=>`(starEach es X.env)
local macro_rules|`(#[65])=>`(by decide +kernel)
local macro_rules|`(#[66])=>`(List Nat)
local macro_rules|`(#[67])=>`(M.tb.getD (me m M.nm) [])
local macro_rules|`(#[68])=>`((items.toList.drop (sIx items.size 0 lo)).take (sIx items.size items.size hi-sIx items.size 0 lo))
local macro_rules|`(#[69])=>`(backToKw eY (keywordEach [] X.env))
local macro_rules|`(#[70])=>`(MT.nd l r m)
local macro_rules|`(#[71])=>`(dO (e2 iK (e2 bB (ah 8) (eI 0)) (eC (.str [97,103,97,105,110]))))
local macro_rules|`(#[72])=>`(aK (bf 9 #[61]) (aK (bf 7 (e2 cN (ah 7) (eI 1))) (aK (fK (dO (e2 iK (ah 9) (e2 bB (ah 6) (ah 8)))) Eb bW) (aK (Ci (ah 6) (ah 8) (ah 9) sf) (bf 8 (b_ 2 GZ (af (ah 5) (af (ah 8) aA))))))))
local macro_rules|`(#[73])=>`(bq kx bu (c6 rfl))
local macro_rules|`(#[74])=>`(fK (dO (e2 yF (ah 4) (eI 0))) (aK (cU (kK bH (ah 3) (af (e2 ij (ah 4) (eI 64)) aA))) (bf 4 (e2 vV (ah 4) (eI 64)))) (cU (kK bH (ah 3) (af (b_ 3 zJ (af (ah 0) (af (ah 5) #[20]))) aA))))
local macro_rules|`(#[75])=>`(lR M t pool L P Q (iO (i:Nat)) o8)
local macro_rules|`(#[76])=>`(aK (fK (dO (hU (ah 2))) (bf 4 (e2 cN (ah 4) (e2 bB (ah 1) (ah 2)))) bW) (aK (fK (dO (hU (ah 3))) (bf 4 (e2 cN (ah 4) (e2 bB (ah 1) (ah 3)))) bW) (cU (kK bH (ah 1) (af (ah 4) aA)))))
local macro_rules|`(#[77])=>`(fun r s'=>r=.ok (.ret (.bool true))/\OldK s₁.heap s'.heap/\s'.os=s₁.os/\AllBare s'.gens)
local macro_rules|`(#[78])=>`(eC (.bl false))
local macro_rules|`(#[79])=>`(aK (bf 16 (e2 g9 (ah 15) (ah 14))) (aK (fK (dO (e2 iK (ah 11) (eC (.str [114,105,103,104,116])))) (bf 16 (e2 g9 (ah 13) (ah 15))) bW) (cU (kK bH (ah 12) (af (dC #[25]) aA)))))
local macro_rules|`(#[80])=>`(e2 cN (e2 cN (sQ (ah 0) ik (fz #[57])) (dC (af (dC (af (ah 2) (af (Lf pZ (eC (.str [])) (af (bw lW (af (ah 3) aA)) aA)) aA))) aA))) (sQ (ah 0) (fz (e2 cN #[57] (eI 1))) ik))
local macro_rules|`(#[81])=>`(Option Nat)
local macro_rules|`(#[82])=>`(dO (e2 iK (e2 bB (ah 8) (eI 0)) (eC (.str [98,97,99,107]))))
local macro_rules|`(#[83])=>`((z.set L #[31]).set a (.lst (sd.reverse.map Dd.w++[d.w])))
local macro_rules|`(#[84])=>`(st++[ar.lst (ps.map Pl.w)])
set_option hygiene true
open Array renaming length_toList→eW,getElem?_eq_getElem→e_,getElem?_toList→gb,eq_empty_of_size_eq_zero→gX,getD_eq_getD_getElem?→mI,toList_push→nR
open Bool renaming and_true→dM,and_eq_true→dS,false_ne_true→fq,false_eq_true→fv,not_eq_true'→iT,or_false→oh,eq_iff_iff→ql
open Int renaming toNat_natCast→cG,natCast_add→gn,natCast_mul→jL,emod_nonneg→jM,fdiv_eq_ediv_of_nonneg→ng,emod_lt_of_pos→nr,mul_comm→pV,zero_add→uL
open LawfulBEq renaming eq_of_beq→oT
open List renaming length_append→aj,append_assoc→al,getElem?_eq_getElem→ao,prefix_refl→au,getElem?_eq_some_iff→ax,length_map→aF,getD_eq_getElem?_getD→aG,getElem?_map→aI,getElem?_append_left→aN,length_take→aP,mem_append_right→aS,mem_cons→aT,mem_cons_of_mem→aU,mem_append→aV,size_toArray→aX,getElem?_append_right→aY,mem_singleton→aZ,map_append→a8,prefix_append→a_,append_nil→bd,length_singleton→bj,length_cons→bv,map_cons→bD,mem_append_left→bJ,reverse_cons→bK,take_of_length_le→bQ,mem_cons_self→bS,getElem?_eq_none→cm,pairwise_cons→cn,getElem?_set_self→cq,mem_of_getElem?→cr,map_map→cw,length_drop→cF,take_append_of_le_length→cK,getElem?_set_ne→cW,getElem?_take_of_lt→cZ,mem_map→dy,flatten_append→dY,eq_nil_of_length_eq_zero→d6,nil_append→d9,getElem_mem→ef,not_mem_nil→eh,take_length→et,map_congr_left→fF,drop_eq_getElem_cons→gg,filterMap_cons→gM,take_left→gZ,length_eq_one_iff→ie,drop_left'→iA,getElem?_reverse→iI,getElem?_range→jv,mem_filter→jH,nodup_cons→jJ,lookup_append→jW,getElem?_replicate→j8,map_id→j_,ext_getElem?→kG,take_add_one→kI,length_filter_le→kT,lookup_cons→lj,forIn_cons→mq,take_left'→mx,filter_eq_self→mC,mem_range→m8,mem_filterMap→m_,contains_cons→nq,nodup_append→nS,flatten_cons→nT,map_take→om,map_drop→on,getElem_map→oV,range_succ_eq_map→pO,drop_eq_nil_of_le→pR,drop_of_length_le→pT,set_set→pX,of_mem_zip→qg,length_set→qh,length_nil→qk,set_append_right→qv,dropLast_eq_take→qw,forIn_nil→rE,take_take→rK,sum_cons→sM,map_set→uM
open List.Perm renaming refl→jc,append_left→qu
open Nat renaming le_of_ble_eq_true→ai,le_refl→aC,lt_of_lt_of_le→aL,le_trans→aO,ne_of_lt→a9,le_succ→bx,lt_succ_self→cu,zero_le→cE,lt_succ_of_lt→de,lt_irrefl→d8,ne_of_gt→eR,le_of_lt→gs,min_eq_left→iz,le_succ_of_le→iQ,lt_of_le_of_lt→jV,not_lt→jX,lt_of_succ_lt_succ→kH,not_lt_zero→mv,add_assoc→oo,le_add_right→oR,zero_lt_succ→oX,zero_add→pW,add_zero→uH,lt_trans→uK
open Option renaming map_eq_some_iff→fM
open Option.some renaming inj→bC
open PyProof.Rows renaming callWith_type1→eu,slot_tuple_getitem→eZ,boot_tuple→fw,boot_isinstance→jK,callWith_builtin1→li,subscriptTail_builtinR→pN,sorted_out_str→rF,boot_sorted→rH,boot_int→rJ,Constant_none→sH,strKind_oneLt→sK,keyKind_strs→uI,boot_bool→vN
open PyProof.Rows.F renaming plain_set_update_loop→fG,entry_set_update_loop→ju
open PySem renaming wpAny_bind→ag,wpAny_pure→ay,boot_len→bE,wpAny_callSpecial?_slot→ce,wpAny_call_entry→cv,wpAny_newObj_type→cH,wpAny_setField_rec→cJ,wpAny_field→dB,wpAny_holding→dI,wpAny_loadPart'→dJ,codeAny_builtin→dL,wpAny_seqItems→eT,isSubtype_type→eU,wpAny_loadPart_at→fA,plainId_quiet→fO,wpAny_pyIter_tuple→fY,wpAny_Call_Name_kw→f9,wpAny_passesOwn→gl,wpAny_setState_of→gz,wpAny_setEntries_of→gN,wpAny_isInstance→gY,wpAny_attempt→iE,wpAny_truthy_bool→iR,wpAny_nameGoes_keeps→jd,codeAny_mono→jm,wpAny_typeOf→jn,wpAny_isSubtype_exc→jw,wpAny_execs_nil→jI,wpAny_mono→jU,wpAny_pyNext_ascii_item→j9,wpAny_pyNext_wide_item→kD,wpAny_rule→lq,sizeLine_eq→lM,codeAny_call_builtin→lS,wpAny_updateSeq_pair→lU,pushCells_keeps→ml,typeIs_str→nh,wpAny_pyIter_ascii→ni,isSubtype_stop→nj,wpAny_fieldsOf→nn,wpAny_pyIter_wide→nO,wpAny_onRaise→ol,noFill_tuple_add→oS,wpAny_askSetting→oU,wpAny_Call_method_late→pS,wpAny_noteFrame_againW→pU,wpAny_ite_split→qi,wpAny_updateSeq→qj,wpAny_storeName_local→qp,wpAny_isTrue_Compare1→qr,builtinLookup_eq_fast→qt,wpAny_loadPart→rD,wpAny_runValue→rG,wpAny_standAt→sI,seq_tuple_add→sJ,wpAny_call→tz,call_meets→tD,concat_meets→uF,seqIndex_neg→uG,wpAny_landsW→uJ,putSet_of→vM
open PySem.Around renaming under_plainId→dr
open PySem.Calls renaming spliced_cons→fZ,spliced_nil→iS,callWith_builtin→kE,evalArgs_plain→lN,Name_function_global→m9,call_function_entry→ny
open PySem.F renaming slot_tuple_iterator_next→f_,typeOf_object_class→kS,args_tuple_iterator_next_1→ms,slot_zip_next→mw,entry_tuple_iterator_next→mH,slot_enumerate_next→qs
open PySem.Heap renaming get?_push_of_some→aw,get?_push_size→aD,lt_size→aH,size_push→bG,get?_update_other→cX,get?_update_self→d7
open PySem.Heap.SameBut renaming update→jt
open PySem.SeqAt renaming str_beq→sL
open PySem.StrLaws renaming glued_eq_join→iH
open PySem.Value renaming isStrOf_shape→mB
def aJ:=@if_pos
def aW:=@if_neg
def a7:=@decide_eq_false
def bg:=@decide_eq_true
def bh:=@beq_eq_false_iff_ne
def dv:=@beq_iff_eq
def gu:=@if_false
def gy:=@if_true
def iy:=@congrArg
def lT:=@or_false
def nu:=@congrFun
def nv:=@decide_eq_true_iff
set_option compiler.extract_closed false
noncomputable section
variable{M:PySem.Model}{p pos jl gW p2 eY:PySem.Pos}{s:PySem.Shared}{α β:Type}{A:PySem.Around}{E Q Qv:PySem.Value->PySem.Shared->Prop}{nk n n' t' N i j k kk ep q L:Nat}{x c name fX:PySem.Str}{v u:PySem.Value}{us b9:List PySem.Value}{o e tg eP tt:PySem.Expr}{P prog:PySem.Program}{h h' base:PySem.Heap}{am pins':List (PySem.Addr×PySem.Obj)}{g':Array PySem.GenState}{ch fp μ μ':List PySem.Addr}{it C:PySem.Addr}{op:PySem.CmpOp}{K:PySem.W.Frag}{es oY yB:List PySem.Expr}{g:PySem.Value->PySem.Value->PySem.Sem PySem.Value}{f:Option Nat×Option Nat->Option Nat}{mA mg:PySem.Str->Option PySem.Value}{pl:PySem.Sem Bool}{kw:List (PySem.Str×PySem.Value)}{env:PySem.Env}{fd:PySem.FuncData}{ps ks nm:List PySem.Str}{outer:List PySem.Env}{kindOf:PySem.Str->Option PySem.NameKind}{scope:PySem.Scope}{T:String}{l m S pool:List Nat}{XP:(PySem.Str->Option PySem.Value)->PySem.Heap->Prop}{YP:PySem.World->PySem.Heap->Prop}{ns:List Int}{cl:List (PySem.Str×PySem.Addr)}{cap B:List #[81]}{use:Option (PySem.Value->PySem.Sem Unit)}{ls:List #[66]}
open PySem.W (Frag)
open PySem.W (instObj hideAll lookIn plainGet findIn isFn makesIn emptyDict keepIn kitOne kia_one fnOf codeIn excIn kitAny nsIn mg_of mg_none_of)
namespace L2
open PySem PySem.Spec PyProof.Rows
theorem Af{Γ:PySem.Ctx}{t:Sem Fin}{fs:List Frame}{s':Shared}{e:End}(h:Runs M Γ p t fs s e s'):s.toks<=s'.toks:=by
 induction h
 case fresh ih=>exact aO (bx _) ih
 case call i1 i2=>exact aO i1 i2
 case resumeFresh i1 i2=>exact aO i1 i2
 case resumeSuspended i1 i2=>exact aO i1 i2
 case segRet i1 i2=>exact aO i1 i2
 case segGen i1 i2=>exact aO i1 i2
 case segSuspGen i1 i2=>exact aO i1 i2
 all_goals first|exact aC _|assumption
theorem Hr{Γ:PySem.Ctx}{g:Nat}{r:Resume}{s':Shared}{res:GenResult}(h:Wakes M Γ p g r s res s'):s.toks<=s'.toks:=by
 unfold Wakes at h
 split at h
 ·exact h.elim
 ·split at h
  ·obtain⟨e,s1,h1,_,_,rfl⟩:=h;have q:=Af h1;exact q
  ·rw[h.2];exact aC _
  ·rw[h.2];exact aC _
 ·obtain⟨e,s1,h1,_,_,rfl⟩:=h;have q:=Af h1;exact q
 ·rw[h.2];exact aC _
 ·rw[h.2];exact aC _
theorem Sb{Γ:PySem.Ctx}(n:Nat)(m:Sem α):∀{Q:α->Pos->Shared->Prop} {E:Value->Pos->Shared->Prop} {p:Pos} {s:Shared},n<=s.toks->Sem.wp M Γ m Q E p s ->
  Sem.wp M Γ m (fun a p' s'=>n<=s'.toks/\Q a p' s') (fun e p' s'=>n<=s'.toks/\E e p' s') p s:=by
 induction m
 all_goals intro Q E p s hn h
 all_goals (first|(rename_i ih)|skip)
 all_goals (try simp only[Sem.wp]at h ⊢)
 all_goals first
  |exact⟨hn,h⟩
  |exact ih _ hn h
  |exact ih _ (iQ hn) h
  |(obtain⟨o,h1,h2⟩:=h;exact⟨o,h1,ih _ hn h2⟩)
  |exact⟨h.1,ih _ hn h.2⟩
  |(obtain⟨r,s',h1,h2⟩:=h;exact⟨r,s',h1,ih _ (aO hn (Af h1)) h2⟩)
  |(obtain⟨r,s',h1,h2⟩:=h;exact⟨r,s',h1,ih _ (aO hn (Hr h1)) h2⟩)
theorem up{m:Sem α}{Q:α->Shared->Prop}(h:wpAny M A m (fun a s'=>s.toks<=s'.toks->Q a s') (fun e s'=>s.toks<=s'.toks->E e s') s):wpAny M A m Q E s:=fun Γ p hΓ=>
 Sem.wp_mono M Γ m (fun a p' s' h'=>h'.2 h'.1) (fun e p' s' h'=>h'.2 h'.1) p s (Sb s.toks m (aC _) (h Γ p hΓ))
end L2
namespace L2
open PySem PySem.Spec PyProof.Rows
abbrev wS:=Sum Int Str
def M7:wS->Value->Bool
 |.inl k,v=>Value.isInt k v
 |.inr x,v=>Value.isStrOf x v
def VT(w:World):wS->Int
 |.inl k=>hashInt k
 |.inr x=>hashStr w x
theorem gp:∀{k:wS} {v:Value},M7 k v=true->(∃i t,k=Sum.inl i/\v=Value.int i t)\/(∃x t,k=Sum.inr x/\v=Value.str x t)
 |.inl i,v,h=>by
  obtain⟨t,e⟩:=Value.isInt_shape (k:=i) (v:=v) h
  exact .inl ⟨i,t,rfl,e⟩
 |.inr x,v,h=>by
  obtain⟨t,e⟩:=mB (x:=x) (v:=v) h
  exact .inr ⟨x,t,rfl,e⟩
theorem OC(a b:Int):decide ((Sum.inl a:wS)=Sum.inl b)=(a==b):=by
 by_cases e:a=b
 ·subst e;simp
 ·have h:¬ (Sum.inl a:wS)=Sum.inl b:=fun q=>e (Sum.inl.inj q)
  rw[a7 h]
  exact(bh.mpr e).symm
theorem OD(a b:Str):decide ((Sum.inr a:wS)=Sum.inr b)=decide (a=b):=by
 by_cases e:a=b
 ·subst e;simp
 ·have h:¬ (Sum.inr a:wS)=Sum.inr b:=fun q=>e (Sum.inr.inj q)
  rw[a7 h,a7 e]
theorem OE(a:Int)(b:Str):decide ((Sum.inl a:wS)=Sum.inr b)=false:=a7 (fun q=>nomatch q)
theorem OF(a:Str)(b:Int):decide ((Sum.inr a:wS)=Sum.inl b)=false:=a7 (fun q=>nomatch q)
def Ff(prog:Program)(w:World):PySem.KeyKind prog w wS where
 is:=M7
 hash:=VT w
 inj:=fun v a b ha hb=>by
  rcases gp ha with⟨i,t,rfl,rfl⟩|⟨x,t,rfl,rfl⟩
  ·rcases gp hb with⟨j,u,rfl,e⟩|⟨y,u,rfl,e⟩
   ·injection e with e1 _;rw[e1]
   ·exact nomatch e
  ·rcases gp hb with⟨j,u,rfl,e⟩|⟨y,u,rfl,e⟩
   ·exact nomatch e
   ·injection e with e1 _;rw[e1]
 byValue:=fun k v h=>by
  rcases gp h with⟨i,t,rfl,rfl⟩|⟨x,t,rfl,rfl⟩<;>rfl
 pyHash:=fun hv h=>by
  rcases gp hv with⟨i,t,rfl,rfl⟩|⟨x,t,rfl,rfl⟩
  ·exact wpAny_pyHash_int h
  ·exact wpAny_pyHash_str h
 eqBool:=fun hu hv h=>by
  rcases gp hu with⟨i,t,rfl,rfl⟩|⟨x,t,rfl,rfl⟩
  ·rcases gp hv with⟨j,u,rfl,rfl⟩|⟨y,u,rfl,rfl⟩
   ·rw[OC]at h;exact wpAny_eqBool_int h
   ·rw[OE]at h;exact SeqAt.EqAt.int_str i t y u _ _ _ _ h
  ·rcases gp hv with⟨j,u,rfl,rfl⟩|⟨y,u,rfl,rfl⟩
   ·rw[OF]at h;exact SeqAt.EqAt.str_int x t j u _ _ _ _ h
   ·rw[OD]at h;exact wpAny_eqBool_str h
 «strs»:=fun k x t v h=>by
  rcases gp h with⟨i,u,rfl,e⟩|⟨y,u,rfl,e⟩
  ·exact nomatch e
  ·injection e with e1 _
   subst e1
   cases v<;>rfl
end L2
namespace L2
open PySem PySem.Spec PyProof.Rows
inductive V where
 |non|bl (b:Bool)|int (i:Int)|str (x:Str)|byt (b:Array UInt8)|flt (b:UInt64)|ref (a:Addr)|ty (n:String)
 deriving DecidableEq
def Tk(n:Nat)(x:Str):Type:={ t:Tok // x.length=1->0<t/\t<n }
instance {n:Nat} {x:Str}:CoeOut (Tk n x) Tok:=⟨fun t=>t.1⟩
def Tk.up(h:n<=n')(t:Tk n x):Tk n' x:=⟨t.1,fun e=>⟨(t.2 e).1,aL (t.2 e).2 h⟩⟩
def dN(n:Nat):V->Value->Prop
 |.non,u=>u=Value.none
 |.bl b,u=>u=Value.bool b
 |.int i,u=>∃t,u=Value.int i t
 |.str x,u=>∃t:Tk n x,u=Value.str x t.1
 |.byt b,u=>∃t,u=Value.bytes b t
 |.flt b,u=>∃t,u=Value.float b t
 |.ref a,u=>u=Value.ref a
 |.ty n,u=>u=Value.type n
theorem dN.up(h:n<=n'){v:V}(r:dN n v u):dN n' v u:=by
 cases v with
 |str x=>obtain⟨t,e⟩:=r;exact⟨t.up h,e⟩
 |_=>exact r
abbrev cQ(n:Nat):List V->List Value->Prop:=Paired (dN n)
theorem cQ.up(h:n<=n'):∀{xs:List V} {us:List Value},cQ n xs us->cQ n' xs us
 |_,_,.nil=>.nil
 |_,_,.cons r t=>.cons (r.up h) (cQ.up h t)
theorem cQ.length{xs:List V}(r:cQ nk xs us):xs.length=us.length:=Paired.length r
theorem cQ.get:∀{xs:List V} {us:List Value} {i:Nat} {x:V},cQ nk xs us->xs[i]?=some x->∃u,us[i]?=some u/\dN nk x u
 |_,_,_,_,.nil,e=>by simp at e
 |_,_,0,_,.cons r _,e=>by simp at e;subst e;exact⟨_,rfl,r⟩
 |_,_,i+1,x,.cons _ t,e=>by
  obtain⟨u,h1,h2⟩:=cQ.get (i:=i) (x:=x) t (by simpa using e)
  exact⟨u,by simpa using h1,h2⟩
theorem cQ.set{x:V}(r:dN nk x u):∀{xs:List V} {us:List Value} (i:Nat),cQ nk xs us->cQ nk (xs.set i x) (us.set i u)
 |_,_,_,.nil=>.nil
 |_,_,0,.cons _ t=>.cons r t
 |_,_,i+1,.cons q t=>.cons q (cQ.set r i t)
theorem cQ.append:∀{xs ys:List V} {us ws:List Value},cQ nk xs us->cQ nk ys ws->cQ nk (xs++ys) (us++ws)
 |_,_,_,_,.nil,s=>s
 |_,_,_,_,.cons r t,s=>.cons r (cQ.append t s)
theorem cQ.take:∀{xs:List V} {us:List Value} (n:Nat),cQ nk xs us->cQ nk (xs.take n) (us.take n)
 |_,_,0,_=>.nil
 |_,_,_+1,.nil=>.nil
 |_,_,n+1,.cons r t=>.cons r (cQ.take n t)
theorem cQ.drop:∀{xs:List V} {us:List Value} (n:Nat),cQ nk xs us->cQ nk (xs.drop n) (us.drop n)
 |_,_,0,r=>r
 |_,_,_+1,.nil=>.nil
 |_,_,n+1,.cons _ t=>cQ.drop n t
def uP(n:Nat):Option V->Option Value->Prop
 |some v,some u=>dN n v u
 |none,none=>True
 |_,_=>False
theorem uP.up(h:n<=n'):∀{o:Option V} {u:Option Value},uP n o u->uP n' o u
 |some _,some _,r=>dN.up h r
 |none,none,_=>trivial
 |none,some _,r=>r
 |some _,none,r=>r
def KV{κ:Type}(n:Nat):List (κ×V)->List (κ×Value)->Prop:=Paired fun(p:κ×V) (q:κ×Value)=>p.1=q.1/\dN n p.2 q.2
def kV:wS->V
 |.inl i=>.int i
 |.inr x=>.str x
inductive HO where
 /-- a list -/
 |lst (xs:List V)
 /-- a tuple (never changes) -/
 |tup (xs:List V)
 /-- a dict whose keys are ints and texts;one whose keys are tuples of ints and texts (the empty one is both) -/
 |dK (hX:List (wS×V))|dT (hX:List (List wS×V))
 /-- a set of ints: b9 members,b9 size -/
 |set (S:Int->Bool) (n:Nat)
 /-- an instance of the class at C,b9 dict at dx,b9 attributes -/
 |ins (C dx:Addr) (fs:List (Str×V))
 /-- the dict of the instance at x -/
 |own (x:Addr)
 /-- the dict of an exception -/
 |xd (fs:List (Str×V))
 /-- a bound method,f of x -/
 |met (f x:Addr)
 /-- a range object lo,lo+1,.. below hi -/
 |rng (lo hi:Int)
 /-- a thing that is known to the object (the script;a dict while a loop walks it): read,never written while it is so -/
 |frz (o:Obj) (u:HO)
 /-- a code object's table -/
 |tbl (ps:Array Value)
 /-- any other thing,by what is true of b9 one object (a def of Xb own: SetO a S n:=HO.ext fun h=>..) -/
 |ext (φ:Heap->Prop)
abbrev Hp:=Addr->Option HO
def gc(H:Hp)(a:Addr)(o:HO):Hp:=fun b=>if b=a then some o else H b
theorem ig{H:Hp}{a:Addr}{o:HO}:gc H a o a=some o:=by unfold gc;rw[aJ rfl]
theorem df{H:Hp}{a b:Addr}{o:HO}(h:b≠a):gc H a o b=H b:=by unfold gc;rw[aW h]
theorem fR{H:Hp}{a b:Addr}{o:HO}(h:H a=some o)(h':H b=none):a≠b:=by
 intro e;subst e;rw[h]at h';cases h'
section
variable(P:Program)(w:World)
def hJ(n:Nat)(H:Hp)(h:Heap)(a:Addr):HO->Prop
 |.lst xs=>xs.length<=sizeLine/\∃(b9:List Value) (m:Nat),cQ n xs b9/\h.get? a=some { cls:=.type "list",data:=.seq b9.toArray m }
 |.tup xs=>xs.length<=sizeLine/\∃b9:List Value,cQ n xs b9/\IsTup h a b9.toArray
 |.dK hX=>hX.length<=sizeLine/\(a==sysModules)=false/\∃vs,KV n hX vs/\h.DictOf (Ff P w) a vs
 |.dT hX=>hX.length<=sizeLine/\(a==sysModules)=false/\∃xs:List (List wS×Addr×Value),
   Paired (fun(p:List wS×V) (q:List wS×Addr×Value)=>p.1=q.1/\H q.2.1=some (.tup (p.1.map kV))/\dN n p.2 q.2.2) hX xs /\
   ∃o es ep,h.get? a=some o/\o.ExactDict/\o.data=.dict es ep/\es.toList=xs.map (entryOfKey (tupleKind (Ff P w)))/\(xs.map (·.1)).Nodup
 |.set S m=>h.SetOf (intKind P w) a S m
 |.ins C dx fs=>H dx=some (.own a)/\fs.length<=1000/\dx≠a/\h.get? a=some (instObj C dx) /\
   ∃mA,h.Ns1 dx mA/\(∀f,uP n (fs.lookup f) (mA f))/\PySem.Within mA (fs.map (·.1))
 |.own _=>∃o,h.get? a=some o
 |.xd fs=>∃mA,h.Ns1 a mA/\∀f,uP n (fs.lookup f) (mA f)
 |.rng lo hi=>∃t u v,h.get? a=some { cls:=.type "range",data:=.fields #[.int lo t,.int hi u,.int 1 v] }
 |.frz o u=>h.get? a=some o/\hJ n H h a u
 |.tbl ps=>h.get? a=some { cls:=.none,data:=.fields ps }
 |.met f x=>h.get? a=some (PySem.W.methodObj (.ref f) (.ref x))
 |.ext φ=>φ h/\(∃o,h.get? a=some o)/\∀h1 h2:Heap,φ h1->(∀o,h1.get? a=some o->h2.get? a=some o)->φ h2
def uN(n:Nat)(H:Hp)(h:Heap):Prop:=∀a o,H a=some o->hJ P w n H h a o
end
section
variable{w:World}{H H':Hp}{a:Addr}{o:HO}
theorem hJ.lt(x:hJ P w nk H h a o):a<h.objs.size:=by
 cases o with
 |lst xs=>obtain⟨_,_,_,_,e⟩:=x;exact aH e
 |tup xs=>obtain⟨_,_,_,p⟩:=x;exact p.lt
 |dK hX=>obtain⟨_,_,_,_,o,_,_,e,_⟩:=x;exact aH e
 |dT hX=>obtain⟨_,_,_,_,o,_,_,e,_⟩:=x;exact aH e
 |set S n=>obtain⟨o,_,_,_,e,_⟩:=x;exact aH e
 |ins C dx fs=>obtain⟨_,_,_,e,_⟩:=x;exact aH e
 |own y=>obtain⟨_,e⟩:=x;exact aH e
 |xd fs=>obtain⟨_,⟨_,_,_,e,_⟩,_⟩:=x;exact aH e
 |rng lo hi=>obtain⟨_,_,_,e⟩:=x;exact aH e
 |frz ob u=>obtain⟨e,_⟩:=x;exact aH e
 |tbl ps=>exact aH (show h.get? a=some _ from x)
 |met f y=>exact aH (show h.get? a=some _ from x)
 |ext φ=>obtain⟨_,⟨_,e⟩,_⟩:=x;exact aH e
theorem Paired.mapP{F G:α->β->Prop}:∀{l₁:List α} {l₂:List β},Paired F l₁ l₂->(∀a b,F a b->G a b)->Paired G l₁ l₂
 |_,_,.nil,_=>.nil
 |_,_,.cons r t,f=>.cons (f _ _ r) (Paired.mapP t f)
theorem Paired.imp'{F G:α->β->Prop}(f:∀a b,F a b->G a b){l₁:List α}{l₂:List β}(r:Paired F l₁ l₂):Paired G l₁ l₂:=Paired.mapP r f
theorem hJ.stay(x:hJ P w nk H h a o)(k:∀b u,(b=a\/H b=some (.own a))->h.get? b=some u->h'.get? b=some u)
  (ho:∀b,H b=some (.own a)->H' b=some (.own a)) (ht:∀b xs,H b=some (.tup xs)->H' b=some (.tup xs)):hJ P w nk H' h' a o:=by
 induction o with
 |lst xs=>obtain⟨z,b9,n,r,e⟩:=x;exact⟨z,b9,n,r,k _ _ (.inl rfl) e⟩
 |tup xs=>obtain⟨z,b9,r,ob,e,c⟩:=x;exact⟨z,b9,r,ob,k _ _ (.inl rfl) e,c⟩
 |dK hX=>obtain⟨z,y,vs,r,ob,es,ep,e,c⟩:=x;exact⟨z,y,vs,r,ob,es,ep,k _ _ (.inl rfl) e,c⟩
 |dT hX=>
  obtain⟨z,y,xs,r,ob,es,ep,e,c⟩:=x
  exact⟨z,y,xs,Paired.mapP r fun p q z=>⟨z.1,ht _ _ z.2.1,z.2.2⟩,ob,es,ep,k _ _ (.inl rfl) e,c⟩
 |set S n=>obtain⟨ob,es,ep,t,e,c⟩:=x;exact⟨ob,es,ep,t,k _ _ (.inl rfl) e,c⟩
 |ins C dx fs=>
  obtain⟨d,z,ne,e,mA,⟨od,es,ep,e2,c⟩,r⟩:=x
  exact⟨ho _ d,z,ne,k _ _ (.inl rfl) e,mA,⟨od,es,ep,k _ _ (.inr d) e2,c⟩,r⟩
 |own y=>obtain⟨ob,e⟩:=x;exact⟨ob,k _ _ (.inl rfl) e⟩
 |xd fs=>obtain⟨mA,⟨od,es,ep,e,c⟩,r⟩:=x;exact⟨mA,⟨od,es,ep,k _ _ (.inl rfl) e,c⟩,r⟩
 |rng lo hi=>obtain⟨t,u,v,e⟩:=x;exact⟨t,u,v,k _ _ (.inl rfl) e⟩
 |frz ob u ih=>obtain⟨e,q⟩:=x;exact⟨k _ _ (.inl rfl) e,ih q⟩
 |tbl ps=>
  have e:h.get? a=some { cls:=.none,data:=.fields ps }:=x
  show h'.get? a=some { cls:=.none,data:=.fields ps }
  exact k a _ (.inl rfl) e
 |met f y=>
  have e:h.get? a=some (PySem.W.methodObj (.ref f) (.ref y)):=x
  show h'.get? a=some (PySem.W.methodObj (.ref f) (.ref y))
  exact k a _ (.inl rfl) e
 |ext φ=>obtain⟨p,⟨o,e⟩,st⟩:=x;exact⟨st _ _ p fun o q=>k _ _ (.inl rfl) q,⟨o,k _ _ (.inl rfl) e⟩,st⟩
theorem Paired.upR(h:n<=n'){κ:Type}{l₁:List (κ×V)}{l₂:List (κ×Value)}(r:KV n l₁ l₂):KV n' l₁ l₂:=Paired.mapP r fun _ _ z=>⟨z.1,z.2.up h⟩
theorem hJ.up(hn:nk<=n')(x:hJ P w nk H h a o):hJ P w n' H h a o:=by
 induction o with
 |lst xs=>obtain⟨z,b9,n,r,e⟩:=x;exact⟨z,b9,n,r.up hn,e⟩
 |tup xs=>obtain⟨z,b9,r,ob⟩:=x;exact⟨z,b9,r.up hn,ob⟩
 |dK hX=>obtain⟨z,y,vs,r,ob⟩:=x;exact⟨z,y,vs,Paired.upR hn r,ob⟩
 |dT hX=>obtain⟨z,y,xs,r,ob⟩:=x;exact⟨z,y,xs,Paired.mapP r fun p q z=>⟨z.1,z.2.1,z.2.2.up hn⟩,ob⟩
 |ins C dx fs=>obtain⟨d,z,ne,e,mA,c,r,q⟩:=x;exact⟨d,z,ne,e,mA,c,fun f=>(r f).up hn,q⟩
 |xd fs=>obtain⟨mA,c,r⟩:=x;exact⟨mA,c,fun f=>(r f).up hn⟩
 |frz ob u ih=>obtain⟨e,q⟩:=x;exact⟨e,ih q⟩
 |_=>exact x
theorem uN.up(hn:nk<=n')(x:uN P w nk H h):uN P w n' H h:=fun a o e=>(x a o e).up hn
theorem uN.lt(x:uN P w nk H h)(e:H a=some o):a<h.objs.size:=(x a o e).lt
theorem uN.fresh(x:uN P w nk H h)(e:h.objs.size<=a):H a=none:=by
 cases q:H a with
 |none=>rfl
 |some u=>exact absurd (aL (x.lt q) e) (d8 _)
theorem uN.kept(x:uN P w nk H h)(k:∀b u,h.get? b=some u->h'.get? b=some u):uN P w nk H h':=fun a o e=>
 (x a o e).stay (fun b u _ q=>k b u q) (fun _ q=>q) fun _ _ q=>q
theorem uN.laid(x:uN P w nk H h)(k:∀b u,h.get? b=some u->h'.get? b=some u)(hp:h.objs.size<=a)(new:hJ P w nk (gc H a o) h' a o):uN P w nk (gc H a o) h':=fun b u e=>by
 have hn:=x.fresh hp
 by_cases hb:b=a
 ·subst hb;rw[ig]at e;cases e;exact new
 ·rw[df hb]at e
  exact(x b u e).stay (fun c v _ q=>k c v q) (fun c q=>by rw[df (fR q hn)];exact q) fun c xs q=>by rw[df (fR q hn)];exact q
end
def Rd(H:Hp)(a:Addr)(u:HO):Prop:=H a=some u\/∃o,H a=some (.frz o u)
theorem Rd.ok{w:World}{H:Hp}{a:Addr}{u:HO}(r:Rd H a u)(x:uN P w nk H h):hJ P w nk H h a u:=by
 rcases r with r|⟨o,r⟩
 ·exact x a u r
 ·obtain⟨_,q⟩:=x a _ r
  exact q
def Vq:Option HO->Prop
 |some (.lst _)=>True
 |some (.dK _)=>True
 |some (.dT _)=>True
 |some (.set _ _)=>True
 |some (.ins _ _ _)=>True
 |some (.ext _)=>True
 |_=>False
section
variable{w:World}{H:Hp}{x e:Addr}{o':HO}
theorem uN.write(ok:uN P w nk H h)(mu:Vq (H x))(he:e=x\/H e=some (.own x))(k:∀b u,b≠e->h.get? b=some u->h'.get? b=some u)(Ln:∃u,h'.get? e=some u)
  (new:hJ P w nk (gc H x o') h' x o'):uN P w nk (gc H x o') h':=fun b u q=>by
 have nown:∀c y,H c=some (.own y)->c≠x:=fun c y r z=>by subst z;rw[r]at mu;exact mu
 have ntup:∀c xs,H c=some (.tup xs)->c≠x:=fun c xs r z=>by subst z;rw[r]at mu;exact mu
 by_cases hb:b=x
 ·subst hb;rw[ig]at q;cases q;exact new
 ·rw[df hb]at q
  by_cases hbe:b=e
  ·have q':H b=some (.own x):=by
    rcases he with z|z
    ·exact absurd (hbe.trans z) hb
    ·rw[hbe];exact z
   rw[q]at q';cases q'
   obtain⟨v,hv⟩:=Ln
   exact⟨v,by rw[hbe];exact hv⟩
  ·refine(ok b u q).stay (fun c v hc r=>k c v ?_ r) (fun c r=>by rw[df (nown c b r)];exact r) fun c xs r=>by rw[df (ntup c xs r)];exact r
   rcases hc with rfl|hc
   ·exact hbe
   ·rintro rfl
    rcases he with z|z
    ·exact nown c b hc z
    ·rw[hc]at z;cases z;exact hb rfl
end
structure Un(fs ex:List Addr)(H H':Hp)(h h':Heap):Prop where
 keep:∀b o,h.get? b=some o->H b=none->b∉fs->b∉ex->h'.get? b=some o
 slot:∀b o,h.get? b=some o->H b=none->b∈fs->b∉ex->∃sl,h'.get? b=some { o with slots:=sl }
 free:∀b o,h.get? b=some o->H b=none->b∉ex->H' b=none
 there:∀b o,h.get? b=some o->b∉ex->∃o',h'.get? b=some o'
 tups:∀b xs,H b=some (.tup xs)->H' b=some (.tup xs)
 frzs:∀b o u,H b=some (.frz o u)->H' b=some (.frz o u)
 tbls:∀b ps,H b=some (.tbl ps)->∃more,H' b=some (.tbl (ps++more))
section
variable{fs U3 ex XD:List Addr}{H H1 H2:Hp}{h1 h2:Heap}{a x e:Addr}{o:HO}
theorem Un.any(u:Un fs ex H H1 h h1){b:Addr}{ob:Obj}(q:h.get? b=some ob)(n:H b=none)(hx:b∉ex):∃sl,h1.get? b=some { ob with slots:=sl }:=by
 by_cases hb:b∈fs
 ·exact u.slot b ob q n hb hx
 ·exact⟨ob.slots,u.keep b ob q n hb hx⟩
theorem Un.kept(k:∀b u,h.get? b=some u->h'.get? b=some u):Un fs ex H H h h':=
 ⟨fun b ob q _ _ _=>k b ob q,fun b ob q _ _ _=>⟨ob.slots,k b ob q⟩,fun _ _ _ n _=>n,fun b ob q _=>⟨ob,k b ob q⟩,fun _ _ q=>q,fun _ _ _ q=>q,fun _ ps q=>⟨#[],by rw[q];simp⟩⟩
theorem Un.refl:Un fs ex H H h h:=Un.kept fun _ _ q=>q
theorem Un.laid(k:∀b u,h.get? b=some u->h'.get? b=some u)(hp:h.objs.size<=a)(hn:H a=none):Un fs ex H (gc H a o) h h' where
 keep:=fun b u q _ _ _=>k b u q
 slot:=fun b u q _ _ _=>⟨u.slots,k b u q⟩
 free:=fun b u q n _=>by rw[df (a9 (aL (aH q) hp))];exact n
 there:=fun b u q _=>⟨u,k b u q⟩
 tups:=fun b xs q=>by rw[df (fR q hn)];exact q
 frzs:=fun b u xs q=>by rw[df (fR q hn)];exact q
 tbls:=fun b ps q=>⟨#[],by rw[df (fR q hn),q];simp⟩
theorem Un.write(mu:Vq (H x))(he:e=x\/H e=some (.own x))(k:∀b u,b≠e->h.get? b=some u->h'.get? b=some u)(Ln:∃u,h'.get? e=some u):Un fs ex H (gc H x o) h h':=by
 have hx:∀b,H b=none->b≠x:=fun b n z=>by subst z;rw[n]at mu;exact mu
 have hb:∀b,H b=none->b≠e:=fun b n z=>by
  subst z
  rcases he with r|r
  ·exact hx b n r
  ·rw[n]at r;cases r
 have hm:∀b u,H b=some u->¬ Vq (some u)->b≠x:=fun b u q nm z=>by subst z;rw[q]at mu;exact nm mu
 refine⟨fun b u q n _ _=>k b u (hb b n) q,fun b u q n _ _=>⟨u.slots,k b u (hb b n) q⟩,fun b u q n _=>by rw[df (hx b n)];exact n,fun b u q _=>?_,
  fun b xs q=>by rw[df (hm b _ q fun z=>z)];exact q,fun b u xs q=>by rw[df (hm b _ q fun z=>z)];exact q,fun b ps q=>⟨#[],by rw[df (hm b _ q fun z=>z),q];simp⟩⟩
 by_cases hbe:b=e
 ·subst hbe;exact Ln
 ·exact⟨u,k b u hbe q⟩
end
def Vr(h:Heap)(H:Hp):List Addr:=(List.range h.objs.size).filter fun a=>(H a).isSome
def Ag(h:Heap)(H:Hp):Heap:=hideAll h (Vr h H)
theorem Ga(h:Heap)(H:Hp):(Ag h H).objs.size=h.objs.size:=PySem.W.hideAll_size _ _
theorem Hs{H:Hp}{b:Addr}{o:Obj}(e:h.get? b=some o)(n:H b=none):(Ag h H).get? b=some o:=
 PySem.W.hideAll_get _ e fun hm=>by
  have q:(H b).isSome=true:=(jH.mp hm).2
  rw[n]at q;simp at q
theorem Lq{H:Hp}{b:Addr}{o:Obj}(e:(Ag h H).get? b=some o):h.get? b=some o/\H b=none:=by
 have e':h.get? b=some o:=PySem.W.of_hideAll (Vr h H) e
 refine⟨e',?_⟩
 cases q:H b with
 |none=>rfl
 |some x=>
  have hm:b∈Vr h H:=jH.mpr ⟨m8.mpr (aH e'),by simp[q]⟩
  have z:(Ag h H).get? b=none:=PySem.W.hideAll_none (Vr h H) hm
  rw[z]at e;cases e
def Lr(g h:Heap)(L:Addr):List #[38]:=(List.range h.objs.size).filterMap fun a=>if a=L\/(g.get? a).isSome=true then none else(h.get? a).map fun o=>(a,o)
def gO(g h:Heap)(L d:Addr):List #[38]:=(Lr g h L).filter fun p=>decide (p.1≠d)
end L2
variable{xs vs:List L2.V}{H H':L2.Hp}
namespace L2
open PySem PySem.Spec PyProof.Rows
structure Mod(K:Frag)(mg:Str->Option Value)(base:Heap):Prop where
 kin:K.In base
 glob:base.Ns mainGlobals mg
 blt:∃mb,base.Ns builtinsNs mb/\∀x:Str,x ≠ "__name__"->mb x=bootBuiltins x
 nolimit:base.NoLimit
structure Cx where
 prog:Program
 w:World
 K:Frag
 mg:Str->Option Value
 base:Heap
 A:Around
 N:List Str
 s₀:Shared
 H₀:Hp
 env:Env
 outer:List Env
 stack:List Env
 ex:List Addr
 fn:Str->Bool
 calm:Bool
 pn:List #[38]
 xe:Value->Shared->Prop
def tF(l:List Env):List Addr:=l.filterMap (·.frame)
abbrev Cx.fs(X:Cx):List Addr:=tF X.outer
def Sc(sc:Scope)(x:Str):Prop:=sc.names.lookup x=some .local\/sc.names.lookup x=some .cell\/sc.names.lookup x=some .free
def Ld(sc:Scope)(x:Str):Prop:=sc.names.lookup x=some .local\/sc.names.lookup x=some .cell
def VU(env:Env)(h:Heap)(m:Str->Option Value)(x:Str)(u:Value):Prop:=
 (env.kindOf x=some .local/\m x=some u)\/((env.kindOf x=some .cell\/env.kindOf x=some .free)/\∃c,env.cells.lookup x=some c/\h.IsCell c (some u))
structure Cx.Ok(X:Cx):Prop where
 mod:Mod X.K X.mg X.base
 kind:X.env.scope.kind=.function
 glob:X.env.globals=mainGlobals
 blt:X.env.builtins=builtinsNs
 above:X.s₀.heap.objs.size<=X.env.locals
 inj:∀x y c,X.env.cells.lookup x=some c->X.env.cells.lookup y=some c->x=y
 has:∀x,(X.env.kindOf x=some .cell\/X.env.kindOf x=some .free)->∃c,X.env.cells.lookup x=some c
 cab:∀x c,X.fn x=true->X.env.cells.lookup x=some c->X.s₀.heap.objs.size<=c
 hd:X.calm=true->X.A.handled=none
 frames:X.A.frames=some X.stack
 stk:X.stack=X.outer\/(X.stack=X.env::X.outer/\X.env.frame=some X.env.locals)
 exf:∀b∈X.ex,b≠X.env.locals/\∀x c,X.env.cells.lookup x=some c->c≠b
 bs:∀b o,X.base.get? b=some o->X.s₀.heap.get? b=some o/\X.H₀ b=none
 bsz:X.base.objs.size<=X.s₀.heap.objs.size
 noex:∀b o,X.base.get? b=some o->b∉X.ex
 exfs:∀b∈X.ex,b∉X.fs
 funs:X.s₀.heap.FunFrames X.base X.outer
 frf:∀b∈X.fs,X.H₀ b=none
structure bT(X:Cx)(am:List #[38])(σ:List (Option V))(H:Hp)(s:Shared):Prop where
 ok:X.Ok
 os:s.os=X.s₀.os
 bare:AllBare s.gens
 base:Un X.fs X.ex X.H₀ H X.s₀.heap s.heap
 loc:∃m,s.heap.Ns X.env.locals m/\∀(i:Nat) (x:Str) (v:V),X.N[i]?=some x->σ[i]?=some (some v)->Sc X.env.scope x->∃u,dN s.toks v u/\VU X.env s.heap m x u
 cell:∀x c,X.env.cells.lookup x=some c->∃v,s.heap.IsCell c v
 free:H X.env.locals=none
 freeC:∀x c,X.env.cells.lookup x=some c->H c=none
 pin:∀p∈X.pn++am,s.heap.get? p.1=some p.2/\H p.1=none/\p.1≠X.env.locals/\p.1∉X.fs/\∀v,p.2.data≠.cell v
 hok:uN X.prog X.w s.toks H s.heap
 len:σ.length=X.N.length
 pos:0<s.toks
 tk:X.s₀.toks<=s.toks
section
variable{X:Cx}{σ:List (Option V)}
theorem Cx.Ok.nofr(ok:X.Ok){b:Addr}{o:Obj}(e:X.base.get? b=some o):b∉X.fs:=fun hb=>by
 have:=(ok.funs.mem hb).1
 rw[e]at this;cases this
theorem bT.bs(I:bT X am σ H s):∀b o,X.base.get? b=some o->s.heap.get? b=some o/\H b=none:=fun b o e=>
 ⟨I.base.keep b o (I.ok.bs b o e).1 (I.ok.bs b o e).2 (I.ok.nofr e) (I.ok.noex b o e),I.base.free b o (I.ok.bs b o e).1 (I.ok.bs b o e).2 (I.ok.noex b o e)⟩
theorem bT.bk(I:bT X am σ H s):∀b o,X.base.get? b=some o->s.heap.get? b=some o:=fun b o e=>(I.bs b o e).1
theorem bT.mod(I:bT X am σ H s):Mod X.K X.mg X.base:=I.ok.mod
theorem bT.kIn(I:bT X am σ H s):X.K.In s.heap:=I.ok.mod.kin.keeps I.bk
theorem bT.lt(I:bT X am σ H s):X.env.locals<s.heap.objs.size:=let ⟨_,hn,_⟩:=I.loc;hn.lt
theorem bT.sz(I:bT X am σ H s):X.s₀.heap.objs.size<=s.heap.objs.size:=aO I.ok.above (gs I.lt)
theorem bT.nofs(I:bT X am σ H s){a:Addr}(h:s.heap.objs.size<=a):a∉X.fs:=fun hb=>by
 obtain⟨_,o,ho,_⟩:=I.ok.funs.mem hb
 exact absurd (aL (aH ho) (aO I.sz h)) (d8 _)
theorem bT.cne(I:bT X am σ H s):∀x c,X.env.cells.lookup x=some c->c≠X.env.locals:=fun x c e z=>by
 obtain⟨v,o,ho,hd⟩:=I.cell x c e
 obtain⟨m,⟨o',es,ep,ho',hd',_⟩,_⟩:=I.loc
 rw[z,ho']at ho;cases ho;rw[hd']at hd;cases hd
theorem bT.funs(I:bT X am σ H s):s.heap.FunFrames X.base X.outer:=by
 have all:∀(l:List Env),(∀b∈tF l,b∈X.fs)->X.s₀.heap.FunFrames X.base l->s.heap.FunFrames X.base l:=by
  intro l
  induction l with
  |nil=>intro _ _;trivial
  |cons env r ih=>
   intro hs hl
   obtain⟨hk,⟨L,o,hf,hn,ho,hd⟩,hr⟩:=hl
   have hL:L∈X.fs:=hs L (by unfold tF;rw[gM,hf];exact bS)
   obtain⟨sl,e⟩:=I.base.slot L o ho (I.ok.frf L hL) hL fun z=>I.ok.exfs L z hL
   exact⟨hk,⟨L,_,hf,hn,e,hd⟩,ih (fun b hb=>hs b (by unfold tF;rw[gM,hf];exact aU _ hb)) hr⟩
 exact all X.outer (fun _ hb=>hb) I.ok.funs
theorem bT.stack(I:bT X am σ H s):s.heap.FunFrames X.base X.stack:=by
 rcases I.ok.stk with e|⟨e,hf⟩
 ·rw[e];exact I.funs
 ·rw[e]
  obtain⟨m,hn,_⟩:=I.loc
  refine .cons (by rw[I.ok.kind];decide) hf hn ?_ I.funs
  exact Heap.get?_none_of_le (aO I.ok.bsz I.ok.above)
theorem bT.stkSub(I:bT X am σ H s):∀b∈tF X.stack,b∈X.env.locals::X.fs:=fun b hb=>by
 rcases I.ok.stk with e|⟨e,hf⟩
 ·rw[e]at hb;exact aU _ hb
 ·rw[e]at hb
  unfold tF at hb
  rw[gM,hf]at hb
  exact hb
theorem bT.stkFree(I:bT X am σ H s):∀b∈tF X.stack,H b=none:=fun b hb=>by
 rcases aT.mp (I.stkSub b hb)with e|hb
 ·rw[e];exact I.free
 ·obtain⟨_,o,ho,_⟩:=I.ok.funs.mem hb
  exact I.base.free b o ho (I.ok.frf b hb) fun z=>I.ok.exfs b z hb
theorem bT.step{g':Array GenState}{t':Nat}{d':Drawn}{ch:List Addr}(I:bT X am σ H s)
  (Lk:∀b∈ch,(b∈X.ex\/X.s₀.heap.objs.size<=b)/\b≠X.env.locals/\(∀x c,X.env.cells.lookup x=some c->c≠b)/\∀p∈X.pn++am,p.1≠b)
  (keep:∀b o,b≠X.env.locals->b∉X.fs->b∉ch->s.heap.get? b=some o->H b=none->h'.get? b=some o)
  (slot:∀b o,b≠X.env.locals->b∈X.fs->b∉ch->s.heap.get? b=some o->H b=none->∃sl,h'.get? b=some { o with slots:=sl }) (free:∀b o,b∉ch->s.heap.get? b=some o->H b=none->H' b=none)
  (there:∀b o,b∉ch->s.heap.get? b=some o->∃o',h'.get? b=some o')
  (tups:∀b xs,H b=some (.tup xs)->H' b=some (.tup xs)) (frzs:∀b o u,H b=some (.frz o u)->H' b=some (.frz o u)) (tbls:∀b ps,H b=some (.tbl ps)->∃more,H' b=some (.tbl (ps++more)))
  (ns:∀m,s.heap.Ns X.env.locals m->h'.Ns X.env.locals m) (hok:uN X.prog X.w t' H' h') (hg:AllBare g') (hk:s.toks<=t') :
  bT X am σ H' { s with heap:=h',gens:=g',drawn:=d',toks:=t' }:=by
 have neL:∀b o,X.s₀.heap.get? b=some o->b≠X.env.locals:=fun b o e=>a9 (aL (aH e) I.ok.above)
 have neC:∀b o,X.s₀.heap.get? b=some o->b∉X.ex->b∉ch:=fun b o e hx hb=>by
  rcases(Lk b hb).1 with z|z
  ·exact hx z
  ·exact absurd (aL (aH e) z) (d8 _)
 have cellK:∀x c,X.env.cells.lookup x=some c->∀v,s.heap.IsCell c v->h'.IsCell c v:=fun x c e v zq=>by
  obtain⟨o,ho,hd⟩:=zq
  have nch:c∉ch:=fun z=>(Lk c z).2.2.1 x c e rfl
  by_cases hc:c∈X.fs
  ·obtain⟨sl,q⟩:=slot c o (I.cne x c e) hc nch ho (I.freeC x c e)
   exact⟨_,q,hd⟩
  ·exact⟨o,keep c o (I.cne x c e) hc nch ho (I.freeC x c e),hd⟩
 refine⟨I.ok,I.os,hg,⟨fun b o e n hb hx=>?_,fun b o e n hb hx=>?_,fun b o e n hx=>?_,fun b o e hx=>?_,fun b xs e=>tups b xs (I.base.tups b xs e),fun b o xs e=>frzs b o xs (I.base.frzs b o xs e),fun b ps e=>?_⟩,?_,fun x c e=>?_,?_,fun x c e=>?_,fun p hp=>?_,hok,I.len,aL I.pos hk,aO I.tk hk⟩
 ·exact keep b o (neL b o e) hb (neC b o e hx) (I.base.keep b o e n hb hx) (I.base.free b o e n hx)
 ·obtain⟨sl,e1⟩:=I.base.slot b o e n hb hx
  obtain⟨sl',e2⟩:=slot b _ (neL b o e) hb (neC b o e hx) e1 (I.base.free b o e n hx)
  exact⟨sl',e2⟩
 ·obtain⟨o',e1⟩:=I.base.there b o e hx
  exact free b o' (neC b o e hx) e1 (I.base.free b o e n hx)
 ·obtain⟨o',e1⟩:=I.base.there b o e hx
  exact there b o' (neC b o e hx) e1
 ·obtain⟨m1,e1⟩:=I.base.tbls b ps e
  obtain⟨m2,e2⟩:=tbls b _ e1
  exact⟨m1++m2,by rw[e2,Array.append_assoc]⟩
 ·obtain⟨m,hn,hl⟩:=I.loc
  refine⟨m,ns m hn,fun i x v e1 e2 e3=>?_⟩
  obtain⟨u,r,l⟩:=hl i x v e1 e2 e3
  refine⟨u,r.up hk,?_⟩
  rcases l with l|⟨k,c,e,z⟩
  ·exact .inl l
  ·exact .inr ⟨k,c,e,cellK x c e _ z⟩
 ·obtain⟨v,z⟩:=I.cell x c e
  exact⟨v,cellK x c e v z⟩
 ·obtain⟨m,⟨o,_,_,ho,_⟩,_⟩:=I.loc
  exact free _ o (fun z=>(Lk _ z).2.1 rfl) ho I.free
 ·obtain⟨v,o,ho,hd⟩:=I.cell x c e
  exact free c o (fun z=>(Lk c z).2.2.1 x c e rfl) ho (I.freeC x c e)
 ·obtain⟨e,n,ne,nf,d⟩:=I.pin p hp
  have nch:p.1∉ch:=fun z=>(Lk p.1 z).2.2.2 p hp rfl
  exact⟨keep p.1 p.2 ne nf nch e n,free p.1 p.2 nch e n,ne,nf,d⟩
theorem bT.un{t':Nat}(I:bT X am σ H s)(u:Un X.fs [] H H' s.heap h')(hok:uN X.prog X.w t' H' h')(hk:s.toks<=t':=by first|exact aC _|exact bx _|assumption|omega):bT X am σ H' { s with heap:=h',toks:=t' }:=by
 obtain⟨m,⟨o,es,ep,ho,r⟩,_⟩:=id I.loc
 obtain⟨sl,hL⟩:=u.any ho I.free #[15]
 exact I.step (g':=s.gens) (d':=s.drawn) (ch:=[]) (fun _ z=>nomatch z) (fun b o _ hb _ e n=>u.keep b o e n hb #[15]) (fun b o _ hb _ e n=>u.slot b o e n hb #[15]) (fun b o _ e n=>u.free b o e n #[15]) (fun b o _ e=>u.there b o e #[15]) u.tups u.frzs u.tbls (fun m' hm=>by
  obtain⟨o',es',ep',ho',r'⟩:=hm
  rw[ho]at ho';cases ho'
  exact⟨_,es',ep',hL,r'⟩) hok I.bare hk
theorem bT.call{g':Array GenState}{t':Nat}{d':Drawn}{ch:List Addr}(I:bT X am σ H s)(u:Un (tF X.stack) ch H H' s.heap h')(hok:uN X.prog X.w t' H' h')(hg:AllBare g')
  (Lk:∀b∈ch,(b∈X.ex\/X.s₀.heap.objs.size<=b)/\b≠X.env.locals/\(∀x c,X.env.cells.lookup x=some c->c≠b)/\∀p∈X.pn++am,p.1≠b) (hk:s.toks<=t') :
  bT X am σ H' { s with heap:=h',gens:=g',drawn:=d',toks:=t' }:=by
 obtain⟨m,⟨o,es,ep,ho,r⟩,_⟩:=id I.loc
 obtain⟨sl,hL⟩:=u.any ho I.free fun z=>(Lk _ z).2.1 rfl
 exact I.step (ch:=ch) Lk (fun b o hL hb hc e n=>u.keep b o e n (fun z=>(aT.mp (I.stkSub b z)).elim hL hb) hc) (fun b o _ _ hc e n=>u.any e n hc) (fun b o hc e n=>u.free b o e n hc) (fun b o hc e=>u.there b o e hc) u.tups u.frzs u.tbls (fun m' hm=>by
  obtain⟨o',es',ep',ho',r'⟩:=hm
  rw[ho]at ho';cases ho'
  exact⟨_,es',ep',hL,r'⟩) hok hg hk
theorem bT.turned{t':Nat}{it:Addr}(I:bT X am σ H s)(k:∀b o,b≠it->s.heap.get? b=some o->h'.get? b=some o)(hn:H it=none)(hL:it≠X.env.locals)
  (h1:it∈X.ex\/X.s₀.heap.objs.size<=it) (h2:∀x c,X.env.cells.lookup x=some c->c≠it) (h3:∀p∈X.pn++am,p.1≠it) (hk:s.toks<=t':=by first|exact aC _|exact bx _|assumption|omega):bT X am σ H { s with heap:=h',toks:=t' }:=by
 have nit:∀b u,H b=some u->b≠it:=fun b u e z=>by rw[z,hn]at e;cases e
 refine I.step (g':=s.gens) (d':=s.drawn) (ch:=[it]) (fun b hb=>?_) (fun b o _ _ hc e _=>k b o (fun z=>hc (by simp[z])) e) (fun b o _ _ hc e _=>⟨o.slots,k b o (fun z=>hc (by simp[z])) e⟩) (fun _ _ _ _ n=>n)
  (fun b o hc e=>⟨o,k b o (fun z=>hc (by simp[z])) e⟩) (fun _ _ e=>e) (fun _ _ _ e=>e) (fun b ps e=>⟨#[],by rw[e];simp⟩) (fun m hm=>?_) (fun b u e=>?_) I.bare hk
 ·have e:b=it:=by simpa using hb
  subst e
  exact⟨h1,hL,h2,h3⟩
 ·obtain⟨o,es,ep,ho,r⟩:=hm
  exact⟨o,es,ep,k _ o (Ne.symm hL) ho,r⟩
 ·refine((I.hok b u e).up hk).stay (fun c v hc q=>k c v ?_ q) (fun _ q=>q) fun _ _ q=>q
  rcases hc with z|z
  ·rw[z];exact nit b u e
  ·exact nit c _ z
theorem bT.tok(I:bT X am σ H s)(t:Nat)(hk:s.toks<=t:=by first|exact aC _|exact bx _|assumption|omega):bT X am σ H { s with toks:=t }:=I.un (h':=s.heap) (t':=t) Un.refl (I.hok.up hk) hk
theorem bT.kept{t':Nat}(I:bT X am σ H s)(k:∀b u,s.heap.get? b=some u->h'.get? b=some u)(hk:s.toks<=t':=by first|exact aC _|exact bx _|assumption|omega):bT X am σ H { s with heap:=h',toks:=t' }:=I.un (Un.kept k) ((I.hok.kept k).up hk) hk
theorem bT.laid{a:Addr}{o:HO}{t':Nat}(I:bT X am σ H s)(k:∀b u,s.heap.get? b=some u->h'.get? b=some u)(hp:s.heap.objs.size<=a)(new:hJ X.prog X.w t' (gc H a o) h' a o)(hk:s.toks<=t':=by first|exact aC _|exact bx _|assumption|omega) :
  bT X am σ (gc H a o) { s with heap:=h',toks:=t' }:=I.un (Un.laid k hp (I.hok.fresh hp)) ((I.hok.up hk).laid k hp new) hk
theorem bT.write{x e:Addr}{o:HO}(I:bT X am σ H s)(mu:Vq (H x))(he:e=x\/H e=some (.own x))(k:∀b u,b≠e->s.heap.get? b=some u->h'.get? b=some u)(Ln:∃u,h'.get? e=some u)
  (new:hJ X.prog X.w t' (gc H x o) h' x o) (hk:s.toks<=t':=by first|exact aC _|exact bx _|assumption|omega):bT X am σ (gc H x o) { s with heap:=h',toks:=t' }:=I.un (Un.write mu he k Ln) ((I.hok.up hk).write mu he k Ln new) hk
theorem bT.pins_of{pins':List #[38]}(I:bT X am σ H s)(h:∀p∈pins',s.heap.get? p.1=some p.2/\H p.1=none/\p.1≠X.env.locals/\p.1∉X.fs/\∀v,p.2.data≠.cell v):bT X pins' σ H s:=
 ⟨I.ok,I.os,I.bare,I.base,I.loc,I.cell,I.free,I.freeC,fun p hp=>(aV.mp hp).elim (fun z=>I.pin p (bJ _ z)) (h p),I.hok,I.len,I.pos,I.tk⟩
theorem wT{N:List Str}(hN:N.Nodup)(a:N[i]?=some x)(b:N[j]?=some x):i=j:=by
 obtain⟨h1,e1⟩:=ax.mp a
 obtain⟨h2,e2⟩:=ax.mp b
 exact(List.getElem_inj hN).mp (e1.trans e2.symm)
theorem Gb{M:Model}{A:Around}{E:Value->Shared->Prop}{v:V}{Q:Unit->Shared->Prop}(I:bT X am σ H s)(hN:X.N.Nodup)(hi:X.N[i]?=some x)(hx:Ld X.env.scope x)(r:dN s.toks v u)
  (h:∀s',bT X am (σ.set i (some v)) H s'->(∃a,Heap.SameBut a s.heap s'.heap/\(a=X.env.locals\/X.env.cells.lookup x=some a))->Q () s') (hf:X.fn x=true\/X.env.scope.names.lookup x=some .local:=by first|exact .inl rfl|exact .inr rfl|assumption):wpAny M A (storeName X.env x u) Q E s:=by
 obtain⟨m,hn,hl⟩:=id I.loc
 have K0:(X.env.scope.kind==.class||(X.env.scope.kind==.module&&X.env.locals != X.env.globals))=false:=by rw[I.ok.kind];rfl
 have hiσ:i<σ.length:=by rw[I.len];exact(ax.mp hi).1
 have cne:=I.cne
 have tracked:∀{a:Addr} {h':Heap},(∃o,s.heap.get? a=some o/\H a=none)->Heap.SameBut a s.heap h'->uN X.prog X.w s.toks H h':=fun{a h'} ha hs b ob e=>by
  obtain⟨_,_,hfree⟩:=ha
  refine(I.hok b ob e).stay (fun c w' hc q=>(hs.2 c ?_).trans q) (fun _ q=>q) fun _ _ q=>q
  rintro rfl
  rcases hc with rfl|hc
  ·rw[hfree]at e;cases e
  ·rw[hfree]at hc;cases hc
 rcases hx with hk|hk
 ·refine qp hk hn (fun h' U_ hs=>?_) K0
  obtain⟨oL,_,_,hoL,_⟩:=id hn
  refine h { s with heap:=h',toks:=s.toks+1 } ⟨I.ok,I.os,I.bare,⟨fun b o e n hb hx=>?_,fun b o e n hb hx=>?_,I.base.free,fun b o e hx=>?_,I.base.tups,I.base.frzs,I.base.tbls⟩,⟨_,U_,fun j y v' e1 e2 e3=>?_⟩,fun y c e=>?_,I.free,I.freeC,fun p hp=>?_,(tracked ⟨oL,hoL,I.free⟩ hs).up (bx _),by simpa using I.len,Nat.succ_pos _,iQ I.tk⟩ ⟨_,hs,.inl rfl⟩
  ·exact(hs.2 b (a9 (aL (aH e) I.ok.above))).trans (I.base.keep b o e n hb hx)
  ·obtain⟨sl,e1⟩:=I.base.slot b o e n hb hx
   exact⟨sl,(hs.2 b (a9 (aL (aH e) I.ok.above))).trans e1⟩
  ·obtain⟨o',e1⟩:=I.base.there b o e hx
   exact⟨o',(hs.2 b (a9 (aL (aH e) I.ok.above))).trans e1⟩
  ·by_cases hj:j=i
   ·subst hj
    rw[hi]at e1;cases e1
    rw[cq hiσ]at e2
    cases e2
    exact⟨u,r.up (bx _),.inl ⟨hk,by simp⟩⟩
   ·rw[cW (Ne.symm hj)]at e2
    obtain⟨u',r',q⟩:=hl j y v' e1 e2 e3
    refine⟨u',r'.up (bx _),?_⟩
    rcases q with⟨k,e⟩|⟨k,c,e,z⟩
    ·refine .inl ⟨k,?_⟩
     have:y≠x:=fun e=>hj (wT hN e1 (e▸hi))
     simp[this,e]
    ·exact .inr ⟨k,c,e,z.sameBut hs (cne y c e)⟩
  ·obtain⟨w',z⟩:=I.cell y c e
   exact⟨w',z.sameBut hs (cne y c e)⟩
  ·obtain⟨e,n,ne,nf,d⟩:=I.pin p hp
   exact⟨(hs.2 p.1 ne).trans e,n,ne,nf,d⟩
 ·have hfn:X.fn x=true:=by
   rcases hf with z|z
   ·exact z
   ·rw[z]at hk;cases hk
  obtain⟨c,hc⟩:=I.ok.has x (.inl hk)
  obtain⟨w',z⟩:=I.cell x c hc
  refine wpAny_storeName_cell I.ok.kind hk hc z (fun h' hc' hs=>?_)
  obtain⟨oc,hoc,hocd⟩:=id z
  refine h { s with heap:=h' } ⟨I.ok,I.os,I.bare,⟨fun b o e n hb hx=>?_,fun b o e n hb hx=>?_,I.base.free,fun b o e hx=>?_,I.base.tups,I.base.frzs,I.base.tbls⟩,⟨m,hn.sameBut hs (Ne.symm (cne x c hc)),fun j y v' e1 e2 e3=>?_⟩,fun y c' e=>?_,I.free,I.freeC,fun p hp=>?_,tracked ⟨oc,hoc,I.freeC x c hc⟩ hs,by simpa using I.len,I.pos,I.tk⟩ ⟨c,hs,.inr hc⟩
  ·exact(hs.2 b (a9 (aL (aH e) (I.ok.cab x c hfn hc)))).trans (I.base.keep b o e n hb hx)
  ·obtain⟨sl,e1⟩:=I.base.slot b o e n hb hx
   exact⟨sl,(hs.2 b (a9 (aL (aH e) (I.ok.cab x c hfn hc)))).trans e1⟩
  ·obtain⟨o',e1⟩:=I.base.there b o e hx
   exact⟨o',(hs.2 b (a9 (aL (aH e) (I.ok.cab x c hfn hc)))).trans e1⟩
  ·by_cases hj:j=i
   ·subst hj
    rw[hi]at e1;cases e1
    rw[cq hiσ]at e2
    cases e2
    exact⟨u,r,.inr ⟨.inl hk,c,hc,hc'⟩⟩
   ·rw[cW (Ne.symm hj)]at e2
    obtain⟨u',r',q⟩:=hl j y v' e1 e2 e3
    refine⟨u',r',?_⟩
    rcases q with q|⟨k,c',e,z'⟩
    ·exact .inl q
    ·refine .inr ⟨k,c',e,z'.sameBut hs ?_⟩
     rintro rfl
     exact hj (wT hN e1 (I.ok.inj _ _ _ e hc▸hi))
  ·by_cases hcc:c'=c
   ·subst hcc;exact⟨_,hc'⟩
   ·obtain⟨w2,z2⟩:=I.cell y c' e
    exact⟨w2,z2.sameBut hs hcc⟩
  ·obtain⟨e,n,ne,nf,d⟩:=I.pin p hp
   refine⟨(hs.2 p.1 ?_).trans e,n,ne,nf,d⟩
   intro q
   rw[q,hoc]at e
   have q':oc=p.2:=bC e
   exact d w' (by rw[<- q'];exact hocd)
theorem wU{M:Model}{A:Around}{E:Value->Shared->Prop}{v:V}{Q:Unit->Shared->Prop}(I:bT X am σ H s)(hN:X.N.Nodup)(hi:X.N[i]?=some x)(hx:Ld X.env.scope x)(r:dN s.toks v u)
  (h:∀s',bT X am (σ.set i (some v)) H s'->Q () s') (hf:X.fn x=true\/X.env.scope.names.lookup x=some .local:=by first|exact .inl rfl|exact .inr rfl|assumption):wpAny M A (storeName X.env x u) Q E s:=
 Gb I hN hi hx r (fun s' I' _=>h s' I') hf
theorem bT.call'{s':Shared}{ch:List Addr}(I:bT X am σ H s)(ho:s'.os=s.os)(u:Un (tF X.stack) ch H H' s.heap s'.heap)(hok:uN X.prog X.w s'.toks H' s'.heap)(hg:AllBare s'.gens)
  (Lk:∀b∈ch,(b∈X.ex\/X.s₀.heap.objs.size<=b)/\b≠X.env.locals/\(∀x c,X.env.cells.lookup x=some c->c≠b)/\∀p∈X.pn++am,p.1≠b) (hk:s.toks<=s'.toks):bT X am σ H' s':=by
 obtain⟨h',g',d',t',o'⟩:=s'
 have e:o'=s.os:=ho
 subst e
 exact I.call (g':=g') (t':=t') (d':=d') u hok hg Lk hk
end
abbrev XK:=Value->Option Addr->Hp->Prop
abbrev St:=List (Option V)
abbrev VK:=V->Hp->Prop
abbrev TE:=St->Hp->VK->Prop
abbrev TT:=St->Hp->(Bool->Hp->Prop)->Prop
abbrev TA:=St->Hp->(List V->Hp->Prop)->Prop
structure Ah where
 nx:St->Hp->Prop
 rt:VK
 bk:St->Hp->Prop:=fun _ _=>False
 ct:St->Hp->Prop:=fun _ _=>False
abbrev TS:=Ah->St->Hp->Prop
def EP(X:Cx)(am:List #[38])(σ:St)(Q:VK)(u:Value)(s':Shared):Prop:=∃v H',bT X am σ H' s'/\dN s'.toks v u/\Q v H'
def TP(X:Cx)(am:List #[38])(σ:St)(Q:Bool->Hp->Prop)(b:Bool)(s':Shared):Prop:=∃H',bT X am σ H' s'/\Q b H'
def AP(X:Cx)(am:List #[38])(σ:St)(Q:List V->Hp->Prop)(us:List Value)(s':Shared):Prop:=∃vs H',bT X am σ H' s'/\cQ s'.toks vs us/\Q vs H'
def SP(X:Cx)(am:List #[38])(D:Ah)(f:Flow)(s':Shared):Prop:=
 match f with
 |.next=>∃σ' H',bT X am σ' H' s'/\D.nx σ' H'
 |.brk=>∃σ' H',bT X am σ' H' s'/\D.bk σ' H'
 |.cont=>∃σ' H',bT X am σ' H' s'/\D.ct σ' H'
 |.ret u=>∃v σ' H',bT X am σ' H' s'/\dN s'.toks v u/\D.rt v H'
def PE(X:Cx)(e:Expr)(t:TE):Prop:=
 ∀(am:List #[38]) (s:Shared) (σ:St) (H:Hp) (Q:VK),bT X am σ H s->t σ H Q->wpAny #[5] X.A (eval e X.env) (EP X am σ Q) X.xe s
def PT(X:Cx)(e:Expr)(t:TT):Prop:=
 ∀(am:List #[38]) (s:Shared) (σ:St) (H:Hp) (Q:Bool->Hp->Prop),bT X am σ H s->t σ H Q->wpAny #[5] X.A (isTrue e X.env (eval e X.env)) (TP X am σ Q) X.xe s
def PW(X:Cx)(e:Expr)(t:TT):Prop:=
 ∀(whole:Sem Value) (am:List #[38]) (s:Shared) (σ:St) (H:Hp) (Q:Bool->Hp->Prop),bT X am σ H s->t σ H Q->wpAny #[5] X.A (isTrue e X.env whole) (TP X am σ Q) X.xe s
theorem PW.pt{X:Cx}{t:TT}(h:PW X e t):PT X e t:=h _
def PA(X:Cx)(es:List Expr)(t:TA):Prop:=
 ∀(pos:Pos) (am:List #[38]) (s:Shared) (σ:St) (H:Hp) (Q:List V->Hp->Prop),bT X am σ H s->t σ H Q->wpAny #[5] X.A (spliced (backTo pos #[64])) (AP X am σ Q) X.xe s
def PS(X:Cx)(st:Stmt)(t:TS):Prop:=
 ∀(am:List #[38]) (s:Shared) (σ:St) (H:Hp) (D:Ah),bT X am σ H s->t D σ H->wpAny #[5] X.A (exec st X.env) (SP X am D) X.xe s
def Gd(X:Cx)(st:List Stmt)(t:TS):Prop:=
 ∀(am:List #[38]) (s:Shared) (σ:St) (H:Hp) (D:Ah),bT X am σ H s->t D σ H->wpAny #[5] X.A (execs st X.env) (SP X am D) X.xe s
theorem kJ{t:Sem α}{Q Q':α->Shared->Prop}(h:wpAny M A t Q E s)(hQ:∀a s',s.toks<=s'.toks->Q a s'->Q' a s'):wpAny M A t Q' E s:=
 up (jU h (fun a s' q k=>hQ a s' k q) fun _ _ x _=>x)
theorem DD{t:Sem α}{Q Q':α->Shared->Prop}(h:wpAny M A t Q E s)(hQ:∀a s,Q a s->Q' a s):wpAny M A t Q' E s:=jU h hQ fun _ _ x=>x
end L2
variable{X:L2.Cx}{σ:L2.St}{te:L2.TE}{r:L2.V->List L2.V->L2.Hp->L2.VK->Prop}
namespace L2
open PySem PySem.Spec PyProof.Rows
section
def Sd(i:Nat):TE:=fun σ H Q=>∃v,σ[i]?=some (some v)/\Q v H
def tC(v:V):TE:=fun _ H Q=>Q v H
theorem OG{pos:Pos}(hN:X.N[i]?=some x)(hv:Sc X.env.scope x)(hd:#[43]=false:=by decide)(DC:(x==("__classdict__":Str))=false:=by decide):PE X (.Name x pos) (Sd i):=by
 walk_at "9"
 obtain⟨v,e,h⟩:=h
 obtain⟨m,hn,hl⟩:=I.loc
 obtain⟨u,r,l⟩:=hl i x v hN e hv
 have lg:EP X am σ Q u s:=⟨v,H,I,r,h⟩
 rcases l with⟨hk,hm⟩|⟨hk,c,hc,iP⟩
 ·exact wpAny_Name (wpAny_loadName_local I.ok.kind hk hn hm lg) hd
 ·rcases hk with hk|hk
  ·exact wpAny_Name (wpAny_loadName_cell I.ok.kind hk hc iP lg) hd
  ·exact wpAny_Name (wpAny_loadName_free I.ok.kind hk hc iP lg DC) hd
theorem OH{i j pos}:PE X (.Constant (.int i) j pos) (tC (.int i)):=fun _ _ _ H _ I h=>wpAny_Constant_int ⟨.int i,H,I.tok _,⟨_,rfl⟩,h⟩
theorem Se{b j pos}:PE X (.Constant (.bool b) j pos) (tC (.bl b)):=fun _ _ _ H _ I h=>Constant_bool ⟨.bl b,H,I,rfl,h⟩
theorem OI{j pos}:PE X (.Constant .none j pos) (tC .non):=fun _ _ _ H _ I h=>sH ⟨.non,H,I,rfl,h⟩
theorem bT.tkS(I:bT X am σ H s):dN (s.toks+1) (.str x) (.str x s.toks):=⟨⟨s.toks,fun _=>⟨I.pos,cu _⟩⟩,rfl⟩
theorem OJ{x j pos}:PE X (.Constant (.str x) j pos) (tC (.str x)):=fun _ _ _ H _ I h=>Calls.Constant_str ⟨.str x,H,I.tok _,I.tkS,h⟩
def Gl(X:Cx)(x:Str):Prop:=X.env.kindOf x=some .globalImplicit
theorem tH{E:Value->Shared->Prop}{pos:Pos}(I:bT X am σ H s)(hg:Gl X x)(hm:X.mg x=some u)(h:Q u s)
  (hd:#[43]=false:=by decide):wpAny #[5] X.A (eval (.Name x pos) X.env) Q E s:=
 m9 I.ok.kind hg (Calls.loadGlobal_global (by rw[I.ok.glob];exact I.mod.glob.keeps I.bk) hm h) hd
theorem qx{E:Value->Shared->Prop}{pos:Pos}(I:bT X am σ H s)(hg:Gl X x)(hm:X.mg x=none)(hv:bootBuiltins x=some u)(h:Q u s)
  (hn:x ≠ "__name__":=by decide) (hd:#[43]=false:=by decide):wpAny #[5] X.A (eval (.Name x pos) X.env) Q E s:=by
 obtain⟨mb,h1,h2⟩:=I.mod.blt
 exact m9 I.ok.kind hg (Calls.loadGlobal_builtin (by rw[I.ok.glob];exact I.mod.glob.keeps I.bk) hm (by rw[I.ok.blt];exact h1.keeps I.bk) ((h2 x hn).trans hv) h) hd
theorem Ai{v:V}{pos:Pos}(hg:Gl X x)(hm:X.mg x=some u)(r:dN 0 v u)(hd:#[43]=false:=by decide):PE X (.Name x pos) (tC v):=
 fun _ _ _ H _ I h=>tH I hg hm ⟨v,H,I,r.up (cE _),h⟩ hd
theorem Fg{v:V}{pos:Pos}(hg:Gl X x)(hm:X.mg x=none)(hv:bootBuiltins x=some u)(r:dN 0 v u)(hn:x ≠ "__name__":=by decide)(hd:#[43]=false:=by decide):PE X (.Name x pos) (tC v):=
 fun _ _ _ H _ I h=>qx I hg hm hv ⟨v,H,I,r.up (cE _),h⟩ hn hd
variable{a b:Expr}{ta tb:TE}
def PC(X:Cx)(op:CmpOp)(a b:Expr)(t:TE):Prop:=
 ∀(am:List #[38]) (s:Shared) (σ:St) (H:Hp) (Q:VK),bT X am σ H s->t σ H Q ->
  wpAny #[5] X.A (eval a X.env) (fun v s₁=>wpAny #[5] X.A (eval b X.env) (fun u s₂=>wpAny #[5] X.A (compareOp op v u) (EP X am σ Q) X.xe s₂) X.xe s₁) X.xe s
theorem BL(b:Expr)(h:op≠.In)(h2:op≠.NotIn):behindInMarks op b=false:=by
 have e1:(op==CmpOp.In)=false:=by cases op<;>first|rfl|exact absurd rfl h
 have e2:(op==CmpOp.NotIn)=false:=by cases op<;>first|rfl|exact absurd rfl h2
 cases b<;>simp[behindInMarks,e1,e2]
def Sf(ta:TE):TE:=fun σ H Q=>ta σ H fun x H1=>Q (.bl (decide (x=.non))) H1
def M8(ta:TE):TE:=fun σ H Q=>ta σ H fun x H1=>Q (.bl (!decide (x=.non))) H1
theorem dN.none_iff{x:V}(r:dN nk x v):(v==Value.none)=decide (x=.non):=by
 cases x with
 |non=>cases r;rfl
 |bl _=>cases r;rfl
 |int _=>obtain⟨t,rfl⟩:=r;rfl
 |str _=>obtain⟨t,rfl⟩:=r;rfl
 |byt _=>obtain⟨t,rfl⟩:=r;rfl
 |flt _=>obtain⟨t,rfl⟩:=r;rfl
 |ref _=>cases r;rfl
 |ty _=>cases r;rfl
theorem Ht{j jl}(ha:PE X a ta):PC X .Is a (.Constant .none j jl) (Sf ta):=by
 walk_at "9"
 refine kJ (ha am s σ H _ I h) fun v s1 kt1 zq=>?_
 walk_at "12"
 exact sH (is_none_gen ⟨.bl _,H1,I1,by rw[r1.none_iff];rfl,q1⟩)
theorem Ls{j jl}(ha:PE X a ta):PC X .IsNot a (.Constant .none j jl) (M8 ta):=by
 walk_at "9"
 refine kJ (ha am s σ H _ I h) fun v s1 kt1 zq=>?_
 walk_at "12"
 exact sH (isnot_none_gen ⟨.bl _,H1,I1,by rw[r1.none_iff];rfl,q1⟩)
def tB(t:TE):TT:=fun σ H Q=>t σ H fun x H1=>∃c,x=.bl c/\Q c H1
theorem OK{t:TE}(h:PC X op a b t)(h1:behindInMarks op b=false:=by first|exact BL _ #[3] #[3]|rfl):PE X (.Compare a [op] [b] pos) t:=fun am s σ H Q I hw=>wpAny_Compare1 (h am s σ H Q I hw) h1
theorem Hu{t:TE}(h:PC X op a b t)(h1:behindInMarks op b=false:=by first|exact BL _ #[3] #[3]|rfl):PT X (.Compare a [op] [b] pos) (tB t):=by
 intro am s σ H Q I hw
 refine qr (DD (h am s σ H _ I hw) fun v s1 h1=>DD h1 fun u s2 h2=>DD h2 fun c s3 ⟨x,H1,I1,r1,q1⟩=>?_) h1
 obtain⟨d,rfl,q⟩:=q1
 cases r1
 exact iR ⟨H1,I1,q⟩
theorem OL{t:TE}(h:PE X e t)(he:∀whole,isTrue e X.env whole=(do let v <- whole;standAt e.pos;holding [v] (truthy v)):=by intro _;rfl):PT X e (tB t):=by
 intro am s σ H Q I hw
 refine isTrue_plain (kJ (h am s σ H _ I hw) fun v s1 kt1 ⟨x,H1,I1,r1,q1⟩=>?_) (he _)
 obtain⟨d,rfl,q⟩:=q1
 cases r1
 exact iR ⟨H1,I1,q⟩
variable{tA U5:TT}{gO:List Expr}
def VV(t u:TT):TT:=fun σ H Q=>t σ H fun c H1=>if c=true then u σ H1 Q else Q false H1
def Xi(t u:TT):TT:=fun σ H Q=>t σ H fun c H1=>if c=true then Q true H1 else u σ H1 Q
def VW(t:TT):TT:=fun σ H Q=>t σ H fun c H1=>Q (!c) H1
theorem Lu(ha:PT X a tA):PW X (.BoolOp .And [a] pos) tA:=by
 intro wh am s σ H Q I h
 refine isTrue_and (DD (ha am s σ H Q I h) fun c s1 e=>?_)
 cases c with
 |true=>exact isTrue_and_nil e
 |false=>exact e
theorem OM(ha:PT X a tA):PW X (.BoolOp .Or [a] pos) tA:=by
 intro wh am s σ H Q I h
 refine isTrue_or (DD (ha am s σ H Q I h) fun c s1 e=>?_)
 cases c with
 |false=>exact isTrue_or_nil e
 |true=>exact e
theorem ON(ha:PT X a tA)(hb:PW X (.BoolOp .And (b::gO) pos) U5):PW X (.BoolOp .And (a::b::gO) pos) (VV tA U5):=by
 intro wh am s σ H Q I h
 refine isTrue_and (kJ (ha am s σ H _ I h) fun c s1 kt1 zq=>?_)
 obtain⟨H1,I1,q1⟩:=zq
 cases c with
 |true=>exact hb wh am s1 σ H1 Q I1 q1
 |false=>exact⟨H1,I1,q1⟩
theorem Sg(ha:PT X a tA)(hb:PW X (.BoolOp .Or (b::gO) pos) U5):PW X (.BoolOp .Or (a::b::gO) pos) (Xi tA U5):=by
 intro wh am s σ H Q I h
 refine isTrue_or (kJ (ha am s σ H _ I h) fun c s1 kt1 zq=>?_)
 obtain⟨H1,I1,q1⟩:=zq
 cases c with
 |true=>exact⟨H1,I1,q1⟩
 |false=>exact hb wh am s1 σ H1 Q I1 q1
theorem OO(ha:PT X a tA):PT X (.UnaryOp .Not a pos) (VW tA):=by
 walk_at "9"
 exact isTrue_not (ha am s σ H (fun c H1=>Q (!c) H1) I h)
def Si(ta tb:TE):TE:=fun σ H Q=>ta σ H fun x H1=>∃c,x=.bl c/\if c=true then tb σ H1 Q else Q (.bl false) H1
def Sj(ta:TE):TE:=fun σ H Q=>ta σ H fun x H1=>∃c,x=.bl c/\Q (.bl (!c)) H1
theorem OP{op}{t:TE}(h:PE X a t):PE X (.BoolOp op [a] pos) t:=fun am s σ H Q I hw=>BoolOp_one (h am s σ H Q I hw)
theorem OQ(ha:PE X a ta)(hb:PE X (.BoolOp .And (b::gO) pos) tb):PE X (.BoolOp .And (a::b::gO) pos) (Si ta tb):=by
 walk_at "9"
 refine BoolOp_and (kJ (ha am s σ H _ I h) fun v s1 kt1 zq=>?_)
 walk_at "12"
 obtain⟨c,rfl,q1⟩:=q1
 cases r1
 refine iR ?_
 cases c with
 |true=>exact hb am s1 σ H1 Q I1 q1
 |false=>exact⟨.bl false,H1,I1,rfl,q1⟩
theorem OR(ha:PE X a ta):PE X (.UnaryOp .Not a pos) (Sj ta):=by
 walk_at "9"
 refine UnaryOp_ (kJ (ha am s σ H _ I h) fun v s1 kt1 zq=>?_)
 walk_at "12"
 obtain⟨c,rfl,q1⟩:=q1
 cases r1
 exact not_of (iR ⟨.bl (!c),H1,I1,rfl,q1⟩)
def Xj(t:TT)(ta tb:TE):TE:=fun σ H Q=>t σ H fun c H1=>if c=true then ta σ H1 Q else tb σ H1 Q
theorem Hv{c:Expr}(hc:PT X c tA)(ha:PE X a ta)(hb:PE X b tb):PE X (.IfExp c a b pos) (Xj tA ta tb):=by
 walk_at "9"
 refine wpAny_IfExp (kJ (hc am s σ H _ I h) fun d s1 kt1 zq=>?_)
 obtain⟨H1,I1,q1⟩:=zq
 cases d with
 |true=>exact ha am s1 σ H1 Q I1 q1
 |false=>exact hb am s1 σ H1 Q I1 q1
end
end L2
namespace L2
open PySem PySem.Spec PyProof.Rows
def uQ(K:Frag)(H:Hp)(a:Addr)(xs:List V):Prop:=
 Rd H a (.lst xs) \/
  ∃(o:Obj) (b9:Array Value) (n:Nat),K.lookup a=some o/\o.cls=.type "list"/\o.dict=none/\o.data=.seq b9 n/\b9.size<=sizeLine/\cQ 0 xs b9.toList
def gG(K:Frag)(H:Hp)(a:Addr)(xs:List V):Prop:=
 Rd H a (.tup xs) \/
  ∃(o:Obj) (b9:Array Value) (n:Nat),K.lookup a=some o/\o.cls=.type "tuple"/\o.data=.seq b9 n/\b9.size<=sizeLine/\cQ 0 xs b9.toList
def VX:Value->Option V
 |.none=>some .non
 |.bool b=>some (.bl b)
 |.int i _=>some (.int i)
 |.str x _=>some (.str x)
 |.bytes b _=>some (.byt b)
 |.float b _=>some (.flt b)
 |.ref a=>some (.ref a)
 |.type n=>some (.ty n)
 |_=>none
theorem dN.abs{x:V}(r:dN nk x u):VX u=some x:=by
 cases x with
 |non=>cases r;rfl
 |bl _=>cases r;rfl
 |int _=>obtain⟨t,rfl⟩:=r;rfl
 |str _=>obtain⟨t,rfl⟩:=r;rfl
 |byt _=>obtain⟨t,rfl⟩:=r;rfl
 |flt _=>obtain⟨t,rfl⟩:=r;rfl
 |ref _=>cases r;rfl
 |ty _=>cases r;rfl
theorem dN.inj{x y:V}(r:dN nk x u)(q:dN nk y u):x=y:=bC (r.abs.symm.trans q.abs)
theorem cQ.inj:∀{xs ys:List V} {us:List Value},cQ nk xs us->cQ nk ys us->xs=ys
 |_,_,_,.nil,.nil=>rfl
 |_,_,_,.cons r t,.cons r' t'=>by rw[r.inj r',cQ.inj t t']
section
variable{a:Addr}{ys:List V}
theorem uQ.of(h:H a=some (.lst xs)):uQ K H a xs:=.inl (.inl h)
theorem gG.of(h:H a=some (.tup xs)):gG K H a xs:=.inl (.inl h)
theorem bT.list(I:bT X am σ H s)(h:uQ X.K H a xs):∃b9:List Value,cQ s.toks xs b9/\PlainL s.heap a b9.toArray/\xs.length<=sizeLine:=by
 rcases h with h|⟨o,b9,n,hk,hc,hd,hs,hz,r⟩
 ·obtain⟨z,b9,n,r,e⟩:=h.ok I.hok
  exact⟨b9,r,⟨_,n,e,rfl,rfl,rfl⟩,z⟩
 ·refine⟨b9.toList,r.up (cE _),⟨o,n,I.kIn a o hk,hc,hd,by simpa using hs⟩,?_⟩
  have e:=r.length
  simp only[eW]at e
  omega
theorem bT.tuple(I:bT X am σ H s)(h:gG X.K H a xs):∃b9:List Value,cQ s.toks xs b9/\IsTup s.heap a b9.toArray/\xs.length<=sizeLine:=by
 rcases h with h|⟨o,b9,n,hk,hc,hs,hz,r⟩
 ·obtain⟨z,b9,r,p⟩:=h.ok I.hok
  exact⟨b9,r,p,z⟩
 ·refine⟨b9.toList,r.up (cE _),⟨o,I.kIn a o hk,hc,n,by simpa using hs⟩,?_⟩
  have e:=r.length
  simp only[eW]at e
  omega
theorem bT.list_inj(I:bT X am σ H s)(h:uQ X.K H a xs)(h':uQ X.K H a ys):xs=ys:=by
 obtain⟨b9,r,⟨o,n,e,_,_,d⟩,_⟩:=I.list h
 obtain⟨its',r',⟨o',n',e',_,_,d'⟩,_⟩:=I.list h'
 rw[e]at e';cases e'
 rw[d]at d'
 injection d' with d1 _
 have:b9=its':=by simpa using iy Array.toList d1
 subst this
 exact r.inj r'
theorem bT.tuple_inj(I:bT X am σ H s)(h:gG X.K H a xs)(h':gG X.K H a ys):xs=ys:=by
 obtain⟨b9,r,⟨o,e,_,n,d⟩,_⟩:=I.tuple h
 obtain⟨its',r',⟨o',e',_,n',d'⟩,_⟩:=I.tuple h'
 rw[e]at e';cases e'
 rw[d]at d'
 injection d' with d1 _
 have:b9=its':=by simpa using iy Array.toList d1
 subst this
 exact r.inj r'
end
section
end
section
variable{st:Stmt}{gO:List Stmt}{t u:TS}
def Sk:TS:=fun D σ H=>D.nx σ H
def VY(t u:TS):TS:=fun D σ H=>t { D with nx:=u D } σ H
theorem Lw:Gd X [] Sk:=fun _ _ σ H _ I h=>jI ⟨σ,H,I,h⟩
theorem Hw(h1:PS X st t)(h2:Gd X gO u):Gd X (st::gO) (VY t u):=by
 intro am s σ H D I h
 refine wpAny_execs_cons (DD (h1 am s σ H { D with nx:=u D } I h) fun f s1 q=>?_)
 cases f with
 |next=>
  obtain⟨σ',H',I',q⟩:=q
  exact h2 am s1 σ' H' D I' q
 |ret v=>exact q
 |brk=>exact q
 |cont=>exact q
theorem Lx(h1:PS X st t):Gd X [st] t:=by
 intro am s σ H D I h
 refine wpAny_execs_cons (DD (h1 am s σ H D I h) fun f s1 q=>?_)
 cases f with
 |next=>exact jI q
 |ret v=>exact q
 |brk=>exact q
 |cont=>exact q
def OS:TS:=fun D σ H=>D.bk σ H
def Sl:TS:=fun D σ H=>D.ct σ H
theorem Hy:PS X (.Break pos) OS:=fun _ _ σ H _ I h=>wpAny_Break ⟨σ,H,I,h⟩
theorem BM:PS X (.Continue pos) Sl:=fun _ _ σ H _ I h=>wpAny_Continue ⟨σ,H,I,h⟩
theorem bT.quiet(I:bT X am σ H s):interactive X.env=false:=by simp[interactive,I.ok.kind]
def Sn(te:TE):TS:=fun D σ H=>te σ H fun _ H1=>D.nx σ H1
theorem Ly(he:PE X e te)(hs:swapsWith e none pos.line X.env=pure false:=by rfl):PS X (.Expr e pos) (Sn te):=by
 intro am s σ H D I h
 exact wpAny_Expr_any (kJ (he am s σ H _ I h) fun v s1 kt1 ⟨x,H1,I1,r1,q1⟩=>⟨σ,H1,I1,q1⟩) I.quiet hs
def VZ(te:TE):TS:=fun D σ H=>te σ H D.rt
theorem OT(he:PE X e te):PS X (.Return (some e) pos) (VZ te):=by
 intro am s σ H D I h
 exact wpAny_Return_some (kJ (he am s σ H _ I h) fun v s1 kt1 ⟨x,H1,I1,r1,q1⟩=>⟨x,σ,H1,I1,r1,q1⟩)
def V0(c:TT)(t u:TS):TS:=fun D σ H=>c σ H fun b H1=>if b=true then t D σ H1 else u D σ H1
theorem So{c:Expr}{a b:List Stmt}{tc:TT}(hc:PT X c tc)(ha:Gd X a t)(hb:Gd X b u):PS X (.If c a b pos) (V0 tc t u):=by
 intro am s σ H D I h
 refine wpAny_If (kJ (hc am s σ H _ I h) fun d s1 kt1 zq=>?_)
 obtain⟨H1,I1,q1⟩:=zq
 cases d with
 |true=>exact ha am s1 σ H1 D I1 q1
 |false=>exact hb am s1 σ H1 D I1 q1
end
abbrev TG:=V->St->Hp->(St->Hp->Prop)->Prop
abbrev Lz:=List V->St->Hp->(St->Hp->Prop)->Prop
def PG(X:Cx)(RR:Expr)(t:TG):Prop:=
 ∀(am:List #[38]) (s:Shared) (σ:St) (H:Hp) (v:V) (u:Value) (Q:St->Hp->Prop),bT X am σ H s->dN s.toks v u->t v σ H Q ->
  wpAny #[5] X.A (assign RR X.env u) (fun _ s'=>∃σ' H',bT X am σ' H' s'/\Q σ' H') X.xe s
def M9(X:Cx)(ts:List Expr)(t:Lz):Prop:=
 ∀(am:List #[38]) (s:Shared) (σ:St) (H:Hp) (vs:List V) (us:List Value) (Q:St->Hp->Prop),bT X am σ H s->cQ s.toks vs us->t vs σ H Q ->
  wpAny #[5] X.A (assignInOrder ((assignEach ts X.env).map (·.2)) us) (fun _ s'=>∃σ' H',bT X am σ' H' s'/\Q σ' H') X.xe s
abbrev LA:=V->V->V->Hp->(Hp->Prop)->Prop
def Hz(X:Cx)(t:LA):Prop:=
 ∀(am:List #[38]) (s:Shared) (σ:St) (H:Hp) (o i v:V) (ov iv u:Value) (Q:Hp->Prop),bT X am σ H s->dN s.toks o ov->dN s.toks i iv->dN s.toks v u->t o i v H Q ->
  wpAny #[5] X.A (setItem ov iv u) (fun _ s'=>∃H',bT X am σ H' s'/\Q H') X.xe s
section
def M_(i:Nat):TG:=fun v σ H Q=>Q (σ.set i (some v)) H
theorem LB(hN:X.N.Nodup)(hi:X.N[i]?=some x)(hx:Ld X.env.scope x)(hf:X.fn x=true\/X.env.scope.names.lookup x=some .local:=by first|exact .inl rfl|exact .inr rfl|assumption):PG X (.Name x pos) (M_ i):=by
 intro am s σ H v u Q I r h
 exact wpAny_assign_Name (wU I hN hi hx r (fun s' I'=>⟨_,H,I',h⟩) hf)
def V1:Lz:=fun vs σ H Q=>vs=[]/\Q σ H
def Sq(t:TG)(u:Lz):Lz:=fun vs σ H Q=>∃v r,vs=v::r/\t v σ H fun σ' H'=>u r σ' H' Q
theorem LC:M9 X [] V1:=by
 intro am s σ H vs us Q I r h
 obtain⟨e,h⟩:=h
 subst e
 cases r
 exact assignInOrder_nil ⟨σ,H,I,h⟩
theorem HA{t:TG}{u:Lz}(h1:PG X e t)(h2:M9 X es u)
  (hs:(assignEach (e::es) X.env).map (·.2)=assign e X.env::(assignEach es X.env).map (·.2):=by rfl):M9 X (e::es) (Sq t u):=by
 intro am s σ H vs us Q I r h
 obtain⟨v,vr,e1,h⟩:=h
 subst e1
 cases r with
 |cons r rr=>
  rw[hs]
  refine assignInOrder_cons (kJ (h1 am s σ H _ _ _ I r h) fun _ s1 kt1 zq=>?_)
  obtain⟨σ1,H1,I1,q1⟩:=zq
  exact h2 am s1 σ1 H1 _ _ Q I1 (cQ.up kt1 rr) q1
def V2(K:Frag)(n:Nat)(t:Lz):TG:=fun v σ H Q=>∃a xs,v=.ref a/\gG K H a xs/\xs.length=n/\t xs σ H Q
theorem OU{k:Nat}{t:Lz}(hc:X.calm=true)(h:M9 X es t)
  (hn:(assignEach es X.env).length=n:=by rfl) (pM:(assignEach es X.env).findIdx? (·.1)=none:=by rfl):PG X (.Tuple es k pos) (V2 X.K n t):=by
 intro am s σ H v u Q I r hw
 obtain⟨a,xs,e1,hq,hl,hw⟩:=hw
 subst e1
 cases r
 obtain⟨b9,rv,ht,hz⟩:=I.tuple hq
 refine assign_Tuple_tuple (I.ok.hd hc) ht (by simp[hn,<- hl,rv.length]) pM fun h' hx=>?_
 have I1:bT X am σ H { s with heap:=h' }:=I.kept (t':=s.toks) fun b o e=>hx b o (a9 (aH e)) e
 exact h am _ σ H xs _ Q I1 (by simpa using rv) hw
def V3(to ti:TE)(t:LA):TG:=fun v σ H Q=>to σ H fun o H1=>ti σ H1 fun i H2=>t o i v H2 fun H3=>Q σ H3
theorem OV{i:Expr}{to ti:TE}{t:LA}(ho:PE X o to)(hi:PE X i ti)(hs:Hz X t)
  (ha:∀v,assign (.Subscript o i pos) X.env v=(do
   let ov <- holding [v] (eval o X.env)
   let iv <- holding [v,ov] (eval i X.env)
   standAt pos
   holding [v,ov,iv] (setItem ov iv v)
   release [v,ov,iv] []):=by intro _;rfl):PG X (.Subscript o i pos) (V3 to ti t):=by
 intro am s σ H v u Q I r h
 rw[ha]
 refine ag (dI (kJ (ho am s σ H _ I h) fun ov s1 kt1 zq=>?_))
 walk_at "12"
 refine ag (dI (kJ (hi am s1 σ H1 _ I1 q1) fun iv s2 kt2 zq=>?_))
 obtain⟨y,H2,I2,r2,q2⟩:=zq
 refine ag (sI (ag (dI (kJ (hs am s2 σ H2 x y v ov iv u _ I2 (r1.up kt2) r2 (r.up (aO kt1 kt2)) q2) fun _ s3 kt3 zq=>?_))))
 obtain⟨H3,I3,q3⟩:=zq
 exact wpAny_release ⟨σ,H3,I3,q3⟩
def HB(te:TE)(g:TG):TS:=fun D σ H=>te σ H fun x H1=>g x σ H1 D.nx
theorem HC{g:TG}(he:PE X e te)(hg:PG X tg g)(hs:swapsWithSole [tg] e pos.line X.env=pure false:=by rfl)(hw:swappedStores [tg] e X.env=pure none:=by rfl)
  (h1:(assignEach [tg] X.env).map (·.2)=[assign tg X.env]:=by rfl):PS X (.Assign [tg] e pos) (HB te g):=by
 intro am s σ H D I h
 refine wpAny_Assign_stores (kJ (he am s σ H _ I h) fun v s1 kt1 ⟨x,H1,I1,r1,q1⟩=>?_) hs hw
 rw[h1]
 exact DD (hg am s1 σ H1 x v _ I1 r1 q1) fun _ s2 q=>q
theorem OW(hN:X.N.Nodup)(hi:X.N[i]?=some x)(hx:Ld X.env.scope x)(he:PE X e te)(hs:swapsWith e (some (.Name x jl)) pos.line X.env=pure false:=by rfl)(hf:X.fn x=true\/X.env.scope.names.lookup x=some .local:=by first|exact .inl rfl|exact .inr rfl|assumption) :
  PS X (.Assign [.Name x jl] e pos) (HB te (M_ i)):=by
 intro am s σ H D I h
 refine wpAny_Assign_Name (kJ (he am s σ H _ I h) fun v s1 kt1 ⟨y,H1,I1,r1,q1⟩=>?_) hs
 exact wU I1 hN hi hx r1 (fun s2 I2=>⟨_,H1,I2,q1⟩) hf
end
section
def HD(c:TT)(tb:TS):TS:=fun D σ H=>∃W:Nat->St->Hp->Prop,(∃m,W m σ H)/\∀m σ H,W m σ H ->
 c σ H fun b H1=>if b=true then ∃N:St->Hp->Prop,(∀σ' H',N σ' H'->∃m',m'<m/\W m' σ' H')/\tb { D with nx:=N,ct:=N,bk:=D.nx } σ H1 else D.nx σ H1
theorem HE{c:Expr}{body:List Stmt}{tc:TT}{tb:TS}(hp:PassesOwn #[5] X.A X.env X.xe)(hc:PT X c tc)(hb:Gd X body tb):PS X (.While c body [] pos) (HD tc tb):=by
 intro am s σ H D I h
 obtain⟨W,⟨m0,w0⟩,turn⟩:=h
 refine wpAny_While (codeAny_whileLoop (fun n s'=>∃σ' H',bT X am σ' H' s'/\W n σ' H') ?_ m0 ⟨σ,H,I,w0⟩)
 rintro n s1 ⟨σ1,H1,I1,w1⟩
 refine gl hp (kJ (hc am s1 σ1 H1 _ I1 (turn n σ1 H1 w1)) fun b s2 kt2 zq=>?_)
 obtain⟨H2,I2,q2⟩:=zq
 cases b with
 |true=>
  obtain⟨N,hN,q2⟩:=q2
  rw[aJ rfl]
  refine gl hp (DD (hb am s2 σ1 H2 _ I2 q2) fun f s3 q3=>?_)
  cases f with
  |next=>
   obtain⟨σ3,H3,I3,n3⟩:=q3
   obtain⟨m',hm,w3⟩:=hN σ3 H3 n3
   exact⟨m',hm,σ3,H3,I3,w3⟩
  |cont=>
   obtain⟨σ3,H3,I3,n3⟩:=q3
   obtain⟨m',hm,w3⟩:=hN σ3 H3 n3
   exact⟨m',hm,σ3,H3,I3,w3⟩
  |brk=>exact q3
  |ret v=>exact q3
 |false=>
  rw[aW fq]
  exact jI ⟨σ1,H2,I2,q2⟩
end
structure It where
 go:Nat->Hp->Prop
 yld:Nat->Hp->V->Hp->Prop
 stop:Nat->Hp->Prop
def uR(X:Cx)(am:List #[38])(H:Hp)(b:Addr):Prop:=
 H b=none/\b≠X.env.locals/\b∉X.fs/\(b∈X.ex\/X.s₀.heap.objs.size<=b)/\(∀x c,X.env.cells.lookup x=some c->c≠b)/\∀p∈X.pn++am,p.1≠b
theorem bT.fpOk{b:Addr}(I:bT X am σ H s)(hb:s.heap.objs.size<=b)(hn:H' b=none):uR X am H' b:=by
 refine⟨hn,eR (aL I.lt hb),I.nofs hb,.inr (aO I.sz hb),fun x c e z=>?_,fun p hp z=>?_⟩
 ·obtain⟨v,q⟩:=I.cell x c e
  exact absurd (aL q.lt (by rw[z];exact hb)) (d8 _)
 ·exact absurd (aL (aH (I.pin p hp).1) (by rw[z];exact hb)) (d8 _)
structure DE(P:Program)(w:World)(K:Frag)(tg:Expr)(J:It)(fp:List Addr)(it:Addr)(tn:Nat->Heap->Prop):Prop where
 mem:it∈fp
 obj:∀i h,tn i h->∀b∈fp,∃o,h.get? b=some o/\∀v,o.data≠.cell v
 keep:∀i h h',tn i h->(∀b∈fp,∀o,h.get? b=some o->h'.get? b=some o)->tn i h'
 item:∀(X:Cx),X.prog=P->X.w=w->X.K=K->X.calm=true->∀(i:Nat) (am:List #[38]) (s:Shared) (σ:St) (H:Hp) (E:Value->Shared->Prop),bT X am σ H s->(∀b∈fp,uR X am H b)->tn i s.heap->J.go i H ->
  wpAny (model P w) X.A (pyNext (.ref it)) (fun r s1=>∃u,r=some u /\
   wpAny (model P w) X.A (letOwnedTupleGo tg (.ref it) u) (fun _ s2=>∃x H',bT X am σ H' s2/\dN s2.toks x u/\J.yld i H x H'/\tn (i+1) s2.heap/\∀b∈fp,H' b=none) E s1) E s
 done:∀(X:Cx),X.prog=P->X.w=w->X.K=K->X.calm=true->∀(i:Nat) (am:List #[38]) (s:Shared) (σ:St) (H:Hp) (E:Value->Shared->Prop),bT X am σ H s->(∀b∈fp,uR X am H b)->tn i s.heap->J.stop i H ->
  wpAny (model P w) X.A (pyNext (.ref it)) (fun r s1=>r=none/\bT X am σ H s1) E s
 self:∀(A:Around) (i:Nat) (s:Shared) (Q:Value->Shared->Prop) (E:Value->Shared->Prop),tn i s.heap->Q (.ref it) s->wpAny (model P w) A (pyIter (.ref it)) Q E s
abbrev TI:=St->Hp->(It->Hp->Prop)->Prop
def WS(X:Cx)(am:List #[38])(σ:St)(tg:Expr)(R:It->Hp->Prop)(WC:Value)(s2:Shared):Prop:=
 ∃(it:Addr) (fp:List Addr) (tn:Nat->Heap->Prop) (J:It) (H':Hp),WC=.ref it/\bT X am σ H' s2/\DE X.prog X.w X.K tg J fp it tn/\tn 0 s2.heap/\(∀b∈fp,uR X am H' b)/\R J H'
def PI(X:Cx)(tg eP:Expr)(wi:TI):Prop:=
 ∀(am:List #[38]) (s:Shared) (σ:St) (H:Hp) (R:It->Hp->Prop),bT X am σ H s->wi σ H R ->
  wpAny #[5] X.A (eval eP X.env) (fun v s1=>wpAny #[5] X.A (pyIter v) (WS X am σ tg R) X.xe s1) X.xe s
theorem Fh      {E:Value -> Shared -> Prop} {s:Shared}    {o:Obj} {n:String} {vs:Array Value} {Q:Unit -> Shared -> Prop} (ho : s.heap.get? it = some o) (hc : o.cls = .type n) (hd : o.data = .fields vs)
    (hn : ["enumerate", "zip", "dict_itemiterator", "dict_reverseitemiterator", "odict_iterator", "itertools.zip_longest", "itertools.pairwise"].contains n = false) (hQ : Q () s) : wpAny M A (letOwnedTupleGo tg (.ref it) u) Q E s := by
  unfold letOwnedTupleGo
  cases tg <;> first
    | exact ay         hQ
    | (cases u <;> first
        | exact ay         hQ
        | (refine ag         (wpAny_load ho ?_)
           rw [hc, hd]
           show wpAny M A (if (["enumerate", "zip", "dict_itemiterator", "dict_reverseitemiterator", "odict_iterator", "itertools.zip_longest", "itertools.pairwise"].contains n && vs[0]? == some (rawInt _)) = true then _ else _) Q E s
           rw [aW     (by intro h; rw [hn, Bool.false_and] at h; cases h)]
           exact ay         hQ))
def WT(K:Frag)(a:Addr):It:=
 ⟨fun i H=>∃xs x,uQ K H a xs/\xs[i]?=some x,fun i H x H'=>H'=H/\∀xs,uQ K H a xs->xs[i]?=some x,fun i H=>∃xs,uQ K H a xs/\xs.length<=i⟩
def WU(K:Frag)(a:Addr):It:=
 ⟨fun i H=>∃xs x,gG K H a xs/\xs[i]?=some x,fun i H x H'=>H'=H/\∀xs,gG K H a xs->xs[i]?=some x,fun i H=>∃xs,gG K H a xs/\xs.length<=i⟩
def Vs(lo:Int)(n:Nat):It:=⟨fun i _=>i<n,fun i H x H'=>H'=H/\x=.int (lo+i),fun i _=>n<=i⟩
theorem Ge{w:World}(a it:Addr):DE P w K tg (WT K a) [it] it (fun i h=>h.IsListIter it a i) where
 mem:=by simp
 obj:=fun i h st b hb=>by
  have e:b=it:=by simpa using hb
  subst e
  obtain⟨o,e,c,d⟩:=st
  exact⟨o,e,fun v z=>by rw[d]at z;cases z⟩
 keep:=fun i h h' st k=>st.at fun o e=>k it #[15] o e
 item:=by
  walk_at "3"
  subst hP hw hK
  obtain⟨xs,x,hq,hx⟩:=hg
  obtain⟨b9,rv,p,hz⟩:=I.list hq
  obtain⟨u,hu,ru⟩:=rv.get hx
  walk_at "4"
  refine wpAny_pyNext_list_item st p.isList (x:=u) (by simpa using hu) fun h' bt sb=>?_
  have I1:bT X am σ H { s with heap:=h' }:=I.turned (t':=s.toks) (fun b o hb e=>(sb.2 b hb).trans e) f0 f1 f3 f4 f5
  obtain⟨o,e,c,d⟩:=id bt
  exact⟨u,rfl,Fh (s:={ s with heap:=h' }) e c d #[3] ⟨x,H,I1,ru,⟨rfl,fun ys hy=>by rw[I.list_inj hy hq];exact hx⟩,bt,fun b hb=>(hf b hb).1⟩⟩
 done:=by
  walk_at "3"
  subst hP hw hK
  obtain⟨xs,hq,hx⟩:=hg
  obtain⟨b9,rv,p,hz⟩:=I.list hq
  walk_at "4"
  have hl:=rv.length
  exact wpAny_pyNext_list_end (I.ok.hd hc) st p.isList (by simp;omega) fun h' eb=>⟨rfl,I.turned (t':=s.toks) (fun b o hb e=>eb b o hb e) f0 f1 f3 f4 f5⟩
 self:=fun _ _ _ _ _ st h=>wpAny_pyIter_listiter st h
theorem DF{w:World}(a it:Addr):DE P w K tg (WU K a) [it] it (fun i h=>h.IsTupleIter it a i) where
 mem:=by simp
 obj:=fun i h st b hb=>by
  have e:b=it:=by simpa using hb
  subst e
  obtain⟨o,e,c,d⟩:=st
  exact⟨o,e,fun v z=>by rw[d]at z;cases z⟩
 keep:=fun i h h' st k=>st.at fun o e=>k it #[15] o e
 item:=by
  walk_at "3"
  subst hP hw hK
  obtain⟨xs,x,hq,hx⟩:=hg
  obtain⟨b9,rv,p,hz⟩:=I.tuple hq
  obtain⟨u,hu,ru⟩:=rv.get hx
  walk_at "4"
  refine wpAny_pyNext_tuple_item st (show s.heap.IsTuple a b9.toArray from p) (x:=u) (by simpa using hu) fun h' bt sb=>?_
  have I1:bT X am σ H { s with heap:=h' }:=I.turned (t':=s.toks) (fun b o hb e=>(sb.2 b hb).trans e) f0 f1 f3 f4 f5
  obtain⟨o,e,c,d⟩:=id bt
  exact⟨u,rfl,Fh (s:={ s with heap:=h' }) e c d #[3] ⟨x,H,I1,ru,⟨rfl,fun ys hy=>by rw[I.tuple_inj hy hq];exact hx⟩,bt,fun b hb=>(hf b hb).1⟩⟩
 done:=by
  walk_at "3"
  subst hP hw hK
  obtain⟨xs,hq,hx⟩:=hg
  obtain⟨b9,rv,p,hz⟩:=I.tuple hq
  walk_at "4"
  have hl:=rv.length
  exact wpAny_pyNext_tuple_end (I.ok.hd hc) st (show s.heap.IsTuple a b9.toArray from p) (by simp;omega) fun h' eb=>⟨rfl,I.turned (t':=s.toks) (fun b o hb e=>eb b o hb e) f0 f1 f3 f4 f5⟩
 self:=fun _ _ _ _ _ st h=>wpAny_pyIter_tupleiter st h
theorem DG{w:World}(it:Addr)(lo:Int)(n:Nat):DE P w K tg (Vs lo n) [it] it (fun i h=>IsRangeIter h it (lo+(i:Nat)*1) ((n:Int)-(i:Nat)) 1) where
 mem:=by simp
 obj:=fun i h st b hb=>by
  have e:b=it:=by simpa using hb
  subst e
  exact⟨_,st,fun v z=>by
   have z':Data.fields _=Data.cell v:=z
   cases z'⟩
 keep:=fun i h h' st k=>k it #[15] _ st
 item:=by
  walk_at "3"
  subst hP hw hK
  walk_at "4"
  have W:=Walks.range (prog:=X.prog) (w:=X.w) (I.ok.hd hc) it lo 1 n
  refine up (W.item i s _ _ hg st fun v h' tk hv bt kk hk=>?_)
  obtain⟨t,rfl⟩:=hv
  have I1:bT X am σ H { s with heap:=h',toks:=tk }:=I.turned (fun b o hb e=>kk b o (by simpa using hb) e) f0 f1 f3 f4 f5
  refine⟨_,rfl,Fh (s:={ s with heap:=h',toks:=tk }) (n:="range_iterator") bt rfl rfl #[3] ⟨.int (lo+i),H,I1,⟨t,?_⟩,⟨rfl,rfl⟩,bt,fun b hb=>(hf b hb).1⟩⟩
  rw[Int.mul_one]
 done:=by
  walk_at "3"
  subst hP hw hK
  walk_at "4"
  exact wpAny_pyNext_range_end (I.ok.hd hc) st (by have:n<=i:=hg;omega) fun h' eb=>⟨rfl,I.turned (t':=s.toks) (fun b o hb e=>eb b o hb e) f0 f1 f3 f4 f5⟩
 self:=fun _ _ _ _ _ st h=>wpAny_pyIter_rangeiter st h
end L2
namespace L2
open PySem PySem.Spec PyProof.Rows
section
def Ss(K:Frag)(tl:TE):TI:=fun σ H R=>tl σ H fun x H1=>∃a,x=.ref a/\(∃xs,uQ K H1 a xs)/\R (WT K a) H1
def V4(K:Frag)(tl:TE):TI:=fun σ H R=>tl σ H fun x H1=>∃a,x=.ref a/\(∃xs,gG K H1 a xs)/\R (WU K a) H1
theorem LD{l:Expr}{tl:TE}(hl:PE X l tl):PI X tg l (Ss X.K tl):=by
 intro am s σ H R I h
 refine kJ (hl am s σ H _ I h) fun v s1 kt1 zq=>?_
 walk_at "12"
 obtain⟨a,e,⟨xs,hq⟩,q⟩:=q1
 subst e
 cases r1
 obtain⟨b9,rv,p,hz⟩:=I1.list hq
 refine wpAny_pyIter_list p.isList ?_
 refine⟨s1.heap.objs.size,[s1.heap.objs.size],_,_,H1,rfl,I1.kept (t':=s1.toks) fun b o e=>aw _ e,Ge a _,⟨_,aD _ rfl,rfl,rfl⟩,fun b hb=>?_,q⟩
 have e:b=s1.heap.objs.size:=by simpa using hb
 subst e
 exact I1.fpOk (aC _) (I1.hok.fresh (aC _))
theorem OX{l:Expr}{tl:TE}(hl:PE X l tl):PI X tg l (V4 X.K tl):=by
 intro am s σ H R I h
 refine kJ (hl am s σ H _ I h) fun v s1 kt1 zq=>?_
 walk_at "12"
 obtain⟨a,e,⟨xs,hq⟩,q⟩:=q1
 subst e
 cases r1
 obtain⟨b9,rv,p,hz⟩:=I1.tuple hq
 refine fY (show s1.heap.IsTuple a b9.toArray from p) ?_
 refine⟨s1.heap.objs.size,[s1.heap.objs.size],_,_,H1,rfl,I1.kept (t':=s1.toks) fun b o e=>aw _ e,DF a _,⟨_,aD _ rfl,rfl,rfl⟩,fun b hb=>?_,q⟩
 have e:b=s1.heap.objs.size:=by simpa using hb
 subst e
 exact I1.fpOk (aC _) (I1.hok.fresh (aC _))
theorem HF{R:It->Hp->Prop}{lo hi:Int}{t u v:Tok}{tk:Nat}(I:bT X am σ H s)(hk:s.toks<=tk)(h1:-(2^62)<=lo)(h2:lo<2^62)(h3:-(2^62)<=hi)(h4:hi<2^62)
  (q:R (Vs lo (hi-lo).toNat) H):wpAny #[5] X.A (pyIter #[28]) (WS X am σ tg R) E { s with heap:=s.heap.push { cls:=.type "range",data:=.fields #[.int lo t,.int hi u,.int 1 v] },toks:=tk }:=by
 refine wpAny_pyIter_range (IsRange.new ..) (small_one h1 h2 h3 h4) ?_
 have I1:bT X am σ H { s with heap:=s.heap.push { cls:=.type "range",data:=.fields #[.int lo t,.int hi u,.int 1 v] },toks:=tk }:=I.kept fun b o e=>aw _ e
 refine⟨(s.heap.push { cls:=.type "range",data:=.fields #[.int lo t,.int hi u,.int 1 v] }).objs.size,[(s.heap.push { cls:=.type "range",data:=.fields #[.int lo t,.int hi u,.int 1 v] }).objs.size],_,_,H,rfl,
  I1.kept (t':=tk) fun b o e=>aw _ e,DG _ lo (hi-lo).toNat,?_,fun b hb=>?_,q⟩
 ·have e1:lo+((0:Nat):Int)*1=lo:=by simp
  have e2:(((hi-lo).toNat:Nat):Int)-((0:Nat):Int)=Builtin.Range.rangeSize lo hi 1:=by rw[rangeSize_one];split<;>omega
  show IsRangeIter _ _ (lo+((0:Nat):Int)*1) ((((hi-lo).toNat:Nat):Int)-((0:Nat):Int)) 1
  rw[e1,e2]
  exact aD _ rfl
 ·have e:b=(s.heap.push { cls:=.type "range",data:=.fields #[.int lo t,.int hi u,.int 1 v] }).objs.size:=by simpa using hb
  subst e
  exact I1.fpOk (aC _) (I1.hok.fresh (aC _))
def Su(ta:TA):TI:=fun σ H R=>ta σ H fun vs H1=>∃j:Int,vs=[.int j]/\-(2^62)<=j/\j<2^62/\R (Vs 0 j.toNat) H1
theorem Gf{a:Expr}{ta:TA}{p pos:Pos}(hg:Gl X "range")(hm:X.mg "range"=none)(ha:PA X [a] ta)(hs:starEach [a] X.env=[(false,eval a X.env)]:=by rfl):PI X tg (.Call (.Name "range" p) [a] [] pos) (Su ta):=by
 intro am s σ H R I h
 refine Call_ (qx I hg hm boot_range (eu (kJ (ha pos am s σ H _ I h) fun us s1 kt1 ⟨vs,H1,I1,r1,q1⟩=>?_) hs rfl))
 obtain⟨j,e,q1,q2,q⟩:=q1
 subst e
 cases r1 with
 |cons r rr=>
  cases rr
  obtain⟨t,rfl⟩:=r
  exact call_range_1 (HF I1 (by first|exact aC _|exact bx _|assumption|omega) #[0] #[0] q1 q2 (by simpa using q))
def V5(wi:TI)(g:TG)(tb:TS):TS:=fun D σ H=>wi σ H fun J H1=>∃W:Nat->Nat->St->Hp->Prop,(∃m,W 0 m σ H1)/\∀i m σ H,W i m σ H ->
 (J.stop i H/\D.nx σ H)\/(J.go i H/\∃N:St->Hp->Prop,(∀σ' H',N σ' H'->∃m',m'<m/\W (i+1) m' σ' H')/\∀x H',J.yld i H x H'->g x σ H' fun σ2 H2=>tb { D with nx:=N,ct:=N,bk:=D.nx } σ2 H2)
def Aj(fp:List Addr)(h:Heap):List #[38]:=fp.filterMap fun b=>(h.get? b).map fun o=>(b,o)
theorem kU{b:Addr}{o:Obj}(hb:b∈fp)(e:h.get? b=some o):(b,o)∈Aj fp h:=m_.mpr ⟨b,hb,by rw[e];rfl⟩
theorem Gh{p:Addr×Obj}(hp:p∈Aj fp h):p.1∈fp/\h.get? p.1=some p.2:=by
 obtain⟨b,hb,e⟩:=m_.mp hp
 cases q:h.get? b with
 |none=>rw[q]at e;cases e
 |some o=>
  rw[q]at e
  have e':(b,o)=p:=bC e
  subst e'
  exact⟨hb,q⟩
theorem bT.pinned(I:bT X am σ H s)(hf:∀b∈fp,uR X am H b)(ho:∀b∈fp,∃o,s.heap.get? b=some o/\∀v,o.data≠.cell v):bT X (am++Aj fp s.heap) σ H s:=
 I.pins_of fun p hp=>(aV.mp hp).elim (fun z=>I.pin p (aS _ z)) fun z=>by
  obtain⟨hb,e⟩:=Gh z
  obtain⟨f0,f1,f2,_⟩:=hf p.1 hb
  obtain⟨o,e',d⟩:=ho p.1 hb
  rw[e]at e';cases e'
  exact⟨e,f0,f1,f2,d⟩
theorem bT.unpinned{pl:List #[38]}(I:bT X (am++pl) σ H s):bT X am σ H s:=I.pins_of fun p hp=>I.pin p (aS _ (bJ _ hp))
theorem OY{body:List Stmt}{wi:TI}{g:TG}{tb:TS}{pos:Pos}(hp:PassesOwn #[5] X.A X.env X.xe)(hc:X.calm=true)(hi:PI X tg eP wi)(hg:PG X tg g)(hb:Gd X body tb)
  (hs:∀x,foldedSetIterable eP X.env x=pure x:=by intro _;rfl):PS X (.For tg eP body [] pos) (V5 wi g tb):=by
 intro am s σ H D I h
 refine wpAny_For (DD (hi am s σ H _ I h) fun v s1 h1=>DD h1 fun WC s2 h2=>?_) hs
 obtain⟨it,fp,tn,J,H2,e,I2,T,dz,f2,W,⟨m0,w0⟩,turn⟩:=h2
 subst e
 have stat:∀{H':Hp},(∀b∈fp,H' b=none)->∀b∈fp,uR X am H' b:=fun hn b hb=>⟨hn b hb,(f2 b hb).2⟩
 refine codeAny_forLoop_any (fun n s'=>∃i σ' H',bT X am σ' H' s'/\tn i s'.heap/\(∀b∈fp,H' b=none)/\W i n σ' H') ?_ m0 ⟨0,σ,H2,I2,dz,fun b hb=>(f2 b hb).1,w0⟩
 rintro n s3 ⟨i,σ3,H3,I3,nN,fr3,w3⟩
 rcases turn i n σ3 H3 w3 with⟨stop,qn⟩|⟨go,N,hN,step⟩
 ·refine gl hp (kJ (T.done X rfl rfl rfl hc i am s3 σ3 H3 X.xe I3 (stat fr3) nN stop) fun r s4 kt4 zq=>?_)
  obtain⟨hr,I4⟩:=zq
  subst hr
  exact jI ⟨σ3,H3,I4,qn⟩
 ·refine gl hp (kJ (T.item X rfl rfl rfl hc i am s3 σ3 H3 X.xe I3 (stat fr3) nN go) fun r s4 kt4 zq=>?_)
  obtain⟨u,hr,h4⟩:=zq
  subst hr
  refine gl hp (DD h4 fun _ s5 zq=>?_)
  obtain⟨x,H5,I5,r5,y5,st5,fr5⟩:=zq
  have I5':=I5.pinned (stat fr5) (T.obj _ _ st5)
  refine gl hp (kJ (hg _ s5 σ3 H5 x u _ I5' r5 (step x H5 y5)) fun _ s6 kt6 zq=>?_)
  obtain⟨σ6,H6,I6,q6⟩:=zq
  refine gl hp (DD (hb _ s6 σ6 H6 _ I6 q6) fun f s7 q7=>?_)
  have again:∀{σ7:St} {H7:Hp},bT X (am++Aj fp s5.heap) σ7 H7 s7->N σ7 H7->∃m,m<n/\∃i σ' H',bT X am σ' H' s7/\tn i s7.heap/\(∀b∈fp,H' b=none)/\W i m σ' H':=fun{σ7 H7} I7 n7=>by
   obtain⟨m',hm,w7⟩:=hN σ7 H7 n7
   refine⟨m',hm,i+1,σ7,H7,I7.unpinned,T.keep _ _ _ st5 fun b hb o e=>(I7.pin (b,o) (aS _ (aS _ (kU hb e)))).1,fun b hb=>?_,w7⟩
   obtain⟨o,e,d⟩:=T.obj _ _ st5 b hb
   exact(I7.pin (b,o) (aS _ (aS _ (kU hb e)))).2.1
  cases f with
  |next=>obtain⟨σ7,H7,I7,n7⟩:=q7;exact again I7 n7
  |cont=>obtain⟨σ7,H7,I7,n7⟩:=q7;exact again I7 n7
  |brk=>obtain⟨σ7,H7,I7,q7⟩:=q7;exact⟨σ7,H7,I7.unpinned,q7⟩
  |ret v=>obtain⟨x7,σ7,H7,I7,r7,q7⟩:=q7;exact⟨x7,σ7,H7,I7.unpinned,r7,q7⟩
end
end L2
namespace L2
open PySem PySem.Spec PyProof.Rows
abbrev R2:=V->V->Hp->VK->Prop
def qm(X:Cx)(f:Value->Value->Sem Value)(r:R2):Prop:=
 ∀(am:List #[38]) (s:Shared) (σ:St) (H:Hp) (x y:V) (v u:Value) (Q:VK),bT X am σ H s->dN s.toks x v->dN s.toks y u->r x y H Q ->
  wpAny #[5] X.A (f v u) (EP X am σ Q) X.xe s
def V6(X:Cx)(f:Value->Sem Value)(r:V->Hp->VK->Prop):Prop:=
 ∀(am:List #[38]) (s:Shared) (σ:St) (H:Hp) (x:V) (v:Value) (Q:VK),bT X am σ H s->dN s.toks x v->r x H Q ->
  wpAny #[5] X.A (f v) (EP X am σ Q) X.xe s
def jo(X:Cx)(f:Value)(r:List V->Hp->VK->Prop):Prop:=
 ∀(am:List #[38]) (s:Shared) (σ:St) (H:Hp) (xs:List V) (us:List Value) (Q:VK),bT X am σ H s->cQ s.toks xs us->r xs H Q ->
  wpAny #[5] X.A (call f us) (EP X am σ Q) X.xe s
def Sv(r:R2)(ta tb:TE):TE:=fun σ H Q=>ta σ H fun x H1=>tb σ H1 fun y H2=>r x y H2 Q
def Xk(r:V->Hp->VK->Prop)(ta:TE):TE:=fun σ H Q=>ta σ H fun x H1=>r x H1 Q
def rI(C:Int->Int->Prop)(g:Int->Int->V):R2:=fun x y H Q=>∃i j,x=.int i/\y=.int j/\C i j/\Q (g i j) H
def HG(g:Int->Int->V):R2:=fun x y H Q=>∃i j,x=.int i/\y=.int j/\Q (g i j) H
def rU(g:Int->V):V->Hp->VK->Prop:=fun x H Q=>∃i,x=.int i/\Q (g i) H
section
variable{a b c:Expr}{ta tb tc:TE}
theorem OZ(ha:PE X a ta)(hb:PE X b tb){R:V->V->Hp->Prop}(I:bT X am σ H s)
  (h:ta σ H fun x H1=>tb σ H1 fun y H2=>R x y H2) {Q:Value->Shared->Prop} {f:Value->Value->Sem Value}
  (hf:∀v u s2 x y H2,bT X am σ H2 s2->dN s2.toks x v->dN s2.toks y u->R x y H2->wpAny #[5] X.A (f v u) Q X.xe s2) :
  wpAny #[5] X.A (eval a X.env) (fun v s₁=>wpAny #[5] X.A (eval b X.env) (fun u s₂=>wpAny #[5] X.A (f v u) Q X.xe s₂) X.xe s₁) X.xe s:=by
 refine kJ (ha am s σ H _ I h) fun v s1 kt1 zq=>?_
 walk_at "12"
 refine kJ (hb am s1 σ H1 _ I1 q1) fun u s2 kt2 zq=>?_
 obtain⟨y,H2,I2,r2,q2⟩:=zq
 exact hf v u s2 x y H2 I2 (r1.up kt2) r2 q2
theorem Sw{op:Operator}{r:R2}(ho:qm X (binaryOp op) r)(ha:PE X a ta)(hb:PE X b tb):PE X (.BinOp a op b pos) (Sv r ta tb):=by
 walk_at "9"
 exact wpAny_BinOp (OZ ha hb I h fun v u s2 x y H2 I2 rx ry q=>ho am s2 σ H2 x y v u Q I2 rx ry q)
theorem Sx{op:UnaryOp}{r:V->Hp->VK->Prop}(ho:V6 X (unaryOp op) r)(ha:PE X a ta):PE X (.UnaryOp op a pos) (Xk r ta):=by
 walk_at "9"
 exact UnaryOp_ (kJ (ha am s σ H _ I h) fun v s1 kt1 ⟨x,H1,I1,r1,q1⟩=>ho am s1 σ H1 x v Q I1 r1 q1)
theorem R1{f:Value->Value->Sem Value}{C:Int->Int->Prop}{g:Int->Int->Int}
  (rule:∀(i j:Int) (t u:Tok) (s:Shared) (Q:Value->Shared->Prop) (E:Value->Shared->Prop),C i j->Q (.int (g i j) s.toks) { s with toks:=s.toks+1 }->wpAny #[5] X.A (f (.int i t) (.int j u)) Q E s) :
  qm X f (rI C fun i j=>.int (g i j)):=by
 walk_at "7"
 obtain⟨i,j,rfl,rfl,hc,q⟩:=h
 obtain⟨t,rfl⟩:=rx
 obtain⟨t',rfl⟩:=ry
 exact rule i j t t' s _ _ hc ⟨.int (g i j),H,I.tok _,⟨_,rfl⟩,q⟩
theorem O0{f:Value->Value->Sem Value}{g:Int->Int->Int}
  (rule:∀(i j:Int) (t u:Tok) (s:Shared) (Q:Value->Shared->Prop) (E:Value->Shared->Prop),Q (.int (g i j) s.toks) { s with toks:=s.toks+1 }->wpAny #[5] X.A (f (.int i t) (.int j u)) Q E s) :
  qm X f (HG fun i j=>.int (g i j)):=by
 walk_at "7"
 obtain⟨i,j,rfl,rfl,q⟩:=h
 obtain⟨t,rfl⟩:=rx
 obtain⟨t',rfl⟩:=ry
 exact rule i j t t' s _ _ ⟨.int (g i j),H,I.tok _,⟨_,rfl⟩,q⟩
theorem LF{f:Value->Value->Sem Value}{g:Int->Int->Bool}
  (rule:∀(i j:Int) (t u:Tok) (s:Shared) (Q:Value->Shared->Prop) (E:Value->Shared->Prop),Q (.bool (g i j)) s->wpAny #[5] X.A (f (.int i t) (.int j u)) Q E s) :
  qm X f (HG fun i j=>.bl (g i j)):=by
 walk_at "7"
 obtain⟨i,j,rfl,rfl,q⟩:=h
 obtain⟨t,rfl⟩:=rx
 obtain⟨t',rfl⟩:=ry
 exact rule i j t t' s _ _ ⟨.bl (g i j),H,I,rfl,q⟩
def V7(i j:Int):Prop:=0<j/\j<1073741824
def O1(i j:Int):Prop:=0<=j/\j<=1000000/\i.natAbs<2^64
def O6(i j:Int):Prop:=(-(2^64)<i/\i<2^64)\/(-(2^64)<j/\j<2^64)
theorem O6.ok{i j:Int}(h:O6 i j):IntMulOk i j:=by
 rcases h with⟨h1,h2⟩|⟨h1,h2⟩
 ·exact .of_left (intBits_le_64 h1 h2)
 ·exact .of_right (intBits_le_64 h1 h2)
theorem DH(k:Nat):(0:Int)<=2^k:=by
 rw[two_pow_cast]
 exact Int.natCast_nonneg _
theorem O7:qm X (binaryOp .Add) (HG fun i j=>.int (i+j)):=O0 fun _ _ _ _ _ _ _ q=>add_int q
theorem O8:qm X (binaryOp .Sub) (HG fun i j=>.int (i-j)):=O0 fun _ _ _ _ _ _ _ q=>sub_int q
theorem O9:qm X (binaryOp .Mult) (rI O6 fun i j=>.int (i*j)):=R1 fun _ _ _ _ _ _ _ hc q=>mul_int q hc.ok
theorem LG:qm X (binaryOp .FloorDiv) (rI V7 fun i j=>.int (i/j)):=R1 fun i j _ _ _ _ _ hc q=>by
 have h1:(0:Int)<j:=hc.1
 have h2:j<1073741824:=hc.2
 exact floordiv_int #[0] (by rw[ng i #[0]];exact q) (.inl (PyProof.noPylong_small #[0]))
theorem O_:qm X (binaryOp .Mod) (rI (fun _ j=>0<j) fun i j=>.int (i%j)):=R1 fun i j _ _ _ _ _ hc q=>by
 have h1:(0:Int)<j:=hc
 exact mod_int' #[0] (by rw[Int.fmod_eq_emod_of_nonneg i #[0]];exact q)
theorem Pa:qm X (binaryOp .Pow) (rI O1 fun i j=>.int (i^j.toNat)):=R1 fun _ _ _ _ _ _ _ hc q=>pow_int_small hc.1 hc.2.1 hc.2.2 q
theorem HH:qm X (binaryOp .LShift) (rI O1 fun i j=>.int (i*2^j.toNat)):=R1 fun _ _ _ _ _ _ _ hc q=>lshift_int_small hc.1 hc.2.1 hc.2.2 q
theorem Pc:qm X (binaryOp .RShift) (rI (fun _ j=>0<=j) fun i j=>.int (i/2^j.toNat)):=R1 fun i j _ _ _ _ _ hc q=>
 rshift_int hc (by rw[ng i (DH _)];exact q)
theorem Pd:qm X (binaryOp .BitAnd) (HG fun i j=>.int (Builtin.bitAnd i j)):=O0 fun _ _ _ _ _ _ _ q=>and_int q
theorem Xl{f:Value->Sem Value}{g:Int->Int}
  (rule:∀(i:Int) (t:Tok) (s:Shared) (Q:Value->Shared->Prop) (E:Value->Shared->Prop),Q (.int (g i) s.toks) { s with toks:=s.toks+1 }->wpAny #[5] X.A (f (.int i t)) Q E s) :
  V6 X f (rU fun i=>.int (g i)):=by
 intro am s σ H x v Q I rx h
 obtain⟨i,rfl,q⟩:=h
 obtain⟨t,rfl⟩:=rx
 exact rule i t s _ _ ⟨.int (g i),H,I.tok _,⟨_,rfl⟩,q⟩
theorem Pe:V6 X (unaryOp .USub) (rU fun i=>.int (-i)):=Xl fun _ _ _ _ _ q=>neg_int q
end
section
variable{a b c:Expr}{ta tb tc:TE}
theorem Pf{Q:VK}{k k':Bool}(I:bT X am σ H s)(q:Q (.bl k) H)(e:k=k'):EP X am σ Q (.bool k') s:=by
 subst e
 exact⟨.bl k,H,I,rfl,q⟩
theorem Sy:qm X (compareOp .Lt) (HG fun i j=>.bl (decide (i<j))):=LF fun _ _ _ _ _ _ _ q=>lt_int q
theorem Sz:qm X (compareOp .LtE) (HG fun i j=>.bl (decide (i<=j))):=LF fun _ _ _ _ _ _ _ q=>le_int q
theorem SC:qm X (compareOp .Gt) (HG fun i j=>.bl (decide (j<i))):=LF fun _ _ _ _ _ _ _ q=>gt_int q
theorem SD:qm X (compareOp .GtE) (HG fun i j=>.bl (decide (j<=i))):=LF fun _ _ _ _ _ _ _ q=>ge_int q
theorem Gi:qm X (compareOp .In) (fun x y H Q=>∃i j,x=.str i/\y=.str j/\Q (.bl (!(Builtin.Str.occurrences j i 0 j.length 1).isEmpty)) H):=by
 walk_at "7"
 obtain⟨i,j,rfl,rfl,q⟩:=h
 obtain⟨t,rfl⟩:=rx
 obtain⟨t',rfl⟩:=ry
 exact in_str (Pf I q rfl)
theorem HI(b:Expr)(h:op≠.In:=by decide)(h2:op≠.NotIn:=by decide):behindInMarks op b=false:=by
 have e1:(op==CmpOp.In)=false:=by cases op<;>first|rfl|exact absurd rfl h
 have e2:(op==CmpOp.NotIn)=false:=by cases op<;>first|rfl|exact absurd rfl h2
 cases b<;>simp[behindInMarks,e1,e2]
theorem LH{r:R2}(ho:qm X (compareOp op) r)(ha:PE X a ta)(hb:PE X b tb)(hm:behindInMarks op b=false):PE X (.Compare a [op] [b] pos) (Sv r ta tb):=by
 walk_at "9"
 exact wpAny_Compare1 (OZ ha hb I h fun v u s2 x y H2 I2 rx ry q=>ho am s2 σ H2 x y v u Q I2 rx ry q) hm
def SF(t:TE):TT:=fun σ H Q=>t σ H fun x H'=>∃k,x=.bl k/\Q k H'
theorem LI{r:R2}(ho:qm X (compareOp op) r)(ha:PE X a ta)(hb:PE X b tb)(hm:behindInMarks op b=false):PT X (.Compare a [op] [b] pos) (SF (Sv r ta tb)):=by
 walk_at "9"
 refine qr (kJ (ha am s σ H _ I h) fun v s1 kt1 ⟨x,H1,I1,r1,q1⟩=>kJ (hb am s1 σ H1 _ I1 q1) fun u s2 kt2 ⟨y,H2,I2,r2,q2⟩=>
  kJ (ho am s2 σ H2 x y v u _ I2 (r1.up kt2) r2 q2) fun c s3 kt3 ⟨z,H3,I3,r3,k,e,q3⟩=>?_) hm
 subst e
 cases r3
 exact iR ⟨H3,I3,q3⟩
theorem uS:(sizeLine:Nat)<2^63:=by rw[lM];decide
theorem bT.addS{Q:VK}{i j:Str}{t:Tk s.toks i}{t':Tk s.toks j}(I:bT X am σ H s)(q:Q (.str (i++j)) H)(hz:i.length+j.length<=sizeLine) :
  (if i.length==0 then Made.val (.str j t'.1)else if j.length==0 then Made.val (.str i t.1)else Made.str (i++j)).post (EP X am σ Q) s:=by
 split
 ·rename_i h
  have e:i++j=j:=by
   have h0:i.cps=#[]:=gX (by simpa[Str.length]using h)
   show Str.append i j=j
   cases hj:j;simp[Str.append,h0]
  rw[e]at q
  exact⟨.str j,H,I,⟨t',rfl⟩,q⟩
 ·split
  ·rename_i h
   have e:i++j=i:=by
    have h0:j.cps=#[]:=gX (by simpa[Str.length]using h)
    show Str.append i j=i
    cases hj:i;simp[Str.append,h0]
   rw[e]at q
   exact⟨.str i,H,I,⟨t,rfl⟩,q⟩
  ·exact⟨by rw[strLen_append];exact hz,⟨.str (i++j),H,I.tok _,I.tkS,q⟩⟩
theorem DI:qm X (binaryOp .Add) (fun x y H Q=>∃i j,x=.str i/\y=.str j/\i.length+j.length<=sizeLine/\Q (.str (i++j)) H):=by
 walk_at "7"
 obtain⟨i,j,rfl,rfl,hz,q⟩:=h
 obtain⟨t,rfl⟩:=rx
 obtain⟨t',rfl⟩:=ry
 exact PySem.P.add_str (I.addS q hz)
theorem qy{x:V}(r:cQ nk [x] us):∃u,us=[u]/\dN nk x u:=by
 cases r with
 |cons r1 r2=>cases r2;exact⟨_,rfl,r1⟩
theorem M'{x y:V}(r:cQ nk [x,y] us):∃u w',us=[u,w']/\dN nk x u/\dN nk y w':=by
 cases r with
 |cons r1 r2=>
  cases r2 with
  |cons r3 r4=>cases r4;exact⟨_,_,rfl,r1,r3⟩
theorem Gj(hc:X.calm=true):jo X (.builtin "max") (fun xs H Q=>∃i j,xs=[.int i,.int j]/\Q (.int (if j>i then j else i)) H):=by
 walk_at "11"
 obtain⟨i,j,rfl,q⟩:=h
 obtain⟨u,w',rfl,⟨t,rfl⟩,⟨t',rfl⟩⟩:=M' r
 refine up (max_two_ints (I.ok.hd hc) fun h' tk k hk=>⟨_,H,I.kept k,?_,q⟩)
 by_cases hj:j>i
 ·rw[aJ hj,aJ hj];exact⟨_,rfl⟩
 ·rw[aW hj,aW hj];exact⟨_,rfl⟩
theorem Gk(hc:X.calm=true):jo X (.builtin "min") (fun xs H Q=>∃i j,xs=[.int i,.int j]/\Q (.int (if j<i then j else i)) H):=by
 walk_at "11"
 obtain⟨i,j,rfl,q⟩:=h
 obtain⟨u,w',rfl,⟨t,rfl⟩,⟨t',rfl⟩⟩:=M' r
 refine up (min_two_ints (I.ok.hd hc) fun h' tk k hk=>⟨_,H,I.kept k,?_,q⟩)
 by_cases hj:j<i
 ·rw[aJ hj,aJ hj];exact⟨_,rfl⟩
 ·rw[aW hj,aW hj];exact⟨_,rfl⟩
theorem zh:jo X (.type "int") (fun xs H Q=>(∃i,xs=[.int i]/\Q (.int i) H)\/∃k,xs=[.bl k]/\Q (.int (if k then 1 else 0)) H):=by
 walk_at "11"
 rcases h with⟨i,rfl,q⟩|⟨k,rfl,q⟩
 ·obtain⟨u,rfl,t,rfl⟩:=qy r
  exact call_int_int ⟨.int i,H,I,⟨_,rfl⟩,q⟩
 ·obtain⟨u,rfl,r1⟩:=qy r
  cases r1
  exact call_int_bool ⟨.int (if k then 1 else 0),H,I.tok _,⟨_,rfl⟩,q⟩
end
end L2
namespace L2
open PySem PySem.Spec PyProof.Rows
structure DJ(h:Heap)(x dx C:Addr)(mA:Str->Option Value):Prop where
 obj:h.get? x=some (instObj C dx)
 ns:h.Ns1 dx mA
 ne:dx≠x
theorem Gm{dx:Addr}(n:h.Ns1 dx mA):∃od,h.get? dx=some od/\∀name,lookIn name od=some (mA name):=by
 obtain⟨o,es,ep,ho,hd,hk,_,hm⟩:=n
 refine⟨o,ho,fun name=>?_⟩
 have e:=hm name
 unfold nsFind findBy at e
 rw[<- Array.find?_toList]at e
 unfold lookIn
 rw[hd]
 dsimp only
 split
 ·rename_i y q
  rw[q]at e
  exact iy some e
 ·rename_i q
  rw[q]at e
  have a:es.toList.any (·.refKey)=false:=by
   rw[List.any_eq_false]
   intro y hy
   obtain⟨z,t,hkey⟩:=hk y (Array.mem_toList_iff.mp hy)
   simp[DictEntry.refKey,hkey]
  have a':¬ es.toList.any (·.refKey)=true:=by rw[a];exact fq
  rw[aW a']
  exact iy some e
theorem DJ.look{x dx:Addr}(I:DJ h x dx C mA):∃od,PySem.W.InstAt h x (instObj C dx) C (some od)/\∀name,lookIn name od=some (mA name):=
 let ⟨od,ho,hl⟩:=Gm I.ns
 ⟨od,⟨I.obj,rfl,rfl,ho⟩,hl⟩
section
variable{w:World}{x dx f:Addr}
theorem LJ{WL:Bool}(X:K.In s.heap)(I:DJ s.heap x dx C mA)(hg:plainGet K C name=true)(hh:PySem.W.hasDictIn K C=true)
  (ha:findIn K (.ref C) name=some none) (hv:mA name=some v) (VP:PySem.W.handedIn v=true) (h:Q v { s with toks:=s.toks+1 }) :
  wpAny #[7] A (getAttr (.ref x) name WL) Q E s:=by
 obtain⟨od,J,hl⟩:=I.look
 exact PySem.W.get_value X J (PySem.W.plainGet_of hg).1 (PySem.W.findObj_own hh ha rfl (by rw[hl,hv])) VP h
theorem HJ{Q:Value×List Value->Shared->Prop}(X:K.In s.heap)(I:DJ s.heap x dx C mA)(hg:plainGet K C name=true)
  (hf:findIn K (.ref C) name=some (some (.ref f))) (ht:isFn K (.ref f)=true) (hv:mA name=none) (h:Q (.ref f,[.ref x]) s) :
  wpAny #[7] A (getMethod (.ref x) name pl) Q E s:=by
 obtain⟨od,J,hl⟩:=I.look
 exact PySem.W.method_fn X J (PySem.W.plainGet_of hg).1 (PySem.W.plainGet_of hg).2 hf (dv.mp ht) (by show(lookIn name od).map (·.isSome)=some false;rw[hl,hv];rfl) h
theorem LK{ns:List Str}{Q:Unit->Shared->Prop}(X:K.In s.heap)(I:DJ s.heap x dx C mA)
  (hs:findIn K (.ref C) "__setattr__"=some (some (.builtin "object.__setattr__"))) (hp:PySem.W.plainOver K C=true) (ht:PySem.W.takerIn K C name=some none) (hh:PySem.W.hasDictIn K C=true)
  (hw:PySem.Within mA ns) (zZ:ns.length<=sizeLine)
  (h:∀h',DJ h' x dx C (fun y=>if y=name then some v else mA y)->Heap.SameBut dx s.heap h'->Q () { s with heap:=h',toks:=s.toks+2 }) :
  wpAny #[7] A (setAttr (.ref x) name v) Q E s:=by
 obtain⟨od,J,hl⟩:=I.look
 refine PySem.W.set_plain X J hs (PySem.W.osa_open (s:={ s with toks:=s.toks+1 }) (r:=none) X J hp ht fun b=>?_)
 obtain⟨cd,hc,hd'⟩:=PySem.W.any_some hh
 have hx:s.heap.get? x=some ⟨.ref C,some dx,.plain,#[]⟩:=I.obj
 refine ag (ay (ag (ag (rD hx (ag (PySem.W.Looks.here (s:={ s with toks:=s.toks+1 }) (PySem.W.looks_clsIn X hc) ?_))))))
 rw[hd']
 refine ay (a:=some dx) (ag (ay (ag ?_)))
 refine wpAny_nsSet1 (s:={ s with toks:=s.toks+1 }) I.ns fun h' Vc vJ=>?_
 obtain⟨oD,esD,epD,hoD,hdD,hcD⟩:=Vc.count (PySem.Within.cons name v hw)
 refine ag (wpAny_lookBehind hoD (by rw[hdD];exact pastItsLine_dict (aO hcD (by rw[bv];omega))) ?_)
 exact ay (h _ ⟨(vJ.2 _ (Ne.symm I.ne)).trans I.obj,Vc,I.ne⟩ vJ)
theorem HK{R:Result->Shared->Prop}{vs:List Value}(X:K.In s.heap)(hm:makesIn K C=true)
  (hi:findIn K (.ref C) "__init__"=some (some (.ref f))) (hf:PySem.W.typeIn K (.ref f)=some (.type "function"))
  (h:codeAny #[7] (A.under (.builtin "type.__call__" ⟨.ref C::vs,kw⟩)) (.call (.ref f) ⟨.ref #[8]::vs,kw⟩) (PySem.W.InitBack #[8] R)
   { s with heap:=(s.heap.push emptyDict).push (instObj C s.heap.objs.size) }) :
  codeAny #[7] A (.call (.ref C) ⟨vs,kw⟩) R s:=by
 obtain⟨hh,g,d,t,os⟩:=s
 exact PySem.W.make_core (PySem.W.makes_of X hm) (PySem.W.looks_findIn X hi) (fun self=>PySem.W.bind_fn X self hf) (.inl rfl) h
end
def qo(f:Str)(v:V):List (Str×V)->List (Str×V)
 |[]=>[(f,v)]
 |(g,x)::r=>if g=f then(g,v)::r else(g,x)::qo f v r
theorem vO(f g:Str)(v:V):∀fs:List (Str×V),(qo f v fs).lookup g=if g=f then some v else fs.lookup g
 |[]=>by
  show List.lookup g [(f,v)]=_
  by_cases h:g=f
  ·have hb:(g==f)=true:=dv.mpr h
   simp only[List.lookup,hb,aJ h]
  ·have hb:(g==f)=false:=bh.mpr h
   simp only[List.lookup,hb,aW h]
 |(k,x)::r=>by
  have ih:=vO f g v r
  rw[show qo f v ((k,x)::r)=(if k=f then(k,v)::r else(k,x)::qo f v r)from rfl]
  by_cases hk:k=f
  ·rw[aJ hk]
   by_cases h:g=k
   ·have hb:(g==k)=true:=dv.mpr h
    simp only[List.lookup,hb,aJ (h.trans hk)]
   ·have hb:(g==k)=false:=bh.mpr h
    simp only[List.lookup,hb,aW (fun e:g=f=>h (e.trans hk.symm))]
  ·rw[aW hk]
   by_cases h:g=k
   ·have hb:(g==k)=true:=dv.mpr h
    simp only[List.lookup,hb,aW (fun e:g=f=>hk (h.symm.trans e))]
   ·have hb:(g==k)=false:=bh.mpr h
    simp only[List.lookup,hb]
    exact ih
theorem uT(f:Str)(v:V):∀fs:List (Str×V),f∈(qo f v fs).map (·.1)/\∀g,g∈fs.map (·.1)->g∈(qo f v fs).map (·.1)
 |[]=>⟨by simp[qo],fun g h=>by simp at h⟩
 |(k,x)::r=>by
  obtain⟨i1,i2⟩:=uT f v r
  rw[show qo f v ((k,x)::r)=(if k=f then(k,v)::r else(k,x)::qo f v r)from rfl]
  by_cases hk:k=f
  ·rw[aJ hk]
   subst hk
   exact⟨by simp,fun g h=>by simpa using h⟩
  ·rw[aW hk]
   refine⟨?_,fun g h=>?_⟩
   ·rw[bD]
    exact aU _ i1
   ·rw[bD]at h ⊢
    rcases aT.mp h with e|e
    ·exact aT.mpr (.inl e)
    ·exact aU _ (i2 g e)
theorem vP(f:Str)(v:V):∀fs:List (Str×V),(qo f v fs).length<=fs.length+1
 |[]=>by simp[qo]
 |(k,x)::r=>by
  have ih:=vP f v r
  rw[show qo f v ((k,x)::r)=(if k=f then(k,v)::r else(k,x)::qo f v r)from rfl]
  by_cases hk:k=f
  ·rw[aJ hk,bv,bv];omega
  ·rw[aW hk,bv,bv];omega
theorem uP.some_of{v:V}{o:Option Value}(r:uP nk (some v) o):∃u,o=some u/\dN nk v u:=by
 cases o with
 |none=>exact(show False from r).elim
 |some u=>exact⟨u,rfl,r⟩
theorem uP.none_of{o:Option Value}(r:uP nk none o):o=none:=by
 cases o with
 |none=>rfl
 |some u=>exact(show False from r).elim
theorem Gn{v:V}(r:dN nk v u):PySem.W.handedIn u=true:=by
 cases v with
 |non=>cases(show u=Value.none from r);rfl
 |bl b=>cases(show u=Value.bool b from r);rfl
 |int i=>obtain⟨t,e⟩:=(show ∃t,u=Value.int i t from r);cases e;rfl
 |str x=>obtain⟨t,e⟩:=(show ∃t:Tk _ x,u=Value.str x t.1 from r);cases e;rfl
 |byt b=>obtain⟨t,e⟩:=(show ∃t,u=Value.bytes b t from r);cases e;rfl
 |flt b=>obtain⟨t,e⟩:=(show ∃t,u=Value.float b t from r);cases e;rfl
 |ref a=>cases(show u=Value.ref a from r);rfl
 |ty n=>cases(show u=Value.type n from r);rfl
section
variable{w:World}{a dx:Addr}{fs U3:List (Str×V)}
theorem wH(hok:uN P w nk H h)(e:H a=some (.ins C dx fs)):∃mA,DJ h a dx C mA/\(∀f,uP nk (fs.lookup f) (mA f))/\PySem.Within mA (fs.map (·.1))/\fs.length<=1000/\H dx=some (.own a):=by
 obtain⟨d,z,ne,ob,mA,n,r,q⟩:=(show hJ P w _ H h a (.ins C dx fs)from hok a _ e)
 exact⟨mA,⟨ob,n,ne⟩,r,q,z,d⟩
end
structure Cls(K:Frag)(C:Addr):Prop where
 pg:plainGet K C Str.empty=true
 hd:PySem.W.hasDictIn K C=true
 po:PySem.W.plainOver K C=true
 sa:findIn K (.ref C) "__setattr__"=some (some (.builtin "object.__setattr__"))
theorem Cls.get(c:Cls K C)(f:Str):plainGet K C f=true:=c.pg
def sN(K:Frag)(C:Addr)(f:Str):Prop:=findIn K (.ref C) f=some none
theorem sN.taker{f:Str}(n:sN K C f):PySem.W.takerIn K C f=some none:=by
 unfold PySem.W.takerIn
 rw[show findIn K (.ref C) f=some none from n]
 rfl
structure SH(K:Frag)(C:Addr)(m:Str)(f:Addr):Prop where
 at_:findIn K (.ref C) m=some (some (.ref f))
 fn:isFn K (.ref f)=true
 kp:keepIn K (.ref f)=true
section
variable{a dx:Addr}{fs:List (Str×V)}{f:Str}{v:V}
theorem DL{b:Bool}(I:bT X am σ H s)(e:H a=some (.ins C dx fs))(c:Cls X.K C)(n:sN X.K C f)(l:fs.lookup f=some v)
  (h:∀u s',bT X am σ H s'->dN s'.toks v u->Q u s'):wpAny #[5] A (getAttr (.ref a) f b) Q E s:=by
 obtain⟨mA,O,r,_,_,_⟩:=wH I.hok e
 obtain⟨u,hu,ru⟩:=uP.some_of (v:=v) (o:=mA f) (by rw[<- l];exact r f)
 exact LJ I.kIn O (c.get f) c.hd n hu (Gn ru) (h u _ (I.tok _) (ru.up (bx _)))
theorem wV{m:Str}{g:Addr}{Q:Value×List Value->Shared->Prop}(I:bT X am σ H s)(e:H a=some (.ins C dx fs))(c:Cls X.K C)(k:SH X.K C m g)(l:fs.lookup m=none)
  (h:Q (.ref g,[.ref a]) s):wpAny #[5] A (getMethod (.ref a) m pl) Q E s:=by
 obtain⟨mA,O,r,_,_,_⟩:=wH I.hok e
 have hn:mA m=none:=uP.none_of (by rw[<- l];exact r m)
 exact HJ I.kIn O (c.get m) k.at_ k.fn hn h
theorem DM{y:V}{Q:Unit->Shared->Prop}(I:bT X am σ H s)(e:H a=some (.ins C dx fs))(c:Cls X.K C)(n:sN X.K C f)(hl:fs.length<1000)(ry:dN s.toks y u)
  (h:∀s',bT X am σ (gc H a (.ins C dx (qo f y fs))) s'->Q () s'):wpAny #[5] A (setAttr (.ref a) f u) Q E s:=by
 obtain⟨mA,O,r,wi,_,ho⟩:=wH I.hok e
 have hz:(fs.map (·.1)).length<=sizeLine:=by rw[aF,lM];omega
 refine LK I.kIn O c.sa c.po n.taker c.hd wi hz fun h' O' sb=>h _ ?_
 have hd:∃o,h'.get? dx=some o:=let ⟨o,_,_,e',_⟩:=O'.ns;⟨o,e'⟩
 refine I.write (x:=a) (e:=dx) (by rw[e];exact True.intro) (.inr ho) (fun b q hb z=>(sb.2 b hb).trans z) hd ?_
 refine⟨by rw[df O.ne];exact ho,?_,O.ne,O'.obj,_,O'.ns,fun g=>?_,fun g hg=>?_⟩
 ·have:=vP f y fs;omega
 ·show uP _ ((qo f y fs).lookup g) (if g=f then some u else mA g)
  rw[vO]
  by_cases q:g=f
  ·rw[aJ q,aJ q];exact dN.up (oR _ _) ry
  ·rw[aW q,aW q];exact(r g).up (oR _ _)
 ·by_cases q:g=f
  ·rw[q];exact(uT f y fs).1
  ·refine(uT f y fs).2 g (wi g fun z=>hg ?_)
   show(if g=f then some u else mA g)=none
   rw[aW q];exact z
theorem bT.made(I:bT X am σ H s):bT X am σ (gc (gc H s.heap.objs.size (.own #[8])) #[8] (.ins C s.heap.objs.size []))
  { s with heap:=(s.heap.push emptyDict).push (instObj C s.heap.objs.size) }:=by
 have e1:(s.heap.push emptyDict).get? s.heap.objs.size=some emptyDict:=aD s.heap rfl
 have e2:((s.heap.push emptyDict).push (instObj C s.heap.objs.size)).get? #[8]=some (instObj C s.heap.objs.size):=by
  have:=aD (s.heap.push emptyDict) (o:=instObj C s.heap.objs.size) rfl
  rwa[bG]at this
 have e3:(s.heap.push emptyDict).Ns s.heap.objs.size (fun _=>none):=⟨emptyDict,#[],_,e1,rfl,(fun e he=>absurd he #[15]),fun _=>rfl⟩
 have I1:=I.laid (a:=s.heap.objs.size) (o:=.own #[8]) (h':=s.heap.push emptyDict) (t':=s.toks) (fun b u q=>aw _ q) (aC _) ⟨_,e1⟩
 refine I1.laid (a:=s.heap.objs.size+1) (o:=.ins C s.heap.objs.size []) (t':=s.toks) (fun b u q=>aw _ q) (Nat.le_of_eq (bG _ _)) ?_
 have ne:s.heap.objs.size≠s.heap.objs.size+1:=a9 (cu _)
 refine⟨by rw[df ne,ig],cE _,ne,e2,fun _=>none,(Heap.Ns1.of_empty e3).at fun o q=>aw _ q,fun _=>True.intro,fun y hy=>absurd rfl hy⟩
theorem LM{w:World}(hb:attributeBase e f env (eval e env)=eval e env)
  (h:wpAny #[7] A (eval e env) (fun o s₁=>wpAny #[7] A (getAttr o f true) Q E s₁) E s):wpAny #[7] A (eval (.Attribute e f pos) env) Q E s:=
 Attribute_any_ h (by rw[arm_eval_Attribute,hb])
end
def V8(K:Frag)(ta:TE)(f:Str):TE:=fun σ H Q=>ta σ H fun x H1=>∃a C dx fs v,x=.ref a/\H1 a=some (.ins C dx fs)/\Cls K C/\sN K C f/\fs.lookup f=some v/\Q v H1
def V9(K:Frag)(ta tv:TE)(f:Str):TS:=fun D σ H=>tv σ H fun y H1=>ta σ H1 fun x H2=>∃a C dx fs,x=.ref a/\H2 a=some (.ins C dx fs)/\Cls K C/\sN K C f/\fs.length<1000 /\
 D.nx σ (gc H2 a (.ins C dx (qo f y fs)))
section
variable{value:Expr}{f:Str}{WJ:Pos}{ta tv:TE}
theorem Pg(he:PE X e ta)(hb:attributeBase e f X.env (eval e X.env)=eval e X.env):PE X (.Attribute e f pos) (V8 X.K ta f):=by
 walk_at "9"
 refine LM hb (kJ (he am s σ H _ I h) fun u s1 kt1 zq=>?_)
 obtain⟨x,H1,I1,rx,a,C,dx,fs,v,ex,ea,c,n,l,q⟩:=zq
 subst ex
 obtain rfl:u=Value.ref a:=rx
 exact DL I1 ea c n l fun u' s2 I2 ru=>⟨v,H1,I2,ru,q⟩
theorem Ph(ha:PE X o ta)(hv:PE X value tv)(hs:swapsWith value (some (.Attribute o f jl)) pos.line X.env=pure false):PS X (.Assign [.Attribute o f jl] value pos) (V9 X.K ta tv f):=by
 intro am s σ H D I h
 refine plainObj_wpAny_Assign_Attribute (kJ (hv am s σ H _ I h) fun u s1 kt1 ⟨y,H1,I1,ry,q⟩=>kJ (ha am s1 σ H1 _ I1 q) fun ov s2 kt2 ⟨x,H2,I2,rx,a,C,dx,fs,ex,ea,c,n,l,q2⟩=>?_) hs
 subst ex
 obtain rfl:ov=Value.ref a:=rx
 exact DM I2 ea c n l (ry.up kt2) fun s3 I3=>⟨σ,_,I3,q2⟩
end
section
variable{c:Value}{b:Bool}
inductive wc(K:Frag)(H:Hp):V->Value->Prop where
 |non:wc K H .non (.type "NoneType")
 |bl (x:Bool):wc K H (.bl x) (.type "bool")
 |int (i:Int):wc K H (.int i) (.type "int")
 |str (x:Str):wc K H (.str x) (.type "str")
 |flt (x:UInt64):wc K H (.flt x) (.type "float")
 |lst {a:Addr} {xs:List V} (e:H a=some (.lst xs)):wc K H (.ref a) (.type "list")
 |frz {a:Addr} {o:Obj} {xs:List V} (e:H a=some (.frz o (.lst xs))):wc K H (.ref a) (.type "list")
 |tup {a:Addr} {xs:List V} (e:H a=some (.tup xs)):wc K H (.ref a) (.type "tuple")
 |dK {a:Addr} {hX:List (wS×V)} (e:H a=some (.dK hX)):wc K H (.ref a) (.type "dict")
 |dT {a:Addr} {hX:List (List wS×V)} (e:H a=some (.dT hX)):wc K H (.ref a) (.type "dict")
 |ins {a C dx:Addr} {fs:List (Str×V)} (e:H a=some (.ins C dx fs)) (cl:Cls K C) (ha:findIn K (.ref C) "__class__"=some (some (.builtin "object.__class__")))
   (hn:PySem.W.specialIn K #[29] "__get__"=some (some (.builtin "getset_descriptor.__get__"))) (VL:PySem.W.takesIn K #[29]=some true)
   (hm:PySem.W.mroIn K C (.type "object")=some true):wc K H (.ref a) (.ref C)
theorem rL{x:V}{t:Value}(I:bT X am σ H s)(rx:dN s.toks x u)(ty:wc X.K H x t)(e:kitOne X.K t c=some b)(h:∀tk,Q (.bool b) { s with toks:=tk }) :
  wpAny #[5] A (call (.builtin "isinstance") [u,c]) Q E s:=by
 cases ty with
 |non=>cases(show u=Value.none from rx);exact kia_one PySem.W.kitx_none I.kIn True.intro e (fun z=>nomatch z) h
 |bl y=>cases(show u=Value.bool y from rx);exact kia_one PySem.W.kitx_bool I.kIn True.intro e (fun z=>nomatch z) h
 |int i=>obtain⟨t,q⟩:=(show ∃t,u=Value.int i t from rx);cases q;exact kia_one PySem.W.kitx_int I.kIn True.intro e (fun z=>nomatch z) h
 |str y=>obtain⟨t,q⟩:=(show ∃t:Tk _ y,u=Value.str y t.1 from rx);cases q;exact kia_one PySem.W.kitx_str I.kIn True.intro e (fun z=>nomatch z) h
 |flt y=>obtain⟨t,q⟩:=(show ∃t,u=Value.float y t from rx);cases q;exact kia_one PySem.W.kitx_float I.kIn True.intro e (fun z=>nomatch z) h
 |@lst a xs ea=>
  cases(show u=Value.ref a from rx)
  obtain⟨_,_,n,_,h1⟩:=(show hJ X.prog X.w _ H s.heap a (.lst xs)from I.hok a _ ea)
  exact kia_one PySem.W.kitx_list I.kIn ⟨_,h1,rfl⟩ e (fun z=>nomatch z) h
 |@frz a ob xs ea=>
  cases(show u=Value.ref a from rx)
  obtain⟨_,_,_,n,_,h1⟩:=(show hJ X.prog X.w _ H s.heap a (.frz ob (.lst xs))from I.hok a _ ea)
  exact kia_one PySem.W.kitx_list I.kIn ⟨_,h1,rfl⟩ e (fun z=>nomatch z) h
 |@tup a xs ea=>
  cases(show u=Value.ref a from rx)
  obtain⟨_,_,_,p⟩:=(show hJ X.prog X.w _ H s.heap a (.tup xs)from I.hok a _ ea)
  obtain⟨o,h1,h2,_⟩:=p
  exact kia_one PySem.W.kitx_tuple I.kIn ⟨o,h1,h2⟩ e (fun z=>nomatch z) h
 |@dK a hX ea=>
  cases(show u=Value.ref a from rx)
  obtain⟨_,_,vs,_,p⟩:=(show hJ X.prog X.w _ H s.heap a (.dK hX)from I.hok a _ ea)
  obtain⟨o,es,ep,h1,h2,_⟩:=p
  exact kia_one PySem.W.kitx_dict I.kIn ⟨o,h1,h2.1⟩ e (fun z=>nomatch z) h
 |@dT a hX ea=>
  cases(show u=Value.ref a from rx)
  obtain⟨_,_,xs,_,o,es,ep,h1,h2,_⟩:=(show hJ X.prog X.w _ H s.heap a (.dT hX)from I.hok a _ ea)
  exact kia_one PySem.W.kitx_dict I.kIn ⟨o,h1,h2.1⟩ e (fun z=>nomatch z) h
 |@ins a C dx fs ea cl ha hn VL hm=>
  cases(show u=Value.ref a from rx)
  obtain⟨mA,O,_⟩:=wH I.hok ea
  obtain⟨od,J,_⟩:=O.look
  exact kia_one (PySem.W.kitx_own (cl.get _) cl.hd ha hn VL hm) I.kIn J e (fun z=>nomatch z) h
end
end L2
namespace L2
open PySem PySem.Spec PyProof.Rows
structure kg(k:Nat)(A:Around):Prop where
 hd:A.handled=none
 dp:A.depth+2*k+5<recursionLimit
 un:A.units+16*k+200<cLine
theorem kg.mono(r:kg k A)(h:j<=k):kg j A:=⟨r.hd,by have:=r.dp;omega,by have:=r.un;omega⟩
theorem kg.deeper(r:kg (k+1) A)(env:Env):kg k (A.deeper env):=
 ⟨r.hd,by have:=r.dp;show A.depth+1+2*k+5<_;omega,by have:=r.un;show A.units+3+16*k+200<_;omega⟩
theorem DN:(A.under (.builtin "type.__call__" ⟨.ref C::us,kw⟩)).depth=A.depth+1:=by
 first|rfl|simp[Around.under,Code.weight,Code.isCreation,Code.isGuard,Code.isCaller,Code.frames,Code.isFrame,guardIds]
theorem DO:(A.under (.builtin "type.__call__" ⟨.ref C::us,kw⟩)).units=A.units+1:=by
 first|rfl|simp[Around.under,Code.cUnits,Code.frames,Code.isFrame]
theorem kg.make(r:kg (k+1) A)(C:Addr)(us:List Value)(kw:List (Str×Value)):kg k (A.under (.builtin "type.__call__" ⟨.ref C::us,kw⟩)):=
 ⟨r.hd,by have:=r.dp;rw[DN];omega,by have:=r.un;rw[DO];omega⟩
theorem kg.depth(r:kg k A):A.depth<recursionLimit:=by have:=r.dp;omega
theorem kg.units(r:kg k A):A.units+64<cLine:=by have:=r.un;omega
def V_:TA:=fun _ H Q=>Q [] H
def SJ(ta:TE)(tr:TA):TA:=fun σ H Q=>ta σ H fun x H1=>tr σ H1 fun xs H2=>Q (x::xs) H2
section
variable{t:TA}
theorem uU:PA X [] V_:=fun _ _ _ _ H Q I h=>iS ⟨[],H,I,.nil,h⟩
theorem lr(ha:PE X e te)(hr:PA X es t)(hs:starEach (e::es) X.env=(false,eval e X.env)::starEach es X.env:=by rfl):PA X (e::es) (SJ te t):=by
 intro pos am s σ H Q I h
 rw[hs]
 show wpAny _ _ (spliced ((false,eval e X.env)::backTo pos #[64])) _ _ s
 refine fZ (kJ (ha am s σ H _ I h) fun u s1 kt1 zq=>?_)
 walk_at "12"
 exact kJ (hr pos am s1 σ H1 _ I1 q1) fun us s2 kt2 ⟨xs,H2,I2,r2,q2⟩=>⟨x::xs,H2,I2,.cons (r1.up kt2) r2,q2⟩
end
abbrev Sp:=List V->Hp->VK->XK->Prop
abbrev Gp:=List Env->Hp->Shared->XK->Value->Shared->Prop
structure DP(P:Program)(w:World)(K:Frag)(mg:Str->Option Value)(base:Heap)(A:Around)(outer:List Env)(s:Shared)(H:Hp):Prop where
 frames:A.frames=some outer
 mod:Mod K mg base
 bs:∀b o,base.get? b=some o->s.heap.get? b=some o/\H b=none
 bsz:base.objs.size<=s.heap.objs.size
 funs:s.heap.FunFrames base outer
 frf:∀b∈tF outer,H b=none
 hok:uN P w s.toks H s.heap
 bare:AllBare s.gens
def CE(outer:List Env)(P:Program)(w:World)(H:Hp)(s:Shared)(Q:VK)(u:Value)(s':Shared):Prop:=
 ∃v H',s'.os=s.os/\AllBare s'.gens/\Un (tF outer) [] H H' s.heap s'.heap/\uN P w s'.toks H' s'.heap/\dN s'.toks v u/\Q v H'
def CR(CX:Gp)(outer:List Env)(P:Program)(w:World)(H:Hp)(s:Shared)(Q:VK)(E:XK)(r:Result)(s':Shared):Prop:=
 match r with
 |.ok (.ret u)=>CE outer P w H s Q u s'
 |.ok _=>False
 |.error e=>CX outer H s E e s'
structure c9(P:Program)(w:World)(K:Frag)(mg:Str->Option Value)(base:Heap)(CX:Gp)(k:Nat)(f:Addr)(fd:FuncData)(ps:List Str)(sp:Sp):Prop where
 len:∀vs H Q E,sp vs H Q E->vs.length=ps.length
 run:∀(A:Around) (outer:List Env) (s:Shared) (H:Hp) (args:Args) (us:List Value) (vs:List V) (Q:VK) (E:XK),kg k A->DP P w K mg base A outer s H->(0<s.toks\/∃n,ps=[n]/\fd.scope.names.lookup n=some .local)->BindsTo s fd args (ps.zip us)->cQ s.toks vs us->sp vs H Q E ->
  codeAny (model P w) A (.call (.ref f) args) (CR CX outer P w H s Q E) s
theorem c9.mono{w:World}{CX:Gp}{f:Addr}{sp:Sp}(F:c9 P w K mg base CX j f fd ps sp)(h:j<=k) :
  c9 P w K mg base CX k f fd ps sp:=⟨F.len,fun A outer s H args us vs Q E hr=>F.run A outer s H args us vs Q E (hr.mono h)⟩
theorem c9.imp{w:World}{CX:Gp}{f:Addr}{sp Xg:Sp}(F:c9 P w K mg base CX k f fd ps sp)
  (h:∀vs H Q E,Xg vs H Q E->sp vs H Q E):c9 P w K mg base CX k f fd ps Xg:=
 ⟨fun vs H Q E q=>F.len vs H Q E (h _ _ _ _ q),fun A outer s H args us vs Q E hr he hp hb hv hs=>F.run A outer s H args us vs Q E hr he hp hb hv (h _ _ _ _ hs)⟩
theorem DP.make{w:World}(e:DP P w K mg base A outer s H)(C:Addr)(us:List Value)(kw:List (Str×Value)) :
  DP P w K mg base (A.under (.builtin "type.__call__" ⟨.ref C::us,kw⟩)) outer s H:=⟨by first|exact e.frames|(simpa[Around.under,Code.envs,Code.isFrame,pushEnvs]using e.frames),e.mod,e.bs,e.bsz,e.funs,e.frf,e.hok,e.bare⟩
section
variable{s':Shared}
theorem bT.env0(I:bT X am σ H s):DP X.prog X.w X.K X.mg X.base X.A X.stack s H:=
 ⟨I.ok.frames,I.ok.mod,I.bs,aO I.ok.bsz I.sz,I.stack,I.stkFree,I.hok,I.bare⟩
theorem bT.after{Q:VK}(I:bT X am σ H s)(h:CE X.stack X.prog X.w H s Q u s')(hk:s.toks<=s'.toks):EP X am σ Q u s':=by
 obtain⟨v,H',os,bare,un,hok,r,q⟩:=h
 obtain⟨hh,g,d,t,os'⟩:=s'
 obtain rfl:os'=s.os:=os
 exact⟨v,H',I.call (h':=hh) (g':=g) (d':=d) (t':=t) (ch:=[]) un hok bare (fun b z=>absurd z #[15]) hk,r,q⟩
end
def r6(K:Frag)(fd:FuncData)(ps:List Str)(ds:List Value):Prop:=
 ∀(s:Shared) (us:List Value),K.In s.heap->(us++ds).length=ps.length->BindsTo s fd ⟨us,[]⟩ (ps.zip (us++ds))
theorem r6.all(h:∀us:List Value,us.length=ps.length->bindArgs fd ⟨us,[]⟩=pure (ps.zip us)):r6 K fd ps []:=fun s us _ hl=>by
 rw[bd]at hl ⊢
 exact .of_eq (h us hl)
def Pi(CX:Gp)(X:Cx)(E:XK):Prop:=∀(am:List #[38]) (σ:St) (H:Hp) (s:Shared) (e:Value) (s':Shared),bT X am σ H s->s.toks<=s'.toks->CX X.stack H s E e s'->X.xe e s'
section
variable{CX:Gp}{f:Addr}{sp:Sp}{dvs:List V}{ds:List Value}{E:XK}{m:Str}{ta:TE}{t:TA}
structure Mk(K:Frag)(C f:Addr):Prop where
 makes:makesIn K C=true
 init:findIn K (.ref C) "__init__"=some (some (.ref f))
 fn:isFn K (.ref f)=true
 kp:keepIn K (.ref C)=true
theorem HL{Q:VK}(M:Mk X.K C f)(F:c9 X.prog X.w X.K X.mg X.base CX k f fd ps sp)(hr:kg (k+1) X.A)(hb:r6 X.K fd ps ds)(hd:cQ 0 dvs ds)
  (hx:Pi CX X E) (I:bT X am σ H s) (r:cQ s.toks vs us)
  (h:∀x dx,H x=none->H dx=none->dx≠x->sp (.ref x::(vs++dvs)) (gc (gc H dx (.own x)) x (.ins C dx [])) (fun v H2=>v=.non/\Q (.ref x) H2) E) :
  wpAny #[5] X.A (call (.ref C) us) (EP X am σ Q) X.xe s:=by
 have hq:=h #[8] s.heap.objs.size (I.hok.fresh (bx _)) (I.hok.fresh (aC _)) (a9 (cu _))
 have I2:=bT.made (C:=C) I
 have r2:cQ _ (V.ref #[8]::(vs++dvs)) (Value.ref #[8]::(us++ds)):=.cons rfl ((r.append (hd.up (cE _))).up (by first|exact aC _|exact oR _ _|omega))
 have hl:(Value.ref #[8]::us++ds).length=ps.length:=by
  have e:=r2.length
  rw[F.len _ _ _ _ hq]at e
  exact e.symm
 refine up (tz (HK (f:=f) I.kIn M.makes M.init (dv.mp M.fn) (jm (F.run _ X.stack _ _ ⟨Value.ref #[8]::us,[]⟩ (Value.ref #[8]::(us++ds)) _ _ E (hr.make C us [])
  (I2.env0.make C us []) (.inl I2.pos) (hb _ (Value.ref #[8]::us) I2.kIn hl) r2 hq) fun r s' hq'=>?_)))
 cases r with
 |error e=>exact fun kt=>hx am σ _ _ e s' I2 kt hq'
 |ok fl=>
  cases fl with
  |ret u=>
   have kq:s.toks<=s'.toks->_:=fun kt=>I2.after hq' kt
   refine⟨?_,fun kt=>?_⟩
   ·obtain⟨v,H',_,_,_,_,rv,ev,_⟩:=hq'
    subst ev
    exact rv
   ·obtain⟨v,H',I3,rv,ev,q3⟩:=kq kt
    exact⟨V.ref #[8],H',I3,rfl,q3⟩
  |next=>exact False.elim hq'
  |brk=>exact False.elim hq'
  |cont=>exact False.elim hq'
end
section
variable{CX:Gp}{f:Addr}{sp:Sp}{E:XK}{m:Str}{XA:Pos}{XG:List Keyword}{ta:TE}{t tk:TA}{nm:Option Str}
variable{g:List Value->List Value->List Value}{gV:List V->List V->List V}
end
structure bb(N P:List Str)(sc:Scope):Prop where
 kind:sc.kind=.function
 co:sc.isCoroutine=false
 gen:sc.isGenerator=false
 nd:N.Nodup
 pre:N.take P.length=P
 par:∀x∈P,sc.names.lookup x=some .local\/sc.names.lookup x=some .cell
 nofree:∀y∈sc.names,y.2≠.free
theorem zi:∀{binds:List (Str×Value)} {m:Str->Option Value},(∀v,(x,v)∉binds)->bindL kindOf binds m x=m x
 |[],_,_=>rfl
 |(n,v)::r,m,h=>by
  unfold bindL
  rw[zi fun w hw=>h w (aU _ hw)]
  split
  ·have:x≠n:=by rintro rfl;exact h v bS
   simp[this]
  ·rfl
theorem zj:∀{binds:List (Str×Value)} {m:Str->Option Value},(∀v,(x,v)∉binds)->bindC kindOf binds m x=m x
 |[],_,_=>rfl
 |(n,v)::r,m,h=>by
  unfold bindC
  rw[zj fun w hw=>h w (aU _ hw)]
  split
  ·rfl
  ·have:x≠n:=by rintro rfl;exact h v bS
   simp[this]
theorem zk:∀{P:List Str} {vs:List Value} {i:Nat} {m:Str->Option Value},P.Nodup->P[i]?=some x->vs[i]?=some v->kindOf x=some .local ->
  bindL kindOf (P.zip vs) m x=some v
 |[],_,_,_,_,h,_,_=>by simp at h
 |_::_,[],_,_,_,_,h,_=>by simp at h
 |p::P,w::vs,0,m,nd,h1,h2,hk=>by
  simp at h1 h2;subst h1;subst h2
  show bindL kindOf ((p,w)::P.zip vs) m p=_
  unfold bindL
  rw[zi fun v hv=>(jJ.mp nd).1 (qg hv).1,aJ hk]
  simp
 |p::P,w::vs,i+1,m,nd,h1,h2,hk=>by
  show bindL kindOf ((p,w)::P.zip vs) m x=_
  unfold bindL
  exact zk (i:=i) (jJ.mp nd).2 (by simpa using h1) (by simpa using h2) hk
theorem zm:∀{P:List Str} {vs:List Value} {i:Nat} {m:Str->Option Value},P.Nodup->P[i]?=some x->vs[i]?=some v->kindOf x≠some .local ->
  bindC kindOf (P.zip vs) m x=some v
 |[],_,_,_,_,h,_,_=>by simp at h
 |_::_,[],_,_,_,_,h,_=>by simp at h
 |p::P,w::vs,0,m,nd,h1,h2,hk=>by
  simp at h1 h2;subst h1;subst h2
  show bindC kindOf ((p,w)::P.zip vs) m p=_
  unfold bindC
  rw[zj fun v hv=>(jJ.mp nd).1 (qg hv).1,aW hk]
  simp
 |p::P,w::vs,i+1,m,nd,h1,h2,hk=>by
  show bindC kindOf ((p,w)::P.zip vs) m x=_
  unfold bindC
  exact zm (i:=i) (jJ.mp nd).2 (by simpa using h1) (by simpa using h2) hk
def vQ(N:List Str)(vs:List V):St:=vs.map some++List.replicate (N.length-vs.length) none
def DQ(CX:Gp)(P:Program)(w:World)(K:Frag)(mg:Str->Option Value)(base:Heap)(N:List Str)(fX:Str)(scope:Scope)(f:Addr)(cd:Value)(A:Around)(outer:List Env)(s:Shared)(H:Hp)(E:XK):Cx where
 prog:=P
 w:=w
 K:=K
 mg:=mg
 base:=base
 A:=A.deeper (envOfC fX scope s.heap.objs.size f cd)
 N:=N
 s₀:=s
 H₀:=H
 env:=envOfC fX scope s.heap.objs.size f cd
 outer:=outer
 stack:=envOfC fX scope s.heap.objs.size f cd::outer
 ex:=[]
 calm:=true
 fn:=fun _=>true
 pn:=[]
 xe:=fun e s'=>wpAny (model P w) (A.deeper (envOfC fX scope s.heap.objs.size f cd)) (leaving (envOfC fX scope s.heap.objs.size f cd) e) (fun _ s''=>CX outer H s E e s'') (fun e' s''=>CX outer H s E e' s'') s'
theorem oq{sc:Scope}{n:Nat}(h:sc.names.lookup x=some .cell):∃c,(cellsFrom n sc.names []).lookup x=some c:=by
 have q:=PySem.W.cellsFrom_some sc.names n [] (.inl h)
 exact Option.isSome_iff_exists.mp q
theorem DR{globals:Addr}{n:Str}{func:Option Addr}{code:Value}{builtins:Addr}{Q:Env->Shared->Prop}
  (hk:scope.kind=.function) (hl:scope.names.lookup n=some .local)
  (hQ:∀env,env=newEnv scope s.heap.objs.size globals #[55] fX func code none builtins ->
   ∀s',s.toks<s'.toks->InCallC s env.locals (bindL env.kindOf [(n,v)] fun _=>none) env.cells (bindC env.kindOf [(n,v)] fun _=>none) s'->Q env s') :
  wpAny M A (newFunctionEnv scope globals [] [(n,v)] fX func code none builtins) Q E s:=by
 simp only[newFunctionEnv,Option.isSome_none,fv,gu]
 refine ag (wpAny_alloc ?_)
 refine ag (wpAny_layCells _ (fun name kind cells=>by cases hkc:kind==NameKind.cell<;>simp[hkc]) _ _ _ _ ?_)
 have ok:=cellsFrom_ok scope.names (s.heap.push { cls:=.type "frame",data:=.dict #[] }) #[8] [] ⟨fun _ _ hm=>(nomatch hm),List.Pairwise.nil⟩ (by rw[bG];exact aC _)
 rw[bG]at ok
 rw[show({ s with heap:=s.heap.push { cls:=.type "frame",data:=.dict #[] } }:Shared).heap.objs.size=s.heap.objs.size+1 from bG ..]
 have x:InCallC s s.heap.objs.size (fun _=>none) #[55] (fun _=>none) { s with heap:=pushCells (s.heap.push { cls:=.type "frame",data:=.dict #[] }) scope.names }:=
  ⟨⟨⟨_,_,rfl⟩,(Heap.Ns.new s.heap (.type "frame")).keeps (ml _ _),fun b o e=>ml _ _ b o (aw _ e),aC _⟩,
   fun n c hc=>(ok.empty n c (PySem.mem_of_lookup hc)).1,ok.apart,fun n c hm=>(ok.empty n c hm).2⟩
 refine ag ?_
 rw[mq]
 refine ag (ag (qp (env:=newEnv scope s.heap.objs.size globals #[55] fX func code none builtins) hl x.toInCall.ns (fun h' U_ hs'=>ay ?_) (by show(scope.kind==_||(scope.kind==_&&_))=false;rw[hk];rfl)))
 show wpAny M A (forIn [] _ _) _ _ _
 rw[rE]
 refine ay (ay (hQ _ rfl _ (cu _) ?_))
 have e1:bindL (newEnv scope s.heap.objs.size globals #[55] fX func code none builtins).kindOf [(n,v)] (fun _=>none)=fun y=>if y=n then some v else none:=by
  show(if _=some NameKind.local then _ else _)=_;exact aJ hl
 have e2:bindC (newEnv scope s.heap.objs.size globals #[55] fX func code none builtins).kindOf [(n,v)] (fun _=>none)=fun _=>none:=by
  show(if _=some NameKind.local then _ else _)=_;exact aJ hl
 rw[e1,e2]
 refine⟨⟨?_,U_,fun b o e=>?_,x.toInCall.fresh⟩,fun k c hc=>?_,x.apart,x.above⟩
 ·exact⟨h',_,rfl⟩
 ·exact hs'.extBut b o (a9 (aL (aH e) x.toInCall.fresh)) (x.toInCall.keep b o e)
 ·exact(x.cell k c hc).sameBut hs' (eR (x.above k c (PySem.mem_of_lookup hc)))
theorem Gq{CX:Gp}{w:World}{N:List Str}{f:Addr}{cd:Value}{s1:Shared}{E:XK}
  (S:bb N ps scope) (hd:A.handled=none) (e0:DP P w K mg base A outer s H) (hl:vs.length=ps.length) (r:cQ s.toks vs us) (mL:s.toks<=s1.toks) (WG:0<s1.toks)
  (x:InCallC s s.heap.objs.size (bindL (envOfC fX scope s.heap.objs.size f cd).kindOf (ps.zip us) fun _=>none) #[55] (bindC (envOfC fX scope s.heap.objs.size f cd).kindOf (ps.zip us) fun _=>none) s1) :
  bT (DQ CX P w K mg base N fX scope f cd A outer s H E) [] (vQ N vs) H s1:=by
 have m7:ps.length<=N.length:=by have:=iy List.length S.pre;rw[aP]at this;omega
 obtain⟨h1,tk,rfl,hk⟩:=x.done
 have noA:∀b:Addr,b∉(DQ CX P w K mg base N fX scope f cd A outer s H E).ex:=fun b z=>absurd (show b∈([]:List Addr)from z) #[15]
 refine⟨⟨e0.mod,S.kind,rfl,rfl,aC _,fun y z c h1 h2=>?_,fun y hy=>?_,fun y c _ h=>?_,fun _=>hd,Around.frames_deeper e0.frames,.inr ⟨rfl,rfl⟩,fun b z=>absurd z (noA b),e0.bs,e0.bsz,fun b _ _=>noA b,fun b z=>absurd z (noA b),e0.funs,e0.frf⟩,
  rfl,e0.bare,Un.kept hk,⟨_,x.toInCall.ns,fun i y v h1 h2 h3=>?_⟩,fun y c h=>⟨_,x.cell y c h⟩,e0.hok.fresh (aC _),fun y c h=>?_,fun p hp=>absurd (show p∈([]:List #[38])from hp) #[15],(e0.hok.kept hk).up mL,?_,WG,mL⟩
 ·exact name_of_addr x.apart (PySem.mem_of_lookup h1) (PySem.mem_of_lookup h2)
 ·have hy:scope.names.lookup y=some .cell\/scope.names.lookup y=some .free:=hy
  rcases hy with hy|hy
  ·exact oq hy
  ·exact absurd rfl (S.nofree _ (PySem.mem_of_lookup hy))
 ·exact gs (x.above y c (PySem.mem_of_lookup h))
 ·have hi:i<vs.length:=by
   unfold vQ at h2
   by_cases hi:i<vs.length
   ·exact hi
   ·rw[aY (by simpa using hi)]at h2
    rw[j8]at h2
    split at h2<;>cases h2
  have ha:vs[i]?=some v:=by
   unfold vQ at h2
   rw[aN (by simpa using hi),aI]at h2
   cases e:vs[i]? with
   |none=>rw[e]at h2;cases h2
   |some a=>rw[e]at h2;cases h2;rfl
  obtain⟨u,hu,rv⟩:=r.get ha
  have hp:ps[i]?=some y:=by
   rw[<- S.pre,cZ #[0]];exact h1
  have ndP:ps.Nodup:=by rw[<- S.pre];exact S.nd.sublist (List.take_sublist _ _)
  refine⟨u,rv.up mL,?_⟩
  rcases S.par y (cr hp)with k|k
  ·exact .inl ⟨k,zk ndP hp hu k⟩
  ·obtain⟨c,e⟩:=oq (n:=s.heap.objs.size+1) k
   refine .inr ⟨.inl k,c,e,?_⟩
   have q:=x.cell y c e
   rw[zm ndP hp hu (by show scope.names.lookup y≠_;rw[k];decide)]at q
   exact q
 ·exact e0.hok.fresh (gs (x.above y c (PySem.mem_of_lookup h)))
 ·unfold vQ
  show _=N.length
  rw[aj,aF,List.length_replicate]
  omega
theorem SL{CX:Gp}{w:World}{f:Addr}{params:Arguments}{body:List Stmt}{dV kV uO pm fE ct oc:Value}{an od:Option Addr}
  {OA:Array (Option Value)} {N ps:List Str} {sp:Sp} (lk:K.lookup f=some ⟨oc,od,.func (fnOf name fX params body scope dV kV uO pm an fE ct),OA⟩) (DC:codeIn K fE fX=true) (S:bb N ps scope)
  (len:∀vs H Q E,sp vs H Q E->vs.length=ps.length)
  (Dn:∀(A:Around) (outer:List Env) (s:Shared) (H:Hp) (vs:List V) (Q:VK) (E:XK),kg k (A.deeper (envOfC fX scope s.heap.objs.size f fE))->sp vs H Q E ->
   ∃t,Gd (DQ CX P w K mg base N fX scope f fE A outer s H E) body t/\t { nx:=fun _ H'=>Q .non H',rt:=Q } (vQ N vs) H) :
  c9 P w K mg base CX (k+1) f (fnOf name fX params body scope dV kV uO pm an fE ct) ps sp:=by
 refine⟨len,fun A outer s H args us vs Q E hr e0 hp hb r Os=>?_⟩
 have hl:=len _ _ _ _ Os
 have KX:K.In s.heap:=e0.mod.kin.keeps fun b o e=>(e0.bs b o e).1
 have lim:s.heap.NoLimit:=e0.mod.nolimit.keeps fun b o e=>(e0.bs b o e).1
 have kR:∀y∈ps.zip us,scope.names.lookup y.1=some .local\/(scope.names.lookup y.1=some .cell/\(#[55].lookup y.1).isSome=true):=fun zq hy=>by
  obtain⟨n,v⟩:=zq
  rcases S.par n (qg hy).1 with q|q
  ·exact .inl q
  ·exact .inr ⟨q,PySem.W.cellsFrom_some _ _ _ (.inl q)⟩
 refine codeAny_call_function hr.depth (KX _ _ lk) rfl S.co S.gen rfl (PySem.W.codeRec_of KX DC) (hb _ _ _ _ ?_)
 suffices hh:∀env,env=newEnv scope s.heap.objs.size mainGlobals #[55] (fX++".<locals>.") (some f) fE none builtinsNs->∀s1,s.toks<=s1.toks->0<s1.toks->InCallC s env.locals (bindL env.kindOf (ps.zip us) fun _=>none) env.cells (bindC env.kindOf (ps.zip us) fun _=>none) s1->s1.heap.NoLimit/\codeAny (model P w) A (Code.func body env) (CR CX outer P w H s Q E) s1 by
  rcases hp with hp|⟨n,e1,hn⟩
  ·exact up (wpAny_newFunctionEnv_cells S.kind kR fun env he s1 x mL=>hh env he s1 mL (aL hp mL) x)
  ·subst e1
   have hus:us.length=1:=r.length.symm.trans hl
   obtain⟨u,rfl⟩:∃u,us=[u]:=ie.mp hus
   exact DR S.kind hn fun env he s1 hlt x=>hh env he s1 (gs hlt) (jV (cE _) hlt) x
 intro env he s1 mL WG x
 subst he
 refine⟨lim.keeps x.toInCall.keep,codeAny_func ?_⟩
 obtain⟨t,ht,hq⟩:=Dn A outer s H vs Q E (hr.deeper _) Os
 have I:bT (DQ CX P w K mg base N fX scope f fE A outer s H E) [] (vQ N vs) H s1:=Gq S hr.hd e0 hl r mL WG x
 refine jU (ht [] s1 (vQ N vs) H _ I hq) (fun fl s' hs=>?_) fun e s' hs=>hs
 have lg:∀{σ':St} {H':Hp} {v:V} {u:Value},bT (DQ CX P w K mg base N fX scope f fE A outer s H E) [] σ' H' s'->dN _ v u->Q v H'->CE outer P w H s Q u s':=
  fun{σ' H' v u} J rv q=>⟨v,H',J.os,J.bare,J.base,J.hok,rv,q⟩
 cases fl with
 |ret u=>
  obtain⟨v,σ',H',J,rv,q⟩:=hs
  exact lg J rv q
 |next=>
  obtain⟨σ',H',J,q⟩:=hs
  exact lg (v:=V.non) (u:=Value.none) J rfl q
 |brk=>
  obtain⟨_,_,_,q⟩:=hs
  exact False.elim q
 |cont=>
  obtain⟨_,_,_,q⟩:=hs
  exact False.elim q
end L2
namespace L2
open PySem PySem.Spec PyProof.Rows
section
variable{t:TA}{id:String}{r:List V->Hp->VK->Prop}
def V'(r:List V->Hp->VK->Prop)(t:TA):TE:=fun σ H Q=>t σ H fun vs H1=>r vs H1 Q
theorem qA(hc:jo X (.builtin id) r)(hg:Gl X x)(hm:X.mg x=none)(hv:bootBuiltins x=some (.builtin id))(ha:PA X (e::es) t)(hn:x ≠ "__name__":=by decide)(K_:#[43]=false:=by decide)
  (he:starEach (e::es) X.env=(false,eval e X.env)::starEach es X.env:=by rfl) (m7:(backTo pos #[64]).any (·.1)=false:=by rfl):PE X (.Call (.Name x p) (e::es) [] pos) (V' r t):=by
 walk_at "9"
 refine f9 (qx I hg hm hv ?_ hn K_)
 exact li (kJ (ha pos am s σ H _ I h) fun us s1 kt1 ⟨vs,H1,I1,r1,q1⟩=>hc am s1 σ H1 vs us Q I1 r1 q1) he m7
theorem Gs(hc:jo X (.type T) r)(hg:Gl X x)(hm:X.mg x=none)(hv:bootBuiltins x=some (.type T))(ha:PA X (e::es) t)(hn:x ≠ "__name__":=by decide)(K_:#[43]=false:=by decide)
  (he:starEach (e::es) X.env=(false,eval e X.env)::starEach es X.env:=by rfl) (m7:(backTo pos #[64]).any (·.1)=false:=by rfl):PE X (.Call (.Name x p) (e::es) [] pos) (V' r t):=by
 walk_at "9"
 refine f9 (qx I hg hm hv ?_ hn K_)
 exact eu (kJ (ha pos am s σ H _ I h) fun us s1 kt1 ⟨vs,H1,I1,r1,q1⟩=>hc am s1 σ H1 vs us Q I1 r1 q1) he m7
end
end L2
namespace HT
open PySem PyProof.Rows
section
open PySem.SeqAt
open PySem.AutoSeq1 (wpAny_loadPart')
open PySem.MeetsSeq PySem.MeetsSeq2 PySem.MeetsSeq3
end
section
variable{w:World}
theorem cat_tup{t b:Addr}{vs ws:List Value}(ht:IsTup s.heap t vs.toArray)(hb:IsTup s.heap b ws.toArray)(hv:vs≠[])
  (h1:ws=[]->Q (.ref t) s) (h2:ws≠[]->Q #[28] { s with heap:=s.heap.push { cls:=.type "tuple",data:=.seq (vs++ws).toArray } })
  (zZ:vs.length+ws.length<=sizeLine):wpAny #[7] A (binaryOp .Add (.ref t) (.ref b)) Q E s:=by
 obtain⟨⟨cls,dd,data,sl⟩,ho,hc,n,hd⟩:=id ht
 obtain⟨⟨cls2,dd2,data2,sl2⟩,ho2,hc2,n2,hd2⟩:=id hb
 simp only at hc hd hc2 hd2
 subst hc hd hc2 hd2
 have e:vs.toArray++ws.toArray=(vs++ws).toArray:=by simp
 by_cases hw:ws=[]
 ·exact uF ⟨_,ho,rfl⟩ ⟨_,ho2,rfl⟩ oS sJ PySem.F.slot_tuple_add PySem.F.entry_tuple_add (PySem.F.args_tuple_add_2 _ _)
   (tuple_addW1 t b vs.toArray ws.toArray n n2 dd dd2 sl sl2 (by simpa using hv) (by simp[hw])) ⟨ho,ho2,h1 hw⟩
 ·refine uF ⟨_,ho,rfl⟩ ⟨_,ho2,rfl⟩ oS sJ PySem.F.slot_tuple_add PySem.F.entry_tuple_add (PySem.F.args_tuple_add_2 _ _)
   (tuple_addW2 t b vs.toArray ws.toArray n n2 dd dd2 sl sl2 (by simpa using hv) (by simpa using hw) (by rw[aX,aX];exact zZ)) ⟨ho,ho2,?_⟩
  rw[e]
  exact h2 hw
def sIx(n d:Nat):Option Int->Nat
 |none=>d
 |some v=>if v<0 then(v+(n:Int)).toNat else min v.toNat n
theorem sIx_none(n d:Nat):sIx n d none=d:=rfl
theorem sIx_nat(n d k:Nat):sIx n d (some (k:Int))=min k n:=by
 show(if (k:Int)<0 then((k:Int)+(n:Int)).toNat else min (k:Int).toNat n)=min k n
 rw[aW #[0],cG]
theorem sIx_le(n d:Nat)(hd:d<=n)(o:Option Int):sIx n d o<=n:=by
 cases o with
 |none=>exact hd
 |some v=>
  show(if v<0 then(v+(n:Int)).toNat else min v.toNat n)<=n
  by_cases hv:v<0
  ·rw[aJ hv];omega
  ·rw[aW hv];exact Nat.min_le_right _ _
theorem Fi(v:Int)(n d:Nat):(if v<0 then max (v+(n:Int)) 0 else min v (n:Int))=((sIx n d (some v):Nat):Int):=by
 show(if v<0 then max (v+(n:Int)) 0 else min v (n:Int))=(((if v<0 then(v+(n:Int)).toNat else min v.toNat n):Nat):Int)
 by_cases hv:v<0
 ·simp only[aJ hv];omega
 ·simp only[aW hv];omega
theorem DS(lo hi:Option Int)(n:Nat):Builtin.Slice.sliceAdjust lo hi 1 (n:Int)=(((sIx n 0 lo:Nat):Int),((sIx n n hi:Nat):Int)):=by
 have h1:¬ ((1:Int)<0):=by omega
 unfold Builtin.Slice.sliceAdjust
 simp only[h1,gu]
 refine Prod.ext ?_ ?_
 ·cases lo with
  |none=>rfl
  |some v=>exact Fi v n 0
 ·cases hi with
  |none=>rfl
  |some v=>exact Fi v n n
theorem DT(i j:Nat):Builtin.Slice.slicePlaces (i:Int) (j:Int) 1=j-i:=by
 unfold Builtin.Slice.slicePlaces
 have h1:(1:Int)>0:=by omega
 simp only[h1,gy,Int.ediv_one]
 split<;>omega
theorem wW{o:Option Int}{Q:Option Int->Shared->Prop}(p:IsPart v o)(h:Q o s):wpAny #[7] A (Builtin.Slice.slicePartIndex v) Q E s:=by
 cases p with
 |none=>exact slicePart_none h
 |int i t=>exact slicePart_int h
theorem sliceApplied_gen{sl:Addr}{vl vu:Value}{lo hi:Option Int}{Q:Int×Int×Nat->Shared->Prop}(hs:s.heap.IsSliceOf sl vl vu .none)(pl:IsPart vl lo)(pu:IsPart vu hi)
  (h:Q (((sIx n 0 lo:Nat):Int),1,sIx n n hi-sIx n 0 lo) s):wpAny #[7] A (Builtin.Slice.sliceApplied (.ref sl) (pure (n:Int))) Q E s:=by
 obtain⟨os,hos,hcs,Ot⟩:=id hs
 unfold Builtin.Slice.sliceApplied Builtin.Slice.sliceFields
 refine ag (ag (dB hos Ot (x:=vl) rfl (ag (dB hos Ot (x:=vu) rfl (ag (dB hos Ot (x:=.none) rfl (ay ?_)))))))
 refine ag (slicePart_none ?_)
 show wpAny _ _ (if ((1:Int)==0)=true then _ else _) _ _ s
 rw[aW #[3]]
 refine ag (wW pl (ag (wW pu (ag (ay ?_)))))
 show wpAny _ _ (match Builtin.Slice.sliceAdjust lo hi 1 (n:Int)with|(lo,hi)=>pure (lo,(1:Int),Builtin.Slice.slicePlaces lo hi 1)) _ _ s
 rw[DS lo hi n]
 show wpAny _ _ (pure (((sIx n 0 lo:Nat):Int),(1:Int),Builtin.Slice.slicePlaces ((sIx n 0 lo:Nat):Int) ((sIx n n hi:Nat):Int) 1)) _ _ s
 rw[DT]
 exact ay h
theorem HM(xs:Array Value)(i k:Nat):((List.range k).filterMap fun(m:Nat)=>xs[((i:Int)+(m:Int)*1).toNat]?).toArray=((xs.toList.drop i).take k).toArray:=by
 have e:(fun(m:Nat)=>xs[((i:Int)+(m:Int)*1).toNat]?)=fun m=>xs[i+m]?:=by
  funext m
  have:((i:Int)+(m:Int)*1).toNat=i+m:=by omega
  rw[this]
 rw[e]
 have:=pick_run xs i k
 rw[List.filterMap_map]at this
 have e2:((fun x=>xs[x]?)∘fun x=>i+x)=fun m=>xs[i+m]?:=rfl
 rw[e2]at this
 rw[this]
theorem getItem_tuple_cut{t sl:Addr}{items:Array Value}{vl vu:Value}{lo hi:Option Int}(ht:IsTup s.heap t items)(hs:s.heap.IsSliceOf sl vl vu .none)(pl:IsPart vl lo)(pu:IsPart vu hi)
  (hw:¬ (sIx items.size 0 lo=0/\sIx items.size items.size hi=items.size))
  (h:Q #[28] { s with heap:=s.heap.push { cls:=.type "tuple",data:=.seq #[68].toArray } })
  (zZ:items.size<=sizeLine):wpAny #[7] A (getItem (.ref t) (.ref sl)) Q E s:=by
 have htake:sizeOk (.seq #[68].toArray):=by
  show#[68].toArray.size<=sizeLine
  rw[aX,aP,cF,eW]
  omega
 have hj:sIx items.size items.size hi<=items.size:=sIx_le _ _ (aC _) hi
 obtain⟨os,hos,hcs,Ot⟩:=id hs
 have hTs:s.TypeIs (.ref sl) "slice":=⟨os,hos,hcs⟩
 unfold getItem
 try with_reducible refine dI ?_
 first|refine ag (ay ?_)|skip
 refine ag (wpAny_sequenceKey ht.typeIs #[3] ?_)
 refine ag (ce (name:=Str.ofString "__getitem__") ht.typeIs eZ
  (cv eZ ht.typeIs entry_tuple_getitem ?_ (args_tuple_getitem _ _)))
 show wpAny _ _ (Builtin.Tuple.tupleItemsOf (.ref t) >>= _) _ _ s
 refine ag (tupleItemsOf_ ht ?_)
 refine ag (jn hTs ?_)
 rw[aJ #[3]]
 refine ag (sliceApplied_gen hs pl pu ?_)
 have hno:¬ ((((sIx items.size 0 lo:Nat):Int)==0&&(1:Int)==1&&(sIx items.size items.size hi-sIx items.size 0 lo)==items.size)=true):=by
  intro q
  rw[dS,dS]at q
  have q1:((sIx items.size 0 lo:Nat):Int)=0:=oT q.1.1
  have q2:sIx items.size items.size hi-sIx items.size 0 lo=items.size:=oT q.2
  exact hw ⟨by omega,by omega⟩
 show wpAny _ _ (if (((sIx items.size 0 lo:Nat):Int)==0&&(1:Int)==1&&(sIx items.size items.size hi-sIx items.size 0 lo)==items.size)=true then _ else _) _ _ s
 rw[aW hno,HM]
 first
  |exact ag (m:=Builtin.Tuple.tupleExact _) (cH (ay ⟨_,rfl,ay h⟩) htake)
  |exact ag (m:=Builtin.Tuple.tupleExact _) (cH (ag (ay (ay ⟨_,rfl,ay h⟩))) htake)
  |exact ag (ag (m:=Builtin.Tuple.tupleExact _) (cH (ay (ay ⟨_,rfl,ay h⟩)) htake))
  |exact ag (ag (m:=Builtin.Tuple.tupleExact _) (cH (ay ⟨_,rfl,ay h⟩) htake))
end
end HT
namespace L2
open PySem PySem.Spec PyProof.Rows
abbrev TO:=St->Hp->(Option Int->Hp->Prop)->Prop
def PO(X:Cx)(e:Option Expr)(t:TO):Prop:=
 ∀(am:List #[38]) (s:Shared) (σ:St) (H:Hp) (Q:Option Int->Hp->Prop),bT X am σ H s->t σ H Q ->
  wpAny #[5] X.A (evalPart e X.env) (fun u s'=>∃o H',bT X am σ H' s'/\IsPart u o/\Q o H') X.xe s
def LN:TO:=fun _ H Q=>Q none H
def SM(t:TE):TO:=fun σ H Q=>t σ H fun x H1=>∃i,x=.int i/\Q (some i) H1
section
variable{lo hi:Option Expr}{tl th:TO}
theorem LO:PO X none LN:=by
 walk_at "9"
 rw[evalPart_none]
 exact ay ⟨none,H,I,.none,h⟩
theorem LP(h:PE X e te):PO X (some e) (SM te):=by
 intro am s σ H Q I hw
 rw[evalPart_some]
 refine kJ (h am s σ H _ I hw) fun u s1 kt1 zq=>?_
 walk_at "12"
 obtain⟨i,rfl,q⟩:=q1
 obtain⟨t,rfl⟩:=r1
 exact⟨some i,H1,I1,.int i t,q⟩
def SN(X:Cx)(r:V->Option Int->Option Int->Hp->VK->Prop):Prop:=
 ∀(am:List #[38]) (s:Shared) (σ:St) (H:Hp) (x:V) (v vl vu:Value) (lo hi:Option Int) (sl:Addr) (Q:VK),bT X am σ H s->dN s.toks x v->s.heap.IsSliceOf sl vl vu .none->IsPart vl lo->IsPart vu hi->r x lo hi H Q ->
  ∃T id,typeLookup (.type T) "__getitem__"=pure (some (.builtin id))/\s.TypeIs v T/\wpAny #[5] X.A (getItem v (.ref sl)) (EP X am σ Q) X.xe s
def Xm(r:V->Option Int->Option Int->Hp->VK->Prop)(te:TE)(tl th:TO):TE:=fun σ H Q=>te σ H fun x H1=>tl σ H1 fun l H2=>th σ H2 fun u H3=>r x l u H3 Q
theorem HN{r:V->Option Int->Option Int->Hp->VK->Prop}(hr:SN X r)(he:PE X e te)(hl:PO X lo tl)(hu:PO X hi th):PE X (.Subscript e (.Slice lo hi none p2) pos) (Xm r te tl th):=by
 walk_at "9"
 refine Subscript_ (kJ (he am s σ H _ I h) fun v s1 kt1 zq=>?_)
 walk_at "12"
 refine wpAny_Slice (kJ (hl am s1 σ H1 _ I1 q1) fun vl s2 kt2 ⟨l,H2,I2,pl,q2⟩=>kJ (hu am s2 σ H2 _ I2 q2) fun vu s3 kt3 zq=>?_)
 obtain⟨u,H3,I3,pu,q3⟩:=zq
 rw[evalPart_none]
 refine ay ?_
 have I4:bT X am σ H3 { s3 with heap:=s3.heap.push { cls:=.type "slice",data:=.fields #[vl,vu,.none] } }:=I3.kept (t':=s3.toks) fun b ob q=>aw _ q
 obtain⟨T,id,hT,ht,hg⟩:=hr am { s3 with heap:=s3.heap.push { cls:=.type "slice",data:=.fields #[vl,vu,.none] } } σ H3 x v vl vu l u s3.heap.objs.size Q I4 (r1.up (aO kt2 kt3)) (Heap.IsSliceOf.new ..) pl pu q3
 show wpAny #[5] X.A (subscriptTail e (.Slice lo hi none p2) v (.ref s3.heap.objs.size)) (EP X am σ Q) X.xe { s3 with heap:=s3.heap.push { cls:=.type "slice",data:=.fields #[vl,vu,.none] } }
 exact tail_any (ops:=[.ref s3.heap.objs.size,v]) ht hT hg (by with_unfolding_all rfl)
def wX(xs:List V)(lo hi:Option Int):List V:=(xs.drop (HT.sIx xs.length 0 lo)).take (HT.sIx xs.length xs.length hi-HT.sIx xs.length 0 lo)
theorem vR(xs:List V)(lo hi:Option Int):(wX xs lo hi).length<=xs.length:=by
 unfold wX
 rw[aP,cF]
 omega
def Wa(K:Frag):V->Option Int->Option Int->Hp->VK->Prop:=fun x lo hi H Q=>∃a xs,x=.ref a/\gG K H a xs /\
 ¬ (HT.sIx xs.length 0 lo=0/\HT.sIx xs.length xs.length hi=xs.length)/\∀p,H p=none->Q (.ref p) (gc H p (.tup (wX xs lo hi)))
theorem Pj:SN X (Wa X.K):=by
 intro am s σ H x v vl vu lo hi sl Q I rx hs pl pu h
 obtain⟨a,xs,rfl,hx,hw,q⟩:=h
 cases rx
 obtain⟨b9,r,ht,hz⟩:=I.tuple hx
 have gI:b9.toArray.size=xs.length:=by rw[aX];exact r.length.symm
 refine⟨"tuple",_,eZ.lookup,ht.typeIs,?_⟩
 refine HT.getItem_tuple_cut ht hs pl pu (by rw[gI];exact hw) ?_ (by rw[gI];exact hz)
 rw[gI]
 refine⟨.ref s.heap.objs.size,_,I.laid (t':=s.toks) (o:=.tup (wX xs lo hi)) (fun b ob q=>aw _ q) (aC _) ?_,rfl,q _ (I.hok.fresh (aC _))⟩
 exact⟨aO (vR xs lo hi) hz,_,(r.drop (HT.sIx xs.length 0 lo)).take (HT.sIx xs.length xs.length hi-HT.sIx xs.length 0 lo),IsTup.new _ _⟩
def SQ(K:Frag):R2:=fun x y H Q=>∃a b xs ys,x=.ref a/\y=.ref b/\gG K H a xs/\gG K H b ys/\xs≠[]/\xs.length+ys.length<=sizeLine /\
 (ys=[]->Q (.ref a) H)/\(ys≠[]->∀p,H p=none->Q (.ref p) (gc H p (.tup (xs++ys))))
theorem cQ.nil_iff(r:cQ nk xs us):us=[]↔xs=[]:=by
 cases r with
 |nil=>simp
 |cons _ _=>simp
theorem LQ:qm X (binaryOp .Add) (SQ X.K):=by
 walk_at "7"
 obtain⟨a,b,xs,ys,rfl,rfl,ha,hb,hx,hz,q1,q2⟩:=h
 cases rx
 cases ry
 obtain⟨b9,r1,p1,_⟩:=I.tuple ha
 obtain⟨its2,r2,p2,_⟩:=I.tuple hb
 refine HT.cat_tup p1 p2 (fun z=>hx (r1.nil_iff.mp z)) (fun z=>⟨.ref a,H,I,rfl,q1 (r2.nil_iff.mp z)⟩) (fun z=>?_) (by rw[<- r1.length,<- r2.length];exact hz)
 refine⟨.ref s.heap.objs.size,_,I.laid (t':=s.toks) (o:=.tup (xs++ys)) (fun b ob q=>aw _ q) (aC _) ?_,rfl,q2 (fun w=>z (r2.nil_iff.mpr w)) _ (I.hok.fresh (aC _))⟩
 exact⟨by rw[aj];exact hz,_,r1.append r2,IsTup.new _ _⟩
theorem BN:jo X (.type "tuple") (fun xs H Q=>∃a ys,xs=[.ref a]/\gG X.K H a ys/\Q (.ref a) H):=by
 walk_at "11"
 obtain⟨a,ys,rfl,ha,q⟩:=h
 obtain⟨u,rfl,ru⟩:=qy r
 cases ru
 obtain⟨b9,_,p1,_⟩:=I.tuple ha
 exact call_tuple_same (items:=b9.toArray) p1 ⟨.ref a,H,I,rfl,q⟩
end
end L2
namespace L2
open PySem PySem.Spec PyProof.Rows
def Fj(n:Nat)(i:Int):Option Nat:=if 0<=i then(if i<n then some i.toNat else none)else if -(n:Int)<=i then some (i+n).toNat else none
def uV(xs:List α)(i:Int):Option α:=(Fj xs.length i).bind fun j=>xs[j]?
theorem Fk{i:Int}(h:Fj n i=some j):seqIndex? i n=some j/\j<n/\-(n:Int)<=i/\i<n:=by
 unfold Fj at h
 by_cases h0:0<=i
 ·rw[aJ h0]at h
  by_cases h1:i<n
  ·rw[aJ h1]at h
   have e:i.toNat=j:=bC h
   exact⟨by rw[seqIndex_of h0 h1,e],by omega,by omega,h1⟩
  ·rw[aW h1]at h;cases h
 ·rw[aW h0]at h
  by_cases h1:-(n:Int)<=i
  ·rw[aJ h1]at h
   have e:(i+n).toNat=j:=bC h
   exact⟨by rw[uG #[0] h1,e],by omega,h1,by omega⟩
  ·rw[aW h1]at h;cases h
theorem Ak{xs:List α}{i:Int}{v:α}(h:uV xs i=some v):∃j,seqIndex? i xs.length=some j/\xs[j]?=some v/\j<xs.length/\-(xs.length:Int)<=i/\i<xs.length:=by
 unfold uV at h
 cases e:Fj xs.length i with
 |none=>rw[e]at h;cases h
 |some j=>
  rw[e]at h
  obtain⟨h1,h2,h3,h4⟩:=Fk e
  exact⟨j,h1,h,h2,h3,h4⟩
def Fl(b:Expr):Prop:=∀o i,subscripted b false o i=operate [o,i] (getItem o i)
def Le(X:Cx)(r:R2):Prop:=
 ∀(value slice:Expr) (am:List #[38]) (s:Shared) (σ:St) (H:Hp) (x y:V) (v u:Value) (Q:VK),bT X am σ H s->dN s.toks x v->dN s.toks y u->r x y H Q ->
  subscripted slice false v u=operate [v,u] (getItem v u)->wpAny #[5] X.A (subscriptTail value slice v u) (EP X am σ Q) X.xe s
def Gu(X:Cx)(id:String)(r:V->List V->Hp->VK->Prop):Prop:=
 ∀(am:List #[38]) (s:Shared) (σ:St) (H:Hp) (x:V) (xs:List V) (v:Value) (us:List Value) (Q:VK),bT X am σ H s->dN s.toks x v->cQ s.toks xs us->r x xs H Q ->
  wpAny #[5] X.A (call (.builtin id) (v::us)) (EP X am σ Q) X.xe s
section
variable{a b:Expr}{ta tb:TE}
theorem Le.or{r r':R2}(h:Le X r)(h':Le X r'):Le X (fun x y H Q=>r x y H Q\/r' x y H Q):=by
 intro value slice am s σ H x y v u Q I rx ry q hs
 rcases q with q|q
 ·exact h value slice am s σ H x y v u Q I rx ry q hs
 ·exact h' value slice am s σ H x y v u Q I rx ry q hs
theorem SR{r:R2}(hr:Le X r)(ha:PE X a ta)(hb:PE X b tb)(hs:Fl b):PE X (.Subscript a b pos) (Sv r ta tb):=by
 walk_at "9"
 exact Subscript_ (OZ ha hb I h fun v u s2 x y H2 I2 rx ry q=>hr a b am s2 σ H2 x y v u Q I2 rx ry q (hs _ _))
def SU(K:Frag):R2:=fun x y H Q=>∃p xs i v,x=.ref p/\y=.int i/\uQ K H p xs/\uV xs i=some v/\Q v H
def SV(K:Frag):R2:=fun x y H Q=>∃p xs i v,x=.ref p/\y=.int i/\gG K H p xs/\uV xs i=some v/\Q v H
def SX:R2:=fun x y H Q=>∃z i c,x=.str z/\y=.int i/\z.length<=sizeLine/\uV z.cps.toList i=some c/\Q (.str ⟨#[c]⟩) H
theorem LR:Le X (SU X.K):=by
 intro value slice am s σ H x y v u Q I rx ry h hs
 obtain⟨p,xs,i,z,rfl,rfl,hq,he,q⟩:=h
 cases rx
 obtain⟨t,rfl⟩:=ry
 obtain⟨b9,r,pl,hz⟩:=I.list hq
 obtain⟨j,h1,h2,h3,h4,h5⟩:=Ak he
 obtain⟨w,ew,vK⟩:=r.get h2
 have hl:=r.length
 have hn:=uS
 have lg:EP X am σ Q w s:=⟨z,H,I,vK,q⟩
 by_cases h0:0<=i
 ·have hj:i.toNat=j:=by
   rw[seqIndex_of h0 h5]at h1
   exact bC h1
  exact item_listR pl.isList h0 #[0] (by rw[hj];simpa using ew) lg hs
 ·have hj:(i+(b9.toArray.size:Int)).toNat=j:=by
   rw[uG #[0] h4]at h1
   rw[aX,<- hl]
   exact bC h1
  exact pN (x:=w) pl.isList.typeIs slot_list_getitem.lookup
   (wpAny_getItem_list_neg (Q:=fun r s'=>r=w/\EP X am σ Q r s') pl.isList #[0] (by rw[aX]<;>omega) #[0] (by rw[hj];simpa using ew) ⟨rfl,lg⟩) hs
theorem Pk:Le X (SV X.K):=by
 intro value slice am s σ H x y v u Q I rx ry h hs
 obtain⟨p,xs,i,z,rfl,rfl,hq,he,q⟩:=h
 cases rx
 obtain⟨t,rfl⟩:=ry
 obtain⟨b9,r,pl,hz⟩:=I.tuple hq
 obtain⟨j,h1,h2,h3,h4,h5⟩:=Ak he
 obtain⟨w,ew,vK⟩:=r.get h2
 have hl:=r.length
 have hn:=uS
 have lg:EP X am σ Q w s:=⟨z,H,I,vK,q⟩
 exact pN (x:=w) pl.typeIs slot_tuple_getitem.lookup
  (getItem_tuple (j:=j) (Q:=fun r s'=>r=w/\EP X am σ Q r s') pl #[0] #[0] (by rw[aX,<- hl];exact h1) (by simpa using ew) ⟨rfl,lg⟩) hs
theorem Pm:Le X SX:=by
 intro value slice am s σ H x y v u Q I rx ry h hs
 obtain⟨z,i,c,rfl,rfl,hz,he,q⟩:=h
 obtain⟨t,rfl⟩:=rx
 obtain⟨t',rfl⟩:=ry
 obtain⟨j,h1,h2,h3,h4,h5⟩:=Ak he
 have hl:z.cps.toList.length=z.length:=by simp[Str.length]
 rw[hl]at h1 h4 h5
 have hn:=uS
 exact tail_any (nh s z t) slot_str_getitem.lookup (getItem_str (c:=c) (by
  have e1:decide (i < -(2^63:Int))=false:=a7 #[0]
  have e2:decide (i≥2^63)=false:=a7 #[0]
  rw[e1,e2,oh]) (by rw[h1];simpa using h2) ⟨.str ⟨#[c]⟩,H,I.tok _,I.tkS,q⟩) hs
def Xn(K:Frag):R2:=fun x y H Q=>SU K x y H Q\/SV K x y H Q\/SX x y H Q
theorem Po:Le X (Xn X.K):=LR.or (Pk.or Pm)
theorem DU(b9:List Value)(n j:Nat)(u:Value):Obj.mapSeq (·.setIfInBounds j u) { cls:=.type "list",data:=.seq b9.toArray n }={ cls:=.type "list",data:=.seq (b9.set j u).toArray n }:=by
 simp[Obj.mapSeq]
theorem bT.lst{p:Addr}(I:bT X am σ H s)(h:H p=some (.lst xs)) :
  ∃(b9:List Value) (n:Nat),cQ s.toks xs b9/\s.heap.get? p=some { cls:=.type "list",data:=.seq b9.toArray n }/\xs.length<=sizeLine:=by
 obtain⟨z,b9,n,r,e⟩:=I.hok p _ h
 exact⟨b9,n,r,e,z⟩
theorem bT.lstUpd{p:Addr}{ys:List V}{its':List Value}{f:Obj->Obj}(I:bT X am σ H s)(h:H p=some (.lst xs))
  (ho:s.heap.get? p=some { cls:=.type "list",data:=.seq b9.toArray n }) (hf:f { cls:=.type "list",data:=.seq b9.toArray n }={ cls:=.type "list",data:=.seq its'.toArray n' }) (r:cQ s.toks ys its') (hz:ys.length<=sizeLine) (t:Nat) (hk:s.toks<=t:=by first|exact aC _|exact bx _|assumption|omega) :
  bT X am σ (gc H p (.lst ys)) { s with heap:=s.heap.update p f,toks:=t }:=by
 have e:(s.heap.update p f).get? p=some { cls:=.type "list",data:=.seq its'.toArray n' }:=by
  rw[d7 f ho (by rw[hf]<;>rfl),hf]
 refine I.write (x:=p) (e:=p) (by rw[h];trivial) (.inl rfl) (fun b u hb q=>(cX _ _ (Ne.symm hb)).trans q) ⟨_,e⟩ ?_
 exact⟨hz,its',n',r.up hk,e⟩
def SY:V->V->V->Hp->(Hp->Prop)->Prop:=fun o i v H Q=>∃p xs k j,o=.ref p/\i=.int k/\H p=some (.lst xs)/\Fj xs.length k=some j/\Q (gc H p (.lst (xs.set j v)))
theorem HP:Hz X SY:=by
 intro am s σ H o i v ov iv u Q I ro ri rv h
 obtain⟨p,xs,k,j,rfl,rfl,hp,hj,q⟩:=h
 cases ro
 obtain⟨t,rfl⟩:=ri
 obtain⟨b9,n,r,ho,hz⟩:=I.lst hp
 obtain⟨h1,h2,h3,h4⟩:=Fk hj
 have hl:=r.length
 have hn:=uS
 have I':bT X am σ (gc H p (.lst (xs.set j v))) { s with heap:=s.heap.update p (Obj.mapSeq (·.setIfInBounds j u)) }:=
  I.lstUpd hp ho (DU b9 n j u) (r.set rv j) (by rw[qh];exact hz) s.toks
 by_cases h0:0<=k
 ·have hk:k.toNat=j:=by
   rw[seqIndex_of h0 h4]at h1
   exact bC h1
  exact PySem.W.ki_setAt ho h0 #[0] (by rw[aX,<- hl];exact h4) (by rw[hk];exact⟨_,I',q⟩)
 ·have hk:(k+(b9.toArray.size:Int)).toNat=j:=by
   rw[uG #[0] h3]at h1
   rw[aX,<- hl]
   exact bC h1
  exact PySem.W.ki_setBack ho #[0] (by rw[aX,<- hl];exact h3) #[0] (by rw[hk];exact⟨_,I',q⟩)
theorem Al(lo hi:Option Int)(n:Nat):(sliceBounds lo hi none n).1=((HT.sIx n 0 lo:Nat):Int)/\(sliceBounds lo hi none n).2.1=((HT.sIx n n hi:Nat):Int)/\(sliceBounds lo hi none n).2.2=1:=by
 refine⟨?_,?_,rfl⟩
 ·cases lo with
  |none=>simp[sliceBounds,HT.sIx]
  |some i=>
   simp only[sliceBounds,HT.sIx,Option.getD_none,show(1:Int)>0 by decide,gy]
   by_cases h:i<0
   ·simp only[h,gy]<;>omega
   ·simp only[h,gu]<;>omega
 ·cases hi with
  |none=>simp[sliceBounds,HT.sIx]
  |some i=>
   simp only[sliceBounds,HT.sIx,Option.getD_none,show(1:Int)>0 by decide,gy]
   by_cases h:i<0
   ·simp only[h,gy]<;>omega
   ·simp only[h,gu]<;>omega
theorem yI(b9:List Value)(lo hi:Option Int):slicePick b9.toArray lo hi none=((b9.drop (HT.sIx b9.length 0 lo)).take (HT.sIx b9.length b9.length hi-HT.sIx b9.length 0 lo)).toArray:=by
 obtain⟨h1,h2,h3⟩:=Al lo hi b9.toArray.size
 unfold slicePick
 rw[h1,h2,h3]
 simp only[sliceRange_one,pick_run,aX]<;>rfl
def Wb(K:Frag):V->Option Int->Option Int->Hp->VK->Prop:=fun x lo hi H Q=>∃a xs,x=.ref a/\uQ K H a xs/\∀p,H p=none->Q (.ref p) (gc H p (.lst (wX xs lo hi)))
theorem LS:SN X (Wb X.K):=by
 intro am s σ H x v vl vu lo hi sl Q I rx hs pl pu h
 obtain⟨a,xs,rfl,hx,q⟩:=h
 cases rx
 obtain⟨b9,r,ht,hz⟩:=I.list hx
 have gI:=r.length
 refine⟨"list",_,slot_list_getitem.lookup,ht.isList.typeIs,?_⟩
 refine wpAny_getItem_list_slice ht.isList hs pl pu .none #[15] ?_ (by rw[aX]<;>omega)
 rw[yI,<- gI]
 refine⟨.ref s.heap.objs.size,_,I.laid (t':=s.toks) (o:=.lst (wX xs lo hi)) (fun b ob q=>aw _ q) (aC _) ?_,rfl,q _ (I.hok.fresh (aC _))⟩
 exact⟨aO (vR xs lo hi) hz,_,0,(r.drop (HT.sIx xs.length 0 lo)).take (HT.sIx xs.length xs.length hi-HT.sIx xs.length 0 lo),aD _ rfl⟩
theorem tI:jo X (.builtin "len") (fun xs H Q=>∃p ys,xs=[.ref p]/\(uQ X.K H p ys\/gG X.K H p ys)/\Q (.int ys.length) H):=by
 walk_at "11"
 obtain⟨p,ys,rfl,hq,q⟩:=h
 obtain⟨u,rfl,rx⟩:=qy r
 cases rx
 have hn:=uS
 rcases hq with hq|hq
 ·obtain⟨b9,r',pl,hz⟩:=I.list hq
  have gI:=r'.length
  exact Calls.call_len_list pl.isList (by simp only[aX]<;>omega) ⟨.int ys.length,H,I.tok _,⟨s.toks+1,by rw[aX,gI]⟩,q⟩
 ·obtain⟨b9,r',pl,hz⟩:=I.tuple hq
  have gI:=r'.length
  exact len_tuple pl (by simp only[aX]<;>omega) ⟨.int ys.length,H,I.tok _,⟨s.toks+1,by rw[aX,gI]⟩,q⟩
theorem Am:jo X (.builtin "len") (fun xs H Q=>∃z,xs=[.str z]/\z.length<=sizeLine/\Q (.int z.length) H):=by
 walk_at "11"
 obtain⟨z,rfl,hz,q⟩:=h
 obtain⟨u,rfl,t,rfl⟩:=qy r
 have hn:=uS
 exact len_str #[0] ⟨.int z.length,H,I.tok _,⟨_,rfl⟩,q⟩
theorem An:jo X (.type "list") (fun xs H Q=>∃p ys,xs=[.ref p]/\(uQ X.K H p ys\/gG X.K H p ys)/\∀l,H l=none->Q (.ref l) (gc H l (.lst ys))):=by
 walk_at "11"
 obtain⟨p,ys,rfl,hq,q⟩:=h
 obtain⟨u,rfl,rx⟩:=qy r
 cases rx
 have lg:∀(b9:List Value),cQ _ ys b9->ys.length<=sizeLine->∀(h':Heap) (c':Nat),(∀b o',s.heap.get? b=some o'->h'.get? b=some o') ->
   h'.get? s.heap.objs.size=some { cls:=.type "list",dict:=none,data:=.seq b9.toArray c',slots:=#[] }->EP X am σ Q #[28] { s with heap:=h' }:=fun b9 r' hz h' c' kp e=>
  ⟨.ref s.heap.objs.size,_,I.laid (t':=s.toks) kp (aC _) (show hJ X.prog X.w _ _ h' _ (.lst ys)from⟨hz,b9,c',r',e⟩),rfl,q _ (I.hok.fresh (aC _))⟩
 rcases hq with hq|hq
 ·obtain⟨b9,r',pl,hz⟩:=I.list hq
  have gI:=r'.length
  obtain⟨o,ho,hc,n,hd⟩:=pl.isList
  exact call_list_seq p (.inl rfl) ho hc hd (fun h' c' kp e=>lg b9 r' hz h' c' kp e) (by simp only[aX]<;>omega)
 ·obtain⟨b9,r',pl,hz⟩:=I.tuple hq
  have gI:=r'.length
  obtain⟨o,ho,hc,n,hd⟩:=pl
  exact call_list_seq p (.inr rfl) ho hc hd (fun h' c' kp e=>lg b9 r' hz h' c' kp e) (by simp only[aX]<;>omega)
theorem yJ:jo X (.type "tuple") (fun xs H Q=>∃p ys,xs=[.ref p]/\((uQ X.K H p ys/\∀l,H l=none->Q (.ref l) (gc H l (.tup ys)))\/(gG X.K H p ys/\Q (.ref p) H))):=by
 walk_at "11"
 obtain⟨p,ys,rfl,h⟩:=h
 obtain⟨u,rfl,rx⟩:=qy r
 cases rx
 rcases h with⟨hq,q⟩|⟨hq,q⟩
 ·obtain⟨b9,r',pl,hz⟩:=I.list hq
  have gI:=r'.length
  refine call_tuple_list pl.isList (fun h' kp=>?_) (by simp only[aX]<;>omega)
  have I1:bT X am σ H { s with heap:=h' }:=I.kept (t':=s.toks) kp
  have I2:bT X am σ (gc H h'.objs.size (.tup ys)) { s with heap:=h'.push { cls:=.type "tuple",data:=.seq b9.toArray } }:=
   I1.laid (t':=s.toks) (fun b o e=>aw _ e) (aC _) (show hJ X.prog X.w _ _ _ _ (.tup ys)from⟨hz,b9,r',IsTup.new _ _⟩)
  exact⟨.ref h'.objs.size,_,I2,rfl,q _ (I1.hok.fresh (aC _))⟩
 ·obtain⟨b9,r',pl,hz⟩:=I.tuple hq
  exact call_tuple_same pl ⟨.ref p,H,I,rfl,q⟩
def Vt(K:Frag)(T:String)(x:V)(H:Hp):Prop:=match x with
 |.str _=>T="str"
 |.int _=>T="int"
 |.ref p=>(T="list"/\∃xs,uQ K H p xs)\/(T="tuple"/\∃o,K.lookup p=some o/\o.cls=.type "tuple"/\o.dict=none) \/
   (T="dict"/\((∃hX,H p=some (.dK hX))\/∃hX,H p=some (.dT hX)))\/(T="set"/\∃S n,H p=some (.set S n))
 |_=>False
theorem DV{x:V}(I:bT X am σ H s)(r:dN s.toks x v)(ty:Vt X.K T x H) :
  s.TypeIs v T/\∀a,v=.ref a->∃ob,s.heap.get? a=some ob/\ob.dict=none:=by
 cases x with
 |str z=>
  obtain⟨t,rfl⟩:=r
  cases(show T="str" from ty)
  exact⟨nh s z t,fun _ e=>nomatch e⟩
 |int i=>
  obtain⟨t,rfl⟩:=r
  cases(show T="int" from ty)
  exact⟨typeIs_int s i t,fun _ e=>nomatch e⟩
 |ref p=>
  cases r
  rcases ty with⟨rfl,xs,hq⟩|⟨rfl,o,hk,hc,hd⟩|⟨rfl,hk⟩|⟨rfl,S,n,hk⟩
  ·obtain⟨b9,_,pl,_⟩:=I.list hq
   refine⟨pl.isList.typeIs,fun a e=>?_⟩
   cases e
   obtain⟨o,n,e,c,hd,_⟩:=pl
   exact⟨o,e,hd⟩
  ·refine⟨⟨o,I.kIn p o hk,hc⟩,fun a e=>?_⟩
   cases e
   exact⟨o,I.kIn _ o hk,hd⟩
  ·have z:∃o,s.heap.get? p=some o/\o.ExactDict:=by
    rcases hk with⟨hX,hk⟩|⟨hX,hk⟩
    ·obtain⟨_,_,_,_,o,_,_,e,ex,_⟩:=I.hok p _ hk
     exact⟨o,e,ex⟩
    ·obtain⟨_,_,_,_,o,_,_,e,ex,_⟩:=I.hok p _ hk
     exact⟨o,e,ex⟩
   obtain⟨o,e,ex⟩:=z
   refine⟨⟨o,e,ex.1⟩,fun a e2=>?_⟩
   cases e2
   exact⟨o,e,ex.2.1⟩
  ·obtain⟨o,_,_,_,e,ex,_⟩:=I.hok p _ hk
   refine⟨⟨o,e,ex.1⟩,fun a e2=>?_⟩
   cases e2
   exact⟨o,e,ex.2.1⟩
 |_=>exact False.elim ty
variable{to:TE}{t:TA}{id:String}
end
end L2
namespace L2
open PySem PySem.Spec PyProof.Rows
def WV(X:Cx)(id:String)(r:V->List V->Hp->VK->Prop):Prop:=
 ∀(am:List #[38]) (s:Shared) (σ:St) (H:Hp) (x:V) (xs:List V) (v:Value) (us:List Value) (Q:VK),bT X am σ H s->dN s.toks x v->cQ s.toks xs us->r x xs H Q ->
  wpAny #[5] X.A (call (.builtin id) (v::us)) (EP X am σ Q) X.xe s
theorem cQ.one{x:V}(h:cQ nk [x] us):∃u,us=[u]/\dN nk x u:=by cases h with|cons r t=>cases t;exact⟨_,rfl,r⟩
theorem cQ.two{x y:V}(h:cQ nk [x,y] us):∃u v,us=[u,v]/\dN nk x u/\dN nk y v:=by cases h with|cons r t=>obtain⟨v,rfl,q⟩:=cQ.one t;exact⟨_,v,rfl,r,q⟩
theorem cQ.zero:∀{us:List Value},cQ nk [] us->us=[]
 |_,.nil=>rfl
theorem cQ.dropLast(h:cQ nk xs us):cQ nk xs.dropLast us.dropLast:=by
 induction h with
 |nil=>exact .nil
 |cons r t ih=>
  cases t with
  |nil=>exact .nil
  |cons q t'=>exact .cons r ih
theorem DW(l:List α):l.eraseIdx (l.length-1)=l.dropLast:=by
 induction l with
 |nil=>rfl
 |cons a r ih=>
  cases r with
  |nil=>rfl
  |cons b r=>
   have e:(a::b::r).length-1=((b::r).length-1)+1:=by
    have h1:(a::b::r).length=r.length+2:=rfl
    have h2:(b::r).length=r.length+1:=rfl
    omega
   rw[e,List.eraseIdx_cons_succ,ih]
   all_goals rfl
section
variable{l b:Addr}{ys zs:List V}
theorem bT.lset{its':List Value}{f:Array Value->Array Value}(I:bT X am σ H s)(hH:H l=some (.lst xs))
  (e:s.heap.get? l=some { cls:=.type "list",data:=.seq b9.toArray n }) (hf:f b9.toArray=its'.toArray) (hv:cQ t' ys its') (hz:ys.length<=sizeLine) (hk:s.toks<=t':=by first|exact aC _|exact bx _|assumption|omega) :
  bT X am σ (gc H l (.lst ys)) { s with heap:=s.heap.update l (Obj.mapSeq f),toks:=t' }:=by
 have q:=PySem.IsL.update e f
 rw[hf]at q
 refine I.write (x:=l) (e:=l) (by rw[hH];exact trivial) (.inl rfl) (fun b' u hb hu=>(cX s.heap (Obj.mapSeq f) (Ne.symm hb)).trans hu) ⟨_,q⟩ ?_
 exact⟨hz,its',_,hv,q⟩
theorem bT.lnew{t':Nat}(I:bT X am σ H s)(hv:cQ t' ys b9)(hz:ys.length<=sizeLine)(hk:s.toks<=t':=by first|exact aC _|exact bx _|assumption|omega) :
  bT X am σ (gc H s.heap.objs.size (.lst ys)) { s with heap:=s.heap.push { cls:=.type "list",data:=.seq b9.toArray },toks:=t' }:=
 I.laid (fun _ _ q=>aw _ q) (aC _) ⟨hz,b9,0,hv,aD _ rfl⟩
theorem bT.fresh(I:bT X am σ H s):H s.heap.objs.size=none:=I.hok.fresh (aC _)
theorem bT.lstM(I:bT X am σ H s)(hH:H l=some (.lst xs)):xs.length<=sizeLine/\∃(b9:List Value) (n:Nat),cQ s.toks xs b9/\xs.length=b9.length/\s.heap.get? l=some { cls:=.type "list",data:=.seq b9.toArray n }:=by
 obtain⟨z,b9,n,r,e⟩:=I.hok l _ hH
 exact⟨z,b9,n,r,r.length,e⟩
end
section
def Fp:V->List V->Hp->VK->Prop:=fun x vs H Q=>∃l xs y,x=.ref l/\vs=[y]/\H l=some (.lst xs)/\xs.length<sizeLine/\Q .non (gc H l (.lst (xs++[y])))
theorem Gv:WV X "list.append" Fp:=by
 intro am s σ H x vs v us Q I rx rv h
 obtain⟨l,xs,y,rfl,rfl,hH,hz,q⟩:=h
 cases rx
 obtain⟨u,rfl,ru⟩:=rv.one
 obtain⟨z,b9,n,r,hl,e⟩:=I.lstM hH
 refine tD F.slot_list_append ⟨_,e,rfl⟩ F.entry_list_append (F.args_list_append_2 _ _) (PySem.list_append l b9.toArray n u (by rw[aX];omega)) ⟨e,?_⟩
 refine⟨.non,_,I.lset (its':=b9++[u]) hH e #[15] (r.append (.cons ru .nil)) ?_,rfl,q⟩
 rw[aj,bj]
 omega
def SZ:V->List V->Hp->VK->Prop:=fun x vs H Q=>∃l xs y,x=.ref l/\vs=[]/\H l=some (.lst xs)/\xs[xs.length-1]?=some y/\Q y (gc H l (.lst xs.dropLast))
theorem Pp:WV X "list.pop" SZ:=by
 intro am s σ H x vs v us Q I rx rv h
 obtain⟨l,xs,y,rfl,rfl,hH,hy,q⟩:=h
 cases rx
 have hus:=rv.zero
 subst hus
 obtain⟨z,b9,n,r,hl,e⟩:=I.lstM hH
 obtain⟨u,hu,ru⟩:=r.get hy
 have hy':b9.toArray[b9.toArray.size-1]?=some u:=by
  show b9.toArray[b9.length-1]?=some u
  rw[<- gb,<- hl]
  exact hu
 refine tD F.slot_list_pop ⟨_,e,rfl⟩ F.entry_list_pop (F.args_list_pop_1 _) (MeetsSeq.list_pop_last l b9.toArray n u hy' (by rw[aX];omega)) ⟨e,?_⟩
 refine⟨y,_,I.lset (its':=b9.dropLast) hH e ?_ r.dropLast ?_,ru,q⟩
 ·show b9.toArray.eraseIdxIfInBounds (b9.toArray.size-1)=b9.dropLast.toArray
  rw[aX,List.eraseIdxIfInBounds_toArray,DW]
 ·rw[List.length_dropLast]
  omega
def Wc:R2:=fun x y H Q=>∃l b xs zs,x=.ref l/\y=.ref b/\H l=some (.lst xs)/\H b=some (.lst zs)/\xs.length+zs.length<=sizeLine/\∀p,H p=none->Q (.ref p) (gc H p (.lst (xs++zs)))
theorem Pq:qm X (binaryOp .Add) Wc:=by
 walk_at "7"
 obtain⟨l,b,xs,zs,rfl,rfl,hH,hB,hz,q⟩:=h
 cases rx
 cases ry
 obtain⟨z,b9,n,r,hl,e⟩:=I.lstM hH
 obtain⟨z2,its2,n2,r2,hl2,e2⟩:=I.lstM hB
 refine PySem.P.add_list e e2 ?_ (by rw[aX,aX];omega)
 have ea:b9.toArray++its2.toArray=(b9++its2).toArray:=by simp
 rw[ea]
 exact⟨.ref _,_,I.lnew (t':=s.toks) (r.append r2) (by rw[aj];omega),rfl,q _ I.fresh⟩
end
section
variable{w:World}
end
section
end
end L2
namespace Att
open PySem PySem.W PySem.Calls PyProof.Rows
theorem we{P:Params}:∀(ns:List Int) (vs:List Value),WellAll P h vs (ns.map WData.int)->IntsAre vs ns:=by
 intro ns
 induction ns with
 |nil=>
  intro vs w
  rw[List.map_nil]at w
  cases w
  exact .nil
 |cons n ns ih=>
  intro vs w
  rw[bD]at w
  cases w with
  |cons a b=>
   cases a
   exact .cons _ _ (ih _ b)
theorem Gw{l:OpenLaw}(hn:l.most=some n){P:Params}{args:List WData}{wG:List Value}
  (Du:l.row.toRowW.claim.pre args=true) (VS:WellAll P h wG args) :
  ∃a vs ns,wG=[Value.ref a]/\args=[WData.list (ns.map WData.int)]/\h.get? a=some { cls:=.type "list",data:=.seq vs.toArray }/\IntsAre vs ns/\ns.length<=n:=by
 have hsh:WShape.hasAll [] args [.list .int]=true:=(pre_splitW Du).1
 have hc:l.pre.holds [] { args:=args }=true:=(pre_splitW Du).2
 obtain⟨d,r,rfl,h1,h2⟩:=hasAllW_cons hsh
 obtain rfl:=hasAllW_nil h2
 obtain⟨xs,rfl,h3⟩:=hasW_list h1
 obtain⟨ns,rfl⟩:=items_int h3
 have gI:ns.length<=n:=by
  unfold OpenLaw.pre at hc
  have h4:(WTm.not (.lt (.lit (.int (n:Int))) (.len (.arg 0)))).holds [] { args:=[.list (ns.map .int)] }=true:=by
   have h4:=(holds_andW hc).1
   rw[hn]at h4
   exact h4
  have h5:=condW_of h4 (w_not (w_lt w_lit (w_len_list (w_arg rfl))))
  rw[aF]at h5
  refine Nat.le_of_not_lt fun q=>?_
  have q':(n:Int)<((ns.length:Nat):Int):=by omega
  first
   |(rw[bg q']at h5;exact absurd h5 (by decide))
   |(simp at h5;omega)
 cases VS with
 |cons w1 w2=>
  cases w2
  cases w1 with
  |list ho hall=>exact⟨_,_,ns,rfl,rfl,ho,we ns _ hall,gI⟩
theorem Gx(l:OpenLaw)(args:List WData):l.row.toRowW.claim.post args (.bool true) args=true:=
 postW_of (r:=l.row.toRowW) (X:=(true==true))
  (show WShape.has [] (.bool true) .bool=true by first|rfl|decide|simp[WShape.has,WShape.arms,WShape.armsAll])
  (show(WTm.eq .res (.lit (.bool true))).value [] { args:=args,res:=some (.bool true),after:=args }=some (.bool (true==true))from w_eq_bool (w_res rfl) w_lit) rfl
theorem attach_call{l:OpenLaw}{q:Program}{Ad:List Str}{d:DefRec}
  (hn:l.most=some n) (Vb:d.params.defaults=[])
  (call:∀(w:World) (s₀ s₁:Shared) (mg mb:Str->Option Value) (fa:Addr) (o:Obj) (pm cd uO:Value) (a:Addr) (vs:List Value) (ns:List Int),
   Ground q Ad [] XP w s₀ mg mb s₁.heap->YP w s₁.heap ->
   s₁.heap.get? fa=some o->o.data=.func (docDef d.name d.params d.body d.scope pm cd uO)->s₁.heap.CodeRec cd d.name->mg d.name=some (.ref fa) ->
   s₁.heap.get? a=some { cls:=.type "list",data:=.seq vs.toArray }->IntsAre vs ns->ns.length<=n->s₁.gens=#[] ->
   codeAny (model l.prog w) callerA (.call (.ref fa) ⟨[.ref a],[]⟩) #[77] s₁) :
  WalkO q Ad XP YP l.row.toRowW d [] (fun f vs=>PySem.call f vs):=by
 intro w s₀ s₁ mg mb G Y fa o pm cd uO dV kV ho hd DC hD hmg hg args wG as Du hlay hrd VS hlo
 obtain rfl:dV=.none:=Dflts.none hD Vb
 obtain rfl:kV=.none:=Dflts.noKw hD
 obtain⟨a,vs,ns,rfl,rfl,hobj,hints,gI⟩:=Gw hn Du VS
 refine enter_call (jm (call w s₀ s₁ mg mb fa o pm cd uO a vs ns G Y ho (fd_plain hd) DC hmg hobj hints gI hg) fun r s' hq=>?_)
 obtain⟨rfl,h2,h3,h4⟩:=hq
 exact⟨.inl ⟨.bool true,.bool true,[],rfl,fun _=>rfl,.bool true,Gx l _,fun _=>⟨List.Pairwise.nil,fun _ hm=>(nomatch hm)⟩⟩,h2,h3,h4⟩
section
variable{w:World}
end
end Att
namespace L2
open PySem PySem.Spec PyProof.Rows
theorem zn:∀{vs:List Value} {ns:List Int},IntsAre vs ns->cQ nk (ns.map V.int) vs
 |_,_,.nil=>.nil
 |_,_,.cons n t h=>.cons ⟨t,rfl⟩ (zn h)
def LU(H:Hp):Prop:=∀b,H b=none\/∃o xs,H b=some (.frz o (.lst xs))
theorem HQ{P:Program}{w:World}{mb:Str->Option Value}{CX:Gp}{fa a:Addr}{fd:FuncData}{sp:Sp}{s₁:Shared}{vs:List Value}
  (KX:K.In s₁.heap) (WH:s₁.heap.Ns mainGlobals mg) (hb:s₁.heap.Ns builtinsNs mb) (Xy:∀x:Str,x ≠ "__name__"->mb x=bootBuiltins x) (WI:s₁.heap.NoLimit) (hg:s₁.gens=#[])
  (ha:s₁.heap.get? a=some { cls:=.type "list",data:=.seq vs.toArray }) (hi:IntsAre vs ns) (hl:ns.length<=sizeLine) (hr:kg k callerA)
  (F:∀base:Heap,K.In base->base.Ns mainGlobals mg->c9 P w K mg base CX k fa fd [x] sp) (U2:∀(s:Shared) (u:Value),BindsTo s fd ⟨[u],[]⟩ [(x,u)]) (RN:fd.scope.names.lookup x=some .local)
  (Os:∀H:Hp,LU H->uQ K H a (ns.map V.int)->sp [.ref a] H (fun v _=>v=.bl true) fun _ _ _=>False)
  (WN:∀H e s',CX [] H s₁ (fun _ _ _=>False) e s'->False) :
  codeAny (model P w) callerA (.call (.ref fa) ⟨[.ref a],[]⟩) #[77] s₁:=by
 have rv:cQ 0 _ _:=zn hi
 have lenV:=hi.length
 have core:∀H:Hp,LU H->uQ K H a (ns.map V.int)->uN P w s₁.toks H s₁.heap->(∀b,H b≠none->b=a)->(H a≠none->K.lookup a=none) ->
   codeAny (model P w) callerA (.call (.ref fa) ⟨[.ref a],[]⟩) #[77] s₁:=by
  intro H hO hS hok hA hK
  have base_of:∀{b:Addr} {o:Obj},s₁.heap.get? b=some o->H b=none->(Ag s₁.heap H).get? b=some o:=fun e n=>Hs e n
  have noA:∀{b:Addr} {o:Obj} {es:Array DictEntry} {ep:Nat},s₁.heap.get? b=some o->o.data=.dict es ep->H b=none:=fun{b o es ep} e d=>by
   cases q:H b with
   |none=>rfl
   |some u=>
    have e':b=a:=hA b (by rw[q];simp)
    subst e'
    rw[ha]at e;cases e
    have d':Data.seq vs.toArray _=Data.dict es ep:=d
    cases d'
  have nsK:∀{b:Addr} {m:Str->Option Value},s₁.heap.Ns b m->(Ag s₁.heap H).Ns b m:=fun{b m} ⟨o,es,ep,e,d,r⟩=>⟨o,es,ep,base_of e (noA e d),d,r⟩
  have hKb:K.In (Ag s₁.heap H):=fun b o e=>base_of (KX b o e) (by
   cases q:H b with
   |none=>rfl
   |some u=>
    have e':b=a:=hA b (by rw[q];simp)
    subst e'
    rw[hK (by rw[q];simp)]at e;cases e)
  have hM:Mod K mg (Ag s₁.heap H):=⟨hKb,nsK WH,⟨mb,nsK hb,Xy⟩,let ⟨mc,h1,h2⟩:=WI;⟨mc,nsK h1,h2⟩⟩
  have e0:DP P w K mg (Ag s₁.heap H) callerA [] s₁ H:=⟨rfl,hM,fun b o e=>Lq e,Nat.le_of_eq (Ga _ _),trivial,fun b hb=>absurd (show b∈([]:List Addr)from hb) #[15],hok,.of_eq hg⟩
  refine jm ((F _ hKb (nsK WH)).run callerA [] s₁ H ⟨[.ref a],[]⟩ [.ref a] [.ref a] _ _ hr e0 (.inr ⟨x,rfl,RN⟩) (U2 s₁ (.ref a)) (.cons rfl .nil) (Os H hO hS)) fun r s' h=>?_
  cases r with
  |error e=>exact(WN H e s' h).elim
  |ok fl=>
   cases fl with
   |next=>exact False.elim h
   |brk=>exact False.elim h
   |cont=>exact False.elim h
   |ret u=>
    obtain⟨v,H',os,bare,un,hok',r',q⟩:=h
    have q':v=.bl true:=q
    subst q'
    obtain rfl:u=Value.bool true:=r'
    refine⟨rfl,OldK.of_keep fun b o e=>?_,os,bare⟩
    cases q:H b with
    |none=>exact un.keep b o e q (by intro z;exact absurd (show b∈([]:List Addr)from z) (by simp)) (by simp)
    |some u=>
     rcases hO b with z|⟨ob,xs,z⟩
     ·rw[q]at z;cases z
     ·have z2:=un.frzs b ob _ z
      obtain⟨e1,_⟩:=hok b _ z
      obtain⟨e2,_⟩:=hok' b _ z2
      rw[e]at e1;cases e1
      exact e2
 cases hk:K.lookup a with
 |some o=>
  have e:=KX a o hk
  rw[ha]at e
  cases e
  refine core (fun _=>none) (fun _=>.inl rfl) (.inr ⟨_,vs.toArray,_,hk,rfl,rfl,rfl,by rw[aX,lenV];exact hl,by simpa using rv⟩) (fun b u z=>by have z':(none:Option HO)=some u:=z;cases z') (fun b z=>absurd rfl z) fun z=>absurd rfl z
 |none=>
  refine core (fun b=>if b=a then some (.frz { cls:=.type "list",data:=.seq vs.toArray } (.lst (ns.map V.int)))else none) (fun b=>?_) (.inl (.inr ⟨{ cls:=.type "list",data:=.seq vs.toArray },aJ rfl⟩)) (fun b u z=>?_) (fun b z=>?_) fun _=>hk
  ·by_cases hb:b=a
   ·exact .inr ⟨_,_,aJ hb⟩
   ·exact .inl (aW hb)
  ·by_cases hb:b=a
   ·have z':=(aJ hb).symm.trans z
    cases z'
    subst hb
    exact⟨ha,by rw[aF];exact hl,vs,_,rv.up (cE _),ha⟩
   ·have z':=(aW hb).symm.trans z
    cases z'
  ·by_cases hb:b=a
   ·exact hb
   ·exact absurd (aW hb) z
end L2
namespace L2
open PySem PySem.Spec PyProof.Rows
theorem walk_of{l:PySem.W.OpenLaw}{n k:Nat}{q:Program}{Ad:List Str}{d:DefRec}{K:Params->Frag}{CX:World->Gp}{sp:World->Sp}{x:Str}
  (hn:l.most=some n) (Vc:n<=sizeLine) (Vb:d.params.defaults=[]) (hr:kg k callerA)
  (hY:∀(w:World) (h:Heap),YP w h->(K w.params).In h)
  (F:∀(w:World) (mg:Str->Option Value) (fa:Addr) (h:Heap),(K w.params).In h->h.Ns mainGlobals mg->mg d.name=some (.ref fa) ->
   ∃fd:FuncData,fd.scope.names.lookup x=some .local/\(∀(s:Shared) (u:Value),BindsTo s fd ⟨[u],[]⟩ [(x,u)]) /\
    ∀base:Heap,(K w.params).In base->base.Ns mainGlobals mg->c9 l.prog w (K w.params) mg base (CX w) k fa fd [x] (sp w))
  (Os:∀(w:World) (H:Hp) (a:Addr) (ns:List Int),ns.length<=n->LU H->uQ (K w.params) H a (ns.map V.int)->sp w [.ref a] H (fun v _=>v=.bl true) fun _ _ _=>False)
  (WN:∀(w:World) (H:Hp) (s:Shared) (e:Value) (s':Shared),CX w [] H s (fun _ _ _=>False) e s'->False) :
  PySem.W.WalkO q Ad XP YP l.row.toRowW d [] (fun f vs=>PySem.call f vs):=by
 refine Att.attach_call hn Vb fun w s₀ s₁ mg mb fa o pm cd uO a vs ns G Y ho hd DC hmg hobj hints gI hg=>?_
 have KX:=hY w _ Y
 obtain⟨fd,RN,hb,hF⟩:=F w mg fa _ KX G.T.g hmg
 exact HQ KX G.T.g G.T.b G.T.builtins G.T.nolimit hg hobj hints (aO gI Vc) hr hF hb RN (fun H hO hS=>Os w H a ns gI hO hS) fun H e s'=>WN w H s₁ e s'
end L2
namespace L2
open PySem PySem.Spec PyProof.Rows
def je(s:Stmt):Arguments:=match s with
 |.FunctionDef _ a _ _ _ _ _ _ _ _=>a
 |_=>{ posonlyargs:=[],args:=[],vararg:=none,kwonlyargs:=[],kw_defaults:=[],kwarg:=none,defaults:=[] }
def hZ(s:Stmt):List Stmt:=match s with
 |.FunctionDef _ _ b _ _ _ _ _ _ _=>b
 |_=>[]
def aQ(s:Stmt):Scope:=match s with
 |.FunctionDef _ _ _ _ _ _ sc _ _ _=>sc
 |_=>{ kind:=.function,names:=[],isGenerator:=false,isCoroutine:=false }
structure iU(K:Frag)(x fX:Str)(st:Stmt)(f:Addr)(fd:FuncData):Prop where
 ex:∃(oc:Value) (od:Option Addr) (kV uO pm:Value) (an:Option Addr) (fE ct:Value) (OA:Array (Option Value)),
  fd=fnOf x fX (je st) (hZ st) (aQ st) .none kV uO pm an fE ct/\K.lookup f=some ⟨oc,od,.func fd,OA⟩/\codeIn K fE fX=true
 kp:keepIn K (.ref f)=true
section
variable{w:World}
theorem iU.binds{st:Stmt}{f:Addr}(F:iU K x fX st f fd)
  (h:∀(kV uO pm:Value) (an:Option Addr) (fE ct:Value) (us:List Value),us.length=ps.length->bindArgs (fnOf x fX (je st) (hZ st) (aQ st) .none kV uO pm an fE ct) ⟨us,[]⟩=pure (ps.zip us)):r6 K fd ps []:=by
 obtain⟨oc,od,kV,uO,pm,an,fE,ct,OA,rfl,lk,DC⟩:=F.ex
 exact .all (h kV uO pm an fE ct)
theorem Ao{st:Stmt}{f:Addr}{oc:Value}{od an:Option Addr}{OA:Array (Option Value)}{kV uO pm fE ct:Value}(l:K.lookup f=some ⟨oc,od,.func (fnOf x fX (je st) (hZ st) (aQ st) .none kV uO pm an fE ct),OA⟩)
  (c:codeIn K fE fX=true) (k:keepIn K (.ref f)=true):iU K x fX st f (fnOf x fX (je st) (hZ st) (aQ st) .none kV uO pm an fE ct):=⟨⟨oc,od,kV,uO,pm,an,fE,ct,OA,rfl,l,c⟩,k⟩
end
section
theorem pv(i:Nat){pos:Pos}(hN:X.N[i]?=some x:=by rfl)(hv:Sc X.env.scope x:=by first|exact Or.inl rfl|exact Or.inr (Or.inl rfl)|exact Or.inr (Or.inr rfl))(hd:#[43]=false:=by decide)
  (DC:(x==("__classdict__":Str))=false:=by decide):PE X (.Name x pos) (Sd i):=OG hN hv hd DC
end
def wf(H H':Hp):Prop:=∀b o,H b=some o->H' b=some o
theorem wf.refl(H:Hp):wf H H:=fun _ _ h=>h
end L2
namespace L2
open PySem PySem.Spec PyProof.Rows
section
variable{κ:Type}[DecidableEq κ]
end
section
variable{w:World}{a:Addr}
end
section
variable{a:Addr}{y v:V}{r:Value}{o:Option V}
end
section
variable{a:Addr}{hX:List (wS×V)}{k:wS}
end
section
variable{i value:Expr}{WJ:Pos}{td ty tv:TE}
end
section
end
section
variable{a:Addr}{y d:V}{r:Value}{o:Option V}
end
section
variable{f:Expr}{td ty tx:TE}
end
section
variable{a:Addr}{hX:List (wS×V)}
end
section
variable{a:Addr}{y:V}
end
end L2
namespace L2
open PySem PySem.Spec PyProof.Rows
section
end
section
variable{κ:Type}[DecidableEq κ]
end
end L2
set_option maxHeartbeats 4000000
namespace L2
open PySem PySem.Spec PyProof.Rows
theorem uW{t:Sem α}{Q Q':α->Shared->Prop}(h:wpAny M A t Q (fun _ _=>False) s)(hQ:∀a s',s.toks<=s'.toks->Q a s'->Q' a s'):wpAny M A t Q' E s:=
 up (jU h (fun a s' q k=>hQ a s' k q) fun _ _ z=>z.elim)
abbrev eD(X:Cx)(nm:List Str)(scope:Scope)(cl:List (Str×Addr))(C:Addr)(s0:Shared)(H0:Hp)(fp:List Addr):Cx:=
 { X with N:=nm,s₀:=s0,H₀:=H0,env:=compEnvC scope cl C X.env,outer:=X.stack,stack:=X.stack,ex:=fp,fn:=fun _=>false,pn:=[],xe:=fun _ _=>False }
def HR(X:Cx)(oY:List Expr)(t:TT):Prop:=
 ∀(am:List #[38]) (s:Shared) (σ:St) (H:Hp) (Q:Bool->Hp->Prop),bT X am σ H s->t σ H Q ->
  wpAny #[5] X.A (forIn oY true fun c r=>if r=true then do let ok <- isTrue c X.env (eval c X.env);pure (ForInStep.yield ok)else pure (ForInStep.yield r)) (TP X am σ Q) X.xe s
def Wd:TT:=fun _ H Q=>Q true H
theorem LV:HR X [] Wd:=fun _ _ _ H _ I h=>wpAny_tests_nil ⟨H,I,h⟩
theorem LW{c:Expr}{t:TT}(hc:PT X c t):HR X [c] t:=fun am s σ H Q I h=>wpAny_tests_one (hc am s σ H Q I h)
def r9(cap:List #[81])(σ:St):St:=cap.map fun o=>o.bind fun j=>(σ[j]?).join
def wY(cap:List #[81])(wi:TI)(g:TG)(tc:TT)(te:TE):TE:=fun σ H Q=>wi σ H fun J H1=>∃W:Nat->Nat->List V->Hp->Prop,(∃m,W 0 m [] H1)/\∀i m ys H2,W i m ys H2 ->
 (J.stop i H2/\ys.length<=sizeLine/\∀p,H2 p=none->Q (.ref p) (gc H2 p (.lst ys))) \/
 (J.go i H2/\∀x H3,J.yld i H2 x H3->g x (r9 cap σ) H3 fun σ2 H4=>tc σ2 H4 fun b H5=>if b=true then te σ2 H5 fun y H6=>ys.length<sizeLine/\∃m',m'<m/\W (i+1) m' (ys++[y]) H6 else ∃m',m'<m/\W (i+1) m' ys H5)
theorem Un.cellK{fs ex:List Addr}(u:Un fs ex H H' h h'){c:Addr}{v:Option Value}(x:h.IsCell c v)(n:H c=none)(he:c∉ex):h'.IsCell c v:=by
 obtain⟨o,ho,hd⟩:=x
 obtain⟨sl,q⟩:=u.any ho n he
 exact⟨_,q,hd⟩
structure wZ(X:Cx)(scope:Scope)(cl:List (Str×Addr))(x:Str):Prop where
 vis:Sc X.env.scope x
 nl:X.env.scope.names.lookup x≠some .local
 cl:cl.lookup x=X.env.cells.lookup x
 kd:(relabel scope X.env).names.lookup x=some .cell\/(relabel scope X.env).names.lookup x=some .free
theorem nU:∀(names:List (Str×NameKind)) (n:Nat) (jF:List (Str×Addr)) {y:Str} {c:Addr},(y,c)∈cellsFrom n names jF->(y,NameKind.cell)∈names\/(y,c)∈jF
 |[],_,_,_,_,h=>.inr h
 |(x,k)::r,n,jF,y,c,h=>by
  have h:(y,c)∈(if k==.cell then cellsFrom (n+1) r ((x,n)::jF)else cellsFrom n r jF):=h
  split at h
  ·rename_i hk
   rcases nU r _ _ h with q|q
   ·exact .inl (aU _ q)
   ·rcases aT.mp q with e|q
    ·cases e
     exact .inl (by rw[oT hk];exact bS)
    ·exact .inr q
  ·rcases nU r _ _ h with q|q
   ·exact .inl (aU _ q)
   ·exact .inr q
theorem jY:∀{l:List (Str×β)} {x:Str} {b:β},l.lookup x=some b->(x,b)∈l
 |[],_,_,h=>by simp at h
 |(y,c)::r,x,b,h=>by
  rw[lj]at h
  cases hx:x==y with
  |true=>rw[hx]at h;have:=oT hx;subst this;cases h;exact bS
  |false=>rw[hx]at h;exact aU _ (jY h)
theorem lv:∀(names:List (Str×NameKind)) (n:Nat) (jF:List (Str×Addr)),cellsFrom n names jF=cellsFrom n names []++jF
 |[],_,_=>rfl
 |(x,k)::r,n,jF=>by
  show(if k==.cell then cellsFrom (n+1) r ((x,n)::jF)else cellsFrom n r jF)=(if k==.cell then cellsFrom (n+1) r [(x,n)]else cellsFrom n r [])++jF
  split
  ·rw[lv r (n+1) ((x,n)::jF),lv r (n+1) [(x,n)],al];rfl
  ·exact lv r n jF
abbrev fH(X:Cx)(nm:List Str)(scope:Scope)(cl:List (Str×Addr))(C:Addr)(s0:Shared)(H0:Hp)(fp:List Addr):Cx:=
 { eD X nm scope cl C s0 H0 fp with fn:=fun y=>scope.names.lookup y==some .cell }
theorem LX{M:Model}{A:Around}{E:Value->Shared->Prop}{globals:Addr}{Q:Env->Shared->Prop}
  (hQ:∀h':Heap,h'.Ns s.heap.objs.size (fun x=>([]:List (Str×Value)).reverse.lookup x)->(∀b o,s.heap.get? b=some o->h'.get? b=some o)->CellsOk h' #[8] #[55] ->
   Q (newEnv scope s.heap.objs.size globals (cellsFrom #[8] scope.names []++cl) fX none .none (some env) builtinsNs) { s with heap:=h' }) :
  wpAny M A (newFunctionEnv scope globals cl [] fX none .none (some env)) Q E s:=by
 simp only[newFunctionEnv,Option.isSome_some,gy]
 refine ag (wpAny_alloc ?_)
 refine ag (wpAny_layCells _ (fun name kind cells=>by cases hkc:kind==NameKind.cell<;>simp[hkc]) _ _ _ _ ?_)
 have ok:=cellsFrom_ok scope.names (s.heap.push { cls:=.type "dict",data:=.dict #[] }) #[8] [] ⟨fun _ _ hm=>(nomatch hm),List.Pairwise.nil⟩ (by rw[bG];exact aC _)
 rw[bG]at ok
 rw[show({ s with heap:=s.heap.push { cls:=.type "dict",data:=.dict #[] } }:Shared).heap.objs.size=s.heap.objs.size+1 from bG ..,lv _ _ cl]
 exact ag (ay (ay (hQ _ ((Heap.Ns.new s.heap (.type "dict")).keeps (ml _ _)) (fun b o e=>ml _ _ b o (aw _ e)) ok)))
section
variable{wi:TI}{g:TG}{tc:TT}
theorem Ap{prog:Program}{w:World}{A:Around}{E:Value->Shared->Prop}{l:Addr}{u:Value}{Q:Value->Shared->Prop}
  (e:s.heap.get? l=some { cls:=.type "list",data:=.seq b9.toArray n }) (hz:b9.length<sizeLine)
  (h:∀(h':Heap) (n' tk:Nat),h'.get? l=some { cls:=.type "list",data:=.seq (b9++[u]).toArray n' }->(∀b o,b≠l->s.heap.get? b=some o->h'.get? b=some o)->Q .none { s with heap:=h',toks:=tk }) :
  wpAny #[7] A (call (.builtin "list.append") [.ref l,u]) Q E s:=by
 refine tD F.slot_list_append ⟨_,e,rfl⟩ F.entry_list_append (F.args_list_append_2 _ _) (PySem.list_append l b9.toArray n u (by rw[aX];omega)) ⟨e,?_⟩
 have q:=PySem.IsL.update e (fun a=>a.push u)
 have q2:(s.heap.update l (Obj.mapSeq fun x=>x.push u)).get? l=some { cls:=.type "list",data:=.seq (b9++[u]).toArray (if ((b9.toArray.push u).size==b9.toArray.size)=true then n else n+1) }:=by
  rw[show(s.heap.update l (Obj.mapSeq fun x=>x.push u)).get? l=_ from q];simp
 exact h _ _ s.toks q2 fun b o hb ho=>(cX s.heap (Obj.mapSeq _) (Ne.symm hb)).trans ho
structure BO(X:Cx)(am:List #[38])(H:Hp)(s:Shared)(C:Addr)(m:Str->Option Value):Prop where
 ns:s.heap.Ns C m
 fr:H C=none
 nl:C≠X.env.locals
 nf:C∉X.fs
 hi:X.s₀.heap.objs.size<=C
 nc:∀x c,X.env.cells.lookup x=some c->c≠C
 np:∀p∈X.pn++am,p.1≠C
theorem BO.off{m:Str->Option Value}(B:BO X am H s C m)(I:bT X am σ H s)(hs:Heap.SameBut C s.heap h'):bT X am σ H { s with heap:=h' }:=I.turned (t':=s.toks) (it:=C) (fun b o hb e=>hs.extBut b o hb e) B.fr B.nl (.inr B.hi) B.nc B.np
theorem HS{Ov:List #[38]}{σ2:St}{H1:Hp}{s2:Shared}
  (wE:∀(i j:Nat),cap[i]?=some (some j)->∃x,nm[i]?=some x/\X.N[j]?=some x/\wZ X scope cl x) (gI:cap.length=nm.length)
  (I2:bT X am σ H1 s2) (Vo:∀b∈fp,∀x c,X.env.cells.lookup x=some c->c≠b)
  (I:bT (fH X nm scope cl C s2 H1 fp) Ov σ2 H s):bT (fH X nm scope cl C s2 H1 fp) Ov (r9 cap σ) H s:=by
 refine⟨I.ok,I.os,I.bare,I.base,?_,I.cell,I.free,I.freeC,I.pin,I.hok,by show(r9 cap σ).length=nm.length;unfold r9;rw[aF];exact gI,I.pos,I.tk⟩
 obtain⟨m,hn,_⟩:=I.loc
 refine⟨m,hn,fun i x v e1 e2 e3=>?_⟩
 unfold r9 at e2
 rw[aI]at e2
 cases hc:cap[i]? with
 |none=>rw[hc]at e2;cases e2
 |some oj=>
  cases oj with
  |none=>rw[hc]at e2;cases e2
  |some j=>
   rw[hc]at e2
   have e2':(σ[j]?).join=some v:=by simpa using e2
   have e2:σ[j]?=some (some v):=by
    cases hs:σ[j]? with
    |none=>rw[hs]at e2';cases e2'
    |some ov=>rw[hs]at e2';simp at e2';rw[e2']
   obtain⟨x',f1,f2,k⟩:=wE i j hc
   have hx:x'=x:=by
    have z:nm[i]?=some x:=e1
    rw[f1]at z;exact bC z
   subst hx
   obtain⟨m2,_,hl2⟩:=I2.loc
   obtain⟨u,r,l⟩:=hl2 j x' v f2 e2 k.vis
   refine⟨u,r.up I.tk,?_⟩
   rcases l with⟨kl,_⟩|⟨_,c,hcc,iP⟩
   ·exact absurd kl k.nl
   ·refine .inr ⟨k.kd,c,by rw[<- hcc];exact k.cl,?_⟩
    exact I.base.cellK iP (I2.freeC _ _ hcc) fun z=>Vo c z _ _ hcc rfl
theorem DY{Qk:VK}(kQ:X.calm=true)(yy:closureFor scope X.env=pure cl)(Dl:∀x c,cl.lookup x=some c->X.env.cells.lookup x=some c)
  (kR:scope.kind=.function) (tu:∀x∈scope.names,x.2=.local->scope.names.lookup x.1=some .local) (Xw:∀y∈scope.names,y.2=.cell->cl.lookup y.1=none)
  (E2:∀x,scope.names.lookup x≠some .cell->#[14]->∃c,cl.lookup x=some c)
  (wE:∀(i j:Nat),cap[i]?=some (some j)->∃x,nm[i]?=some x/\X.N[j]?=some x/\wZ X scope cl x/\(x,NameKind.cell)∉scope.names) (gI:cap.length=nm.length)
  (hi:PI X tg eP wi) (hg:∀k C s0 H0 fp,PG (fH X nm scope (cellsFrom k scope.names []++cl) C s0 H0 fp) tg g) (ht:∀k C s0 H0 fp,HR (fH X nm scope (cellsFrom k scope.names []++cl) C s0 H0 fp) oY tc)
  (he:∀k C s0 H0 fp,PE (fH X nm scope (cellsFrom k scope.names []++cl) C s0 H0 fp) tt te) (hs:∀x,foldedSetIterable eP X.env x=pure x)
  (I:bT X am σ H s) (h:wY cap wi g tc te σ H Qk) (lg:∀(s4:Shared) (C D:Addr) (m4:Str->Option Value) (Hn:Hp),bT X am σ Hn s4->BO X am Hn s4 C m4->Qk (.ref D) Hn->compPost #[5] X.A X.xe use Qv (.ref D) C (.ok .next) s4) :
  wpAny #[5] X.A (comprehension #[11] scope X.env (firstIterPos [⟨tg,eP,oY,0⟩] pos) (newList []) (firstAsync [⟨tg,eP,oY,0⟩]) (firstIter [⟨tg,eP,oY,0⟩] X.env) use) Qv X.xe s:=by
 refine wpAny_comprehension_free (use:=use) rfl hs yy kR tu (DD (hi am s σ H _ I h) fun v s1 h1=>DD h1 fun WC s2 h2=>?_)
 obtain⟨it,fp,tn,J,H1,e,I2,T,dz,f2,W,⟨m0,w0⟩,turn⟩:=h2
 subst e
 have hfpn:∀b∈fp,b<s2.heap.objs.size:=fun b hb=>let ⟨o,ho,_⟩:=T.obj _ _ dz b hb;aH ho
 have hfpc:∀b∈fp,∀x c,X.env.cells.lookup x=some c->c≠b:=fun b hb=>(f2 b hb).2.2.2.2.1
 refine cH (LX (fun h₁ hns₁ hsb₁ cok=>?_))
 dsimp only at hns₁ hsb₁ cok ⊢
 generalize hH2:s2.heap.push { cls:=.type "list",dict:=none,data:=.seq ([]:List Value).toArray }=G2 at hns₁ hsb₁ cok ⊢
 have hC:G2.objs.size=s2.heap.objs.size+1:=by rw[<- hH2,bG]
 have hDC:s2.heap.objs.size≠G2.objs.size:=by rw[hC];exact a9 (cu _)
 have old:∀b o,s2.heap.get? b=some o->h₁.get? b=some o:=fun b o e=>hsb₁ b o (hH2▸aw _ e)
 have hacc:h₁.get? s2.heap.objs.size=some { cls:=.type "list",data:=.seq ([]:List Value).toArray }:=hsb₁ _ _ (hH2▸aD _ rfl)
 have both:∀y c,#[39].lookup y=some c->(cellsFrom (G2.objs.size+1) scope.names []).lookup y=some c\/cl.lookup y=some c:=fun y c e=>by
  rw[jW]at e
  cases h:(cellsFrom (G2.objs.size+1) scope.names []).lookup y with
  |none=>rw[h]at e;exact .inr e
  |some b=>rw[h]at e;exact .inl e
 have ownhi:∀y c,(cellsFrom (G2.objs.size+1) scope.names []).lookup y=some c->h₁.IsCell c none/\G2.objs.size+1<=c:=fun y c e=>cok.empty y c (PySem.mem_of_lookup e)
 have cllow:∀y c,cl.lookup y=some c->c<s2.heap.objs.size:=fun y c e=>by obtain⟨v,hv⟩:=I2.cell y c (Dl _ _ e);exact hv.lt
 have hcap0:=wE
 have wE:∀(i j:Nat),cap[i]?=some (some j)->∃x,nm[i]?=some x/\X.N[j]?=some x/\wZ X scope #[39] x:=fun i j e=>by
  obtain⟨x,q1,q2,k,q3⟩:=hcap0 i j e
  refine⟨x,q1,q2,k.vis,k.nl,?_,k.kd⟩
  rw[jW]
  cases h:(cellsFrom (G2.objs.size+1) scope.names []).lookup x with
  |none=>exact k.cl
  |some c=>
   rcases nU _ _ _ (PySem.mem_of_lookup h)with z|z
   ·exact absurd z q3
   ·cases z
 have okB:#[2].Ok:=by
  refine⟨I2.ok.mod,kR,I2.ok.glob,I2.ok.blt,by show s2.heap.objs.size<=G2.objs.size;omega,fun x y c h1 h2=>?_,fun x hx=>?_,fun x c h0 hc=>?_,fun hc=>I2.ok.hd kQ,I2.ok.frames,.inl rfl,?_,?_,?_,?_,?_,?_,?_⟩
  ·rcases both x c h1 with q1|q1<;>rcases both y c h2 with q2|q2
   ·exact name_of_addr cok.apart (PySem.mem_of_lookup q1) (PySem.mem_of_lookup q2)
   ·exact absurd (cllow y c q2) (jX.mpr (aO #[0] (ownhi x c q1).2))
   ·exact absurd (cllow x c q1) (jX.mpr (aO #[0] (ownhi y c q2).2))
   ·exact I2.ok.inj x y c (Dl _ _ q1) (Dl _ _ q2)
  ·show ∃c,#[39].lookup x=some c
   rw[jW]
   by_cases hq:scope.names.lookup x=some .cell
   ·obtain⟨c,e⟩:=oq (n:=G2.objs.size+1) hq
    exact⟨c,by rw[e];rfl⟩
   ·obtain⟨c,e⟩:=E2 x hq hx
    cases h:(cellsFrom (G2.objs.size+1) scope.names []).lookup x with
    |none=>exact⟨c,e⟩
    |some b=>exact⟨b,rfl⟩
  ·have hq:scope.names.lookup x=some .cell:=by simpa using h0
   obtain⟨b,e⟩:=oq (n:=G2.objs.size+1) hq
   have hc:#[39].lookup x=some c:=hc
   rw[jW,e]at hc
   cases hc
   have:=(ownhi x _ e).2
   show s2.heap.objs.size<=_
   omega
  ·intro b hb
   exact⟨a9 (aL (hfpn b hb) (by show _<=G2.objs.size;omega)),fun x c hx=>(both x c hx).elim (fun q=>eR (aL (hfpn b hb) (aO #[0] (ownhi x c q).2))) fun q=>hfpc b hb x c (Dl _ _ q)⟩
  ·exact fun b o hb=>I2.bs b o hb
  ·exact aO I2.ok.bsz I2.sz
  ·intro b o hb z
   rcases(f2 b z).2.2.2.1 with q|q
   ·exact I2.ok.noex b o hb q
   ·exact absurd (aH (I2.ok.bs b o hb).1) (jX.mpr q)
  ·intro b hb z
   rcases aT.mp (I2.stkSub b z)with q|q
   ·exact(f2 b hb).2.1 q
   ·exact(f2 b hb).2.2.1 q
  ·exact I2.stack
  ·exact I2.stkFree
 have I4:bT #[2] [] (r9 cap σ) H1 { s2 with heap:=h₁ }:=by
  refine HS wE gI I2 hfpc (σ2:=List.replicate nm.length none) ⟨okB,rfl,I2.bare,Un.kept old,⟨_,hns₁,fun i x v _ e2=>?_⟩,fun x c hx=>?_,?_,fun x c hx=>(both x c hx).elim (fun q=>I2.hok.fresh (by have:=(ownhi x c q).2;omega)) fun q=>I2.freeC x c (Dl _ _ q),fun p hp=>absurd hp #[15],I2.hok.kept old,by simp,I2.pos,aC _⟩
  ·rw[j8]at e2;split at e2<;>cases e2
  ·rcases both x c hx with q|q
   ·exact⟨none,(ownhi x c q).1⟩
   ·obtain⟨v,hv⟩:=I2.cell x c (Dl _ _ q)
    exact⟨v,hv.keeps old⟩
  ·exact I2.hok.fresh (by show _<=G2.objs.size;omega)
 have hsz0:∀{Hx:Hp} {sx:Shared} {px:List #[38]} {σx:St},bT #[2] px σx Hx sx->Hx s2.heap.objs.size=none->∀{oa:Obj},sx.heap.get? s2.heap.objs.size=some oa->(∀v,oa.data≠.cell v) ->
   bT #[2] [(s2.heap.objs.size,oa)] σx Hx sx:=fun{Hx sx px σx} Ix hn {oa} ho hd=>Ix.pins_of fun p hp=>by
  have e:p=(s2.heap.objs.size,oa):=by simpa using hp
  subst e
  exact⟨ho,hn,hDC,fun z=>by
   obtain⟨_,o,q,_⟩:=I2.stack.mem z
   exact absurd (aH q) (d8 _),hd⟩
 have hfpB:∀{Hx:Hp} {oa:Obj},(∀b∈fp,Hx b=none)->∀b∈fp,uR #[2] [(s2.heap.objs.size,oa)] Hx b:=fun{Hx oa} hn b hb=>
  ⟨hn b hb,(okB.exf b hb).1,okB.exfs b hb,.inl hb,(okB.exf b hb).2,fun p hp=>by
   have e:p=(s2.heap.objs.size,oa):=by simpa using hp
   subst e
   exact eR (hfpn b hb)⟩
 have hcalmB:#[2].calm=true:=kQ
 have loop:∀sx:Shared,sx={ s2 with heap:=h₁ } ->
   codeAny #[5] X.A (.compLoop #[11] 0 (.ref it) (.ref s2.heap.objs.size) (compEnvC scope #[39] G2.objs.size X.env))
    (compPost #[5] X.A X.xe use Qv (.ref s2.heap.objs.size) G2.objs.size) sx:=by
  rintro sx rfl
  refine codeAny_loop rfl (fun n s'=>∃i ys H',bT #[2] [] (r9 cap σ) H' s'/\tn i s'.heap/\(∀b∈fp,H' b=none)/\H' s2.heap.objs.size=none /\
   (∃b9 k,cQ s'.toks ys b9/\s'.heap.get? s2.heap.objs.size=some { cls:=.type "list",data:=.seq b9.toArray k })/\W i n ys H') ?_ m0
   ⟨0,[],H1,I4,T.keep _ _ _ dz (fun b _ o e=>old b o e),fun b hb=>(f2 b hb).1,I2.fresh,⟨[],0,.nil,hacc⟩,w0⟩
  rintro n s3 ⟨i,ys,H3,I3,nN,fr3,na3,⟨b9,ka,rv,ea⟩,w3⟩
  show wpAny _ X.A ((compTurn #[11] 0 (.ref it) (.ref s2.heap.objs.size) (compEnvC scope #[39] G2.objs.size X.env)).onRaise (fun x=>do noteFrame x (compEnvC scope #[39] G2.objs.size X.env);theTreesLotGoes x)) _ _ s3
  refine wpAny_noted ?_
  rw[compTurn_list]
  refine ag (sI ?_)
  have I3p:=hsz0 I3 na3 ea (fun v z=>by cases z)
  rcases turn i n ys H3 w3 with⟨stop,hz,qn⟩|⟨go,step⟩
  ·refine ag (uW (T.done #[2] rfl rfl rfl hcalmB i _ s3 _ H3 (fun _ _=>False) I3p (hfpB fr3) nN stop) (fun r s4 kt4 hr=>?_))
   obtain⟨hr,I4'⟩:=hr
   subst hr
   refine ay ?_
   obtain⟨m4,hn4,_⟩:=id I4'.loc
   have pa:=I4'.pin (s2.heap.objs.size,{ cls:=.type "list",data:=.seq b9.toArray ka }) #[15]
   have ne:∀b o,s2.heap.get? b=some o->b≠s2.heap.objs.size/\b≠G2.objs.size:=fun b o e=>⟨a9 (aH e),a9 (by rw[hC];exact de (aH e))⟩
   have I5:bT X am σ (gc H3 s2.heap.objs.size (.lst ys)) s4:=by
    refine I2.call' (ch:=fp) I4'.os ⟨fun b o e n hb hx=>?_,fun b o e n hb hx=>?_,fun b o e n hx=>?_,fun b o e hx=>?_,fun b xs e=>?_,fun b o u e=>?_,fun b ps e=>?_⟩ ?_ I4'.bare (fun b hb=>?_) I4'.tk
    ·exact I4'.base.keep b o e n hb hx
    ·exact I4'.base.slot b o e n hb hx
    ·rw[df (ne b o e).1];exact I4'.base.free b o e n hx
    ·exact I4'.base.there b o e hx
    ·have q:=I4'.base.tups b xs e
     rw[df (fR q na3)];exact q
    ·have q:=I4'.base.frzs b o u e
     rw[df (fR q na3)];exact q
    ·obtain⟨mr,q⟩:=I4'.base.tbls b ps e
     exact⟨mr,by rw[df (fR q na3)];exact q⟩
    ·intro b o e
     by_cases hb:b=s2.heap.objs.size
     ·subst hb
      rw[ig]at e;cases e
      exact⟨hz,b9,ka,rv.up kt4,pa.1⟩
     ·rw[df hb]at e
      exact(I4'.hok b o e).stay (fun c u hc q=>q) (fun c q=>by rw[df (fR q na3)];exact q) fun c xs q=>by rw[df (fR q na3)];exact q
    ·obtain⟨_,g1,_,g3,g4,g5⟩:=f2 b hb
     exact⟨g3,g1,g4,g5⟩
   have lC:s2.heap.objs.size<=G2.objs.size:=by rw[hC];exact bx _
   exact lg s4 G2.objs.size _ m4 _ I5 ⟨hn4,by rw[df (Ne.symm hDC)];exact I4'.free,eR (aL I2.lt lC),I2.nofs lC,aO I2.sz lC,fun x c hx z=>(by
    obtain⟨v,o,ho,_⟩:=I2.cell x c hx
    exact absurd (aH ho) (by rw[z];exact jX.mpr lC)),fun p hp z=>(by
    have:=(I2.pin p hp).1
    exact absurd (aH this) (by rw[z];exact jX.mpr lC))⟩ (qn _ na3)
  ·refine ag (uW (T.item #[2] rfl rfl rfl hcalmB i _ s3 _ H3 (fun _ _=>False) I3p (hfpB fr3) nN go) (fun r s4 kt4 hr=>?_))
   obtain⟨u,hr,h4⟩:=hr
   subst hr
   dsimp only
   refine ag (uW h4 (fun _ s5 kt5 h5=>?_))
   obtain⟨x,H5,I5,r5,y5,st5,fr5⟩:=h5
   have I5':=I5.pinned (hfpB fr5) (T.obj _ _ st5)
   refine ag (uW (hg _ _ _ _ _ _ s5 _ H5 x u _ I5' r5 (step x H5 y5)) (fun _ s6 kt6 h6=>?_))
   obtain⟨σ6,H6,I6,q6⟩:=h6
   refine ag (uW (ht _ _ _ _ _ _ s6 σ6 H6 _ I6 q6) (fun ok s7 kt7 h7=>?_))
   obtain⟨H7,I7,q7⟩:=h7
   have back:∀{H8:Hp} {s8:Shared} {R_:List V} {its':List Value} {k':Nat},bT #[2] [] σ6 H8 s8->(∀b∈fp,∀o,s5.heap.get? b=some o->s8.heap.get? b=some o)->(∀b∈fp,H8 b=none)->H8 s2.heap.objs.size=none ->
     cQ s8.toks R_ its'->s8.heap.get? s2.heap.objs.size=some { cls:=.type "list",data:=.seq its'.toArray k' }->(∃m',m'<n/\W (i+1) m' R_ H8) ->
     ∃m,m<n/\∃i ys H',bT #[2] [] (r9 cap σ) H' s8/\tn i s8.heap/\(∀b∈fp,H' b=none)/\H' s2.heap.objs.size=none /\
      (∃b9 k,cQ s8.toks ys b9/\s8.heap.get? s2.heap.objs.size=some { cls:=.type "list",data:=.seq b9.toArray k })/\W i m ys H':=
    fun{H8 s8 R_ its' k'} I8 kf f8 n8 rv8 e8 ⟨m',hm,w8⟩=>⟨m',hm,i+1,R_,H8,HS wE gI I2 hfpc I8,T.keep _ _ _ st5 kf,f8,n8,⟨its',k',rv8,e8⟩,w8⟩
   cases ok with
   |false=>
    refine ay ⟨rfl,?_⟩
    have q7':∃m',m'<n/\W (i+1) m' ys H7:=by simpa using q7
    have pa:=I7.pin (s2.heap.objs.size,{ cls:=.type "list",data:=.seq b9.toArray ka }) #[15]
    refine back (I7.pins_of fun p hp=>absurd hp #[15]) (fun b hb o e=>?_) (fun b hb=>?_) pa.2.1 (rv.up #[0]) pa.1 q7'
    ·exact(I7.pin (b,o) (aS _ (aS _ (kU hb e)))).1
    ·obtain⟨o,e,d⟩:=T.obj _ _ st5 b hb
     exact(I7.pin (b,o) (aS _ (aS _ (kU hb e)))).2.1
   |true=>
    rw[aJ rfl]at q7
    refine ag (ag (uW (he _ _ _ _ _ _ s7 σ6 H7 _ I7 q7) (fun xv s8 kt8 h8=>?_)))
    obtain⟨y,H8,I8,r8,hzy,q8⟩:=h8
    have pa:=I8.pin (s2.heap.objs.size,{ cls:=.type "list",data:=.seq b9.toArray ka }) #[15]
    refine ag (up (Ap pa.1 (by rw[<- rv.length];exact hzy) fun h' k' tk e9 sb hk=>?_))
    refine ay (ay ⟨rfl,?_⟩)
    have I9:bT #[2] [] σ6 H8 { s8 with heap:=h',toks:=tk }:=
     (bT.pins_of (pins':=[]) I8 fun p hp=>absurd hp #[15]).turned (it:=s2.heap.objs.size) (fun b o hb e=>sb b o hb e) pa.2.1 hDC (.inr (aC _)) (fun x c hx z=>by
      rcases both x c hx with q|q
      ·exact jX.mpr (ownhi x c q).2 (by rw[z];omega)
      ·exact d8 _ (by have:=cllow x c q;rw[z]at this;exact this)) (fun p hp=>absurd hp #[15])
    refine back I9 (fun b hb o e=>?_) (fun b hb=>?_) pa.2.1 ((rv.up #[0]).append (.cons (r8.up hk) .nil)) e9 q8
    ·exact sb b o (a9 (hfpn b hb)) (I8.pin (b,o) (aS _ (aS _ (kU hb e)))).1
    ·obtain⟨o,e,d⟩:=T.obj _ _ st5 b hb
     exact(I8.pin (b,o) (aS _ (aS _ (kU hb e)))).2.1
 exact codeAny_compStart_list (loop _ rfl) (T.self _ _ _ _ _ (T.keep _ _ _ dz fun b _ o e=>old b o e) (loop _ rfl))
theorem tJ:∀(names:List (Str×NameKind)) (n:Nat),(∀y∈names,y.2≠.cell)->cellsFrom n names []=[]
 |[],_,_=>rfl
 |(x,k)::r,n,h=>by
  show(if k==.cell then cellsFrom (n+1) r [(x,n)]else cellsFrom n r [])=[]
  rw[aW (by have:=h (x,k) #[15];simpa using this)]
  exact tJ r n fun y hy=>h y (by simp[hy])
theorem zo{Qk:VK}(kQ:X.calm=true)(yy:closureFor scope X.env=pure cl)(Dl:∀x c,cl.lookup x=some c->X.env.cells.lookup x=some c)
  (kR:scope.kind=.function) (tu:∀x∈scope.names,x.2=.local->scope.names.lookup x.1=some .local) (iP:∀y∈scope.names,y.2≠.cell)
  (E2:∀x,#[14]->∃c,cl.lookup x=some c)
  (wE:∀(i j:Nat),cap[i]?=some (some j)->∃x,nm[i]?=some x/\X.N[j]?=some x/\wZ X scope cl x) (gI:cap.length=nm.length)
  (hi:PI X tg eP wi) (hg:∀C s0 H0 fp,PG #[10] tg g) (ht:∀C s0 H0 fp,HR #[10] oY tc)
  (he:∀C s0 H0 fp,PE #[10] tt te) (hs:∀x,foldedSetIterable eP X.env x=pure x)
  (I:bT X am σ H s) (h:wY cap wi g tc te σ H Qk) (lg:∀(s4:Shared) (C D:Addr) (m4:Str->Option Value) (Hn:Hp),bT X am σ Hn s4->BO X am Hn s4 C m4->Qk (.ref D) Hn->compPost #[5] X.A X.xe use Qv (.ref D) C (.ok .next) s4) :
  wpAny #[5] X.A (comprehension #[11] scope X.env (firstIterPos [⟨tg,eP,oY,0⟩] pos) (newList []) (firstAsync [⟨tg,eP,oY,0⟩]) (firstIter [⟨tg,eP,oY,0⟩] X.env) use) Qv X.xe s:=by
 have nc:∀k,cellsFrom k scope.names []++cl=cl:=fun k=>by rw[tJ _ _ iP];rfl
 have nx:∀C s0 H0 fp,fH X nm scope cl C s0 H0 fp=eD X nm scope cl C s0 H0 fp:=fun C s0 H0 fp=>by
  have:(fun y=>scope.names.lookup y==some .cell)=fun _=>false:=funext fun y=>by
   rw[bh]
   exact fun e=>iP _ (jY e) rfl
  unfold fH eD
  rw[this]
 exact DY kQ yy Dl kR tu (fun y hy h=>absurd h (iP y hy)) (fun x _ h=>E2 x h) (fun i j h=>let ⟨x,a,b,d⟩:=wE i j h;⟨x,a,b,d,fun z=>iP _ z rfl⟩) gI hi
  (fun k C s0 H0 fp=>by rw[nc,nx];exact hg C s0 H0 fp) (fun k C s0 H0 fp=>by rw[nc,nx];exact ht C s0 H0 fp) (fun k C s0 H0 fp=>by rw[nc,nx];exact he C s0 H0 fp) hs I h lg
theorem LY(kQ:X.calm=true)(yy:closureFor scope X.env=pure cl)(Dl:∀x c,cl.lookup x=some c->X.env.cells.lookup x=some c)
  (kR:scope.kind=.function) (tu:∀x∈scope.names,x.2=.local->scope.names.lookup x.1=some .local) (iP:∀y∈scope.names,y.2≠.cell)
  (E2:∀x,#[14]->∃c,cl.lookup x=some c)
  (wE:∀(i j:Nat),cap[i]?=some (some j)->∃x,nm[i]?=some x/\X.N[j]?=some x/\wZ X scope cl x) (gI:cap.length=nm.length)
  (hi:PI X tg eP wi) (hg:∀C s0 H0 fp,PG #[10] tg g) (ht:∀C s0 H0 fp,HR #[10] oY tc)
  (he:∀C s0 H0 fp,PE #[10] tt te) (hs:∀x,foldedSetIterable eP X.env x=pure x:=by intro _;rfl) :
  PE X #[11] (wY cap wi g tc te):=by
 walk_at "9"
 rw[eval_ListComp]
 exact zo kQ yy Dl kR tu iP E2 wE gI hi hg ht he hs I h fun s4 C D m4 Hn I4 B q=>⟨m4,B.ns,fun h' hs'=>⟨.ref D,Hn,B.off I4 hs',rfl,q⟩⟩
end
end L2
namespace L2
open PySem PySem.Spec PyProof.Rows
def tx(l:List Nat):Str:=⟨l.toArray⟩
theorem Pr(l:List Nat):(tx l).cps.toList=l:=rfl
theorem S5(z:Str):tx z.cps.toList=z:=by cases z;rfl
theorem jN(l:List Nat):(tx l).length=l.length:=by show l.toArray.size=_;simp
theorem DZ(a b:List Nat):tx a++tx b=tx (a++b):=by
 show(⟨a.toArray++b.toArray⟩:Str)=⟨(a++b).toArray⟩
 simp
theorem D0{a b:List Nat}:tx a=tx b↔a=b:=⟨fun h=>by have:=iy (fun z:Str=>z.cps.toList) h;exact this,fun h=>by rw[h]⟩
def We(wG:List V):It:=⟨fun i _=>i<wG.length,fun i H x H'=>H'=H/\wG[i]?=some x,fun i _=>wG.length<=i⟩
section
def kh(l:List Nat):List V:=l.map fun c=>.str (tx [c])
def Wf(tl:TE):TI:=fun σ H R=>tl σ H fun x H1=>∃l,x=.str (tx l)/\R (We (kh l)) H1
theorem w9{w:World}{K:Frag}{tg:Expr}{l:List Nat}{t:Tok}{ty:String}(Fd:["enumerate","zip","dict_itemiterator","dict_reverseitemiterator","odict_iterator","itertools.zip_longest","itertools.pairwise"].contains ty=false)
  (next:∀{A:Around} {s:Shared} {i c:Nat} {Q:Option Value->Shared->Prop} {E:Value->Shared->Prop},s.heap.IsStrIter it ty (tx l) t i->(tx l).cps[i]?=some c ->
   (∀h',h'.IsStrIter it ty (tx l) t (i+1)->Heap.SameBut it s.heap h'->Q (some (.str ⟨#[c]⟩ s.toks)) { s with heap:=h',toks:=s.toks+1 })->wpAny (model P w) A (pyNext (.ref it)) Q E s)
  (stop:∀{A:Around} {s:Shared} {i:Nat} {Q:Option Value->Shared->Prop} {E:Value->Shared->Prop},A.handled=none->s.heap.IsStrIter it ty (tx l) t i->(tx l).cps[i]?=none ->
   (∀h',Heap.ExtBut it s.heap h'->Q none { s with heap:=h' })->wpAny (model P w) A (pyNext (.ref it)) Q E s)
  (Ve:∀(A:Around) (i:Nat) (s:Shared) (Q:Value->Shared->Prop) (E:Value->Shared->Prop),s.heap.IsStrIter it ty (tx l) t i->Q (.ref it) s->wpAny (model P w) A (pyIter (.ref it)) Q E s) :
  DE P w K tg (We (kh l)) [it] it (fun i h=>h.IsStrIter it ty (tx l) t i) where
 mem:=by simp
 obj:=fun i h st b hb=>by
  have e:b=it:=by simpa using hb
  subst e
  obtain⟨o,e,_,d⟩:=st
  exact⟨o,e,fun v z=>by rw[d]at z;cases z⟩
 keep:=fun i h h' st k=>by
  obtain⟨o,e,r⟩:=st
  exact⟨o,k it #[15] o e,r⟩
 item:=by
  walk_at "3"
  subst hP hw hK
  walk_at "4"
  have hg:i<l.length:=by have hg:i<(kh l).length:=hg;simpa[kh]using hg
  obtain⟨c,hx⟩:∃c,l[i]?=some c:=⟨_,ao hg⟩
  refine next st (c:=c) (by simpa[tx]using hx) fun h' bt hs=>?_
  have I1:bT X am σ H { s with heap:=h',toks:=s.toks+1 }:=I.turned (fun b o hb e=>hs.extBut b o hb e) f0 f1 f3 f4 f5
  obtain⟨o,e,cl,d⟩:=id bt
  exact⟨_,rfl,Fh (s:={ s with heap:=h',toks:=s.toks+1 }) e cl d Fd ⟨.str (tx [c]),H,I1,I.tkS,⟨rfl,by unfold kh;rw[aI,hx];rfl⟩,bt,fun b hb=>(hf b hb).1⟩⟩
 done:=by
  walk_at "3"
  subst hP hw hK
  walk_at "4"
  have hg:l.length<=i:=by have hg:(kh l).length<=i:=hg;simpa[kh]using hg
  exact stop (I.ok.hd hc) st (by simpa[tx]using hg) fun h' hs=>⟨rfl,I.turned (t':=s.toks) (fun b o hb e=>hs b o hb e) f0 f1 f3 f4 f5⟩
 self:=fun A i s Q E st h=>Ve A i s Q E st h
theorem Ps{l:Expr}{tl:TE}(hl:PE X l tl):PI X tg l (Wf tl):=by
 intro am s σ H R I h
 refine kJ (hl am s σ H _ I h) fun v s1 kt1 zq=>?_
 walk_at "12"
 obtain⟨l,e,q⟩:=q1
 subst e
 obtain⟨t,rfl⟩:=r1
 have fp:∀b∈[s1.heap.objs.size],uR X am H1 b:=fun b hb=>by
  have e:b=s1.heap.objs.size:=by simpa using hb
  subst e
  exact I1.fpOk (aC _) (I1.hok.fresh (aC _))
 cases ha:(tx l).cps.all (· < 128)
 ·exact nO ha ⟨s1.heap.objs.size,[s1.heap.objs.size],_,_,H1,rfl,I1.kept (t':=s1.toks) fun b o e=>aw _ e,w9 (l:=l) (t:=t.1) (ty:="str_iterator") #[3] (fun a b c=>kD a b c) (fun hh a b c=>wpAny_pyNext_wide_end hh a b c) (fun A i s Q E st h=>wpAny_pyIter_striter_wide st h),⟨_,aD _ rfl,rfl,rfl⟩,fp,q⟩
 ·exact ni ha ⟨s1.heap.objs.size,[s1.heap.objs.size],_,_,H1,rfl,I1.kept (t':=s1.toks) fun b o e=>aw _ e,w9 (l:=l) (t:=t.1) (ty:="str_ascii_iterator") #[3] (fun a b c=>j9 a b c) (fun hh a b c=>wpAny_pyNext_ascii_end hh a b c) (fun A i s Q E st h=>wpAny_pyIter_striter_ascii st h),⟨_,aD _ rfl,rfl,rfl⟩,fp,q⟩
def D1(l:List Nat)(lo hi:Option Int):List Nat:=(l.drop (HT.sIx l.length 0 lo)).take (HT.sIx l.length l.length hi-HT.sIx l.length 0 lo)
theorem BP(l:List Nat)(lo hi:Option Int):(D1 l lo hi).length<=l.length:=by unfold D1;rw[aP,cF];omega
theorem D2(l:List Nat)(i k:Nat):((List.range k).map fun(m:Nat)=>i+m).filterMap (fun j=>l[j]?)=(l.drop i).take k:=by
 induction k generalizing i with
 |zero=>simp
 |succ k ih=>
  rw[pO,bD,cw]
  have e:((fun m=>i+m)∘Nat.succ)=fun m=>(i+1)+m:=by funext m;simp[Function.comp];omega
  rw[e]
  by_cases h:i<l.length
  ·rw[gM]
   simp only[uH,ao h]
   rw[ih (i+1),gg h,List.take_succ_cons]
  ·rw[gM]
   have h':l.length<=i:=by omega
   simp only[uH,cm h']
   rw[ih (i+1),pR h',pR #[0]]
   simp
theorem Na(v:Int)(n d:Nat):(if (1:Int)>0 then max 0 (min (if v<0 then v+(n:Int)else v) (n:Int))else max (-1) (min (if v<0 then v+(n:Int)else v) ((n:Int)-1)))=((HT.sIx n d (some v):Nat):Int):=by
 rw[aJ #[0]]
 show _=(((if v<0 then(v+(n:Int)).toNat else min v.toNat n):Nat):Int)
 by_cases hv:v<0
 ·simp only[aJ hv];omega
 ·simp only[aW hv];omega
theorem Pt(lo hi:Option Int)(n:Nat):Builtin.Str.strSliceIndices lo hi 1 n=(List.range (HT.sIx n n hi-HT.sIx n 0 lo)).map fun(m:Nat)=>HT.sIx n 0 lo+m:=by
 have key:∀a b:Nat,sliceRange (a:Int) (b:Int) 1=(List.range (b-a)).map fun(m:Nat)=>a+m:=fun a b=>by
  unfold sliceRange
  have e:(if (1:Int)>0 then(if (a:Int)<(b:Int)then((b:Int)-a+1-1)/1 else 0)else(if (a:Int)>b then((a:Int)-b-1-1)/(-1)else 0)).toNat=b-a:=by
   rw[aJ #[0]]
   by_cases h:(a:Int)<b
   ·rw[aJ h];omega
   ·rw[aW h];omega
  dsimp only
  rw[e]
  refine fF fun k _=>?_
  omega
 unfold Builtin.Str.strSliceIndices
 rw[<- key]
 dsimp only
 congr 1
 ·cases lo with
  |none=>rfl
  |some v=>exact Na v n 0
 ·cases hi with
  |none=>rfl
  |some v=>exact Na v n n
theorem HU(l:List Nat)(lo hi:Option Int):Txt.slice (tx l) lo hi=tx (D1 l lo hi):=by
 unfold Txt.slice
 rw[Pt,jN]
 split
 ·rename_i h
  simp only[beq_self_eq_true,Bool.true_and,dv,aF,List.length_range]at h
  unfold D1
  have h1:=HT.sIx_le l.length l.length (aC _) hi
  have h2:=HT.sIx_le l.length 0 (cE _) lo
  by_cases hz:l.length=0
  ·have:l=[]:=d6 hz
   subst this;simp
  ·have e0:HT.sIx l.length 0 lo=0:=by omega
   rw[e0,List.drop_zero,bQ #[0]]
 ·unfold D1 tx
  have:∀j:Nat,(l.toArray)[j]?=l[j]?:=fun j=>by simp
  simp only[this]
  rw[D2]
def Wg:V->Option Int->Option Int->Hp->VK->Prop:=fun x lo hi H Q=>∃l,x=.str (tx l)/\l.length<=sizeLine/\Q (.str (tx (D1 l lo hi))) H
theorem Fq{o:Option Int}(p:IsPart v o):∃q:Option (Int×Tok),v=partValue q/\q.map (·.1)=o:=by
 cases p with
 |none=>exact⟨none,rfl,rfl⟩
 |int i t=>exact⟨some (i,t),rfl,rfl⟩
theorem Pu:SN X Wg:=by
 intro am s σ H x v vl vu lo hi sl Q I rx hs pl pu h
 obtain⟨l,e,hz,q⟩:=h
 subst e
 obtain⟨t,rfl⟩:=rx
 obtain⟨pl',rfl,rfl⟩:=Fq pl
 obtain⟨pu',rfl,rfl⟩:=Fq pu
 refine⟨"str",_,F.slot_str_getitem.lookup,nh _ _ _,?_⟩
 refine wpAny_getItem_str_slice (l:=pl') (u:=pu') (st:=none) hs rfl ?_
 have e:=HU l (pl'.map (·.1)) (pu'.map (·.1))
 unfold Txt.slice at e
 have hl:(tx (D1 l (pl'.map (·.1)) (pu'.map (·.1)))).length<=sizeLine:=by rw[jN];exact aO (BP l _ _) hz
 show(if ((1:Int)==1&&(Builtin.Str.strSliceIndices (pl'.map (·.1)) (pu'.map (·.1)) 1 (tx l).length).length==(tx l).length)=true then Made.val (.str (tx l) t.1)else Made.str ⟨((Builtin.Str.strSliceIndices (pl'.map (·.1)) (pu'.map (·.1)) 1 (tx l).length).filterMap ((tx l).cps[·]?)).toArray⟩).post (EP X am σ Q) s
 split
 ·rename_i hc
  rw[aJ hc]at e
  rw[<- e]at q
  exact⟨.str (tx l),H,I,⟨t,rfl⟩,q⟩
 ·rename_i hc
  rw[aW hc]at e
  rw[e]
  exact⟨hl,⟨.str _,H,I.tok _,I.tkS,q⟩⟩
theorem Pv(c:Nat)(l:List Nat):(!(Builtin.Str.occurrences (tx l) (tx [c]) 0 (tx l).length 1).isEmpty)=decide (c∈l):=StrLaws.found_one (tx l) c
def Wh(Vd:Bool):R2:=fun x y H Q=>∃c l,x=.str (tx [c])/\y=.str (tx l)/\Q (.bl (if Vd then !decide (c∈l)else decide (c∈l))) H
theorem Gy:qm X (compareOp .In) (Wh false):=by
 walk_at "7"
 obtain⟨c,l,rfl,rfl,q⟩:=h
 exact Gi am s σ H _ _ v u Q I rx ry ⟨_,_,rfl,rfl,by rw[Pv];exact q⟩
theorem Gz:qm X (compareOp .LtE) (fun x y H Q=>∃c d,x=.str (tx [c])/\y=.str (tx [d])/\Q (.bl (decide (c<=d))) H):=by
 walk_at "7"
 obtain⟨c,d,rfl,rfl,q⟩:=h
 obtain⟨t,rfl⟩:=rx
 obtain⟨t',rfl⟩:=ry
 refine PySem.P.le_str ⟨.bl _,H,I,?_,q⟩
 show Value.bool _=Value.bool _
 congr 1
 show(!decide ([d]<[c]))=decide (c<=d)
 by_cases DC:c<=d
 ·rw[bg DC,a7];rfl
  intro z
  cases z with
  |rel z=>omega
  |cons z=>cases z
 ·rw[a7 DC,bg];rfl
  exact .rel #[0]
theorem w_:∀{ys:List #[66]} {b9:List Value},cQ nk (ys.map fun l=>V.str (tx l)) b9->StrsAre b9 (ys.map tx)
 |[],_,r=>by cases r;exact .nil
 |y::ys,_,r=>by
  cases r with
  |cons r rr=>
   obtain⟨t,rfl⟩:=r
   exact .cons _ _ (w_ rr)
def jx(n:Nat)(b9:List Value):Prop:=∀(x:Str) (t:Tok),Value.str x t∈b9->x.length=1->0<t/\t<n
theorem oZ:∀{b9:List Value} {ss:List Str},StrsAre b9 ss->jx nk b9->cQ nk (ss.map fun z=>V.str z) b9
 |_,_,.nil,_=>.nil
 |_,_,.cons y t r,h=>.cons ⟨⟨t,h y t bS⟩,rfl⟩ (oZ r fun x u hx=>h x u (aU _ hx))
theorem tK:∀{vs:List V} {b9:List Value},cQ nk vs b9->jx nk b9
 |_,_,.nil=>fun _ _ h=>nomatch h
 |v::_,_,.cons r t=>fun x u hx=>by
  rcases aT.mp hx with e|hx
  ·subst e
   cases v with
   |str y=>obtain⟨tk,e⟩:=r;cases e;exact tk.2
   |non=>cases r
   |bl b=>cases r
   |int i=>obtain⟨_,e⟩:=r;cases e
   |byt b=>obtain⟨_,e⟩:=r;cases e
   |flt b=>obtain⟨_,e⟩:=r;cases e
   |ref a=>cases r
   |ty n=>cases r
  ·exact tK t x u hx
theorem Fs:∀{ys:List #[66]} {b9:List Value},cQ nk (ys.map fun l=>V.str (tx l)) b9->∃zs:List (Str×Tok),b9=strValues zs/\zs.map (·.1)=ys.map tx
 |[],_,r=>by cases r;exact⟨[],rfl,rfl⟩
 |y::ys,_,r=>by
  cases r with
  |cons r rr=>
   obtain⟨t,rfl⟩:=r
   obtain⟨zs,rfl,e⟩:=Fs rr
   exact⟨(tx y,t.1)::zs,rfl,by rw[bD,bD,e]⟩
def mM(sep:List Nat):List #[66]->List Nat
 |[]=>[]
 |[x]=>x
 |x::y::r=>x++sep++mM sep (y::r)
theorem ou:∀ys:List #[66],mM [] ys=ys.flatten
 |[]=>rfl
 |[x]=>by simp[mM]
 |x::y::r=>by rw[mM,ou (y::r)];simp
theorem Ft(sep:List Nat):∀ys:List #[66],Txt.join (tx sep) (ys.map tx)=tx (mM sep ys):=fun ys=>by
 show Builtin.Str.glued (tx sep) (ys.map tx)=_
 rw[iH]
 induction ys with
 |nil=>rfl
 |cons x r ih=>
  cases r with
  |nil=>rfl
  |cons y r=>
   show tx x++tx sep++Str.join (tx sep) ((y::r).map tx)=tx (x++sep++mM sep (y::r))
   rw[ih,DZ,DZ]
def S6(K:Frag):V->List V->Hp->VK->Prop:=fun x vs H Q=>∃(sep:List Nat) (a:Addr) (ys:List #[66]),x=.str (tx sep)/\vs=[.ref a]/\uQ K H a (ys.map fun l=>V.str (tx l))/\(ys.map List.length).sum+ys.length*sep.length<=16777216/\Q (.str (tx (mM sep ys))) H
theorem bT.joinS{Q:VK}{sep:Str}{zs:List (Str×Tok)}(I:bT X am σ H s)(hl:(Builtin.Str.glued sep (zs.map (·.1))).length<=sizeLine)(hk:jx s.toks (strValues zs))(q:Q (.str (Txt.join sep (zs.map (·.1)))) H):(joinMade sep zs).post (EP X am σ Q) s:=by
 have lg:(Made.str (Builtin.Str.glued sep (zs.map (·.1)))).post (EP X am σ Q) s:=⟨hl,⟨.str _,H,I.tok _,I.tkS,q⟩⟩
 cases zs with
 |nil=>exact lg
 |cons p r=>
  cases r with
  |nil=>
   have e:Txt.join sep [p.1]=p.1:=by
    show Builtin.Str.glued sep [p.1]=_
    rw[iH];rfl
   rw[show([p]:List (Str×Tok)).map (·.1)=[p.1]from rfl,e]at q
   exact⟨.str p.1,H,I,⟨⟨p.2,hk p.1 p.2 (by simp[strValues])⟩,rfl⟩,q⟩
  |cons _ _=>exact lg
theorem LZ:Gu X "str.join" (S6 X.K):=by
 intro am s σ H x vs v us Q I rx rv h
 obtain⟨sep,a,ys,rfl,rfl,hS,hz,q⟩:=h
 obtain⟨t,rfl⟩:=rx
 obtain⟨u,rfl,ru⟩:=rv.one
 cases ru
 obtain⟨b9,r,p,_⟩:=I.list hS
 have hk:jx s.toks b9:=tK r
 obtain⟨zs,rfl,ez⟩:=Fs (by simpa using r)
 have hok:JoinOk (tx sep) (zs.map (·.1))=true:=joinOk_of (by
  rw[ez,cw,jN,aF]
  have e:((fun z:Str=>z.length)∘tx)=List.length:=by funext l;exact jN l
  rw[e];exact hz)
 have hj:=hok
 unfold JoinOk at hj
 rw[iT]at hj
 exact tD F.slot_str_join (nh _ _ _) F.entry_str_join (F.args_str_join_2 _ _) (meets_str_join_list (tx sep) t.1 a zs hj) ⟨p.isList,I.joinS (joinFit_length hj) hk (by rw[ez,Ft];exact q)⟩
end
end L2
namespace L2
open PySem PySem.Spec PyProof.Rows
inductive D where
 |non|bl (b:Bool)|int (i:Int)|str (l:List Nat)|tnil|tcons (d r:D)
 deriving DecidableEq
structure fI(K:Frag)(H H':Hp):Prop where
 t:∀p xs,gG K H p xs->gG K H' p xs
 z:∀b o u,H b=some (.frz o u)->H' b=some (.frz o u)
instance {K:Frag} {H H':Hp}:CoeFun (fI K H H') (fun _=>∀p xs,gG K H p xs->gG K H' p xs):=⟨fI.t⟩
theorem gG.same{K:Frag}(e:wf H H'):fI K H H':=⟨fun p xs h=>by
 rcases h with(h|⟨o,h⟩)|h
 ·exact .inl (.inl (e _ _ h))
 ·exact .inl (.inr ⟨o,e _ _ h⟩)
 ·exact .inr h,fun b o u h=>e _ _ h⟩
theorem c7{p:Addr}(h:H p=none)(o:HO):wf H (gc H p o):=fun b u q=>by rw[df (fR q h)];exact q
def Wi(l:Addr)(H H':Hp):Prop:=∀b o,b≠l->H b=some o->H' b=some o
theorem nz{l:Addr}{o:HO}:Wi l H (gc H l o):=fun b u h q=>by rw[df h];exact q
theorem gG.but{l:Addr}(e:Wi l H H')(hl:H l=some (.lst xs)):fI K H H':=by
 have F8:∀{p:Addr} {o:HO},H p=some o->(∀zs,o≠.lst zs)->p≠l:=fun{p o} q hn z=>by subst z;rw[hl]at q;cases q;exact hn _ rfl
 refine⟨fun p ys h=>?_,fun b o u h=>e _ _ (F8 h (fun _ z=>by cases z)) h⟩
 rcases h with(h|⟨o,h⟩)|h
 ·exact .inl (.inl (e _ _ (F8 h (fun _ z=>by cases z)) h))
 ·exact .inl (.inr ⟨o,e _ _ (F8 h (fun _ z=>by cases z)) h⟩)
 ·exact .inr h
theorem fI.refl:fI K H H:=⟨fun _ _ h=>h,fun _ _ _ h=>h⟩
theorem fI.trans{H1 H2:Hp}(a:fI K H H1)(b:fI K H1 H2):fI K H H2:=⟨fun p xs h=>b p xs (a p xs h),fun c o u h=>b.z c o u (a.z c o u h)⟩
theorem gG.new{p:Addr}:gG K (gc H p (.tup xs)) p xs:=gG.of ig
end L2
namespace L2
open PySem PySem.Spec PyProof.Rows
theorem S7{v:V}{pos:Pos}(h:∃u,X.mg x=some u/\dN 0 v u)(hg:Gl X x:=by rfl)(hd:#[43]=false:=by decide):PE X (.Name x pos) (tC v):=by
 obtain⟨u,a,b⟩:=h
 exact Ai hg a b hd
end L2
namespace L2
open PySem PySem.Spec PyProof.Rows
section
variable{to:TE}{t:TA}{id:String}
def Xo(r:V->List V->Hp->VK->Prop)(to:TE)(t:TA):TE:=fun σ H Q=>to σ H fun x H1=>(∃l ys,x=.ref l/\H1 l=some (.lst ys))/\t σ H1 fun xs H2=>r x xs H2 Q
def Xp(r:V->List V->Hp->VK->Prop)(to:TE)(t:TA):TE:=fun σ H Q=>to σ H fun x H1=>(∃l,x=.str (tx l))/\t σ H1 fun xs H2=>r x xs H2 Q
def Wj(r:V->List V->Hp->VK->Prop)(to:TE):TE:=fun σ H Q=>to σ H fun x H1=>(∃l ys,x=.ref l/\H1 l=some (.lst ys))/\r x [] H1 Q
theorem BQ{x:V}(h:∃l ys,x=.ref l/\H l=some (.lst ys)):Vt K "list" x H:=by
 obtain⟨l,ys,rfl,h⟩:=h
 exact .inl ⟨rfl,_,.of h⟩
theorem Fu{x:V}(h:∃l,x=.str (tx l)):Vt K "str" x H:=by
 obtain⟨l,rfl⟩:=h
 exact rfl
theorem HV{ty:V->Hp->Prop}(WE:∀x H,ty x H->Vt X.K T x H)(pa:PlainAttrs T)(slot:Slot T name id)(Fd:typeOf (.builtin id)=pure (.type "method_descriptor"))(hm:Gu X id r)(ho:PE X o to)(ha:PA X (e::es) t)
  (kC:attributeBase o name X.env (eval o X.env)=eval o X.env)
  (tm:((backTo eY (starEach (e::es) X.env)).all (fun x=>!x.1)&&#[69].all (fun x=>x.1.isSome)
   && decide #[19])=true)
  (lJ:(gW.endLine==eY.line)=true) (hs:starEach (e::es) X.env=(false,eval e X.env)::starEach es X.env) (pK:(backTo eY #[64]).any (·.1)=false) :
  PE X (.Call (.Attribute o name gW) (e::es) [] eY) (fun σ H Q=>to σ H fun x H1=>ty x H1/\t σ H1 fun xs H2=>r x xs H2 Q):=by
 walk_at "9"
 refine pS kC tm lJ rfl (kJ (ho am s σ H _ I h) fun v s1 kt1 zq=>?_)
 obtain⟨x,H1,I1,r1,ty,q1⟩:=zq
 obtain⟨h1,h2⟩:=DV I1 r1 (WE _ _ ty)
 refine⟨T,id,pa,slot,Fd,h1,h2,?_⟩
 have hA:=ha eY am s1 σ H1 _ I1 q1
 rw[hs]at hA ⊢
 refine kE (by show(false||(backTo eY #[64]).any (·.1))=false;rw[pK]<;>rfl) (lN ?_)
 exact kJ hA fun us s2 kt2 ⟨vs,H2,I2,r2,q2⟩=>hm am s2 σ H2 x vs v us Q I2 (r1.up kt2) r2 q2
theorem S8(slot:Slot "list" name id)(Fd:typeOf (.builtin id)=pure (.type "method_descriptor"))(hm:Gu X id r)(ho:PE X o to)(ha:PA X (e::es) t)
  (kC:attributeBase o name X.env (eval o X.env)=eval o X.env:=by rfl)
  (tm:((backTo eY (starEach (e::es) X.env)).all (fun x=>!x.1)&&#[69].all (fun x=>x.1.isSome)
   && decide #[19])=true:=by rfl)
  (lJ:(gW.endLine==eY.line)=true:=by rfl) (hs:starEach (e::es) X.env=(false,eval e X.env)::starEach es X.env:=by rfl) (pK:(backTo eY #[64]).any (·.1)=false:=by rfl) :
  PE X (.Call (.Attribute o name gW) (e::es) [] eY) (Xo r to t):=HV (ty:=fun x H1=>∃l ys,x=.ref l/\H1 l=some (.lst ys)) (fun _ _ h=>BQ h) F.plainAttrs_list slot Fd hm ho ha kC tm lJ hs pK
theorem S9(slot:Slot "str" name id)(Fd:typeOf (.builtin id)=pure (.type "method_descriptor"))(hm:Gu X id r)(ho:PE X o to)(ha:PA X (e::es) t)
  (kC:attributeBase o name X.env (eval o X.env)=eval o X.env:=by rfl)
  (tm:((backTo eY (starEach (e::es) X.env)).all (fun x=>!x.1)&&#[69].all (fun x=>x.1.isSome)
   && decide #[19])=true:=by rfl)
  (lJ:(gW.endLine==eY.line)=true:=by rfl) (hs:starEach (e::es) X.env=(false,eval e X.env)::starEach es X.env:=by rfl) (pK:(backTo eY #[64]).any (·.1)=false:=by rfl) :
  PE X (.Call (.Attribute o name gW) (e::es) [] eY) (Xp r to t):=HV (ty:=fun x H1=>∃l,x=.str (tx l)) (fun _ _ h=>Fu h) F.plainAttrs_str slot Fd hm ho ha kC tm lJ hs pK
theorem Pw(slot:Slot "list" name id)(Fd:typeOf (.builtin id)=pure (.type "method_descriptor"))(hm:Gu X id r)(ho:PE X o to)
  (kC:attributeBase o name X.env (eval o X.env)=eval o X.env:=by rfl) (lJ:(gW.endLine==eY.line)=true:=by rfl):PE X (.Call (.Attribute o name gW) [] [] eY) (Wj r to):=by
 walk_at "9"
 refine wpAny_Call_method0_late kC lJ (kJ (ho am s σ H _ I h) fun v s1 kt1 zq=>?_)
 obtain⟨x,H1,I1,r1,ty,q1⟩:=zq
 obtain⟨h1,h2⟩:=DV I1 r1 (BQ ty)
 exact⟨"list",id,F.plainAttrs_list,slot,Fd,h1,h2,kE rfl (PySem.evalArgs_none (hm am s1 σ H1 x [] v [] Q I1 r1 .nil q1))⟩
end
end L2
namespace L2
open PySem PySem.Spec PyProof.Rows
end L2
namespace L2
open PySem PySem.Spec PyProof.Rows
section
variable{t:TA}
def S_(t:TA):TE:=fun σ H Q=>t σ H fun xs H1=>xs.length<=sizeLine/\∀p H2,H1 p=none->H2=gc H1 p (.tup xs)->Q (.ref p) H2
def Tb(t:TA):TE:=fun σ H Q=>t σ H fun xs H1=>xs.length<=sizeLine/\∀p H2,H1 p=none->H2=gc H1 p (.lst xs)->Q (.ref p) H2
theorem Fv{x1}(h:PA X es t):PE X (.Tuple es x1 pos) (S_ t):=by
 intro am s σ H Q I hq
 refine wpAny_Tuple_spliced (kJ (h pos am s σ H _ I hq) fun us s1 kt1 ⟨xs,H1,I1,r,z,q⟩=>⟨by rw[<- r.length];exact z,?_⟩)
 have hf:H1 s1.heap.objs.size=none:=I1.hok.fresh (aC _)
 refine⟨.ref s1.heap.objs.size,gc H1 s1.heap.objs.size (.tup xs),I1.laid (t':=s1.toks) (fun b u e=>aw _ e) (aC _) ?_,rfl,q _ _ hf rfl⟩
 exact⟨z,us,r,⟨_,aD _ rfl,rfl,_,rfl⟩⟩
theorem L0(h:PA X es t):PE X (.List es pos) (Tb t):=by
 intro am s σ H Q I hq
 refine wpAny_List_spliced (kJ (h pos am s σ H _ I hq) fun us s1 kt1 ⟨xs,H1,I1,r,z,q⟩=>⟨by rw[<- r.length];exact z,?_⟩)
 have hf:H1 s1.heap.objs.size=none:=I1.hok.fresh (aC _)
 refine⟨.ref s1.heap.objs.size,gc H1 s1.heap.objs.size (.lst xs),I1.laid (t':=s1.toks) (fun b u e=>aw _ e) (aC _) ?_,rfl,q _ _ hf rfl⟩
 exact⟨z,us,0,r,aD _ rfl⟩
theorem Gu.imp{id:String}{r r':V->List V->Hp->VK->Prop}(h:Gu X id r)(i:∀x xs H Q,r' x xs H Q->r x xs H Q):Gu X id r':=fun am s σ H x xs v us Q I rx rv q=>h am s σ H x xs v us Q I rx rv (i _ _ _ _ q)
theorem jo.imp{f:Value}{r r':List V->Hp->VK->Prop}(h:jo X f r)(i:∀xs H Q,r' xs H Q->r xs H Q):jo X f r':=fun am s σ H xs us Q I rv q=>h am s σ H xs us Q I rv (i _ _ _ q)
theorem qm.imp{f:Value->Value->Sem Value}{r r':R2}(h:qm X f r)(i:∀x y H Q,r' x y H Q->r x y H Q):qm X f r':=fun am s σ H x y v u Q I rx ry q=>h am s σ H x y v u Q I rx ry (i _ _ _ _ q)
def HW:V->List V->Hp->VK->Prop:=fun x vs H Q=>∃l xs y,x=.ref l/\vs=[y]/\H l=some (.lst xs)/\xs.length<sizeLine/\∀H2,H2=gc H l (.lst (xs++[y]))->Q .non H2
theorem D3:Gu X "list.append" HW:=Gu.imp (r:=Fp) Gv fun _ _ _ _ ⟨l,xs,y,a,b,c,d,q⟩=>⟨l,xs,y,a,b,c,d,q _ rfl⟩
def Tc:V->List V->Hp->VK->Prop:=fun x vs H Q=>∃l xs y,x=.ref l/\vs=[]/\H l=some (.lst (xs++[y]))/\∀H2,H2=gc H l (.lst xs)->Q y H2
theorem L1:Gu X "list.pop" Tc:=Gu.imp (r:=SZ) Pp fun _ _ _ _ ⟨l,xs,y,a,b,c,q⟩=>⟨l,xs++[y],y,a,b,c,by simp,by rw[List.dropLast_concat];exact q _ rfl⟩
def Px:V->V->V->Hp->(Hp->Prop)->Prop:=fun o i v H Q=>∃p xs k j,o=.ref p/\i=.int k/\H p=some (.lst xs)/\Fj xs.length k=some j/\∀H2,H2=gc H p (.lst (xs.set j v))->Q H2
theorem GA:Hz X Px:=fun am s σ H o i v ov iv u Q I r1 r2 r3 q=>by
 obtain⟨p,xs,k,j,a,b,c,d,q⟩:=q
 exact HP am s σ H o i v ov iv u Q I r1 r2 r3 ⟨p,xs,k,j,a,b,c,d,q _ rfl⟩
def HX(K:Frag):List V->Hp->VK->Prop:=fun xs H Q=>∃p ys,xs=[.ref p]/\uQ K H p ys/\∀l H2,H l=none->H2=gc H l (.tup ys)->Q (.ref l) H2
theorem BR:jo X (.type "tuple") (HX X.K):=jo.imp yJ fun _ _ _ ⟨p,ys,a,b,q⟩=>⟨p,ys,a,.inl ⟨b,fun l hl=>q l _ hl rfl⟩⟩
def L3(K:Frag):List V->Hp->VK->Prop:=fun xs H Q=>∃p ys,xs=[.ref p]/\(uQ K H p ys\/gG K H p ys)/\∀l H2,H l=none->H2=gc H l (.lst ys)->Q (.ref l) H2
theorem xa:jo X (.type "list") (L3 X.K):=jo.imp An fun _ _ _ ⟨p,ys,a,b,q⟩=>⟨p,ys,a,b,fun l hl=>q l _ hl rfl⟩
def Td:R2:=fun x y H Q=>∃l b xs zs,x=.ref l/\y=.ref b/\H l=some (.lst xs)/\H b=some (.lst zs)/\xs.length+zs.length<=sizeLine/\∀p H2,H p=none->H2=gc H p (.lst (xs++zs))->Q (.ref p) H2
theorem L5:qm X (binaryOp .Add) Td:=qm.imp Pq fun _ _ _ _ ⟨l,b,xs,zs,h1,h2,h3,h4,h5,q⟩=>⟨l,b,xs,zs,h1,h2,h3,h4,h5,fun p hp=>q p _ hp rfl⟩
end
end L2
namespace L2
open PySem PySem.Spec PyProof.Rows
end L2
namespace L2
open PySem PySem.Spec PyProof.Rows
def HY(T:String):Prop:=T="tuple"\/T="bool"\/T="int"\/T="str"
end L2
namespace L2
end L2
namespace L2
open PySem PySem.Spec PyProof.Rows
end L2
namespace L2
open PySem PySem.Spec PyProof.Rows
structure QE(X:Cx)(e:Expr)(t:TE):Prop where
 h:PE X e t
structure QA(X:Cx)(es:List Expr)(t:TA):Prop where
 h:PA X es t
structure QS(X:Cx)(s:Stmt)(t:TS):Prop where
 h:PS X s t
structure QG(X:Cx)(e:Expr)(t:TG):Prop where
 h:PG X e t
structure QI(X:Cx)(tg it:Expr)(t:TI):Prop where
 h:PI X tg it t
structure Wk(X:Cx)(es:List Expr)(t:TT):Prop where
 h:HR X es t
structure WW(X:Cx)(f:Value->Value->Sem Value)(r:R2):Prop where
 h:qm X f r
structure Nb(X:Cx)(f:Value)(r:List V->Hp->VK->Prop):Prop where
 h:jo X f r
section
variable{a b c:Expr}{ta tb tc to:TE}{t u:TA}{tA U5:TT}{gO:List Expr}
theorem HZ:WW X (binaryOp .LShift) (rI O1 fun i j=>.int (i*2^j.toNat)):=⟨HH⟩
variable{st:Stmt}{sr:List Stmt}{ts us:TS}{g:TG}
end
section
variable{c:Expr}{body:List Stmt}{wi:TI}{g:TG}{tb:TS}{tA:TT}
end
end L2
namespace L2
open PySem PySem.Spec PyProof.Rows
end L2
namespace L2
open PySem PySem.Spec PyProof.Rows
end L2
namespace L2
open PySem PySem.Spec PyProof.Rows
def ki(env:Env):List (Str×NameKind)->List (Str×Addr)->List (Str×Addr)
 |[],cs=>cs
 |(n,k)::r,cs=>ki env r (if k==.free then(n,(env.cells.lookup n).getD 0)::cs else cs)
theorem Te(h:∀x∈scope.names,x.2=.free->∃c,env.cells.lookup x.1=some c):closureFor scope env=pure (ki env scope.names []):=by
 unfold closureFor
 have key:∀(ns:List (Str×NameKind)) (cs:List (Str×Addr)),(∀x∈ns,x.2=.free->∃c,env.cells.lookup x.1=some c) ->
   (forIn ns cs fun(x:Str×NameKind) (r:List (Str×Addr))=>if (x.2==NameKind.free)=true then(do let a <- cellOf env x.1;pure (ForInStep.yield ((x.1,a)::r)))else(pure (ForInStep.yield r):Sem _))=pure (ki env ns cs):=by
  intro ns
  induction ns with
  |nil=>intro cs _;rfl
  |cons y r ih=>
   intro cs hc
   obtain⟨n,k⟩:=y
   rw[mq]
   have ihr:=fun cs=>ih cs fun x hx=>hc x (aU _ hx)
   by_cases hk:(k==NameKind.free)=true
   ·obtain⟨c,e⟩:=hc (n,k) bS (oT hk)
    have e2:cellOf env n=pure c:=by unfold cellOf;rw[e]
    show((if (k==NameKind.free)=true then _ else _) >>= _)=pure (ki env r (if (k==NameKind.free)=true then _ else _))
    rw[aJ hk,aJ hk,e2]
    simp only[pure_bind]
    have e3:(env.cells.lookup n).getD 0=c:=by rw[show env.cells.lookup n=some c from e];rfl
    rw[e3]
    exact ihr _
   ·show((if (k==NameKind.free)=true then _ else _) >>= _)=pure (ki env r (if (k==NameKind.free)=true then _ else _))
    rw[aW hk,aW hk]
    simp only[pure_bind]
    exact ihr _
 have:=key scope.names [] h
 dsimp only
 rw[this];simp only[pure_bind]
theorem zp:∀(ns:List (Str×NameKind)) (cs:List (Str×Addr)),(∀x∈ns,x.2=.free->∃c,env.cells.lookup x.1=some c)->(∀y∈cs,env.cells.lookup y.1=some y.2)->∀y∈ki env ns cs,env.cells.lookup y.1=some y.2
 |[],cs,_,h=>h
 |(n,k)::r,cs,hf,h=>by
  refine zp r _ (fun x hx=>hf x (aU _ hx)) ?_
  by_cases hk:(k==NameKind.free)=true
  ·rw[aJ hk]
   intro y hy
   rcases aT.mp hy with rfl|hy
   ·obtain⟨c,e⟩:=hf (n,k) bS (oT hk)
    show env.cells.lookup n=some ((env.cells.lookup n).getD 0)
    rw[show env.cells.lookup n=some c from e];rfl
   ·exact h y hy
  ·rw[aW hk];exact h
theorem xb:∀(ns:List (Str×NameKind)) (cs:List (Str×Addr)) (y:Str×Addr),y∈cs->y∈ki env ns cs
 |[],_,_,h=>h
 |(n,k)::r,cs,y,h=>by
  refine xb r _ y ?_
  split
  ·exact aU _ h
  ·exact h
theorem xc{env:Env}:∀(ns:List (Str×NameKind)) (cs:List (Str×Addr)) (x:Str),(x,NameKind.free)∈ns->∃c,(x,c)∈ki env ns cs
 |[],_,_,h=>by simp at h
 |(n,k)::r,cs,x,h=>by
  rcases aT.mp h with e|h
  ·obtain⟨e1,e2⟩:=Prod.mk.inj e
   subst e1;subst e2
   exact⟨_,xb r _ (x,_) (by rw[aJ (by rfl:(NameKind.free==NameKind.free)=true)];exact bS)⟩
  ·exact xc r _ x h
theorem xf:∀{l:List (Str×β)} {x:Str} {b:β},(x,b)∈l->∃c,l.lookup x=some c
 |(y,c)::r,x,b,h=>by
  rw[lj]
  cases hx:x==y with
  |true=>exact⟨c,rfl⟩
  |false=>
   rcases aT.mp h with e|h
   ·cases e;simp at hx
   ·exact xf h
theorem vS{env:Env}{g:Str×NameKind->Bool}:∀{names:List (Str×NameKind)} {x:Str},names.lookup x=some .free ->
  (names.map fun y=>if g y then(y.1,NameKind.cell)else y).lookup x=some .cell\/(names.map fun y=>if g y then(y.1,NameKind.cell)else y).lookup x=some .free
 |[],_,h=>by simp at h
 |(n,k)::r,x,h=>by
  rw[lj]at h
  rw[bD]
  have e1:∀y:Str×NameKind,(if g y then(y.1,NameKind.cell)else y).1=y.1:=fun y=>by split<;>rfl
  have e2:∀(y:Str×NameKind) (l:List (Str×NameKind)),(y::l).lookup x=if (x==y.1)=true then some y.2 else l.lookup x:=fun y l=>by
   obtain⟨a,b⟩:=y
   rw[lj]
   cases x==a<;>rfl
  rw[e2,e1]
  cases hx:x==n with
  |true=>
   rw[hx]at h
   cases h
   rw[aJ rfl]
   by_cases hg:g (n,.free)=true
   ·rw[aJ hg];exact .inl rfl
   ·rw[aW hg];exact .inr rfl
  |false=>
   rw[hx]at h
   rw[aW (by exact fq)]
   exact vS (env:=env) h
def GB(dn:List (Str×NameKind))(sn:List (Str×NameKind))(nm:List Str)(cap:List #[81])(N:List Str):Bool:=
 (sn.all fun x=>!(x.2==.local)||sn.lookup x.1==some .local)&&(sn.all fun y=>!(y.2==.cell))&&(sn.all fun x=>!(x.2==.free)||dn.lookup x.1==some .cell)&&(cap.length==nm.length) &&
 ((List.range cap.length).all fun i=>match cap[i]? with
  |some (some j)=>(match nm[i]?,N[j]? with
   |some x,some y=>x==y&&dn.lookup x==some .cell&&sn.lookup x==some .free
   |_,_=>false)
  |_=>true)
structure Wl(X:Cx)(scope:Scope)(nm:List Str)(cap:List #[81]):Prop where
 clos:closureFor scope X.env=pure (ki X.env scope.names [])
 cl:∀x c,(ki X.env scope.names []).lookup x=some c->X.env.cells.lookup x=some c
 nms:∀x∈scope.names,x.2=.local->scope.names.lookup x.1=some .local
 cell:∀y∈scope.names,y.2≠.cell
 has:∀x,#[14]->∃c,(ki X.env scope.names []).lookup x=some c
 cp:∀(i j:Nat),cap[i]?=some (some j)->∃x,nm[i]?=some x/\X.N[j]?=some x/\wZ X scope (ki X.env scope.names []) x
 len:cap.length=nm.length
theorem Tf{nm:List Str}{cap:List #[81]}(hf:∀x,X.env.scope.names.lookup x=some .cell->∃c,X.env.cells.lookup x=some c)(hB:GB X.env.scope.names scope.names nm cap X.N=true):Wl X scope nm cap:=by
 simp only[GB,dS,List.all_eq_true,Bool.or_eq_true,iT,dv,bh]at hB
 obtain⟨⟨⟨⟨b1,b2⟩,b3⟩,b4⟩,b5⟩:=hB
 have has:∀x∈scope.names,x.2=.free->∃c,X.env.cells.lookup x.1=some c:=fun x hx hk=>by
  rcases b3 x hx with z|z
  ·exact absurd hk z
  ·exact hf _ z
 have Dl:∀x c,(ki X.env scope.names []).lookup x=some c->X.env.cells.lookup x=some c:=fun x c h=>zp scope.names [] has #[15] (x,c) (jY h)
 have hin:∀x,(x,NameKind.free)∈scope.names->∃c,(ki X.env scope.names []).lookup x=some c:=fun x h=>let ⟨_,q⟩:=xc (env:=X.env) scope.names [] x h;xf q
 have hmap:(relabel scope X.env).names=scope.names.map fun y=>if (y.2==.free&&X.env.scope.kind==.function&&X.env.kindOf y.1==some .cell)then(y.1,NameKind.cell)else y:=by
  show scope.names.map _=_
  refine fF fun y _=>?_
  obtain⟨a,b⟩:=y
  rfl
 have fr:∀x,#[14]->(x,NameKind.free)∈scope.names:=fun x h=>by
  have h':∃k,(x,k)∈(relabel scope X.env).names/\(k=.cell\/k=.free):=by
   rcases h with h|h
   ·exact⟨_,jY h,.inl rfl⟩
   ·exact⟨_,jY h,.inr rfl⟩
  obtain⟨k,hm,hk⟩:=h'
  rw[hmap]at hm
  obtain⟨y,hy,e⟩:=dy.mp hm
  obtain⟨a,b⟩:=y
  by_cases hb:b=.free
  ·subst hb
   have:a=x:=by split at e<;>(cases e;rfl)
   subst this;exact hy
  ·rw[aW (by simp[hb])]at e
   cases e
   rcases hk with rfl|rfl
   ·exact absurd rfl (b2 _ hy)
   ·exact absurd rfl hb
 refine⟨Te has,Dl,fun x hx hk=>(b1 x hx).resolve_left fun z=>z hk,fun y hy=>b2 y hy,fun x hx=>hin x (fr x hx),fun i j e=>?_,b4⟩
 have hi':i<cap.length:=(ax.mp e).1
 have q:=b5 i (m8.mpr hi')
 rw[e]at q
 dsimp only at q
 cases hx:nm[i]? with
 |none=>rw[hx]at q;simp at q
 |some x=>
  cases hy:X.N[j]? with
  |none=>rw[hx,hy]at q;simp at q
  |some y=>
   rw[hx,hy]at q
   simp only[dS,dv]at q
   obtain⟨⟨rfl,q1⟩,q2⟩:=q
   refine⟨x,rfl,rfl,.inr (.inl q1),(by rw[q1];decide),?_,?_⟩
   ·obtain⟨c,hc⟩:=hin x (jY q2)
    rw[hc,Dl _ _ hc]
   ·rw[hmap];exact vS (env:=X.env) q2
theorem Py{pos:Pos}{wi:TI}{g:TG}{tc:TT}{m:Nat}(kQ:X.calm=true)
  (tj:X.env.cells=cellsFrom m X.env.scope.names []) (kR:scope.kind=.function) (hB:GB X.env.scope.names scope.names nm cap X.N=true)
  (hi:QI X tg eP wi) (hg:∀cl C s0 H0 fp,QG #[10] tg g) (ht:∀cl C s0 H0 fp,Wk #[10] oY tc)
  (he:∀cl C s0 H0 fp,QE #[10] tt te) (hs:∀x,foldedSetIterable eP X.env x=pure x:=by intro _;rfl) :
  QE X #[11] (wY cap wi g tc te):=by
 have F:=Tf (nm:=nm) (cap:=cap) (fun x z=>by rw[tj];exact oq z) hB
 exact⟨LY kQ F.clos F.cl kR F.nms F.cell F.has F.cp F.len hi.h (fun C s0 H0 fp=>(hg _ C s0 H0 fp).h) (fun C s0 H0 fp=>(ht _ C s0 H0 fp).h) (fun C s0 H0 fp=>(he _ C s0 H0 fp).h) hs⟩
def L6(K:Frag):List V->Hp->VK->Prop:=fun xs H Q=>∃(p:Addr) (ys:List #[66]),xs=[.ref p]/\uQ K H p (ys.map fun l=>V.str (tx l))/\ys.length<64 /\
 ∀zs:List #[66],zs.Perm ys->sortedS (zs.map tx)=true->∀l H2,H l=none->H2=gc H l (.lst (zs.map fun l=>V.str (tx l)))->Q (.ref l) H2
theorem Fw(z:Str):tx z.cps.toList=z:=by cases z;rfl
theorem xg{vs:List Value}{xs:Array (Value×Value)}(hp:xs.Perm (pairsOf vs)):∀v∈(xs.map (·.2)).toList,v∈vs:=fun v hv=>by
 have hl:xs.toList.Perm (vs.zip vs):=by rw[<- pairsOf_toList];exact Array.perm_iff_toList_perm.mp hp
 rw[Array.toList_map]at hv
 obtain⟨p,hp',rfl⟩:=dy.mp hv
 have:=mem_zip_self (hl.mem_iff.mp hp')
 rw[<- this.1];exact this.2
theorem Aq{prog:Program}{w:World}{A:Around}{E:Value->Shared->Prop}{l:Addr}{vs:List Value}{ss:List Str}(hl:s.heap.IsList l vs.toArray)(hS:StrsAre vs ss)(WK:vs.length<64)
  (h:∀(out:Array Value) (Lp:List Str),(∀v∈out.toList,v∈vs)->StrsAre out.toList Lp->Lp.Perm ss->sortedS Lp=true->Q (.ref #[8]) { s with heap:=sortedAll s.heap vs out }) :
  wpAny #[7] A (call (.builtin "sorted") [.ref l]) Q E s:=by
 refine sortedK sK hl hS.keysOf (fun v₁ v₂ gO e=>uI (by rw[<- e];exact hS)) WK fun bt hp hs=>?_
 obtain⟨Lp,h1,h2,h3⟩:=rF hS hp hs
 exact h _ Lp (xg hp) h1 h2 h3
theorem jx.sub{vs:List Value}(h:jx n vs)(hs:∀v∈us,v∈vs):jx n us:=fun x t hx=>h x t (hs _ hx)
theorem yK:Nb X (.builtin "sorted") (L6 X.K):=⟨by
 walk_at "11"
 obtain⟨p,ys,rfl,hS,WK,q⟩:=h
 obtain⟨u,rfl,ru⟩:=qy r
 cases ru
 obtain⟨b9,rv,pl,hz⟩:=I.list hS
 have hl:=rv.length
 rw[aF]at hl
 refine Aq (ss:=ys.map tx) pl.isList (w_ (by simpa using rv)) #[0] fun out Lp hm h1 h2 h3=>?_
 obtain⟨ep,hat⟩:=sortedAll_at s.heap b9 out
 have y6:H #[8]=none:=I.hok.fresh (bx _)
 have hmap:(Lp.map fun z=>z.cps.toList).map tx=Lp:=by
  rw[cw]
  have:(tx∘fun z:Str=>z.cps.toList)=id:=funext fun z=>Fw z
  rw[this,j_]
 have hperm:(Lp.map fun z=>z.cps.toList).Perm ys:=by
  have e:=h2.map fun z:Str=>z.cps.toList
  rw[cw]at e
  have:((fun z:Str=>z.cps.toList)∘tx)=id:=funext fun l=>by simp[tx]
  rw[this,j_]at e
  exact e
 have hvals:cQ s.toks ((Lp.map fun z=>z.cps.toList).map fun l=>V.str (tx l)) out.toList:=by
  have e:=oZ h1 ((tK rv).sub hm)
  rw[<- hmap,cw]at e
  exact e
 refine⟨.ref #[8],_,I.laid (t':=s.toks) (fun b o e=>sortedAll_old e) (bx _) ?_,rfl,q _ hperm (by rw[hmap];exact h3) _ _ y6 rfl⟩
 refine⟨?_,out.toList,ep,hvals,hat⟩
 rw[aF,hperm.length_eq]
 exact aO (gs WK) #[3]⟩
theorem bT.turned2{t':Nat}{e:Addr}(I:bT X am σ H s)(k:∀b o,b≠e->b≠it->s.heap.get? b=some o->h'.get? b=some o)
  (he:∃o,h'.get? e=some o) (f1:uR X am H e) (f2:uR X am H it) (hk:s.toks<=t':=by first|exact aC _|exact bx _|assumption|omega):bT X am σ H { s with heap:=h',toks:=t' }:=by
 have nit:∀b u,H b=some u->b≠e/\b≠it:=fun b u q=>⟨fun z=>(by rw[z,f1.1]at q;cases q),fun z=>(by rw[z,f2.1]at q;cases q)⟩
 have nin:∀b,b∉[e,it]->b≠e/\b≠it:=fun b h=>⟨fun z=>h (by simp[z]),fun z=>h (by simp[z])⟩
 refine I.step (g':=s.gens) (d':=s.drawn) (ch:=[e,it]) (fun b hb=>?_) (fun b o _ _ hc q _=>k b o (nin b hc).1 (nin b hc).2 q) (fun b o _ _ hc q _=>⟨o.slots,k b o (nin b hc).1 (nin b hc).2 q⟩) (fun _ _ _ _ n=>n)
  (fun b o hc q=>⟨o,k b o (nin b hc).1 (nin b hc).2 q⟩) (fun _ _ q=>q) (fun _ _ _ q=>q) (fun b ps q=>⟨#[],by rw[q];simp⟩) (fun m hm=>?_) (fun b u q=>?_) I.bare hk
 ·have z:b=e\/b=it:=by simpa using hb
  rcases z with rfl|rfl
  ·exact⟨f1.2.2.2.1,f1.2.1,f1.2.2.2.2.1,f1.2.2.2.2.2⟩
  ·exact⟨f2.2.2.2.1,f2.2.1,f2.2.2.2.2.1,f2.2.2.2.2.2⟩
 ·obtain⟨o,es,ep,ho,r⟩:=hm
  exact⟨o,es,ep,k _ o (Ne.symm f1.2.1) (Ne.symm f2.2.1) ho,r⟩
 ·refine((I.hok b u q).up hk).stay (fun c v hc z=>?_) (fun _ z=>z) fun _ _ z=>z
  rcases hc with y|y
  ·rw[y]at z ⊢;exact k b v (nit b u q).1 (nit b u q).2 z
  ·exact k c v (nit c _ y).1 (nit c _ y).2 z
section
variable{w:World}
theorem ly{t:Addr}{b9:Array Value}{x:Value}(st:s.heap.IsTupleIter it t i)(ht:s.heap.IsTuple t b9)(hx:b9[i]?=some x)
  (q:∀g,g.IsTupleIter it t (i+1)->Heap.SameBut it s.heap g->Q x { s with heap:=g }):wpAny #[7] A (Builtin.SmallTypes.nextOf (.ref it)) Q E s:=by
 obtain⟨ob,e1,e2,e3⟩:=id st
 obtain⟨ot,g1,_,nt,g3⟩:=ht
 have T:=st.typeIs
 unfold Builtin.SmallTypes.nextOf
 refine ag (ce (name:=Str.ofString "__next__") T f_ (cv f_ T mH ?_ (ms _)))
 show wpAny _ _ (field (.ref it) 0 >>= _) _ _ s
 refine ag (dB e1 e3 (x:=.ref t) rfl ?_)
 dsimp only
 rw[aW (show ¬ ((Value.ref t==Value.none)=true)from fq)]
 refine ag (dB e1 e3 (x:=.int i 0) rfl ?_)
 dsimp only
 refine ag (eT g1 g3 ?_)
 simp only[cG,hx]
 refine ag (wpAny_setField e1 e3 #[15] (ay ⟨x,rfl,ay (q _ ?_ (jt ..))⟩))
 exact⟨_,d7 _ e1 (Obj.isFreed_of_fields (Obj.data_mapFields e3 _)),(Obj.cls_mapFields ..).trans e2,by rw[Obj.data_mapFields e3];simp[rawInt]⟩
theorem mD{t:Addr}{b9:Array Value}(hh:A.handled=none)(st:s.heap.IsTupleIter it t i)(ht:s.heap.IsTuple t b9)(hx:b9[i]?=none)
  (q:∀g e,Heap.ExtBut it s.heap g->(∃o,g.get? e=some o/\o.cls=.type "StopIteration")->E (.ref e) { s with heap:=g }):wpAny #[7] A (Builtin.SmallTypes.nextOf (.ref it)) Q E s:=by
 obtain⟨ob,e1,e2,e3⟩:=id st
 obtain⟨ot,g1,_,nt,g3⟩:=ht
 have T:=st.typeIs
 unfold Builtin.SmallTypes.nextOf
 refine ag (ce (name:=Str.ofString "__next__") T f_ (cv f_ T mH ?_ (ms _)))
 show wpAny _ _ (field (.ref it) 0 >>= _) _ _ s
 refine ag (dB e1 e3 (x:=.ref t) rfl ?_)
 dsimp only
 rw[aW (show ¬ ((Value.ref t==Value.none)=true)from fq)]
 refine ag (dB e1 e3 (x:=.int i 0) rfl ?_)
 dsimp only
 refine ag (eT g1 g3 ?_)
 simp only[cG,hx]
 refine ag (lq (ag (wpAny_setField e1 e3 #[15] (ag ?_))))
 simp only[newExc,newTuple]
 refine ag (cH (ag (m:=firstArgMember _ _) (wpAny_of_eq (a:=Value.none) (by first|rfl|(simp only[firstArgMember];rfl)) (cH ?_ (by size_fits)))) (by size_fits))
 simp only[raiseNew]
 refine ag (wpAny_handled ?_)
 rw[show A.in1.handled=none from hh]
 exact ag (ay (wpAny_throw (q _ _ (((jt ..).extBut.push _).push _) ⟨_,aD _ rfl,rfl⟩)))
end
theorem H9{w:World}{A:Around}(hh:A.handled=none)(it t:Addr)(F8:t≠it)(b9:Array Value) :
  Draws prog w A it [it,t] b9.size (fun i v=>b9[i]?=some v) (fun i h=>h.IsTupleIter it t i/\h.IsTuple t b9) where
 live:=fun _ _ st=>let ⟨o,e,_⟩:=st.1;⟨o,e⟩
 frame:=fun _ h h' st k=>⟨st.1.at fun o e=>k it #[15] o e,let ⟨o,e,r⟩:=st.2;⟨o,k t #[15] o e,r⟩⟩
 item:=fun i s Q E hi st q=>ly st.1 st.2 (x:=b9[i]) (by simp[hi]) fun g a b=>q _ g s.toks (by simp[hi]) ⟨a,st.2.extBut b.extBut F8⟩ b
 done:=fun s Q E st q=>mD hh st.1 st.2 #[15] q
open AutoSeq1 (wpAny_loadPart')
def WX(K:Frag)(a:Addr):It:=
 ⟨fun i H=>∃xs x,gG K H a xs/\xs[i]?=some x,fun i H v H'=>∃p,H p=none/\v=.ref p/\∀xs x,gG K H a xs->xs[i]?=some x->H'=gc H p (.tup [.int i,x]),fun i H=>∃xs,gG K H a xs/\xs.length<=i⟩
theorem GC{w:World}(a it e:Addr)(WF:e≠it) :
  DE P w K (.Tuple yB kk pos) (WX K a) [e,it] e (fun i h=>(∃old,IsEnum h e it i old)/\h.IsTupleIter it a i) where
 mem:=by simp
 obj:=fun i h st b hb=>by
  have z:b=e\/b=it:=by simpa using hb
  rcases z with rfl|rfl
  ·obtain⟨old,q⟩:=st.1
   exact⟨_,q,fun v z=>by cases z⟩
  ·obtain⟨o,q,c,d⟩:=st.2
   exact⟨o,q,fun v z=>by rw[d]at z;cases z⟩
 keep:=fun i h h' st k=>⟨let ⟨old,q⟩:=st.1;⟨old,k e #[15] _ q⟩,st.2.at fun o q=>k it #[15] o q⟩
 item:=by
  walk_at "3"
  subst hP hw hK
  obtain⟨xs,x,hq,hx⟩:=hg
  obtain⟨b9,rv,p,hz⟩:=I.tuple hq
  obtain⟨u,hu,ru⟩:=rv.get hx
  obtain⟨⟨old,he⟩,rC⟩:=st
  have hT:s.heap.IsTuple a b9.toArray:=p
  obtain⟨oa,ha,hca,_⟩:=id hT
  obtain⟨oi,hi,hci,_⟩:=id rC
  have nai:a≠it:=fun z=>by
   rw[z,hi]at ha;cases ha
   rw[hci]at hca;injection hca with z;exact absurd z #[3]
  have nae:a≠e:=fun z=>by
   rw[z,he]at ha;cases ha
   injection hca with z;exact absurd z #[3]
  have hlt:i<b9.toArray.size:=by
   have:=(ax.mp hu).1
   simpa using this
  refine up (wpAny_pyNext_enum_itemD (H9 (A:=X.A.in1) (I.ok.hd hc) it a nai b9.toArray) he ⟨rC,hT⟩ hlt WF (by simp[WF,Ne.symm nae]) fun x' g tk hx' ho' bt htup zZ hk Lm=>⟨_,rfl,?_⟩)
  have ex:x'=u:=by
   have e1:b9[i]?=some x':=by simpa using hx'
   rw[hu]at e1;exact(bC e1).symm
  subst ex
  refine wpAny_letOwnedTupleGo_enum ho' fun g2 M2 vJ=>?_
  have y6:H s.heap.objs.size=none:=I.hok.fresh (aC _)
  have I1:bT X am σ (gc H s.heap.objs.size (.tup [.int i,x])) { s with heap:=s.heap.push { cls:=.type "tuple",data:=.seq #[.int i tk,x'] },toks:=tk+1 }:=I.laid (fun b o q=>aw _ q) (aC _)
   ⟨by show 2<=sizeLine;decide,[.int i tk,x'],.cons ⟨tk,rfl⟩ (.cons (ru.up Lm) .nil),⟨_,aD _ rfl,rfl,_,rfl⟩⟩
  have nf:∀b∈[e,it],b≠s.heap.objs.size:=fun b hb=>by
   have z:b=e\/b=it:=by simpa using hb
   rcases z with rfl|rfl
   ·exact a9 (aH he)
   ·exact a9 (aH hi)
  have fp:∀b∈[e,it],uR X am (gc H s.heap.objs.size (.tup [.int i,x])) b:=fun b hb=>by
   obtain⟨f0,f⟩:=hf b hb
   exact⟨by rw[df (nf b hb)];exact f0,f⟩
  have he2':IsEnum g2 e it ((i:Int)+1) x':=M2
  have I2:bT X am σ (gc H s.heap.objs.size (.tup [.int i,x])) { s with heap:=g2,toks:=tk+1 }:=I1.turned2 (t':=tk+1) (fun b o hbe hbi q=>?_) ⟨_,he2'⟩ (fp e #[15]) (fp it #[15])
  ·refine⟨.ref s.heap.objs.size,_,I2,rfl,⟨_,y6,rfl,fun ys y hy hy'=>?_⟩,⟨⟨x',by simpa using he2'⟩,bt.1.extBut vJ.extBut (Ne.symm WF)⟩,fun b hb=>(fp b hb).1⟩
   have e1:=I.tuple_inj hy hq
   subst e1
   rw[hx]at hy';cases hy';rfl
  ·have q':(s.heap.push { cls:=.type "tuple",data:=.seq #[.int i tk,x'] }).get? b=some o:=q
   refine vJ.extBut b o hbe ?_
   by_cases hb:b=s.heap.objs.size
   ·subst hb
    have e1:=aD s.heap (o:={ cls:=.type "tuple",data:=.seq #[.int i tk,x'] }) rfl
    rw[e1]at q';cases q'
    exact htup
   ·rw[Heap.get?_push_ne _ _ _ hb]at q'
    exact hk b o hbe hbi q'
 done:=by
  walk_at "3"
  subst hP hw hK
  obtain⟨xs,hq,hx⟩:=hg
  obtain⟨b9,rv,p,hz⟩:=I.tuple hq
  obtain⟨⟨old,he⟩,rC⟩:=st
  have hT:s.heap.IsTuple a b9.toArray:=p
  have hl:=rv.length
  have hT':Shared.TypeIs s (.ref e) "enumerate":=⟨_,he,rfl⟩
  unfold pyNext
  refine ag (iE (ce (name:=Str.ofString "__next__") hT' qs (cv qs hT' F.entry_enumerate_next ?_ (F.args_enumerate_next_1 _))))
  show wpAny _ _ (field (.ref e) 2 >>= _) _ _ _
  refine ag (dB he rfl (x:=.ref it) rfl (ag (mD (show X.A.in1.handled=none from I.ok.hd hc) rC hT (by simp;omega) fun g y hx' hy=>?_)))
  obtain⟨o,ho,Dl⟩:=hy
  refine ag (gY (T:="StopIteration") (b:=true) ⟨o,ho,Dl⟩ nj (ay ⟨rfl,?_⟩))
  walk_at "4"
  exact I.turned (t':=s.toks) (fun b o hb q=>hx' b o hb q) f0 f1 f3 f4 f5
 self:=fun A i s Q E st h=>let ⟨_,q⟩:=st.1;wpAny_pyIter_enum q h
open AutoSeq1 (wpAny_loadPart')
abbrev nC(t:Addr):Obj:={ cls:=.type "tuple_iterator",data:=.fields #[.ref t,.int 0 0] }
abbrev D4(it:Addr):Obj:={ cls:=.type "enumerate",data:=.fields #[.none,.bool false,.ref it,rawInt 0,.none,.none] }
theorem Pz(t:Addr)(b9:Array Value)(n:Nat)(dc:Option Addr)(sl:Array (Option Value)) :
  Meets (Builtin.«enumerate.__new__» ⟨[.type "enumerate",.ref t],[]⟩) (fun _ R s=>s.heap.get? t=some { cls:=.type "tuple",dict:=dc,data:=.seq b9 n,slots:=sl } /\
   R (.ok (.ret (.ref (s.heap.push (nC t)).objs.size))) { s with heap:=(s.heap.push (nC t)).push (D4 s.heap.objs.size) }):=
 .of_wp fun prog w A R s h=>by
  obtain⟨hp,g,d,tk,os⟩:=s
  obtain⟨ht,h⟩:=h
  have sb:=sub_enumerate
  have hT:Heap.IsTuple (Shared.heap ⟨hp,g,d,tk,os⟩) t b9:=⟨_,ht,rfl,n,rfl⟩
  wp_walk using dJ ht
  refine wpAny_stack_any fun st=>ay ?_
  split
  ·rename_i c _ _ _ _ _
   cases(c==Value.type "enumerate")<;>(wp_walk using dJ ht,fY hT;exact⟨_,rfl,h⟩)
  ·wp_walk using dJ ht,fY hT
   exact⟨_,rfl,h⟩
section
variable{w:World}
theorem yL{t:Addr}{b9:Array Value}(hT:s.heap.IsTuple t b9)
  (q:∀g,IsEnum g #[8] s.heap.objs.size 0 .none->g.IsTupleIter s.heap.objs.size t 0->(∀b o,s.heap.get? b=some o->g.get? b=some o)->Q (.ref #[8]) { s with heap:=g }) :
  wpAny #[7] A (call (.type "enumerate") [.ref t]) Q E s:=by
 obtain⟨⟨c,dc,dt,sl⟩,ht,hc,n,hd⟩:=hT
 obtain rfl:c=.type "tuple":=hc
 obtain rfl:dt=.seq b9 n:=hd
 refine callType_new F.called_enumerate #[3] (F.typeCall_enumerate_1 _) (F.newCall_enumerate_1 _) (fun ob=>F.args_object_init_2 ob _) F.entry_enumerate_new (Pz t b9 n dc sl) ⟨ht,?_⟩
 have z:(s.heap.push (nC t)).objs.size=s.heap.objs.size+1:=bG ..
 show _/\_
 rw[z]
 have e1:IsEnum ((s.heap.push (nC t)).push (D4 s.heap.objs.size)) #[8] s.heap.objs.size 0 .none:=by
  have y:=aD (s.heap.push (nC t)) (o:=D4 s.heap.objs.size) rfl
  rw[z]at y;exact y
 exact⟨⟨_,e1,rfl⟩,q _ e1 ⟨_,aw _ (aD _ rfl),rfl,rfl⟩ fun b o y=>aw _ (aw _ y)⟩
end
section
def Wm(K:Frag)(ta:TA):TI:=fun σ H R=>ta σ H fun vs H1=>∃a,vs=[.ref a]/\(∃xs,gG K H1 a xs)/\R (WX K a) H1
theorem H_{a:Expr}{ta:TA}{p pos tp:Pos}{yB:List Expr}{kk:Nat}(hm:X.mg "enumerate"=none)(ha:QA X [a] ta)(hg:Gl X "enumerate":=by rfl)(hs:starEach [a] X.env=[(false,eval a X.env)]:=by rfl) :
  QI X (.Tuple yB kk tp) (.Call (.Name "enumerate" p) [a] [] pos) (Wm X.K ta):=⟨by
 intro am s σ H R I h
 refine Call_ (qx I hg hm boot_enumerate (eu (kJ (ha.h pos am s σ H _ I h) fun us s1 kt1 ⟨vs,H1,I1,r1,q1⟩=>?_) hs rfl))
 obtain⟨t,e,⟨xs,hq⟩,q⟩:=q1
 subst e
 obtain⟨u,rfl,ru⟩:=qy r1
 cases ru
 obtain⟨b9,rv,pt,hz⟩:=I1.tuple hq
 refine yL (show s1.heap.IsTuple t b9.toArray from pt) fun g e1 e2 kp=>?_
 refine wpAny_pyIter_enum e1 ?_
 refine⟨s1.heap.objs.size+1,[s1.heap.objs.size+1,s1.heap.objs.size],_,_,H1,rfl,I1.kept (t':=s1.toks) kp,GC t _ _ (Nat.succ_ne_self _),⟨⟨_,e1⟩,e2⟩,fun b hb=>?_,q⟩
 have z:b=s1.heap.objs.size+1\/b=s1.heap.objs.size:=by simpa using hb
 rcases z with rfl|rfl
 ·exact I1.fpOk (bx _) (I1.hok.fresh (bx _))
 ·exact I1.fpOk (aC _) (I1.hok.fresh (aC _))⟩
end
section
variable{g:TG}{tc:TT}{H1:Hp}{Q:VK}
end
theorem zq:∀(p:Nat) (m:List Nat),risingS (tx [p]) (m.map fun c=>tx [c])=true->(∀c∈m,p<=c)/\m.Pairwise (· <= ·)
 |p,[],_=>⟨fun c h=>by simp at h,.nil⟩
 |p,c::r,h=>by
  have h':(!ltCps (tx [c]).cps.toList (tx [p]).cps.toList&&risingS (tx [c]) (r.map fun c=>tx [c]))=true:=h
  rw[dS]at h'
  obtain⟨a,b⟩:=h'
  obtain⟨b1,b2⟩:=zq c r b
  have hpc:p<=c:=by
   rw[ltCps_eq]at a
   have a':(!decide ([c]<[p]))=true:=a
   have:=of_decide_eq_false (iT _▸a')
   rcases Nat.lt_or_ge c p with z|z
   ·exact absurd (List.Lex.rel z) this
   ·exact z
  refine⟨fun x hx=>?_,cn.mpr ⟨b1,b2⟩⟩
  rcases aT.mp hx with rfl|hx
  ·exact hpc
  ·exact aO hpc (b1 x hx)
theorem BS:∀(m:List Nat),sortedS ((m.map fun c=>[c]).map tx)=true->m.Pairwise (· <= ·)
 |[],_=>.nil
 |c::r,h=>by
  have h':risingS (tx [c]) ((r.map fun c=>[c]).map tx)=true:=h
  rw[cw]at h'
  obtain⟨a,b⟩:=zq c r h'
  exact cn.mpr ⟨a,b⟩
theorem fx:Slot "set_iterator" "__next__" "set_iterator.__next__":=.of (owner:="set_iterator") (n:="__next__") (by rw[typeLookup_type,qt];kernel_rfl) #[65] #[65] #[65] (by first|exact .inl #[65]|exact .inr #[65]) (by rw[eU];kernel_rfl)
theorem nD:entryFor table "set_iterator.__next__"=some Builtin.«set_iterator.__next__»:=entryFor_of_tree (by kernel_rfl)
theorem nE(a:Value):argsOk "set_iterator.__next__" ⟨[a],[]⟩:=by unfold argsOk;kernel_rfl
theorem BU:entryFor table "set.__iter__"=some Builtin.«frozenset.__iter__»:=entryFor_alias (id':="frozenset.__iter__") (by kernel_rfl) (by first|rfl|decide +kernel|(unfold String.splitOn;simp +decide [String.splitOnAux])) #[65] (by kernel_rfl)
def wg(w:World):Bool:=w.params.followText "set-order"
def Fx(w:World)(n:Nat)(t:SetTable):Prop:=(wg w=true\/t.led=true)/\(n=0\/t.plain=false)
theorem GD(t:SetTable)(es:Array (Int×Value))(h:Int)(x:Value):(layNew t es h x).2.1.led=t.led/\(t.plain=false->(layNew t es h x).2.1.plain=false):=by
 unfold layNew
 split
 ·dsimp only
  unfold SetTable.orStandIn
  split
  ·exact⟨rfl,fun z=>z⟩
  ·exact⟨rfl,fun _=>rfl⟩
 ·exact⟨rfl,fun _=>rfl⟩
theorem Ar{t t':SetTable}{hs:Array Int}{o:Array Nat}(h:t.relaid hs n=some (t',o)):t'.led=t.led/\t'.plain=t.plain:=by
 unfold SetTable.relaid SetTable.laid at h
 cases hc:SetTable.layClean (SetTable.sizeAbove n-1) hs with
 |none=>rw[hc]at h;cases h
 |some ow=>
  rw[hc]at h
  have h':=bC h
  obtain⟨a,_⟩:=Prod.mk.inj h'
  subst a
  exact⟨rfl,rfl⟩
theorem BV(t:SetTable)(es:Array (Int×Value))(n:Nat):(relayAll t es n).2.1.led=t.led/\(t.plain=false->(relayAll t es n).2.1.plain=false):=by
 unfold relayAll
 split
 ·rename_i t' o he
  obtain⟨a,b⟩:=Ar he
  dsimp only
  split
  ·exact⟨a,fun z=>b.trans z⟩
  ·exact⟨rfl,fun _=>rfl⟩
 ·exact⟨rfl,fun _=>rfl⟩
section
variable{w:World}
def xh(prog:Program)(w:World)(n:Nat)(h:Heap)(a:Addr)(ks:List Str):Prop:=
 ∃o es ep t,h.get? a=some o/\o.ExactSet/\o.data=.set es ep t/\ElemsOf #[48] es.toList/\(es.toList.map fun e=>strOf e.2).Perm ks/\es.size<scanBound/\t.fits es.size=true/\Fx w es.size t/\jx n (es.toList.map (·.2))
theorem BW{l:List (Int×Value)}(h:ElemsOf #[48] l):∀e∈l,∃t,e.2=.str (strOf e.2) t:=fun e he=>by
 obtain⟨⟨k,hk,_⟩,_⟩:=h e he
 obtain⟨t,ht⟩:=mB hk
 exact⟨t,by rw[ht];rfl⟩
theorem zt{k:Str}{e:Int×Value}{l:List (Int×Value)}(h:ElemsOf #[48] l)(he:e∈l):#[48].is k e.2=true↔k=strOf e.2:=by
 obtain⟨t,ht⟩:=BW h e he
 constructor
 ·intro z
  obtain⟨u,hu⟩:=mB z
  rw[hu];rfl
 ·intro z
  show Value.isStrOf k e.2=true
  rw[ht,z]
  show Value.isStrOf (strOf e.2) (.str (strOf e.2) t)=true
  unfold Value.isStrOf;simp
theorem xh.keep{a:Addr}(z:xh prog w n h a ks)(k:∀o,h.get? a=some o->h'.get? a=some o):xh prog w n h' a ks:=let ⟨o,es,ep,t,ho,r⟩:=z;⟨o,es,ep,t,k o ho,r⟩
theorem jx.up{l:List Value}(h:jx n l)(hn:n<=n'):jx n' l:=fun x t hx h1=>⟨(h x t hx h1).1,aL (h x t hx h1).2 hn⟩
theorem xh.up{a:Addr}(z:xh prog w n h a ks)(hn:n<=n'):xh prog w n' h a ks:=let ⟨o,es,ep,t,ho,h1,h2,h3,h4,h5,h6,h7,h8⟩:=z;⟨o,es,ep,t,ho,h1,h2,h3,h4,h5,h6,h7,h8.up hn⟩
theorem L7{a:Addr}{tk:Tok}{Q:Bool->Shared->Prop}(z:xh prog w n s.heap a ks)(VL:x.length=1->0<tk/\tk<n)(W':ks.length+1<scanBound)
  (q:∀b g,Heap.SameBut a s.heap g->xh prog w n g a (if x∈ks then ks else ks++[x])->Q b { s with heap:=g }):wpAny #[7] A (setAddHashed a (.str x tk) (#[48].hash x)) Q E s:=by
 obtain⟨o,es,ep,t,ho,zY,hd,hel,hp,hb,hf,Ll,hta⟩:=z
 have gI:es.size=ks.length:=by have:=hp.length_eq;simpa using this
 have hkey:#[48].is x (.str x tk)=true:=by show Value.isStrOf x (.str x tk)=true;unfold Value.isStrOf;simp
 have hsc:(Value.str x tk).scannable=true:=rfl
 unfold setAddHashed setAddHashedIn
 refine dI (ag (gz ho hd hf ?_))
 dsimp only
 rw[byScan_of hsc hb hel,aJ rfl]
 unfold setAddByScan
 refine ag (ag (lq (ag (wpAny_setScan_of hkey ho hd hf hel ?_))))
 cases hr:List.findIdx? (fun e=>#[48].is x e.2) es.toList with
 |some j=>
  obtain⟨hj,hpj,_⟩:=List.findIdx?_eq_some_iff_getElem.mp hr
  have hin:x∈ks:=hp.mem_iff.mp (dy.mpr ⟨es.toList[j],ef hj,((zt hel (ef hj)).mp hpj).symm⟩)
  refine ay (ay ?_)
  have e1:=q false s.heap (Heap.SameBut.refl a s.heap) (by rw[aJ hin];exact⟨o,es,ep,t,ho,zY,hd,hel,hp,hb,hf,Ll,hta⟩)
  exact e1
 |none=>
  have hin:¬ x∈ks:=fun hx=>by
   obtain⟨e,he,hxe⟩:=dy.mp (hp.mem_iff.mpr hx)
   have y:=List.findIdx?_eq_none_iff.mp hr e he
   rw[(zt hel he).mpr hxe.symm]at y
   cases y
  have q':=fun b g h1 h2=>q b g h1 (by rw[aW hin];exact h2)
  dsimp only
  have lp:=layNew_perm t es (#[48].hash x) (.str x tk)
  have lf:=layNew_fits t es (#[48].hash x) (.str x tk)
  have lm:=GD t es (#[48].hash x) (.str x tk)
  generalize layNew t es (#[48].hash x) (.str x tk)=L at lp lf lm ⊢
  obtain⟨es1,t1,wd,gv⟩:=L
  dsimp only at lp lf lm ⊢
  rw[nR]at lp
  have el1:ElemsOf #[48] es1.toList:=(hel.push hkey hsc).perm lp
  have sz1:es1.size=es.size+1:=by have:=lp.length_eq;simpa using this
  have b1:es1.size<scanBound:=by omega
  have p1:(es1.toList.map fun e=>strOf e.2).Perm (ks++[x]):=by
   have y:=lp.map fun e:Int×Value=>strOf e.2
   rw[a8]at y
   exact y.trans (hp.append_right _)
  have ta1:jx n (es1.toList.map (·.2)):=fun y u hy=>by
   obtain⟨e,he,ee⟩:=dy.mp hy
   rcases aV.mp (lp.mem_iff.mp he)with z|z
   ·exact hta y u (dy.mpr ⟨e,z,ee⟩)
   ·rw[aZ]at z
    subst z
    cases ee
    exact VL
  have gw:∀(b:Bool) {s₁:Shared} {Q':Unit->Shared->Prop},Q' () s₁->wpAny #[7] A (match b with|true=>rule "set.scan.the-table-gave-way" | false=>pure ()) Q' E s₁:=fun b _ _ y=>by cases b<;>first|exact ay y|exact lq y
  refine ag (gw _ ?_)
  have lg:∀t2:SetTable,t2.fits es1.size=true->t2.led=t.led->t2.plain=false->wpAny #[7] A (do
    storeSet a es1 t2
    if (!wd&&t2.tooFull)=true then do
      (match (relayAll t2 es1 (SetTable.grown es1.size)).2.2 with|true=>rule "set.scan.the-table-gave-way" | false=>pure ())
      storeSet a (relayAll t2 es1 (SetTable.grown es1.size)).1 (relayAll t2 es1 (SetTable.grown es1.size)).2.1
      pure (some true)
     else pure (some true)) (fun r s'=>wpAny #[7] A (match r with|some added=>pure added|none=>setAddHashedIn a (.str x tk) (#[48].hash x) 99999) Q E s') E s:=by
   intro t2 f2 l2 n2
   have to2:Fx w es1.size t2:=⟨by rw[l2];exact Ll.1,.inr n2⟩
   refine ag (wpAny_storeSet_of ho hd ?_ (fits_of_scanBound b1))
   have g1:(s.heap.update a (Obj.putSet es1 t2)).get? a=some { o with data:=.set es1 (ep+1) t2 }:=by
    have y:=d7 (Obj.putSet es1 t2) ho (by rw[vM es1 t2 hd];rfl)
    rw[vM es1 t2 hd]at y;exact y
   have sb:=jt s.heap a (Obj.putSet es1 t2)
   split
   ·have rp:=relayAll_perm t2 es1 (SetTable.grown es1.size)
    have rf:=relayAll_fits t2 es1 (SetTable.grown es1.size)
    have rm:=BV t2 es1 (SetTable.grown es1.size)
    generalize relayAll t2 es1 (SetTable.grown es1.size)=R at rp rf rm ⊢
    obtain⟨es2,t3,gv2⟩:=R
    dsimp only at rp rf rm ⊢
    have sz2:es2.size=es1.size:=by have:=rp.length_eq;simpa using this
    refine ag (gw _ (ag (wpAny_storeSet_of g1 rfl (ay (ay ?_)) (fits_of_scanBound #[0]))))
    have g2:((s.heap.update a (Obj.putSet es1 t2)).update a (Obj.putSet es2 t3)).get? a=some { o with data:=.set es2 (ep+1+1) t3 }:=by
     have y:=d7 (Obj.putSet es2 t3) g1 (by rw[vM es2 t3 rfl];rfl)
     rw[vM es2 t3 rfl]at y;exact y
    refine q' true _ (sb.trans (jt _ a _)) ⟨_,es2,_,t3,g2,zY,rfl,el1.perm rp,?_,by omega,rf,?_⟩
    ·exact(rp.map fun e:Int×Value=>strOf e.2).trans p1
    ·exact⟨⟨by rw[rm.1,l2];exact Ll.1,.inr (rm.2 n2)⟩,fun y u hy=>ta1 y u ((rp.map _).mem_iff.mp hy)⟩
   ·exact ay (ay (q' true _ sb ⟨_,es1,_,t2,g1,zY,rfl,el1,p1,b1,f2,to2,ta1⟩))
  by_cases m7:t1.plain=true
  ·rw[aJ m7,hashByValue_scannable 8 hsc]
   refine ag (ay ?_)
   exact lg { t1 with plain:=false } (SetTable.fits_plain_off lf) lm.1 rfl
  ·rw[aW m7]
   refine ag (ay ?_)
   exact lg t1 lf lm.1 (by simpa using m7)
end
section
variable{w:World}{R:Result->Shared->Prop}{I:Addr}{wr:List Addr}{P:Nat->Value->Prop}{St:Nat->Heap->Prop}
def Nc(prog:Program)(w:World)(m:Nat)(val:Nat->Str)(h:Heap)(a:Addr)(i:Nat):Prop:=∃ks,xh prog w m h a ks/\ks.Nodup/\(∀x,x∈ks↔∃j,j<i/\val j=x)/\ks.length<=i
theorem Ia(W:Walks prog w A.in1 I fp wr n P St)(S:Addr)(Xh:S∉fp)(val:Nat->Str)(DA:∀i v,P i v->∃t,v=.str (val i) t)(hb:n+1<scanBound){n0:Nat}
  (Dv:∀i (s:Shared) (Q:Option Value->Shared->Prop) (E:Value->Shared->Prop),n0<=s.toks->i<n->St i s.heap ->
   (∀v h' tk,s.toks<=tk->jx tk [v]->P i v->St (i+1) h'->(∀b o,b∉wr->s.heap.get? b=some o->h'.get? b=some o)->Q (some v) { s with heap:=h',toks:=tk })->wpAny #[7] A.in1 (pyNext (.ref I)) Q E s) :
  ∀(k i:Nat) (s:Shared),n-i=k->i<=n->n0<=s.toks->St i s.heap->Nc prog w s.toks val s.heap S i ->
   (∀g tk,s.toks<=tk->Nc prog w tk val g S n->(∀b o,b≠S->b∉wr->s.heap.get? b=some o->g.get? b=some o)->R (.ok (.ret .none)) { s with heap:=g,toks:=tk }) ->
   codeAny #[7] A (.builtin "set.update.loop" ⟨[.ref S,.ref I],[]⟩) R s:=by
 have hSw:S∉wr:=fun h=>Xh (W.sub _ h)
 intro k
 induction k with
 |zero=>
  intro i s hk hi hn0 st hM hR
  obtain rfl:i=n:=by omega
  refine dL ju ?_
  rw[dr fG _]
  show wpAny _ A.in1 (pyNext (.ref I) >>= _) _ _ s
  refine ag (up (W.done s _ _ st fun g tk kp mL=>ay (hR g tk mL ?_ fun b o _ hb e=>kp b o hb e)))
  obtain⟨ks,z,r⟩:=hM
  exact⟨ks,(z.keep fun o e=>kp S o hSw e).up mL,r⟩
 |succ k ih=>
  intro i s hk hi hn0 st hM hR
  have hlt:i<n:=by omega
  refine dL ju ?_
  rw[dr fG _]
  show wpAny _ A.in1 (pyNext (.ref I) >>= _) _ _ s
  refine ag (Dv i s _ _ hn0 hlt st fun v g tk mL hta hP bt kp=>?_)
  obtain⟨t,rfl⟩:=DA i v hP
  obtain⟨ks,z,nd,mem,len⟩:=hM
  have z':xh prog w (tk+1) g S ks:=(z.keep fun o e=>kp S o hSw e).up (iQ mL)
  refine ag (dI ?_)
  unfold setAdd
  refine dI (ag (#[48].pyHash (k:=val i) (show Value.isStrOf (val i) (.str (val i) t)=true by unfold Value.isStrOf;simp) ?_))
  refine L7 (s:={ s with heap:=g,toks:=tk+1 }) z' (fun h1=>⟨(hta _ t #[15] h1).1,de (hta _ t #[15] h1).2⟩) #[0] fun _ g2 sb z2=>?_
  refine ay ⟨fO fG _,ih (i+1) _ #[0] hlt (aO hn0 (iQ mL)) (W.frame _ _ _ bt fun b hb o e=>?_) ?_ fun g3 tk3 hle3 hM3 kp3=>?_⟩
  ·rw[sb.2 b (fun h:b=S=>Xh (by rw[<- h];exact hb))];exact e
  ·refine⟨_,z2,?_,fun x=>?_,?_⟩
   ·by_cases hx:val i∈ks
    ·rw[aJ hx];exact nd
    ·rw[aW hx];exact nS.mpr ⟨nd,by simp,fun a ha b hb=>by rw[aZ]at hb;subst hb;exact fun e=>hx (e▸ha)⟩
   ·by_cases hx:val i∈ks
    ·rw[aJ hx,mem x]
     constructor
     ·rintro⟨j,hj,e⟩;exact⟨j,by omega,e⟩
     ·rintro⟨j,hj,e⟩
      by_cases hji:j=i
      ·subst hji;subst e;exact(mem _).mp hx
      ·exact⟨j,by omega,e⟩
    ·rw[aW hx,aV,mem x,aZ]
     constructor
     ·rintro(⟨j,hj,e⟩|e)
      ·exact⟨j,by omega,e⟩
      ·exact⟨i,by omega,e.symm⟩
     ·rintro⟨j,hj,e⟩
      by_cases hji:j=i
      ·subst hji;exact .inr e.symm
      ·exact .inl ⟨j,by omega,e⟩
   ·by_cases hx:val i∈ks
    ·rw[aJ hx];omega
    ·rw[aW hx,aj,bj];omega
  ·exact hR g3 tk3 (aO (iQ mL) hle3) hM3 fun b o hb hw e=>kp3 b o hb hw ((sb.2 b hb).trans (kp b o hw e))
end
section
variable{w:World}
abbrev eF(w:World):Obj:={ cls:=.type "set",dict:=none,data:=.set #[] 0 (.fresh 0 0 (!wg w)) }
theorem BX(a:Value){Q₁:Value->Shared->Prop}(h:Q₁ #[28] { s with heap:=s.heap.push (eF w) }) :
  codeAny #[7] A (.call (.builtin "set.__new__") ⟨[.type "set",a],[]⟩) (wants Q₁ E) s:=by
 refine codeAny_of_tree ?_
 show wpAny _ A.in1 (do checkBuiltinCall "set.__new__" ⟨[.type "set",a],[]⟩;again (.builtin "set.__new__" ⟨[.type "set",a],[]⟩)) _ _ s
 refine ag (wpAny_of_eq (PySem.F.newCall_set_1 a) (ay ⟨fO PySem.F.plain_set_new _,dL PySem.F.entry_set_new ?_⟩))
 rw[dr PySem.F.plain_set_new _]
 unfold Builtin.«set.__new__» Builtin.Frozenset.newClass
 have sb:=sub_set_self
 obtain⟨hp,g,d,tk,os⟩:=s
 dsimp only
 wp_walk
 refine oU (ay ?_)
 dsimp only
 simp only[newObj]
 exact ag (wpAny_alloc (ay (ay h)))
set_option maxHeartbeats 8000000 in
theorem nV{T:String}{VI:Obj}{fp:Addr->List Addr}{n:Nat}{P:Nat->Value->Prop}{St:Addr->Nat->Heap->Prop}{val:Nat->Str}{Q:Value->Shared->Prop}(hT:Shared.TypeIs { s with heap:=s.heap.push (eF w) } v T)
  (n1:isSubtype (.type T) (.type "set")=pure false) (n2:isSubtype (.type T) (.type "frozenset")=pure false) (n3:(Value.type T==Value.type "dict")=false)
  (rC:∀(A:Around) (E:Value->Shared->Prop) (Q:Value->Shared->Prop),Q (.ref #[8]) { s with heap:=(s.heap.push (eF w)).push VI }->wpAny #[7] A (pyIter v) Q E { s with heap:=s.heap.push (eF w) })
  (W:∀(A:Around) (it:Addr),A.handled=none->it=s.heap.objs.size+1->Walks prog w A it (fp it) [it] n P (St it)) (Vo:s.heap.objs.size∉fp #[8]) (st:St #[8] 0 ((s.heap.push (eF w)).push VI)) (DA:∀i v,P i v->∃t,v=.str (val i) t)
  (hh:A.handled=none) (hb:n+1<scanBound)
  (Dv:∀(A:Around),A.handled=none->∀i (s':Shared) (Q:Option Value->Shared->Prop) (E:Value->Shared->Prop),s.toks<=s'.toks->i<n->St #[8] i s'.heap ->
   (∀v h' tk,s'.toks<=tk->jx tk [v]->P i v->St #[8] (i+1) h'->(∀b o,b∉[s.heap.objs.size+1]->s'.heap.get? b=some o->h'.get? b=some o)->Q (some v) { s' with heap:=h',toks:=tk })->wpAny #[7] A (pyNext (.ref #[8])) Q E s')
  (q:∀g tk,s.toks<=tk->Nc prog w tk val g s.heap.objs.size n->(∀b o,s.heap.get? b=some o->g.get? b=some o)->Q #[28] { s with heap:=g,toks:=tk }) :
  wpAny #[7] A (call (.type "set") [v]) Q E s:=by
 obtain⟨c,tl,hmro⟩:=PySem.F.called_set.mro
 have hmade:=PySem.F.called_set.made
 have hsub:=PySem.F.called_set.sub
 refine tz (codeAny_of_tree ?_)
 show wpAny _ _ (callAny (.type "set") _) _ _ _
 refine ay ⟨Code.quiet_builtin _ #[65],dL PySem.F.entry_type_call ?_⟩
 rw[Around.under_plain (weight_type_call_type "set" [v] []) rfl]
 have h1:=PySem.F.called_set.notType
 have h2:=PySem.F.called_set.canCreate
 have hct:=PySem.F.typeCall_set_1 v
 repeat(any_goals (first|assumption|wp_step))
 refine jm (BX v (E:=E) (Q₁:=fun obj s₁=>obj=.ref s.heap.objs.size/\s₁={ s with heap:=s.heap.push (eF w) }) ⟨rfl,rfl⟩) fun r s₁ hr=>?_
 cases r with
 |error e=>exact hr
 |ok fl=>
  cases fl with
  |ret obj=>
   obtain⟨rfl,rfl⟩:=hr
   have gS:(s.heap.push (eF w)).get? s.heap.objs.size=some (eF w):=aD _ rfl
   have tS:Shared.TypeIs { s with heap:=s.heap.push (eF w) } #[28] "set":=⟨_,gS,rfl⟩
   have hli:=PySem.F.called_set.init.lookup
   have hbi:=PySem.F.called_set.init.bind #[28]
   repeat(any_goals (first|assumption|wp_step))
   refine jm (lS (R:=wants (fun r s₂=>r=.none/\∃g tk,s₂={ s with heap:=g,toks:=tk }/\s.toks<=tk/\Nc prog w tk val g s.heap.objs.size n/\(∀b o,s.heap.get? b=some o->g.get? b=some o)) E) PySem.F.called_set.init.plain PySem.F.entry_set_init (check_set_init_1 tS ?_)) fun r₂ s₂ hr₂=>?_
   ·unfold Builtin.«set.__init__» noKeywords Builtin.Frozenset.updateFrom
    generalize hPI:pyIter=PI
    wp_walk
    subst hPI
    refine rC _ _ _ (ag (rG ?_))
    have g0:((s.heap.push (eF w)).push VI).get? s.heap.objs.size=some (eF w):=aw _ gS
    have m0:Nc prog w s.toks val ((s.heap.push (eF w)).push VI) s.heap.objs.size 0:=⟨[],⟨_,#[],0,_,g0,⟨rfl,rfl,rfl⟩,rfl,fun e he=>by simp at he,by simp,by unfold scanBound;decide,rfl,?_⟩,List.nodup_nil,fun x=>by simp,aC _⟩
    ·refine Ia (W _ _ (by simpa using hh) rfl) s.heap.objs.size Vo val DA hb (n0:=s.toks) (Dv _ (by simpa using hh)) (n-0) 0 _ rfl (cE _) (aC _) st m0 fun g tk mL hM kp=>?_
     refine ay (ay ⟨rfl,g,tk,rfl,mL,hM,fun b o e=>kp b o (a9 (aH e)) (fun hbm=>?_) (aw _ (aw _ e))⟩)
     rw[aZ]at hbm
     exact absurd (aH e) (by rw[hbm];exact jX.mpr (bx _))
    ·refine⟨⟨?_,.inl rfl⟩,fun x t hx=>by simp at hx⟩
     show wg w=true\/(!wg w)=true
     cases wg w<;>simp
   ·cases r₂ with
    |error e=>exact hr₂
    |ok fl₂=>
     cases fl₂ with
     |ret r=>
      obtain⟨rfl,g,tk,rfl,mL,hM,kp⟩:=hr₂
      repeat(any_goals (first|assumption|wp_step))
      exact q g tk mL hM kp
     |_=>exact hr₂.elim
  |_=>exact hr.elim
end
theorem sO:∀{l:List α} {i:Nat} (h:i<l.length),(l[i]::l.eraseIdx i).Perm l
 |x::r,0,_=>jc _
 |x::r,i+1,h=>(List.Perm.swap x (r[i]'(by simpa using h)) (r.eraseIdx i)).trans ((sO (l:=r) (i:=i) (by simpa using h)).cons x)
section
theorem yM{Xt:Source}{Q:Nat->Shared->Prop}(hn:n≠0)(h:∀i,i<n->∀d,Q i { s with drawn:=d }):wpAny M A (choose Xt n) Q E s:=fun _ _ _=>⟨hn,h _ (Nat.mod_lt _ (Nat.pos_of_ne_zero hn)) _⟩
theorem BY:∀(n:Nat) (xs:List α) (s:Shared) (Q:List α->Shared->Prop),xs.length=n->(∀ys,ys.Perm xs->∀d,Q ys { s with drawn:=d })->wpAny M A (drawOrder n xs) Q E s
 |0,xs,s,Q,hl,h=>by
  have e:xs=[]:=d6 hl
  subst e
  unfold drawOrder
  exact ay (h [] (jc _) s.drawn)
 |n+1,[],s,Q,hl,h=>by simp at hl
 |n+1,x::r,s,Q,hl,h=>by
  unfold drawOrder
  refine ag (yM #[15] fun i hi d=>?_)
  have e:(x::r)[i]?=some (x::r)[i]:=ao hi
  rw[e]
  dsimp only
  refine ag (BY n ((x::r).eraseIdx i) _ _ (by rw[List.length_eraseIdx,aJ hi];simp at hl ⊢;omega) fun ys hp d'=>ay (h _ ?_ d'))
  exact(List.Perm.cons _ hp).trans (sO hi)
theorem Fy(next:Nat->Nat):∀(M3 k:Nat) (DB:List α) (out:Array α),DB.length=M3->(pickOrder.go next M3 k DB out).toList.Perm (out.toList++DB)
 |0,k,DB,out,h=>by
  have e:DB=[]:=d6 h
  subst e
  unfold pickOrder.go
  simp
 |M3+1,k,DB,out,h=>by
  have hlt:next k%DB.length<DB.length:=Nat.mod_lt _ #[0]
  unfold pickOrder.go
  rw[ao hlt]
  dsimp only
  refine(Fy next M3 (k+1) _ _ (by rw[List.length_eraseIdx,aJ hlt];omega)).trans ?_
  rw[nR,al]
  exact qu _ (sO hlt)
theorem GE(next:Nat->Nat)(xs:Array α):(pickOrder next xs).toList.Perm xs.toList:=by
 unfold pickOrder
 have:=Fy next xs.size 0 xs.toList #[] #[15]
 simpa using this
end
abbrev r_(f:Value)(i:Int)(S:Addr)(n ep:Nat):Obj:={ cls:=.type "set_iterator",dict:=none,data:=.fields #[f,rawInt i,.ref S,rawInt n,rawInt ep],slots:=#[] }
section
variable{w:World}
theorem xi{Q:Fin->Shared->Prop}(hh:A.handled=none)(q:∀g e,(∀b o,s.heap.get? b=some o->g.get? b=some o)->(∃o,g.get? e=some o/\o.cls=.type "StopIteration")->E (.ref e) { s with heap:=g }) :
  wpAny #[7] A (do let x <- newExc (.type "StopIteration") [];raiseNew x) Q E s:=by
 refine ag ?_
 simp only[newExc,newTuple]
 refine ag (cH (ag (m:=firstArgMember _ _) (wpAny_of_eq (a:=Value.none) (by first|rfl|(simp only[firstArgMember];rfl)) (cH ?_ (by size_fits)))) (by size_fits))
 simp only[raiseNew]
 refine ag (wpAny_handled ?_)
 rw[hh]
 exact ag (ay (wpAny_throw (q _ _ (fun b o e=>aw _ (aw _ e)) ⟨_,aD _ rfl,rfl⟩)))
structure kM(w:World)(h:Heap)(S:Addr)(es:Array (Int×Value))(ep:Nat)(t:SetTable):Prop where
 ex:∃o,h.get? S=some o/\o.ExactSet/\o.data=.set es ep t
 fits:t.fits es.size=true
theorem kM.keep{S:Addr}{es:Array (Int×Value)}{t:SetTable}(z:kM w h S es ep t)(k:∀o,h.get? S=some o->h'.get? S=some o):kM w h' S es ep t:=⟨let ⟨o,ho,r⟩:=z.ex;⟨o,k o ho,r⟩,z.fits⟩
theorem GF{S p:Addr}{es:Array (Int×Value)}{t:SetTable}{pv:Array Value}{pn:Nat}{x:Int×Value}{Q:Option Value->Shared->Prop}(rC:s.heap.get? it=some (r_ (.ref p) i S n ep))(hS:kM w s.heap S es ep t)(hn:es.size=n)
  (hp:∃o,s.heap.get? p=some o/\o.cls=.type "tuple"/\o.data=.seq pv pn) (hk:pv[i]?=some (rawInt k)) (hx:es[k]?=some x)
  (q:∀g,g.get? it=some (r_ (.ref p) ((i:Int)+1) S n ep)->Heap.SameBut it s.heap g->Q (some x.2) { s with heap:=g }):wpAny #[7] A (pyNext (.ref it)) Q E s:=by
 obtain⟨o,ho,zY,hd⟩:=hS.ex
 obtain⟨op,hop,hcp,hdp⟩:=hp
 walk_at "6"
 unfold pyNext
 walk_at "5"
 show wpAny _ _ (fieldsOf (.ref it) >>= _) _ _ s
 refine ag (nn rC rfl ?_)
 dsimp only
 refine ag (gN ho hd hS.fits ?_)
 rw[aW (by rw[hn];simp)]
 refine ag (eT hop hdp ?_)
 simp only[cG,hk]
 unfold setNextDrawn
 refine ag (ag (gz ho hd hS.fits ?_))
 dsimp only
 rw[aW #[15],cG,hx]
 refine ay (ag (cJ rC #[15] fun g e1 e2=>ay ⟨_,rfl,ay (q g (by simpa using e1) e2)⟩))
theorem yN{S p:Addr}{es:Array (Int×Value)}{t:SetTable}{pv:Array Value}{pn:Nat}{Q:Option Value->Shared->Prop}(hh:A.handled=none)(rC:s.heap.get? it=some (r_ (.ref p) i S n ep))(hS:kM w s.heap S es ep t)(hn:es.size=n)
  (hp:∃o,s.heap.get? p=some o/\o.cls=.type "tuple"/\o.data=.seq pv pn) (hk:pv[i]?=none)
  (q:∀g,(∀b o,b≠it->s.heap.get? b=some o->g.get? b=some o)->Q none { s with heap:=g }):wpAny #[7] A (pyNext (.ref it)) Q E s:=by
 obtain⟨o,ho,zY,hd⟩:=hS.ex
 obtain⟨op,hop,hcp,hdp⟩:=hp
 walk_at "6"
 unfold pyNext
 walk_at "5"
 show wpAny _ _ (fieldsOf (.ref it) >>= _) _ _ s
 refine ag (nn rC rfl ?_)
 dsimp only
 refine ag (gN ho hd hS.fits ?_)
 rw[aW (by rw[hn];simp)]
 refine ag (eT hop hdp ?_)
 simp only[cG,hk]
 refine ag (cJ rC #[15] fun g e1 e2=>ag (cJ e1 #[15] fun g2 e3 e4=>xi (s:={ s with heap:=g2 }) (show A.in1.handled=none from hh) fun g3 e kp hx=>?_))
 obtain⟨ox,hox,hcx⟩:=hx
 refine ag (gY (T:="StopIteration") (b:=true) ⟨ox,hox,hcx⟩ nj (ay (q g3 fun b o hb e=>kp b o ?_)))
 exact e4.extBut b o hb (e2.extBut b o hb e)
theorem Ib{S:Addr}{sl sl':Nat}{es:Array (Int×Value)}{t:SetTable}{x:Value}{Q:Option Value->Shared->Prop}(rC:s.heap.get? it=some (r_ (rawInt sl) i S n ep))(hS:kM w s.heap S es ep t)(hn:es.size=n)
  (hx:∀(Q':Option (Value×Nat)->Shared->Prop) (E':Value->Shared->Prop),Q' (some (x,sl')) s->wpAny #[7] A.in1 (setNext S sl i ep) Q' E' s)
  (q:∀g,g.get? it=some (r_ (rawInt sl') ((i:Int)+1) S n ep)->Heap.SameBut it s.heap g->Q (some x) { s with heap:=g }):wpAny #[7] A (pyNext (.ref it)) Q E s:=by
 obtain⟨o,ho,zY,hd⟩:=hS.ex
 walk_at "6"
 unfold pyNext
 walk_at "5"
 show wpAny _ _ (fieldsOf (.ref it) >>= _) _ _ s
 refine ag (nn rC rfl ?_)
 dsimp only
 refine ag (gN ho hd hS.fits ?_)
 rw[aW (by rw[hn];simp)]
 show wpAny _ _ (setNext S (sl:Int).toNat (i:Int).toNat (ep:Int).toNat >>= _) _ _ s
 simp only[cG]
 refine ag (hx _ _ ?_)
 dsimp only
 refine ag (cJ rC #[15] fun g e1 e2=>ag (cJ e1 #[15] fun g2 e3 e4=>ay ⟨_,rfl,ay (q g2 (by simpa using e3) (e2.trans e4))⟩))
theorem As{S:Addr}{sl:Nat}{es:Array (Int×Value)}{t:SetTable}{Q:Option Value->Shared->Prop}(hh:A.handled=none)(rC:s.heap.get? it=some (r_ (rawInt sl) i S n ep))(hS:kM w s.heap S es ep t)(hn:es.size=n)
  (hx:∀(Q':Option (Value×Nat)->Shared->Prop) (E':Value->Shared->Prop),Q' none s->wpAny #[7] A.in1 (setNext S sl i ep) Q' E' s)
  (q:∀g,(∀b o,b≠it->s.heap.get? b=some o->g.get? b=some o)->Q none { s with heap:=g }):wpAny #[7] A (pyNext (.ref it)) Q E s:=by
 obtain⟨o,ho,zY,hd⟩:=hS.ex
 walk_at "6"
 unfold pyNext
 walk_at "5"
 show wpAny _ _ (fieldsOf (.ref it) >>= _) _ _ s
 refine ag (nn rC rfl ?_)
 dsimp only
 refine ag (gN ho hd hS.fits ?_)
 rw[aW (by rw[hn];simp)]
 show wpAny _ _ (setNext S (sl:Int).toNat (i:Int).toNat (ep:Int).toNat >>= _) _ _ s
 simp only[cG]
 refine ag (hx _ _ ?_)
 dsimp only
 refine ag (cJ rC #[15] fun g e1 e2=>xi (s:={ s with heap:=g }) (show A.in1.handled=none from hh) fun g3 e kp hx=>?_)
 obtain⟨ox,hox,hcx⟩:=hx
 exact ag (gY (T:="StopIteration") (b:=true) ⟨ox,hox,hcx⟩ nj (ay (q g3 fun b o hb e=>kp b o (e2.extBut b o hb e))))
end
theorem vT:Slot "set_iterator" "__iter__" "set_iterator.__iter__":=.of (owner:="set_iterator") (n:="__iter__") (by rw[typeLookup_type,qt];kernel_rfl) #[65] #[65] #[65] (by first|exact .inl #[65]|exact .inr #[65]) (by rw[eU];kernel_rfl)
theorem BZ(a:Value):argsOk "set_iterator.__iter__" ⟨[a],[]⟩:=by unfold argsOk;kernel_rfl
theorem B0:entryFor table "set_iterator.__iter__"=some Builtin.«dict_keyiterator.__iter__»:=entryFor_alias (id':="dict_keyiterator.__iter__") (by kernel_rfl) (by first|rfl|decide +kernel|(unfold String.splitOn;simp +decide [String.splitOnAux])) #[65] (by kernel_rfl)
section
variable{w:World}
theorem B1{S:Addr}{f:Value}{i:Int}(rC:s.heap.get? it=some (r_ f i S n ep))(q:Q (.ref it) s):wpAny #[7] A (pyIter (.ref it)) Q E s:=by
 walk_at "6"
 exact wpAny_pyIter_slot T vT (cv vT T B0 (ay ⟨_,rfl,"set_iterator",_,T,fx.lookup,q⟩) (BZ _))
theorem D5(hh:A.handled=none){S p:Addr}{ep:Nat}{es:Array (Int×Value)}{t:SetTable}{pl:List Nat}(m7:pl.Perm (List.range n))(hn:es.size=n)(h1:it≠S)(h2:it≠p) :
  Walks prog w A it [it,p,S] [it] n (fun i v=>∃k x,pl[i]?=some k/\es[k]?=some x/\v=x.2) (fun i h=>i<=n/\h.get? it=some (r_ (.ref p) i S n ep)/\(∃o,h.get? p=some o/\o.cls=.type "tuple"/\∃e,o.data=.seq (pl.map fun k:Nat=>rawInt k).toArray e)/\kM w h S es ep t) where
 sub:=fun b hb=>by simp at hb;simp[hb]
 frame:=fun i h h' st k=>⟨st.1,k it #[15] _ st.2.1,(let ⟨o,ho,r⟩:=st.2.2.1;⟨o,k p #[15] o ho,r⟩),st.2.2.2.keep fun o ho=>k S #[15] o ho⟩
 item:=fun i s Q E hi st q=>by
  obtain⟨_,rC,⟨op,hop,hcp,e,hdp⟩,hS⟩:=st
  have hl:pl.length=n:=by have:=m7.length_eq;simpa using this
  have hk:pl[i]?=some pl[i]:=ao #[0]
  have hkn:pl[i]<es.size:=by rw[hn];exact m8.mp (m7.mem_iff.mp (ef #[0]))
  refine GF rC hS hn ⟨op,hop,hcp,hdp⟩ (k:=pl[i]) (x:=es[pl[i]]) (by simp[hk]) (by simp[hkn]) fun g a b=>q _ g s.toks ⟨pl[i],es[pl[i]],hk,by simp[hkn],rfl⟩ ⟨hi,?_,⟨op,b.extBut p op (Ne.symm h2) hop,hcp,e,hdp⟩,hS.keep fun o ho=>b.extBut S o (Ne.symm h1) ho⟩ fun c o hc ho=>b.extBut c o (fun z=>hc (by simp[z])) ho
  rw[a];rfl
 done:=fun s Q E st q=>by
  obtain⟨_,rC,⟨op,hop,hcp,e,hdp⟩,hS⟩:=st
  have hl:pl.length=n:=by have:=m7.length_eq;simpa using this
  exact yN hh rC hS hn ⟨op,hop,hcp,hdp⟩ (by simp[hl]) fun g kp=>q g s.toks fun c o hc ho=>kp c o (fun z=>hc (by simp[z])) ho
 self:=fun i s Q E st q=>B1 st.2.1 q
theorem GG(hh:A.handled=none){S:Addr}{ep:Nat}{es:Array (Int×Value)}{t:SetTable}{vs:List Value}{sl:Nat->Nat}(hv:vs.length=n)(hn:es.size=n)(h1:it≠S)
  (hx:∀(s:Shared) (i:Nat),kM w s.heap S es ep t->i<=n->∀(A:Around) (Q':Option (Value×Nat)->Shared->Prop) (E':Value->Shared->Prop),Q' ((vs[i]?).map fun v=>(v,sl (i+1))) s->wpAny #[7] A (setNext S (sl i) i ep) Q' E' s) :
  Walks prog w A it [it,S] [it] n (fun i v=>vs[i]?=some v) (fun i h=>i<=n/\h.get? it=some (r_ (rawInt (sl i)) i S n ep)/\kM w h S es ep t) where
 sub:=fun b hb=>by simp at hb;simp[hb]
 frame:=fun i h h' st k=>⟨st.1,k it #[15] _ st.2.1,st.2.2.keep fun o ho=>k S #[15] o ho⟩
 item:=fun i s Q E hi st q=>by
  obtain⟨_,rC,hS⟩:=st
  have hk:vs[i]?=some vs[i]:=ao #[0]
  refine Ib (x:=vs[i]) (sl':=sl (i+1)) rC hS hn (fun Q' E' y=>hx s i hS (gs hi) _ Q' E' (by rw[hk];exact y)) fun g a b=>q _ g s.toks hk ⟨hi,?_,hS.keep fun o ho=>b.extBut S o (Ne.symm h1) ho⟩ fun c o hc ho=>b.extBut c o (fun z=>hc (by simp[z])) ho
  rw[a];rfl
 done:=fun s Q E st q=>by
  obtain⟨_,rC,hS⟩:=st
  have hk:vs[n]?=none:=cm #[0]
  exact As hh rC hS hn (fun Q' E' y=>hx s n hS (aC _) _ Q' E' (by rw[hk];exact y)) fun g kp=>q g s.toks fun c o hc ho=>kp c o (fun z=>hc (by simp[z])) ho
 self:=fun i s Q E st q=>B1 st.2.1 q
end
section
variable{w:World}
theorem rM{Q:Bool->Shared->Prop}(q:Q (wg w) s):wpAny #[7] A setsByText Q E s:=by
 unfold setsByText
 exact ag (oU (ay q))
theorem GH{S:Addr}{es:Array (Int×Value)}{t:SetTable}{Q:Option (Value×Nat)->Shared->Prop}(hb:wg w=true)(hS:kM w s.heap S es ep t)
  (q:Q ((((pickOrder (w.params.setOrder S ep) es).toList.map (·.2))[i]?).map fun v=>(v,0)) s):wpAny #[7] A (setNext S 0 i ep) Q E s:=by
 obtain⟨o,ho,zY,hd⟩:=hS.ex
 unfold setNext
 refine ag (gz ho hd hS.fits ?_)
 dsimp only
 refine ag (rM ?_)
 rw[hb,aJ rfl,aW #[15]]
 unfold setWalk
 refine ag (ag (gz ho hd hS.fits ?_))
 dsimp only
 refine ag (rM ?_)
 rw[hb,aJ rfl]
 refine ag (oU (ay (ay ?_)))
 have e:((pickOrder (w.params.setOrder S ep) es)[i]?).map (fun e=>(e.2,0))=(((pickOrder (w.params.setOrder S ep) es).toList.map (·.2))[i]?).map fun v=>(v,0):=by
  rw[aI,gb,Option.map_map];rfl
 show Q (((pickOrder (w.params.setOrder S ep) es)[i]?).map fun e=>(e.2,0)) s
 rw[e];exact q
theorem zu(p:Nat):SetTable.below #[p] 0=0/\SetTable.below #[p] (p+1)=1:=by
 unfold SetTable.below
 constructor
 ·simp[SetTable.below.go]
 ·simp[SetTable.below.go]
theorem Ic{S:Addr}{es:Array (Int×Value)}{t:SetTable}{Q:Option (Value×Nat)->Shared->Prop}(hb:wg w=false)(hS:kM w s.heap S es ep t)(R0:t.led=true)(h1:es.size<=1)(hi:i<=es.size)
  (q:Q (((es.toList.map (·.2))[i]?).map fun v=>(v,if i+1=0 then 0 else t.place.getD 0 0+1)) s):wpAny #[7] A (setNext S (if i=0 then 0 else t.place.getD 0 0+1) i ep) Q E s:=by
 obtain⟨o,ho,zY,hd⟩:=hS.ex
 have hf:=hS.fits
 have hps:t.place.size=es.size:=by
  unfold SetTable.fits at hf
  simp only[dS,dv]at hf
  exact hf.1
 unfold setNext
 refine ag (gz ho hd hS.fits ?_)
 dsimp only
 refine ag (rM ?_)
 rw[hb,aW fq]
 show wpAny _ _ (if (!t.plain&&decide (es.size>1))=true then _ else _) _ _ _
 rw[aW (by simp;omega)]
 show wpAny _ _ ((if (!t.led&&!es.isEmpty)=true then _ else pure ()) >>= _) _ _ _
 rw[aW (by simp[R0])]
 refine ag (ay (ay ?_))
 by_cases hz:es.size=0
 ·have e1:es=#[]:=gX hz
  subst e1
  simpa using q
 ·have hs1:es.size=1:=by omega
  obtain⟨x,rfl⟩:∃x,es=#[x]:=by
   obtain⟨l⟩:=es
   obtain⟨x,e⟩:=ie.mp hs1
   exact⟨x,iy Array.mk e⟩
  obtain⟨p,hp⟩:∃p,t.place=#[p]:=by
   generalize t.place=pl at hps
   obtain⟨l⟩:=pl
   obtain⟨x,e⟩:=ie.mp hps
   exact⟨x,iy Array.mk e⟩
  rw[hp]at q ⊢
  rcases(show i=0\/i=1 by simp at hi;omega)with rfl|rfl
  ·simp[zu]at q ⊢;exact q
  ·simp[zu]at q ⊢;exact q
end
theorem Au[Inhabited β](f:Nat->β)(xs:List α)(g:α->β)(n:Nat)(hn:xs.length=n)(hf:∀i x,xs[i]?=some x->f i=g x):(List.range n).map f=xs.map g:=by
 apply kG
 intro i
 rw[aI,aI]
 by_cases h:i<n
 ·rw[jv h,ao #[0]]
  exact iy some (hf i _ (ao #[0]))
 ·rw[cm (by simp;omega),cm #[0]];rfl
section
variable{w:World}
theorem Ie{S:Addr}{es:Array (Int×Value)}{t:SetTable}(hS:kM w s.heap S es ep t)(Ll:Fx w es.size t)(zZ:es.size<=sizeLine)
  (q:∀(g:Heap) (d:Drawn) (it:Addr) (fp:List Addr) (P:Nat->Value->Prop) (St:Nat->Heap->Prop),(∀A:Around,A.handled=none->Walks prog w A it fp [it] es.size P St)->St 0 g->s.heap.objs.size<=it->(∀b∈fp,b=S\/s.heap.objs.size<=b)->(∀b∈fp,b<g.objs.size)->(∀b o,s.heap.get? b=some o->g.get? b=some o) ->
   (∀jF,ItemsOf P jF es.size->jF.toList.Perm (es.toList.map (·.2)))->Q (.ref it) { s with heap:=g,drawn:=d }):wpAny #[7] A (pyIter (.ref S)) Q E s:=by
 obtain⟨o,ho,zY,hd⟩:=hS.ex
 have T:Shared.TypeIs s (.ref S) "set":=⟨o,ho,zY.1⟩
 have hSlt:=aH ho
 refine wpAny_pyIter_slot T PySem.F.slot_set_iter (cv PySem.F.slot_set_iter T BU ?_ (PySem.F.args_set_iter_1 _))
 show wpAny _ _ (Builtin.Frozenset.sizeOf S >>= _) _ _ s
 unfold Builtin.Frozenset.sizeOf
 refine ag (ag (gN ho hd hS.fits (ay ?_)))
 unfold setDrawn
 refine ag (ag (gz ho hd hS.fits ?_))
 dsimp only
 refine ag (rM (ay ?_))
 by_cases hdr:(!wg w&&(!t.plain&&decide (es.size>1)))=true
 ·show wpAny _ _ (if (!wg w&&(!t.plain&&decide (es.size>1)))=true then _ else _) _ _ _
  rw[aJ hdr]
  refine ag (BY es.size (List.range es.size) _ _ #[15] fun pl hp d=>?_)
  have hl:pl.length=es.size:=by have:=hp.length_eq;simpa using this
  refine ag (wpAny_newTuple ?_ (by rw[aF,hl];exact zZ))
  have hS1:kM w (s.heap.push { cls:=.type "tuple",data:=.seq (pl.map fun i:Nat=>rawInt i).toArray }) S es ep t:=hS.keep fun o e=>aw _ e
  obtain⟨o1,ho1,_,hd1⟩:=hS1.ex
  refine ag (wpAny_setEpoch_of (s:={ s with heap:=s.heap.push { cls:=.type "tuple",data:=.seq (pl.map fun i:Nat=>rawInt i).toArray },drawn:=d }) ho1 hd1 hS.fits ?_)
  refine ag (cH (ay ⟨_,rfl,"set_iterator",_,⟨_,aD _ rfl,rfl⟩,fx.lookup,?_⟩))
  have z:(s.heap.push { cls:=.type "tuple",data:=.seq (pl.map fun i:Nat=>rawInt i).toArray }).objs.size=s.heap.objs.size+1:=bG ..
  refine q _ d _ [_,s.heap.objs.size,S] _ _ (fun A hA=>D5 (p:=s.heap.objs.size) (t:=t) (ep:=ep) hA hp rfl ?_ ?_) ⟨cE _,aD _ rfl,⟨_,aw _ (aD _ rfl),rfl,0,rfl⟩,hS1.keep fun o e=>aw _ e⟩ ?_ (fun b hb=>?_) (fun b hb=>?_) (fun b o e=>aw _ (aw _ e)) fun jF hacc=>?_
  ·rw[z];exact eR (de hSlt)
  ·rw[z];exact Nat.succ_ne_self _
  ·rw[z];exact bx _
  ·simp only[aT,eh,lT]at hb
   rcases hb with rfl|rfl|rfl
   ·rw[z];exact .inr (bx _)
   ·exact .inr (aC _)
   ·exact .inl rfl
  ·simp only[aT,eh,lT]at hb
   have z2:∀o2,((s.heap.push { cls:=.type "tuple",data:=.seq (pl.map fun i:Nat=>rawInt i).toArray }).push o2).objs.size=s.heap.objs.size+2:=fun o2=>by rw[bG,z]
   rw[z2]
   rcases hb with rfl|rfl|rfl
   ·rw[z];exact cu _
   ·exact de (cu _)
   ·exact de (de hSlt)
  ·have e:jF.toList=pl.map fun k=>(es.getD k (0,.none)).2:=by
    apply kG
    intro i
    rw[aI]
    by_cases hi:i<es.size
    ·have hia:i<jF.size:=by rw[hacc.1];exact hi
     have ha:jF[i]?=some (jF[i]'hia):=e_ hia
     obtain⟨k,x,h1,h2,h3⟩:=hacc.2 i _ ha
     rw[gb,ha,h1]
     have:es.getD k (0,.none)=x:=by rw[mI,h2];rfl
     rw[h3]
     show some x.2=some (es.getD k (0,.none)).2
     rw[this]
    ·rw[cm (by rw[eW,hacc.1];omega),cm #[0]];rfl
   rw[e]
   refine(hp.map _).trans (List.Perm.of_eq ?_)
   exact Au _ es.toList (·.2) es.size #[15] fun i x hx=>by
    have hx':es[i]?=some x:=by rw[<- gb];exact hx
    rw[mI,hx'];rfl
 ·show wpAny _ _ (if (!wg w&&(!t.plain&&decide (es.size>1)))=true then _ else _) _ _ _
  rw[aW hdr]
  refine ag (ay (ag (wpAny_setEpoch_of ho hd hS.fits ?_)))
  refine ag (cH (ay ⟨_,rfl,"set_iterator",_,⟨_,aD _ rfl,rfl⟩,fx.lookup,?_⟩))
  have lg:∀(vs:List Value) (sl:Nat->Nat),sl 0=0->vs.Perm (es.toList.map (·.2))->(∀(s:Shared) (i:Nat),kM w s.heap S es ep t->i<=es.size->∀(A:Around) (Q':Option (Value×Nat)->Shared->Prop) (E':Value->Shared->Prop),Q' ((vs[i]?).map fun v=>(v,sl (i+1))) s->wpAny #[7] A (setNext S (sl i) i ep) Q' E' s) ->
    Q #[28] { s with heap:=s.heap.push (r_ (rawInt 0) 0 S es.size ep) }:=fun vs sl h0 hp hx=>by
   have hl:vs.length=es.size:=by have:=hp.length_eq;simpa using this
   refine q _ s.drawn s.heap.objs.size [s.heap.objs.size,S] _ _ (fun A hA=>GG (t:=t) (ep:=ep) (vs:=vs) (sl:=sl) hA hl rfl (eR hSlt) hx) ⟨cE _,?_,hS.keep fun o e=>aw _ e⟩ (aC _) (fun b hb=>?_) (fun b hb=>?_) (fun b o e=>aw _ e) fun jF hacc=>?_
   ·rw[h0];exact aD _ rfl
   ·simp only[aT,eh,lT]at hb
    rcases hb with rfl|rfl
    ·exact .inr (aC _)
    ·exact .inl rfl
   ·simp only[aT,eh,lT]at hb
    rw[bG]
    rcases hb with rfl|rfl
    ·exact cu _
    ·exact de hSlt
   ·have e:jF.toList=vs:=by
     apply kG
     intro i
     by_cases hi:i<es.size
     ·have hia:i<jF.size:=by rw[hacc.1];exact hi
      have ha:jF[i]?=some (jF[i]'hia):=e_ hia
      rw[gb,ha,hacc.2 i _ ha]
     ·rw[cm (by rw[eW,hacc.1];omega),cm #[0]]
    rw[e];exact hp
  cases hb:wg w with
  |true=>exact lg ((pickOrder (w.params.setOrder S ep) es).toList.map (·.2)) (fun _=>0) rfl ((GE _ _).map _) fun s i hS' hi A Q' E' y=>GH hb hS' y
  |false=>
   have h1:es.size<=1:=by
    rcases Ll.2 with z|z
    ·omega
    ·rw[hb,z]at hdr;simp at hdr;omega
   have R0:t.led=true:=Ll.1.resolve_left (by rw[hb];exact fq)
   exact lg (es.toList.map (·.2)) (fun i=>if i=0 then 0 else t.place.getD 0 0+1) rfl (jc _) fun s i hS' hi A Q' E' y=>Ic hb hS' R0 h1 hi y
end
section
variable{w:World}
theorem Ig{S:Addr}{Q:Bool->Shared->Prop}(T:s.TypeIs (.ref S) "set")(q:Q false s):wpAny #[7] A (Builtin.List.listLengthHint (.ref S)) Q E s:=by
 unfold Builtin.List.listLengthHint
 refine ag (wpAny_specialOf T PySem.F.slot_set_len.lookup ?_)
 generalize hid:("set.__len__":String)=id0
 wp_delta
 rw[show splitId id0=some ("set","__len__")from by subst hid;decide +kernel]
 subst hid
 refine ag (gY (T:="set") (b:=true) T (by rw[eU];kernel_rfl) ?_)
 refine qi (fun y=>absurd y #[3]) (fun _=>qi (fun _=>?_) (fun y=>absurd #[65] y))
 exact ag (jn T (ay q))
theorem B2{S:Addr}{es:Array (Int×Value)}{t:SetTable}{Q:List Value->Shared->Prop}(hS:kM w s.heap S es ep t)(Ll:Fx w es.size t)(zZ:es.size<=sizeLine)(hh:A.handled=none)
  (q:∀(g:Heap) (d:Drawn) (tk:Nat) (vs:List Value),(∀b o,s.heap.get? b=some o->g.get? b=some o)->vs.Perm (es.toList.map (·.2))->Q vs { s with heap:=g,drawn:=d,toks:=tk }):wpAny #[7] A (collect (.ref S)) Q E s:=by
 obtain⟨o,ho,zY,hd⟩:=hS.ex
 have hSlt:=aH ho
 unfold collect
 refine ag (rG (dL entry_proto_collect' ?_))
 rw[dr PySem.F.plain_proto_collect _]
 show wpAny _ A.in1 (newList [] >>= fun l=>again (.builtin "list.__iadd__" ⟨[l,.ref S],[]⟩)) _ _ s
 refine ag (cH (ay ⟨fO PySem.F.plain_list_iadd _,dL entry_list_iadd' ?_⟩))
 rw[dr PySem.F.plain_list_iadd _]
 generalize hL:s.heap.objs.size=L
 have gL:(s.heap.push { cls:=.type "list",data:=.seq ([]:List Value).toArray }).get? L=some { cls:=.type "list",data:=.seq #[] }:=by rw[<- hL];exact aD _ rfl
 have hS1:kM w (s.heap.push { cls:=.type "list",data:=.seq ([]:List Value).toArray }) S es ep t:=hS.keep fun o e=>aw _ e
 have z1:(s.heap.push { cls:=.type "list",data:=.seq ([]:List Value).toArray }).objs.size=L+1:=by rw[bG,hL]
 have kp1:∀b o,s.heap.get? b=some o->(s.heap.push { cls:=.type "list",data:=.seq ([]:List Value).toArray }).get? b=some o:=fun b o e=>aw _ e
 have bL:∀b o,s.heap.get? b=some o->b≠L:=fun b o e=>by rw[<- hL];exact a9 (aH e)
 generalize s.heap.push { cls:=.type "list",data:=.seq ([]:List Value).toArray }=h1 at gL hS1 z1 kp1 ⊢
 have F8:L≠S:=by rw[<- hL];exact eR hSlt
 obtain⟨o1,ho1,hex1,hd1⟩:=hS1.ex
 have T:Shared.TypeIs { s with heap:=h1 } (.ref S) "set":=⟨o1,ho1,hex1.1⟩
 show wpAny _ A.in1 (Builtin.List.listExtendWith (.ref L) (.ref S) (.ref L)) _ _ _
 unfold Builtin.List.listExtendWith
 refine ag (jn (T:="set") T ?_)
 have e1:Builtin.List.listSameRef (.ref L) (.ref S)=false:=by simp[Builtin.List.listSameRef,F8]
 have e2:(Value.type "set" == Value.type "list")=false:=by decide
 have e3:(Value.type "set" == Value.type "tuple")=false:=by decide
 simp only[e1,e2,e3,oh,fv,gu]
 refine ag (Ie (s:={ s with heap:=h1 }) hS1 Ll zZ fun g d it fp P St W st rC Vo hfl kp2 hperm=>?_)
 have gL2:=kp2 _ _ gL
 have hLf:L∉fp:=fun hm=>by
  rcases Vo L hm with y|y
  ·exact F8 y
  ·rw[show Shared.heap { s with heap:=h1 }=h1 from rfl,z1]at y;exact absurd y (Nat.not_le.mpr (cu _))
 obtain⟨o2,ho2,hex2,hd2⟩:=(hS1.keep fun o e=>kp2 S o e).ex
 refine ag (dI (Ig (s:={ s with heap:=g,drawn:=d }) ⟨o2,ho2,hex2.1⟩ ?_))
 have itL:it≠L:=fun y=>by
  have:=rC
  rw[show Shared.heap { s with heap:=h1 }=h1 from rfl,z1,y]at this
  exact absurd this (Nat.not_le.mpr (cu _))
 have old:∀b o,s.heap.get? b=some o->b≠it:=fun b o e y=>by
  have h2:=aH (kp1 b o e)
  have h3:=rC
  rw[show Shared.heap { s with heap:=h1 }=h1 from rfl]at h3
  rw[y]at h2
  exact absurd h2 (jX.mpr h3)
 have key:∀(g':Heap) (c tk:Nat),St 0 g'->(∀b o,b≠L->g.get? b=some o->g'.get? b=some o)->g'.get? L=some { cls:=.type "list",data:=.seq #[] c } ->
   codeAny #[7] A (.builtin "list.extend.loop" ⟨[.ref L,.ref it,.ref L],[]⟩) (wants (fun r s'=>wpAny #[7] A (match r with|.ref a=>(do match (<- load a).data with|.seq xs _=>pure xs.toList|_=>unsupported "internal:collect")|_=>unsupported "internal:collect") Q E s') E) { s with heap:=g',drawn:=d,toks:=tk }:=by
  intro g' c tk bt kp3 gL3
  refine codeAny_extend_loopS (W A.in1 (by simpa using hh)).toS zZ L hLf (.ref L) es.size 0 _ #[] c rfl (cE _) bt gL3 (ItemsOf.nil _) fun s' jF c' hm gL4 hacc=>?_
  have ee:s'={ s with heap:=s'.heap,drawn:=d,toks:=s'.toks }:=by
   have h1:=hm.gens
   have h2:=hm.drawn
   have h3:=hm.os
   cases s'
   simp only at h1 h2 h3
   subst h1;subst h2;subst h3;rfl
  refine ag (wpAny_load gL4 (ay ?_))
  rw[ee]
  refine q s'.heap d s'.toks jF.toList (fun b o e=>hm.heap b o (fun y=>?_) (kp3 b o (bL b o e) (kp2 b o (kp1 b o e)))) (hperm jF hacc)
  rcases aT.mp y with y|y
  ·exact bL b o e y
  ·exact old b o e (aZ.mp y)
 refine qi (fun _=>?_) (fun _=>ay ⟨fO PySem.F.plain_extend_loop _,key g 0 _ st (fun _ _ _ e=>e) gL2⟩)
 refine ag (lq (ag ?_))
 show wpAny _ _ (updateSeq L (·.push .none) >>= fun _=>updateSeq L (·.pop)) _ _ _
 refine ag (qj gL2 rfl ?_)
 have g5:=d7 (Obj.mapSeq (·.push Value.none)) gL2 rfl
 refine qj (hz:=by seq_fits) g5 rfl ?_
 have g6:=d7 (Obj.mapSeq (·.pop)) g5 rfl
 refine ay ⟨fO PySem.F.plain_extend_loop _,key _ _ _ ((W A hh).frame 0 _ _ st fun b hb o e=>?_) (fun b o hb e=>?_) g6⟩
 ·have hbL:b≠L:=fun y=>hLf (y▸hb)
  exact(cX _ _ (Ne.symm hbL)).trans ((cX _ _ (Ne.symm hbL)).trans e)
 ·exact(cX _ _ (Ne.symm hb)).trans ((cX _ _ (Ne.symm hb)).trans e)
end
end L2
namespace L2
open PySem PySem.Spec PyProof.Rows
section
variable{w:World}
theorem D6{S:Addr}(z:xh prog w n s.heap S ks)(Oy:ks.length<64)(hh:A.handled=none)
  (q:∀(g0 g1:Heap) (d:Drawn) (tk:Nat) (out:Array Value) (ss:List Str) (e:Nat),(∀b o,s.heap.get? b=some o->g0.get? b=some o)->(∀b o,g0.get? b=some o->g1.get? b=some o)->g1.get? g0.objs.size=some (seqObj "list" out e) ->
   jx n out.toList->StrsAre out.toList ss->ss.Perm ks->sortedS ss=true->Q (.ref g0.objs.size) { s with heap:=g1,drawn:=d,toks:=tk }):wpAny #[7] A (call (.builtin "sorted") [.ref S]) Q E s:=by
 obtain⟨o,es,ep,t,ho,zY,hd,hel,hp,hb,hf,Ll,hta⟩:=z
 have hS:kM w s.heap S es ep t:=⟨⟨o,ho,zY,hd⟩,hf⟩
 have gI:es.size=ks.length:=by have:=hp.length_eq;simpa using this
 apply ny kind_sorted plain_sorted entry_sorted (args_sorted1 _)
 show wpAny _ _ (checkCount "sorted" 1 1 _ >>= _) _ _ _
 refine ag (ay (ag (B2 hS Ll (by rw[lM];omega) (by simpa using hh) fun g d tk vs kp pv=>?_)))
 have hv:∀v∈vs,∃x t,v=Value.str x t:=fun v hv=>by
  obtain⟨e,he,rfl⟩:=dy.mp (pv.mem_iff.mp hv)
  obtain⟨t,ht⟩:=BW hel e he
  exact⟨_,t,ht⟩
 have pM:=strsAre_map vs hv
 have hks:(vs.map strOf).Perm ks:=by
  refine(pv.map strOf).trans ?_
  rw[cw];exact hp
 have hvl:vs.length<64:=by have:=hks.length_eq;rw[aF]at this;omega
 refine ag (wpAny_newList ?_ (by rw[lM];omega))
 have oL:(g.push (seqObj "list" vs.toArray 0)).get? g.objs.size=some (seqObj "list" vs.toArray 0):=aD _ rfl
 refine ag (dI (cv slot_list_sort ⟨_,oL,rfl⟩ entry_list_sort (list_sort_treeK sK oL pM.keysOf (fun a b r e=>uI (by rw[<- e];exact pM)) hvl fun st a1 a2=>⟨_,rfl,?_⟩) (args_list_sort _)))
 obtain⟨ss,h1,h2,h3⟩:=rF pM a1 a2
 obtain⟨e,he⟩:=sortedHeap_at (out:=(arrOf st).map (·.2)) oL
 refine ay ⟨_,rfl,q g _ d tk _ ss e kp (fun b o hb=>?_) he (fun x t hx=>hta x t (pv.mem_iff.mp (xg a1 _ hx))) h1 (h2.trans hks) h3⟩
 rw[sortedHeap_old (a9 (aH hb)) (by rw[bG];exact de (aH hb))]
 exact aw _ hb
abbrev Tg(ty:String)(x:Str)(t:Tok):Obj:={ cls:=.type ty,data:=.fields #[.str x t,.int 0 0] }
theorem Ih{t:Tok}(Dt:0<s.toks)(hh:A.handled=none)(hb:l.length+1<scanBound)
  (q:∀g tk,s.toks<=tk->Nc prog w tk (fun j=>tx [l.getD j 0]) g s.heap.objs.size l.length->(∀b o,s.heap.get? b=some o->g.get? b=some o)->Q #[28] { s with heap:=g,toks:=tk }):wpAny #[7] A (call (.type "set") [.str (tx l) t]) Q E s:=by
 have z:(s.heap.push (eF w)).objs.size=s.heap.objs.size+1:=bG ..
 have hn:(tx l).cps.size=l.length:=by simp[tx]
 have DA:∀i v,SignAt (tx l) i v->∃t,v=Value.str (tx [l.getD i 0]) t:=by
  rintro i v ⟨c,u,hc,rfl⟩
  have:l[i]?=some c:=by simpa[tx]using hc
  exact⟨u,by rw[aG,this];rfl⟩
 have hT:Shared.TypeIs { s with heap:=s.heap.push (eF w) } (.str (tx l) t) "str":=nh _ _ _
 rw[<- hn]at hb q
 cases ha:(tx l).cps.all (· < 128)
 ·refine nV (T:="str") (fp:=fun it=>[it]) (P:=SignAt (tx l)) (St:=fun it i h=>h.IsStrIter it "str_iterator" (tx l) t i) hT (by rw[eU];kernel_rfl) (by rw[eU];kernel_rfl) #[3]
   (fun A E Q y=>nO ha (by show Q (.ref (s.heap.push (eF w)).objs.size) _;rw[z];exact y)) (fun A it hA _=>Walks.strWide hA it (tx l) t) #[15] ⟨Tg "str_iterator" (tx l) t,?_,rfl,rfl⟩ DA hh hb (fun A hA i s' Q E hn hi st q=>by
    obtain⟨c,hx⟩:∃c,(tx l).cps[i]?=some c:=⟨_,e_ hi⟩
    refine kD st hx fun h' bt hs=>q _ h' (s'.toks+1) (bx _) (fun x u hx' _=>?_) ⟨c,_,hx,rfl⟩ bt fun b o hb e=>hs.extBut b o (fun z=>hb (by simp[z])) e
    rw[aZ]at hx'
    cases hx'
    exact⟨aL Dt hn,cu _⟩) q
  rw[<- z];exact aD _ rfl
 ·refine nV (T:="str") (fp:=fun it=>[it]) (P:=SignAt (tx l)) (St:=fun it i h=>h.IsStrIter it "str_ascii_iterator" (tx l) t i) hT (by rw[eU];kernel_rfl) (by rw[eU];kernel_rfl) #[3]
   (fun A E Q y=>ni ha (by show Q (.ref (s.heap.push (eF w)).objs.size) _;rw[z];exact y)) (fun A it hA _=>Walks.strAscii hA it (tx l) t) #[15] ⟨Tg "str_ascii_iterator" (tx l) t,?_,rfl,rfl⟩ DA hh hb (fun A hA i s' Q E hn hi st q=>by
    obtain⟨c,hx⟩:∃c,(tx l).cps[i]?=some c:=⟨_,e_ hi⟩
    refine j9 st hx fun h' bt hs=>q _ h' (s'.toks+1) (bx _) (fun x u hx' _=>?_) ⟨c,_,hx,rfl⟩ bt fun b o hb e=>hs.extBut b o (fun z=>hb (by simp[z])) e
    rw[aZ]at hx'
    cases hx'
    exact⟨aL Dt hn,cu _⟩) q
  rw[<- z];exact aD _ rfl
theorem L8{a:Addr}(hh:A.handled=none)(hb:l.length+1<scanBound)(ht:s.heap.IsTuple a b9.toArray)(hv:cQ s.toks (kh l) b9)
  (q:∀g tk,s.toks<=tk->Nc prog w tk (fun j=>tx [l.getD j 0]) g s.heap.objs.size l.length->(∀b o,s.heap.get? b=some o->g.get? b=some o)->Q #[28] { s with heap:=g,toks:=tk }):wpAny #[7] A (call (.type "set") [.ref a]) Q E s:=by
 have z:(s.heap.push (eF w)).objs.size=s.heap.objs.size+1:=bG ..
 have hn:b9.toArray.size=l.length:=by have:=hv.length;unfold kh at this;simpa using this.symm
 have ha:a<s.heap.objs.size:=by obtain⟨o,ho,_⟩:=ht;exact aH ho
 have R8:(s.heap.push (eF w)).IsTuple a b9.toArray:=ht.at fun o e=>aw _ e
 have DA:∀i v,b9.toArray[i]?=some v->∃t,v=Value.str (tx [l.getD i 0]) t:=by
  intro i v hi
  have hi':b9[i]?=some v:=by simpa using hi
  have hlt:i<l.length:=by
   have:=(ax.mp hi').1
   rw[<- hn];simpa using this
  have hx:(kh l)[i]?=some (.str (tx [l.getD i 0])):=by
   unfold kh
   rw[aI,ao hlt,aG,ao hlt];rfl
  obtain⟨u,hu,t,e⟩:=hv.get hx
  rw[hi']at hu
  exact⟨t.1,(bC hu).trans e⟩
 rw[<- hn]at hb q
 refine nV (T:="tuple") (fp:=fun it=>[it,a]) (P:=fun i v=>b9.toArray[i]?=some v) (St:=fun it i h=>h.IsTupleIter it a i/\h.IsTuple a b9.toArray) R8.typeIs (by rw[eU];kernel_rfl) (by rw[eU];kernel_rfl) #[3]
  (fun A E Q y=>fY R8 (by show Q (.ref (s.heap.push (eF w)).objs.size) _;rw[z];exact y)) (fun A it hA e=>Walks.tuple hA it a (by rw[e];exact a9 (de ha)) b9.toArray) (by simp;exact fun e=>absurd ha (by rw[<- e];exact d8 _)) ⟨⟨{ cls:=.type "tuple_iterator",data:=.fields #[.ref a,.int 0 0] },?_,rfl,rfl⟩,?_⟩ DA hh hb (fun A hA i s' Q E hn hi st q=>by
   refine up ((Walks.tuple hA #[8] a (a9 (de ha)) b9.toArray).item i s' _ _ hi st fun v h' tk hp bt kp mL=>q v h' tk mL (fun x u hx=>?_) hp bt kp)
   rw[aZ]at hx
   subst hx
   exact((tK hv).up (aO hn mL)) x u (by have hp:b9.toArray[i]?=some _:=hp;exact cr (by simpa using hp))) q
 ·rw[<- z];exact aD _ rfl
 ·exact R8.at fun o e=>aw _ e
end
theorem L9{ss:List Str}(hp:ss.Perm ks)(WQ:ks.Nodup)(hm:∀x,x∈ks↔∃j,j<l.length/\tx [l.getD j 0]=x)(hs:sortedS ss=true) :
  ∃m:List Nat,ss=m.map (fun c=>tx [c])/\m.Nodup/\m.Pairwise (· <= ·)/\∀c,c∈m↔c∈l:=by
 have all:∀z∈ss,tx [z.cps.toList.headD 0]=z:=fun z hz=>by
  obtain⟨j,_,e⟩:=(hm z).mp (hp.mem_iff.mp hz)
  subst e;rfl
 have em:ss=(ss.map fun z=>z.cps.toList.headD 0).map fun c=>tx [c]:=by
  rw[cw]
  conv=>lhs;rw[<- j_ ss]
  exact fF fun z hz=>(all z hz).symm
 refine⟨ss.map fun z=>z.cps.toList.headD 0,em,?_,?_,fun c=>?_⟩
 ·have nd:ss.Nodup:=hp.nodup_iff.mpr WQ
  rw[em]at nd
  exact List.Pairwise.of_map (fun c=>tx [c]) (fun a b h e=>h (by rw[e])) nd
 ·refine BS _ ?_
  rw[cw]
  rw[em]at hs
  exact hs
 ·constructor
  ·intro hc
   obtain⟨z,hz,rfl⟩:=dy.mp hc
   obtain⟨j,hj,e⟩:=(hm z).mp (hp.mem_iff.mp hz)
   subst e
   show l.getD j 0∈l
   rw[aG,ao hj]
   exact ef hj
  ·intro hc
   obtain⟨j,hj,e⟩:=List.getElem_of_mem hc
   refine dy.mpr ⟨tx [c],hp.mem_iff.mpr ((hm _).mpr ⟨j,hj,?_⟩),rfl⟩
   rw[aG,ao hj,e];rfl
def L_(K:Frag)(H:Hp)(v:V)(l:List Nat):Prop:=v=.str (tx l)\/∃a,v=.ref a/\gG K H a (kh l)
def Ii(K:Frag)(te:TE):TE:=fun σ H Q=>te σ H fun v H1=>∃l,L_ K H1 v l/\l.length<4000/\(∀m:List Nat,m.Nodup->(∀c∈m,c∈l)->m.length<64) /\
 ∀m:List Nat,m.Nodup->m.Pairwise (· <= ·)->(∀c,c∈m↔c∈l)->∀a H2,H1 a=none->H2=gc H1 a (.lst (m.map fun c=>V.str (tx [c])))->Q (.ref a) H2
theorem bT.kept2{d':Drawn}(I:bT X am σ H s)(k:∀b o,s.heap.get? b=some o->h'.get? b=some o)(hk:s.toks<=t':=by first|exact aC _|exact bx _|assumption|omega):bT X am σ H { s with heap:=h',drawn:=d',toks:=t' }:=
 I.step (g':=s.gens) (ch:=[]) (fun _ z=>nomatch z) (fun b o _ _ _ e _=>k b o e) (fun b o _ _ _ e _=>⟨o.slots,k b o e⟩) (fun _ _ _ _ n=>n) (fun b o _ e=>⟨o,k b o e⟩) (fun _ _ e=>e) (fun _ _ _ e=>e) (fun b ps e=>⟨#[],by rw[e];simp⟩)
  (fun m hm=>let ⟨o,es,ep,ho,r⟩:=hm;⟨o,es,ep,k _ o ho,r⟩) ((I.hok.kept k).up hk) I.bare hk
theorem GI{p1 p2 RZ M4:Pos}(h1:X.mg "sorted"=none)(h3:X.mg "set"=none)(he:QE X e te)(hc:X.calm=true:=by rfl)
  (WD:Gl X "sorted":=by rfl) (WO:Gl X "set":=by rfl) (VM:starEach [e] X.env=(false,eval e X.env)::starEach [] X.env:=by rfl):QE X (.Call (.Name "sorted" p1) [.Call (.Name "set" p2) [e] [] M4] [] RZ) (Ii X.K te):=⟨by
 walk_at "9"
 refine f9 (qx I WD h1 PyProof.Rows.boot_sorted (li ?_) #[3] #[3])
 show wpAny _ _ (spliced ((false,eval (.Call (.Name "set" p2) [e] [] M4) X.env)::[])) _ _ s
 refine fZ (f9 (qx I WO h3 PyProof.Rows.boot_set (eu ?_ VM rfl) #[3] #[3]))
 rw[VM]
 show wpAny _ _ (spliced ((false,eval e X.env)::[])) _ _ s
 refine fZ (kJ (he.h am s σ H _ I h) fun u s1 kt1 ⟨v,H1,I1,r1,l,hl,hb,Oy,q⟩=>iS ?_)
 have hh:X.A.handled=none:=I1.ok.hd hc
 have hb':l.length+1<scanBound:=by unfold scanBound;omega
 have lg:∀g tk,s1.toks<=tk->Nc X.prog X.w tk (fun j=>tx [l.getD j 0]) g s1.heap.objs.size l.length->(∀b o,s1.heap.get? b=some o->g.get? b=some o) ->
   wpAny #[5] X.A (spliced []) (fun vs s₂=>wpAny #[5] X.A (call (.builtin "sorted") (.ref s1.heap.objs.size::vs)) (EP X am σ Q) X.xe s₂) X.xe { s1 with heap:=g,toks:=tk }:=fun g tk mL hM kp=>by
  refine iS ?_
  obtain⟨ks,z,nd,mem,len⟩:=hM
  have tm:ks.length<64:=by
   obtain⟨m,em,mn,_,mm⟩:∃m:List Nat,ks=m.map (fun c=>tx [c])/\m.Nodup/\True/\∀c∈m,c∈l:=by
    have all:∀z∈ks,tx [z.cps.toList.headD 0]=z:=fun z hz=>by
     obtain⟨j,_,e⟩:=(mem z).mp hz
     subst e;rfl
    have em:ks=(ks.map fun z=>z.cps.toList.headD 0).map fun c=>tx [c]:=by
     rw[cw]
     conv=>lhs;rw[<- j_ ks]
     exact fF fun z hz=>(all z hz).symm
    refine⟨_,em,?_,trivial,fun c hc=>?_⟩
    ·have nd':=nd
     rw[em]at nd'
     exact List.Pairwise.of_map (fun c=>tx [c]) (fun a b h e=>h (by rw[e])) nd'
    ·obtain⟨z,hz,rfl⟩:=dy.mp hc
     obtain⟨j,hj,e⟩:=(mem z).mp hz
     subst e
     show l.getD j 0∈l
     rw[aG,ao hj]
     exact ef hj
   rw[em,aF]
   exact Oy m mn mm
  refine up (D6 z tm hh fun g0 g1 d RO out ss ep k0 k1 gL hta pM hperm hsrt hle2=>?_)
  have hle2:tk<=RO:=hle2
  have hle3:s1.toks<=RO:=aO mL hle2
  obtain⟨m,em,mn,mp,mm⟩:=L9 hperm nd mem hsrt
  have I2:bT X am σ H1 { s1 with heap:=g0,drawn:=d,toks:=RO }:=I1.kept2 fun b o e=>k0 b o (kp b o e)
  have y6:H1 g0.objs.size=none:=I2.hok.fresh (aC _)
  have hvals:cQ RO (m.map fun c=>V.str (tx [c])) out.toList:=by
   have e:=oZ pM (hta.up hle2)
   rw[em,cw]at e
   exact e
  refine⟨.ref g0.objs.size,_,I2.laid (o:=.lst (m.map fun c=>V.str (tx [c]))) (t':=RO) k1 (aC _) ?_,rfl,q m mn mp mm _ _ y6 rfl⟩
  refine⟨?_,out.toList,ep,hvals,gL⟩
  rw[aF]
  exact aO (gs (Oy m mn fun c hc=>(mm c).mp hc)) #[3]
 rcases hl with rfl|⟨a,rfl,hT⟩
 ·obtain⟨t,rfl⟩:=r1
  exact Ih I1.pos hh hb' lg
 ·cases r1
  obtain⟨b9,rv,ht,_⟩:=I1.tuple hT
  exact L8 hh hb' ht rv lg⟩
end L2
namespace L2
open PySem PySem.Spec PyProof.Rows
section
variable{w:World}
end
section
variable{wi:TI}{g:TG}{tc:TT}
theorem D7{x0:Str}{p0 p1:Pos}{gx:TG}(Ou:PG X (.Name x0 p0) gx)(Vp:swapsWith #[11] (some (.Name x0 p0)) p1.line X.env=pure true)(kQ:X.calm=true)(yy:closureFor scope X.env=pure cl)(Dl:∀x c,cl.lookup x=some c->X.env.cells.lookup x=some c)
  (kR:scope.kind=.function) (tu:∀x∈scope.names,x.2=.local->scope.names.lookup x.1=some .local) (iP:∀y∈scope.names,y.2≠.cell)
  (E2:∀x,#[14]->∃c,cl.lookup x=some c)
  (wE:∀(i j:Nat),cap[i]?=some (some j)->∃x,nm[i]?=some x/\X.N[j]?=some x/\wZ X scope cl x) (gI:cap.length=nm.length)
  (hi:PI X tg eP wi) (hg:∀C s0 H0 fp,PG #[10] tg g) (ht:∀C s0 H0 fp,HR #[10] oY tc)
  (he:∀C s0 H0 fp,PE #[10] tt te) (hs:∀x,foldedSetIterable eP X.env x=pure x:=by intro _;rfl) :
  PS X (.Assign [.Name x0 p0] #[11] p1) (HB (wY cap wi g tc te) gx):=by
 intro am s σ H D I h
 rw[exec_Assign_Name_used _ _ _ _ Vp]
 suffices main:wpAny #[5] X.A (comprehension #[11] scope X.env (firstIterPos [⟨tg,eP,oY,0⟩] pos) (newList []) (firstAsync [⟨tg,eP,oY,0⟩]) (firstIter [⟨tg,eP,oY,0⟩] X.env) (some (assign (.Name x0 p0) X.env))) (fun _ s'=>SP X am D .next s') X.xe s from
  ag (sI (ag (ag (jU main (fun _ s' h=>ay (ay h)) fun _ _ z=>z))))
 refine zo kQ yy Dl kR tu iP E2 wE gI hi hg ht he hs I h fun s4 C D m4 Hn I4 B q=>?_
 obtain⟨oC,es,ep,hoC,hdC,hrC⟩:=B.ns
 refine jU (Ou _ s4 σ _ (.ref D) (.ref D) _ (I4.pins_of (pins':=am++[(C,oC)]) fun p hp=>?_) rfl q) (fun _ s5 h5=>?_) fun _ _ z=>z
 ·rcases aV.mp hp with z|z
  ·exact I4.pin p (aS _ z)
  ·have e:p=(C,oC):=by simpa using z
   subst e
   exact⟨hoC,B.fr,B.nl,B.nf,fun v z=>by rw[hdC]at z;cases z⟩
 obtain⟨σ',H',I6,nx⟩:=h5
 have pC:=I6.pin (C,oC) (aS _ (aS _ (aZ.mpr rfl)))
 have I7:bT X am σ' H' s5:=I6.pins_of fun p hp=>I6.pin p (aS _ (bJ _ hp))
 have B7:BO X am H' s5 C m4:=⟨⟨oC,es,ep,pC.1,hdC,hrC⟩,pC.2.1,B.nl,B.nf,B.hi,B.nc,B.np⟩
 exact⟨m4,B7.ns,fun h' hs'=>⟨σ',H',B7.off I7 hs',nx⟩⟩
end
theorem D8{x0:Str}{p0 p1:Pos}{gx:TG}{pos:Pos}{wi:TI}{g:TG}{tc:TT}{m:Nat}(Ou:QG X (.Name x0 p0) gx)(kQ:X.calm=true)
  (tj:X.env.cells=cellsFrom m X.env.scope.names []) (kR:scope.kind=.function) (hB:GB X.env.scope.names scope.names nm cap X.N=true)
  (hi:QI X tg eP wi) (hg:∀cl C s0 H0 fp,QG #[10] tg g) (ht:∀cl C s0 H0 fp,Wk #[10] oY tc)
  (he:∀cl C s0 H0 fp,QE #[10] tt te) (hs:∀x,foldedSetIterable eP X.env x=pure x:=by intro _;rfl) (Vp:swapsWith #[11] (some (.Name x0 p0)) p1.line X.env=pure true:=by first|rfl|kernel_rfl) :
  QS X (.Assign [.Name x0 p0] #[11] p1) (HB (wY cap wi g tc te) gx):=by
 have F:=Tf (nm:=nm) (cap:=cap) (fun x z=>by rw[tj];exact oq z) hB
 exact⟨D7 Ou.h Vp kQ F.clos F.cl kR F.nms F.cell F.has F.cp F.len hi.h (fun C s0 H0 fp=>(hg _ C s0 H0 fp).h) (fun C s0 H0 fp=>(ht _ C s0 H0 fp).h) (fun C s0 H0 fp=>(he _ C s0 H0 fp).h) hs⟩
def Th:List V->Hp->VK->Prop:=fun xs H Q=>∃c:Nat,xs=[.str (tx [48+c])]/\c<=3/\Q (.int c) H
theorem PB:Nb X (.type "int") Th:=⟨by
 walk_at "11"
 obtain⟨i,rfl,hi,q⟩:=h
 obtain⟨u,rfl,t,rfl⟩:=qy r
 have e:PySem.intText? (tx [48+i])=some (i:Int):=by
  rcases(show i=0\/i=1\/i=2\/i=3 by omega)with rfl|rfl|rfl|rfl<;>decide +kernel
 exact PySem.W.KIN.call_text e (by show 1<=640;decide) ⟨.int i,H,I.tok _,⟨_,rfl⟩,q⟩⟩
open AutoSeq1 (wpAny_loadPart')
theorem Ij(l b:Addr)(i1 i2:Array Value)(n1 n2:Nat)(d1 d2:Option Addr)(s1 s2:Array (Option Value))(h0:i1.isEmpty=true) :
  Meets (Builtin.«tuple.__add__» ⟨[.ref l,.ref b],[]⟩) (fun _ R s=>s.heap.get? l=some { cls:=.type "tuple",dict:=d1,data:=.seq i1 n1,slots:=s1 }/\s.heap.get? b=some { cls:=.type "tuple",dict:=d2,data:=.seq i2 n2,slots:=s2 }/\R (.ok (.ret (.ref b))) s):=
 .of_wp fun prog w A R s h=>by
  obtain⟨hp,g,d,tk,os⟩:=s
  obtain⟨e1,e2,h⟩:=h
  have a2:=PyProof.Rows.sub_tuple_tuple
  wp_walk using dJ e1,dJ e2
  exact⟨_,rfl,h⟩
def Ti(K:Frag):R2:=fun x y H Q=>∃a b xs ys,x=.ref a/\y=.ref b/\gG K H a xs/\gG K H b ys/\xs.length+ys.length<=sizeLine/\∀p H2,wf H H2->gG K H2 p (xs++ys)->Q (.ref p) H2
theorem PD:WW X (binaryOp .Add) (Ti X.K):=⟨by
 walk_at "7"
 obtain⟨a,b,xs,ys,rfl,rfl,ha,hb,hz,q⟩:=h
 by_cases hx:xs=[]
 ·subst hx
  cases rx
  cases ry
  obtain⟨b9,r1,p1,_⟩:=I.tuple ha
  obtain⟨its2,r2,p2,_⟩:=I.tuple hb
  have e1:b9=[]:=r1.nil_iff.mpr rfl
  obtain⟨⟨c1,d1,g1,l1⟩,f1,hc1,n1,hd1⟩:=id p1
  obtain⟨⟨c2,d2,g2,l2⟩,f2,hc2,n2,hd2⟩:=id p2
  simp only at hc1 hd1 hc2 hd2
  subst hc1 hd1 hc2 hd2
  refine uF ⟨_,f1,rfl⟩ ⟨_,f2,rfl⟩ oS sJ PySem.F.slot_tuple_add PySem.F.entry_tuple_add (PySem.F.args_tuple_add_2 _ _) (Ij a b b9.toArray its2.toArray n1 n2 d1 d2 l1 l2 (by rw[e1];rfl)) ⟨f1,f2,?_⟩
  exact⟨.ref b,H,I,rfl,q b H (wf.refl H) hb⟩
 ·exact LQ am s σ H _ _ v u Q I rx ry ⟨a,b,xs,ys,rfl,rfl,ha,hb,hx,hz,fun e=>q a H (wf.refl H) (by rw[e,bd];exact ha),fun _ p hp=>q p _ (c7 hp _) (gG.of ig)⟩⟩
end L2
namespace L2
open PySem PySem.Spec PyProof.Rows
inductive W where
 |non|bl (b:Bool)|int (i:Int)|str (l:List Nat)|tup (ws:List W)|loc (n:Nat)
inductive DK where
 |i (z:Int)|s (l:List Nat)
deriving DecidableEq
def DK.key:DK->wS
 |.i z=>.inl z
 |.s l=>.inr (tx l)
inductive KX where
 |bo (b:Bool)|fl (ks:List Int)|pr (i:Int) (ks:List Int)
deriving DecidableEq
def KX.w:KX->W
 |.bo b=>.bl b
 |.fl ks=>.tup (ks.map W.int)
 |.pr i ks=>.tup [.int i,.tup (ks.map W.int)]
def Ik(ks:List Int):Int:=reduceHash (Builtin.Tuple.tupleHashOf (ks.map hashInt))
def KX.hash:KX->Int
 |.bo b=>hashInt (if b then 1 else 0)
 |.fl ks=>Ik ks
 |.pr i ks=>reduceHash (Builtin.Tuple.tupleHashOf [hashInt i,Ik ks])
inductive ar where
 |lst (ws:List W)
 |ro (ws:List W)
 |exc (c:Str)
 |dct (hX:List (DK×W))
 |tab (P:Addr) (pos:Pos) (q:Str)
 |rod (hX:List (DK×W))
 |dcx (hX:List (KX×W))
 |rox (hX:List (KX×W))
 |obj (c:Str) (fs:List (Str×W))
 |pin (k:Bool) (c:Addr) (o:Obj) (w:W)
 |gone
abbrev oy:Nat:=1000000
theorem qB(h:n<=oy):n<=sizeLine:=aO h #[3]
theorem PF(h:n<=oy):n<sizeLine:=jV h #[3]
inductive R(α:Type) where
 |ok (a:α) (st:List ar)
 |ex (c:Str) (st:List ar)
 |bad
def R.bind:R α->(α->List ar->R β)->R β
 |.ok a st,k=>k a st
 |.ex c st,_=>.ex c st
 |.bad,_=>.bad
@[simp] theorem R.bind_ok{α β:Type}(a:α)(st:List ar)(k:α->List ar->R β):(R.ok a st).bind k=k a st:=rfl
@[simp] theorem R.bind_ex{α β:Type}(c:Str)(st:List ar)(k:α->List ar->R β):(R.ex c st:R α).bind k=.ex c st:=rfl
@[simp] theorem R.bind_bad{α β:Type}(k:α->List ar->R β):(R.bad:R α).bind k=.bad:=rfl
abbrev cL:=List (Option W)
inductive RS where
 |nx (ρ:cL) (st:List ar)|rt (w:W) (st:List ar)|bk (ρ:cL) (st:List ar)|ct (ρ:cL) (st:List ar)
 |ex (c:Str) (ρ:cL) (st:List ar)|bad
abbrev FE:=cL->List ar->R W
abbrev FT:=cL->List ar->R Bool
abbrev FA:=cL->List ar->R (List W)
abbrev FS:=cL->List ar->RS
section
variable(K:Frag)
mutual
def b8(μ:List Addr)(H:Hp):W->V->Prop
 |.non,v=>v=.non
 |.bl b,v=>v=.bl b
 |.int i,v=>v=.int i
 |.str l,v=>v=.str (tx l)
 |.tup ws,v=>∃p vs,v=.ref p/\gG K H p vs/\RelWs μ H ws vs
 |.loc n,v=>∃a,μ[n]?=some a/\v=.ref a
def RelWs(μ:List Addr)(H:Hp):List W->List V->Prop
 |[],vs=>vs=[]
 |w::ws,vs=>∃x xs,vs=x::xs/\b8 μ H w x/\RelWs μ H ws xs
end
end
theorem pre_get(h:μ <+: μ'){a:Addr}(e:μ[n]?=some a):μ'[n]?=some a:=by
 obtain⟨t,rfl⟩:=h
 rw[aN (ax.mp e).1];exact e
section
mutual
theorem b8.mono(h:μ <+: μ')(e:fI K H H'):∀{w:W} {v:V},b8 K μ H w v->b8 K μ' H' w v
 |.non,_,r=>by unfold b8 at r ⊢;exact r
 |.bl _,_,r=>by unfold b8 at r ⊢;exact r
 |.int _,_,r=>by unfold b8 at r ⊢;exact r
 |.str _,_,r=>by unfold b8 at r ⊢;exact r
 |.tup _,_,r=>by unfold b8 at r ⊢;obtain⟨p,vs,a,b,c⟩:=r;exact⟨p,vs,a,e _ _ b,RelWs.mono h e c⟩
 |.loc _,_,r=>by unfold b8 at r ⊢;obtain⟨a,b,c⟩:=r;exact⟨a,pre_get h b,c⟩
theorem RelWs.mono(h:μ <+: μ')(e:fI K H H'):∀{ws:List W} {vs:List V},RelWs K μ H ws vs->RelWs K μ' H' ws vs
 |[],_,r=>by unfold RelWs at r ⊢;exact r
 |_::_,_,r=>by unfold RelWs at r ⊢;obtain⟨x,xs,a,b,c⟩:=r;exact⟨x,xs,a,b8.mono h e b,RelWs.mono h e c⟩
end
theorem RelWs.nilI:RelWs K μ H [] []:=by unfold RelWs;rfl
theorem RelWs.consI{w:W}{ws:List W}{x:V}(a:b8 K μ H w x)(b:RelWs K μ H ws xs):RelWs K μ H (w::ws) (x::xs):=by unfold RelWs;exact⟨x,xs,rfl,a,b⟩
theorem RelWs.nilE(h:RelWs K μ H [] vs):vs=[]:=by unfold RelWs at h;exact h
theorem RelWs.consE{w:W}{ws:List W}(h:RelWs K μ H (w::ws) vs):∃x xs,vs=x::xs/\b8 K μ H w x/\RelWs K μ H ws xs:=by unfold RelWs at h;exact h
theorem RelWs.pr:∀{ws:List W} {vs:List V},RelWs K μ H ws vs↔Paired (fun w v=>b8 K μ H w v) ws vs
 |[],vs=>⟨fun h=>by rw[h.nilE];exact .nil,fun h=>by cases h;exact .nilI⟩
 |w::ws,vs=>⟨fun h=>by obtain⟨x,xs,rfl,a,b⟩:=h.consE;exact .cons a (RelWs.pr.mp b),fun h=>by cases h with|cons a b=>exact .consI a (RelWs.pr.mpr b)⟩
theorem RelWs.len{ws:List W}(h:RelWs K μ H ws vs):ws.length=vs.length:=Paired.length (RelWs.pr.mp h)
theorem RelWs.app:∀{as:List W} {xs:List V} {bs:List W} {ys:List V},RelWs K μ H as xs->RelWs K μ H bs ys->RelWs K μ H (as++bs) (xs++ys)
 |[],xs,bs,ys,a,b=>by rw[a.nilE];exact b
 |w::as,xs,bs,ys,a,b=>by obtain⟨x,xs,rfl,c,d⟩:=a.consE;exact .consI c (RelWs.app d b)
theorem RelWs.get:∀{ws:List W} {vs:List V} {i:Nat} {w:W},RelWs K μ H ws vs->ws[i]?=some w->∃v,vs[i]?=some v/\b8 K μ H w v
 |[],_,_,_,_,e=>by simp at e
 |x::ws,vs,0,w,h,e=>by obtain⟨y,ys,rfl,a,b⟩:=h.consE;simp at e;subst e;exact⟨y,rfl,a⟩
 |x::ws,vs,i+1,w,h,e=>by obtain⟨y,ys,rfl,a,b⟩:=h.consE;simpa using RelWs.get (i:=i) b (by simpa using e)
theorem RelWs.take:∀{ws:List W} {vs:List V} (n:Nat),RelWs K μ H ws vs->RelWs K μ H (ws.take n) (vs.take n)
 |_,_,0,_=>by simp only[List.take_zero];exact .nilI
 |[],vs,n+1,h=>by rw[h.nilE];exact .nilI
 |x::ws,vs,n+1,h=>by obtain⟨y,ys,rfl,a,b⟩:=h.consE;exact .consI a (RelWs.take n b)
theorem RelWs.drop:∀{ws:List W} {vs:List V} (n:Nat),RelWs K μ H ws vs->RelWs K μ H (ws.drop n) (vs.drop n)
 |_,_,0,h=>h
 |[],vs,n+1,h=>by rw[h.nilE];exact .nilI
 |x::ws,vs,n+1,h=>by obtain⟨y,ys,rfl,a,b⟩:=h.consE;exact RelWs.drop n b
theorem RelWs.setI:∀{ws:List W} {vs:List V} (i:Nat) {w:W} {v:V},b8 K μ H w v->RelWs K μ H ws vs->RelWs K μ H (ws.set i w) (vs.set i v)
 |[],vs,_,_,_,_,h=>by rw[h.nilE];exact .nilI
 |x::ws,vs,0,w,v,r,h=>by obtain⟨y,ys,rfl,a,b⟩:=h.consE;exact .consI r b
 |x::ws,vs,i+1,w,v,r,h=>by obtain⟨y,ys,rfl,a,b⟩:=h.consE;exact .consI a (RelWs.setI i r b)
theorem b8.intE{i:Int}{v:V}(h:b8 K μ H (.int i) v):v=.int i:=by unfold b8 at h;exact h
theorem b8.blE{b:Bool}{v:V}(h:b8 K μ H (.bl b) v):v=.bl b:=by unfold b8 at h;exact h
theorem b8.nonE{v:V}(h:b8 K μ H .non v):v=.non:=by unfold b8 at h;exact h
theorem b8.strE{v:V}(h:b8 K μ H (.str l) v):v=.str (tx l):=by unfold b8 at h;exact h
theorem b8.tupE{ws:List W}{v:V}(h:b8 K μ H (.tup ws) v):∃p vs,v=.ref p/\gG K H p vs/\RelWs K μ H ws vs:=by unfold b8 at h;exact h
theorem b8.locE{v:V}(h:b8 K μ H (.loc n) v):∃a,μ[n]?=some a/\v=.ref a:=by unfold b8 at h;exact h
theorem b8.int{i:Int}:b8 K μ H (.int i) (.int i):=by unfold b8;rfl
theorem b8.bl{i:Bool}:b8 K μ H (.bl i) (.bl i):=by unfold b8;rfl
theorem b8.non:b8 K μ H .non .non:=by unfold b8;rfl
theorem b8.str:b8 K μ H (.str l) (.str (tx l)):=by unfold b8;rfl
theorem b8.tupI{ws:List W}{p:Addr}(a:gG K H p vs)(b:RelWs K μ H ws vs):b8 K μ H (.tup ws) (.ref p):=by unfold b8;exact⟨p,vs,rfl,a,b⟩
theorem b8.locI{a:Addr}(e:μ[n]?=some a):b8 K μ H (.loc n) (.ref a):=by unfold b8;exact⟨a,e,rfl⟩
end
def xj(a:Addr)(C:Value):HO:=.ext fun h=>∃o vs,h.get? a=some o/\o.cls=C/\o.data=.fields vs
def B_(b:Addr)(q:Str):HO:=.ext fun h=>∃o vs t,h.get? b=some o/\o.data=.fields vs/\vs[1]?=some (.str q t)
def Vu(K:Frag)(H:Hp)(a:Addr)(xs:List V):Prop:=
 (∃o,H a=some (.frz o (.lst xs)))\/∃(o:Obj) (b9:Array Value) (n:Nat),K.lookup a=some o/\o.cls=.type "list"/\o.dict=none/\o.data=.seq b9 n/\b9.size<=sizeLine/\cQ 0 xs b9.toList
theorem Vu.sq{a:Addr}(h:Vu K H a xs):uQ K H a xs:=by
 rcases h with⟨o,h⟩|h
 ·exact .inl (.inr ⟨o,h⟩)
 ·exact .inr h
def ar.isRo:ar->Bool
 |.ro _=>true
 |.gone=>true
 |_=>false
def DX(a:Addr)(es:List DictEntry):Heap->Prop:=fun h=>∃o ep,h.get? a=some o/\o.ExactDict/\o.data=.dict es.toArray ep
abbrev WY(a:Addr)(es:List DictEntry):HO:=.ext (DX a es)
def B'(K:Frag)(μ:List Addr)(H:Hp)(p:KX×W)(e:DictEntry):Prop:=e.hash=p.1.hash/\(∃v,b8 K μ H p.1.w v/\dN 0 v e.key)/\∃v,b8 K μ H p.2 v/\dN 0 v e.val
def Wn(a:Addr)(o:Obj):HO:=.ext fun h=>h.get? a=some o
def nF(K:Frag)(mg:Str->Option Value)(μ:List Addr)(H:Hp):ar->Addr->Prop
 |.lst ws,a=>∃vs,H a=some (.lst vs)/\RelWs K μ H ws vs
 |.ro ws,a=>∃vs,Vu K H a vs/\RelWs K μ H ws vs
 |.exc c,a=>∃C,mg c=some C/\H a=some (xj a C)
 |.dct hX,a=>∃vs,H a=some (.dK ((hX.map fun p=>p.1.key).zip vs))/\RelWs K μ H (hX.map fun p=>p.2) vs
 |.rod hX,a=>∃vs o,H a=some (.frz o (.dK ((hX.map fun p=>p.1.key).zip vs)))/\RelWs K μ H (hX.map fun p=>p.2) vs
 |.dcx hX,a=>∃es,H a=some (WY a es)/\(a==sysModules)=false/\Paired (B' K μ H) hX es/\(hX.map fun p=>p.1).Nodup
 |.rox hX,a=>∃es o,H a=some (.frz o (WY a es))/\(a==sysModules)=false/\Paired (B' K μ H) hX es/\(hX.map fun p=>p.1).Nodup
 |.obj c fs,a=>∃C dx vs,mg c=some (.ref C)/\H a=some (.ins C dx ((fs.map fun p=>p.1).zip vs))/\RelWs K μ H (fs.map fun p=>p.2) vs
 |.tab P pos q,a=>a=P/\∃ps,H a=some (.tbl ps)/\TriplesOk ps.toList/\(codeAmong pos ps.toList=none\/∃c,codeAmong pos ps.toList=some (.ref c)/\H c=some (B_ c q))
 |.pin k c o w,a=>a=c/\H a=some (Wn a o)/\(k=false->∃fd cd,o.data=.func fd/\fd.code=.ref cd/\H cd=some (B_ cd fd.qualname))/\∃v,b8 K μ H w v/\(k=true->∃u,o.data=.cell (some u)/\dN 0 v u)
 |.gone,_=>True
structure jO(K:Frag)(mg:Str->Option Value)(μ:List Addr)(st:List ar)(H:Hp):Prop where
 nd:∀(i j:Nat) (a:Addr) (ci cj:ar),st[i]?=some ci->st[j]?=some cj->ci.isRo=false->cj.isRo=false->μ[i]?=some a->μ[j]?=some a->i=j
 len:st.length=μ.length
 at':∀(i:Nat) (c:ar) (a:Addr),st[i]?=some c->μ[i]?=some a->nF K mg μ H c a
section
variable{st:List ar}
theorem B'.mono(h:μ <+: μ')(x:fI K H H'){p:KX×W}{e:DictEntry}(r:B' K μ H p e):B' K μ' H' p e:=by
 obtain⟨a,⟨v,b,c⟩,u,d,g⟩:=r
 exact⟨a,⟨v,b.mono h x,c⟩,u,d.mono h x,g⟩
theorem nF.keep(h:μ <+: μ')(x:fI K H H'){c:ar}{a:Addr}(e:∀o,H a=some o->H' a=some o)(e2:∀b q,H b=some (B_ b q)->H' b=some (B_ b q))(r:nF K mg μ H c a):nF K mg μ' H' c a:=by
 cases c with
 |lst ws=>obtain⟨vs,p,y⟩:=r;exact⟨vs,e _ p,y.mono h x⟩
 |ro ws=>
  obtain⟨vs,p,y⟩:=r
  refine⟨vs,?_,y.mono h x⟩
  rcases p with⟨o,p⟩|p
  ·exact .inl ⟨o,e _ p⟩
  ·exact .inr p
 |exc c=>obtain⟨C,p,y⟩:=r;exact⟨C,p,e _ y⟩
 |dct hX=>obtain⟨vs,p,y⟩:=r;exact⟨vs,e _ p,y.mono h x⟩
 |rod hX=>obtain⟨vs,o,p,y⟩:=r;exact⟨vs,o,e _ p,y.mono h x⟩
 |dcx hX=>obtain⟨es,p,d,y,z⟩:=r;exact⟨es,e _ p,d,Paired.imp' (fun _ _ q=>q.mono h x) y,z⟩
 |rox hX=>obtain⟨es,o,p,d,y,z⟩:=r;exact⟨es,o,e _ p,d,Paired.imp' (fun _ _ q=>q.mono h x) y,z⟩
 |obj c fs=>obtain⟨C,dx,vs,m,p,y⟩:=r;exact⟨C,dx,vs,m,e _ p,y.mono h x⟩
 |tab P pos q=>
  obtain⟨ea,ps,p,t,y⟩:=r
  refine⟨ea,ps,e _ p,t,?_⟩
  rcases y with y|⟨c,y,z⟩
  ·exact .inl y
  ·exact .inr ⟨c,y,e2 _ _ z⟩
 |pin k c o w=>obtain⟨ea,p,g,v,y,z⟩:=r;exact⟨ea,e _ p,fun q=>let ⟨fd,cd,q1,q2,q3⟩:=g q;⟨fd,cd,q1,q2,e2 _ _ q3⟩,v,y.mono h x,z⟩
 |gone=>trivial
theorem nF.ro_ne{c:ar}{a:Addr}(r:nF K mg μ H c a)(h:c.isRo=false):∃o,H a=some o:=by
 cases c with
 |lst ws=>obtain⟨vs,p,y⟩:=r;exact⟨_,p⟩
 |ro ws=>cases h
 |exc c=>obtain⟨C,p,y⟩:=r;exact⟨_,y⟩
 |dct hX=>obtain⟨vs,p,y⟩:=r;exact⟨_,p⟩
 |rod hX=>obtain⟨vs,o,p,y⟩:=r;exact⟨_,p⟩
 |dcx hX=>obtain⟨es,p,_⟩:=r;exact⟨_,p⟩
 |rox hX=>obtain⟨es,o,p,_⟩:=r;exact⟨_,p⟩
 |obj c fs=>obtain⟨C,dx,vs,m,p,y⟩:=r;exact⟨_,p⟩
 |tab P pos q=>obtain⟨_,ps,p,_⟩:=r;exact⟨_,p⟩
 |pin k c o w=>obtain⟨_,p,_⟩:=r;exact⟨_,p⟩
 |gone=>cases h
theorem jO.same(S:jO K mg μ st H)(e:wf H H'):jO K mg μ st H':=⟨S.nd,S.len,fun i c a h1 h2=>(S.at' i c a h1 h2).keep (au _) (gG.same e) (e a) fun b q h=>e b _ h⟩
theorem jO.get(S:jO K mg μ st H){c:ar}(h:st[n]?=some c):∃a,μ[n]?=some a/\nF K mg μ H c a:=by
 have hn:n<μ.length:=by rw[<- S.len];exact(ax.mp h).1
 exact⟨μ[n],ao hn,S.at' n c _ h (ao hn)⟩
theorem jO.push(S:jO K mg μ st H){p:Addr}{o:HO}{c:ar}(hp:H p=none)(hc:nF K mg (μ++[p]) (gc H p o) c p):jO K mg (μ++[p]) (st++[c]) (gc H p o):=by
 have hs:wf H (gc H p o):=c7 hp o
 have Du:μ <+: μ++[p]:=a_ _ _
 have old:∀{i:Nat} {d:ar} {a:Addr},i<st.length->(st++[c])[i]?=some d->(μ++[p])[i]?=some a->st[i]?=some d/\μ[i]?=some a:=fun{i d a} hi h1 h2=>by
  rw[aN hi]at h1
  rw[aN (by rw[<- S.len];exact hi)]at h2
  exact⟨h1,h2⟩
 have new:∀{i:Nat} {d:ar} {a:Addr},¬ i<st.length->(st++[c])[i]?=some d->(μ++[p])[i]?=some a->i=st.length/\d=c/\a=p:=fun{i d a} hi h1 h2=>by
  have hi':i=st.length:=by
   have:=(ax.mp h1).1
   simp at this;omega
  subst hi'
  simp at h1
  rw[S.len,aY (aC _)]at h2
  simp at h2
  exact⟨rfl,h1.symm,h2.symm⟩
 refine⟨fun i j a ci cj h1 h2 r1 r2 m1 m2=>?_,by simp[S.len],fun i d a h1 h2=>?_⟩
 ·by_cases hi:i<st.length
  ·obtain⟨x1,x2⟩:=old hi h1 m1
   by_cases hj:j<st.length
   ·obtain⟨y1,y2⟩:=old hj h2 m2
    exact S.nd i j a ci cj x1 y1 r1 r2 x2 y2
   ·obtain⟨_,_,rfl⟩:=new hj h2 m2
    obtain⟨o',z⟩:=(S.at' i ci a x1 x2).ro_ne r1
    rw[hp]at z;cases z
  ·obtain⟨e1,_,rfl⟩:=new hi h1 m1
   by_cases hj:j<st.length
   ·obtain⟨y1,y2⟩:=old hj h2 m2
    obtain⟨o',z⟩:=(S.at' j cj a y1 y2).ro_ne r2
    rw[hp]at z;cases z
   ·obtain⟨e2,_,_⟩:=new hj h2 m2
    omega
 ·by_cases hi:i<st.length
  ·obtain⟨x1,x2⟩:=old hi h1 h2
   exact(S.at' i d a x1 x2).keep Du (gG.same hs) (hs a) fun b q h=>hs b _ h
  ·obtain⟨_,rfl,rfl⟩:=new hi h1 h2
   exact hc
theorem jO.setG(S:jO K mg μ st H){a:Addr}{c c':ar}{o o':HO}(hn:st[n]?=some c)(Dy:c.isRo=false)(hm:μ[n]?=some a)(ha:H a=some o)(hf:∀q u,o≠.frz q u)(hg:∀q,o≠B_ a q)(hx:fI K H (gc H a o'))(Xz:c'.isRo=false)(hr:nF K mg μ (gc H a o') c' a):jO K mg μ (st.set n c') (gc H a o'):=by
 have hl:n<st.length:=(ax.mp hn).1
 have back:∀{i:Nat} {d:ar},(st.set n c')[i]?=some d->∃d',st[i]?=some d'/\(d'=d\/(i=n/\d=c')):=fun{i d} h=>by
  by_cases e:i=n
  ·subst e
   rw[cq hl]at h
   exact⟨_,hn,.inr ⟨rfl,(bC h).symm⟩⟩
  ·rw[cW (Ne.symm e)]at h
   exact⟨d,h,.inl rfl⟩
 refine⟨fun i j b ci cj h1 h2 r1 r2 m1 m2=>?_,by simp[S.len],fun i d b h1 h2=>?_⟩
 ·obtain⟨di,x1,y1⟩:=back h1
  obtain⟨dj,x2,y2⟩:=back h2
  refine S.nd i j b di dj x1 x2 ?_ ?_ m1 m2
  ·rcases y1 with rfl|⟨rfl,rfl⟩
   ·exact r1
   ·rw[hn]at x1;cases x1;exact Dy
  ·rcases y2 with rfl|⟨rfl,rfl⟩
   ·exact r2
   ·rw[hn]at x2;cases x2;exact Dy
 ·by_cases e:i=n
  ·subst e
   rw[cq hl]at h1
   cases h1
   rw[hm]at h2;cases h2
   exact hr
  ·rw[cW (Ne.symm e)]at h1
   have r:=S.at' i d b h1 h2
   by_cases hrd:d.isRo=true
   ·cases d with
    |ro zs=>
     obtain⟨us,p,q⟩:=r
     refine⟨us,?_,q.mono (au _) hx⟩
     rcases p with⟨o2,p⟩|p
     ·exact .inl ⟨o2,by rw[df (by rintro rfl;rw[ha]at p;cases p;exact hf _ _ rfl)];exact p⟩
     ·exact .inr p
    |lst _=>cases hrd
    |exc _=>cases hrd
    |dct _=>cases hrd
    |rod _=>cases hrd
    |dcx _=>cases hrd
    |rox _=>cases hrd
    |obj _ _=>cases hrd
    |tab _ _ _=>cases hrd
    |pin _ _ _ _=>cases hrd
    |gone=>trivial
   ·refine r.keep (au _) hx (fun o ho=>?_) fun b' q h=>by rw[df (by rintro rfl;rw[ha]at h;cases h;exact hg _ rfl)];exact h
    have hb:b≠a:=by
     rintro rfl
     exact e (S.nd i n b d _ h1 hn (by simpa using hrd) Dy h2 hm)
    rw[df hb];exact ho
theorem jO.set(S:jO K mg μ st H){a:Addr}{ws U6:List W}{E6:List V}(hn:st[n]?=some (.lst ws))(hm:μ[n]?=some a)(ha:H a=some (.lst vs))(hr:RelWs K μ H U6 E6):jO K mg μ (st.set n (.lst U6)) (gc H a (.lst E6)):=by
 have hx:fI K H (gc H a (.lst E6)):=gG.but nz ha
 have hl:n<st.length:=(ax.mp hn).1
 have back:∀{i:Nat} {d:ar},(st.set n (.lst U6))[i]?=some d->∃d',st[i]?=some d'/\(d'=d\/(i=n/\d=.lst U6)):=fun{i d} h=>by
  by_cases e:i=n
  ·subst e
   rw[cq hl]at h
   exact⟨_,hn,.inr ⟨rfl,(bC h).symm⟩⟩
  ·rw[cW (Ne.symm e)]at h
   exact⟨d,h,.inl rfl⟩
 refine⟨fun i j b ci cj h1 h2 r1 r2 m1 m2=>?_,by simp[S.len],fun i d b h1 h2=>?_⟩
 ·obtain⟨di,x1,y1⟩:=back h1
  obtain⟨dj,x2,y2⟩:=back h2
  refine S.nd i j b di dj x1 x2 ?_ ?_ m1 m2
  ·rcases y1 with rfl|⟨rfl,rfl⟩
   ·exact r1
   ·rw[hn]at x1;cases x1;rfl
  ·rcases y2 with rfl|⟨rfl,rfl⟩
   ·exact r2
   ·rw[hn]at x2;cases x2;rfl
 ·by_cases e:i=n
  ·subst e
   rw[cq hl]at h1
   cases h1
   rw[hm]at h2;cases h2
   exact⟨E6,ig,hr.mono (au _) hx⟩
  ·rw[cW (Ne.symm e)]at h1
   have r:=S.at' i d b h1 h2
   by_cases Dy:d.isRo=true
   ·cases d with
    |ro zs=>
     obtain⟨us,p,q⟩:=r
     refine⟨us,?_,q.mono (au _) hx⟩
     rcases p with⟨o',p⟩|p
     ·exact .inl ⟨o',by rw[df (by rintro rfl;rw[ha]at p;cases p)];exact p⟩
     ·exact .inr p
    |lst _=>cases Dy
    |exc _=>cases Dy
    |dct _=>cases Dy
    |rod _=>cases Dy
    |dcx _=>cases Dy
    |rox _=>cases Dy
    |obj _ _=>cases Dy
    |tab _ _ _=>cases Dy
    |pin _ _ _ _=>cases Dy
    |gone=>trivial
   ·refine r.keep (au _) hx (fun o ho=>?_) fun b' q h=>by rw[df (by rintro rfl;rw[ha]at h;cases h)];exact h
    have hb:b≠a:=by
     rintro rfl
     exact e (S.nd i n b d _ h1 hn (by simpa using Dy) rfl h2 hm)
    rw[df hb];exact ho
end
end L2
variable{st bt st1 z:List L2.ar}{body:L2.FS}{t:L2.FT}{ws:List L2.W}{ρ:L2.cL}{fa fe fo el:L2.FE}{F G:List L2.W->List L2.ar->L2.R L2.W}{ck:Option (Nat×List L2.W)}
namespace L2
open PySem PySem.Spec PyProof.Rows
structure Rl(X:Cx)(μ:List Addr)(ρ:cL)(st:List ar)(σ:St)(H:Hp):Prop where
 env:Paired (fun(o:Option W) (s:Option V)=>∀w,o=some w->∃v,s=some v/\b8 X.K μ H w v) ρ σ
 sto:jO X.K X.mg μ st H
theorem uX(h:μ <+: μ')(x:fI K H H'):∀{ρ:cL} {σ:St},Paired (fun(o:Option W) (s:Option V)=>∀w,o=some w->∃v,s=some v/\b8 K μ H w v) ρ σ ->
  Paired (fun(o:Option W) (s:Option V)=>∀w,o=some w->∃v,s=some v/\b8 K μ' H' w v) ρ σ
 |_,_,.nil=>.nil
 |_,_,.cons a t=>.cons (fun w e=>let ⟨v,p,q⟩:=a w e;⟨v,p,q.mono h x⟩) (uX h x t)
theorem Rl.to(r:Rl X μ ρ st σ H)(h:μ <+: μ')(x:fI X.K H H')(s:jO X.K X.mg μ' bt H'):Rl X μ' ρ bt σ H':=⟨uX h x r.env,s⟩
theorem xk:∀{ρ:cL} {σ:St} {i:Nat} {w:W},Paired (fun(o:Option W) (s:Option V)=>∀w,o=some w->∃v,s=some v/\b8 K μ H w v) ρ σ->ρ[i]?=some (some w)->∃v,σ[i]?=some (some v)/\b8 K μ H w v
 |_,_,_,_,.nil,e=>by simp at e
 |_,_,0,w,.cons a t,e=>by simp at e;obtain⟨v,p,q⟩:=a w e;exact⟨v,by simp[p],q⟩
 |_,_,i+1,w,.cons a t,e=>by simpa using xk (i:=i) t (by simpa using e)
theorem tL{w:W}{v:V}(r:b8 K μ H w v):∀{ρ:cL} {σ:St} (i:Nat),Paired (fun(o:Option W) (s:Option V)=>∀w,o=some w->∃v,s=some v/\b8 K μ H w v) ρ σ ->
  Paired (fun(o:Option W) (s:Option V)=>∀w,o=some w->∃v,s=some v/\b8 K μ H w v) (ρ.set i (some w)) (σ.set i (some v))
 |_,_,_,.nil=>.nil
 |_,_,0,.cons a t=>.cons (fun w' e=>⟨v,rfl,by cases e;exact r⟩) t
 |_,_,i+1,.cons a t=>.cons a (tL r i t)
structure vU(X:Cx)(am:List #[38])(σ:St)(c:Str)(H:Hp)(e:Value)(s:Shared):Prop where
 inv:bT X am σ H s
 ex:∃x C t B,e=.ref x/\X.mg c=some C/\H x=none/\B.StaysIn s.heap/\B.get? x=none/\s.heap.FunFrames B X.stack /\
  (s.heap.TracedW B x C (.ref t)\/(∃oe vs,s.heap.get? x=some oe/\oe.cls=C/\oe.dict=none/\oe.data=.fields vs/\vs[1]?=some .none/\vs[0]?=some (.ref t))\/∃L,X.env.frame=some L/\s.heap.TracedAtW B x C (.ref t) (rawInt L)) /\
  ∀b o,s.heap.get? b=some o->(H b≠none\/#[37]\/#[44]\/∃p∈X.pn++am,p.1=b)->B.get? b=some o
def XS(X:Cx)(c:Str)(μ:List Addr)(ρ:cL)(st:List ar)(H:Hp):Prop:=
 ∀am μ' σ' H' e s',μ <+: μ'->fI X.K H H'->Rl X μ' ρ st σ' H'->vU X am σ' c H' e s'->X.xe e s'
def XE(X:Cx)(c:Str)(μ:List Addr)(st:List ar)(σ:St)(H:Hp):Prop:=
 ∀am μ' H' e s',μ <+: μ'->fI X.K H H'->jO X.K X.mg μ' st H'->vU X am σ c H' e s'->X.xe e s'
theorem XE.mono{μ1:List Addr}{H1:Hp}(h:XE X c μ st σ H)(p:μ <+: μ1)(x:fI X.K H H1):XE X c μ1 st σ H1:=fun am μ' H' e s' a b=>h am μ' H' e s' (p.trans a) (x.trans b)
theorem XS.mono{μ1:List Addr}{H1:Hp}(h:XS X c μ ρ st H)(p:μ <+: μ1)(x:fI X.K H H1):XS X c μ1 ρ st H1:=fun am μ' σ' H' e s' a b=>h am μ' σ' H' e s' (p.trans a) (x.trans b)
theorem XS.toE{VN:List ar}(h:XS X c μ ρ st H)(r:Rl X μ ρ VN σ H):XE X c μ st σ H:=fun am μ' H' e s' a b s f=>h am μ' σ H' e s' a b (r.to a b s) f
def RK(X:Cx)(rel:List Addr->Hp->α->β->Prop)(μ:List Addr)(σ:St)(H:Hp)(Q:β->Hp->Prop):R α->Prop
 |.ok a bt=>∀μ' b H',μ <+: μ'->fI X.K H H'->jO X.K X.mg μ' bt H'->rel μ' H' a b->Q b H'
 |.ex c bt=>XE X c μ bt σ H
 |.bad=>False
theorem RK.mono{rel:List Addr->Hp->α->β->Prop}{μ1:List Addr}{H1:Hp}{Q:β->Hp->Prop}{r:R α}(h:RK X rel μ σ H Q r)(p:μ <+: μ1)(x:fI X.K H H1):RK X rel μ1 σ H1 Q r:=by
 cases r with
 |ok a st=>exact fun μ' b H' a1 b1=>h μ' b H' (p.trans a1) (x.trans b1)
 |ex c st=>exact XE.mono h p x
 |bad=>exact h
def tG(X:Cx)(rel:List Addr->Hp->α->β->Prop)(f:cL->List ar->R α)(σ:St)(H:Hp)(Q:β->Hp->Prop):Prop:=
 ∃μ ρ st,Rl X μ ρ st σ H/\RK X rel μ σ H Q (f ρ st)
abbrev uY(X:Cx):List Addr->Hp->W->V->Prop:=fun μ H w v=>b8 X.K μ H w v
abbrev Wo(X:Cx):List Addr->Hp->List W->List V->Prop:=fun μ H w v=>RelWs X.K μ H w v
abbrev PH:List Addr->Hp->Bool->Bool->Prop:=fun _ _ a b=>a=b
abbrev tE(X:Cx)(f:FE):TE:=tG X (uY X) f
abbrev tT(X:Cx)(f:FT):TT:=tG X PH f
abbrev Tj(X:Cx)(f:FA):TA:=tG X (Wo X) f
theorem RK.bind{α' β':Type}{rel:List Addr->Hp->α->β->Prop}{Vk:List Addr->Hp->α'->β'->Prop}{r:R α}{k:α->List ar->R α'}{Q:β'->Hp->Prop}{T:β->Hp->Prop}
  (h:RK X Vk μ σ H Q (r.bind k)) (l:Rl X μ ρ st σ H)
  (hk:∀μ' bt x v H',μ <+: μ'->fI X.K H H'->Rl X μ' ρ bt σ H'->rel μ' H' x v->RK X Vk μ' σ H' Q (k x bt)->T v H'):RK X rel μ σ H T r:=by
 cases r with
 |ok a bt=>exact fun μ' b H' p x s q=>hk μ' bt a b H' p x (l.to p x s) q (RK.mono h p x)
 |ex c bt=>exact h
 |bad=>exact h
def SK(X:Cx)(μ:List Addr)(H:Hp)(D:Ah):RS->Prop
 |.nx ρ st=>∀μ' σ' H',μ <+: μ'->fI X.K H H'->Rl X μ' ρ st σ' H'->D.nx σ' H'
 |.bk ρ st=>∀μ' σ' H',μ <+: μ'->fI X.K H H'->Rl X μ' ρ st σ' H'->D.bk σ' H'
 |.ct ρ st=>∀μ' σ' H',μ <+: μ'->fI X.K H H'->Rl X μ' ρ st σ' H'->D.ct σ' H'
 |.rt w st=>∀μ' v H',μ <+: μ'->fI X.K H H'->jO X.K X.mg μ' st H'->b8 X.K μ' H' w v->D.rt v H'
 |.ex c ρ st=>XS X c μ ρ st H
 |.bad=>False
theorem SK.mono{μ1:List Addr}{H1:Hp}{D:Ah}{r:RS}(h:SK X μ H D r)(p:μ <+: μ1)(x:fI X.K H H1):SK X μ1 H1 D r:=by
 cases r with
 |nx ρ st=>exact fun μ' b H' a1 b1=>h μ' b H' (p.trans a1) (x.trans b1)
 |bk ρ st=>exact fun μ' b H' a1 b1=>h μ' b H' (p.trans a1) (x.trans b1)
 |ct ρ st=>exact fun μ' b H' a1 b1=>h μ' b H' (p.trans a1) (x.trans b1)
 |rt w st=>exact fun μ' b H' a1 b1=>h μ' b H' (p.trans a1) (x.trans b1)
 |ex c ρ st=>exact XS.mono h p x
 |bad=>exact h
def Vv(X:Cx)(g:FS):TS:=fun D σ H=>∃μ ρ st,Rl X μ ρ st σ H/\SK X μ H D (g ρ st)
structure SE(X:Cx)(e:Expr)(f:FE):Prop where
 h:PE X e (tE X f)
structure ST(X:Cx)(e:Expr)(f:FT):Prop where
 h:PT X e (tT X f)
structure SW(X:Cx)(e:Expr)(f:FT):Prop where
 h:PW X e (tT X f)
structure SA(X:Cx)(es:List Expr)(f:FA):Prop where
 h:PA X es (Tj X f)
structure SS(X:Cx)(s:Stmt)(g:FS):Prop where
 h:PS X s (Vv X g)
structure SB(X:Cx)(s:List Stmt)(g:FS):Prop where
 h:Gd X s (Vv X g)
theorem PE.imp{t t':TE}(h:PE X e t)(i:∀σ H Q,t' σ H Q->t σ H Q):PE X e t':=fun am s σ H Q I q=>h am s σ H Q I (i _ _ _ q)
theorem PT.imp{t t':TT}(h:PT X e t)(i:∀σ H Q,t' σ H Q->t σ H Q):PT X e t':=fun am s σ H Q I q=>h am s σ H Q I (i _ _ _ q)
theorem PW.imp{t t':TT}(h:PW X e t)(i:∀σ H Q,t' σ H Q->t σ H Q):PW X e t':=fun wh am s σ H Q I q=>h wh am s σ H Q I (i _ _ _ q)
theorem PA.imp{e:List Expr}{t t':TA}(h:PA X e t)(i:∀σ H Q,t' σ H Q->t σ H Q):PA X e t':=fun pos am s σ H Q I q=>h pos am s σ H Q I (i _ _ _ q)
theorem PS.imp{e:Stmt}{t t':TS}(h:PS X e t)(i:∀D σ H,t' D σ H->t D σ H):PS X e t':=fun am s σ H D I q=>h am s σ H D I (i _ _ _ q)
theorem Gd.imp{e:List Stmt}{t t':TS}(h:Gd X e t)(i:∀D σ H,t' D σ H->t D σ H):Gd X e t':=fun am s σ H D I q=>h am s σ H D I (i _ _ _ q)
section
variable{a b c:Expr}{gO:List Expr}{fb fc:FE}{ft fu:FT}{fs:FA}
def ah(i:Nat):FE:=fun ρ st=>match ρ[i]? with
 |some (some w)=>.ok w st
 |_=>.bad
theorem ae(i:Nat){pos:Pos}(hN:X.N[i]?=some x:=by rfl)(hv:Sc X.env.scope x:=by first|exact Or.inl rfl|exact Or.inr (Or.inl rfl)|exact Or.inr (Or.inr rfl))(hd:#[43]=false:=by decide)
  (DC:(x==("__classdict__":Str))=false:=by decide):SE X (.Name x pos) (ah i):=⟨(pv i hN hv hd DC).imp fun σ H Q h=>by
 obtain⟨μ,ρ,st,r,h⟩:=h
 unfold ah at h
 cases e:ρ[i]? with
 |none=>rw[e]at h;exact h.elim
 |some ow=>
  cases ow with
  |none=>rw[e]at h;exact h.elim
  |some w=>
   rw[e]at h
   obtain⟨v,e1,e2⟩:=xk r.env e
   exact⟨v,e1,h μ v H (au _) fI.refl r.sto e2⟩⟩
def eC(w:W):FE:=fun _ st=>.ok w st
abbrev eI(n:Int):FE:=eC (.int n)
theorem Tl{w:W}{v:V}(hc:PE X e (tC v))(hr:∀μ H,b8 X.K μ H w v):SE X e (eC w):=⟨hc.imp fun σ H Q h=>by
 obtain⟨μ,ρ,st,r,h⟩:=h
 exact h μ v H (au _) fI.refl r.sto (hr _ _)⟩
theorem aB{i:Int}:SE X (.Constant (.int i) j pos) (eC (.int i)):=Tl OH fun _ _=>.int
theorem kj{k:Bool}:SE X (.Constant (.bool k) j pos) (eC (.bl k)):=Tl Se fun _ _=>.bl
theorem qC:SE X (.Constant .none j pos) (eC .non):=Tl OI fun _ _=>.non
theorem dh(h:x=tx l:=by decide +kernel):SE X (.Constant (.str x) j pos) (eC (.str l)):=Tl OJ fun _ _=>by rw[h];exact .str
theorem Wp{w:W}(h:∃u v,X.mg x=some u/\dN 0 v u/\∀μ H,b8 X.K μ H w v)(hg:Gl X x:=by rfl)(hd:#[43]=false:=by decide):SE X (.Name x pos) (eC w):=by
 obtain⟨u,v,a,b,c⟩:=h
 exact Tl (S7 ⟨u,a,b⟩ hg hd) c
def e2(f:W->W->List ar->R W)(fa fb:FE):FE:=fun ρ st=>(fa ρ st).bind fun x st=>(fb ρ st).bind fun y st=>f x y st
def Hl(X:Cx)(μ:List Addr)(H:Hp)(Q:VK):R W->Prop
 |.ok w bt=>∀μ' v H',μ <+: μ'->fI X.K H H'->jO X.K X.mg μ' bt H'->b8 X.K μ' H' w v->Q v H'
 |_=>False
def wj:R α->Prop
 |.ex _ _=>False
 |_=>True
def Wq(X:Cx)(f:W->W->List ar->R W):R2:=fun x y H Q=>∃μ st wx wy,jO X.K X.mg μ st H/\b8 X.K μ H wx x/\b8 X.K μ H wy y/\Hl X μ H Q (f wx wy st)
structure yD(X:Cx)(g:Value->Value->Sem Value)(f:W->W->List ar->R W):Prop where
 h:qm X g (Wq X f)
 n:∀x y st,wj (f x y st)
theorem uZ{Q:VK}{r:R W}(h:RK X (uY X) μ σ H Q r)(n:wj r):Hl X μ H Q r:=by
 cases r with
 |ok a st=>exact h
 |ex c st=>exact n.elim
 |bad=>exact h
theorem Fz{f:W->W->List ar->R W}{Q:VK}(n:∀x y st,wj (f x y st))(h:tE X (e2 f fa fb) σ H Q):Sv (Wq X f) (tE X fa) (tE X fb) σ H Q:=by
 walk_at "2"
 refine⟨μ,ρ,st,l,RK.bind h l fun μ1 st1 x v H1 p1 x1 l1 q1 h1=>⟨μ1,ρ,st1,l1,RK.bind h1 l1 fun μ2 dz y u H2 p2 x2 l2 q2 h2=>?_⟩⟩
 exact⟨μ2,dz,x,y,l2.sto,q1.mono p2 x2,q2,uZ h2 (n _ _ _)⟩
theorem bz{op:Operator}{f:W->W->List ar->R W}(ho:yD X (binaryOp op) f)(ha:SE X a fa)(hb:SE X b fb):SE X (.BinOp a op b pos) (e2 f fa fb):=⟨(Sw ho.h ha.h hb.h).imp fun _ _ _ h=>Fz ho.n h⟩
theorem tM{f:W->W->List ar->R W}(ho:yD X (compareOp op) f)(ha:SE X a fa)(hb:SE X b fb)(hm:behindInMarks op b=false:=by first|exact HI _|rfl):SE X (.Compare a [op] [b] pos) (e2 f fa fb):=⟨(LH ho.h ha.h hb.h hm).imp fun _ _ _ h=>Fz ho.n h⟩
def dO(fa:FE):FT:=fun ρ st=>(fa ρ st).bind fun x st=>match x with
 |.bl k=>.ok k st
 |_=>.bad
theorem tN{Q:Bool->Hp->Prop}(h:tT X (dO fa) σ H Q):tE X fa σ H fun x H1=>∃k,x=.bl k/\Q k H1:=by
 walk_at "2"
 walk_at "1"
 cases x with
 |bl k=>exact⟨k,q1.blE,h1 μ1 k H1 (au _) fI.refl l1.sto rfl⟩
 |_=>exact h1.elim
theorem cb{f:W->W->List ar->R W}(ho:yD X (compareOp op) f)(ha:SE X a fa)(hb:SE X b fb)(hm:behindInMarks op b=false:=by first|exact HI _|rfl):ST X (.Compare a [op] [b] pos) (dO (e2 f fa fb)):=⟨(LI ho.h ha.h hb.h hm).imp fun σ H Q h=>by
 have h':tE X (e2 f fa fb) σ H fun x H1=>∃k,x=.bl k/\Q k H1:=tN h
 exact Fz ho.n h'⟩
theorem jp(h:SE X e fe)(he:∀whole,isTrue e X.env whole=(do let v <- whole;standAt e.pos;holding [v] (truthy v)):=by intro _;rfl):ST X e (dO fe):=⟨(OL h.h he).imp fun σ H Q h=>tN h⟩
def yE(t u:FT):FT:=fun ρ st=>(t ρ st).bind fun k st=>if k then u ρ st else .ok false st
def GJ(t u:FT):FT:=fun ρ st=>(t ρ st).bind fun k st=>if k then .ok true st else u ρ st
def BK(t:FT):FT:=fun ρ st=>(t ρ st).bind fun k st=>.ok (!k) st
theorem rN(ha:ST X a ft):SW X (.BoolOp .And [a] pos) ft:=⟨Lu ha.h⟩
theorem xl(ha:ST X a ft):SW X (.BoolOp .Or [a] pos) ft:=⟨OM ha.h⟩
theorem u0(ha:ST X a ft)(hb:SW X (.BoolOp .And (b::gO) pos) fu):SW X (.BoolOp .And (a::b::gO) pos) (yE ft fu):=⟨(ON ha.h hb.h).imp fun σ H Q h=>by
 walk_at "2"
 walk_at "1"
 cases q1
 cases x with
 |true=>exact⟨μ1,ρ,st1,l1,h1⟩
 |false=>exact h1 μ1 false H1 (au _) fI.refl l1.sto rfl⟩
theorem Cb(ha:ST X a ft)(hb:SW X (.BoolOp .Or (b::gO) pos) fu):SW X (.BoolOp .Or (a::b::gO) pos) (GJ ft fu):=⟨(Sg ha.h hb.h).imp fun σ H Q h=>by
 walk_at "2"
 walk_at "1"
 cases q1
 cases x with
 |false=>exact⟨μ1,ρ,st1,l1,h1⟩
 |true=>exact h1 μ1 true H1 (au _) fI.refl l1.sto rfl⟩
theorem xn(h:SW X e ft):ST X e ft:=⟨h.h.pt⟩
theorem nX(ha:ST X a ft):ST X (.UnaryOp .Not a pos) (BK ft):=⟨(OO ha.h).imp fun σ H Q h=>by
 walk_at "2"
 walk_at "1"
 cases q1
 exact h1 μ1 _ H1 (au _) fI.refl l1.sto rfl⟩
def D9(fa fb:FE):FE:=fun ρ st=>(fa ρ st).bind fun x st=>match x with
 |.bl true=>fb ρ st
 |.bl false=>.ok (.bl false) st
 |_=>.bad
def L'(fa:FE):FE:=fun ρ st=>(fa ρ st).bind fun x st=>match x with
 |.bl k=>.ok (.bl (!k)) st
 |_=>.bad
theorem Il{op:BoolOp}(h:SE X a fa):SE X (.BoolOp op [a] pos) fa:=⟨OP h.h⟩
theorem FB(ha:SE X a fa)(hb:SE X (.BoolOp .And (b::gO) pos) fb):SE X (.BoolOp .And (a::b::gO) pos) (D9 fa fb):=⟨(OQ ha.h hb.h).imp fun σ H Q h=>by
 walk_at "2"
 walk_at "1"
 cases x with
 |bl k=>
  refine⟨k,q1.blE,?_⟩
  cases k with
  |true=>exact⟨μ1,ρ,st1,l1,h1⟩
  |false=>exact h1 μ1 _ H1 (au _) fI.refl l1.sto .bl
 |_=>exact h1.elim⟩
theorem Tn(ha:SE X a fa):SE X (.UnaryOp .Not a pos) (L' fa):=⟨(OR ha.h).imp fun σ H Q h=>by
 walk_at "2"
 walk_at "1"
 cases x with
 |bl k=>exact⟨k,q1.blE,h1 μ1 _ H1 (au _) fI.refl l1.sto .bl⟩
 |_=>exact h1.elim⟩
def Hm(t:FT)(fa fb:FE):FE:=fun ρ st=>(t ρ st).bind fun k st=>if k then fa ρ st else fb ρ st
theorem D_(hc:ST X c ft)(ha:SE X a fa)(hb:SE X b fb):SE X (.IfExp c a b pos) (Hm ft fa fb):=⟨(Hv hc.h ha.h hb.h).imp fun σ H Q h=>by
 walk_at "2"
 walk_at "1"
 cases q1
 cases x with
 |false=>exact⟨μ1,ρ,st1,l1,h1⟩
 |true=>exact⟨μ1,ρ,st1,l1,h1⟩⟩
def W.isNon:W->Bool
 |.non=>true
 |_=>false
def Av(fa:FE):FE:=fun ρ st=>(fa ρ st).bind fun x st=>.ok (.bl x.isNon) st
def hU(fa:FE):FE:=fun ρ st=>(fa ρ st).bind fun x st=>.ok (.bl (!x.isNon)) st
theorem Nd{w:W}{v:V}(r:b8 X.K μ H w v):decide (v=.non)=w.isNon:=by
 cases w with
 |non=>rw[r.nonE];rfl
 |bl b=>rw[r.blE];rfl
 |int b=>rw[r.intE];rfl
 |str b=>rw[r.strE];rfl
 |tup b=>obtain⟨p,vs,rfl,_⟩:=r.tupE;rfl
 |loc b=>obtain⟨p,_,rfl⟩:=r.locE;rfl
theorem Nf{Q:VK}(h:tE X (Av fa) σ H Q):Sf (tE X fa) σ H Q:=by
 walk_at "2"
 walk_at "1"
 show Q (.bl (decide (v=.non))) H1
 rw[Nd q1]
 exact h1 μ1 _ H1 (au _) fI.refl l1.sto .bl
theorem PJ{Q:VK}(h:tE X (hU fa) σ H Q):M8 (tE X fa) σ H Q:=by
 walk_at "2"
 walk_at "1"
 show Q (.bl (!decide (v=.non))) H1
 rw[Nd q1]
 exact h1 μ1 _ H1 (au _) fI.refl l1.sto .bl
theorem To(ha:SE X a fa):SE X (.Compare a [.Is] [.Constant .none j jl] pos) (Av fa):=⟨(OK (Ht ha.h)).imp fun _ _ _ h=>Nf h⟩
theorem D'(ha:SE X a fa):ST X (.Compare a [.Is] [.Constant .none j jl] pos) (dO (Av fa)):=⟨(Hu (Ht ha.h)).imp fun _ _ _ h=>Nf (tN h)⟩
theorem jf(ha:SE X a fa):ST X (.Compare a [.IsNot] [.Constant .none j jl] pos) (dO (hU fa)):=⟨(Hu (Ls ha.h)).imp fun _ _ _ h=>PJ (tN h)⟩
def aA:FA:=fun _ st=>.ok [] st
def af(fa:FE)(fs:FA):FA:=fun ρ st=>(fa ρ st).bind fun x st=>(fs ρ st).bind fun xs st=>.ok (x::xs) st
theorem aq:SA X [] aA:=⟨uU.imp fun σ H Q h=>by
 walk_at "2"
 exact h μ [] H (au _) fI.refl l.sto .nilI⟩
theorem aa(ha:SE X e fe)(hr:SA X es fs)(hs:starEach (e::es) X.env=(false,eval e X.env)::starEach es X.env:=by rfl):SA X (e::es) (af fe fs):=⟨(lr ha.h hr.h hs).imp fun σ H Q h=>by
 walk_at "2"
 refine⟨μ,ρ,st,l,RK.bind h l fun μ1 st1 x v H1 p1 x1 l1 q1 h1=>⟨μ1,ρ,st1,l1,RK.bind h1 l1 fun μ2 dz xs vs H2 p2 x2 l2 q2 h2=>?_⟩⟩
 exact h2 μ2 _ H2 (au _) fI.refl l2.sto (.consI (q1.mono p2 x2) q2)⟩
def Tp(zs:List #[66]):FA:=fun _ st=>.ok (zs.map W.str) st
def se(ws:List W)(st:List ar):R W:=if ws.length<=oy then .ok (.tup ws) st else .bad
def qD(ws:List W)(st:List ar):R W:=if ws.length<=oy then .ok #[4] (st++[.lst ws])else .bad
def dC(fs:FA):FE:=fun ρ st=>(fs ρ st).bind fun ws st=>se ws st
def km(fs:FA):FE:=fun ρ st=>(fs ρ st).bind fun ws st=>qD ws st
theorem jO.newLst(S:jO K mg μ st H){p:Addr}(hp:H p=none)(r:RelWs K μ H ws vs):jO K mg (μ++[p]) (st++[.lst ws]) (gc H p (.lst vs)):=
 S.push hp ⟨vs,ig,r.mono (a_ _ _) (gG.same (c7 hp _))⟩
theorem qE(S:jO K mg μ st H){p:Addr}:b8 K (μ++[p]) H' #[4] (.ref p):=.locI (by rw[S.len];simp)
theorem Im{Q:VK}(S:jO X.K X.mg μ st H)(q:RelWs X.K μ H ws vs)(h:RK X (uY X) μ σ H Q (se ws st)):vs.length<=sizeLine/\∀p H2,H p=none->H2=gc H p (.tup vs)->Q (.ref p) H2:=by
 unfold se at h
 by_cases hz:ws.length<=oy
 ·rw[aJ hz]at h
  refine⟨by rw[<- q.len];exact qB hz,fun p H2 hp e=>?_⟩
  subst e
  have x:=gG.same (K:=X.K) (c7 hp (.tup vs))
  exact h μ _ _ (au _) x (S.same (c7 hp _)) (.tupI gG.new (q.mono (au _) x))
 ·rw[aW hz]at h;exact h.elim
theorem xo{σ:St}{Q:VK}(S:jO X.K X.mg μ st H)(q:RelWs X.K μ H ws vs)(h:RK X (uY X) μ σ H Q (qD ws st)):vs.length<=sizeLine/\∀p H2,H p=none->H2=gc H p (.lst vs)->Q (.ref p) H2:=by
 unfold qD at h
 by_cases hz:ws.length<=oy
 ·rw[aJ hz]at h
  refine⟨by rw[<- q.len];exact qB hz,fun p H2 hp e=>?_⟩
  subst e
  exact h (μ++[p]) _ _ (a_ _ _) (gG.same (c7 hp _)) (S.newLst hp q) (qE S)
 ·rw[aW hz]at h;exact h.elim
theorem cS(h:SA X es fs):SE X (.Tuple es k pos) (dC fs):=⟨(Fv h.h).imp fun σ H Q h=>by
 walk_at "2"
 exact⟨μ,ρ,st,l,RK.bind h l fun μ1 st1 x v H1 p1 x1 l1 q1 h1=>Im l1.sto q1 h1⟩⟩
theorem ii(h:SA X es fs):SE X (.List es pos) (km fs):=⟨(L0 h.h).imp fun σ H Q h=>by
 walk_at "2"
 exact⟨μ,ρ,st,l,RK.bind h l fun μ1 st1 x v H1 p1 x1 l1 q1 h1=>xo l1.sto q1 h1⟩⟩
end
end L2
namespace L2
open PySem PySem.Spec PyProof.Rows
section
theorem mE{Q:VK}{i:Int}(S:jO X.K X.mg μ st H)(h:Hl X μ H Q (.ok (.int i) st)):Q (.int i) H:=h μ _ H (au _) fI.refl S .int
theorem qF{Q:VK}{i:Bool}(S:jO X.K X.mg μ st H)(h:Hl X μ H Q (.ok (.bl i) st)):Q (.bl i) H:=h μ _ H (au _) fI.refl S .bl
theorem tO{Q:VK}{i:List Nat}(S:jO X.K X.mg μ st H)(h:Hl X μ H Q (.ok (.str i) st)):Q (.str (tx i)) H:=h μ _ H (au _) fI.refl S .str
theorem PK{Q:VK}{r:R W}(h:Hl X μ H Q r):RK X (uY X) μ σ H Q r:=by
 cases r with
 |ok a st=>exact h
 |ex c st=>exact h.elim
 |bad=>exact h
def GK(C:Int->Int->Prop)[∀i j,Decidable (C i j)](f:Int->Int->Int):W->W->List ar->R W
 |.int i,.int j,st=>if C i j then .ok (.int (f i j)) st else .bad
 |_,_,_=>.bad
theorem Cc{C C':Int->Int->Prop}[∀i j,Decidable (C' i j)]{f:Int->Int->Int}(h:qm X g (rI C fun i j=>.int (f i j)))(hC:∀i j,C' i j->C i j):yD X g (GK C' f):=⟨h.imp fun x y H Q zq=>by
 walk_at "10"
 cases wx with
 |int i=>
  cases wy with
  |int j=>
   simp only[GK]at q
   by_cases c:C' i j
   ·rw[aJ c]at q;exact⟨i,j,rx.intE,ry.intE,hC i j c,mE S q⟩
   ·rw[aW c]at q;exact q.elim
  |_=>exact q.elim
 |_=>cases wy<;>exact q.elim,fun x y st=>by
 unfold GK
 split
 ·split<;>trivial
 ·trivial⟩
def GL(f:Int->Int->Bool):W->W->List ar->R W
 |.int i,.int j,st=>.ok (.bl (f i j)) st
 |_,_,_=>.bad
theorem Io{f:Int->Int->Bool}(h:qm X g (HG fun i j=>.bl (f i j))):yD X g (GL f):=⟨h.imp fun x y H Q zq=>by
 walk_at "10"
 cases wx with
 |int i=>
  cases wy with
  |int j=>exact⟨i,j,rx.intE,ry.intE,qF S q⟩
  |_=>exact q.elim
 |_=>cases wy<;>exact q.elim,fun x y st=>by
 unfold GL
 split<;>trivial⟩
abbrev PL(i j:Int):Prop:=(-(2^64)<i/\i<2^64)\/(-(2^64)<j/\j<2^64)
abbrev g9:=GK (fun _ _=>True) fun i j=>i-j
abbrev Tq:=GK PL fun i j=>i*j
abbrev ij:=GK (fun _ j=>0<j) fun i j=>i%j
abbrev vV:=GK (fun _ j=>0<j/\j<1073741824) fun i j=>i/j
abbrev Ma:=GK (fun i j=>0<=j/\j<=1000000/\i.natAbs<2^64) fun i j=>i^j.toNat
abbrev Cd:=GK (fun i j=>0<=j/\j<=1000000/\i.natAbs<2^64) fun i j=>i*2^j.toNat
abbrev PM:=GK (fun _ j=>0<=j) fun i j=>i/2^j.toNat
abbrev Ip:=GK (fun _ _=>True) fun i j=>Builtin.bitAnd i j
theorem Iq{f:Int->Int->V}(h:qm X g (HG f)):qm X g (rI (fun _ _=>True) f):=h.imp fun _ _ _ _ ⟨i,j,a,b,_,q⟩=>⟨i,j,a,b,q⟩
theorem iJ:yD X (binaryOp .Sub) g9:=Cc (Iq O8) fun _ _ _=>trivial
theorem Tr:yD X (binaryOp .Mult) Tq:=Cc O9 fun _ _ h=>h
theorem gR:yD X (binaryOp .Mod) ij:=Cc O_ fun _ _ h=>h
theorem u3:yD X (binaryOp .FloorDiv) vV:=Cc LG fun _ _ h=>h
theorem Ng:yD X (binaryOp .Pow) Ma:=Cc Pa fun _ _ h=>h
theorem Nh:yD X (binaryOp .LShift) Cd:=Cc HH fun _ _ h=>h
theorem Ts:yD X (binaryOp .RShift) PM:=Cc Pc fun _ _ h=>h
theorem PN:yD X (binaryOp .BitAnd) Ip:=Cc (Iq Pd) fun _ _ _=>trivial
def cN:W->W->List ar->R W
 |.int i,.int j,st=>.ok (.int (i+j)) st
 |.str a,.str b,st=>if a.length+b.length<=oy then .ok (.str (a++b)) st else .bad
 |.tup a,.tup b,st=>se (a++b) st
 |.loc n,.loc m,st=>match st[n]?,st[m]? with
  |some (.lst a),some (.lst b)=>qD (a++b) st
  |_,_=>.bad
 |_,_,_=>.bad
theorem Mb(ws:List W)(st:List ar):wj (se ws st):=by unfold se;split<;>trivial
theorem Md(ws:List W)(st:List ar):wj (qD ws st):=by unfold qD;split<;>trivial
theorem cD:yD X (binaryOp .Add) cN:=⟨fun am s σ H x y v u Q I rv ru zq=>by
 walk_at "10"
 cases wx with
 |int i=>
  cases wy with
  |int j=>exact O7 am s σ H x y v u Q I rv ru ⟨i,j,rx.intE,ry.intE,mE S q⟩
  |_=>exact q.elim
 |str a=>
  cases wy with
  |str b=>
   simp only[cN]at q
   by_cases c:a.length+b.length<=oy
   ·rw[aJ c]at q
    exact DI am s σ H x y v u Q I rv ru ⟨_,_,rx.strE,ry.strE,by rw[jN,jN];exact qB c,by rw[DZ];exact tO S q⟩
   ·rw[aW c]at q;exact q.elim
  |_=>exact q.elim
 |tup a=>
  cases wy with
  |tup b=>
   obtain⟨p1,vs1,rfl,h1,r1⟩:=rx.tupE
   obtain⟨p2,vs2,rfl,h2,r2⟩:=ry.tupE
   have q':Hl X μ H Q (se (a++b) st):=q
   unfold se at q'
   by_cases c:(a++b).length<=oy
   ·rw[aJ c]at q'
    refine PD.h am s σ H _ _ v u Q I rv ru ⟨p1,p2,vs1,vs2,rfl,rfl,h1,h2,by rw[<- r1.len,<- r2.len,<- aj];exact qB c,fun p H2 e t=>?_⟩
    exact q' μ _ _ (au _) (gG.same e) (S.same e) (.tupI t ((r1.app r2).mono (au _) (gG.same e)))
   ·rw[aW c]at q';exact q'.elim
  |_=>exact q.elim
 |loc n=>
  cases wy with
  |loc m=>
   simp only[cN]at q
   cases e1:st[n]? with
   |none=>rw[e1]at q;exact q.elim
   |some c1=>
    cases e2:st[m]? with
    |none=>rw[e1,e2]at q;cases c1<;>exact q.elim
    |some c2=>
     cases c1 with
     |lst a=>
      cases c2 with
      |lst b=>
       rw[e1,e2]at q
       obtain⟨a1,g1,vs1,k1,r1⟩:=S.get e1
       obtain⟨a2,g2,vs2,k2,r2⟩:=S.get e2
       obtain⟨b1,f1,rfl⟩:=rx.locE
       obtain⟨b2,f2,rfl⟩:=ry.locE
       rw[g1]at f1;cases f1
       rw[g2]at f2;cases f2
       obtain⟨hz,qq⟩:=xo (σ:=σ) S (r1.app r2) (PK q)
       exact L5 am s σ H _ _ v u Q I rv ru ⟨a1,a2,vs1,vs2,rfl,rfl,k1,k2,by rw[<- aj];exact hz,qq⟩
      |_=>rw[e1,e2]at q;exact q.elim
     |_=>rw[e1,e2]at q;exact q.elim
  |_=>exact q.elim
 |_=>cases wy<;>exact q.elim,fun x y st=>by
 unfold cN
 split
 ·trivial
 ·split<;>trivial
 ·exact Mb _ _
 ·split
  ·exact Md _ _
  ·trivial
 ·trivial⟩
abbrev PP:=GL fun i j=>decide (i<j)
abbrev yF:=GL fun i j=>decide (j<i)
abbrev PQ:=GL fun i j=>decide (j<=i)
theorem w_lt:yD X (compareOp .Lt) PP:=Io Sy
theorem u4:yD X (compareOp .Gt) yF:=Io SC
theorem Me:yD X (compareOp .GtE) PQ:=Io SD
end
end L2
namespace L2
open PySem PySem.Spec PyProof.Rows
mutual
def mF:W->W->Option Bool
 |.non,.non=>some true
 |.bl a,.bl b=>some (a==b)
 |.bl a,.int b=>some ((if a then 1 else 0)==b)
 |.int a,.bl b=>some (a==(if b then 1 else 0))
 |.int a,.int b=>some (a==b)
 |.str a,.str b=>some (a==b)
 |.tup a,.tup b=>eqWs a b
 |.loc _,_=>none
 |.non,.loc _=>none
 |.bl _,.loc _=>none
 |.int _,.loc _=>none
 |.str _,.loc _=>none
 |.tup _,.loc _=>none
 |.non,.bl _=>some false
 |.non,.int _=>some false
 |.non,.str _=>some false
 |.non,.tup _=>some false
 |.bl _,.non=>some false
 |.bl _,.str _=>some false
 |.bl _,.tup _=>some false
 |.int _,.non=>some false
 |.int _,.str _=>some false
 |.int _,.tup _=>some false
 |.str _,.non=>some false
 |.str _,.bl _=>some false
 |.str _,.int _=>some false
 |.str _,.tup _=>some false
 |.tup _,.non=>some false
 |.tup _,.bl _=>some false
 |.tup _,.int _=>some false
 |.tup _,.str _=>some false
def eqWs:List W->List W->Option Bool
 |[],[]=>some true
 |[],_::_=>some false
 |_::_,[]=>some false
 |x::xs,y::ys=>match mF x y,eqWs xs ys with
  |some a,some b=>some (a&&b)
  |_,_=>none
end
mutual
def W.dep:W->Nat
 |.tup ws=>depWs ws+1
 |_=>0
def depWs:List W->Nat
 |[]=>0
 |w::ws=>max w.dep (depWs ws)
end
theorem sP:∀(xs ys:List W) (b:Bool),eqWs xs ys=some b->∃e:Nat->Bool,(∀j (h1:j<xs.length) (h2:j<ys.length),mF xs[j] ys[j]=some (e j))/\((List.range (min xs.length ys.length)).all e&&xs.length==ys.length)=b
 |[],[],b,h=>by unfold eqWs at h;cases h;exact⟨fun _=>true,fun j h1=>absurd h1 (mv _),rfl⟩
 |[],y::ys,b,h=>by unfold eqWs at h;cases h;exact⟨fun _=>true,fun j h1=>absurd h1 (mv _),by simp⟩
 |x::xs,[],b,h=>by unfold eqWs at h;cases h;exact⟨fun _=>true,fun j _ h1=>absurd h1 (mv _),by simp⟩
 |x::xs,y::ys,b,h=>by
  unfold eqWs at h
  cases e1:mF x y with
  |none=>rw[e1]at h;simp at h
  |some a=>
   cases e2:eqWs xs ys with
   |none=>rw[e1,e2]at h;simp at h
   |some c=>
    rw[e1,e2]at h
    simp at h
    obtain⟨e,he,hb⟩:=sP xs ys c e2
    refine⟨fun j=>match j with|0=>a|j+1=>e j,fun j h1 h2=>?_,?_⟩
    ·cases j with
     |zero=>exact e1
     |succ j=>exact he j (kH h1) (kH h2)
    ·have m:min (x::xs).length (y::ys).length=min xs.length ys.length+1:=by simp only[bv];omega
     rw[m,pO,List.all_cons,List.all_map,<- h,<- hb]
     simp[Function.comp_def,Bool.and_assoc]
theorem FC{a b:W}{x:V}{k:Bool}(hn:a.dep<=0)(ra:b8 X.K μ H a x)(rb:b8 X.K μ H b x)(he:mF a b=some k):k=true:=by
 cases a with
 |tup i=>unfold W.dep at hn;omega
 |non=>cases ra.nonE;cases b<;>first|(unfold mF at he;cases he;rfl)|cases rb.blE|cases rb.intE|cases rb.strE|(obtain⟨_,_,z,_⟩:=rb.tupE;cases z)|(unfold mF at he;cases he)
 |bl i=>cases ra.blE;cases b<;>first|(cases rb.blE;unfold mF at he;simp at he;exact he)|cases rb.nonE|cases rb.intE|cases rb.strE|(obtain⟨_,_,z,_⟩:=rb.tupE;cases z)|(unfold mF at he;cases he)
 |int i=>cases ra.intE;cases b<;>first|(cases rb.intE;unfold mF at he;simp at he;exact he)|cases rb.nonE|cases rb.blE|cases rb.strE|(obtain⟨_,_,z,_⟩:=rb.tupE;cases z)|(unfold mF at he;cases he)
 |str i=>cases ra.strE;cases b<;>first|(have z:=rb.strE;injection z with z;rw[D0.mp z]at he;unfold mF at he;simp at he;exact he)|cases rb.nonE|cases rb.blE|cases rb.intE|(obtain⟨_,_,z,_⟩:=rb.tupE;cases z)|(unfold mF at he;cases he)
 |loc i=>cases b<;>(unfold mF at he;cases he)
theorem Ir(I:bT X am σ H s):∀(n:Nat) (a b:W) (x:V) (k:Bool),a.dep<=n->b8 X.K μ H a x->b8 X.K μ H b x->mF a b=some k->k=true:=by
 intro n
 induction n with
 |zero=>exact fun a b x k hn ra rb he=>FC hn ra rb he
 |succ n ih=>
  intro a b x k hn ra rb he
  cases a with
  |tup i=>
   obtain⟨p',E6,rfl,hS',r'⟩:=ra.tupE
   cases b with
   |tup z=>
    obtain⟨p,vs,e,hS,r⟩:=rb.tupE
    cases e
    obtain rfl:=I.tuple_inj hS hS'
    have he':eqWs i z=some k:=by unfold mF at he;exact he
    have dn:depWs i<=n:=by unfold W.dep at hn;omega
    have key:∀(i z:List W) (vs:List V) (k:Bool),depWs i<=n->RelWs X.K μ H i vs->RelWs X.K μ H z vs->eqWs i z=some k->k=true:=by
     intro i
     induction i with
     |nil=>
      intro z vs k _ r' r he
      have e1:=r'.nilE
      subst e1
      cases z with
      |nil=>unfold eqWs at he;cases he;rfl
      |cons _ _=>have e2:=r.len;simp at e2
     |cons w i ih2=>
      intro z vs k dn r' r he
      obtain⟨x,xs,rfl,rx,rxs⟩:=r'.consE
      cases z with
      |nil=>have e2:=r.len;simp at e2
      |cons y z=>
       obtain⟨x2,xs2,e3,ry,rys⟩:=r.consE
       cases e3
       unfold eqWs at he
       cases e1:mF w y with
       |none=>rw[e1]at he;simp at he
       |some k1=>
        cases e2:eqWs i z with
        |none=>rw[e1,e2]at he;simp at he
        |some k2=>
         rw[e1,e2]at he
         simp at he
         unfold depWs at dn
         have q1:=ih w y x k1 #[0] rx ry e1
         have q2:=ih2 z xs k2 #[0] rxs rys e2
         rw[<- he,q1,q2];rfl
    exact key i z _ k dn r' r he'
   |non=>cases rb.nonE
   |bl z=>cases rb.blE
   |int z=>cases rb.intE
   |str z=>cases rb.strE
   |loc z=>unfold mF at he;cases he
  |_=>exact FC (aC _) ra rb he
theorem u5:∀{ws:List W} {j:Nat} (h:j<ws.length),ws[j].dep<=depWs ws
 |w::ws,0,_=>by unfold depWs;exact Nat.le_max_left _ _
 |w::ws,j+1,h=>by unfold depWs;exact aO (u5 (j:=j) (kH h)) (Nat.le_max_right _ _)
inductive Sh(s:Shared):W->Value->Prop
 |non:Sh s .non .none
 |bl (b:Bool):Sh s (.bl b) (.bool b)
 |int (i:Int) (t:Tok):Sh s (.int i) (.int i t)
 |str (l:List Nat) (t:Tok):Sh s (.str l) (.str (tx l) t)
 |tup (ws:List W) (p:Addr) (b9:List Value) (h:IsTup s.heap p b9.toArray):Sh s (.tup ws) (.ref p)
 |loc (n:Nat) (u:Value):Sh s (.loc n) u
section
theorem vW(I:bT X am σ H s){a:W}{x:V}(ra:b8 X.K μ H a x)(ru:dN s.toks x u):Sh s a u:=by
 cases a with
 |non=>cases ra.nonE;cases ru;exact .non
 |bl i=>cases ra.blE;cases ru;exact .bl _
 |int i=>cases ra.intE;obtain⟨t,rfl⟩:=ru;exact .int _ _
 |str i=>cases ra.strE;obtain⟨t,rfl⟩:=ru;exact .str _ _
 |tup i=>obtain⟨p,vs,rfl,hS,_⟩:=ra.tupE;cases ru;obtain⟨b9,_,ht,_⟩:=I.tuple hS;exact .tup _ _ _ ht
 |loc i=>exact .loc _ _
open SeqAt.EqAt in
theorem FD{a b:W}{k:Bool}(ha:Sh s a u)(hb:Sh s b v)(hu:A.units<cLine)(ht:b.dep=0\/a.dep=0)(he:mF a b=some k):SeqAt.EqAt A s u v k:=by
 cases ha<;>cases hb<;>first
  |(unfold mF at he;cases he;done)
  |(unfold mF at he;cases he;with_reducible first|exact same _|exact bool_none _|exact bool_bool _ _|exact bool_int _ _ _|exact bool_str _ _ _|exact int_none _ _|exact int_bool _ _ _|exact int_int _ _ _ _|exact int_str _ _ _ _|exact str_none _ _|exact str_bool _ _ _|exact str_int _ _ _ _|exact none_bool _|exact none_int _ _|exact none_str _ _)
  |(unfold mF at he;cases he;(with_reducible first|refine' bool_tuple _ ?_ hu|refine' int_tuple _ _ ?_ hu|refine' str_tuple _ _ ?_ hu|refine' tuple_none ?_ hu|refine' tuple_bool _ ?_ hu|refine' tuple_int _ _ ?_ hu|refine' tuple_str _ _ ?_ hu|refine' none_tuple ?_ hu);rotate_left;assumption)
  |(unfold W.dep at ht;omega)
  |skip
 rename_i i t z r
 unfold mF at he;cases he
 have:=str_str (A:=A) (s:=s) (tx i) t (tx z) r
 rw[<- sL]at this
 exact this
open SeqAt.RcAt in
theorem Mf{a b:W}{k:Bool}(ha:Sh s a u)(hb:Sh s b v)(hu:A.units<cLine)(ht:b.dep=0\/a.dep=0)(he:mF a b=some k):SeqAt.RcAt A s u v k:=by
 cases ha<;>cases hb<;>first
  |(unfold mF at he;cases he;done)
  |(unfold mF at he;cases he;with_reducible first|exact none_none|exact bool_none _|exact bool_bool _ _|exact bool_int _ _ _|exact bool_str _ _ _|exact int_none _ _|exact int_bool _ _ _|exact int_int _ _ _ _|exact int_str _ _ _ _|exact str_none _ _|exact str_bool _ _ _|exact str_int _ _ _ _|exact none_bool _|exact none_int _ _|exact none_str _ _)
  |(unfold mF at he;cases he;(with_reducible first|refine' bool_tuple _ ?_ hu|refine' int_tuple _ _ ?_ hu|refine' str_tuple _ _ ?_ hu|refine' tuple_none ?_ hu|refine' tuple_bool _ ?_ hu|refine' tuple_int _ _ ?_ hu|refine' tuple_str _ _ ?_ hu|refine' none_tuple ?_ hu);rotate_left;assumption)
  |(unfold W.dep at ht;omega)
  |skip
 rename_i i t z r
 unfold mF at he;cases he
 have:=str_str (A:=A) (s:=s) (tx i) t (tx z) r
 rw[<- sL]at this
 exact this
open SeqAt.RcNeAt in
theorem GM         {a b:W}  {k:Bool} (ha : Sh s a u) (hb : Sh s b v) (hu : A.units < cLine) (ht : b.dep = 0 \/ a.dep = 0) (he : mF  a b = some k) : SeqAt.RcNeAt A s u v (!k) := by
  cases ha <;> cases hb <;> first
    | (unfold mF  at he; cases he; done)
    | (unfold mF  at he; cases he; try simp only [Bool.not_true, Bool.not_false]
       with_reducible first | exact none_none | exact bool_none _ | exact bool_bool _ _ | exact bool_int _ _ _ | exact bool_str _ _ _ | exact int_none _ _ | exact int_bool _ _ _ | exact int_int _ _ _ _ | exact int_str _ _ _ _ | exact str_none _ _ | exact str_bool _ _ _ | exact str_int _ _ _ _ | exact none_bool _ | exact none_int _ _ | exact none_str _ _)
    | (unfold mF  at he; cases he; try simp only [Bool.not_true, Bool.not_false]
       (with_reducible first | refine' bool_tuple _ ?_ hu | refine' int_tuple _ _ ?_ hu | refine' str_tuple _ _ ?_ hu | refine' tuple_none ?_ hu | refine' tuple_bool _ ?_ hu | refine' tuple_int _ _ ?_ hu | refine' tuple_str _ _ ?_ hu | refine' none_tuple ?_ hu); rotate_left; assumption)
    | (unfold W.dep at ht; omega)
    | skip
  rename_i i t z r
  unfold mF  at he; cases he
  have := str_str (A := A) (s := s) (tx i) t (tx z) r
  rw [<- sL           ] at this
  exact this
theorem Ce{i z:List W}{E6:List V}{its':List Value}{e:Nat->Bool}{A:Around}{m:Nat}(ih:∀(a b:W) (A:Around) (x y:V) (u v:Value) (k:Bool),a.dep<=m->b8 X.K μ H a x->b8 X.K μ H b y->dN nk x u->dN nk y v->A.units+m<cLine->mF a b=some k->SeqAt.EqAt A s u v k)
  (r':RelWs X.K μ H i E6) (r:RelWs X.K μ H z vs) (w':cQ nk E6 its') (w:cQ nk vs b9) (hd:depWs i<=m) (hu:A.units+1+m<cLine) (h1:∀j (h1:j<i.length) (h2:j<z.length),mF i[j] z[j]=some (e j)):∀j (j1:j<its'.toArray.size) (j2:j<b9.toArray.size),SeqAt.EqAt A.in1 s its'.toArray[j] b9.toArray[j] (e j):=fun j j1 j2=>by
 have j1':j<i.length:=by rw[r'.len,w'.length];simpa using j1
 have j2':j<z.length:=by rw[r.len,w.length];simpa using j2
 obtain⟨x1,g1,q1⟩:=r'.get (ao j1')
 obtain⟨x2,g2,q2⟩:=r.get (ao j2')
 obtain⟨u1,f1,v1⟩:=w'.get g1
 obtain⟨u2,f2,v2⟩:=w.get g2
 have E:=ih i[j] z[j] A.in1 x1 x2 u1 u2 (e j) (aO (u5 j1') hd) q1 q2 v1 v2 hu (h1 j j1' j2')
 have t1:its'.toArray[j]=u1:=by simpa using (ax.mp f1).2
 have t2:b9.toArray[j]=u2:=by simpa using (ax.mp f2).2
 rw[t1,t2];exact E
theorem Iu(I:bT X am σ H s):∀(n:Nat) (a b:W) (A:Around) (x y:V) (u v:Value) (k:Bool),a.dep<=n->b8 X.K μ H a x->b8 X.K μ H b y->dN s.toks x u->dN s.toks y v->A.units+n<cLine->mF a b=some k->SeqAt.EqAt A s u v k:=by
 intro n
 induction n with
 |zero=>exact fun a b A x y u v k hn ra rb ru rv hu he=>FD (vW I ra ru) (vW I rb rv) hu (.inr (by omega)) he
 |succ m ih=>
  intro a b A x y u v k hn ra rb ru rv hu he
  by_cases hb:b.dep=0\/a.dep=0
  ·exact FD (vW I ra ru) (vW I rb rv) #[0] hb he
  ·cases b with
   |tup z=>
    cases a with
    |tup i=>
     obtain⟨p',E6,rfl,hS',r'⟩:=id ra.tupE;cases ru;obtain⟨its',w',ht',_⟩:=I.tuple hS'
     obtain⟨p,vs,rfl,hS,r⟩:=id rb.tupE;cases rv;obtain⟨b9,w,ht,_⟩:=I.tuple hS
     by_cases Aa:p'=p
     ·subst Aa
      rw[Ir I (m+1) (.tup i) (.tup z) (.ref p') k hn ra rb he]
      exact SeqAt.EqAt.same _
     ·obtain⟨e,h1,h2⟩:=sP i z k (by unfold mF at he;exact he)
      have R:=SeqAt.RcAt.tuples (A:=A) (e:=e) ht' ht #[0] (Ce ih r' r w' w (by unfold W.dep at hn;omega) #[0] h1)
      rw[show its'.toArray.size=i.length by simp[<- w'.length,<- r'.len],show b9.toArray.size=z.length by simp[<- w.length,<- r.len],h2]at R
      exact SeqAt.EqAt.of_refs Aa R
    |_=>exact(hb (.inr rfl)).elim
   |_=>exact(hb (.inl rfl)).elim
theorem Iv(I:bT X am σ H s){a b:W}{x y:V}{k:Bool}(hn:b.dep=0\/a.dep<=n)(ra:b8 X.K μ H a x)(rb:b8 X.K μ H b y)(ru:dN s.toks x u)(rv:dN s.toks y v)(hu:A.units+n<cLine)(he:mF a b=some k):SeqAt.RcAt A s u v k/\SeqAt.RcNeAt A s u v (!k):=by
 by_cases hb:b.dep=0\/a.dep=0
 ·exact⟨Mf (vW I ra ru) (vW I rb rv) #[0] hb he,GM (vW I ra ru) (vW I rb rv) #[0] hb he⟩
 cases b with
 |tup z=>
  cases a with
  |tup i=>
   obtain⟨p',E6,rfl,hS',r'⟩:=ra.tupE;cases ru;obtain⟨its',w',ht',_⟩:=I.tuple hS'
   obtain⟨p,vs,rfl,hS,r⟩:=rb.tupE;cases rv;obtain⟨b9,w,ht,_⟩:=I.tuple hS
   obtain⟨e,h1,h2⟩:=sP i z k (by unfold mF at he;exact he)
   have hd:depWs i+1<=n:=hn.elim (fun z=>(hb (.inl z)).elim) id
   obtain⟨m,rfl⟩:∃m,n=m+1:=⟨n-1,by omega⟩
   have T:=Ce (A:=A) (Iu I m) r' r w' w #[0] #[0] h1
   have R:=SeqAt.RcAt.tuples (A:=A) (e:=e) ht' ht #[0] T
   have R2:=SeqAt.RcNeAt.tuples (A:=A) (e:=e) ht' ht #[0] T
   rw[show its'.toArray.size=i.length by simp[<- w'.length,<- r'.len],show b9.toArray.size=z.length by simp[<- w.length,<- r.len],h2]at R R2
   exact⟨R,R2⟩
  |_=>exact(hb (.inr rfl)).elim
 |_=>exact(hb (.inl rfl)).elim
end
def iK:W->W->List ar->R W:=fun x y st=>match mF x y with
 |some k=>if y.dep=0\/x.dep<=64 then .ok (.bl k) st else .bad
 |none=>.bad
theorem g_(hr:kg k X.A):yD X (compareOp .Eq) iK:=⟨fun am s σ H x y v u Q I rv ru zq=>by
 walk_at "10"
 unfold iK at q
 cases e:mF wx wy with
 |none=>rw[e]at q;exact q.elim
 |some b=>
  rw[e]at q
  simp only at q
  by_cases c:wy.dep=0\/wx.dep<=64
  ·rw[aJ c]at q
   have:=hr.units
   exact(Iv I c rx ry rv ru this e).1 X.prog X.w X.xe _ ⟨.bl b,H,I,rfl,qF S q⟩
  ·rw[aW c]at q;exact q.elim,fun x y st=>by
 unfold iK
 split
 ·split<;>trivial
 ·trivial⟩
def Ni:W->W->List ar->R W:=fun x y st=>match mF x y with
 |some k=>if y.dep=0\/x.dep<=64 then .ok (.bl (!k)) st else .bad
 |none=>.bad
theorem Tt(hr:kg k X.A):yD X (compareOp .NotEq) Ni:=⟨fun am s σ H x y v u Q I rv ru zq=>by
 walk_at "10"
 unfold Ni at q
 cases e:mF wx wy with
 |none=>rw[e]at q;exact q.elim
 |some b=>
  rw[e]at q
  simp only at q
  by_cases c:wy.dep=0\/wx.dep<=64
  ·rw[aJ c]at q
   have:=hr.units
   exact(Iv I c rx ry rv ru this e).2 X.prog X.w X.xe _ ⟨.bl (!b),H,I,rfl,qF S q⟩
  ·rw[aW c]at q;exact q.elim,fun x y st=>by
 unfold Ni
 split
 ·split<;>trivial
 ·trivial⟩
def yO(x:W):List W->Option Bool
 |[]=>some false
 |y::ys=>match mF y x,yO x ys with
  |some a,some b=>some (a||b)
  |_,_=>none
def Ho(Vd:Bool)(x y:W)(st:List ar):R W:=match y with
 |.str l=>(match x with
  |.str [c]=>.ok (.bl (if Vd then !decide (c∈l)else decide (c∈l))) st
  |_=>.bad)
 |.tup ys=>(match yO x ys with
  |some k=>if depWs ys<=63 then .ok (.bl (if Vd then !k else k)) st else .bad
  |none=>.bad)
 |.loc n=>(match st[n]? with
  |some (.lst ys)=>(match yO x ys with
   |some k=>if depWs ys<=63 then .ok (.bl (if Vd then !k else k)) st else .bad
   |none=>.bad)
  |_=>.bad)
 |_=>.bad
theorem Cf{x:W}:∀{ys:List W} {k:Bool},yO x ys=some k->(∀(j:Nat) w,ys[j]?=some w->∃b,mF w x=some b)/\(k=true↔∃(j:Nat) (w:W),ys[j]?=some w/\mF w x=some true)
 |[],k,h=>by
  unfold yO at h;cases h
  exact⟨fun j w e=>by simp at e,fun z=>(by cases z),fun⟨j,w,e,_⟩=>(by simp at e)⟩
 |y::ys,k,h=>by
  unfold yO at h
  cases e1:mF y x with
  |none=>rw[e1]at h;simp at h
  |some a=>
   cases e2:yO x ys with
   |none=>rw[e1,e2]at h;simp at h
   |some b=>
    rw[e1,e2]at h
    simp at h
    obtain⟨q1,q2⟩:=Cf e2
    refine⟨fun j w e=>?_,fun z=>?_,fun⟨j,w,e,f⟩=>?_⟩
    ·cases j with
     |zero=>simp at e;subst e;exact⟨a,e1⟩
     |succ j=>exact q1 j w (by simpa using e)
    ·rw[<- h]at z
     cases a with
     |true=>exact⟨0,y,rfl,e1⟩
     |false=>
      obtain⟨j,w,p,q⟩:=q2.mp (by simpa using z)
      exact⟨j+1,w,by simpa using p,q⟩
    ·rw[<- h]
     cases j with
     |zero=>simp at e;subst e;rw[e1]at f;cases f;rfl
     |succ j=>rw[q2.mpr ⟨j,w,by simpa using e,f⟩];simp
theorem xp(I:bT X am σ H s){wx:W}{x:V}(rx:b8 X.K μ H wx x)(rv:dN s.toks x v)(n:Nat){A:Around}(hu:A.units+n<cLine)
  {ys:List W} {vs:List V} {us:List Value} {k:Bool} (hd:depWs ys<=n) (rs:RelWs X.K μ H ys vs) (vK:cQ s.toks vs us) (ha:yO wx ys=some k):∃e:Value->Bool,(∀u,u∈us.toArray->SeqAt.EqAt A s u v (e u))/\us.toArray.any e=k:=by
 classical
 obtain⟨q1,q2⟩:=Cf ha
 have at':∀(j:Nat) (u:Value),us[j]?=some u->∃w b,ys[j]?=some w/\mF w wx=some b/\SeqAt.EqAt A s u v b:=fun j u e=>by
  have hj:j<ys.length:=by
   have h1:=(ax.mp e).1
   rw[rs.len,vK.length];exact h1
  obtain⟨b,hb⟩:=q1 j ys[j] (ao hj)
  obtain⟨y,g1,r1⟩:=rs.get (ao hj)
  obtain⟨u',f1,v1⟩:=vK.get g1
  rw[e]at f1;cases f1
  exact⟨_,b,ao hj,hb,Iu I n ys[j] wx A y x u v b (aO (u5 hj) hd) r1 rx v1 rv hu hb⟩
 refine⟨fun u=>decide (∃(j:Nat) (w:W),us[j]?=some u/\ys[j]?=some w/\mF w wx=some true),fun u hu=>?_,?_⟩
 ·by_cases c:∃(j:Nat) (w:W),us[j]?=some u/\ys[j]?=some w/\mF w wx=some true
  ·show SeqAt.EqAt A s u v (decide _)
   rw[bg c]
   obtain⟨j,w,e1,e2,e3⟩:=c
   obtain⟨w',b,f1,f2,f3⟩:=at' j u e1
   rw[e2]at f1;cases f1
   rw[e3]at f2;cases f2
   exact f3
  ·show SeqAt.EqAt A s u v (decide _)
   rw[a7 c]
   obtain⟨j,hj,e⟩:=List.mem_iff_getElem.mp (show u∈us by simpa using hu)
   have e':us[j]?=some u:=by rw[ao hj,e]
   obtain⟨w',b,f1,f2,f3⟩:=at' j u e'
   cases b with
   |false=>exact f3
   |true=>exact absurd ⟨j,w',e',f1,f2⟩ c
 ·rw[List.any_toArray]
  cases k with
  |true=>
   obtain⟨j,w,e1,e2⟩:=q2.mp rfl
   have hj:j<us.length:=by rw[<- vK.length,<- rs.len];exact(ax.mp e1).1
   exact List.any_eq_true.mpr ⟨us[j],ef hj,bg ⟨j,w,ao hj,e1,e2⟩⟩
  |false=>
   refine List.any_eq_false.mpr fun u _ c=>?_
   obtain⟨j,w,_,e1,e2⟩:=of_decide_eq_true c
   have:=q2.mpr ⟨j,w,e1,e2⟩
   cases this
theorem Mg(hr:kg k X.A):yD X (compareOp .In) (Ho false):=⟨fun am s σ H x y v u Q I rv ru zq=>by
 walk_at "10"
 have hu:=hr.units
 cases wy with
 |str l=>
  simp only[Ho]at q
  split at q
  ·exact Gy am s σ H x y v u Q I rv ru ⟨_,_,rx.strE,ry.strE,qF S q⟩
  ·exact q.elim
 |tup ys=>
  simp only[Ho]at q
  cases hk:yO wx ys with
  |none=>rw[hk]at q;exact q.elim
  |some kk=>
   rw[hk]at q
   simp only at q
   by_cases c:depWs ys<=63
   ·rw[aJ c]at q
    obtain⟨p,vs,rfl,hS,r⟩:=ry.tupE
    cases ru
    obtain⟨b9,w,ht,_⟩:=I.tuple hS
    obtain⟨e,he,ha⟩:=xp (A:=X.A.in1) I rx rv 63 (by show X.A.units+1+63<cLine;omega) c r w hk
    exact SeqAt.in_tupleAt e ht he ⟨.bl _,H,I,rfl,by rw[ha];exact qF S q⟩
   ·rw[aW c]at q;exact q.elim
 |loc n=>
  simp only[Ho]at q
  cases e1:st[n]? with
  |none=>rw[e1]at q;exact q.elim
  |some cc=>
   rw[e1]at q
   cases cc with
   |lst ys=>
    simp only at q
    cases hk:yO wx ys with
    |none=>rw[hk]at q;exact q.elim
    |some kk=>
     rw[hk]at q
     simp only at q
     by_cases c:depWs ys<=63
     ·rw[aJ c]at q
      obtain⟨a1,g1,vs,k1,r⟩:=S.get e1
      obtain⟨b1,f1,rfl⟩:=ry.locE
      rw[g1]at f1;cases f1
      cases ru
      obtain⟨b9,w,ht,_⟩:=I.list (uQ.of k1)
      obtain⟨e,he,ha⟩:=xp (A:=X.A.in1) I rx rv 63 (by show X.A.units+1+63<cLine;omega) c r w hk
      exact SeqAt.in_listAt e ht.isList he ⟨.bl _,H,I,rfl,by rw[ha];exact qF S q⟩
     ·rw[aW c]at q;exact q.elim
   |_=>exact q.elim
 |_=>exact q.elim,fun x y st=>by
 unfold Ho
 repeat' split
 all_goals trivial⟩
end L2
namespace L2
open PySem PySem.Spec PyProof.Rows
section
variable{w:World}
theorem Cg{t sl:Addr}{items:Array Value}{vl vu:Value}{lo hi:Option Int}(ht:IsTup s.heap t items)(hs:s.heap.IsSliceOf sl vl vu .none)(pl:IsPart vl lo)(pu:IsPart vu hi)
  (hw:HT.sIx items.size 0 lo=0/\HT.sIx items.size items.size hi=items.size) (h:Q (.ref t) s):wpAny #[7] A (getItem (.ref t) (.ref sl)) Q E s:=by
 obtain⟨os,hos,hcs,Ot⟩:=id hs
 have hTs:s.TypeIs (.ref sl) "slice":=⟨os,hos,hcs⟩
 unfold getItem
 try with_reducible refine dI ?_
 first|refine ag (ay ?_)|skip
 refine ag (wpAny_sequenceKey ht.typeIs #[3] ?_)
 refine ag (ce (name:=Str.ofString "__getitem__") ht.typeIs eZ
  (cv eZ ht.typeIs entry_tuple_getitem ?_ (args_tuple_getitem _ _)))
 show wpAny _ _ (Builtin.Tuple.tupleItemsOf (.ref t) >>= _) _ _ s
 refine ag (tupleItemsOf_ ht ?_)
 refine ag (jn hTs ?_)
 rw[aJ #[3]]
 refine ag (HT.sliceApplied_gen hs pl pu ?_)
 have hyes:(((HT.sIx items.size 0 lo:Nat):Int)==0&&(1:Int)==1&&(HT.sIx items.size items.size hi-HT.sIx items.size 0 lo)==items.size)=true:=by
  rw[hw.1,hw.2];simp
 show wpAny _ _ (if (((HT.sIx items.size 0 lo:Nat):Int)==0&&(1:Int)==1&&(HT.sIx items.size items.size hi-HT.sIx items.size 0 lo)==items.size)=true then _ else _) _ _ s
 rw[aJ hyes]
 unfold Builtin.Tuple.tupleIsExact
 obtain⟨ot,hot,hct,nt,hdt⟩:=id ht
 refine ag (ag (jn (T:="tuple") ht.typeIs ?_))
 refine ay ?_
 rw[aJ #[3]]
 exact ag (lq (ay ⟨_,rfl,ay h⟩))
end
section
variable{a b c:Expr}{fb fc:FE}{fs:FA}
def lstOf(st:List ar)(n:Nat):Option (List W):=match st[n]? with
 |some (.lst ws)=>some ws
 |some (.ro ws)=>some ws
 |_=>none
theorem jO.lstOf(S:jO K mg μ st H)(h:lstOf st n=some ws):∃a vs,μ[n]?=some a/\uQ K H a vs/\RelWs K μ H ws vs:=by
 unfold L2.lstOf at h
 cases e:st[n]? with
 |none=>rw[e]at h;cases h
 |some cc=>
  rw[e]at h
  cases cc with
  |lst zs=>cases h;obtain⟨a,g,vs,k,r⟩:=S.get e;exact⟨a,vs,g,uQ.of k,r⟩
  |ro zs=>cases h;obtain⟨a,g,vs,k,r⟩:=S.get e;exact⟨a,vs,g,k.sq,r⟩
  |exc zs=>cases h
  |dct zs=>cases h
  |rod zs=>cases h
  |dcx zs=>cases h
  |rox zs=>cases h
  |obj _ _=>cases h
  |tab _ _ _=>cases h
  |pin _ _ _ _=>cases h
  |gone=>cases h
def u6(o:Option α)(k:α->R W):R W:=match o with
 |some a=>k a
 |none=>.bad
@[simp] theorem fy{α:Type}(a:α)(k:α->R W):u6 (some a) k=k a:=rfl
def bB(x y:W)(st:List ar):R W:=match x,y with
 |.tup ws,.int i=>u6 (uV ws i) fun w=>.ok w st
 |.str l,.int i=>if l.length<=oy then u6 (uV l i) (fun c=>.ok (.str [c]) st)else .bad
 |.loc n,.int i=>u6 (lstOf st n) fun ws=>u6 (uV ws i) fun w=>.ok w st
 |_,_=>.bad
theorem FF{i:Int}{w:W}(r:RelWs K μ H ws vs)(h:uV ws i=some w):∃v,uV vs i=some v/\b8 K μ H w v:=by
 unfold uV at h ⊢
 rw[<- r.len]
 cases e:Fj ws.length i with
 |none=>rw[e]at h;cases h
 |some k=>rw[e]at h;exact r.get h
theorem Wr:Le X (Wq X bB):=fun value slice am s σ H x y v u Q I rv ru zq hs=>by
 walk_at "10"
 refine Po value slice am s σ H x y v u Q I rv ru ?_ hs
 cases wy with
 |int i=>
  cases wx with
  |tup ws=>
   simp only[bB]at q
   cases e1:uV ws i with
   |none=>rw[e1]at q;exact q.elim
   |some w=>
    rw[e1]at q
    obtain⟨p,vs,rfl,hS,r⟩:=rx.tupE
    obtain⟨z,f,g⟩:=FF r e1
    exact .inr (.inl ⟨p,vs,i,z,rfl,ry.intE,hS,f,q μ z H (au _) fI.refl S g⟩)
  |str l=>
   simp only[bB]at q
   by_cases c:l.length<=oy
   ·rw[aJ c]at q
    cases e1:uV l i with
    |none=>rw[e1]at q;exact q.elim
    |some w=>
     rw[e1]at q
     exact .inr (.inr ⟨_,i,w,rx.strE,ry.intE,by rw[jN];exact qB c,by rw[Pr];exact e1,tO S q⟩)
   ·rw[aW c]at q;exact q.elim
  |loc n=>
   simp only[bB]at q
   cases e0:lstOf st n with
   |none=>rw[e0]at q;exact q.elim
   |some ws=>
    rw[e0]at q
    cases e1:uV ws i with
    |none=>rw[fy,e1]at q;exact q.elim
    |some w=>
     rw[fy,e1]at q
     obtain⟨a,vs,g,hS,r⟩:=S.lstOf e0
     obtain⟨b1,f1,rfl⟩:=rx.locE
     rw[g]at f1;cases f1
     obtain⟨z,f,g⟩:=FF r e1
     exact .inl ⟨_,vs,i,z,rfl,ry.intE,hS,f,q μ z H (au _) fI.refl S g⟩
  |_=>exact q.elim
 |_=>cases wx<;>exact q.elim
theorem vX{o:Option α}{k:α->R W}(h:∀a,wj (k a)):wj (u6 o k):=by
 unfold u6
 split
 ·exact h _
 ·trivial
theorem Tu(x y:W)(st:List ar):wj (bB x y st):=by
 unfold bB
 split
 ·exact vX fun _=>trivial
 ·split
  ·exact vX fun _=>trivial
  ·trivial
 ·exact vX fun _=>vX fun _=>trivial
 ·trivial
theorem bp(ha:SE X a fa)(hb:SE X b fb)(hs:Fl b:=by intro _ _;rfl):SE X (.Subscript a b pos) (e2 bB fa fb):=⟨(SR Wr ha.h hb.h hs).imp fun _ _ _ h=>Fz Tu h⟩
abbrev FO:=cL->List ar->R (Option Int)
abbrev Ws:List Addr->Hp->Option Int->Option Int->Prop:=fun _ _ a b=>a=b
structure SO(X:Cx)(e:Option Expr)(f:FO):Prop where
 h:PO X e (tG X Ws f)
def ik:FO:=fun _ st=>.ok none st
def fz(fa:FE):FO:=fun ρ st=>(fa ρ st).bind fun x st=>match x with
 |.int i=>.ok (some i) st
 |_=>.bad
theorem PO.imp{e:Option Expr}{t t':TO}(h:PO X e t)(i:∀σ H Q,t' σ H Q->t σ H Q):PO X e t':=fun am s σ H Q I q=>h am s σ H Q I (i _ _ _ q)
theorem fJ:SO X none ik:=⟨LO.imp fun σ H Q h=>by
 walk_at "2"
 exact h μ none H (au _) fI.refl l.sto rfl⟩
theorem dP(ha:SE X a fa):SO X (some a) (fz fa):=⟨(LP ha.h).imp fun σ H Q h=>by
 walk_at "2"
 walk_at "1"
 cases x with
 |int k=>exact⟨k,q1.intE,h1 μ1 _ H1 (au _) fI.refl l1.sto rfl⟩
 |_=>exact h1.elim⟩
def ko(xs:List α)(lo hi:Option Int):List α:=(xs.drop (HT.sIx xs.length 0 lo)).take (HT.sIx xs.length xs.length hi-HT.sIx xs.length 0 lo)
def yG(x:W)(lo hi:Option Int)(st:List ar):R W:=match x with
 |.tup ws=>.ok (.tup (ko ws lo hi)) st
 |.str l=>if l.length<=oy then .ok (.str (ko l lo hi)) st else .bad
 |.loc n=>u6 (lstOf st n) fun ws=>.ok (.loc st.length) (st++[.lst (ko ws lo hi)])
 |_=>.bad
theorem Tw(x:W)(lo hi:Option Int)(st:List ar):wj (yG x lo hi st):=by
 unfold yG u6
 repeat' split
 all_goals trivial
def sQ(fa:FE)(fl fh:FO):FE:=fun ρ st=>(fa ρ st).bind fun x st=>(fl ρ st).bind fun l st=>(fh ρ st).bind fun h st=>yG x l h st
theorem Wt:SN X (fun x lo hi H Q=>∃μ st wx,jO X.K X.mg μ st H/\b8 X.K μ H wx x/\Hl X μ H Q (yG wx lo hi st)):=by
 intro am s σ H x v vl vu lo hi sl Q I rv hs pl pu ⟨μ,st,wx,S,rx,q⟩
 cases wx with
 |tup ws=>
  obtain⟨p,vs,rfl,hS,r⟩:=rx.tupE
  have hl:=r.len
  by_cases hw:HT.sIx vs.length 0 lo=0/\HT.sIx vs.length vs.length hi=vs.length
  ·cases rv
   obtain⟨b9,w,ht,hz⟩:=I.tuple hS
   have gI:b9.toArray.size=vs.length:=by rw[aX];exact w.length.symm
   refine⟨"tuple",_,eZ.lookup,ht.typeIs,Cg ht hs pl pu (by rw[gI];exact hw) ⟨.ref p,H,I,rfl,?_⟩⟩
   have e:ko ws lo hi=ws:=by
    unfold ko
    rw[hl,hw.1,hw.2,List.drop_zero,Nat.sub_zero,<- hl,et]
   have q':Hl X μ H Q (.ok (.tup (ko ws lo hi)) st):=q
   rw[e]at q'
   exact q' μ _ H (au _) fI.refl S rx
  ·refine Pj am s σ H _ v vl vu lo hi sl Q I rv hs pl pu ⟨p,vs,rfl,hS,hw,fun p2 Lo=>?_⟩
   have x:=gG.same (K:=X.K) (c7 Lo (.tup (wX vs lo hi)))
   have rc:RelWs X.K μ H (ko ws lo hi) (wX vs lo hi):=by
    unfold ko wX
    rw[hl]
    exact(r.drop _).take _
   exact q μ _ _ (au _) x (S.same (c7 Lo _)) (.tupI gG.new (rc.mono (au _) x))
 |str l=>
  simp only[yG]at q
  by_cases c:l.length<=oy
  ·rw[aJ c]at q
   exact Pu am s σ H _ v vl vu lo hi sl Q I rv hs pl pu ⟨l,rx.strE,qB c,tO S q⟩
  ·rw[aW c]at q;exact q.elim
 |loc n=>
  simp only[yG]at q
  cases e0:lstOf st n with
  |none=>rw[e0]at q;exact q.elim
  |some ws=>
   rw[e0]at q
   obtain⟨a,vs,g,hS,r⟩:=S.lstOf e0
   obtain⟨b1,f1,rfl⟩:=rx.locE
   rw[g]at f1;cases f1
   have hl:=r.len
   refine LS am s σ H _ v vl vu lo hi sl Q I rv hs pl pu ⟨_,vs,rfl,hS,fun p2 Lo=>?_⟩
   have rc:RelWs X.K μ H (ko ws lo hi) (wX vs lo hi):=by
    unfold ko wX
    rw[hl]
    exact(r.drop _).take _
   exact q (μ++[p2]) _ _ (a_ _ _) (gG.same (c7 Lo _)) (S.newLst Lo rc) (qE S)
 |_=>exact q.elim
theorem mO{lo hi:Option Expr}{fl fh:FO}(ha:SE X a fa)(hl:SO X lo fl)(hh:SO X hi fh):SE X (.Subscript a (.Slice lo hi none p2) pos) (sQ fa fl fh):=⟨(HN Wt ha.h hl.h hh.h).imp fun σ H Q h=>by
 walk_at "2"
 refine⟨μ,ρ,st,l,RK.bind h l fun μ1 st1 x v H1 p1 x1 l1 q1 h1=>⟨μ1,ρ,st1,l1,RK.bind h1 l1 fun μ2 dz y u H2 p2 x2 l2 q2 h2=>⟨μ2,ρ,dz,l2,RK.bind h2 l2 fun μ3 nN z t H3 p3 x3 l3 q3 h3=>?_⟩⟩⟩
 cases q2;cases q3
 exact⟨μ3,nN,x,l3.sto,(q1.mono p2 x2).mono p3 x3,uZ h3 (Tw _ _ _ _)⟩⟩
def WZ(X:Cx)(F:List W->List ar->R W):List V->Hp->VK->Prop:=fun vs H Q=>∃μ st ws,jO X.K X.mg μ st H/\RelWs X.K μ H ws vs/\Hl X μ H Q (F ws st)
structure qG(X:Cx)(f:Value)(F:List W->List ar->R W):Prop where
 h:jo X f (WZ X F)
 n:∀ws st,wj (F ws st)
def bw(F:List W->List ar->R W)(fs:FA):FE:=fun ρ st=>(fs ρ st).bind fun ws st=>F ws st
theorem FH{Q:VK}(n:∀ws st,wj (F ws st))(h:tE X (bw F fs) σ H Q):V' (WZ X F) (Tj X fs) σ H Q:=by
 walk_at "2"
 exact⟨μ,ρ,st,l,RK.bind h l fun μ1 st1 x v H1 p1 x1 l1 q1 h1=>⟨μ1,st1,x,l1.sto,q1,uZ h1 (n _ _)⟩⟩
theorem bM{id:String}(hc:qG X (.builtin id) F)(hm:X.mg x=none)(hv:bootBuiltins x=some (.builtin id))(ha:SA X (e::es) fs)(hg:Gl X x:=by rfl)(hn:x ≠ "__name__":=by decide)(K_:#[43]=false:=by decide)
  (he:starEach (e::es) X.env=(false,eval e X.env)::starEach es X.env:=by rfl) (m7:(backTo pos #[64]).any (·.1)=false:=by rfl):SE X (.Call (.Name x p) (e::es) [] pos) (bw F fs):=⟨(qA hc.h hg hm hv ha.h hn K_ he m7).imp fun _ _ _ h=>FH hc.n h⟩
theorem fS(hc:qG X (.type T) F)(hm:X.mg x=none)(hv:bootBuiltins x=some (.type T))(ha:SA X (e::es) fs)(hg:Gl X x:=by rfl)(hn:x ≠ "__name__":=by decide)(K_:#[43]=false:=by decide)
  (he:starEach (e::es) X.env=(false,eval e X.env)::starEach es X.env:=by rfl) (m7:(backTo pos #[64]).any (·.1)=false:=by rfl):SE X (.Call (.Name x p) (e::es) [] pos) (bw F fs):=⟨(Gs hc.h hg hm hv ha.h hn K_ he m7).imp fun _ _ _ h=>FH hc.n h⟩
theorem RelWs.two{a b:W}(r:RelWs K μ H [a,b] vs):∃x y,vs=[x,y]/\b8 K μ H a x/\b8 K μ H b y:=by
 obtain⟨x,xs,rfl,rx,rn⟩:=r.consE
 obtain⟨y,ys,rfl,ry,rm⟩:=rn.consE
 rw[rm.nilE];exact⟨x,y,rfl,rx,ry⟩
theorem RelWs.one{a:W}(r:RelWs K μ H [a] vs):∃x,vs=[x]/\b8 K μ H a x:=by
 obtain⟨x,xs,rfl,rx,rn⟩:=r.consE
 rw[rn.nilE];exact⟨x,rfl,rx⟩
def dm(ws:List W)(st:List ar):R W:=match ws with
 |[.tup xs]=>.ok (.int xs.length) st
 |[.str l]=>if l.length<=oy then .ok (.int l.length) st else .bad
 |[.loc n]=>u6 (lstOf st n) fun xs=>.ok (.int xs.length) st
 |_=>.bad
theorem dF:qG X (.builtin "len") dm:=⟨fun am s σ H vs us Q I rv zq=>by
 obtain⟨μ,st,ws,S,r,q⟩:=zq
 unfold dm at q
 split at q
 ·obtain⟨x,rfl,rx⟩:=r.one
  obtain⟨p,ys,rfl,hS,r'⟩:=rx.tupE
  exact tI am s σ H _ us Q I rv ⟨p,ys,rfl,.inr hS,by rw[<- r'.len];exact mE S q⟩
 ·obtain⟨x,rfl,rx⟩:=r.one
  split at q
  ·rename_i c
   exact Am am s σ H _ us Q I rv ⟨_,by rw[rx.strE],by rw[jN];exact qB c,by rw[jN];exact mE S q⟩
  ·exact q.elim
 ·obtain⟨x,rfl,rx⟩:=r.one
  unfold u6 at q
  split at q
  ·rename_i ys e0
   obtain⟨a,vs,g,hS,r'⟩:=S.lstOf e0
   obtain⟨b1,f1,rfl⟩:=rx.locE
   rw[g]at f1;cases f1
   exact tI am s σ H _ us Q I rv ⟨_,vs,rfl,.inl hS,by rw[<- r'.len];exact mE S q⟩
  ·exact q.elim
 ·exact q.elim,fun ws st=>by
 unfold dm u6
 repeat' split
 all_goals trivial⟩
def Ea(ws:List W)(st:List ar):R W:=match ws with
 |[.int i,.int j]=>.ok (.int (if j>i then j else i)) st
 |_=>.bad
def GN(ws:List W)(st:List ar):R W:=match ws with
 |[.int i,.int j]=>.ok (.int (if j<i then j else i)) st
 |_=>.bad
theorem Tx(hc:X.calm=true:=by rfl):qG X (.builtin "max") Ea:=⟨fun am s σ H vs us Q I rv zq=>by
 obtain⟨μ,st,ws,S,r,q⟩:=zq
 unfold Ea at q
 split at q
 ·obtain⟨x,y,rfl,rx,ry⟩:=r.two
  exact Gj hc am s σ H _ us Q I rv ⟨_,_,by rw[rx.intE,ry.intE],mE S q⟩
 ·exact q.elim,fun ws st=>by unfold Ea;split<;>trivial⟩
theorem Tz(hc:X.calm=true:=by rfl):qG X (.builtin "min") GN:=⟨fun am s σ H vs us Q I rv zq=>by
 obtain⟨μ,st,ws,S,r,q⟩:=zq
 unfold GN at q
 split at q
 ·obtain⟨x,y,rfl,rx,ry⟩:=r.two
  exact Gk hc am s σ H _ us Q I rv ⟨_,_,by rw[rx.intE,ry.intE],mE S q⟩
 ·exact q.elim,fun ws st=>by unfold GN;split<;>trivial⟩
def iX(ws:List W)(st:List ar):R W:=match ws with
 |[.tup xs]=>.ok (.tup xs) st
 |[.loc n]=>u6 (lstOf st n) fun xs=>.ok (.tup xs) st
 |_=>.bad
theorem kr:qG X (.type "tuple") iX:=⟨fun am s σ H vs us Q I rv zq=>by
 obtain⟨μ,st,ws,S,r,q⟩:=zq
 unfold iX at q
 split at q
 ·obtain⟨x,rfl,rx⟩:=r.one
  obtain⟨p,ys,rfl,hS,r'⟩:=id rx.tupE
  exact BN am s σ H _ us Q I rv ⟨p,ys,rfl,hS,q μ _ H (au _) fI.refl S rx⟩
 ·obtain⟨x,rfl,rx⟩:=r.one
  unfold u6 at q
  split at q
  ·rename_i ys e0
   obtain⟨a,vs,g,hS,r'⟩:=S.lstOf e0
   obtain⟨b1,f1,rfl⟩:=rx.locE
   rw[g]at f1;cases f1
   refine BR am s σ H _ us Q I rv ⟨_,vs,rfl,hS,fun l H2 hl e=>?_⟩
   subst e
   have x:=gG.same (K:=X.K) (c7 hl (.tup vs))
   exact q μ _ _ (au _) x (S.same (c7 hl _)) (.tupI gG.new (r'.mono (au _) x))
  ·exact q.elim
 ·exact q.elim,fun ws st=>by
 unfold iX u6
 repeat' split
 all_goals trivial⟩
def zv(ws:List W)(st:List ar):R W:=match ws with
 |[.tup xs]=>.ok (.loc st.length) (st++[.lst xs])
 |[.loc n]=>u6 (lstOf st n) fun xs=>.ok (.loc st.length) (st++[.lst xs])
 |_=>.bad
theorem PR:qG X (.type "list") zv:=⟨fun am s σ H vs us Q I rv zq=>by
 obtain⟨μ,st,ws,S,r,q⟩:=zq
 unfold zv at q
 split at q
 ·obtain⟨x,rfl,rx⟩:=r.one
  obtain⟨p,ys,rfl,hS,r'⟩:=id rx.tupE
  refine xa am s σ H _ us Q I rv ⟨p,ys,rfl,.inr hS,fun l H2 hl e=>?_⟩
  subst e
  exact q (μ++[l]) _ _ (a_ _ _) (gG.same (c7 hl _)) (S.newLst hl r') (qE S)
 ·obtain⟨x,rfl,rx⟩:=r.one
  unfold u6 at q
  split at q
  ·rename_i ys e0
   obtain⟨a,vs,g,hS,r'⟩:=S.lstOf e0
   obtain⟨b1,f1,rfl⟩:=rx.locE
   rw[g]at f1;cases f1
   refine xa am s σ H _ us Q I rv ⟨_,vs,rfl,.inl hS,fun l H2 hl e=>?_⟩
   subst e
   exact q (μ++[l]) _ _ (a_ _ _) (gG.same (c7 hl _)) (S.newLst hl r') (qE S)
  ·exact q.elim
 ·exact q.elim,fun ws st=>by
 unfold zv u6
 repeat' split
 all_goals trivial⟩
def GO(ws:List W)(st:List ar):R W:=match ws with
 |[.int i]=>.ok (.int i) st
 |[.bl k]=>.ok (.int (if k then 1 else 0)) st
 |_=>.bad
theorem Nj:qG X (.type "int") GO:=⟨fun am s σ H vs us Q I rv zq=>by
 obtain⟨μ,st,ws,S,r,q⟩:=zq
 unfold GO at q
 split at q
 ·obtain⟨x,rfl,rx⟩:=r.one
  exact zh am s σ H _ us Q I rv (.inl ⟨_,by rw[rx.intE],mE S q⟩)
 ·obtain⟨x,rfl,rx⟩:=r.one
  exact zh am s σ H _ us Q I rv (.inr ⟨_,by rw[rx.blE],mE S q⟩)
 ·exact q.elim,fun ws st=>by unfold GO;split<;>trivial⟩
end
section
variable{a b c:Expr}{fb fc:FE}{fs:FA}{ft:FT}{st1:Stmt}{sr sa sb:List Stmt}{g g':FS}
def aK(g g':FS):FS:=fun ρ st=>match g ρ st with
 |.nx ρ' bt=>g' ρ' bt
 |r=>r
def bW:FS:=fun ρ st=>.nx ρ st
theorem bX:SB X [] bW:=⟨Lw.imp fun D σ H h=>by
 walk_at "2"
 exact h μ σ H (au _) fI.refl l⟩
theorem aE(h1:SS X st1 g):SB X [st1] g:=⟨Lx h1.h⟩
theorem av(h1:SS X st1 g)(h2:SB X sr g'):SB X (st1::sr) (aK g g'):=⟨(Hw h1.h h2.h).imp fun D σ H h=>by
 walk_at "2"
 refine⟨μ,ρ,st,l,?_⟩
 unfold aK at h
 cases e:g ρ st with
 |nx ρ' bt=>rw[e]at h;exact fun μ' σ' H' p x l'=>⟨μ',ρ',bt,l',SK.mono h p x⟩
 |rt w bt=>rw[e]at h;exact h
 |bk ρ' bt=>rw[e]at h;exact h
 |ct ρ' bt=>rw[e]at h;exact h
 |ex c ρ' bt=>rw[e]at h;exact h
 |bad=>rw[e]at h;exact h⟩
def Eb:FS:=fun ρ st=>.bk ρ st
def Iw:FS:=fun ρ st=>.ct ρ st
theorem Iy:SS X (.Break pos) Eb:=⟨Hy.imp fun D σ H h=>by
 walk_at "2"
 exact h μ σ H (au _) fI.refl l⟩
theorem Ch:SS X (.Continue pos) Iw:=⟨BM.imp fun D σ H h=>by
 walk_at "2"
 exact h μ σ H (au _) fI.refl l⟩
def R.stmt(r:R α)(ρ:cL)(k:α->List ar->RS):RS:=match r with
 |.ok a st=>k a st
 |.ex c st=>.ex c ρ st
 |.bad=>.bad
@[simp] theorem R.stmt_ok{α:Type}(a:α)(st:List ar)(ρ:cL)(k:α->List ar->RS):(R.ok a st).stmt ρ k=k a st:=rfl
theorem RK.stmt{rel:List Addr->Hp->α->β->Prop}{D:Ah}{r:R α}{k:α->List ar->RS}{T:β->Hp->Prop}
  (h:SK X μ H D (r.stmt ρ k)) (l:Rl X μ ρ st σ H)
  (hk:∀μ' bt x v H',μ <+: μ'->fI X.K H H'->Rl X μ' ρ bt σ H'->rel μ' H' x v->SK X μ' H' D (k x bt)->T v H'):RK X rel μ σ H T r:=by
 cases r with
 |ok a bt=>exact fun μ' b H' p x s q=>hk μ' bt a b H' p x (l.to p x s) q (SK.mono h p x)
 |ex c bt=>exact XS.toE h l
 |bad=>exact h
def cU(fe:FE):FS:=fun ρ st=>(fe ρ st).stmt ρ fun _ st=>.nx ρ st
theorem cy(he:SE X e fe)(hs:swapsWith e none pos.line X.env=pure false:=by rfl):SS X (.Expr e pos) (cU fe):=⟨(Ly he.h hs).imp fun D σ H h=>by
 walk_at "2"
 exact⟨μ,ρ,st,l,RK.stmt h l fun μ1 st1 x v H1 p1 x1 l1 q1 h1=>h1 μ1 σ H1 (au _) fI.refl l1⟩⟩
def cM(fe:FE):FS:=fun ρ st=>(fe ρ st).stmt ρ fun w st=>.rt w st
theorem bn(he:SE X e fe):SS X (.Return (some e) pos) (cM fe):=⟨(OT he.h).imp fun D σ H h=>by
 walk_at "2"
 exact⟨μ,ρ,st,l,RK.stmt h l fun μ1 st1 x v H1 p1 x1 l1 q1 h1=>h1 μ1 v H1 (au _) fI.refl l1.sto q1⟩⟩
def fK(t:FT)(g g':FS):FS:=fun ρ st=>(t ρ st).stmt ρ fun k st=>if k then g ρ st else g' ρ st
theorem cz(hc:ST X c ft)(ha:SB X sa g)(hb:SB X sb g'):SS X (.If c sa sb pos) (fK ft g g'):=⟨(So hc.h ha.h hb.h).imp fun D σ H h=>by
 walk_at "2"
 refine⟨μ,ρ,st,l,RK.stmt h l fun μ1 st1 x v H1 p1 x1 l1 q1 h1=>?_⟩
 cases q1
 cases x with
 |true=>exact⟨μ1,ρ,st1,l1,h1⟩
 |false=>exact⟨μ1,ρ,st1,l1,h1⟩⟩
abbrev FG:=W->cL->Option cL
abbrev Nk:=List W->cL->Option cL
def TB(X:Cx)(f:FG):TG:=fun v σ H Q=>∃μ ρ st w ρ',Rl X μ ρ st σ H/\b8 X.K μ H w v/\f w ρ=some ρ'/\∀σ',Rl X μ ρ' st σ' H->Q σ' H
def Wu(X:Cx)(f:Nk):Lz:=fun vs σ H Q=>∃μ ρ st ws ρ',Rl X μ ρ st σ H/\RelWs X.K μ H ws vs/\f ws ρ=some ρ'/\∀σ',Rl X μ ρ' st σ' H->Q σ' H
theorem PG.imp{t t':TG}(h:PG X e t)(i:∀v σ H Q,t' v σ H Q->t v σ H Q):PG X e t':=fun am s σ H x u Q I r q=>h am s σ H x u Q I r (i _ _ _ _ q)
theorem M9.imp{e:List Expr}{t t':Lz}(h:M9 X e t)(i:∀v σ H Q,t' v σ H Q->t v σ H Q):M9 X e t':=fun am s σ H x u Q I r q=>h am s σ H x u Q I r (i _ _ _ _ q)
structure SG(X:Cx)(e:Expr)(f:FG):Prop where
 h:PG X e (TB X f)
structure Vw(X:Cx)(e:List Expr)(f:Nk):Prop where
 h:M9 X e (Wu X f)
def jy(i:Nat):FG:=fun w ρ=>some (ρ.set i (some w))
theorem FJ(hN:X.N.Nodup)(hi:X.N[i]?=some x)(hx:Ld X.env.scope x)(hf:X.fn x=true\/X.env.scope.names.lookup x=some .local:=by first|exact .inl rfl|exact .inr rfl|assumption):SG X (.Name x pos) (jy i):=⟨(LB hN hi hx hf).imp fun v σ H Q h=>by
 obtain⟨μ,ρ,st,w,ρ',l,r,e,q⟩:=h
 cases e
 exact q _ ⟨tL r i l.env,l.sto⟩⟩
def nG:Nk:=fun ws ρ=>match ws with
 |[]=>some ρ
 |_=>none
def eG(f:FG)(fs:Nk):Nk:=fun ws ρ=>match ws with
 |w::ws=>(f w ρ).bind fun ρ'=>fs ws ρ'
 |[]=>none
theorem jE:Vw X [] nG:=⟨LC.imp fun vs σ H Q h=>by
 obtain⟨μ,ρ,st,ws,ρ',l,r,e,q⟩:=h
 cases ws with
 |nil=>cases e;exact⟨r.nilE,q σ l⟩
 |cons _ _=>cases e⟩
theorem dA{f:FG}{fs:Nk}(h1:SG X e f)(h2:Vw X es fs)(hs:(assignEach (e::es) X.env).map (·.2)=assign e X.env::(assignEach es X.env).map (·.2):=by rfl):Vw X (e::es) (eG f fs):=⟨(HA h1.h h2.h hs).imp fun vs σ H Q h=>by
 obtain⟨μ,ρ,st,ws,ρ',l,r,e,q⟩:=h
 cases ws with
 |nil=>cases e
 |cons w ws=>
  obtain⟨x,xs,rfl,rx,rs⟩:=r.consE
  simp only[eG]at e
  cases e1:f w ρ with
  |none=>rw[e1]at e;cases e
  |some ρ1=>
   rw[e1]at e
   exact⟨x,xs,rfl,μ,ρ,st,w,ρ1,l,rx,e1,fun σ1 l1=>⟨μ,ρ1,st,ws,ρ',l1,rs,e,q⟩⟩⟩
def Ec(n:Nat)(fs:Nk):FG:=fun w ρ=>match w with
 |.tup ws=>if ws.length=n then fs ws ρ else none
 |_=>none
theorem lV{k:Nat}{fs:Nk}(hc:X.calm=true)(h:Vw X es fs)(hn:(assignEach es X.env).length=n:=by rfl)(pM:(assignEach es X.env).findIdx? (·.1)=none:=by rfl):SG X (.Tuple es k pos) (Ec n fs):=⟨(OU hc h.h hn pM).imp fun v σ H Q h=>by
 obtain⟨μ,ρ,st,w,ρ',l,r,e,q⟩:=h
 cases w with
 |tup ws=>
  obtain⟨p,vs,rfl,hS,rs⟩:=r.tupE
  simp only[Ec]at e
  by_cases c:ws.length=n
  ·rw[aJ c]at e
   exact⟨p,vs,rfl,hS,by rw[<- rs.len];exact c,μ,ρ,st,ws,ρ',l,rs,e,q⟩
  ·rw[aW c]at e;cases e
 |_=>cases e⟩
def tP(fe:FE)(f:FG):FS:=fun ρ st=>(fe ρ st).stmt ρ fun w st=>match f w ρ with
 |some ρ'=>.nx ρ' st
 |none=>.bad
theorem TC{f:FG}{D:Ah}(h:Vv X (tP fe f) D σ H):HB (tE X fe) (TB X f) D σ H:=by
 walk_at "2"
 refine⟨μ,ρ,st,l,RK.stmt h l fun μ1 st1 x v H1 p1 x1 l1 q1 h1=>?_⟩
 cases e1:f x ρ with
 |none=>rw[e1]at h1;exact h1.elim
 |some ρ'=>rw[e1]at h1;exact⟨μ1,ρ,st1,x,ρ',l1,q1,e1,fun σ' l'=>h1 μ1 σ' H1 (au _) fI.refl l'⟩
theorem xq{f:FG}(he:SE X e fe)(hg:SG X tg f)(hs:swapsWithSole [tg] e pos.line X.env=pure false:=by rfl)(hw:swappedStores [tg] e X.env=pure none:=by rfl)(h1:(assignEach [tg] X.env).map (·.2)=[assign tg X.env]:=by rfl):SS X (.Assign [tg] e pos) (tP fe f):=⟨(HC he.h hg.h hs hw h1).imp fun D σ H h=>TC h⟩
def bf(i:Nat)(fe:FE):FS:=fun ρ st=>(fe ρ st).stmt ρ fun w st=>.nx (ρ.set i (some w)) st
theorem PU(hN:X.N.Nodup)(hi:X.N[i]?=some x)(hx:Ld X.env.scope x)(he:SE X e fe)(hs:swapsWith e (some (.Name x jl)) pos.line X.env=pure false:=by rfl)(hf:X.fn x=true\/X.env.scope.names.lookup x=some .local:=by first|exact .inl rfl|exact .inr rfl|assumption) :
  SS X (.Assign [.Name x jl] e pos) (bf i fe):=⟨(OW hN hi hx he.h hs hf).imp fun D σ H h=>by
 walk_at "2"
 exact⟨μ,ρ,st,l,RK.stmt h l fun μ1 st1 x v H1 p1 x1 l1 q1 h1=>h1 μ1 _ H1 (au _) fI.refl ⟨tL q1 i l1.env,l1.sto⟩⟩⟩
def sf(x i v:W)(st:List ar):Option (List ar):=match x,i with
 |.loc n,.int k=>(match st[n]? with
  |some (.lst ws)=>(Fj ws.length k).map fun j=>st.set n (.lst (ws.set j v))
  |_=>none)
 |_,_=>none
def Ci(fo fi fe:FE)(f:W->W->W->List ar->Option (List ar)):FS:=fun ρ st=>(fe ρ st).stmt ρ fun v st=>(fo ρ st).stmt ρ fun x st=>(fi ρ st).stmt ρ fun i st=>match f x i v st with
 |some bt=>.nx ρ bt
 |none=>.bad
def Nl(X:Cx)(f:W->W->W->List ar->Option (List ar)):LA:=fun o i v H Q=>∃μ st wo wi wv bt,jO X.K X.mg μ st H/\b8 X.K μ H wo o/\b8 X.K μ H wi i/\b8 X.K μ H wv v/\f wo wi wv st=some bt/\∀H',fI X.K H H'->jO X.K X.mg μ bt H'->Q H'
theorem Ed:Hz X (Nl X sf):=fun am s σ H o i v ov iv u Q I r1 r2 r3 zq=>by
 obtain⟨μ,st,wo,wi,wv,bt,S,ro,ri,rv,e,q⟩:=zq
 cases wo with
 |loc n=>
  cases wi with
  |int k=>
   simp only[sf]at e
   cases e1:st[n]? with
   |none=>rw[e1]at e;cases e
   |some cc=>
    rw[e1]at e
    cases cc with
    |lst ws=>
     simp only at e
     cases e2:Fj ws.length k with
     |none=>rw[e2]at e;cases e
     |some jj=>
      rw[e2]at e
      cases e
      obtain⟨a1,g1,vs,k1,r⟩:=S.get e1
      obtain⟨b1,f1,rfl⟩:=ro.locE
      rw[g1]at f1;cases f1
      refine GA am s σ H _ i v ov iv u Q I r1 r2 r3 ⟨a1,vs,k,jj,rfl,ri.intE,k1,by rw[<- r.len];exact e2,fun H2 eH=>?_⟩
      subst eH
      exact q _ (gG.but nz k1) (S.set e1 g1 k1 (r.setI jj rv))
    |_=>cases e
  |_=>cases e
 |_=>cases wi<;>cases e
theorem Ee{f:W->W->W->List ar->Option (List ar)}{i:Expr}{fi:FE}(RF:Hz X (Nl X f))(he:SE X e fe)(ho:SE X o fo)(hi:SE X i fi)
  (ha:∀v,assign (.Subscript o i jl) X.env v=(do
   let ov <- holding [v] (eval o X.env)
   let iv <- holding [v,ov] (eval i X.env)
   standAt jl
   holding [v,ov,iv] (setItem ov iv v)
   release [v,ov,iv] []):=by intro _;rfl)
  (hs:swapsWithSole [.Subscript o i jl] e pos.line X.env=pure false:=by rfl) (hw:swappedStores [.Subscript o i jl] e X.env=pure none:=by rfl) (h1:(assignEach [.Subscript o i jl] X.env).map (·.2)=[assign (.Subscript o i jl) X.env]:=by rfl) :
  SS X (.Assign [.Subscript o i jl] e pos) (Ci fo fi fe f):=⟨(HC he.h (OV ho.h hi.h RF ha) hs hw h1).imp fun D σ H h=>by
 walk_at "2"
 refine⟨μ,ρ,st,l,RK.stmt h l fun μ1 st1 v vv H1 p1 x1 l1 q1 h1=>⟨μ1,ρ,st1,l1,RK.stmt h1 l1 fun μ2 dz x xv H2 p2 x2 l2 q2 h2=>⟨μ2,ρ,dz,l2,RK.stmt h2 l2 fun μ3 nN i iv H3 p3 x3 l3 q3 h3=>?_⟩⟩⟩
 cases e1:f x i v nN with
 |none=>rw[e1]at h3;exact h3.elim
 |some bt=>
  rw[e1]at h3
  exact⟨μ3,nN,x,i,v,bt,l3.sto,q2.mono p3 x3,q3,(q1.mono p2 x2).mono p3 x3,e1,fun H' xx S'=>h3 μ3 σ H' (au _) xx (l3.to (au _) xx S')⟩⟩
end
def my(st:List ar):Option (Nat×List W)->Prop
 |none=>True
 |some (n,ws)=>lstOf st n=some ws
abbrev Iz:=List W×Option (Nat×List W)
abbrev FI:=cL->List ar->R Iz
def Ef(X:Cx)(J:It)(k:Iz)(μ:List Addr)(H:Hp):Prop:=
 ∀(i:Nat) μ' bt H',μ <+: μ'->fI X.K H H'->jO X.K X.mg μ' bt H'->my bt k.2 ->
  (∀w,k.1[i]?=some w->J.go i H'/\∀x H'',J.yld i H' x H''->fI X.K H' H''/\jO X.K X.mg μ' bt H''/\b8 X.K μ' H'' w x)/\(k.1.length<=i->J.stop i H')
abbrev TD(X:Cx):List Addr->Hp->Iz->It->Prop:=fun μ H k J=>Ef X J k μ H
structure SI(X:Cx)(tg it:Expr)(f:FI):Prop where
 h:PI X tg it (fun σ H R=>tG X (TD X) f σ H R)
theorem PI.imp{it:Expr}{t t':TI}(h:PI X tg it t)(i:∀σ H Q,t' σ H Q->t σ H Q):PI X tg it t':=fun am s σ H Q I q=>h am s σ H Q I (i _ _ _ q)
open Classical in
def tQ(f:FG)(body:FS)(ck:Option (Nat×List W)):List W->FS
 |[],ρ,st=>if my st ck then .nx ρ st else .bad
 |w::ws,ρ,st=>if my st ck then(match f w ρ with
  |none=>.bad
  |some ρ'=>(match body ρ' st with
   |.nx ρ2 dz=>tQ f body ck ws ρ2 dz
   |.ct ρ2 dz=>tQ f body ck ws ρ2 dz
   |.bk ρ2 dz=>.nx ρ2 dz
   |.rt w dz=>.rt w dz
   |.ex c ρ2 dz=>.ex c ρ2 dz
   |.bad=>.bad))else .bad
def mP(fi:FI)(f:FG)(body:FS):FS:=fun ρ st=>(fi ρ st).stmt ρ fun k st=>tQ f body k.2 k.1 ρ st
section
variable{a b c:Expr}{fb:FE}{fs:FA}{ft:FT}{body:List Stmt}{g:FS}{f:FG}{fi:FI}
theorem iF(hi:SI X tg eP fi)(hg:SG X tg f)(hb:SB X body g)(hc:X.calm=true:=by rfl)(hp:PassesOwn #[5] X.A X.env X.xe:=by passes_own)(hs:∀x,foldedSetIterable eP X.env x=pure x:=by intro _;rfl):SS X (.For tg eP body [] pos) (mP fi f g):=⟨(OY hp hc hi.h hg.h hb.h hs).imp fun D σ H h=>by
 walk_at "2"
 refine⟨μ,ρ,st,l,RK.stmt h l fun μ1 st1 k J H1 p1 x1 l1 wk h1=>?_⟩
 refine⟨fun i m σ' H'=>i<=k.1.length/\m=k.1.length-i/\∃μ' ρ' bt,μ1 <+: μ'/\fI X.K H1 H'/\Rl X μ' ρ' bt σ' H'/\SK X μ' H' D (tQ f g k.2 (k.1.drop i) ρ' bt),
  ⟨_,cE _,rfl,μ1,ρ,st1,au _,fI.refl,l1,h1⟩,?_⟩
 rintro i m σ' H' ⟨hi,rfl,μ',ρ',bt,pm,xm,lm,hm⟩
 by_cases hlt:i<k.1.length
 ·rw[gg hlt]at hm
  unfold tQ at hm
  by_cases ck:my bt k.2
  ·rw[aJ ck]at hm
   obtain⟨go,yld⟩:=(wk i μ' bt H' pm xm lm.sto ck).1 _ (ao hlt)
   cases hf:f k.1[i] ρ' with
   |none=>rw[hf]at hm;exact hm.elim
   |some ρ2=>
    rw[hf]at hm
    simp only at hm
    refine .inr ⟨go,fun σ2 H2=>∃μ2 ρ3 dz,μ' <+: μ2/\fI X.K H' H2/\Rl X μ2 ρ3 dz σ2 H2/\SK X μ2 H2 D (tQ f g k.2 (k.1.drop (i+1)) ρ3 dz),fun σ2 H2 ⟨μ2,ρ3,dz,q1,q2,q3,q4⟩=>
     ⟨_,by omega,hlt,rfl,μ2,ρ3,dz,pm.trans q1,xm.trans q2,q3,q4⟩,fun x H2 hy=>?_⟩
    obtain⟨y1,y2,y3⟩:=yld x H2 hy
    refine⟨μ',ρ',bt,k.1[i],ρ2,lm.to (au _) y1 y2,y3,hf,fun σ2 l2=>⟨μ',ρ2,bt,l2,?_⟩⟩
    cases e:g ρ2 bt with
    |nx ρ3 nN=>rw[e]at hm;exact fun μ4 σ4 H4 p4 x4 l4=>⟨μ4,ρ3,nN,p4,y1.trans x4,l4,SK.mono hm p4 (y1.trans x4)⟩
    |ct ρ3 nN=>rw[e]at hm;exact fun μ4 σ4 H4 p4 x4 l4=>⟨μ4,ρ3,nN,p4,y1.trans x4,l4,SK.mono hm p4 (y1.trans x4)⟩
    |bk ρ3 nN=>rw[e]at hm;exact fun μ4 σ4 H4 p4 x4 l4=>hm μ4 σ4 H4 p4 (y1.trans x4) l4
    |rt w nN=>rw[e]at hm;exact fun μ4 v4 H4 p4 x4=>hm μ4 v4 H4 p4 (y1.trans x4)
    |ex c ρ3 nN=>rw[e]at hm;exact XS.mono hm (au _) y1
    |bad=>rw[e]at hm;exact hm
  ·rw[aW ck]at hm;exact hm.elim
 ·have hi':i=k.1.length:=by omega
  subst hi'
  rw[pT (aC _)]at hm
  unfold tQ at hm
  by_cases ck:my bt k.2
  ·rw[aJ ck]at hm
   exact .inl ⟨(wk _ μ' bt H' pm xm lm.sto ck).2 (aC _),hm μ' σ' H' (au _) fI.refl lm⟩
  ·rw[aW ck]at hm;exact hm.elim⟩
def eX(t:FT)(body:FS):Nat->FS
 |0,_,_=>.bad
 |n+1,ρ,st=>(t ρ st).stmt ρ fun k st=>if k then(match body ρ st with
   |.nx ρ2 dz=>eX t body n ρ2 dz
   |.ct ρ2 dz=>eX t body n ρ2 dz
   |.bk ρ2 dz=>.nx ρ2 dz
   |.rt w dz=>.rt w dz
   |.ex c ρ2 dz=>.ex c ρ2 dz
   |.bad=>.bad)else .nx ρ st
open Classical in
def qH(t:FT)(body:FS):FS:=fun ρ st=>if h:∃n,eX t body n ρ st≠.bad then eX t body h.choose ρ st else .bad
theorem qI(t:FT)(g:FS):∀(n:Nat) (ρ:cL) (st:List ar),eX t g n ρ st≠.bad->eX t g (n+1) ρ st=eX t g n ρ st
 |0,_,_,h=>absurd rfl h
 |n+1,ρ,st,h=>by
  unfold eX at h ⊢
  cases e:t ρ st with
  |ex c st1=>rfl
  |bad=>rfl
  |ok k st1=>
   rw[e]at h
   simp only[R.stmt_ok]at h ⊢
   cases k with
   |false=>rfl
   |true=>
    simp only[gy]at h ⊢
    cases e2:g ρ st1 with
    |nx ρ2 dz=>rw[e2]at h;exact qI t g n ρ2 dz h
    |ct ρ2 dz=>rw[e2]at h;exact qI t g n ρ2 dz h
    |_=>rfl
theorem zw{n m:Nat}(h:eX t g n ρ st≠.bad)(hm:n<=m):eX t g m ρ st=eX t g n ρ st:=by
 induction hm with
 |refl=>rfl
 |@step m _ ih=>rw[qI t g m ρ st (by rw[ih];exact h),ih]
theorem zx{r:RS}(h:eX t g n ρ st=r)(hr:r≠.bad):qH t g ρ st=r:=by
 have hx:∃n,eX t g n ρ st≠.bad:=⟨n,by rw[h];exact hr⟩
 unfold qH
 rw[dif_pos hx]
 have c:=hx.choose_spec
 have a:=zw c (Nat.le_max_left hx.choose n)
 have b:=zw (n:=n) (m:=max hx.choose n) (by rw[h];exact hr) (Nat.le_max_right _ _)
 rw[<- a,b,h]
theorem Cj{D:Ah}:∀(n:Nat) (σ:St) (H:Hp) (μ:List Addr) (ρ:cL) (st:List ar),Rl X μ ρ st σ H->SK X μ H D (eX t g n ρ st)->HD (tT X t) (Vv X g) D σ H:=by
 intro n σ H μ ρ st l h
 refine⟨fun m σ' H'=>∃μ' ρ' bt,Rl X μ' ρ' bt σ' H'/\SK X μ' H' D (eX t g m ρ' bt),⟨n,μ,ρ,st,l,h⟩,?_⟩
 rintro m σ' H' ⟨μ',ρ',bt,l',h'⟩
 cases m with
 |zero=>exact h'.elim
 |succ m=>
  refine⟨μ',ρ',bt,l',RK.stmt h' l' fun μ1 st1 k v H1 p1 x1 l1 q1 h1=>?_⟩
  cases q1
  cases k with
  |false=>exact h1 μ1 σ' H1 (au _) fI.refl l1
  |true=>
   refine⟨fun σ2 H2=>∃μ2 ρ2 dz,Rl X μ2 ρ2 dz σ2 H2/\SK X μ2 H2 D (eX t g m ρ2 dz),fun σ2 H2 z=>⟨m,cu m,z⟩,μ1,ρ',st1,l1,?_⟩
   simp only[gy]at h1
   cases e:g ρ' st1 with
   |nx ρ3 nN=>rw[e]at h1;exact fun μ4 σ4 H4 p4 x4 l4=>⟨μ4,ρ3,nN,l4,SK.mono h1 p4 x4⟩
   |ct ρ3 nN=>rw[e]at h1;exact fun μ4 σ4 H4 p4 x4 l4=>⟨μ4,ρ3,nN,l4,SK.mono h1 p4 x4⟩
   |bk ρ3 nN=>rw[e]at h1;exact h1
   |rt w nN=>rw[e]at h1;exact h1
   |ex c ρ3 nN=>rw[e]at h1;exact h1
   |bad=>rw[e]at h1;exact h1
theorem Ck(hc:ST X c t)(hb:SB X body g)(hp:PassesOwn #[5] X.A X.env X.xe:=by passes_own):SS X (.While c body [] pos) (qH t g):=⟨(HE hp hc.h hb.h).imp fun D σ H h=>by
 walk_at "2"
 unfold qH at h
 by_cases hx:∃n,eX t g n ρ st≠.bad
 ·rw[dif_pos hx]at h;exact Cj _ σ H μ ρ st l h
 ·rw[dif_neg hx]at h;exact h.elim⟩
def IA(fe:FE):FI:=fun ρ st=>(fe ρ st).bind fun x st=>match x with
 |.tup ws=>.ok (ws,none) st
 |_=>.bad
theorem IB(he:SE X e fe):SI X tg e (IA fe):=⟨(OX he.h).imp fun σ H R h=>by
 walk_at "2"
 walk_at "1"
 cases x with
 |tup ws=>
  obtain⟨p,vs,rfl,hS,r⟩:=q1.tupE
  refine⟨p,rfl,⟨vs,hS⟩,h1 μ1 _ H1 (au _) fI.refl l1.sto fun i μ' bt H' pp xx S _=>⟨fun w hw=>?_,fun hl=>⟨vs,xx _ _ hS,by rw[<- r.len];exact hl⟩⟩⟩
  have r':=r.mono pp xx
  obtain⟨v,g1,g2⟩:=r'.get hw
  refine⟨⟨vs,v,xx _ _ hS,g1⟩,fun y H'' hy=>?_⟩
  obtain⟨rfl,hy⟩:=hy
  have:=hy vs (xx _ _ hS)
  rw[g1]at this;cases this
  exact⟨fI.refl,S,g2⟩
 |_=>exact h1.elim⟩
def Nm(fe:FE):FI:=fun ρ st=>(fe ρ st).bind fun x st=>match x with
 |.loc n=>(match lstOf st n with
  |some ws=>.ok (ws,some (n,ws)) st
  |none=>.bad)
 |_=>.bad
theorem PV(he:SE X e fe):SI X tg e (Nm fe):=⟨(LD he.h).imp fun σ H R h=>by
 walk_at "2"
 walk_at "1"
 cases x with
 |loc n=>
  obtain⟨a,ha,rfl⟩:=q1.locE
  simp only at h1
  cases e1:lstOf st1 n with
  |none=>rw[e1]at h1;exact h1.elim
  |some ws=>
   rw[e1]at h1
   obtain⟨a',vs0,g0,hS0,r0⟩:=l1.sto.lstOf e1
   rw[ha]at g0;cases g0
   refine⟨a,rfl,⟨vs0,hS0⟩,h1 μ1 _ H1 (au _) fI.refl l1.sto fun i μ' bt H' pp xx S ck=>?_⟩
   obtain⟨a2,vs,g2,hS,r⟩:=S.lstOf (show lstOf bt n=some ws from ck)
   have:μ'[n]?=some a:=pre_get pp ha
   rw[g2]at this;cases this
   refine⟨fun w hw=>?_,fun hl=>⟨vs,hS,by rw[<- r.len];exact hl⟩⟩
   obtain⟨v,g1,g3⟩:=r.get hw
   refine⟨⟨vs,v,hS,g1⟩,fun y H'' hy=>?_⟩
   obtain⟨rfl,hy⟩:=hy
   have:=hy vs hS
   rw[g1]at this;cases this
   exact⟨fI.refl,S,g3⟩
 |_=>exact h1.elim⟩
def fL(lo:Int)(n:Nat):List W:=(List.range n).map fun(i:Nat)=>W.int (lo+i)
theorem fj(lo:Int)(n:Nat):(fL lo n).length=n:=by simp[fL]
theorem Eg{lo:Int}:Ef X (Vs lo n) (fL lo n,none) μ H:=fun i μ' bt H' pp xx S _=>by
 refine⟨fun w hw=>?_,fun hl=>by rw[fj]at hl;exact hl⟩
 have hi:i<n:=by
  have:=(ax.mp hw).1
  rw[fj]at this;exact this
 refine⟨hi,fun y H'' hy=>?_⟩
 obtain⟨rfl,rfl⟩:=hy
 have e:w=.int (lo+i):=by
  unfold fL at hw
  rw[aI,jv hi]at hw
  exact(bC hw).symm
 subst e
 exact⟨fI.refl,S,.int⟩
def dU(fs:FA):FI:=fun ρ st=>(fs ρ st).bind fun ws st=>match ws with
 |[.int j]=>if -(2^62)<=j/\j<2^62 then .ok (fL 0 j.toNat,none) st else .bad
 |_=>.bad
theorem gT(hm:X.mg "range"=none)(ha:SA X [a] fs)(hg:Gl X "range":=by rfl)(hs:starEach [a] X.env=[(false,eval a X.env)]:=by rfl):SI X tg (.Call (.Name "range" p) [a] [] pos) (dU fs):=⟨(Gf hg hm ha.h hs).imp fun σ H R h=>by
 walk_at "2"
 walk_at "1"
 split at h1
 ·obtain⟨y,rfl,ry⟩:=q1.one
  split at h1
  ·rename_i c
   exact⟨_,by rw[ry.intE],c.1,c.2,h1 μ1 _ H1 (au _) fI.refl l1.sto Eg⟩
  ·exact h1.elim
 ·exact h1.elim⟩
end
end L2
variable{fi:L2.FI}
namespace L2
open PySem PySem.Spec PyProof.Rows
mutual
def W.und(n:Nat):W->Bool
 |.loc m=>decide (m<n)
 |.tup ws=>undWs n ws
 |_=>true
def undWs(n:Nat):List W->Bool
 |[]=>true
 |w::ws=>w.und n&&undWs n ws
end
def ar.und(n:Nat):ar->Bool
 |.lst ws=>undWs n ws
 |.ro ws=>undWs n ws
 |.exc _=>true
 |.dct hX=>undWs n (hX.map fun p=>p.2)
 |.rod hX=>undWs n (hX.map fun p=>p.2)
 |.dcx hX=>undWs n (hX.map fun p=>p.2)
 |.rox hX=>undWs n (hX.map fun p=>p.2)
 |.obj _ fs=>undWs n (fs.map fun p=>p.2)
 |.tab _ _ _=>true
 |.pin _ _ _ w=>w.und n
 |.gone=>true
section
mutual
theorem b8.und:∀{w:W} {v:V},b8 K μ H w v->w.und μ.length=true
 |.non,_,_=>by simp[W.und]
 |.bl _,_,_=>by simp[W.und]
 |.int _,_,_=>by simp[W.und]
 |.str _,_,_=>by simp[W.und]
 |.tup _,_,r=>by obtain⟨p,vs,_,_,c⟩:=r.tupE;unfold W.und;exact RelWs.und c
 |.loc _,_,r=>by obtain⟨a,e,_⟩:=r.locE;unfold W.und;exact bg (ax.mp e).1
theorem RelWs.und:∀{ws:List W} {vs:List V},RelWs K μ H ws vs->undWs μ.length ws=true
 |[],_,_=>by unfold undWs;rfl
 |_::_,_,r=>by obtain⟨x,xs,_,b,c⟩:=r.consE;unfold undWs;rw[b8.und b,RelWs.und c];rfl
end
mutual
theorem b8.take:∀{w:W} {v:V},b8 K μ H w v->w.und n=true->b8 K (μ.take n) H w v
 |.non,_,r,_=>by rw[r.nonE];exact .non
 |.bl _,_,r,_=>by rw[r.blE];exact .bl
 |.int _,_,r,_=>by rw[r.intE];exact .int
 |.str _,_,r,_=>by rw[r.strE];exact .str
 |.tup _,_,r,b=>by obtain⟨p,vs,rfl,h,c⟩:=r.tupE;unfold W.und at b;exact .tupI h (RelWs.takeN c b)
 |.loc _,_,r,b=>by obtain⟨a,e,rfl⟩:=r.locE;unfold W.und at b;exact .locI (by rw[cZ (of_decide_eq_true b)];exact e)
theorem RelWs.takeN:∀{ws:List W} {vs:List V},RelWs K μ H ws vs->undWs n ws=true->RelWs K (μ.take n) H ws vs
 |[],_,r,_=>by rw[r.nilE];exact .nilI
 |_::_,_,r,b=>by
  obtain⟨x,xs,rfl,b1,c1⟩:=r.consE
  unfold undWs at b
  rw[dS]at b
  exact .consI (b8.take b1 b.1) (RelWs.takeN c1 b.2)
end
theorem KX.und_w(k:KX)(n:Nat):k.w.und n=true:=by
 have hi:∀ks:List Int,undWs n (ks.map W.int)=true:=fun ks=>by
  induction ks with
  |nil=>rfl
  |cons a l ih=>show(true&&undWs n (l.map W.int))=true;rw[ih];rfl
 cases k with
 |bo b=>rfl
 |fl ks=>unfold KX.w W.und;exact hi ks
 |pr i ks=>unfold KX.w W.und undWs;rw[show(W.int i).und n=true from rfl];unfold undWs;rw[show(W.tup (ks.map W.int)).und n=true by unfold W.und;exact hi ks];rfl
theorem xr:∀{hX:List (KX×W)} {es:List DictEntry},Paired (B' K μ H) hX es->undWs μ.length (hX.map fun p=>p.2)=true
 |_,_,.nil=>rfl
 |_,_,.cons r t=>by
  obtain⟨_,_,v,h,_⟩:=r
  show(_&&undWs _ _)=true
  rw[h.und,xr t];rfl
theorem u7:∀{hX:List (KX×W)} {es:List DictEntry},Paired (B' K μ H) hX es->undWs n (hX.map fun p=>p.2)=true->Paired (B' K (μ.take n) H) hX es
 |_,_,.nil,_=>.nil
 |_,_,.cons r t,b=>by
  obtain⟨a,⟨u,c,d⟩,v,h,g⟩:=r
  have b:(_&&undWs n _)=true:=b
  rw[dS]at b
  exact .cons ⟨a,⟨u,b8.take c (KX.und_w _ n),d⟩,v,b8.take h b.1,g⟩ (u7 t b.2)
theorem nF.und{c:ar}{a:Addr}(r:nF K mg μ H c a):c.und μ.length=true:=by
 cases c with
 |lst ws=>obtain⟨vs,_,y⟩:=r;exact y.und
 |ro ws=>obtain⟨vs,_,y⟩:=r;exact y.und
 |exc c=>rfl
 |dct hX=>obtain⟨vs,_,y⟩:=r;exact y.und
 |rod hX=>obtain⟨vs,_,_,y⟩:=r;exact y.und
 |dcx hX=>obtain⟨es,_,_,y,_⟩:=r;exact xr y
 |rox hX=>obtain⟨es,_,_,_,y,_⟩:=r;exact xr y
 |obj _ fs=>obtain⟨_,_,vs,_,_,y⟩:=r;exact y.und
 |tab _ _ _=>rfl
 |pin _ _ _ _=>obtain⟨_,_,_,v,y,_⟩:=r;exact y.und
 |gone=>rfl
theorem nF.take{c:ar}{a:Addr}(r:nF K mg μ H c a)(b:c.und n=true):nF K mg (μ.take n) H c a:=by
 cases c with
 |lst ws=>obtain⟨vs,x,y⟩:=r;exact⟨vs,x,y.takeN b⟩
 |ro ws=>obtain⟨vs,x,y⟩:=r;exact⟨vs,x,y.takeN b⟩
 |exc c=>exact r
 |dct hX=>obtain⟨vs,x,y⟩:=r;exact⟨vs,x,y.takeN b⟩
 |rod hX=>obtain⟨vs,o,x,y⟩:=r;exact⟨vs,o,x,y.takeN b⟩
 |dcx hX=>obtain⟨es,x,d,y,z⟩:=r;exact⟨es,x,d,u7 y b,z⟩
 |rox hX=>obtain⟨es,o,x,d,y,z⟩:=r;exact⟨es,o,x,d,u7 y b,z⟩
 |obj _ fs=>obtain⟨C,dx,vs,m,x,y⟩:=r;exact⟨C,dx,vs,m,x,y.takeN b⟩
 |tab _ _ _=>exact r
 |pin _ _ _ _=>obtain⟨ea,p,g,v,y,z⟩:=r;exact⟨ea,p,g,v,y.take b,z⟩
 |gone=>trivial
end
theorem hJ.ex{w:World}{a:Addr}{o:HO}(x:hJ P w nk H h a o):∃ob,h.get? a=some ob:=by
 cases o with
 |lst xs=>obtain⟨_,_,_,_,e⟩:=x;exact⟨_,e⟩
 |tup xs=>obtain⟨_,_,_,o,e,_⟩:=x;exact⟨_,e⟩
 |dK hX=>obtain⟨_,_,_,_,o,_,_,e,_⟩:=x;exact⟨_,e⟩
 |dT hX=>obtain⟨_,_,_,_,o,_,_,e,_⟩:=x;exact⟨_,e⟩
 |set S n=>obtain⟨o,_,_,_,e,_⟩:=x;exact⟨_,e⟩
 |ins C dx fs=>obtain⟨_,_,_,e,_⟩:=x;exact⟨_,e⟩
 |own y=>obtain⟨_,e⟩:=x;exact⟨_,e⟩
 |xd fs=>obtain⟨_,⟨_,_,_,e,_⟩,_⟩:=x;exact⟨_,e⟩
 |rng lo hi=>obtain⟨_,_,_,e⟩:=x;exact⟨_,e⟩
 |frz ob u=>obtain⟨e,_⟩:=x;exact⟨_,e⟩
 |tbl ps=>exact⟨_,(show h.get? a=some _ from x)⟩
 |met f y=>exact⟨_,(show h.get? a=some _ from x)⟩
 |ext φ=>obtain⟨_,⟨_,e⟩,_⟩:=x;exact⟨_,e⟩
def Nn(st bt:List ar)(ws:List W):Prop:=undWs st.length ws=true/\st.length<=bt.length/\∀(i:Nat),i<st.length->bt[i]?=st[i]?\/∃c,bt[i]?=some c/\c.und st.length=true
open Classical in
def iL(st bt:List ar)(ws:List W):List ar:=if Nn st bt ws then bt.take st.length else bt
theorem xu{ws:List W}{vs:List V}(S:jO K mg μ st H)(S':jO K mg μ' bt H')(p:μ <+: μ')(r:RelWs K μ' H' ws vs) :
  ∃μ2,μ <+: μ2/\jO K mg μ2 (iL st bt ws) H'/\RelWs K μ2 H' ws vs:=by
 unfold iL
 by_cases k:Nn st bt ws
 ·rw[aJ k]
  obtain⟨k1,k2,k3⟩:=k
  have e:μ'.take st.length=μ:=by
   obtain⟨t,rfl⟩:=p
   rw[S.len,gZ]
  refine⟨μ'.take st.length,by rw[e];exact au _,⟨fun i j a ci cj h1 h2 r1 r2 m1 m2=>?_,by rw[aP,aP,S'.len],fun i c a h1 h2=>?_⟩,r.takeN k1⟩
  ·have hi:i<st.length:=by have:=(ax.mp h1).1;rw[aP]at this;omega
   have hj:j<st.length:=by have:=(ax.mp h2).1;rw[aP]at this;omega
   rw[cZ hi]at h1 m1
   rw[cZ hj]at h2 m2
   exact S'.nd i j a ci cj h1 h2 r1 r2 m1 m2
  ·have hi:i<st.length:=by have:=(ax.mp h1).1;rw[aP]at this;omega
   rw[cZ hi]at h1 h2
   refine(S'.at' i c a h1 h2).take ?_
   rcases k3 i hi with q|⟨c',q,b⟩
   ·rw[h1]at q
    obtain⟨a0,g0,r0⟩:=S.get q.symm
    have:=r0.und
    rw[S.len];exact this
   ·rw[h1]at q;cases q;exact b
 ·rw[aW k]
  exact⟨μ',p,S',r⟩
def dq(N:Nat)(body:FS)(ws:List W)(st:List ar):R W:=match body #[13] st with
 |.rt w bt=>.ok w (iL st bt [w])
 |.nx _ bt=>.ok .non (iL st bt [])
 |.ex c _ bt=>.ex c (iL st bt [])
 |_=>.bad
def iB(P:Program)(w:World):Gp:=fun outer H s E e s'=>∃x C t B H',e=.ref x/\E C none H'/\s'.os=s.os/\AllBare s'.gens/\Un (tF outer) [] H H' s.heap s'.heap/\uN P w s'.toks H' s'.heap/\H' x=none/\Heap.FlyingW B outer x C (.ref t) s'.heap /\
 ∀b o,s'.heap.get? b=some o->(H' b≠none\/((∃o0,s.heap.get? b=some o0)/\b∉tF outer))->B.get? b=some o
def iV(K:Frag)(mg:Str->Option Value)(n:Nat)(F:List W->List ar->R W):Sp:=fun vs H Q E=>vs.length=n/\∃μ ws st,jO K mg μ st H/\RelWs K μ H ws vs/\(match F ws st with
 |.ok w bt=>∀μ' v H',μ <+: μ'->fI K H H'->jO K mg μ' bt H'->b8 K μ' H' w v->Q v H'
 |.ex c bt=>∀C μ' H',mg c=some C->μ <+: μ'->fI K H H'->jO K mg μ' bt H'->E C none H'
 |.bad=>False)
theorem vU.noted{e:Value}{Q:Unit->Shared->Prop}{E:Value->Shared->Prop}{M:Model}(f:vU X am σ c H e s)(pM:X.stack=X.env::outer)(y6:X.env.frame=some X.env.locals)(hA:X.A.frames=some X.stack)
  (h:∀x C t B h',e=.ref x->X.mg c=some C->H x=none->Heap.FlyingW B X.stack x C (.ref t) h'->s.heap.UpToSlots h' ->
   (∀b o,s.heap.get? b=some o->(H b≠none\/#[37]\/#[44]\/∃p∈X.pn++am,p.1=b)->B.get? b=some o)->Q () { s with heap:=h' }) :
  wpAny M X.A (leaving X.env e) Q E s:=by
 obtain⟨x,C,t,B,rfl,hC,hx,st,nx,ff,tr,yH⟩:=f.ex
 rw[pM]at ff hA
 rcases tr with tr|⟨oe,vs,he,rfl,_,hd,h1,h0⟩|⟨L,hL,tr⟩
 ·refine wpAny_leaving_nextW hA ff y6 tr st nx fun h' hL=>?_
  obtain⟨k1,k2,k3,k4⟩:=hL
  exact h x C t B h' rfl hC hx ⟨k1,nx,by rw[pM];exact k2,k3⟩ k4 yH
 ·refine wpAny_leaving_firstW hA ff y6 he st nx hd h1 h0 fun h' hL=>?_
  obtain⟨k1,k2,k3,k4⟩:=hL
  exact h x _ t B h' rfl hC hx ⟨k1,nx,by rw[pM];exact k2,k3⟩ k4 yH
 ·unfold leaving
  refine ag (pU hL tr (uJ ⟨st,nx,ff,tr⟩ fun h' fl up=>?_))
  exact h x C t B h' rfl hC hx (by rw[pM];exact fl) up yH
theorem vU.leaves{e:Value}{E:XK}{E':Value->Shared->Prop}(f:vU X am σ c H e s)(pM:X.stack=X.env::X.outer)(y6:X.env.frame=some X.env.locals)(hA:X.A.frames=some X.stack)(zY:X.ex=[])
  (hE:∀C,X.mg c=some C->E C none H):wpAny M X.A (leaving X.env e) (fun _ s''=>iB X.prog X.w X.outer X.H₀ X.s₀ E e s'') E' s:=by
 refine f.noted pM y6 hA fun x C t B h' he hC hx fl up yH=>?_
 have I:=f.inv
 have un:=I.base
 rw[zY]at un
 have fsE:X.fs=tF X.outer:=rfl
 obtain⟨f1,f2,f3,f4⟩:=fl
 rw[pM]at f3
 obtain⟨_,_,f3'⟩:=f3
 have frames:∀b∈tF X.outer,∀o,s.heap.get? b=some o->∃sl,h'.get? b=some { o with slots:=sl }:=fun b hb o ho=>by
  obtain⟨_,o',ho',hd⟩:=I.funs.mem hb
  rw[ho]at ho';cases ho'
  exact up b o ho hd
 have kept:∀b o,s.heap.get? b=some o->(∃o0,X.s₀.heap.get? b=some o0)->b∉tF X.outer->h'.get? b=some o:=fun b o ho h0 hb=>f1 b o (yH b o ho (.inr (.inl ⟨h0,hb,by rw[zY];simp⟩)))
 have keptH:∀b o,s.heap.get? b=some o->H b≠none->h'.get? b=some o:=fun b o ho h0=>f1 b o (yH b o ho (.inl h0))
 refine⟨x,C,t,B,H,he,hE C hC,I.os,I.bare,⟨fun b o q n hb hx=>?_,fun b o q n hb hx=>?_,fun b o q n hx=>un.free b o q n hx,fun b o q hx=>?_,un.tups,un.frzs,un.tbls⟩,fun b u hb=>?_,hx,⟨f1,f2,f3',f4⟩,fun b o ho hr=>?_⟩
 ·exact kept b o (un.keep b o q n hb hx) ⟨o,q⟩ hb
 ·obtain⟨sl,q1⟩:=un.slot b o q n hb hx
  obtain⟨sl2,q2⟩:=frames b hb _ q1
  exact⟨sl2,q2⟩
 ·obtain⟨o',q1⟩:=un.there b o q hx
  by_cases hb:b∈tF X.outer
  ·obtain⟨sl2,q2⟩:=frames b hb _ q1;exact⟨_,q2⟩
  ·exact⟨o',kept b o' q1 ⟨o,q⟩ hb⟩
 ·refine(I.hok b u hb).stay (fun c v hc q=>?_) (fun _ q=>q) fun _ _ q=>q
  refine keptH c v q ?_
  rcases hc with rfl|hc
  ·rw[hb];simp
  ·rw[hc];simp
 ·rcases hr with hr|⟨⟨o0,h0⟩,hb⟩
  ·cases hu:H b with
   |none=>exact absurd hu hr
   |some u=>
    have lt:=I.hok.lt hu
    obtain⟨ob,hob⟩:∃ob,s.heap.get? b=some ob:=by
     exact(I.hok b u hu).ex
    have:=keptH b ob hob hr
    rw[ho]at this;cases this
    exact yH b o hob (.inl hr)
  ·obtain⟨o',q1⟩:=un.there b o0 h0 #[15]
   have:=kept b o' q1 ⟨o0,h0⟩ hb
   rw[ho]at this;cases this
   exact yH b o q1 (.inr (.inl ⟨⟨o0,h0⟩,hb,by rw[zY];simp⟩))
structure bV(P:Program)(w:World)(K:Frag)(mg:Str->Option Value)(base:Heap)(k:Nat)(x:Str)(n:Nat)(F:List W->List ar->R W):Prop where
 ex:∃(f:Addr) (fd:FuncData) (ps:List Str),mg x=some (.ref f)/\keepIn K (.ref f)=true/\ps.length=n/\r6 K fd ps []/\c9 P w K mg base #[52] k f fd ps (iV K mg n F)
theorem bV.mono{w:World}(h:bV P w K mg base j x n F)(hj:j<=k):bV P w K mg base k x n F:=by
 obtain⟨f,fd,ps,a,b,c,d,e⟩:=h.ex
 exact⟨f,fd,ps,a,b,c,d,e.mono hj⟩
def b_(n:Nat)(F:List W->List ar->R W)(fs:FA):FE:=fun ρ st=>(fs ρ st).bind fun ws st=>if ws.length=n then F ws st else .bad
section
theorem IC{f:Addr}{Q:VK}{us:List Value}{vs:List V}
  (Fn:c9 X.prog X.w X.K X.mg X.base (iB X.prog X.w) k f fd ps (iV X.K X.mg n F)) (hn:ps.length=n) (hr:kg k X.A) (hb:r6 X.K fd ps []) (I:bT X am σ H s) (S:jO X.K X.mg μ st H) (r:RelWs X.K μ H ws vs) (rv:cQ s.toks vs us) (hl:ws.length=n)
  (h:RK X (uY X) μ σ H Q (F ws st)):wpAny #[5] X.A (call (.ref f) us) (EP X am σ Q) X.xe s:=by
 have hl':(us++([]:List Value)).length=ps.length:=by rw[bd,<- rv.length,<- r.len,hl,hn]
 cases e:F ws st with
 |bad=>rw[e]at h;exact h.elim
 |ok w bt=>
  rw[e]at h
  refine up (tz (jm (Fn.run X.A X.stack s H ⟨us,[]⟩ us vs Q (fun _ _ _=>False) hr I.env0 (.inl I.pos) (by have:=hb s us I.kIn hl';rwa[bd]at this) rv ⟨by rw[<- r.len];exact hl,μ,ws,st,S,r,by rw[e];exact h⟩) fun r s' hq=>?_))
  cases r with
  |error e=>obtain⟨_,_,_,_,_,_,z,_⟩:=hq;exact z.elim
  |ok fl=>
   cases fl with
   |ret u=>exact fun kt=>I.after hq kt
   |next=>exact False.elim hq
   |brk=>exact False.elim hq
   |cont=>exact False.elim hq
 |ex c bt=>
  rw[e]at h
  refine up (tz (jm (Fn.run X.A X.stack s H ⟨us,[]⟩ us vs (fun _ _=>False) (fun C _ H'=>X.mg c=some C/\∃μ',μ <+: μ'/\fI X.K H H'/\jO X.K X.mg μ' bt H') hr I.env0 (.inl I.pos) (by have:=hb s us I.kIn hl';rwa[bd]at this) rv
   ⟨by rw[<- r.len];exact hl,μ,ws,st,S,r,by rw[e];exact fun C μ' H' hC p x S'=>⟨hC,μ',p,x,S'⟩⟩) fun r s' hq=>?_))
  cases r with
  |ok fl=>
   cases fl with
   |ret u=>obtain⟨_,_,_,_,_,_,_,z⟩:=hq;exact z.elim
   |next=>exact False.elim hq
   |brk=>exact False.elim hq
   |cont=>exact False.elim hq
  |error ev=>
   obtain⟨x,C,t,B,H',rfl,⟨hC,μ',p,xx,S'⟩,os,bare,un,hok,hx,fl,yH⟩:=hq
   intro kt
   have I':bT X am σ H' s':=I.call' os un hok bare (fun b hb=>absurd hb #[15]) kt
   refine h am μ' H' (.ref x) s' p xx S' ⟨I',x,C,t,B,rfl,hC,hx,fl.1,fl.2.1,fl.2.2.1,.inl fl.2.2.2,fun b o ho hrel=>?_⟩
   refine yH b o ho ?_
   rcases hrel with q|⟨⟨o0,h0⟩,hb,hbx⟩|⟨⟨y,hy⟩,hb⟩|⟨pp,hp,rfl⟩
   ·exact .inl q
   ·refine .inr ⟨?_,fun z=>?_⟩
    ·obtain⟨o',q1⟩:=I.base.there b o0 h0 hbx
     exact⟨o',q1⟩
    ·rcases aT.mp (I.stkSub b z)with z|z
     ·rw[z]at h0
      exact absurd (aL (aH h0) I.ok.above) (d8 _)
     ·exact hb z
   ·obtain⟨v,ov,hov,_⟩:=I.cell y b hy
    exact .inr ⟨⟨_,hov⟩,hb⟩
   ·obtain⟨g1,g2,g3,g4,_⟩:=I.pin pp hp
    refine .inr ⟨⟨_,g1⟩,fun z=>?_⟩
    rcases aT.mp (I.stkSub _ z)with z|z
    ·exact g3 z
    ·exact g4 z
variable{fs:FA}
theorem bO{k':Nat}(Fn:bV X.prog X.w X.K X.mg X.base k x n F)(hr:kg k' X.A)(hk:k<=k')(ha:SA X (e::es) fs)(hg:Gl X x:=by rfl)(K_:#[43]=false:=by decide)
  (he:starEach (e::es) X.env=(false,eval e X.env)::starEach es X.env:=by rfl) (m7:(backTo pos #[64]).any (·.1)=false:=by rfl):SE X (.Call (.Name x p) (e::es) [] pos) (b_ n F fs):=⟨by
 walk_at "9"
 obtain⟨f,fd,ps,hm,hkp,hn,hb,Fo⟩:=(Fn.mono hk).ex
 refine f9 (tH I hg hm ?_ K_)
 walk_at "2"
 have h':Tj X fs σ H fun vs H1=>∃μ1 st1 ws,Rl X μ1 ρ st1 σ H1/\RelWs X.K μ1 H1 ws vs/\RK X (uY X) μ1 σ H1 Q (if ws.length=n then F ws st1 else .bad):=
  ⟨μ,ρ,st,l,RK.bind h l fun μ1 st1 x v H1 p1 x1 l1 q1 h1=>⟨μ1,st1,x,l1,q1,h1⟩⟩
 refine PySem.W.callWith_K (h₀:=X.base) I.ok.mod.kin hkp (kJ (ha.h pos am s σ H _ I h') fun us s1 kt1 ⟨vs,H1,I1,r,μ1,st1,ws,l1,r1,q⟩=>⟨I1.kIn,?_⟩) he m7
 by_cases c:ws.length=n
 ·rw[aJ c]at q
  exact IC Fo hn hr hb I1 l1.sto r1 r c q
 ·rw[aW c]at q;exact q.elim⟩
end
theorem Mh{w:World}{st:Stmt}{f:Addr}{N:List Str}{g:FS}(F:iU K x fX st f fd)(S:bb N ps (aQ st))(hn:ps.length=n)
  (Dn:∀(fE:Value) (A:Around) (outer:List Env) (s:Shared) (H:Hp) (E:XK),fd.code=fE->kg k (A.deeper (envOfC fX (aQ st) s.heap.objs.size f fE)) ->
   SB (DQ #[52] P w K mg base N fX (aQ st) f fE A outer s H E) (hZ st) g):c9 P w K mg base #[52] (k+1) f fd ps (iV K mg n (dq N.length g)):=by
 obtain⟨oc,od,kV,uO,pm,an,fE,ct,OA,rfl,lk,DC⟩:=F.ex
 refine SL lk DC S (fun vs H Q E h=>by rw[hn];exact h.1) fun A outer s H vs Q E hr Os=>?_
 obtain⟨hl,μ,ws,VN,Sr,r,h⟩:=Os
 refine⟨_,(Dn fE A outer s H E rfl hr).h,μ,ws.map some++List.replicate (N.length-ws.length) none,VN,⟨?_,Sr⟩,?_⟩
 ·unfold vQ
  rw[<- r.len]
  have base:∀(ws:List W) (vs:List V) (m:Nat),RelWs K μ H ws vs->Paired (fun(o:Option W) (s:Option V)=>∀w,o=some w->∃v,s=some v/\b8 K μ H w v) (ws.map some++List.replicate m none) (vs.map some++List.replicate m none):=by
   intro ws
   induction ws with
   |nil=>
    intro vs m r
    rw[r.nilE]
    induction m with
    |zero=>exact .nil
    |succ m ih=>exact .cons (fun w z=>nomatch z) ih
   |cons w ws ih=>
    intro vs m r
    obtain⟨y,ys,rfl,ry,rys⟩:=r.consE
    exact .cons (fun w' z=>⟨y,rfl,by cases z;exact ry⟩) (ih ys m rys)
  exact base ws vs _ r
 ·unfold dq at h
  cases e:g (ws.map some++List.replicate (N.length-ws.length) none) VN with
  |rt w bt=>
   rw[e]at h
   intro μ' v H' p x S' vK
   obtain⟨μ2,p2,S2,r2⟩:=xu Sr S' p (.consI vK .nilI)
   obtain⟨_,e2,r3⟩:=r2.one
   cases e2
   exact h μ2 v H' p2 x S2 r3
  |nx ρ' bt=>
   rw[e]at h
   intro μ' σ' H' p x l'
   obtain⟨μ2,p2,S2,_⟩:=xu (ws:=[]) (vs:=[]) Sr l'.sto p .nilI
   exact h μ2 .non H' p2 x S2 .non
  |ex c ρ' bt=>
   rw[e]at h
   intro am μ' σ' H' ev s' p x l' fl
   obtain⟨μ2,p2,S2,_⟩:=xu (ws:=[]) (vs:=[]) Sr l'.sto p .nilI
   exact fl.leaves rfl rfl fl.inv.ok.frames rfl fun C hC=>h C μ2 H' hC p2 x S2
  |bk ρ' bt=>rw[e]at h;exact h.elim
  |ct ρ' bt=>rw[e]at h;exact h.elim
  |bad=>rw[e]at h;exact h.elim
theorem bY{w:World}{st:Stmt}{f:Addr}{N:List Str}{k:Nat}{g:FS}(F:iU K x fX st f fd)(S:bb N ps (aQ st))(hn:ps.length=n)
  (Dn:∀(fE:Value) (A:Around) (outer:List Env) (s:Shared) (H:Hp) (E:XK),kg k (A.deeper (envOfC fX (aQ st) s.heap.objs.size f fE)) ->
   SB (DQ #[52] P w K mg base N fX (aQ st) f fE A outer s H E) (hZ st) g):c9 P w K mg base #[52] (k+1) f fd ps (iV K mg n (dq N.length g)):=Mh F S hn fun fE A outer s H E _ hr=>Dn fE A outer s H E hr
theorem Aw{w:World}{st:Stmt}{f:Addr}{ps:List Str}
  (F:iU K x x st f fd) (hm:mg x=some (.ref f)) (hn:ps.length=n)
  (hb:∀(kV uO pm:Value) (an:Option Addr) (fE ct:Value) (us:List Value),us.length=ps.length->bindArgs (fnOf x x (je st) (hZ st) (aQ st) .none kV uO pm an fE ct) ⟨us,[]⟩=pure (ps.zip us))
  (ok:c9 P w K mg base #[52] k f fd ps (iV K mg n G)):bV P w K mg base k x n G:=⟨f,fd,ps,hm,F.kp,hn,F.binds hb,ok⟩
end L2
namespace L2
open PySem PySem.Spec PyProof.Rows
theorem RelWs.split:∀{as bs:List W} {vs:List V},RelWs K μ H (as++bs) vs->∃xs ys,vs=xs++ys/\RelWs K μ H as xs/\RelWs K μ H bs ys
 |[],_,vs,r=>⟨[],vs,rfl,.nilI,r⟩
 |w::as,bs,vs,r=>by
  obtain⟨x,xs,rfl,rx,rs⟩:=r.consE
  obtain⟨ys,zs,rfl,r1,r2⟩:=RelWs.split rs
  exact⟨x::ys,zs,rfl,.consI rx r1,r2⟩
section
variable{a b c:Expr}{fb:FE}{fs:FA}{id:String}
structure R3(X:Cx)(id:String)(F:W->List W->List ar->R W):Prop where
 h:Gu X id (fun x vs H Q=>∃μ st wx ws,jO X.K X.mg μ st H/\b8 X.K μ H wx x/\RelWs X.K μ H ws vs/\Hl X μ H Q (F wx ws st))
 n:∀x ws st,wj (F x ws st)
def mQ(st:List ar):W->Bool
 |.loc n=>(match st[n]? with|some (.lst _)=>true|_=>false)
 |_=>false
def zy:W->Bool
 |.str _=>true
 |_=>false
theorem Cm{w:W}{v:V}(S:jO X.K X.mg μ st H)(r:b8 X.K μ H w v)(h:mQ st w=true):∃l ys,v=.ref l/\H l=some (.lst ys):=by
 cases w with
 |loc n=>
  obtain⟨a,ha,rfl⟩:=r.locE
  simp only[mQ]at h
  cases e1:st[n]? with
  |none=>rw[e1]at h;cases h
  |some cc=>
   rw[e1]at h
   cases cc with
   |lst ws=>obtain⟨a1,g1,vs,k1,_⟩:=S.get e1;rw[ha]at g1;cases g1;exact⟨_,vs,rfl,k1⟩
   |_=>cases h
 |_=>cases h
def kK(F:W->List W->List ar->R W)(fo:FE)(fs:FA):FE:=fun ρ st=>(fo ρ st).bind fun x st=>if mQ st x then(fs ρ st).bind fun ws st=>F x ws st else .bad
def Lf(F:W->List W->List ar->R W)(fo:FE)(fs:FA):FE:=fun ρ st=>(fo ρ st).bind fun x st=>if zy x then(fs ρ st).bind fun ws st=>F x ws st else .bad
theorem kL{F:W->List W->List ar->R W}(slot:Slot "list" name id)(Fd:typeOf (.builtin id)=pure (.type "method_descriptor"))(hm:R3 X id F)(ho:SE X o fo)(ha:SA X (e::es) fs)
  (kC:attributeBase o name X.env (eval o X.env)=eval o X.env:=by rfl)
  (tm:((backTo eY (starEach (e::es) X.env)).all (fun x=>!x.1)&&#[69].all (fun x=>x.1.isSome)
   && decide #[19])=true:=by rfl)
  (lJ:(gW.endLine==eY.line)=true:=by rfl) (hs:starEach (e::es) X.env=(false,eval e X.env)::starEach es X.env:=by rfl) (pK:(backTo eY #[64]).any (·.1)=false:=by rfl) :
  SE X (.Call (.Attribute o name gW) (e::es) [] eY) (kK F fo fs):=⟨(S8 slot Fd hm.h ho.h ha.h kC tm lJ hs pK).imp fun σ H Q h=>by
 walk_at "2"
 walk_at "1"
 by_cases c:mQ st1 x=true
 ·rw[aJ c]at h1
  refine⟨Cm l1.sto q1 c,μ1,ρ,st1,l1,RK.bind h1 l1 fun μ2 dz ws vs H2 p2 x2 l2 q2 h2=>?_⟩
  exact⟨μ2,dz,x,ws,l2.sto,q1.mono p2 x2,q2,uZ h2 (hm.n _ _ _)⟩
 ·rw[aW c]at h1;exact h1.elim⟩
theorem sg{F:W->List W->List ar->R W}(slot:Slot "list" name id)(Fd:typeOf (.builtin id)=pure (.type "method_descriptor"))(hm:R3 X id F)(ho:SE X o fo)
  (kC:attributeBase o name X.env (eval o X.env)=eval o X.env:=by rfl) (lJ:(gW.endLine==eY.line)=true:=by rfl):SE X (.Call (.Attribute o name gW) [] [] eY) (kK F fo aA):=⟨(Pw slot Fd hm.h ho.h kC lJ).imp fun σ H Q h=>by
 walk_at "2"
 walk_at "1"
 by_cases c:mQ st1 x=true
 ·rw[aJ c]at h1
  exact⟨Cm l1.sto q1 c,μ1,st1,x,[],l1.sto,q1,.nilI,uZ h1 (hm.n _ _ _)⟩
 ·rw[aW c]at h1;exact h1.elim⟩
theorem Mi{F:W->List W->List ar->R W}(slot:Slot "str" name id)(Fd:typeOf (.builtin id)=pure (.type "method_descriptor"))(hm:R3 X id F)(ho:SE X o fo)(ha:SA X (e::es) fs)
  (kC:attributeBase o name X.env (eval o X.env)=eval o X.env:=by rfl)
  (tm:((backTo eY (starEach (e::es) X.env)).all (fun x=>!x.1)&&#[69].all (fun x=>x.1.isSome)
   && decide #[19])=true:=by rfl)
  (lJ:(gW.endLine==eY.line)=true:=by rfl) (hs:starEach (e::es) X.env=(false,eval e X.env)::starEach es X.env:=by rfl) (pK:(backTo eY #[64]).any (·.1)=false:=by rfl) :
  SE X (.Call (.Attribute o name gW) (e::es) [] eY) (Lf F fo fs):=⟨(S9 slot Fd hm.h ho.h ha.h kC tm lJ hs pK).imp fun σ H Q h=>by
 walk_at "2"
 walk_at "1"
 cases x with
 |str z=>
  rw[aJ (show zy (W.str z)=true from rfl)]at h1
  refine⟨⟨z,q1.strE⟩,μ1,ρ,st1,l1,RK.bind h1 l1 fun μ2 dz ws vs H2 p2 x2 l2 q2 h2=>?_⟩
  exact⟨μ2,dz,_,ws,l2.sto,q1.mono p2 x2,q2,uZ h2 (hm.n _ _ _)⟩
 |_=>exact h1.elim⟩
def bH(x:W)(ws:List W)(st:List ar):R W:=match x,ws with
 |.loc n,[y]=>(match st[n]? with
  |some (.lst zs)=>if zs.length<oy then .ok .non (st.set n (.lst (zs++[y])))else .bad
  |_=>.bad)
 |_,_=>.bad
theorem cC:R3 X "list.append" bH:=⟨fun am s σ H x vs v us Q I rv rus zq=>by
 obtain⟨μ,st,wx,ws,S,rx,rs,q⟩:=zq
 unfold bH at q
 split at q
 ·rename_i n y
  obtain⟨y1,rfl,ry⟩:=rs.one
  split at q
  ·rename_i zs e1
   split at q
   ·rename_i c
    obtain⟨a1,g1,vs,k1,r⟩:=S.get e1
    obtain⟨b1,f1,rfl⟩:=rx.locE
    rw[g1]at f1;cases f1
    refine D3 am s σ H _ _ v us Q I rv rus ⟨a1,vs,y1,rfl,rfl,k1,by rw[<- r.len];exact PF (gs c),fun H2 e=>?_⟩
    subst e
    exact q μ _ _ (au _) (gG.but nz k1) (S.set e1 g1 k1 (r.app (.consI ry .nilI))) .non
   ·exact q.elim
  ·exact q.elim
 ·exact q.elim,fun x ws st=>by
 unfold bH
 repeat' split
 all_goals trivial⟩
def oz(x:W)(ws:List W)(st:List ar):R W:=match x,ws with
 |.loc n,[]=>(match st[n]? with
  |some (.lst zs)=>u6 zs.getLast? fun w=>.ok w (st.set n (.lst zs.dropLast))
  |_=>.bad)
 |_,_=>.bad
theorem nY:R3 X "list.pop" oz:=⟨fun am s σ H x vs v us Q I rv rus zq=>by
 obtain⟨μ,st,wx,ws,S,rx,rs,q⟩:=zq
 unfold oz at q
 split at q
 ·rename_i n
  have e0:=rs.nilE
  subst e0
  split at q
  ·rename_i zs e1
   obtain⟨a1,g1,vs,k1,r⟩:=S.get e1
   obtain⟨b1,f1,rfl⟩:=rx.locE
   rw[g1]at f1;cases f1
   cases hl:zs.getLast? with
   |none=>rw[hl]at q;exact q.elim
   |some w=>
    rw[hl]at q
    have hz:zs=zs.dropLast++[w]:=by
     obtain⟨ys,rfl⟩:=List.getLast?_eq_some_iff.mp hl
     simp
    rw[hz]at r
    obtain⟨xs',R_,hx,r1,r3⟩:=r.split
    obtain⟨y',rfl,r2⟩:=r3.one
    refine L1 am s σ H _ _ v us Q I rv rus ⟨a1,xs',y',rfl,rfl,by rw[<- hx];exact k1,fun H2 e=>?_⟩
    subst e
    have xx:fI X.K H (gc H a1 (.lst xs')):=gG.but nz k1
    exact q μ _ _ (au _) xx (S.set e1 g1 k1 r1) (r2.mono (au _) xx)
  ·exact q.elim
 ·exact q.elim,fun x ws st=>by
 unfold oz u6
 repeat' split
 all_goals trivial⟩
def pY:List W->Option (List #[66])
 |[]=>some []
 |.str l::ws=>(pY ws).map (l :: ·)
 |_=>none
theorem xw:∀{ws:List W} {ls:List #[66]} {vs:List V},pY ws=some ls->RelWs K μ H ws vs->vs=ls.map fun l=>V.str (tx l)
 |[],ls,vs,h,r=>by simp only[pY]at h;cases h;exact r.nilE
 |w::ws,ls,vs,h,r=>by
  obtain⟨x,xs,rfl,rx,rs⟩:=r.consE
  cases w with
  |str l=>
   simp only[pY]at h
   cases e:pY ws with
   |none=>rw[e]at h;cases h
   |some ls'=>rw[e]at h;cases h;rw[rx.strE,xw e rs];rfl
  |_=>simp only[pY]at h;cases h
theorem zz(ls:List #[66]):pY (ls.map W.str)=some ls:=by
 induction ls with
 |nil=>rfl
 |cons a r ih=>show(pY (r.map W.str)).map (a :: ·)=_;rw[ih];rfl
def pZ(x:W)(ws:List W)(st:List ar):R W:=match x,ws with
 |.str sep,[.loc n]=>u6 (lstOf st n) fun zs=>u6 (pY zs) fun ls=>if (ls.map List.length).sum+ls.length*sep.length<=oy then .ok (.str (mM sep ls)) st else .bad
 |_,_=>.bad
theorem wI:R3 X "str.join" pZ:=⟨fun am s σ H x vs v us Q I rv rus zq=>by
 obtain⟨μ,st,wx,ws,S,rx,rs,q⟩:=zq
 unfold pZ at q
 split at q
 ·rename_i sep n
  obtain⟨y1,rfl,ry⟩:=rs.one
  cases e1:lstOf st n with
  |none=>rw[e1]at q;exact q.elim
  |some zs=>
   rw[e1,fy]at q
   cases e2:pY zs with
   |none=>rw[e2]at q;exact q.elim
   |some ls=>
    rw[e2,fy]at q
    split at q
    ·rename_i c
     obtain⟨a,vs,g,hS,r⟩:=S.lstOf e1
     obtain⟨b1,f1,rfl⟩:=ry.locE
     rw[g]at f1;cases f1
     have:=xw e2 r
     subst this
     exact LZ am s σ H _ _ v us Q I rv rus ⟨sep,_,ls,rx.strE,rfl,hS,aO c #[3],tO S q⟩
    ·exact q.elim
 ·exact q.elim,fun x ws st=>by
 unfold pZ
 split
 ·exact vX fun _=>vX fun _=>by split<;>trivial
 ·trivial⟩
end
def u8(cap:List #[81])(ρ:cL):cL:=cap.map fun o=>o.bind fun j=>(ρ[j]?).join
theorem TF(r:Paired (fun(o:Option W) (s:Option V)=>∀w,o=some w->∃v,s=some v/\b8 X.K μ H w v) ρ σ):∀cap:List #[81],
  Paired (fun(o:Option W) (s:Option V)=>∀w,o=some w->∃v,s=some v/\b8 X.K μ H w v) (u8 cap ρ) (r9 cap σ)
 |[]=>.nil
 |o::cap=>by
  refine .cons (fun w e=>?_) (TF r cap)
  cases o with
  |none=>cases e
  |some j=>
   have e':(ρ[j]?).join=some w:=e
   have e2:ρ[j]?=some (some w):=by
    cases h:ρ[j]? with
    |none=>rw[h]at e';cases e'
    |some ow=>rw[h]at e';simp at e';rw[e']
   obtain⟨v,g1,g2⟩:=xk r e2
   exact⟨v,by show(σ[j]?).join=some v;rw[g1];rfl,g2⟩
open Classical in
def tU(f:FG)(t:FT)(el:FE)(ck:Option (Nat×List W))(ρ0:cL):List W->List W->List ar->R (List W)
 |[],jF,st=>if my st ck then .ok jF st else .bad
 |w::ws,jF,st=>if my st ck then(match f w ρ0 with
  |none=>.bad
  |some ρ'=>(match t ρ' st with
   |.ok true st1=>(match el ρ' st1 with
    |.ok y dz=>tU f t el ck ρ0 ws (jF++[y]) dz
    |_=>.bad)
   |.ok false st1=>tU f t el ck ρ0 ws jF st1
   |_=>.bad))else .bad
def kN(cap:List #[81])(fi:FI)(f:FG)(t:FT)(el:FE):FE:=fun ρ st=>(fi ρ st).bind fun k st=>if k.1.length<=oy then(tU f t el k.2 (u8 cap ρ) k.1 [] st).bind fun ys st=>qD ys st else .bad
def Vx(X:Cx)(rel:List Addr->Hp->α->β->Prop)(f:cL->List ar->R α)(σ:St)(H:Hp)(Q:β->Hp->Prop):Prop:=
 ∃μ ρ st a bt,Rl X μ ρ st σ H/\f ρ st=.ok a bt/\∀μ' b H',μ <+: μ'->fI X.K H H'->jO X.K X.mg μ' bt H'->rel μ' H' a b->Q b H'
def xy:FT:=fun _ st=>.ok true st
structure TH(X:Cx)(es:List Expr)(f:FT):Prop where
 h:HR X es (tT X f)
theorem HR.imp{e:List Expr}{t t':TT}(h:HR X e t)(i:∀σ H Q,t' σ H Q->t σ H Q):HR X e t':=fun am s σ H Q I q=>h am s σ H Q I (i _ _ _ q)
theorem tV:TH X [] xy:=⟨LV.imp fun σ H Q h=>by
 walk_at "2"
 exact h μ true H (au _) fI.refl l.sto rfl⟩
theorem FK{c:Expr}(hc:ST X c t):TH X [c] t:=⟨LW hc.h⟩
theorem ID{f:FG}{Q:VK}(h:tE X (kN cap fi f t el) σ H Q) :
  wY cap (fun σ H R=>tG X (TD X) fi σ H R) (TB X f) (Vx X PH t) (Vx X (uY X) el) σ H Q:=by
 walk_at "2"
 refine⟨μ,ρ,st,l,RK.bind h l fun μ1 st1 k J H1 p1 x1 l1 wk h1=>?_⟩
 by_cases hz:k.1.length<=oy
 ·rw[aJ hz]at h1
  refine⟨fun i m ys H'=>i<=k.1.length/\m=k.1.length-i/\ys.length<=i/\∃μ' jF bt,μ1 <+: μ'/\fI X.K H1 H'/\Rl X μ' ρ bt σ H'/\RelWs X.K μ' H' jF ys/\RK X (uY X) μ' σ H' Q ((tU f t el k.2 (u8 cap ρ) (k.1.drop i) jF bt).bind fun ys st=>qD ys st),
   ⟨_,cE _,rfl,aC _,μ1,[],st1,au _,fI.refl,l1,.nilI,h1⟩,?_⟩
  rintro i m ys H' ⟨hi,rfl,hy,μ',jF,bt,pm,xm,lm,ra,hm⟩
  by_cases hlt:i<k.1.length
  ·rw[gg hlt]at hm
   unfold tU at hm
   by_cases ck:my bt k.2
   ·rw[aJ ck]at hm
    obtain⟨go,yld⟩:=(wk i μ' bt H' pm xm lm.sto ck).1 _ (ao hlt)
    refine .inr ⟨go,fun x H2 hy2=>?_⟩
    obtain⟨y1,y2,y3⟩:=yld x H2 hy2
    cases hf:f k.1[i] (u8 cap ρ)with
    |none=>rw[hf]at hm;exact hm.elim
    |some ρ2=>
     rw[hf]at hm
     simp only at hm
     have lb:Rl X μ' (u8 cap ρ) bt (r9 cap σ) H2:=⟨TF (lm.to (au _) y1 y2).env cap,y2⟩
     refine⟨μ',u8 cap ρ,bt,k.1[i],ρ2,lb,y3,hf,fun σ2 l2=>?_⟩
     cases ht:t ρ2 bt with
     |bad=>rw[ht]at hm;exact hm.elim
     |ex c s=>rw[ht]at hm;exact hm.elim
     |ok kk dz=>
      rw[ht]at hm
      refine⟨μ',ρ2,bt,kk,dz,l2,ht,fun μ3 b3 H3 p3 x3 S3 q3=>?_⟩
      cases q3
      cases kk with
      |false=>
       exact⟨_,by omega,hlt,rfl,by omega,μ3,jF,dz,pm.trans p3,xm.trans (y1.trans x3),lm.to p3 (y1.trans x3) S3,ra.mono p3 (y1.trans x3),RK.mono hm p3 (y1.trans x3)⟩
      |true=>
       rw[aJ rfl]
       simp only at hm
       cases he:el ρ2 dz with
       |bad=>rw[he]at hm;exact hm.elim
       |ex c s=>rw[he]at hm;exact hm.elim
       |ok w nN=>
        rw[he]at hm
        refine⟨μ3,ρ2,dz,w,nN,l2.to p3 x3 S3,he,fun μ4 b4 H4 p4 x4 S4 q4=>?_⟩
        have pp:=p3.trans p4
        have xx:=y1.trans (x3.trans x4)
        exact⟨jV hy (aL hlt (qB hz)),_,by omega,hlt,rfl,by simp;omega,μ4,jF++[w],nN,pm.trans pp,xm.trans xx,lm.to pp xx S4,(ra.mono pp xx).app (.consI q4 .nilI),RK.mono hm pp xx⟩
   ·rw[aW ck]at hm;exact hm.elim
  ·have hi':i=k.1.length:=by omega
   subst hi'
   rw[pT (aC _)]at hm
   unfold tU at hm
   by_cases ck:my bt k.2
   ·rw[aJ ck]at hm
    obtain⟨z1,z2⟩:=xo lm.sto ra hm
    exact .inl ⟨(wk _ μ' bt H' pm xm lm.sto ck).2 (aC _),z1,fun p hp=>z2 p _ hp rfl⟩
   ·rw[aW ck]at hm;exact hm.elim
 ·rw[aW hz]at h1;exact h1.elim
section
variable{f:FG}{m:Nat}
theorem W0{X X':Cx}{f:FE}(hK:X'.K=X.K)(hm:X'.mg=X.mg)(h:SE X' e f):QE X' e (Vx X (uY X) f):=⟨h.h.imp fun σ H Q ⟨μ,ρ,st,a,bt,l,e,q⟩=>⟨μ,ρ,st,⟨by rw[hK];exact l.env,by rw[hK,hm];exact l.sto⟩,by rw[e];exact fun μ' b H' p x S r=>q μ' b H' p (by rw[<- hK];exact x) (by rw[<- hK,<- hm];exact S) (by show b8 X.K μ' H' a b;rw[<- hK];exact r)⟩⟩
theorem W1{X X':Cx}{e:List Expr}{f:FT}(hK:X'.K=X.K)(hm:X'.mg=X.mg)(h:TH X' e f):Wk X' e (Vx X PH f):=⟨h.h.imp fun σ H Q ⟨μ,ρ,st,a,bt,l,e,q⟩=>⟨μ,ρ,st,⟨by rw[hK];exact l.env,by rw[hK,hm];exact l.sto⟩,by rw[e];exact fun μ' b H' p x S r=>q μ' b H' p (by rw[<- hK];exact x) (by rw[<- hK,<- hm];exact S) r⟩⟩
theorem W2{X X':Cx}(hK:X'.K=X.K)(hm:X'.mg=X.mg)(h:SG X' e f):QG X' e (TB X f):=⟨h.h.imp fun v σ H Q ⟨μ,ρ,st,w,ρ',l,r,e,q⟩=>⟨μ,ρ,st,w,ρ',⟨by rw[hK];exact l.env,by rw[hK,hm];exact l.sto⟩,by rw[hK];exact r,e,fun σ' l'=>q σ' ⟨by rw[<- hK];exact l'.env,by rw[<- hK,<- hm];exact l'.sto⟩⟩⟩
theorem Ax(hB:GB X.env.scope.names scope.names nm cap X.N=true)(tj:X.env.cells=cellsFrom m X.env.scope.names [])(hi:SI X tg eP fi)(hg:∀cl C s0 H0 fp,SG #[10] tg f)(ht:∀cl C s0 H0 fp,TH #[10] oY t)
  (he:∀cl C s0 H0 fp,SE #[10] tt el) (kQ:X.calm=true:=by rfl) (kR:scope.kind=.function:=by rfl) (hs:∀x,foldedSetIterable eP X.env x=pure x:=by intro _;rfl) :
  SE X #[11] (kN cap fi f t el):=
 ⟨(Py kQ tj kR hB ⟨hi.h⟩ (fun cl C s0 H0 fp=>W2 (X:=X) rfl rfl (hg cl C s0 H0 fp)) (fun cl C s0 H0 fp=>W1 (X:=X) rfl rfl (ht cl C s0 H0 fp)) (fun cl C s0 H0 fp=>W0 (X:=X) rfl rfl (he cl C s0 H0 fp)) hs).h.imp fun _ _ _ h=>ID h⟩
theorem sR{x0:Str}{p0 p1:Pos}(Ou:SG X (.Name x0 p0) (jy i))(hB:GB X.env.scope.names scope.names nm cap X.N=true)(tj:X.env.cells=cellsFrom m X.env.scope.names [])(hi:SI X tg eP fi)(hg:∀cl C s0 H0 fp,SG #[10] tg f)(ht:∀cl C s0 H0 fp,TH #[10] oY t)
  (he:∀cl C s0 H0 fp,SE #[10] tt el) (kQ:X.calm=true:=by rfl) (kR:scope.kind=.function:=by rfl) (hs:∀x,foldedSetIterable eP X.env x=pure x:=by intro _;rfl)
  (Vp:swapsWith #[11] (some (.Name x0 p0)) p1.line X.env=pure true:=by first|rfl|kernel_rfl) :
  SS X (.Assign [.Name x0 p0] #[11] p1) (tP (kN cap fi f t el) (jy i)):=
 ⟨(D8 ⟨Ou.h⟩ kQ tj kR hB ⟨hi.h⟩ (fun cl C s0 H0 fp=>W2 (X:=X) rfl rfl (hg cl C s0 H0 fp)) (fun cl C s0 H0 fp=>W1 (X:=X) rfl rfl (ht cl C s0 H0 fp)) (fun cl C s0 H0 fp=>W0 (X:=X) rfl rfl (he cl C s0 H0 fp)) hs Vp).h.imp fun D σ H h=>by
  walk_at "2"
  have h':tE X (kN cap fi f t el) σ H fun x H1=>TB X (jy i) x σ H1 D.nx:=⟨μ,ρ,st,l,RK.stmt h l fun μ1 st1 x v H1 p1 x1 l1 q1 h1=>⟨μ1,ρ,st1,x,ρ.set i (some x),l1,q1,rfl,fun σ' l'=>h1 μ1 σ' H1 (au _) fI.refl l'⟩⟩
  exact ID h'⟩
end
section
variable{a b c:Expr}{fb fc:FE}{fs:FA}
theorem GP{wG:List V}(hr:∀μ H,RelWs X.K μ H ws wG):Ef X (We wG) (ws,none) μ H:=fun i μ' bt H' pp xx S _=>by
 have hl:ws.length=wG.length:=(hr μ H).len
 refine⟨fun w hw=>?_,fun h=>by show wG.length<=i;rw[<- hl];exact h⟩
 obtain⟨v,g1,g2⟩:=(hr μ' H').get hw
 refine⟨(ax.mp g1).1,fun y H'' hy=>?_⟩
 obtain⟨rfl,hy⟩:=hy
 rw[g1]at hy;cases hy
 exact⟨fI.refl,S,g2⟩
def jq(l:List Nat):List W:=l.map fun c=>.str [c]
theorem zA(l:List Nat)(μ:List Addr)(H:Hp):RelWs X.K μ H (jq l) (kh l):=by
 induction l with
 |nil=>exact .nilI
 |cons a r ih=>exact .consI .str ih
def No(fe:FE):FI:=fun ρ st=>(fe ρ st).bind fun x st=>match x with
 |.str l=>.ok (jq l,none) st
 |_=>.bad
theorem PX(he:SE X e fe):SI X tg e (No fe):=⟨(Ps he.h).imp fun σ H R h=>by
 walk_at "2"
 walk_at "1"
 cases x with
 |str z=>exact⟨z,q1.strE,h1 μ1 _ H1 (au _) fI.refl l1.sto (GP (zA z))⟩
 |_=>exact h1.elim⟩
def hV(fe:FE):FI:=fun ρ st=>(fe ρ st).bind fun x st=>match x with
 |.tup ws=>.ok (ws,none) st
 |.loc n=>(match lstOf st n with
  |some ws=>.ok (ws,some (n,ws)) st
  |none=>.bad)
 |.str l=>.ok (jq l,none) st
 |_=>.bad
theorem mR(he:SE X e fe):SI X tg e (hV fe):=⟨fun am s σ H Rr I h=>by
 walk_at "2"
 cases e1:fe ρ st with
 |bad=>simp only[hV,e1,R.bind_bad]at h;exact h.elim
 |ex c st1=>
  refine(IB (tg:=tg) he).h am s σ H Rr I ⟨μ,ρ,st,l,?_⟩
  simp only[hV,IA,e1,R.bind_ex]at h ⊢;exact h
 |ok w st1=>
  cases w with
  |tup ws=>
   refine(IB (tg:=tg) he).h am s σ H Rr I ⟨μ,ρ,st,l,?_⟩
   simp only[hV,IA,e1,R.bind_ok]at h ⊢;exact h
  |loc n=>
   refine(PV (tg:=tg) he).h am s σ H Rr I ⟨μ,ρ,st,l,?_⟩
   simp only[hV,Nm,e1,R.bind_ok]at h ⊢;exact h
  |str z=>
   refine(PX (tg:=tg) he).h am s σ H Rr I ⟨μ,ρ,st,l,?_⟩
   simp only[hV,No,e1,R.bind_ok]at h ⊢;exact h
  |_=>simp only[hV,e1,R.bind_ok]at h;exact h.elim⟩
def nH(ws:List W):List W:=(List.range ws.length).map fun(i:Nat)=>W.tup [.int i,ws.getD i .non]
theorem u9{w:W}(h:(nH ws)[i]?=some w):∃y,ws[i]?=some y/\w=.tup [.int i,y]:=by
 unfold nH at h
 rw[aI]at h
 by_cases hi:i<ws.length
 ·rw[jv hi]at h
  refine⟨ws[i],ao hi,?_⟩
  have:=(bC h).symm
  rw[this]
  show W.tup [W.int i,ws.getD i W.non]=_
  rw[aG,ao hi];rfl
 ·rw[cm (by simpa using hi)]at h;cases h
theorem zB(ws:List W):(nH ws).length=ws.length:=by simp[nH]
def sT(fs:FA):FI:=fun ρ st=>(fs ρ st).bind fun ws st=>match ws with
 |[.tup zs]=>.ok (nH zs,none) st
 |_=>.bad
theorem FL{yB:List Expr}{kk:Nat}{tp:Pos}(hm:X.mg "enumerate"=none)(ha:SA X [a] fs)(hg:Gl X "enumerate":=by rfl)(hs:starEach [a] X.env=[(false,eval a X.env)]:=by rfl) :
  SI X (.Tuple yB kk tp) (.Call (.Name "enumerate" p) [a] [] pos) (sT fs):=⟨(H_ hm ⟨ha.h⟩ hg hs).h.imp fun σ H R h=>by
 walk_at "2"
 walk_at "1"
 split at h1
 ·rename_i zs
  obtain⟨y,rfl,ry⟩:=q1.one
  obtain⟨p,vs,rfl,hS,r⟩:=ry.tupE
  refine⟨p,rfl,⟨vs,hS⟩,h1 μ1 _ H1 (au _) fI.refl l1.sto fun i μ' bt H' pp xx S _=>⟨fun w hw=>?_,fun hl=>⟨vs,xx _ _ hS,by rw[zB]at hl;rw[<- r.len];exact hl⟩⟩⟩
  obtain⟨y,hy,rfl⟩:=u9 hw
  have r':=r.mono pp xx
  obtain⟨v,g1,g2⟩:=r'.get hy
  refine⟨⟨vs,v,xx _ _ hS,g1⟩,fun z H'' hz=>?_⟩
  obtain⟨q,hq,rfl,hH⟩:=hz
  have e:=hH vs v (xx _ _ hS) g1
  subst e
  have ex:=gG.same (K:=X.K) (c7 hq (.tup [.int i,v]))
  exact⟨ex,S.same (c7 hq _),.tupI gG.new (.consI .int (.consI (g2.mono (au _) ex) .nilI))⟩
 ·exact h1.elim⟩
def xz(fa:FE):FE:=fun ρ st=>(fa ρ st).bind fun x st=>match x with
 |.int i=>.ok (.int (-i)) st
 |_=>.bad
theorem xA(ha:SE X a fa):SE X (.UnaryOp .USub a pos) (xz fa):=⟨(Sx Pe ha.h).imp fun σ H Q h=>by
 walk_at "2"
 walk_at "1"
 cases x with
 |int k=>exact⟨k,q1.intE,h1 μ1 _ H1 (au _) fI.refl l1.sto .int⟩
 |_=>exact h1.elim⟩
def GQ(x y:W)(st:List ar):R W:=match x,y with
 |.int i,.int j=>.ok (.bl (decide (i<=j))) st
 |.str [c],.str [d]=>.ok (.bl (decide (c<=d))) st
 |_,_=>.bad
theorem TJ:yD X (compareOp .LtE) GQ:=⟨fun am s σ H x y v u Q I rv ru zq=>by
 walk_at "10"
 unfold GQ at q
 split at q
 ·exact Sz am s σ H x y v u Q I rv ru ⟨_,_,rx.intE,ry.intE,qF S q⟩
 ·exact Gz am s σ H x y v u Q I rv ru ⟨_,_,rx.strE,ry.strE,qF S q⟩
 ·exact q.elim,fun x y st=>by unfold GQ;split<;>trivial⟩
end
def Ay(c:Nat):List Nat->List Nat
 |[]=>[c]
 |d::r=>if c<d then c::d::r else if c=d then d::r else d::Ay c r
def hW(l:List Nat):List Nat:=l.foldr Ay []
theorem xB{c x:Nat}:∀{l:List Nat},x∈Ay c l↔x=c\/x∈l
 |[]=>by simp[Ay]
 |d::r=>by
  unfold Ay
  split
  ·simp
  ·split
   ·rename_i h;subst h;simp
   ·simp only[aT,xB]
    constructor
    ·rintro(h|h|h)<;>simp[h]
    ·rintro(h|h|h)<;>simp[h]
theorem FM{c:Nat}:∀{l:List Nat},l.Pairwise (· < ·)->(Ay c l).Pairwise (· < ·)
 |[],_=>by simp[Ay]
 |d::r,h=>by
  obtain⟨h1,h2⟩:=cn.mp h
  unfold Ay
  split
  ·rename_i hc
   refine cn.mpr ⟨fun x hx=>?_,h⟩
   rcases aT.mp hx with rfl|hx
   ·exact hc
   ·exact uK hc (h1 x hx)
  ·split
   ·exact h
   ·rename_i hc hd
    refine cn.mpr ⟨fun x hx=>?_,FM h2⟩
    rcases xB.mp hx with rfl|hx
    ·omega
    ·exact h1 x hx
theorem jZ{x:Nat}:x∈hW l↔x∈l:=by
 induction l with
 |nil=>simp[hW]
 |cons a r ih=>show x∈Ay a (hW r)↔_;rw[xB,ih];simp
theorem ku(l:List Nat):(hW l).Pairwise (· < ·):=by
 induction l with
 |nil=>exact List.Pairwise.nil
 |cons a r ih=>exact FM ih
theorem Az:∀{l m:List Nat},l.Pairwise (· < ·)->m.Pairwise (· < ·)->(∀x,x∈l↔x∈m)->l=m
 |[],[],_,_,_=>rfl
 |[],b::m,_,_,h=>by have:=(h b).mpr (by simp);simp at this
 |a::l,[],_,_,h=>by have:=(h a).mp (by simp);simp at this
 |a::l,b::m,h1,h2,h=>by
  obtain⟨p1,p2⟩:=cn.mp h1
  obtain⟨q1,q2⟩:=cn.mp h2
  have e:a=b:=by
   rcases aT.mp ((h a).mp #[15])with z|z
   ·exact z
   ·rcases aT.mp ((h b).mpr #[15])with y|y
    ·exact y.symm
    ·have:=p1 b y;have:=q1 a z;omega
  subst e
  rw[Az p2 q2 fun x=>?_]
  constructor
  ·intro hx
   rcases aT.mp ((h x).mp (aU _ hx))with z|z
   ·subst z;exact absurd (p1 x hx) (d8 _)
   ·exact z
  ·intro hx
   rcases aT.mp ((h x).mpr (aU _ hx))with z|z
   ·subst z;exact absurd (q1 x hx) (d8 _)
   ·exact z
def Eh(c:List Nat):List #[66]->List #[66]
 |[]=>[c]
 |d::r=>if c<d then c::d::r else d::Eh c r
def j4(l:List #[66]):List #[66]:=l.foldr Eh []
theorem u_(c:List Nat):∀l:List #[66],(Eh c l).Perm (c::l)
 |[]=>jc _
 |d::r=>by
  unfold Eh
  split
  ·exact jc _
  ·exact((u_ c r).cons d).trans (List.Perm.swap c d r)
theorem h_(l:List #[66]):(j4 l).Perm l:=by
 induction l with
 |nil=>exact jc _
 |cons a r ih=>exact(u_ a _).trans (ih.cons a)
def Mj:List #[66]->Prop:=List.Pairwise fun a b=>¬ b<a
theorem FN(c:List Nat):∀{l:List #[66]},Mj l->Mj (Eh c l)
 |[],_=>by simp[Eh,Mj]
 |d::r,h=>by
  obtain⟨h1,h2⟩:=cn.mp h
  unfold Eh
  split
  ·rename_i hc
   refine cn.mpr ⟨fun x hx=>?_,h⟩
   rcases aT.mp hx with rfl|hx
   ·exact fun z=>List.lt_irrefl _ (List.lt_trans z hc)
   ·exact fun z=>h1 x hx (List.lt_trans z hc)
  ·rename_i hc
   refine cn.mpr ⟨fun x hx=>?_,FN c h2⟩
   rcases aT.mp ((u_ c r).mem_iff.mp hx)with rfl|hx
   ·exact hc
   ·exact h1 x hx
theorem xC(l:List #[66]):Mj (j4 l):=by
 induction l with
 |nil=>exact List.Pairwise.nil
 |cons a r ih=>exact FN a ih
theorem wJ:∀{l m:List #[66]},Mj l->Mj m->l.Perm m->l=m
 |[],m,_,_,h=>(List.Perm.nil_eq h)
 |a::l,[],_,_,h=>(by have:=h.length_eq;simp at this)
 |a::l,b::m,h1,h2,h=>by
  obtain⟨p1,p2⟩:=cn.mp h1
  obtain⟨q1,q2⟩:=cn.mp h2
  have e:a=b:=by
   rcases aT.mp (h.mem_iff.mp (by simp:a∈a::l))with z|z
   ·exact z
   ·rcases aT.mp (h.mem_iff.mpr (by simp:b∈b::m))with y|y
    ·exact y.symm
    ·exact List.le_antisymm (show a<=b from p1 b y) (show b<=a from q1 a z)
  subst e
  rw[wJ p2 q2 (List.perm_cons a |>.mp h)]
theorem xD:∀{zs:List #[66]},sortedS (zs.map tx)=true->Mj zs:=by
 have key:∀(zs:List #[66]) (p:List Nat),risingS (tx p) (zs.map tx)=true->Mj (p::zs):=by
  intro zs
  induction zs with
  |nil=>intro p _;simp[Mj]
  |cons a r ih=>
   intro p h
   have h':(!ltCps a p&&risingS (tx a) (r.map tx))=true:=h
   rw[dS,iT,ltCps_eq,decide_eq_false_iff_not]at h'
   have u:=ih a h'.2
   refine cn.mpr ⟨fun x hx=>?_,u⟩
   rcases aT.mp hx with rfl|hx
   ·exact h'.1
   ·have:=(cn.mp u).1 x hx
    exact List.not_lt.mpr (List.le_trans (List.not_lt.mp h'.1) (List.not_lt.mp this))
 intro zs h
 cases zs with
 |nil=>exact List.Pairwise.nil
 |cons a r=>exact key r a h
section
variable{a b c:Expr}{fb fc:FE}{fs:FA}
def rO(ws:List W)(st:List ar):R W:=match ws with
 |[.loc n]=>u6 (lstOf st n) fun zs=>u6 (pY zs) fun ls=>if ls.length<64 then .ok (.loc st.length) (st++[.lst ((j4 ls).map W.str)])else .bad
 |_=>.bad
theorem Cn(ls:List #[66]):RelWs K μ H (ls.map W.str) (ls.map fun l=>V.str (tx l)):=by
 induction ls with
 |nil=>exact .nilI
 |cons a r ih=>exact .consI .str ih
theorem Co:qG X (.builtin "sorted") rO:=⟨fun am s σ H vs us Q I rv zq=>by
 obtain⟨μ,st,ws,S,r,q⟩:=zq
 unfold rO at q
 split at q
 ·rename_i n
  obtain⟨y,rfl,ry⟩:=r.one
  cases e1:lstOf st n with
  |none=>rw[e1]at q;exact q.elim
  |some zs=>
   rw[e1,fy]at q
   cases e2:pY zs with
   |none=>rw[e2]at q;exact q.elim
   |some ls=>
    rw[e2,fy]at q
    split at q
    ·rename_i c
     obtain⟨a,vs,g,hS,rz⟩:=S.lstOf e1
     obtain⟨b1,f1,rfl⟩:=ry.locE
     rw[g]at f1;cases f1
     have:=xw e2 rz
     subst this
     refine yK.h am s σ H _ us Q I rv ⟨_,ls,rfl,hS,c,fun zs hp hs l H2 hl eH=>?_⟩
     subst eH
     have ez:zs=j4 ls:=wJ (xD hs) (xC ls) (hp.trans (h_ ls).symm)
     subst ez
     exact q (μ++[l]) _ _ (a_ _ _) (gG.same (c7 hl _)) (S.newLst hl (Cn _)) (qE S)
    ·exact q.elim
 ·exact q.elim,fun ws st=>by
 unfold rO
 split
 ·exact vX fun _=>vX fun _=>by split<;>trivial
 ·trivial⟩
def mJ:List W->Option #[66]
 |[]=>some []
 |.str [c]::ws=>(mJ ws).map (c :: ·)
 |_=>none
theorem tW:∀{ws:List W} {l:List Nat} {vs:List V},mJ ws=some l->RelWs K μ H ws vs->vs=kh l
 |[],l,vs,h,r=>by simp only[mJ]at h;cases h;exact r.nilE
 |w::ws,l,vs,h,r=>by
  obtain⟨x,xs,rfl,rx,rs⟩:=r.consE
  unfold mJ at h
  split at h
  ·rename_i e;cases e
  ·rename_i c U6 e
   cases e
   cases e2:mJ ws with
   |none=>rw[e2]at h;cases h
   |some l'=>rw[e2]at h;cases h;rw[rx.strE,tW e2 rs];rfl
  ·cases h
def xE:W->Option #[66]
 |.str l=>some l
 |.tup ws=>mJ ws
 |_=>none
def tX(fe:FE):FE:=fun ρ st=>(fe ρ st).bind fun x st=>u6 (xE x) fun l=>if l.length<4000/\(hW l).length<64 then .ok #[4] (st++[.lst (jq (hW l))])else .bad
theorem nZ(hm:m.Nodup)(h:∀c∈m,c∈l):m.length<=l.length:=by
 induction m generalizing l with
 |nil=>exact cE _
 |cons a r ih=>
  obtain⟨h1,h2⟩:=jJ.mp hm
  have ha:a∈l:=h a #[15]
  have:=ih h2 (l:=l.erase a) fun c hc=>by
   have:c≠a:=fun z=>h1 (z▸hc)
   exact(List.mem_erase_of_ne this).mpr (h c (aU _ hc))
  rw[List.length_erase_of_mem ha]at this
  have:0<l.length:=List.length_pos_of_mem ha
  simp;omega
theorem GR{p1 p2 RZ M4:Pos}(h1:X.mg "sorted"=none)(h3:X.mg "set"=none)(he:SE X e fe)(hc:X.calm=true:=by rfl)
  (WD:Gl X "sorted":=by rfl) (WO:Gl X "set":=by rfl) (VM:starEach [e] X.env=(false,eval e X.env)::starEach [] X.env:=by rfl):SE X (.Call (.Name "sorted" p1) [.Call (.Name "set" p2) [e] [] M4] [] RZ) (tX fe):=⟨(GI h1 h3 ⟨he.h⟩ hc WD WO VM).h.imp fun σ H Q h=>by
 walk_at "2"
 walk_at "1"
 cases e1:xE x with
 |none=>rw[e1]at h1;exact h1.elim
 |some ll=>
  rw[e1,fy]at h1
  split at h1
  ·rename_i c
   refine⟨ll,?_,c.1,fun m hm hsub=>?_,fun m WQ hup hmem a H2 ha eH=>?_⟩
   ·cases x with
    |str z=>cases e1;exact .inl q1.strE
    |tup ws=>obtain⟨p,vs,rfl,hS,r⟩:=q1.tupE;have:=tW e1 r;subst this;exact .inr ⟨p,rfl,hS⟩
    |_=>cases e1
   ·exact jV (nZ hm fun c hc=>jZ.mpr (hsub c hc)) c.2
   ·subst eH
    have em:m=hW ll:=by
     refine Az ((List.Pairwise.and hup WQ).imp fun z=>Nat.lt_of_le_of_ne z.1 z.2) (ku ll) fun x=>?_
     rw[hmem,jZ]
    subst em
    exact h1 (μ1++[a]) _ _ (a_ _ _) (gG.same (c7 ha _)) (l1.sto.newLst ha (zA (X:=X) _ _ _)) (qE l1.sto)
  ·exact h1.elim⟩
end
def W.ty:W->Option String
 |.non=>some "NoneType" | .bl _=>some "bool" | .int _=>some "int" | .str _=>some "str" | .tup _=>some "tuple" | .loc _=>none
def Ml(t T:String):Bool:=(t==T)||(t == "bool" && T == "int")
theorem TK{K:Frag}(h:HY T){w:W}{t:String}(hw:w.ty=some t):kitOne K (.type t) (.type T)=some (Ml t T):=by
 cases w<;>simp only[W.ty]at hw<;>cases hw<;>(rcases h with rfl|rfl|rfl|rfl<;>rfl)
def xF(T:String)(fa:FE):FE:=fun ρ st=>(fa ρ st).bind fun x st=>match x.ty with
 |some t=>.ok (.bl (Ml t T)) st
 |none=>.bad
section
variable{a b c:Expr}{fb fc:FE}{fs:FA}
theorem vY{xT:Str}(hm:X.mg "isinstance"=none)(hT:X.mg xT=none)(hv:bootBuiltins xT=some (.type T))(ha:SE X a fa)(hk:HY T:=by first|exact .inl rfl|exact .inr (.inl rfl)|exact .inr (.inr (.inl rfl))|exact .inr (.inr (.inr rfl)))
  (hg:Gl X "isinstance":=by rfl) (Va:Gl X xT:=by rfl) (hn:xT ≠ "__name__":=by decide) (hd:(xT==("__debug__":Str))=false:=by decide)
  (he:starEach [a,.Name xT p2] X.env=(false,eval a X.env)::starEach [.Name xT p2] X.env:=by rfl) (M2:starEach [.Name xT p2] X.env=(false,eval (.Name xT p2) X.env)::starEach [] X.env:=by rfl) (m7:(backTo pos (starEach [.Name xT p2] X.env)).any (·.1)=false:=by rfl) :
  SE X (.Call (.Name "isinstance" p) [a,.Name xT p2] [] pos) (xF T fa):=by
 have C:jo X (.builtin "isinstance") (fun xs H Q=>∃x μ st w t,xs=[x,.ty T]/\jO X.K X.mg μ st H/\b8 X.K μ H w x/\w.ty=some t/\Q (.bl (Ml t T)) H):=by
  walk_at "11"
  obtain⟨x,μ,st,w,t,rfl,S,rx,ht,q⟩:=h
  obtain⟨u,u2,rfl,r1,r2⟩:=cQ.two r
  obtain rfl:u2=.type T:=r2
  have e:=TK (K:=X.K) hk ht
  cases w with
  |tup ws=>
   cases ht
   obtain⟨p,vs,rfl,hS,_⟩:=rx.tupE
   cases(show u=Value.ref p from r1)
   obtain⟨b9,_,hp,_⟩:=I.tuple hS
   obtain⟨o,h1,h2,_⟩:=hp
   exact up (kia_one PySem.W.kitx_tuple I.kIn ⟨o,h1,h2⟩ e (fun z=>nomatch z) fun tk hk=>⟨.bl _,H,I.tok tk,rfl,q⟩)
  |non=>cases ht;cases rx.nonE;exact up (rL I r1 .non e fun tk hk=>⟨.bl _,H,I.tok tk,rfl,q⟩)
  |bl b=>cases ht;cases rx.blE;exact up (rL I r1 (.bl _) e fun tk hk=>⟨.bl _,H,I.tok tk,rfl,q⟩)
  |int b=>cases ht;cases rx.intE;exact up (rL I r1 (.int _) e fun tk hk=>⟨.bl _,H,I.tok tk,rfl,q⟩)
  |str b=>cases ht;cases rx.strE;exact up (rL I r1 (.str _) e fun tk hk=>⟨.bl _,H,I.tok tk,rfl,q⟩)
  |loc b=>cases ht
 refine⟨(qA C hg hm jK (lr ha.h (lr (Fg Va hT hv (v:=.ty T) rfl hn hd) uU M2) he) #[3] #[3] he m7).imp fun σ H Q h=>?_⟩
 walk_at "2"
 walk_at "1"
 cases ht:x.ty with
 |none=>rw[ht]at h1;exact h1.elim
 |some t=>
  rw[ht]at h1
  exact⟨v,μ1,st1,x,t,rfl,l1.sto,q1,ht,h1 μ1 _ H1 (au _) fI.refl l1.sto .bl⟩
theorem IE{w:World}{st:Stmt}{f:Addr}{ps:List Str}
  (F:iU K x x st f fd) (hm:mg x=some (.ref f)) (hn:ps.length=n)
  (hb:∀(kV uO pm:Value) (an:Option Addr) (fE ct:Value) (us:List Value),us.length=ps.length->bindArgs (fnOf x x (je st) (hZ st) (aQ st) .none kV uO pm an fE ct) ⟨us,[]⟩=pure (ps.zip us)) :
  bV P w K mg base k x n (fun _ _=>.bad):=Aw F hm hn hb ⟨fun vs H Q E h=>by rw[hn];exact h.1,fun _ _ _ _ _ _ _ _ _ _ _ _ _ _ h=>by obtain⟨_,_,_,_,_,_,z⟩:=h;exact z.elim⟩
end
def Np(F:List W->List ar->R W):Prop:=∀ns:List Int,ns.length<=63->∃bt,F [.loc 0] [.ro #[33]]=.ok (.bl true) bt
theorem walkW{l:PySem.W.OpenLaw}{q:Program}{Ad:List Str}{d:DefRec}{K:Params->Frag}(hn:l.most=some 63)(Vb:d.params.defaults=[])(hr:kg k callerA)
  (hY:∀(w:World) (h:Heap),YP w h->(K w.params).In h)
  (F:∀(w:World) (mg:Str->Option Value) (fa:Addr) (h:Heap),(K w.params).In h->h.Ns mainGlobals mg->mg d.name=some (.ref fa) ->
   ∃fd:FuncData,fd.scope.names.lookup x=some .local/\(∀(s:Shared) (u:Value),BindsTo s fd ⟨[u],[]⟩ [(x,u)])/\∀base:Heap,(K w.params).In base->base.Ns mainGlobals mg->c9 l.prog w (K w.params) mg base (iB l.prog w) k fa fd [x] (iV (K w.params) mg 1 G))
  (ok:Np G):PySem.W.WalkO q Ad XP YP l.row.toRowW d [] (fun f vs=>PySem.call f vs):=by
 refine L2.walk_of (n:=63) (k:=k) (x:=x) (CX:=fun w=>iB l.prog w)
  (sp:=fun w=>fun vs H Q E=>∃(a:Addr) (ns:List Int),vs=[.ref a]/\uQ (K w.params) H a (ns.map V.int)/\LU H/\ns.length<=63/\∀H',Q (.bl true) H') hn #[3] Vb hr hY (fun w mg fa h h1 h2 h3=>?_)
  (fun w H a ns hl hO hS=>⟨a,ns,rfl,hS,hO,hl,fun _=>rfl⟩) fun w H s e s' z=>?_
 ·obtain⟨fd,hlo,hb,ho⟩:=F w mg fa h h1 h2 h3
  refine⟨fd,hlo,hb,fun base kb nb=>(ho base kb nb).imp fun vs H Q E hh=>?_⟩
  obtain⟨a,ns,rfl,hS,hO,hl,q⟩:=hh
  obtain⟨bt,e⟩:=ok ns hl
  have Dy:Vu (K w.params) H a (ns.map V.int):=by
   rcases hS with(z|⟨o,z⟩)|z
   ·rcases hO a with y|⟨o,xs,y⟩
    ·rw[z]at y;cases y
    ·rw[z]at y;cases y
   ·exact .inl ⟨o,z⟩
   ·exact .inr z
  have hr:RelWs (K w.params) [a] H #[33] (ns.map V.int):=by
   clear hS Dy e hl
   induction ns with
   |nil=>exact .nilI
   |cons n r ih=>exact .consI .int ih
  refine⟨rfl,[a],[.loc 0],[.ro #[33]],⟨fun i j b ci cj c1 c2 r1 r2 m1 m2=>?_,rfl,fun i c b c1 c2=>?_⟩,.consI (.locI rfl) .nilI,?_⟩
  ·cases i with
   |zero=>cases c1;cases r1
   |succ i=>simp at c1
  ·cases i with
   |zero=>cases c1;cases c2;exact⟨_,Dy,hr⟩
   |succ i=>simp at c1
  ·rw[e]
   intro μ' v H' _ _ _ rv
   rw[rv.blE];exact q H'
 ·obtain⟨_,_,_,_,_,_,z,_⟩:=z
  exact z
abbrev rY:List Value:=[.type "ValueError",.type "Exception",.type "BaseException",.type "object"]
abbrev si:String:="ValueError.__new__"
def Cp(K:Frag)(C:Addr):List Value:=match K.lookup C with
 |some ⟨_,_,.cls cd,_⟩=>cd.mro
 |_=>[]
theorem rP{W_:List Value}{rq:String}(X:K.In h)(q:excIn K C W_ rq=true) :
  ∃bm N nm qn bs hdct sn sub ab col dd k0 k1 k2 k3 k5 mN,h.get? C=some (excClassObj nm qn C N bs bm hdct sn sub ab col dd k0 k1 k2 k3 k5 rq)/\h.Ns N mN/\mN "__init__"=none/\OwnTail h W_ bm/\Cp K C=.ref C::bm:=by
 have q0:=q
 unfold excIn at q
 split at q
 ·rename_i dd cd sl ho
  split at q
  ·rename_i C' bm k0 k1 k2 k3 n k5 hm hs
   simp only[dS,dv,iT]at q
   obtain⟨⟨⟨⟨⟨rfl,rfl⟩,hdel⟩,ht⟩,hok⟩,hni⟩:=q
   have hmro:Cp K C'=cd.mro:=by unfold Cp;rw[ho]
   obtain⟨nm,bs,mro,ns,qn,hd,sn,sub,ab,col,del⟩:=cd
   dsimp only at hm hdel hok hni hmro
   subst hm hdel
   have hsl:sl=#[k0,k1,k2,k3,some (.builtin n),k5]:=by
    obtain⟨l⟩:=sl
    simp only at hs
    rw[hs]
   subst hsl
   exact⟨bm,ns,nm,qn,bs,hd,sn,sub,ab,col,dd,k0,k1,k2,k3,k5,_,X _ _ ho,.of_isNs (PySem.W.isNs_of_in X hok),PySem.W.nsMap_none_of_in X hok hni,PySem.W.tail_of_in X ht,hmro⟩
  ·cases q
 ·cases q
structure IF(K:Frag)(mg:Str->Option Value)(x:Str):Prop where
 ex:∃C,mg x=some (.ref C)/\excIn K C rY si=true
def sU(c:Str):FS:=fun ρ st=>.ex c ρ st
theorem tY{np eY pos p':Pos}{z:Str}{j:Nat}(hC:IF X.K X.mg x)(kQ:X.calm=true:=by rfl)(hg:Gl X x:=by rfl)(hd:#[43]=false:=by decide)
  (he:starEach [.Constant (.str z) j p'] X.env=(false,eval (.Constant (.str z) j p') X.env)::starEach [] X.env:=by rfl):SS X (.Raise (some (.Call (.Name x np) [.Constant (.str z) j p'] [] eY)) none pos) (sU x):=⟨by
 intro am s σ H D I h
 walk_at "2"
 obtain⟨C,hm,q⟩:=hC.ex
 have hh:X.A.handled=none:=I.ok.hd kQ
 obtain⟨bm,N,nm,qn,bs,hdct,sn,sub,ab,col,dd,k0,k1,k2,k3,k5,mN,g1,g2,g3,g4,g5⟩:=rP I.kIn q
 refine wpAny_Raise_call_subT (C:=C) (nm:=nm) (q:=qn) (N:=N) (bs:=bs) (bm:=bm) (hdct:=hdct) (sn:=sn) (sub:=sub) (ab:=ab) (col:=col) (dd:=dd) (k0:=k0) (k1:=k1) (k2:=k2) (k3:=k3) (k5:=k5)
  F.excBase_ValueError (mN:=mN) (g4.hasType F.excBase_ValueError.hasBase) hh (by rw[he];rfl) g3 (tH I hg hm ⟨rfl,?_⟩ hd)
 rw[he]
 refine lN ?_
 show wpAny _ _ (spliced ((false,eval (.Constant (.str z) j p') X.env)::[])) _ _ s
 refine fZ (wpAny_Constant_str (iS ?_))
 refine⟨rfl,(by show 1<=sizeLine;decide),g1,g2,g4,fun h' e hx=>?_⟩
 have I2:bT X am σ H { s with heap:=h',toks:=s.toks+1 }:=I.kept hx.keeps
 have en:H e=none:=by
  cases hu:H e with
  |none=>rfl
  |some u=>
   obtain⟨ob,hob⟩:=(I.hok e u hu).ex
   have:=hx.new
   rw[show({ s with toks:=s.toks+1 }:Shared).heap=s.heap from rfl]at this
   rw[hob]at this;cases this
 obtain⟨t,R8,ht2,ht3⟩:=hx.there
 have hin:∀env∈X.stack,∀b,env.frame=some b->b∈tF X.stack:=fun env he b hb=>m_.mpr ⟨env,he,hb⟩
 refine h am μ σ H (.ref e) _ (au _) fI.refl l ⟨I2,e,.ref C,t,hideAll s.heap (tF X.stack),rfl,hm,en,fun b o hb=>hx.keeps b o (PySem.W.of_hideAll _ hb),?_,?_,.inr (.inl ⟨_,_,R8,rfl,rfl,rfl,rfl,rfl⟩),fun b o hb hr=>?_⟩
 ·cases hq:(hideAll s.heap (tF X.stack)).get? e with
  |none=>rfl
  |some o=>have z:=PySem.W.of_hideAll _ hq;have y:=hx.new;rw[show({ s with toks:=s.toks+1 }:Shared).heap=s.heap from rfl,z]at y;cases y
 ·exact(PySem.W.funFrames_hide I.stack hin).of_keeps fun b o hb _=>⟨o,hx.keeps b o hb,rfl⟩
 ·have old:∀o0,s.heap.get? b=some o0->s.heap.get? b=some o:=fun o0 h0=>by
   have h1:h'.get? b=some o0:=hx.keeps b o0 h0
   have h2:h'.get? b=some o:=hb
   rw[h1]at h2;rw[<- h2];exact h0
  have lg:∀o0,s.heap.get? b=some o0->b∉tF X.stack->(hideAll s.heap (tF X.stack)).get? b=some o:=fun o0 h0 hn=>PySem.W.hideAll_get _ (old o0 h0) hn
  rcases hr with hr|⟨⟨o0,h0⟩,hf,hbx⟩|⟨⟨y,hy⟩,hf⟩|⟨pp,hp,rfl⟩
  ·cases hu:H b with
   |none=>exact absurd hu hr
   |some u=>
    obtain⟨ob,hob⟩:=(I.hok b u hu).ex
    exact lg ob hob fun z=>by have:=I.stkFree b z;rw[hu]at this;cases this
  ·obtain⟨o1,h1⟩:=I.base.there b o0 h0 hbx
   refine lg o1 h1 fun z=>?_
   rcases aT.mp (I.stkSub b z)with z|z
   ·rw[z]at h0;exact absurd (aL (aH h0) I.ok.above) (d8 _)
   ·exact hf z
  ·obtain⟨v,ov,hov,_⟩:=I.cell y b hy
   exact lg ov hov hf
  ·obtain⟨p1,p2,p3,p4,_⟩:=I.pin pp hp
   refine lg _ p1 fun z=>?_
   rcases aT.mp (I.stkSub _ z)with z|z
   ·exact p3 z
   ·exact p4 z⟩
theorem bT.unbound{v:Option Value}{m:Str->Option Value}(I:bT X am σ H s)(hN:X.N.Nodup)(hi:X.N[i]?=some x)(hn:s.heap.Ns X.env.locals m)
  (U_:h'.Ns X.env.locals (fun y=>if y=x then v else m y)) (hs:Heap.SameBut X.env.locals s.heap h') (Lm:s.toks<=t':=by first|exact aC _|exact bx _|assumption|omega):bT X am (σ.set i none) H { s with heap:=h',toks:=t' }:=by
 obtain⟨m0,hn0,hl⟩:=id I.loc
 have em:m0=m:=by
  obtain⟨o,es,ep,a1,a2,a3,a4⟩:=hn0
  obtain⟨o',es',ep',b1,b2,b3,b4⟩:=hn
  rw[a1]at b1;cases b1
  rw[a2]at b2;cases b2
  funext y;rw[<- a4,<- b4]
 subst em
 obtain⟨oL,_,_,hoL,_⟩:=id hn0
 have cne:=I.cne
 refine⟨I.ok,I.os,I.bare,⟨fun b o e n hb hx=>?_,fun b o e n hb hx=>?_,I.base.free,fun b o e hx=>?_,I.base.tups,I.base.frzs,I.base.tbls⟩,⟨_,U_,fun j y w e1 e2 e3=>?_⟩,fun y c e=>?_,I.free,I.freeC,fun p hp=>?_,fun b ob e=>?_,by simpa using I.len,aL I.pos Lm,aO I.tk Lm⟩
 ·exact(hs.2 b (a9 (aL (aH e) I.ok.above))).trans (I.base.keep b o e n hb hx)
 ·obtain⟨sl,e1⟩:=I.base.slot b o e n hb hx
  exact⟨sl,(hs.2 b (a9 (aL (aH e) I.ok.above))).trans e1⟩
 ·obtain⟨o',e1⟩:=I.base.there b o e hx
  exact⟨o',(hs.2 b (a9 (aL (aH e) I.ok.above))).trans e1⟩
 ·by_cases hj:j=i
  ·subst hj
   by_cases hlt:j<σ.length
   ·rw[cq hlt]at e2;cases e2
   ·rw[cm (by simpa using hlt)]at e2;cases e2
  ·rw[cW (Ne.symm hj)]at e2
   obtain⟨u',r',q⟩:=hl j y w e1 e2 e3
   refine⟨u',r'.up Lm,?_⟩
   rcases q with⟨k,e⟩|⟨k,c,e,z⟩
   ·refine .inl ⟨k,?_⟩
    have:y≠x:=fun e=>hj (wT hN e1 (e▸hi))
    simp[this,e]
   ·exact .inr ⟨k,c,e,z.sameBut hs (cne y c e)⟩
 ·obtain⟨w',z⟩:=I.cell y c e
  exact⟨w',z.sameBut hs (cne y c e)⟩
 ·obtain⟨e,n,ne,nf,d⟩:=I.pin p hp
  exact⟨(hs.2 p.1 ne).trans e,n,ne,nf,d⟩
 ·refine((I.hok b ob e).up Lm).stay (fun c w' hc q=>(hs.2 c ?_).trans q) (fun _ q=>q) fun _ _ q=>q
  rintro rfl
  rcases hc with rfl|hc
  ·rw[I.free]at e;cases e
  ·rw[I.free]at hc;cases hc
theorem vU.lands{e:Value}{Q:Unit->Shared->Prop}{E:Value->Shared->Prop}{M:Model}(f:vU X am σ c H e s)(pM:X.stack=X.env::outer)(y6:X.env.frame=some X.env.locals)(hA:X.A.frames=some X.stack)
  (h:∀x C t B h',e=.ref x->X.mg c=some C->H x=none->Heap.FlyingW B X.stack x C (.ref t) h'->s.heap.UpToSlots h' ->
   (∀b o,s.heap.get? b=some o->(H b≠none\/#[37]\/#[44]\/∃p∈X.pn++am,p.1=b)->B.get? b=some o)->Q () { s with heap:=h' }) :
  wpAny M X.A (noteFrame e X.env) (fun _ s₂=>wpAny M X.A (setFlight e none) Q E s₂) E s:=by
 obtain⟨x,C,t,B,rfl,hC,hx,st,nx,ff,tr,yH⟩:=f.ex
 rw[pM]at ff hA
 rcases tr with tr|⟨oe,vs,he,rfl,_,hd,h1,h0⟩|⟨L,hL,tr⟩
 ·refine wpAny_looks_onW hA y6 ⟨st,nx,ff,tr⟩ fun h1 hh u1=>uJ hh fun h2 fl u2=>?_
  exact h x C t B h2 rfl hC hx (by rw[pM];exact fl) (u1.trans u2) yH
 ·unfold noteFrame
  simp only[y6]
  refine ag (dB he hd h1 ?_)
  rw[aW #[3]]
  refine wpAny_newEntryW hA ff y6 he st nx hd (Array.getElem?_eq_some_iff.mp h1).1 h0 fun h' hL=>?_
  obtain⟨k1,k2,k3,k4⟩:=hL
  exact h x _ t B h' rfl hC hx ⟨k1,nx,by rw[pM];exact k2,k3⟩ k4 yH
 ·refine pU hL tr (uJ ⟨st,nx,ff,tr⟩ fun h' fl up=>?_)
  exact h x C t B h' rfl hC hx (by rw[pM];exact fl) up yH
theorem bT.landed{B:Heap}{x:Addr}{C:Value}{t:Addr}(I:bT X am σ H s)(fl:Heap.FlyingW B X.stack x C (.ref t) h')(up:s.heap.UpToSlots h')(pM:X.stack=X.env::X.outer)
  (yH:∀b o,s.heap.get? b=some o->(H b≠none\/#[37]\/#[44]\/∃p∈X.pn++am,p.1=b)->B.get? b=some o) :
  bT X am σ H { s with heap:=h' }:=by
 obtain⟨f1,f2,f3,f4⟩:=fl
 obtain⟨m,hn,hl⟩:=id I.loc
 have cellK:∀y c,X.env.cells.lookup y=some c->∀v,s.heap.IsCell c v->h'.IsCell c v:=fun y c e v zq=>by
  obtain⟨o,ho,hd⟩:=zq
  by_cases hc:c∈tF X.stack
  ·obtain⟨sl,q⟩:=up c o ho fun vs z=>by rw[hd]at z;cases z
   exact⟨_,q,hd⟩
  ·exact⟨o,f1 c o (yH c o ho (.inr (.inr (.inl ⟨⟨y,e⟩,hc⟩)))),hd⟩
 have frames:∀b∈X.fs,∀o,s.heap.get? b=some o->∃sl,h'.get? b=some { o with slots:=sl }:=fun b hb o ho=>by
  obtain⟨_,o',ho',hd⟩:=I.funs.mem hb
  rw[ho]at ho';cases ho'
  exact up b o ho hd
 have kept:∀b o,s.heap.get? b=some o->(∃o0,X.s₀.heap.get? b=some o0)->b∉X.fs->b∉X.ex->h'.get? b=some o:=fun b o ho h0 hb hx=>f1 b o (yH b o ho (.inr (.inl ⟨h0,hb,hx⟩)))
 refine⟨I.ok,I.os,I.bare,⟨fun b o q n hb hx=>kept b o (I.base.keep b o q n hb hx) ⟨o,q⟩ hb hx,fun b o q n hb hx=>?_,I.base.free,fun b o q hx=>?_,I.base.tups,I.base.frzs,I.base.tbls⟩,⟨m,up.ns hn,fun i y v e1 e2 e3=>?_⟩,fun y c e=>?_,I.free,I.freeC,fun p hp=>?_,fun b u hb=>?_,I.len,I.pos,I.tk⟩
 ·obtain⟨sl,q1⟩:=I.base.slot b o q n hb hx
  obtain⟨sl2,q2⟩:=frames b hb _ q1
  exact⟨sl2,q2⟩
 ·obtain⟨o',q1⟩:=I.base.there b o q hx
  by_cases hb:b∈X.fs
  ·obtain⟨sl2,q2⟩:=frames b hb _ q1;exact⟨_,q2⟩
  ·exact⟨o',kept b o' q1 ⟨o,q⟩ hb hx⟩
 ·obtain⟨u,r,lk⟩:=hl i y v e1 e2 e3
  refine⟨u,r,?_⟩
  rcases lk with lk|⟨k,c,e,z⟩
  ·exact .inl lk
  ·exact .inr ⟨k,c,e,cellK y c e _ z⟩
 ·obtain⟨v,z⟩:=I.cell y c e
  exact⟨v,cellK y c e v z⟩
 ·obtain⟨e,n,ne,nf,d⟩:=I.pin p hp
  exact⟨f1 _ _ (yH _ _ e (.inr (.inr (.inr ⟨p,hp,rfl⟩)))),n,ne,nf,d⟩
 ·refine(I.hok b u hb).stay (fun c v hc q=>f1 c v (yH c v q (.inl ?_))) (fun _ q=>q) fun _ _ q=>q
  rcases hc with rfl|hc
  ·rw[hb];simp
  ·rw[hc];simp
abbrev Cx.trying(X:Cx)(pn:List #[38])(E:Value->Shared->Prop):Cx:={ X with pn:=pn,xe:=E }
abbrev Cx.within(X:Cx)(v:Value):Cx:={ X with A:=X.A.mark (some v),calm:=false,xe:=fun _ _=>False }
theorem Cx.Ok.trying(k:X.Ok)(pn:List #[38])(E:Value->Shared->Prop):(X.trying pn E).Ok:=⟨k.mod,k.kind,k.glob,k.blt,k.above,k.inj,k.has,k.cab,k.hd,k.frames,k.stk,k.exf,k.bs,k.bsz,k.noex,k.exfs,k.funs,k.frf⟩
theorem Cx.Ok.within(k:X.Ok)(v:Value):(X.within v).Ok:=⟨k.mod,k.kind,k.glob,k.blt,k.above,k.inj,k.has,k.cab,(fun z=>by cases z),k.frames,k.stk,k.exf,k.bs,k.bsz,k.noex,k.exfs,k.funs,k.frf⟩
section
theorem bT.trying(I:bT X am σ H s)(E:Value->Shared->Prop):bT (X.trying (X.pn++am) E) [] σ H s:=⟨I.ok.trying _ _,I.os,I.bare,I.base,I.loc,I.cell,I.free,I.freeC,fun p hp=>I.pin p (by simpa using hp),I.hok,I.len,I.pos,I.tk⟩
theorem bT.tried(ok:X.Ok)(I:bT (X.trying (X.pn++am) E) pins' σ H s):bT X am σ H s:=⟨ok,I.os,I.bare,I.base,I.loc,I.cell,I.free,I.freeC,fun p hp=>I.pin p (bJ _ hp),I.hok,I.len,I.pos,I.tk⟩
theorem bT.within(I:bT X am σ H s)(v:Value):bT (X.within v) am σ H s:=⟨I.ok.within v,I.os,I.bare,I.base,I.loc,I.cell,I.free,I.freeC,I.pin,I.hok,I.len,I.pos,I.tk⟩
theorem bT.out(ok:X.Ok)(I:bT (X.within v) am σ H s):bT X am σ H s:=⟨ok,I.os,I.bare,I.base,I.loc,I.cell,I.free,I.freeC,I.pin,I.hok,I.len,I.pos,I.tk⟩
theorem bT.adopt{x:Addr}{ob:HO}(I:bT X am σ H s)(hx:H x=none)(h0:X.s₀.heap.get? x=none)(hL:x≠X.env.locals)(hc:∀y c,X.env.cells.lookup y=some c->c≠x)(hp:∀p∈X.pn++am,p.1≠x)(ok:hJ X.prog X.w s.toks (gc H x ob) s.heap x ob):bT X am σ (gc H x ob) s:=by
 have hs:wf H (gc H x ob):=c7 hx ob
 refine⟨I.ok,I.os,I.bare,⟨I.base.keep,I.base.slot,fun b o q n hb=>?_,I.base.there,fun b xs q=>hs _ _ (I.base.tups b xs q),fun b o u q=>hs _ _ (I.base.frzs b o u q),fun b ps q=>?_⟩,I.loc,I.cell,?_,fun y c e=>?_,fun p h=>?_,fun b u hb=>?_,I.len,I.pos,I.tk⟩
 ·rw[df (fun z=>by rw[z,h0]at q;cases q)];exact I.base.free b o q n hb
 ·obtain⟨m,e⟩:=I.base.tbls b ps q;exact⟨m,hs _ _ e⟩
 ·rw[df (Ne.symm hL)];exact I.free
 ·rw[df (hc y c e)];exact I.freeC y c e
 ·obtain⟨a,b,c,d,e⟩:=I.pin p h;exact⟨a,by rw[df (hp p h)];exact b,c,d,e⟩
 ·by_cases e:b=x
  ·subst e;rw[ig]at hb;cases hb;exact ok
  ·rw[df e]at hb
   exact(I.hok b u hb).stay (fun _ _ _ q=>q) (fun c q=>hs _ _ q) fun c xs q=>hs _ _ q
end
theorem xG{g:Array GenState}{d:Drawn}{t:Nat}{os:OsState}{e:Addr}{oe:Obj}{Q:Bool->Shared->Prop}{nm qn nm' Xa:Str}{N D N':Addr}{bs bm Xe VO:List Value}{hdct Ox:Bool}{sn Xd:List Str}{sub Vh:List Value}{ab Xc:Bool}{col Vj:Option Bool}{dd WR:Option Addr}{k0 k1 k2 k3 k5 j0 j1 j2 j3 j5:Option Value}{rq RH:String}
  (hC:h.get? C=some (excClassObj nm qn C N bs bm hdct sn sub ab col dd k0 k1 k2 k3 k5 rq)) (hD:h.get? D=some (excClassObj nm' Xa D N' Xe VO Ox Xd Vh Xc Vj WR j0 j1 j2 j3 j5 RH)) (he:h.get? e=some oe) (K0:oe.cls=.ref C) (kC:VO.contains (.type "BaseException")=true)
  {b:Bool} (hb:(Value.ref C::bm).contains (.ref D)=b) (hq:Q b ⟨h,g,d,t,os⟩):wpAny M A (excMatches (.ref e) (.ref D)) Q E ⟨h,g,d,t,os⟩:=by
 have hcB:(Value.ref D::VO).contains (.type "BaseException")=true:=by rw[nq,kC,Bool.or_true]
 have f:=tc_notTuple
 unfold excMatches
 repeat(first|(with_reducible refine fA he ?_;rw[K0])|with_reducible refine fA hD ?_|(with_reducible refine jw hD ?_;rw[hcB])|(with_reducible refine jw hC ?_;rw[hb])|wp_step)
 cases b<;>(wp_walk;exact hq)
open AutoSeq1 (wpAny_loadPart')
section
end
section
variable{a b c:Expr}{fb:FE}{fs:FA}
end
def PY(i:Nat):RS->RS
 |.nx ρ st=>.nx (ρ.set i none) st
 |.bk ρ st=>.bk (ρ.set i none) st
 |.ct ρ st=>.ct (ρ.set i none) st
 |.rt w st=>.rt w st
 |_=>.bad
def Ei(g:FS)(cs:List Str)(i:Nat)(gh:FS):FS:=fun ρ st=>match g ρ st with
 |.ex c ρ' bt=>if c∈cs then PY i (gh (ρ'.set i (some (.loc bt.length))) (bt++[.exc c]))else .bad
 |r=>r
structure IG(K:Frag)(mg:Str->Option Value)(T:Str)(cs:List Str):Prop where
 h:∀c∈cs,∃C Ta,mg c=some (.ref C)/\mg T=some (.ref Ta)/\excIn K C rY si=true/\excIn K Ta rY si=true/\(Cp K C).contains (.ref Ta)=true
theorem o_:∀{ρ:cL} {σ:St} (i:Nat),Paired (fun(o:Option W) (s:Option V)=>∀w,o=some w->∃v,s=some v/\b8 K μ H w v) ρ σ ->
  Paired (fun(o:Option W) (s:Option V)=>∀w,o=some w->∃v,s=some v/\b8 K μ H w v) (ρ.set i none) (σ.set i none)
 |_,_,_,.nil=>.nil
 |_,_,0,.cons a t=>.cons (fun w e=>by cases e) t
 |_,_,i+1,.cons a t=>.cons a (o_ i t)
theorem jO.pushE(S:jO K mg μ st H){x:Addr}{C:Value}(hx:H x=none)(hc:mg c=some C):jO K mg (μ++[x]) (st++[.exc c]) (gc H x (xj x C)):=
 S.push (c:=.exc c) hx ⟨C,hc,ig⟩
theorem PZ{body Oz:List Stmt}{b₀:Stmt}{T n:Str}{i:Nat}{g gh:FS}{cs:List Str}{pos Dt np:Pos}(hC:IG X.K X.mg T cs)(hN:X.N.Nodup)(hi:X.N[i]?=some n)(hx:Ld X.env.scope n)
  (hb:∀pn E,SB (X.trying pn E) body g) (hs:∀v,SB (X.within v) (b₀::Oz) gh) (zY:X.ex=[]:=by rfl) (pM:X.stack=X.env::X.outer:=by rfl) (y6:X.env.frame=some X.env.locals:=by rfl) (hk:X.env.kindOf n=some .local:=by rfl) (hg:Gl X T:=by rfl) (hd:(T==("__debug__":Str))=false:=by decide)
  (hf:X.fn n=true\/X.env.scope.names.lookup n=some .local:=by first|exact .inl rfl|exact .inr rfl) :
  SS X (.Try body [.ExceptHandler (some (.Name T np)) (some n) (b₀::Oz) Dt] [] [] pos) (Ei g cs i gh):=⟨by
 intro am s σ H D I h
 walk_at "2"
 refine wpAny_Try_except ?_
 refine jU ((hb (X.pn++am) _).h [] s σ H D (I.trying _) ⟨μ,ρ,st,⟨l.env,l.sto⟩,?_⟩) (fun f s1 q=>?_) (fun _ _ q=>q)
 ·unfold Ei at h
  cases e:g ρ st with
  |nx ρ' bt=>rw[e]at h;exact fun μ' σ' H' p x r=>h μ' σ' H' p x ⟨r.env,r.sto⟩
  |bk ρ' bt=>rw[e]at h;exact fun μ' σ' H' p x r=>h μ' σ' H' p x ⟨r.env,r.sto⟩
  |ct ρ' bt=>rw[e]at h;exact fun μ' σ' H' p x r=>h μ' σ' H' p x ⟨r.env,r.sto⟩
  |rt w bt=>rw[e]at h;exact h
  |bad=>rw[e]at h;exact h
  |ex c ρ' bt=>
   rw[e]at h
   intro pins' μ' σ' H' ev s' pp xx r f
   dsimp only at h
   split at h
   ·rename_i hc
    obtain⟨Ca,Ta,m1,m2,q1,q2,hsub⟩:=hC.h c hc
    have I0:=f.inv
    refine f.lands pM y6 I.ok.frames fun ex C t B h' he hCc hxn fl up yH=>?_
    subst he
    obtain rfl:C=.ref Ca:=by have:=hCc.symm.trans m1;exact bC this
    have I1:=I0.landed fl up pM yH
    have I2:bT X am σ' H' { s' with heap:=h' }:=bT.tried I.ok I1
    obtain⟨oe,vs,_,_,_,Ln,⟨K0,_⟩,hdat,_⟩:=fl.2.2.2
    have cov2:∀b o,h'.get? b=some o->(H' b≠none\/#[37]\/#[44]\/∃p∈X.pn++am,p.1=b)->B.get? b=some o:=by
     intro b o hbo hr
     have lg:∀o1,s'.heap.get? b=some o1->(H' b≠none\/#[37]\/#[44]\/∃p∈(X.pn++am)++pins',p.1=b)->B.get? b=some o:=fun o1 h1 hr=>by
      have h2:=yH b o1 h1 hr
      have h3:=fl.1 b o1 h2
      rw[h3]at hbo;cases hbo;exact h2
     rcases hr with hr|⟨⟨o0,h0⟩,hbf,hbx⟩|⟨⟨y,hy⟩,hbf⟩|⟨p,hp,rfl⟩
     ·cases hu:H' b with
      |none=>exact absurd hu hr
      |some u=>obtain⟨ob,hob⟩:=(I0.hok b u hu).ex;exact lg ob hob (.inl hr)
     ·obtain⟨o1,h1⟩:=I0.base.there b o0 h0 hbx
      exact lg o1 h1 (.inr (.inl ⟨⟨o0,h0⟩,hbf,hbx⟩))
     ·obtain⟨v,ov,hov,_⟩:=I0.cell y b hy
      exact lg ov hov (.inr (.inr (.inl ⟨⟨y,hy⟩,hbf⟩)))
     ·obtain⟨p1,_⟩:=I0.pin p (bJ _ hp)
      exact lg _ p1 (.inr (.inr (.inr ⟨p,bJ _ hp,rfl⟩)))
    have noB:∀o,B.get? ex=some o->False:=fun o z=>by have:=fl.2.1;rw[z]at this;cases this
    obtain⟨bm,N,nm,qn,bs,hdct,sn,sub,ab,col,dd,k0,k1,k2,k3,k5,mN,g1,g2,g3,g4,g5⟩:=rP I2.kIn q1
    obtain⟨VO,N',nm',Xa,Xe,Ox,Xd,Vh,Xc,Vj,WR,j0,j1,j2,j3,j5,mN',g1',g2',g3',g4',g5'⟩:=rP I2.kIn q2
    refine wpAny_handleBy_cons (codeAny_handlers_test ?_) (by intro z;cases z)
    refine tH (X:=X.within (.ref ex)) (I2.within _) hg m2 ?_ hd
    refine xG g1 g1' Ln K0 (g4'.hasType F.excBase_ValueError.hasBase) (b:=true) (by rw[<- g5];exact hsub) ?_
    refine codeAny_handlers_suite_as ?_
    refine lands_againW fl fun h2 fl2 up2=>?_
    have I3:bT X am σ' H' { s' with heap:=h2 }:=I2.landed fl2 up2 pM cov2
    obtain⟨oe2,vs2,_,_,_,heo2,⟨hcls2,_⟩,hdat2,_⟩:=fl2.2.2.2
    have I4:bT X am σ' (gc H' ex (xj ex (.ref Ca))) { s' with heap:=h2 }:=by
     refine I3.adopt hxn ?_ ?_ ?_ ?_ ?_
     ·cases h0:X.s₀.heap.get? ex with
      |none=>rfl
      |some o0=>
       exfalso
       by_cases hfs:ex∈X.fs
       ·obtain⟨_,o',ho',hd'⟩:=I3.funs.mem hfs
        have ho':h2.get? ex=some o':=ho'
        rw[heo2]at ho';cases ho'
        exact hd' _ hdat2
       ·exact noB _ (cov2 ex oe Ln (.inr (.inl ⟨⟨o0,h0⟩,hfs,by rw[zY];simp⟩)))
     ·rintro rfl
      obtain⟨m,⟨o,es,ep,a1,a2,_⟩,_⟩:=I3.loc
      have a1:h2.get? _=some o:=a1
      rw[heo2]at a1;cases a1
      rw[hdat2]at a2;cases a2
     ·rintro y c' hy rfl
      obtain⟨v,o,a1,a2⟩:=I3.cell y _ hy
      have a1:h2.get? _=some o:=a1
      rw[heo2]at a1;cases a1
      rw[hdat2]at a2;cases a2
     ·rintro p hp rfl
      exact noB _ (cov2 p.1 oe Ln (.inr (.inr (.inr ⟨p,hp,rfl⟩))))
     ·refine⟨⟨oe2,vs2,heo2,hcls2,hdat2⟩,⟨oe2,heo2⟩,?_⟩
      rintro ha hb' ⟨o,vs,z1,z2,z3⟩ keep
      exact⟨o,vs,keep o z1,z2,z3⟩
    have hxt:fI X.K H' (gc H' ex (xj ex (.ref Ca))):=gG.same (c7 hxn _)
    refine wU (X:=X.within (.ref ex)) (I4.within _) hN hi hx (v:=.ref ex) rfl (fun s5 I5=>?_) hf
    have S4:jO X.K X.mg (μ'++[ex]) (bt++[.exc c]) (gc H' ex (xj ex (.ref Ca))):=jO.pushE r.sto hxn m1
    have L4:Rl (X.within (.ref ex)) (μ'++[ex]) (ρ'.set i (some (.loc bt.length))) (bt++[.exc c]) (σ'.set i (some (.ref ex))) (gc H' ex (xj ex (.ref Ca))):=
     ⟨tL (qE r.sto) i (uX (a_ _ _) hxt r.env),S4⟩
    have pm:μ <+: μ'++[ex]:=pp.trans (a_ _ _)
    have xm:fI X.K H (gc H' ex (xj ex (.ref Ca))):=xx.trans hxt
    have hp:(X.env.scope.kind==.class||(X.env.scope.kind==.module&&X.env.locals != X.env.globals))=false:=by rw[I.ok.kind];rfl
    refine jU ((hs (.ref ex)).h am s5 _ _ { nx:=fun σ H=>D.nx (σ.set i none) H,rt:=D.rt,bk:=fun σ H=>D.bk (σ.set i none) H,ct:=fun σ H=>D.ct (σ.set i none) H } I5 ⟨μ'++[ex],_,_,L4,?_⟩) (fun f6 s6 q=>?_) (fun _ _ z=>z.elim)
    ·cases e2:gh (ρ'.set i (some (.loc bt.length))) (bt++[.exc c])with
     |nx ρ2 dz=>rw[e2]at h;exact fun μ3 σ3 H3 p3 x3 r3=>h μ3 (σ3.set i none) H3 (pm.trans p3) (xm.trans x3) ⟨o_ i r3.env,r3.sto⟩
     |bk ρ2 dz=>rw[e2]at h;exact fun μ3 σ3 H3 p3 x3 r3=>h μ3 (σ3.set i none) H3 (pm.trans p3) (xm.trans x3) ⟨o_ i r3.env,r3.sto⟩
     |ct ρ2 dz=>rw[e2]at h;exact fun μ3 σ3 H3 p3 x3 r3=>h μ3 (σ3.set i none) H3 (pm.trans p3) (xm.trans x3) ⟨o_ i r3.env,r3.sto⟩
     |rt w dz=>rw[e2]at h;exact fun μ3 v H3 p3 x3 S3 r3=>h μ3 v H3 (pm.trans p3) (xm.trans x3) S3 r3
     |ex c2 ρ2 dz=>rw[e2]at h;exact h.elim
     |bad=>rw[e2]at h;exact h.elim
    ·cases f6 with
     |next=>
      obtain⟨σ6,H6,I6,q⟩:=q
      have I6':bT X am σ6 H6 s6:=bT.out I.ok I6
      obtain⟨m,hn,hl⟩:=id I6'.loc
      exact jd hk hn hp fun h7 v hn7 hs7=>⟨_,H6,I6'.unbound hN hi hn hn7 hs7,q⟩
     |brk=>
      obtain⟨σ6,H6,I6,q⟩:=q
      have I6':bT X am σ6 H6 s6:=bT.out I.ok I6
      obtain⟨m,hn,hl⟩:=id I6'.loc
      exact jd hk hn hp fun h7 v hn7 hs7=>⟨_,H6,I6'.unbound hN hi hn hn7 hs7,q⟩
     |cont=>
      obtain⟨σ6,H6,I6,q⟩:=q
      have I6':bT X am σ6 H6 s6:=bT.out I.ok I6
      obtain⟨m,hn,hl⟩:=id I6'.loc
      exact jd hk hn hp fun h7 v hn7 hs7=>⟨_,H6,I6'.unbound hN hi hn hn7 hs7,q⟩
     |ret u=>
      obtain⟨v6,σ6,H6,I6,rr,q⟩:=q
      have I6':bT X am σ6 H6 s6:=bT.out I.ok I6
      obtain⟨m,hn,hl⟩:=id I6'.loc
      exact jd hk hn hp fun h7 v hn7 hs7=>⟨v6,_,H6,I6'.unbound hN hi hn hn7 hs7,rr.up (bx _),q⟩
   ·exact h.elim
 ·cases f with
  |next=>
   obtain⟨σ',H',I',q⟩:=q
   exact jI ⟨σ',H',bT.tried I.ok I',q⟩
  |brk=>obtain⟨σ',H',I',q⟩:=q;exact⟨σ',H',bT.tried I.ok I',q⟩
  |cont=>obtain⟨σ',H',I',q⟩:=q;exact⟨σ',H',bT.tried I.ok I',q⟩
  |ret u=>obtain⟨v,σ',H',I',rr,q⟩:=q;exact⟨v,σ',H',bT.tried I.ok I',rr,q⟩⟩
section
variable{w:World}{g:Array GenState}{d:Drawn}{t:Nat}{os:OsState}{a:Addr}{o:Obj}
 {nm q:Str} {C N:Addr} {bs bm:List Value} {hdct:Bool} {sn:List Str} {sub:List Value} {ab:Bool} {col:Option Bool} {dd:Option Addr} {k0 k1 k2 k3 k5:Option Value} {rq:String} {K:Frag}
theorem P0{R:Result->Shared->Prop}(hC:h.get? C=some #[24])(T:OwnTail h rY bm)(hx:h.get? a=some o)(hc:o.cls=.ref C)(hq:R (.ok (.ret (.ref C))) ⟨h,g,d,t,os⟩) :
  codeAny #[7] A (.call (.builtin "getset_descriptor.__get__") ⟨[.builtin "object.__class__",.ref a,.ref C],[]⟩) R ⟨h,g,d,t,os⟩:=by
 have hT5:(⟨h,g,d,t,os⟩:Shared).TypeIs #[29] "getset_descriptor":=kS
 have hcB:(Value.ref C::bm).contains (.type (".".intercalate ("object.__class__".cutAt '.').dropLast))=true:=by
  rw[F.owner_object_class,nq,T.hasType (X:="object") (b:=true) #[3]]
  rfl
 refine lS F.slot_gs_get.plain F.entry_gs_get (F.slot_gs_get.check _ _ _ _ _ _ _ _ hT5 (F.args_gs_get _ _ _) ?_)
 repeat(any_goals (first|assumption|(with_reducible refine fA hx ?_;rw[hc])|(with_reducible refine jw hC ?_;rw[hcB])|wp_step))
 refine⟨Code.quiet_builtin _ #[65],dL F.entry_object_class ?_⟩
 repeat(any_goals (first|assumption|(with_reducible refine fA hx ?_;rw[hc])|wp_step))
theorem AA{Q:Option Value->Shared->Prop}{r:Option Value}(X:K.In h)(f:findIn K (.ref C) x=some r)(hq:Q r ⟨h,g,d,t,os⟩):wpAny #[7] A (typeLookup (.ref C) x) Q E ⟨h,g,d,t,os⟩:=
 PySem.W.looks_findIn X f A Q E _ (fun _ _ z=>z) hq
theorem IH{tk:Tok}{Q:Fin->Shared->Prop}(X:K.In h)(f2:findIn K (.ref C) "__class__"=some (some #[29]))(hC:h.get? C=some #[24])(T:OwnTail h rY bm)(hx:h.get? a=some o)(hc:o.cls=.ref C)
  (hq:Q (.done (.ret (.ref C))) ⟨h,g,d,t,os⟩):wpAny #[7] A (Builtin.«object.__getattribute__» ⟨[.ref a,.str "__class__" tk],[]⟩) Q E ⟨h,g,d,t,os⟩:=by
 have hT5:(⟨h,g,d,t,os⟩:Shared).TypeIs #[29] "getset_descriptor":=kS
 have f5:=kS
 have f6:=F.slot_gs_get.lookup
 have f7:=F.slot_gs_set.lookup
 repeat(any_goals (first|assumption|(with_reducible refine fA hx ?_;rw[hc])|with_reducible refine AA X f2 ?_|wp_step))
 refine P0 hC T hx hc ?_
 repeat(any_goals (first|assumption|wp_step))
theorem II{Q:Unit->Shared->Prop}(hC:h.get? C=some #[24])(T:OwnTail h rY bm)(hx:h.get? a=some o)(hc:o.cls=.ref C)(hq:Q () ⟨h,g,d,t,os⟩) :
  wpAny M A (checkBuiltinCall "BaseException.__getattribute__" ⟨[.ref a,v],[]⟩) Q E ⟨h,g,d,t,os⟩:=by
 have hcB:(Value.ref C::bm).contains (.type "BaseException")=true:=by
  rw[nq,T.hasType (X:="BaseException") (b:=true) #[3]]
  rfl
 have ha:=F.args_bexc_ga (.ref a) v
 have kd:builtinKind "BaseException.__getattribute__"=some .slot:=by decide +kernel
 have sp:splitId "BaseException.__getattribute__"=some ("BaseException","__getattribute__"):=by decide +kernel
 simp only[checkBuiltinCall,kd,sp]
 refine ag ?_
 unfold isInstance
 repeat(first|(with_reducible refine fA hx ?_;rw[hc])|(with_reducible refine jw hC ?_;rw[hcB])|wp_step)
 exact hq
theorem Mm{tk:Tok}{R:Result->Shared->Prop}(X:K.In h)(f2:findIn K (.ref C) "__class__"=some (some #[29]))(hC:h.get? C=some #[24])(T:OwnTail h rY bm)(hx:h.get? a=some o)(hc:o.cls=.ref C)
  (hq:R (.ok (.ret (.ref C))) ⟨h,g,d,t,os⟩):codeAny #[7] A (.call (.builtin "BaseException.__getattribute__") ⟨[.ref a,.str "__class__" tk],[]⟩) R ⟨h,g,d,t,os⟩:=
 lS F.attrBase_ValueError.ga.plain F.entry_bexc_ga (II hC T hx hc (IH X f2 hC T hx hc hq))
theorem TL{tk:Tok}(X:K.In h)(f1:findIn K (.ref C) "__getattribute__"=some #[34])(f3:findIn K (.ref C) "__getattr__"=some none)(f2:findIn K (.ref C) "__class__"=some (some #[29]))
  (hC:h.get? C=some #[24]) (T:OwnTail h rY bm) (hx:h.get? a=some o) (hc:o.cls=.ref C) (hq:Q (.ref C) ⟨h,g,d,t,os⟩) :
  wpAny #[7] A (getAttrBy (.ref a) (.str "__class__" tk) false) Q E ⟨h,g,d,t,os⟩:=by
 have f4:=F.attrBase_ValueError.ga.bind (.ref a)
 have hx2:(Value.builtin "BaseException.__getattribute__" == Value.builtin "object.__getattribute__")=false:=by decide +kernel
 have hx1:(onTheHeap (Value.ref C)&&Value.builtin "BaseException.__getattribute__" == Value.builtin "object.__getattribute__")=false:=by rw[hx2];rfl
 repeat(any_goals (first|assumption|(with_reducible refine fA hx ?_;rw[hc])|with_reducible refine AA X f1 ?_|with_reducible refine AA X f3 ?_|wp_step))
 refine Mm X f2 hC T hx hc ?_
 repeat(any_goals (first|assumption|wp_step))
theorem Mn{Q:Option Value->Shared->Prop}(X:K.In h)(f1:findIn K (.ref C) "__getattribute__"=some #[34])(f3:findIn K (.ref C) "__getattr__"=some none)(f2:findIn K (.ref C) "__class__"=some (some #[29]))
  (hC:h.get? C=some #[24]) (T:OwnTail h rY bm) (hx:h.get? a=some o) (hc:o.cls=.ref C) (hq:Q (some (.ref C)) ⟨h,g,d,t+1,os⟩) :
  wpAny #[7] A (getAttr? (.ref a) "__class__") Q E ⟨h,g,d,t,os⟩:=by
 unfold getAttr? getAttrBy?
 repeat(any_goals (first|assumption|with_reducible apply TL X f1 f3 f2 hC T hx hc|wp_step))
end
end L2
namespace L2
open PySem PySem.Spec PyProof.Rows
structure IJ(K:Frag)(C:Addr):Prop where
 ga:findIn K (.ref C) "__getattribute__"=some #[34]
 gt:findIn K (.ref C) "__getattr__"=some none
 cl:findIn K (.ref C) "__class__"=some (some #[29])
theorem Cq{x:Addr}(q:excIn K C rY si=true)(n:IJ K C):PySem.W.KitX K (.ref x) (.ref C) (fun h=>∃o,h.get? x=some o/\o.cls=.ref C) where
 ty:=fun M h X zq A Q E s k z=>by
  obtain⟨o,h1,h2⟩:=zq
  unfold typeOf
  refine ag (rD (k _ _ h1) ?_)
  rw[h2]
  exact ay z
 it:=fun M h X _ A Q E s k z=>by
  obtain⟨bm,N,nm,qn,bs,hdct,sn,sub,ab,col,dd,k0,k1,k2,k3,k5,mN,g1,_⟩:=rP X q
  unfold isType loadHead
  exact ag (rD (k _ _ g1) (ay z))
 ne:=fun h tp dd b9 m sl X htp=>by
  obtain⟨bm,N,nm,qn,bs,hdct,sn,sub,ab,col,WR,k0,k1,k2,k3,k5,mN,g1,_⟩:=rP X q
  refine Bool.eq_false_iff.mpr fun z=>?_
  have e:C=tp:=Value.ref.inj (dv.mp z)
  subst e
  rw[g1]at htp
  have z2:(Value.type "type")=.type "tuple":=iy Obj.cls (bC htp)
  exact absurd z2 #[3]
 ca:=fun{prog w A E Q s} X p z=>by
  obtain⟨o,h1,h2⟩:=p
  obtain⟨bm,N,nm,qn,bs,hdct,sn,sub,ab,col,dd,k0,k1,k2,k3,k5,mN,g1,g2,g3,g4,g5⟩:=rP X q
  obtain⟨h,g,d,t,os⟩:=s
  exact Mn X n.ga n.gt n.cl g1 g4 h1 h2 z
structure Ej(K:Frag)(mg:Str->Option Value)(T:Value)(f:Str->Option Bool):Prop where
 h:∀c b,f c=some b->∃C,mg c=some (.ref C)/\excIn K C rY si=true/\IJ K C/\kitOne K (.ref C) T=some b
theorem zC{T:V}{Tv:Value}(hT:∀(nk:Nat) (u:Value),dN nk T u->u=Tv){f:Str->Option Bool}(hI:Ej X.K X.mg Tv f) :
  jo X (.builtin "isinstance") (fun xs H Q=>∃x μ st n c b,xs=[x,T]/\jO X.K X.mg μ st H/\b8 X.K μ H (.loc n) x/\st[n]?=some (.exc c)/\f c=some b/\Q (.bl b) H):=by
 walk_at "11"
 obtain⟨x,μ,st,n,c,b,rfl,S,rx,hn,hf,q⟩:=h
 obtain⟨u,u2,rfl,r1,r2⟩:=cQ.two r
 obtain rfl:=hT _ u2 r2
 obtain⟨C,hm,hq,U8,hk⟩:=hI.h c b hf
 obtain⟨a,ha,C',hm',hH⟩:=S.get hn
 obtain⟨a',ha',rfl⟩:=rx.locE
 rw[ha]at ha';cases ha'
 rw[hm]at hm';cases hm'
 cases(show u=Value.ref a from r1)
 obtain⟨⟨o,vs,h1,h2,h3⟩,_⟩:=I.hok a _ hH
 exact up (kia_one (Cq hq U8) I.kIn ⟨o,h1,h2⟩ hk (fun z=>nomatch z) fun tk hk=>⟨.bl _,H,I.tok tk,rfl,q⟩)
def xH(f:Str->Option Bool)(fa:FE):FE:=fun ρ st=>(fa ρ st).bind fun x st=>match x with
 |.loc n=>(match st[n]? with
  |some (.exc c)=>(match f c with
   |some b=>.ok (.bl b) st
   |none=>.bad)
  |_=>.bad)
 |_=>.bad
section
variable{a:Expr}
theorem IK{T:V}{f:Str->Option Bool}{t:TE}(h:PE X e t)(hi:∀σ H Q,(tE X fa) σ H (fun x H1=>∃x' μ st n c b,([x,T]:List V)=[x',T]/\jO X.K X.mg μ st H1/\b8 X.K μ H1 (.loc n) x'/\st[n]?=some (.exc c)/\f c=some b/\Q (.bl b) H1)->t σ H Q):SE X e (xH f fa):=⟨h.imp fun σ H Q z=>by
 refine hi σ H Q ?_
 obtain⟨μ,ρ,st,l,z⟩:=z
 refine⟨μ,ρ,st,l,RK.bind z l fun μ1 st1 x v H1 p1 x1 l1 q1 h1=>?_⟩
 split at h1
 ·rename_i n
  split at h1
  ·rename_i c e1
   split at h1
   ·rename_i b e2
    exact⟨v,μ1,st1,n,c,b,rfl,l1.sto,q1,e1,e2,h1 μ1 _ H1 (au _) fI.refl l1.sto .bl⟩
   ·exact h1.elim
  ·exact h1.elim
 ·exact h1.elim⟩
theorem IL{xT:Str}{Ta:Addr}{f:Str->Option Bool}(hm:X.mg "isinstance"=none)(hT:X.mg xT=some (.ref Ta))(hI:Ej X.K X.mg (.ref Ta) f)(ha:SE X a fa)(hg:Gl X "isinstance":=by rfl)(Va:Gl X xT:=by rfl)(hd:(xT==("__debug__":Str))=false:=by decide)
  (he:starEach [a,.Name xT p2] X.env=(false,eval a X.env)::starEach [.Name xT p2] X.env:=by rfl) (M2:starEach [.Name xT p2] X.env=(false,eval (.Name xT p2) X.env)::starEach [] X.env:=by rfl) (m7:(backTo pos (starEach [.Name xT p2] X.env)).any (·.1)=false:=by rfl) :
  SE X (.Call (.Name "isinstance" p) [a,.Name xT p2] [] pos) (xH f fa):=
 IK (T:=.ref Ta) (qA (zC (T:=.ref Ta) (Tv:=.ref Ta) (fun _ _ r=>r) hI) hg hm jK (lr ha.h (lr (Ai Va hT (v:=.ref Ta) rfl hd) uU M2) he) #[3] #[3] he m7) fun _ _ _ z=>z
theorem TM{xT:Str}{f:Str->Option Bool}(hm:X.mg "isinstance"=none)(hT:X.mg xT=none)(hv:bootBuiltins xT=some (.type T))(hI:Ej X.K X.mg (.type T) f)(ha:SE X a fa)(hg:Gl X "isinstance":=by rfl)(Va:Gl X xT:=by rfl)(hn:xT ≠ "__name__":=by decide)(hd:(xT==("__debug__":Str))=false:=by decide)
  (he:starEach [a,.Name xT p2] X.env=(false,eval a X.env)::starEach [.Name xT p2] X.env:=by rfl) (M2:starEach [.Name xT p2] X.env=(false,eval (.Name xT p2) X.env)::starEach [] X.env:=by rfl) (m7:(backTo pos (starEach [.Name xT p2] X.env)).any (·.1)=false:=by rfl) :
  SE X (.Call (.Name "isinstance" p) [a,.Name xT p2] [] pos) (xH f fa):=
 IK (T:=.ty T) (qA (zC (T:=.ty T) (Tv:=.type T) (fun _ _ r=>r) hI) hg hm jK (lr ha.h (lr (Fg Va hT hv (v:=.ty T) rfl hn hd) uU M2) he) #[3] #[3] he m7) fun _ _ _ z=>z
end
end L2
namespace L2
open PySem PySem.Spec PyProof.Rows
inductive TN(X:Cx):List Expr->List Addr->Prop
 |nil:TN X [] []
 |cons {x:Str} {p:Pos} {C:Addr} {es:List Expr} {cs:List Addr}:X.mg x=some (.ref C)->Gl X x->(x==("__debug__":Str))=false->TN X es cs->TN X (.Name x p::es) (C::cs)
def Xq(vs:List V):TA:=fun _ H Q=>Q vs H
theorem P1{cs:List Addr}(h:TN X es cs):PA X es (Xq (cs.map V.ref)):=by
 induction h with
 |nil=>exact uU
 |cons hm hg hd _ ih=>exact(lr (Ai hg hm (v:=.ref _) rfl hd) ih rfl).imp fun _ _ _ z=>z
structure IM(K:Frag)(mg:Str->Option Value)(Cs:List Addr)(f:Str->Option Bool):Prop where
 h:∀c b,f c=some b->∃C,mg c=some (.ref C)/\excIn K C rY si=true/\IJ K C/\kitAny K (.ref C) (Cs.map Value.ref)=some b
theorem zD:∀{Cs:List Addr} {us:List Value},cQ nk (Cs.map V.ref) us->us=Cs.map Value.ref
 |[],us,r=>by cases r;rfl
 |C::Cs,us,r=>by
  cases r with
  |cons a t=>rw[zD t,show _=Value.ref C from a];rfl
theorem GS{Cs:List Addr}{f:Str->Option Bool}(hI:IM X.K X.mg Cs f) :
  jo X (.builtin "isinstance") (fun xs H Q=>∃x tp μ st n c b,xs=[x,.ref tp]/\jO X.K X.mg μ st H/\b8 X.K μ H (.loc n) x/\st[n]?=some (.exc c)/\f c=some b/\gG X.K H tp (Cs.map V.ref)/\Q (.bl b) H):=by
 walk_at "11"
 obtain⟨x,tp,μ,st,n,c,b,rfl,S,rx,hn,hf,hS,q⟩:=h
 obtain⟨u,u2,rfl,r1,r2⟩:=cQ.two r
 cases(show u2=Value.ref tp from r2)
 obtain⟨C,hm,hq,U8,hk⟩:=hI.h c b hf
 obtain⟨a,ha,C',hm',hH⟩:=S.get hn
 obtain⟨a',ha',rfl⟩:=rx.locE
 rw[ha]at ha';cases ha'
 rw[hm]at hm';cases hm'
 cases(show u=Value.ref a from r1)
 obtain⟨⟨o,vs,h1,h2,h3⟩,_⟩:=I.hok a _ hH
 obtain⟨b9,rt,⟨ot,e2,hc,n2,hd⟩,z2⟩:=I.tuple hS
 have hits:=zD rt
 subst hits
 obtain⟨cls,dd,data,sl⟩:=ot
 dsimp only at hc hd
 subst hc hd
 exact up (PySem.W.kia_tup (Cq hq U8) I.kIn ⟨o,h1,h2⟩ e2 hk (fun z=>nomatch z) fun tk Lm=>⟨.bl _,H,I.tok tk,rfl,q⟩)
section
variable{a:Expr}
theorem P2{Cs:List Addr}{f:Str->Option Bool}(hm:X.mg "isinstance"=none)(hT:TN X es Cs)(hI:IM X.K X.mg Cs f)(hz:Cs.length<=sizeLine)(ha:SE X a fa)(hg:Gl X "isinstance":=by rfl)
  (he:starEach [a,.Tuple es k p2] X.env=(false,eval a X.env)::starEach [.Tuple es k p2] X.env:=by rfl) (M2:starEach [.Tuple es k p2] X.env=(false,eval (.Tuple es k p2) X.env)::starEach [] X.env:=by rfl) (m7:(backTo pos (starEach [.Tuple es k p2] X.env)).any (·.1)=false:=by rfl) :
  SE X (.Call (.Name "isinstance" p) [a,.Tuple es k p2] [] pos) (xH f fa):=⟨(qA (GS hI) hg hm jK (lr ha.h (lr (Fv (P1 hT)) uU M2) he) #[3] #[3] he m7).imp fun σ H Q h=>by
 walk_at "2"
 walk_at "1"
 split at h1
 ·rename_i n
  split at h1
  ·rename_i c e1
   split at h1
   ·rename_i b e2
    refine⟨by rw[aF];exact hz,fun tp H2 hp e=>?_⟩
    subst e
    have xx:fI X.K H1 (gc H1 tp (.tup (Cs.map V.ref))):=gG.same (c7 hp _)
    exact⟨v,tp,μ1,st1,n,c,b,rfl,l1.sto.same (c7 hp _),q1.mono (au _) xx,e1,e2,gG.new,h1 μ1 _ _ (au _) xx (l1.sto.same (c7 hp _)) .bl⟩
   ·exact h1.elim
  ·exact h1.elim
 ·exact h1.elim⟩
end
end L2
namespace L2
open PySem PySem.Spec PyProof.Rows
section
end
section
theorem xI(l:List α):∀(k:Nat) (jF:List α),List.foldl (fun x1 x2=>x1++x2) jF.toArray (List.replicate k l.toArray)=(jF++(List.replicate k l).flatten).toArray
 |0,jF=>by simp
 |k+1,jF=>by
  have e:jF.toArray++l.toArray=(jF++l).toArray:=by simp
  rw[List.replicate_succ,List.foldl_cons,e,xI l k (jF++l),List.replicate_succ,nT,al]
theorem P3(l:List Nat)(n:Int):Txt.mul (tx l) n=tx (List.replicate n.toNat l).flatten:=by
 unfold Txt.mul
 by_cases h:n<1
 ·rw[aJ h,show n.toNat=0 by omega];rfl
 ·rw[aW h]
  split
  ·rename_i hc
   rw[Bool.or_eq_true,dv,dv,jN]at hc
   rcases hc with rfl|hc
   ·simp
   ·have:l=[]:=List.length_eq_zero_iff.mp hc
    subst this
    simp
  ·have:=xI l n.toNat []
   rw[d9]at this
   show Str.mk _=Str.mk _
   congr 1
theorem Mo:qm X (binaryOp .Mult) (fun x y H Q=>∃(l:List Nat) (k:Int),x=.str (tx l)/\y=.int k/\-(2^62)<=k/\k<2^62/\l.length*k.toNat<=1000000/\l.length*k.toNat≠1/\Q (.str (tx (List.replicate k.toNat l).flatten)) H):=by
 walk_at "7"
 obtain⟨l,k,rfl,rfl,h1,h2,h3,h31,q⟩:=h
 obtain⟨t,rfl⟩:=rx
 obtain⟨t',rfl⟩:=ry
 refine up (SB.mul ⟨?_,?_,?_⟩ fun t2 tk hk=>⟨.str _,H,I.tok _,⟨⟨t2,fun e=>absurd e ?_⟩,?_⟩,q⟩)
 ·simp;omega
 ·intro hk hx
  rw[jN]
  intro hg
  have hk1:1<=k:=by omega
  have:k*((2^63-1)/k)<=2^63-1:=Int.mul_ediv_self_le #[0]
  have h4:(2^63-1)<k*(l.length:Int):=by
   have:=Int.lt_mul_of_ediv_lt (a:=2^63-1) (b:=(l.length:Int)) (c:=k) #[0] hg
   rw[pV];exact this
  have h5:k*(l.length:Int)=((l.length*k.toNat:Nat):Int):=by
   rw[jL,Int.toNat_of_nonneg #[0],pV]
  rw[h5]at h4
  omega
 ·intro hk hx
  rw[jN]
  unfold Builtin.Str.tooLong
  rw[a7]
  have:(1000000:Nat)<=sizeLine:=by decide
  omega
 ·rw[jN];simpa[Nat.mul_comm]using h31
 ·rw[P3]
def iY:W->W->List ar->R W
 |.int i,.int j,st=>if PL i j then .ok (.int (i*j)) st else .bad
 |.str l,.int k,st=>if -(2^62)<=k/\k<2^62/\l.length*k.toNat<=oy/\l.length*k.toNat≠1 then .ok (.str (List.replicate k.toNat l).flatten) st else .bad
 |_,_,_=>.bad
theorem jP:yD X (binaryOp .Mult) iY:=⟨fun am s σ H x y v u Q I rv ru zq=>by
 walk_at "10"
 cases wx with
 |int i=>
  cases wy with
  |int j=>
   have q':Hl X μ H Q (Tq (.int i) (.int j) st):=q
   exact Tr.h am s σ H x y v u Q I rv ru ⟨μ,st,.int i,.int j,S,rx,ry,q'⟩
  |_=>exact q.elim
 |str l=>
  cases wy with
  |int k=>
   simp only[iY]at q
   split at q
   ·rename_i cc
    exact Mo am s σ H x y v u Q I rv ru ⟨l,k,rx.strE,ry.intE,cc.1,cc.2.1,cc.2.2.1,cc.2.2.2,tO S q⟩
   ·exact q.elim
  |_=>exact q.elim
 |_=>cases wy<;>exact q.elim,fun x y st=>by
 unfold iY
 repeat' split
 all_goals trivial⟩
end
section
variable{fs:FA}
end
section
variable{w:World}
theorem xJ:∀(l:List Nat) (vs:List Value),vs.length=l.length->(∀(j:Nat) (v:Value),vs[j]?=some v->∃c u,l[j]?=some c/\v=.str (tx [c]) u)->StrsAre vs (l.map fun c=>tx [c])
 |[],[],_,_=>.nil
 |c::l,v::vs,hl,h=>by
  obtain⟨d,u,e,rfl⟩:=h 0 v rfl
  cases e
  exact .cons _ _ (xJ l vs (Nat.succ.inj hl) fun j v hj=>h (j+1) v hj)
 |[],_::_,hl,_=>nomatch hl
 |_::_,[],hl,_=>nomatch hl
abbrev P4(jF:Array Value)(c:Nat):Obj:={ cls:=.type "list",data:=.seq jF c }
theorem IN{R:Result->Shared->Prop}{I:Addr}{wr:List Addr}{n0:Nat}{P:Nat->Value->Prop}{St:Nat->Heap->Prop}(W:Walks prog w A.in1 I fp wr n P St)(Oy:n<=sizeLine)(D:Addr)(hD:D∉fp)(res:Value)
  (Dv:∀i (s:Shared) (Q:Option Value->Shared->Prop) (E:Value->Shared->Prop),n0<=s.toks->i<n->St i s.heap ->
   (∀v h' tk,s.toks<=tk->jx tk [v]->P i v->St (i+1) h'->(∀b o,b∉wr->s.heap.get? b=some o->h'.get? b=some o)->Q (some v) { s with heap:=h',toks:=tk })->wpAny #[7] A.in1 (pyNext (.ref I)) Q E s) :
  ∀(m i:Nat) (z:Shared) (F7:Array Value) (c:Nat),i+m=n->n0<=z.toks->St i z.heap->z.heap.get? D=some (P4 F7 c)->ItemsOf P F7 i->jx z.toks F7.toList ->
   (∀g tk got' c',z.toks<=tk->(∀b o,b≠D->b∉wr->z.heap.get? b=some o->g.get? b=some o)->g.get? D=some (P4 got' c')->ItemsOf P got' n->jx tk got'.toList->R (.ok (.ret res)) { z with heap:=g,toks:=tk }) ->
   codeAny #[7] A (.builtin "list.extend.loop" ⟨[.ref D,.ref I,res],[]⟩) R z:=by
 have nw:D∉wr:=fun h=>hD (W.sub _ h)
 intro m
 induction m with
 |zero=>
  intro i z F7 c e hn0 st hd ac ta q
  obtain rfl:i=n:=e
  refine dL PySem.F.entry_extend_loop ?_
  rw[dr PySem.F.plain_extend_loop _]
  show wpAny _ A.in1 (pyNext (.ref I) >>= _) _ _ z
  exact ag (up (W.done z _ _ st fun g tk kp mL=>ay (q g tk F7 c mL (fun b o _ hb h=>kp b o hb h) (kp D _ nw hd) ac (ta.up mL))))
 |succ m ih=>
  intro i z F7 c e hn0 st hd ac ta q
  refine dL PySem.F.entry_extend_loop ?_
  rw[dr PySem.F.plain_extend_loop _]
  show wpAny _ A.in1 (pyNext (.ref I) >>= _) _ _ z
  refine ag (Dv i z _ _ hn0 #[0] st fun v g tk mL tv hP bt kp=>?_)
  have hd':=kp D _ nw hd
  show wpAny _ A.in1 (updateSeq D (·.push v) >>= _) _ _ _
  refine ag (qj hd' rfl (ay ⟨fO PySem.F.plain_extend_loop _,ih (i+1) _ (F7.push v) _ #[0] (aO hn0 mL) (W.frame _ _ _ bt fun b hb o h=>?_) (d7 _ hd' rfl) (ac.push hP) (fun x t hx=>?_) fun g2 tk2 got2 c2 hle2 kp2 hd2 ac2 ta2=>?_⟩)
   (by rw[ac.1];omega) (by show(F7.push v).size<=sizeLine+1;rw[Array.size_push,ac.1];omega))
  ·exact(cX _ _ (fun h:D=b=>hD (by rw[h];exact hb))).trans h
  ·rw[nR,aV]at hx
   rcases hx with hx|hx
   ·exact ta.up mL x t hx
   ·exact tv x t hx
  ·exact q g2 tk2 got2 c2 (aO mL hle2) (fun b o hb hw h=>kp2 b o hb hw ((cX _ _ (Ne.symm hb)).trans (kp b o hw h))) hd2 ac2 ta2
theorem AB{t:Tok}{Q:List Value->Shared->Prop}(Dt:0<s.toks)(hh:A.handled=none)(Oy:l.length<=sizeLine)
  (q:∀g tk (F7:Array Value),s.toks<=tk->(∀b o,s.heap.get? b=some o->g.get? b=some o)->ItemsOf (SignAt (tx l)) F7 (tx l).cps.size->jx tk F7.toList->Q F7.toList { s with heap:=g,toks:=tk }):wpAny #[7] A (collect (.str (tx l) t)) Q E s:=by
 have hn:(tx l).cps.size=l.length:=by simp[tx]
 unfold collect
 refine ag (rG (dL entry_proto_collect' ?_))
 rw[dr PySem.F.plain_proto_collect _]
 show wpAny _ A.in1 (newList [] >>= fun d=>again (.builtin "list.__iadd__" ⟨[d,.str (tx l) t],[]⟩)) _ _ s
 refine ag (cH (ay ⟨fO PySem.F.plain_list_iadd _,dL entry_list_iadd' ?_⟩))
 rw[dr PySem.F.plain_list_iadd _]
 show wpAny _ A.in1 (Builtin.List.listExtendWith #[28] (.str (tx l) t) #[28]) _ _ _
 unfold Builtin.List.listExtendWith
 refine ag (jn (T:="str") (v:=.str (tx l) t) rfl ?_)
 have e1:Builtin.List.listSameRef #[28] (.str (tx l) t)=false:=rfl
 have e2:(Value.type "str" == Value.type "list")=false:=by decide
 have e3:(Value.type "str" == Value.type "tuple")=false:=by decide
 simp only[e1,e2,e3,oh,fv,gu]
 generalize hL:s.heap.objs.size=L
 have gL:(s.heap.push { cls:=.type "list",data:=.seq ([]:List Value).toArray }).get? L=some (P4 #[] 0):=by rw[<- hL];exact aD _ rfl
 have z1:(s.heap.push { cls:=.type "list",data:=.seq ([]:List Value).toArray }).objs.size=L+1:=by rw[bG,hL]
 have kp1:∀b o,s.heap.get? b=some o->(s.heap.push { cls:=.type "list",data:=.seq ([]:List Value).toArray }).get? b=some o:=fun b o e=>aw _ e
 generalize s.heap.push { cls:=.type "list",data:=.seq ([]:List Value).toArray }=g1 at gL z1 kp1 ⊢
 have lg:∀(ob:Obj) (ty:String),(∀A:Around,A.handled=none->Walks prog w A (L+1) [L+1] [L+1] (tx l).cps.size (SignAt (tx l)) (fun i h=>h.IsStrIter (L+1) ty (tx l) t i))->(g1.push ob).IsStrIter (L+1) ty (tx l) t 0 ->
   (∀{A:Around} {s:Shared} {i c:Nat} {Q:Option Value->Shared->Prop} {E:Value->Shared->Prop},s.heap.IsStrIter (L+1) ty (tx l) t i->(tx l).cps[i]?=some c ->
    (∀h',h'.IsStrIter (L+1) ty (tx l) t (i+1)->Heap.SameBut (L+1) s.heap h'->Q (some (.str ⟨#[c]⟩ s.toks)) { s with heap:=h',toks:=s.toks+1 })->wpAny #[7] A (pyNext (.ref (L+1))) Q E s) ->
   codeAny #[7] A (.builtin "list.extend.loop" ⟨[.ref L,.ref (L+1),.ref L],[]⟩) (wants (fun r s'=>wpAny #[7] A (match r with|.ref a=>(do match (<- load a).data with|.seq xs _=>pure xs.toList|_=>unsupported "internal:collect")|_=>unsupported "internal:collect") Q E s') E) { s with heap:=g1.push ob }:=fun ob ty W h0 next=>by
  refine IN (n0:=s.toks) (W A.in1 (by simpa using hh)) (by rw[hn];exact Oy) L #[15] (.ref L) (fun i s' Q E hn0 hi st q=>?_) (tx l).cps.size 0 _ #[] 0 #[0] (aC _) h0 (aw _ gL) (ItemsOf.nil _) (fun x u hx=>by simp at hx) fun g tk F7 c mL kp hd ac ta=>?_
  ·obtain⟨c,hx⟩:∃c,(tx l).cps[i]?=some c:=⟨_,e_ hi⟩
   refine next st hx fun h' bt hs=>q _ h' (s'.toks+1) (bx _) (fun x u hx' _=>?_) ⟨c,_,hx,rfl⟩ bt fun b o hb e=>hs.extBut b o (fun z=>hb (by simp[z])) e
   rw[aZ]at hx'
   cases hx'
   exact⟨aL Dt hn0,cu _⟩
  ·refine ag (wpAny_load hd (ay (q g tk F7 mL (fun b o e=>kp b o ?_ ?_ (aw _ (kp1 b o e))) ac ta)))
   ·rw[<- hL];exact a9 (aH e)
   ·intro hm
    rw[aZ]at hm
    have:=aH e
    rw[hL,hm]at this
    have this:L+1<L:=this
    omega
 have hint:∀(s':Shared) (Q':Bool->Shared->Prop) (E':Value->Shared->Prop),Q' false s'->wpAny #[7] A.in1 (Builtin.List.listLengthHint (.str (tx l) t)) Q' E' s':=fun s' Q' E' y=>by
  unfold Builtin.List.listLengthHint
  refine ag (wpAny_specialOf (T:="str") (v:=.str (tx l) t) rfl PySem.F.str_len ?_)
  wp_delta
  refine ag (gY (T:="str") (v:=.str (tx l) t) (b:=true) rfl (by rw[eU];kernel_rfl) ?_)
  show wpAny _ A.in1 (typeOf (Value.str (tx l) t) >>= _) _ _ _
  exact ag (jn (T:="str") (v:=.str (tx l) t) rfl (ay y))
 have key:∀(ob:Obj),codeAny #[7] A (.builtin "list.extend.loop" ⟨[.ref L,.ref (L+1),.ref L],[]⟩) (wants (fun r s'=>wpAny #[7] A (match r with|.ref a=>(do match (<- load a).data with|.seq xs _=>pure xs.toList|_=>unsupported "internal:collect")|_=>unsupported "internal:collect") Q E s') E) { s with heap:=g1.push ob }->_:=fun ob h=>h
 cases ha:(tx l).cps.all (· < 128)
 ·refine ag (nO ha (ag (dI (hint _ _ _ ?_))))
  show wpAny _ _ _ _ _ _
  rw[show Shared.heap { s with heap:=g1 }=g1 from rfl,z1]
  rw[aW #[3]]
  exact ay ⟨fO PySem.F.plain_extend_loop _,lg _ "str_iterator" (fun A hA=>Walks.strWide hA _ (tx l) t) ⟨_,by rw[<- z1];exact aD _ rfl,rfl,rfl⟩ fun a b c=>kD a b c⟩
 ·refine ag (ni ha (ag (dI (hint _ _ _ ?_))))
  rw[show Shared.heap { s with heap:=g1 }=g1 from rfl,z1]
  rw[aW #[3]]
  exact ay ⟨fO PySem.F.plain_extend_loop _,lg _ "str_ascii_iterator" (fun A hA=>Walks.strAscii hA _ (tx l) t) ⟨_,by rw[<- z1];exact aD _ rfl,rfl,rfl⟩ fun a b c=>j9 a b c⟩
theorem Cr{t:Tok}(Dt:0<s.toks)(Oy:l.length<64)(hh:A.handled=none)
  (q:∀(s1:Shared) (g1:Heap) (out:Array Value) (ss:List Str) (e:Nat),(∀b o,s.heap.get? b=some o->s1.heap.get? b=some o)->s1.gens=s.gens->s1.drawn=s.drawn->s1.os=s.os->(∀b o,s1.heap.get? b=some o->g1.get? b=some o)->g1.get? s1.heap.objs.size=some (seqObj "list" out e) ->
   s.toks<=s1.toks->jx s1.toks out.toList->StrsAre out.toList ss->ss.Perm (l.map fun c=>tx [c])->sortedS ss=true->Q (.ref s1.heap.objs.size) { s1 with heap:=g1 }):wpAny #[7] A (call (.builtin "sorted") [.str (tx l) t]) Q E s:=by
 have hn:(tx l).cps.size=l.length:=by simp[tx]
 apply ny kind_sorted plain_sorted entry_sorted (args_sorted1 _)
 show wpAny _ _ (checkCount "sorted" 1 1 _ >>= _) _ _ _
 refine ag (ay (ag (AB Dt (by simpa using hh) (by rw[lM];omega) (fun g tk jF mL kp ha ta=>?_))))
 generalize hs1:({ s with heap:=g,toks:=tk }:Shared)=s1
 have eg:s1.gens=s.gens:=by rw[<- hs1]
 have ed:s1.drawn=s.drawn:=by rw[<- hs1]
 have eo:s1.os=s.os:=by rw[<- hs1]
 have kp:∀b o,s.heap.get? b=some o->s1.heap.get? b=some o:=by rw[<- hs1];exact kp
 have mL:s.toks<=s1.toks:=by rw[<- hs1];exact mL
 have ta:jx s1.toks jF.toList:=by rw[<- hs1];exact ta
 have pM:StrsAre jF.toList (l.map fun c=>tx [c]):=by
  refine xJ l _ (by rw[eW,ha.1,hn]) fun j v hj=>?_
  obtain⟨c,u,hc,e⟩:=ha.2 j v (by simpa using hj)
  exact⟨c,u,by simpa[tx]using hc,e⟩
 have hvl:jF.toList.length<64:=by rw[eW,ha.1,hn];exact Oy
 refine ag (wpAny_newList ?_ (by rw[lM];omega))
 have oL:(s1.heap.push (seqObj "list" jF.toList.toArray 0)).get? s1.heap.objs.size=some (seqObj "list" jF.toList.toArray 0):=aD _ rfl
 refine ag (dI (cv slot_list_sort ⟨_,oL,rfl⟩ entry_list_sort (list_sort_treeK sK oL pM.keysOf (fun a b r e=>uI (by rw[<- e];exact pM)) hvl fun st a1 a2=>⟨_,rfl,?_⟩) (args_list_sort _)))
 obtain⟨ss,h1,h2,h3⟩:=rF pM a1 a2
 obtain⟨e,he⟩:=sortedHeap_at (out:=(arrOf st).map (·.2)) oL
 refine ay ⟨_,rfl,q s1 _ _ ss e kp eg ed eo (fun b o hb=>?_) he mL (ta.sub (xg a1)) h1 h2 h3⟩
 rw[sortedHeap_old (a9 (aH hb)) (by rw[bG];exact de (aH hb))]
 exact aw _ hb
end
section
def lW(ws:List W)(st:List ar):R W:=match ws with
 |[.str l]=>if l.length<64 then .ok (.loc st.length) (st++[.lst ((j4 (l.map fun c=>[c])).map W.str)])else .bad
 |[.loc n]=>rO [.loc n] st
 |_=>.bad
theorem AC(hc:X.calm=true:=by rfl):qG X (.builtin "sorted") lW:=⟨fun am s σ H vs us Q I rv zq=>by
 obtain⟨μ,st,ws,S,r,q⟩:=zq
 unfold lW at q
 split at q
 ·rename_i l
  split at q
  ·rename_i c
   obtain⟨y,rfl,ry⟩:=r.one
   have:=ry.strE;subst this
   obtain⟨u,rfl,ru⟩:=qy rv
   obtain⟨t,rfl⟩:=ru
   refine Cr I.pos c (I.ok.hd hc) fun s1 g1 out ss e kp eg ed eo k1 gL mL ta pM hp hsr=>?_
   have es:s1={ s with heap:=s1.heap,toks:=s1.toks }:=by cases s1;cases s;cases eg;cases ed;cases eo;rfl
   generalize s1.heap=g0,s1.toks=tk at es kp k1 gL mL ta ⊢
   subst es
   have I2:bT X am σ H { s with heap:=g0,toks:=tk }:=I.kept2 (d':=s.drawn) fun b o e=>kp b o e
   have y6:H g0.objs.size=none:=I2.hok.fresh (aC _)
   have hmap:(ss.map fun z=>z.cps.toList).map tx=ss:=by
    rw[cw]
    have:(tx∘fun z:Str=>z.cps.toList)=id:=funext fun z=>Fw z
    rw[this,j_]
   have hperm:(ss.map fun z=>z.cps.toList).Perm #[49]:=by
    have e:=hp.map fun z:Str=>z.cps.toList
    rw[cw]at e
    exact e
   have ez:(ss.map fun z=>z.cps.toList)=j4 #[49]:=wJ (xD (by rw[hmap];exact hsr)) (xC _) (hperm.trans (h_ _).symm)
   have hvals:cQ tk ((j4 #[49]).map fun l=>V.str (tx l)) out.toList:=by
    have e:=oZ pM ta
    rw[<- hmap,ez,cw]at e
    exact e
   refine⟨.ref g0.objs.size,_,I2.laid (o:=.lst ((j4 #[49]).map fun l=>V.str (tx l))) (t':=tk) k1 (aC _) ⟨?_,out.toList,e,hvals,gL⟩,rfl,?_⟩
   ·rw[aF,(h_ _).length_eq,aF]
    exact aO (gs c) #[3]
   ·exact q (μ++[g0.objs.size]) _ _ (a_ _ _) (gG.same (c7 y6 _)) (S.newLst y6 (Cn _)) (qE S)
  ·exact q.elim
 ·exact Co.h am s σ H _ us Q I rv ⟨μ,st,_,S,r,q⟩
 ·exact q.elim,fun ws st=>by
 unfold lW
 split
 ·split<;>trivial
 ·exact(Co (X:=X)).n _ _
 ·trivial⟩
end
section
variable{a b c:Expr}{fs:FA}
end
section
variable{f:FG}
end
theorem bT.turnedL{s:Shared}{t':Nat}{ch:List Addr}(I:bT X am σ H s)(k:∀b o,b∉ch->s.heap.get? b=some o->h'.get? b=some o)
  (f:∀b∈ch,uR X am H b) (Lm:s.toks<=t':=by first|exact aC _|exact bx _|assumption|omega):bT X am σ H { s with heap:=h',toks:=t' }:=by
 have nit:∀b u,H b=some u->b∉ch:=fun b u q z=>by rw[(f b z).1]at q;cases q
 refine I.step (g':=s.gens) (d':=s.drawn) (ch:=ch) (fun b hb=>?_) (fun b o _ _ hc q _=>k b o hc q) (fun b o _ _ hc q _=>⟨o.slots,k b o hc q⟩) (fun _ _ _ _ n=>n)
  (fun b o hc q=>⟨o,k b o hc q⟩) (fun _ _ q=>q) (fun _ _ _ q=>q) (fun b ps q=>⟨#[],by rw[q];simp⟩) (fun m hm=>?_) (fun b u q=>?_) I.bare Lm
 ·exact⟨(f b hb).2.2.2.1,(f b hb).2.1,(f b hb).2.2.2.2.1,(f b hb).2.2.2.2.2⟩
 ·obtain⟨o,es,ep,ho,r⟩:=hm
  exact⟨o,es,ep,k _ o (fun z=>(f _ z).2.1 rfl) ho,r⟩
 ·refine((I.hok b u q).up Lm).stay (fun c v hc z=>?_) (fun _ z=>z) fun _ _ z=>z
  rcases hc with y|y
  ·rw[y]at z ⊢;exact k b v (nit b u q) z
  ·exact k c v (nit c _ y) z
section
variable{w:World}
variable{z P O i j a b:Addr}{m:Nat}{xs ys:Array Value}{x y:Value}
theorem Mp(D:ZipApart z P O i j a b)(qz:IsZip s.heap z P O .none)(qP:IsPair s.heap P (.ref i) (.ref j))(qO:IsPair s.heap O u v)
  (q1:s.heap.IsTupleIter i a n) (q2:s.heap.IsTupleIter j b m) (ta:s.heap.IsTuple a xs) (tb:s.heap.IsTuple b ys) (hx:xs[n]?=some x) (hy:ys[m]?=some y)
  (hQ:∀g,IsZip g z P O (rawInt s.heap.objs.size)->IsPair g O x y->g.IsTupleIter i a (n+1)->g.IsTupleIter j b (m+1)->IsPair g s.heap.objs.size x y ->
   (∀c o,c≠z->c≠O->c≠i->c≠j->s.heap.get? c=some o->g.get? c=some o)->Q #[28] { s with heap:=g }) :
  wpAny #[7] A (Builtin.«zip.__next__» ⟨[.ref z],[]⟩) (fun lg s'=>∃v,lg=.done (.ret v)/\Q v s') E s:=by
 show wpAny _ _ (field (.ref z) 2 >>= _) _ _ _
 refine ag (dB qz rfl (x:=.bool false) rfl ?_)
 show wpAny _ _ (field (.ref z) 3 >>= _) _ _ _
 refine ag (dB qz rfl (x:=.ref P) rfl (ag (eT qP rfl ?_)))
 show wpAny _ _ (Builtin.SmallTypes.ownedTupleIsFree (.ref z) >>= _) _ _ _
 refine ag ?_;unfold Builtin.SmallTypes.ownedTupleIsFree
 refine ag (dB qz rfl (x:=.none) rfl (ay ?_));simp only[gy]
 refine ag (lq (ag (dB qz rfl (x:=.ref O) rfl ?_)))
 refine ag (cJ qz #[15] fun g1 z1 s1=>?_)
 replace z1:IsZip g1 z P O .ellipsis:=z1
 refine ag ?_
 simp only[List.zipIdx_cons,List.zipIdx_nil,mq,rE]
 refine ag (ag (ol ?_))
 show wpAny _ _ (Builtin.SmallTypes.nextOf (.ref i) >>= _) _ _ _
 refine ag (ly (q1.extBut s1.extBut D.i1z) (ta.extBut s1.extBut D.l1z) hx fun g2 k2 s2=>ay ?_)
 have O2:IsPair g2 O u v:=s2.extBut _ _ D.TOi1 (s1.extBut _ _ D.TOz qO)
 refine ag (eT O2 rfl (ag (lU O2 fun g3 O3 s3=>?_)))
 replace O3:IsPair g3 O x v:=O3
 refine ag (wpAny_letGo (ay (ag (ag (ol ?_)))))
 show wpAny _ _ (Builtin.SmallTypes.nextOf (.ref j) >>= _) _ _ _
 refine ag (ly (((q2.extBut s1.extBut D.i2z).extBut s2.extBut D.i12.symm).extBut s3.extBut D.TOi2.symm)
  (((tb.extBut s1.extBut D.l2z).extBut s2.extBut D.l2i1).extBut s3.extBut D.l2TO) hy fun g4 k4 s4=>ay ?_)
 have O4:IsPair g4 O x v:=s4.extBut _ _ D.TOi2 O3
 refine ag (eT O4 rfl (ag (lU O4 fun g5 O5 s5=>?_)))
 replace O5:IsPair g5 O x y:=O5
 refine ag (wpAny_letGo (ay (ay (ag (eT O5 rfl (ag (wpAny_newTuple ?_)))))))
 have sz:g5.objs.size=s.heap.objs.size:=by rw[s5.1,s4.1,s3.1,s2.1,s1.1]
 have z5:IsZip g5 z P O .ellipsis:=s5.extBut _ _ D.TOz.symm (s4.extBut _ _ D.i2z.symm (s3.extBut _ _ D.TOz.symm (s2.extBut _ _ D.i1z.symm z1)))
 have kp:∀c o,c≠z->c≠O->c≠i->c≠j->s.heap.get? c=some o->g5.get? c=some o:=fun c o c1 c2 c3 c4 e=>
  s5.extBut _ _ c2 (s4.extBut _ _ c4 (s3.extBut _ _ c2 (s2.extBut _ _ c3 (s1.extBut _ _ c1 e))))
 have k5:g5.IsTupleIter i a (n+1):=((k2.extBut s3.extBut D.TOi1.symm).extBut s4.extBut D.i12).extBut s5.extBut D.TOi1.symm
 have l5:g5.IsTupleIter j b (m+1):=k4.extBut s5.extBut D.TOi2.symm
 have zlt:z<g5.objs.size:=aH z5
 show wpAny _ _ (Builtin.SmallTypes.ownedTupleHandOut (.ref z) (.ref g5.objs.size) >>= _) _ _ _
 refine ag ?_;unfold Builtin.SmallTypes.ownedTupleHandOut
 have z6:IsZip (g5.push { cls:=.type "tuple",data:=.seq #[x,y] }) z P O .ellipsis:=aw _ z5
 refine ag (cJ z6 #[15] fun g7 z7 s7=>?_)
 replace z7:IsZip g7 z P O (rawInt g5.objs.size):=z7
 refine cJ z7 #[15] fun g8 z8 s8=>?_
 replace z8:IsZip g8 z P O (rawInt g5.objs.size):=z8
 have up:∀c o,c≠z->g5.get? c=some o->g8.get? c=some o:=fun c o c1 e=>s8.extBut _ _ c1 (s7.extBut _ _ c1 (aw _ e))
 have T8:IsPair g8 g5.objs.size x y:=s8.extBut _ _ (eR zlt) (s7.extBut _ _ (eR zlt) (aD _ rfl))
 rw[sz]at z8 T8
 refine ay ⟨_,rfl,?_⟩
 show Q (.ref g5.objs.size) _
 rw[sz]
 exact hQ g8 z8 (up _ _ D.TOz O5) (k5.at fun o e=>up _ o D.i1z e) (l5.at fun o e=>up _ o D.i2z e) T8 fun c o c1 c2 c3 c4 e=>up c o c1 (kp c o c1 c2 c3 c4 e)
theorem P5{Q:Fin->Shared->Prop}(hh:A.handled=none)(D:ZipApart z P O i j a b)(qz:IsZip s.heap z P O .none)(qP:IsPair s.heap P (.ref i) (.ref j))(qO:IsPair s.heap O u v)
  (q1:s.heap.IsTupleIter i a n) (q2:s.heap.IsTupleIter j b m) (ta:s.heap.IsTuple a xs) (tb:s.heap.IsTuple b ys) (he:xs[n]?=none\/ys[m]?=none)
  (hE:∀g e,(∀c o,c≠z->c≠O->c≠i->c≠j->s.heap.get? c=some o->g.get? c=some o)->(∃o,g.get? e=some o/\o.cls=.type "StopIteration")->E (.ref e) { s with heap:=g }) :
  wpAny #[7] A (Builtin.«zip.__next__» ⟨[.ref z],[]⟩) Q E s:=by
 show wpAny _ _ (field (.ref z) 2 >>= _) _ _ _
 refine ag (dB qz rfl (x:=.bool false) rfl ?_)
 show wpAny _ _ (field (.ref z) 3 >>= _) _ _ _
 refine ag (dB qz rfl (x:=.ref P) rfl (ag (eT qP rfl ?_)))
 show wpAny _ _ (Builtin.SmallTypes.ownedTupleIsFree (.ref z) >>= _) _ _ _
 refine ag ?_;unfold Builtin.SmallTypes.ownedTupleIsFree
 refine ag (dB qz rfl (x:=.none) rfl (ay ?_));simp only[gy]
 refine ag (lq (ag (dB qz rfl (x:=.ref O) rfl ?_)))
 refine ag (cJ qz #[15] fun g1 z1 s1=>?_)
 replace z1:IsZip g1 z P O .ellipsis:=z1
 refine ag ?_
 simp only[List.zipIdx_cons,List.zipIdx_nil,mq,rE]
 refine ag (ag (ol ?_))
 show wpAny _ _ (Builtin.SmallTypes.nextOf (.ref i) >>= _) _ _ _
 cases hx:xs[n]? with
 |none=>
  refine ag (mD hh (q1.extBut s1.extBut D.i1z) (ta.extBut s1.extBut D.l1z) hx fun g2 e s2 ye=>?_)
  obtain⟨oe,h1,h2⟩:=ye
  have z2:IsZip g2 z P O .ellipsis:=s2 _ _ D.i1z.symm z1
  have nez:e≠z:=fun q=>by subst q;rw[z2]at h1;cases h1;simp at h2
  exact cJ z2 #[15] fun g3 _ s3=>hE g3 e (fun c o c1 _ c3 _ q=>s3.extBut _ _ c1 (s2 _ _ c3 (s1.extBut _ _ c1 q))) ⟨oe,s3.extBut _ _ nez h1,h2⟩
 |some x=>
  have hy:ys[m]?=none:=by rcases he with h|h;rw[hx]at h;cases h;exact h
  refine ag (ly (q1.extBut s1.extBut D.i1z) (ta.extBut s1.extBut D.l1z) hx fun g2 k2 s2=>ay ?_)
  have O2:IsPair g2 O u v:=s2.extBut _ _ D.TOi1 (s1.extBut _ _ D.TOz qO)
  refine ag (eT O2 rfl (ag (lU O2 fun g3 O3 s3=>?_)))
  refine ag (wpAny_letGo (ay (ag (ag (ol ?_)))))
  show wpAny _ _ (Builtin.SmallTypes.nextOf (.ref j) >>= _) _ _ _
  refine ag (mD hh (((q2.extBut s1.extBut D.i2z).extBut s2.extBut D.i12.symm).extBut s3.extBut D.TOi2.symm)
   (((tb.extBut s1.extBut D.l2z).extBut s2.extBut D.l2i1).extBut s3.extBut D.l2TO) hy fun g4 e s4 ye=>?_)
  obtain⟨oe,h1,h2⟩:=ye
  have z4:IsZip g4 z P O .ellipsis:=s4 _ _ D.i2z.symm (s3.extBut _ _ D.TOz.symm (s2.extBut _ _ D.i1z.symm z1))
  have nez:e≠z:=fun q=>by subst q;rw[z4]at h1;cases h1;simp at h2
  exact cJ z4 #[15] fun g5 _ s5=>hE g5 e (fun c o c1 c2 c3 c4 q=>s5.extBut _ _ c1 (s4 _ _ c4 (s3.extBut _ _ c2 (s2.extBut _ _ c3 (s1.extBut _ _ c1 q))))) ⟨oe,s5.extBut _ _ nez h1,h2⟩
theorem Mq{Q:Option Value->Shared->Prop}(D:ZipApart z P O i j a b)(qz:IsZip s.heap z P O .none)(qP:IsPair s.heap P (.ref i) (.ref j))(qO:IsPair s.heap O u v)
  (q1:s.heap.IsTupleIter i a n) (q2:s.heap.IsTupleIter j b m) (ta:s.heap.IsTuple a xs) (tb:s.heap.IsTuple b ys) (hx:xs[n]?=some x) (hy:ys[m]?=some y)
  (hQ:∀g,IsZip g z P O (rawInt s.heap.objs.size)->IsPair g O x y->g.IsTupleIter i a (n+1)->g.IsTupleIter j b (m+1)->IsPair g s.heap.objs.size x y ->
   (∀c o,c≠z->c≠O->c≠i->c≠j->s.heap.get? c=some o->g.get? c=some o)->Q (some #[28]) { s with heap:=g }) :
  wpAny #[7] A (pyNext (.ref z)) Q E s:=by
 have T:s.TypeIs (.ref z) "zip":=⟨_,qz,rfl⟩
 unfold pyNext
 exact ag (iE (ce (name:=Str.ofString "__next__") T mw (cv mw T F.entry_zip_next
   (Mp D qz qP qO q1 q2 ta tb hx hy fun g a1 a2 a3 a4 a5 a6=>ay (hQ g a1 a2 a3 a4 a5 a6)) (F.args_zip_next_1 _))))
theorem Mr{Q:Option Value->Shared->Prop}(hh:A.handled=none)(D:ZipApart z P O i j a b)(qz:IsZip s.heap z P O .none)(qP:IsPair s.heap P (.ref i) (.ref j))(qO:IsPair s.heap O u v)
  (q1:s.heap.IsTupleIter i a n) (q2:s.heap.IsTupleIter j b m) (ta:s.heap.IsTuple a xs) (tb:s.heap.IsTuple b ys) (he:xs[n]?=none\/ys[m]?=none)
  (hQ:∀g,(∀c o,c≠z->c≠O->c≠i->c≠j->s.heap.get? c=some o->g.get? c=some o)->Q none { s with heap:=g }):wpAny #[7] A (pyNext (.ref z)) Q E s:=by
 have T:s.TypeIs (.ref z) "zip":=⟨_,qz,rfl⟩
 unfold pyNext
 refine ag (iE (ce (name:=Str.ofString "__next__") T mw (cv mw T F.entry_zip_next (P5 hh D qz qP qO q1 q2 ta tb he fun g e hk ye=>?_) (F.args_zip_next_1 _))))
 obtain⟨o,ho,hc⟩:=ye
 exact ag (gY (T:="StopIteration") (b:=true) ⟨o,ho,hc⟩ nj (ay (hQ _ hk)))
end
open AutoSeq1 (wpAny_loadPart')
abbrev Vy(h:Heap)(a:Addr):Heap:=h.push (nC a)
abbrev Vz(h:Heap)(a b:Addr):Heap:=(Vy h a).push (nC b)
abbrev VA(h:Heap)(a b:Addr):Heap:=(Vz h a b).push { cls:=.type "tuple",data:=.seq #[.ref h.objs.size,.ref (Vy h a).objs.size] }
abbrev VB(h:Heap)(a b:Addr):Heap:=(VA h a b).push { cls:=.type "tuple",data:=.seq #[.none,.none] }
abbrev R4(h:Heap)(a b:Addr):Heap:=(VB h a b).push { cls:=.type "zip",data:=.fields #[.none,.bool false,.bool false,.ref (Vz h a b).objs.size,.ref (VA h a b).objs.size] }
theorem P6     (a b : Addr) (xs ys : Array Value) : Meets (Builtin.«zip.__new__» ⟨[.type "zip", .ref a, .ref b], []⟩) (fun _ R s => s.heap.IsTuple a xs /\ s.heap.IsTuple b ys /\
      R (.ok (.ret (.ref (VB  s.heap a b).objs.size))) { s with heap := R4  s.heap a b }) :=
  .of_wp fun prog w A R s h => by
    obtain ⟨hp, g, d, tk, os⟩ := s
    obtain ⟨ha, hb, h⟩ := h
    have sb := sub_zip
    have hA : Heap.IsTuple (Shared.heap ⟨hp, g, d, tk, os⟩) a xs := ha
    have hB : Heap.IsTuple (Shared.heap ⟨hp.push (nC      a), g, d, tk, os⟩) b ys := hb.at fun o e => aw                     _ e
    wp_walk using fY                 hA, fY                 hB
    exact ⟨_, rfl, h⟩
section
variable{w:World}
theorem Ms{a b:Addr}{xs ys:Array Value}(ha:s.heap.IsTuple a xs)(hb:s.heap.IsTuple b ys)
  (q:∀g,IsZip g (s.heap.objs.size+4) (s.heap.objs.size+2) (s.heap.objs.size+3) .none->IsPair g (s.heap.objs.size+2) #[28] (.ref #[8]) ->
   IsPair g (s.heap.objs.size+3) .none .none->g.IsTupleIter s.heap.objs.size a 0->g.IsTupleIter #[8] b 0->(∀c o,s.heap.get? c=some o->g.get? c=some o)->Q (.ref (s.heap.objs.size+4)) { s with heap:=g }) :
  wpAny #[7] A (call (.type "zip") [.ref a,.ref b]) Q E s:=by
 refine callType_new F.called_zip #[3] (F.typeCall_zip_2 _ _) (F.newCall_zip_2 _ _) (fun ob=>F.args_object_init_3 ob _ _) F.entry_zip_new (P6 a b xs ys) ⟨ha,hb,?_⟩
 have n1:(Vy s.heap a).objs.size=s.heap.objs.size+1:=bG ..
 have n2:(Vz s.heap a b).objs.size=s.heap.objs.size+2:=by rw[bG,n1]
 have n3:(VA s.heap a b).objs.size=s.heap.objs.size+3:=by rw[bG,n2]
 have n4:(VB s.heap a b).objs.size=s.heap.objs.size+4:=by rw[bG,n3]
 have p:∀{h:Heap} {c:Addr} {o u:Obj},h.get? c=some o->(h.push u).get? c=some o:=fun e=>aw _ e
 have g5:(R4 s.heap a b).get? (VB s.heap a b).objs.size=some _:=aD _ rfl
 have g4:(R4 s.heap a b).get? (VA s.heap a b).objs.size=some _:=p (aD _ rfl)
 have g3:(R4 s.heap a b).get? (Vz s.heap a b).objs.size=some _:=p (p (aD _ rfl))
 have g2:(R4 s.heap a b).get? (Vy s.heap a).objs.size=some _:=p (p (p (aD _ rfl)))
 have g1:(R4 s.heap a b).get? s.heap.objs.size=some _:=p (p (p (p (aD _ rfl))))
 show _/\_
 rw[n2,n3,n4]at g5
 rw[n1,n2]at g3
 rw[n3]at g4
 rw[n1]at g2
 rw[n4]
 exact⟨⟨_,g5,rfl⟩,q _ g5 g3 g4 ⟨_,g1,rfl,rfl⟩ ⟨_,g2,rfl,rfl⟩ fun c o e=>p (p (p (p (p e))))⟩
end
def W3(K:Frag)(a b:Addr):It:=
  ⟨fun i H=>∃xs ys x y,gG K H a xs/\gG K H b ys/\xs[i]?=some x/\ys[i]?=some y,
   fun i H v H'=>∃p,H p=none/\v=.ref p/\∀xs ys x y,gG K H a xs->gG K H b ys->xs[i]?=some x->ys[i]?=some y->H'=gc H p (.tup [x,y]),
   fun i H=>∃xs ys,gG K H a xs/\gG K H b ys/\(xs.length<=i\/ys.length<=i)⟩
theorem Mt{w:World}{z T O i j a b:Addr}(D:ZipApart z T O i j a b) :
  DE P w K (.Tuple yB kk pos) (W3 K a b) [z,T,O,i,j] z (fun k h=>IsZip h z T O .none/\IsPair h T (.ref i) (.ref j)/\(∃u v,IsPair h O u v)/\h.IsTupleIter i a k/\h.IsTupleIter j b k) where
 mem:=by simp
 obj:=fun k h st c hc=>by
  obtain⟨h1,h2,⟨u,v,h3⟩,⟨o4,e4,_,d4⟩,⟨o5,e5,_,d5⟩⟩:=st
  have q:c=z\/c=T\/c=O\/c=i\/c=j:=by simpa using hc
  rcases q with rfl|rfl|rfl|rfl|rfl
  ·exact⟨_,h1,fun v q=>by cases q⟩
  ·exact⟨_,h2,fun v q=>by cases q⟩
  ·exact⟨_,h3,fun v q=>by cases q⟩
  ·exact⟨_,e4,fun v q=>by rw[d4]at q;cases q⟩
  ·exact⟨_,e5,fun v q=>by rw[d5]at q;cases q⟩
 keep:=fun k h h' st kp=>by
  obtain⟨h1,h2,⟨u,v,h3⟩,h4,h5⟩:=st
  exact⟨kp z #[15] _ h1,kp T #[15] _ h2,⟨u,v,kp O #[15] _ h3⟩,h4.at fun o e=>kp i #[15] o e,h5.at fun o e=>kp j #[15] o e⟩
 item:=by
  intro X hP hw hK hc k am s σ H E I hf st hg
  subst hP hw hK
  obtain⟨xs,ys,x,y,hq,hr,hx,hy⟩:=hg
  obtain⟨b9,rv,p1,_⟩:=I.tuple hq
  obtain⟨jts,vK,p2,_⟩:=I.tuple hr
  obtain⟨u,hu,ru⟩:=rv.get hx
  obtain⟨v,hv,rv'⟩:=vK.get hy
  obtain⟨h1,h2,⟨c1,c2,h3⟩,h4,h5⟩:=st
  refine Mq D h1 h2 h3 h4 h5 (show s.heap.IsTuple a b9.toArray from p1) (show s.heap.IsTuple b jts.toArray from p2) (x:=u) (y:=v) (by simpa using hu) (by simpa using hv) fun g a1 a2 a3 a4 a5 kp=>⟨_,rfl,?_⟩
  refine wpAny_letOwnedTupleGo_zip a1 fun g2 b1 s2=>?_
  have y6:H s.heap.objs.size=none:=I.hok.fresh (aC _)
  have I1:bT X am σ (gc H s.heap.objs.size (.tup [x,y])) { s with heap:=s.heap.push { cls:=.type "tuple",data:=.seq #[u,v] },toks:=s.toks }:=I.laid (fun c o q=>aw _ q) (aC _)
   ⟨by show 2<=sizeLine;decide,[u,v],.cons ru (.cons rv' .nil),⟨_,aD _ rfl,rfl,_,rfl⟩⟩
  have lt:∀{c o},s.heap.get? c=some o->c≠s.heap.objs.size:=fun e=>a9 (aH e)
  have nf:∀c∈[z,T,O,i,j],c≠s.heap.objs.size:=fun c hb=>by
   have q:c=z\/c=T\/c=O\/c=i\/c=j:=by simpa using hb
   rcases q with rfl|rfl|rfl|rfl|rfl
   ·exact lt h1
   ·exact lt h2
   ·exact lt h3
   ·obtain⟨_,e,_⟩:=h4;exact lt e
   ·obtain⟨_,e,_⟩:=h5;exact lt e
  have fp:∀c∈[z,T,O,i,j],uR X am (gc H s.heap.objs.size (.tup [x,y])) c:=fun c hb=>by
   obtain⟨f0,f⟩:=hf c hb
   exact⟨by rw[df (nf c hb)];exact f0,f⟩
  have I2:bT X am σ (gc H s.heap.objs.size (.tup [x,y])) { s with heap:=g2,toks:=s.toks }:=bT.turnedL (s:={ s with heap:=s.heap.push { cls:=.type "tuple",data:=.seq #[u,v] },toks:=s.toks }) (ch:=[z,O,i,j]) (t':=s.toks) I1 (fun c o hb q=>?_) fun c hb=>fp c (by
   have q:c=z\/c=O\/c=i\/c=j:=by simpa using hb
   rcases q with rfl|rfl|rfl|rfl<;>simp)
  ·refine⟨.ref s.heap.objs.size,_,I2,rfl,⟨_,y6,rfl,fun xs' R_ x' y' e1 e2 e3 e4=>?_⟩,⟨b1,s2.extBut _ _ D.TIz (kp _ _ D.TIz D.TITO D.TIi1 D.TIi2 h2),⟨_,_,s2.extBut _ _ D.TOz a2⟩,a3.extBut s2.extBut D.i1z,a4.extBut s2.extBut D.i2z⟩,fun c hb=>(fp c hb).1⟩
   have q1:=I.tuple_inj e1 hq
   have q2:=I.tuple_inj e2 hr
   subst q1 q2
   rw[hx]at e3;rw[hy]at e4;cases e3;cases e4;rfl
  ·have q':(s.heap.push { cls:=.type "tuple",data:=.seq #[u,v] }).get? c=some o:=q
   have hn:c≠z/\c≠O/\c≠i/\c≠j:=by simpa using hb
   refine s2.extBut c o hn.1 ?_
   by_cases hb':c=s.heap.objs.size
   ·subst hb'
    have e1:=aD s.heap (o:={ cls:=.type "tuple",data:=.seq #[u,v] }) rfl
    rw[e1]at q';cases q'
    exact a5
   ·rw[Heap.get?_push_ne _ _ _ hb']at q'
    exact kp c o hn.1 hn.2.1 hn.2.2.1 hn.2.2.2 q'
 done:=by
  intro X hP hw hK hc k am s σ H E I hf st hg
  subst hP hw hK
  obtain⟨xs,ys,hq,hr,he⟩:=hg
  obtain⟨b9,rv,p1,_⟩:=I.tuple hq
  obtain⟨jts,vK,p2,_⟩:=I.tuple hr
  obtain⟨h1,h2,⟨c1,c2,h3⟩,h4,h5⟩:=st
  have l1:=rv.length
  have l2:=vK.length
  refine Mr (I.ok.hd hc) D h1 h2 h3 h4 h5 (show s.heap.IsTuple a b9.toArray from p1) (show s.heap.IsTuple b jts.toArray from p2) (by
   rcases he with q|q
   ·exact .inl (by simp;omega)
   ·exact .inr (by simp;omega)) fun g kp=>⟨rfl,?_⟩
  exact I.turnedL (ch:=[z,O,i,j]) (t':=s.toks) (fun c o hb q=>by
   have hn:c≠z/\c≠O/\c≠i/\c≠j:=by simpa using hb
   exact kp c o hn.1 hn.2.1 hn.2.2.1 hn.2.2.2 q) fun c hb=>hf c (by
   have q:c=z\/c=O\/c=i\/c=j:=by simpa using hb
   rcases q with rfl|rfl|rfl|rfl<;>simp)
 self:=fun A k s Q E st h=>wpAny_pyIter_zip st.1 h
def Wv(K:Frag)(ta:TA):TI:=fun σ H R=>ta σ H fun vs H1=>∃a b,vs=[.ref a,.ref b]/\(∃xs,gG K H1 a xs)/\(∃ys,gG K H1 b ys)/\R (W3 K a b) H1
theorem Mu{a b:Expr}{ta:TA}{p pos tp:Pos}{yB:List Expr}{kk:Nat}(hm:X.mg "zip"=none)(ha:QA X [a,b] ta)(hg:Gl X "zip":=by rfl)(hs:starEach [a,b] X.env=(false,eval a X.env)::starEach [b] X.env:=by rfl)
  (vJ:(backTo pos (starEach [b] X.env)).any (·.1)=false:=by rfl):QI X (.Tuple yB kk tp) (.Call (.Name "zip" p) [a,b] [] pos) (Wv X.K ta):=⟨by
 intro am s σ H R I h
 refine Call_ (qx I hg hm boot_zip (eu (kJ (ha.h pos am s σ H _ I h) fun us s1 kt1 ⟨vs,H1,I1,r1,q1⟩=>?_) hs vJ))
 obtain⟨t,t',e,⟨xs,hq⟩,⟨ys,hr⟩,q⟩:=q1
 subst e
 cases r1 with
 |cons x1 r1=>cases r1 with
  |cons x2 r1=>
   cases r1
   cases x1
   cases x2
   obtain⟨b9,rv,p1,_⟩:=I1.tuple hq
   obtain⟨jts,vK,p2,_⟩:=I1.tuple hr
   have lt1:t<s1.heap.objs.size:=by obtain⟨_,e,_⟩:=(show s1.heap.IsTuple t b9.toArray from p1);exact aH e
   have lt2:t'<s1.heap.objs.size:=by obtain⟨_,e,_⟩:=(show s1.heap.IsTuple t' jts.toArray from p2);exact aH e
   refine Ms (show s1.heap.IsTuple t b9.toArray from p1) (show s1.heap.IsTuple t' jts.toArray from p2) fun g e1 e2 e3 e4 e5 kp=>?_
   refine wpAny_pyIter_zip e1 ?_
   refine⟨s1.heap.objs.size+4,[s1.heap.objs.size+4,s1.heap.objs.size+2,s1.heap.objs.size+3,s1.heap.objs.size,s1.heap.objs.size+1],_,_,H1,rfl,I1.kept (t':=s1.toks) kp,Mt (zipApart_new lt1 lt2),⟨e1,e2,⟨_,_,e3⟩,e4,e5⟩,fun c hb=>?_,q⟩
   have hc:s1.heap.objs.size<=c:=by
    have z:c=s1.heap.objs.size+4\/c=s1.heap.objs.size+2\/c=s1.heap.objs.size+3\/c=s1.heap.objs.size\/c=s1.heap.objs.size+1:=by simpa using hb
    rcases z with rfl|rfl|rfl|rfl|rfl<;>simp
   exact I1.fpOk hc (I1.hok.fresh hc)⟩
def sV:List W->List W->List W
 |x::xs,y::ys=>.tup [x,y]::sV xs ys
 |_,_=>[]
theorem xK:∀{xs ys:List W} {i:Nat} {w:W},(sV xs ys)[i]?=some w->∃x y,xs[i]?=some x/\ys[i]?=some y/\w=.tup [x,y]
 |x::xs,y::ys,0,w,h=>by simp[sV]at h;exact⟨x,y,rfl,rfl,h.symm⟩
 |x::xs,y::ys,i+1,w,h=>by simp[sV]at h;simpa using xK h
 |[],_,i,w,h=>by simp[sV]at h
 |_::_,[],i,w,h=>by simp[sV]at h
theorem xL:∀(xs ys:List W),(sV xs ys).length=min xs.length ys.length
 |x::xs,y::ys=>by simp[sV,xL xs ys]
 |[],_=>by simp[sV]
 |_::_,[]=>by simp[sV]
section
variable{a b:Expr}{fs:FA}
def AD(fs:FA):FI:=fun ρ st=>(fs ρ st).bind fun ws st=>match ws with
 |[.tup xs,.tup ys]=>.ok (sV xs ys,none) st
 |_=>.bad
theorem Mv{yB:List Expr}{kk:Nat}{tp:Pos}(hm:X.mg "zip"=none)(ha:SA X [a,b] fs)(hg:Gl X "zip":=by rfl)(hs:starEach [a,b] X.env=(false,eval a X.env)::starEach [b] X.env:=by rfl)(m7:(backTo pos (starEach [b] X.env)).any (·.1)=false:=by rfl) :
  SI X (.Tuple yB kk tp) (.Call (.Name "zip" p) [a,b] [] pos) (AD fs):=⟨(Mu hm ⟨ha.h⟩ hg hs m7).h.imp fun σ H R h=>by
 walk_at "2"
 walk_at "1"
 split at h1
 ·rename_i zs ws
  obtain⟨y,ys,rfl,ry,r1⟩:=q1.consE
  obtain⟨w,rfl,vK⟩:=r1.one
  obtain⟨t,vs,rfl,hS,r⟩:=ry.tupE
  obtain⟨t',E6,rfl,hS',r'⟩:=vK.tupE
  refine⟨t,t',rfl,⟨vs,hS⟩,⟨E6,hS'⟩,h1 μ1 _ H1 (au _) fI.refl l1.sto fun i μ' bt H' pp xx S _=>⟨fun w hw=>?_,fun hl=>⟨vs,E6,xx _ _ hS,xx _ _ hS',by rw[xL]at hl;rw[<- r.len,<- r'.len];omega⟩⟩⟩
  obtain⟨x,y,hx,hy,rfl⟩:=xK hw
  have m1:=r.mono pp xx
  have m2:=r'.mono pp xx
  obtain⟨v1,g1,g2⟩:=m1.get hx
  obtain⟨v2,g3,g4⟩:=m2.get hy
  refine⟨⟨vs,E6,v1,v2,xx _ _ hS,xx _ _ hS',g1,g3⟩,fun z H'' hz=>?_⟩
  obtain⟨q,hq,rfl,hH⟩:=hz
  have e:=hH vs E6 v1 v2 (xx _ _ hS) (xx _ _ hS') g1 g3
  subst e
  have ex:=gG.same (K:=X.K) (c7 hq (.tup [v1,v2]))
  exact⟨ex,S.same (c7 hq _),.tupI gG.new (.consI (g2.mono (au _) ex) (.consI (g4.mono (au _) ex) .nilI))⟩
 ·exact h1.elim⟩
end
open Builtin.Str (tooLong)
section
variable{w:World}
end
section
end
section
end
end L2
namespace L2
open PySem PySem.Spec PyProof.Rows
section
end
end L2
namespace L2
open PySem PySem.Spec PyProof.Rows
end L2
namespace L2
open PySem PySem.Spec PyProof.Rows
abbrev TQ:=List W×List (Nat×List W)
abbrev Xr:=cL->List ar->R TQ
section
variable{fi:Xr}{f:FG}{m:Nat}
end
section
variable{a b:Expr}{fs:FA}
end
end L2
namespace L2
open PySem PySem.Spec PyProof.Rows
section
def zE(ws:List W)(st:List ar):R W:=match ws with
 |[.str [c]]=>if 48<=c/\c<=51 then .ok (.int (c-48:Nat)) st else .bad
 |_=>GO ws st
theorem Ek:qG X (.type "int") zE:=⟨fun am s σ H vs us Q I rv zq=>by
 obtain⟨μ,st,ws,S,r,q⟩:=zq
 unfold zE at q
 split at q
 ·rename_i c
  split at q
  ·rename_i hc
   obtain⟨y,rfl,ry⟩:=r.one
   have:=ry.strE;subst this
   obtain⟨k,rfl⟩:∃k,c=48+k:=⟨c-48,by omega⟩
   refine PB.h am s σ H _ us Q I rv ⟨k,rfl,by omega,?_⟩
   rw[show 48+k-48=k by omega]at q
   exact q μ _ H (au _) fI.refl S .int
  ·exact q.elim
 ·exact Nj.h am s σ H _ us Q I rv ⟨μ,st,_,S,r,q⟩,fun ws st=>by
 unfold zE
 split
 ·split<;>trivial
 ·exact(Nj (X:=X)).n _ _⟩
end
end L2
namespace L2
open PySem PySem.Spec PyProof.Rows
section
variable{wi:TI}{g:TG}{te:Cx->TE}
def noB(sn:List (Str×NameKind)):Bool:=sn.all fun x=>!(x.2==.cell)&&!(x.2==.free)&&(!(x.2==.local)||sn.lookup x.1==some .local)
end
section
variable{f:FG}
end
end L2
namespace L2
open PySem PySem.Spec PyProof.Rows
abbrev dV(hX:List (DK×W))(vs:List V):List (wS×V):=(hX.map fun p=>p.1.key).zip vs
section
end
section
variable{a b c d i:Expr}{fb fc fi:FE}{fs:FA}
end
end L2
namespace L2
open PySem PySem.Spec PyProof.Rows
section
variable{y:Str}{a b:Expr}{fs:FA}
end
inductive DefIn(K:Frag)(x:Str)(st:Stmt):Prop
 |mk {ad:Addr} {od an:Option Addr} {sl:Array (Option Value)} {oc kV dc pm cd ct:Value} (a:nsIn K mainGlobals x=some (some (.ref ad)))
   (l:K.lookup ad=some ⟨oc,od,.func (fnOf x x (je st) (hZ st) (aQ st) .none kV dc pm an cd ct),sl⟩) (c:codeIn K cd x=true) (k:keepIn K (.ref ad)=true):DefIn K x st
theorem DefIn.fn{st:Stmt}(d:DefIn K x st)(X:K.In h)(G:h.Ns mainGlobals mg):∃f fd,iU K x x st f fd/\mg x=some (.ref f):=by
 obtain⟨a,l,c,k⟩:=d
 exact⟨_,_,Ao (st:=st) l c k,mg_of X G a⟩
theorem TR{l:List Value}(h:l.length=n+1):∃a t,l=a::t/\t.length=n:=by
 cases l with
 |nil=>cases h
 |cons a t=>exact⟨a,t,rfl,Nat.succ.inj h⟩
theorem VC{l:List Value}(h:l.length=1):∃a,l=[a]:=ie.mp h
theorem VD{l:List Value}(h:l.length=2):∃a b,l=[a,b]:=by obtain⟨a,t,rfl,k⟩:=TR h;obtain⟨b,rfl⟩:=VC k;exact⟨a,b,rfl⟩
theorem VE{l:List Value}(h:l.length=3):∃a b c,l=[a,b,c]:=by obtain⟨a,t,rfl,k⟩:=TR h;obtain⟨b,c,rfl⟩:=VD k;exact⟨a,b,c,rfl⟩
theorem VF{l:List Value}(h:l.length=4):∃a b c d,l=[a,b,c,d]:=by obtain⟨a,t,rfl,k⟩:=TR h;obtain⟨b,c,d,rfl⟩:=VE k;exact⟨a,b,c,d,rfl⟩
theorem VG{l:List Value}(h:l.length=5):∃a b c d e,l=[a,b,c,d,e]:=by obtain⟨a,t,rfl,k⟩:=TR h;obtain⟨b,c,d,e,rfl⟩:=VF k;exact⟨a,b,c,d,e,rfl⟩
theorem Ww{l:List Value}(h:l.length=6):∃a b c d e f,l=[a,b,c,d,e,f]:=by obtain⟨a,t,rfl,k⟩:=TR h;obtain⟨b,c,d,e,f,rfl⟩:=VG k;exact⟨a,b,c,d,e,f,rfl⟩
section
variable{w:World}{st:Stmt}{f:Addr}
theorem cP(F:iU K x x st f fd)(hm:mg x=some (.ref f))(ok:c9 P w K mg base #[52] k f fd ps (iV K mg n G))(hn:ps.length=n:=by rfl)
  (hb:∀(kV uO pm:Value) (an:Option Addr) (fE ct:Value) (us:List Value),us.length=ps.length->bindArgs (fnOf x x (je st) (hZ st) (aQ st) .none kV uO pm an fE ct) ⟨us,[]⟩=pure (ps.zip us):=by(intro _ _ _ _ _ _ _ q;first|(obtain⟨_,rfl⟩:=VC q;rfl)|(obtain⟨_,_,rfl⟩:=VD q;rfl)|(obtain⟨_,_,_,rfl⟩:=VE q;rfl)|(obtain⟨_,_,_,_,rfl⟩:=VF q;rfl)|(obtain⟨_,_,_,_,_,rfl⟩:=VG q;rfl)|(obtain⟨_,_,_,_,_,_,rfl⟩:=Ww q;rfl))):bV P w K mg base k x n G:=Aw F hm hn hb ok
end
section
variable{sp:Scope}
theorem j'{N:List Str}(a:sp.kind=.function:=by rfl)(b:sp.isCoroutine=false:=by rfl)(c:sp.isGenerator=false:=by rfl)(d:N.Nodup:=by decide +kernel)(f:N.take ps.length=ps:=by rfl)(g:∀x∈ps,sp.names.lookup x=some .local\/sp.names.lookup x=some .cell:=by decide +kernel)(h:∀y∈sp.names,y.2≠.free:=by decide +kernel):bb N ps sp:=⟨a,b,c,d,f,g,h⟩
theorem sS(i:Nat){jl:Pos}(sc:bb X.N ps sp)(he:SE X e fe)(hi:X.N[i]?=some x:=by rfl)(hx:Ld X.env.scope x:=by first|exact .inl rfl|exact .inr rfl)(hs:swapsWith e (some (.Name x jl)) pos.line X.env=pure false:=by rfl)(hf:X.fn x=true\/X.env.scope.names.lookup x=some .local:=by first|exact .inl rfl|exact .inr rfl|assumption) :
  SS X (.Assign [.Name x jl] e pos) (bf i fe):=PU sc.nd hi hx he hs hf
theorem sG(i:Nat)(sc:bb X.N ps sp)(hi:X.N[i]?=some x:=by rfl)(hx:Ld X.env.scope x:=by first|exact .inl rfl|exact .inr rfl)(hf:X.fn x=true\/X.env.scope.names.lookup x=some .local:=by first|exact .inl rfl|exact .inr rfl|assumption):SG X (.Name x pos) (jy i):=FJ sc.nd hi hx hf
theorem sC{cl:List (Str×Addr)}{C s0 H0 fp}(i:Nat)(hN:nm.Nodup:=by decide +kernel)(hi:nm[i]?=some x:=by rfl)(hx:Ld #[10].env.scope x:=by first|exact .inl rfl|exact .inr rfl)(hf:#[10].fn x=true\/#[10].env.scope.names.lookup x=some .local:=by first|exact .inl rfl|exact .inr rfl|assumption) :
  SG #[10] (.Name x pos) (jy i):=FJ (X:=eD X nm scope cl C s0 H0 fp) hN hi hx hf
end
section
variable{f:FG}{m:Nat}
end
section
end
section
end
section
variable{f:Expr}{fk fd:FE}
end
section
variable{a:Expr}
end
section
end
section
variable{w:World}
variable{K:Type}[DecidableEq K]{XH:KeyKind prog w K}
end
section
end
end L2
namespace L2
open PySem PySem.Spec PyProof.Rows
structure P7(K:Frag)(mg:Str->Option Value)(c:Str)(fs:List Str):Prop where
 ex:∃C,mg c=some (.ref C)/\Cls K C/\∀f∈fs,sN K C f
def oE(st:List ar):W->Option (Nat×Str×List (Str×W))
 |.loc n=>(match st[n]? with
  |some (.obj c fs)=>some (n,c,fs)
  |_=>none)
 |_=>none
def yP(f:Str)(v:W):List (Str×W)->List (Str×W)
 |[]=>[(f,v)]
 |(g,x)::r=>if g=f then(g,v)::r else(g,x)::yP f v r
abbrev fV(fs:List (Str×W))(vs:List V):List (Str×V):=(fs.map fun p=>p.1).zip vs
section
theorem tZ(S:jO K mg μ st H){x:W}{v:V}{fs:List (Str×W)}(h:oE st x=some (n,c,fs))(r:b8 K μ H x v) :
  x=.loc n/\st[n]?=some (.obj c fs)/\∃a C dx vs,μ[n]?=some a/\v=.ref a/\mg c=some (.ref C)/\H a=some (.ins C dx (fV fs vs))/\RelWs K μ H (fs.map fun p=>p.2) vs:=by
 cases x with
 |loc m=>
  simp only[oE]at h
  cases e:st[m]? with
  |none=>rw[e]at h;cases h
  |some cc=>
   rw[e]at h
   cases cc with
   |obj c' z=>
    cases h
    obtain⟨a,g,C,dx,vs,m1,k,rr⟩:=S.get e
    obtain⟨b,f,rfl⟩:=r.locE
    rw[g]at f;cases f
    exact⟨rfl,e,a,C,dx,vs,g,rfl,m1,k,rr⟩
   |_=>cases h
 |_=>cases h
theorem AE(f:Str):∀{fs:List (Str×W)} {vs:List V},RelWs K μ H (fs.map fun p=>p.2) vs->(∀w,fs.lookup f=some w->∃v,(fV fs vs).lookup f=some v/\b8 K μ H w v)/\(fs.lookup f=none->(fV fs vs).lookup f=none)
 |[],vs,r=>⟨fun w h=>(by cases h),fun _=>rfl⟩
 |(g,x)::fs,vs,r=>by
  obtain⟨y,ys,rfl,a,b⟩:=RelWs.consE r
  have ih:=AE f (fs:=fs) b
  have e1:List.lookup f ((g,x)::fs)=(match f==g with|true=>some x|false=>fs.lookup f):=rfl
  have e2:List.lookup f (fV ((g,x)::fs) (y::ys))=(match f==g with|true=>some y|false=>(fV fs ys).lookup f):=rfl
  rw[e1,e2]
  cases f==g with
  |true=>exact⟨fun w h=>(by cases h;exact⟨y,rfl,a⟩),fun h=>(by cases h)⟩
  |false=>exact ih
theorem IP(f:Str){w:W}{v:V}(vK:b8 K μ H w v):∀{fs:List (Str×W)} {vs:List V},RelWs K μ H (fs.map fun p=>p.2) vs->∃us,qo f v (fV fs vs)=fV (yP f w fs) us/\RelWs K μ H ((yP f w fs).map fun p=>p.2) us
 |[],vs,r=>⟨[v],rfl,.consI vK .nilI⟩
 |(g,x)::fs,vs,r=>by
  obtain⟨y,ys,rfl,a,b⟩:=RelWs.consE r
  obtain⟨us,e,q⟩:=IP f vK (fs:=fs) b
  show ∃us,(if g=f then(g,v)::fV fs ys else(g,y)::qo f v (fV fs ys))=_/\_
  by_cases h:g=f
  ·refine⟨v::ys,?_,?_⟩
   ·rw[aJ h];show _=fV (if g=f then(g,w)::fs else(g,x)::yP f w fs) _;rw[aJ h];rfl
   ·show RelWs K μ H ((if g=f then(g,w)::fs else(g,x)::yP f w fs).map fun p=>p.2) _
    rw[aJ h];exact .consI vK b
  ·refine⟨y::us,?_,?_⟩
   ·rw[aW h];show _=fV (if g=f then(g,w)::fs else(g,x)::yP f w fs) _;rw[aW h,e];rfl
   ·show RelWs K μ H ((if g=f then(g,w)::fs else(g,x)::yP f w fs).map fun p=>p.2) _
    rw[aW h];exact .consI a q
theorem gG.butI{l dx:Addr}{xs:List (Str×V)}(e:Wi l H H')(hl:H l=some (.ins C dx xs)):fI K H H':=by
 have F8:∀{p:Addr} {o:HO},H p=some o->(∀c d zs,o≠.ins c d zs)->p≠l:=fun{p o} q hn z=>by subst z;rw[hl]at q;cases q;exact hn _ _ _ rfl
 refine⟨fun p ys h=>?_,fun b o u h=>e _ _ (F8 h (fun _ _ _ z=>by cases z)) h⟩
 rcases h with(h|⟨o,h⟩)|h
 ·exact .inl (.inl (e _ _ (F8 h (fun _ _ _ z=>by cases z)) h))
 ·exact .inl (.inr ⟨o,e _ _ (F8 h (fun _ _ _ z=>by cases z)) h⟩)
 ·exact .inr h
theorem jO.setI(S:jO K mg μ st H){a dx:Addr}{fs U3:List (Str×W)}{xs:List (Str×V)}{us:List V}(hn:st[n]?=some (.obj c fs))(hm:μ[n]?=some a)(hc:mg c=some (.ref C))(ha:H a=some (.ins C dx xs))(hr:RelWs K μ H (U3.map fun p=>p.2) us) :
  jO K mg μ (st.set n (.obj c U3)) (gc H a (.ins C dx (fV U3 us))):=
 S.setG hn rfl hm ha (fun _ _ z=>by cases z) (fun _ z=>by cases z) (gG.butI nz ha) rfl ⟨C,dx,us,hc,ig,hr.mono (au _) (gG.butI nz ha)⟩
end
section
variable{a value:Expr}{f m:Str}{fl:List Str}{fs:FA}
def jg(c f:Str)(fa:FE):FE:=fun ρ st=>(fa ρ st).bind fun x st=>match oE st x with
 |some (_,c',fs)=>if c'=c then u6 (fs.lookup f) fun w=>.ok w st else .bad
 |none=>.bad
theorem gE(hC:P7 X.K X.mg c fl)(ha:SE X a fa)(hf:f∈fl:=by decide)(hb:attributeBase a f X.env (eval a X.env)=eval a X.env:=by rfl):SE X (.Attribute a f pos) (jg c f fa):=⟨(Pg ha.h hb).imp fun σ H Q h=>by
 walk_at "2"
 walk_at "1"
 cases e0:oE st1 x with
 |none=>rw[e0]at h1;exact h1.elim
 |some nk=>
  obtain⟨n,c',fs⟩:=nk
  rw[e0]at h1
  simp only at h1
  obtain⟨rfl,hn,a,C,dx,vs,hm,rfl,hc,hI,rr⟩:=tZ l1.sto e0 q1
  by_cases z:c'=c
  ·rw[aJ z]at h1
   subst z
   obtain⟨C',hc',cl,na⟩:=hC.ex
   rw[hc]at hc';cases hc'
   unfold u6 at h1
   split at h1
   ·rename_i w ew
    obtain⟨v,ev,rv⟩:=(AE f rr).1 w ew
    exact⟨a,C,dx,_,v,rfl,hI,cl,na f hf,ev,h1 μ1 v H1 (au _) fI.refl l1.sto rv⟩
   ·exact h1.elim
  ·rw[aW z]at h1;exact h1.elim⟩
def qJ(c f:Str)(fo fe:FE):FS:=fun ρ st=>(fe ρ st).stmt ρ fun y st=>(fo ρ st).stmt ρ fun x st=>match oE st x with
 |some (n,c',fs)=>if c'=c/\fs.length<900 then .nx ρ (st.set n (.obj c (yP f y fs)))else .bad
 |none=>.bad
theorem lX(hC:P7 X.K X.mg c fl)(ho:SE X o fo)(he:SE X value fe)(hf:f∈fl:=by decide)(hs:swapsWith value (some (.Attribute o f jl)) pos.line X.env=pure false:=by rfl):SS X (.Assign [.Attribute o f jl] value pos) (qJ c f fo fe):=⟨(Ph ho.h he.h hs).imp fun D σ H h=>by
 walk_at "2"
 refine⟨μ,ρ,st,l,RK.stmt h l fun μ1 st1 y yv H1 p1 x1 l1 q1 h1=>⟨μ1,ρ,st1,l1,RK.stmt h1 l1 fun μ2 dz x xv H2 p2 x2 l2 q2 h2=>?_⟩⟩
 cases e0:oE dz x with
 |none=>rw[e0]at h2;exact h2.elim
 |some nk=>
  obtain⟨n,c',fs⟩:=nk
  rw[e0]at h2
  simp only at h2
  obtain⟨rfl,hn,a,C,dx,vs,hm,rfl,hc,hI,rr⟩:=tZ l2.sto e0 q2
  by_cases z:c'=c/\fs.length<900
  ·rw[aJ z]at h2
   obtain⟨z,hz⟩:=z
   subst z
   obtain⟨C',hc',cl,na⟩:=hC.ex
   rw[hc]at hc';cases hc'
   obtain⟨us,e1,r1⟩:=IP f (q1.mono p2 x2) rr
   have gI:(fV fs vs).length<1000:=by
    unfold fV
    rw[List.length_zip,aF]
    omega
   refine⟨a,C,dx,_,rfl,hI,cl,na f hf,gI,?_⟩
   rw[e1]
   exact h2 μ2 σ _ (au _) (gG.butI nz hI) (l2.to (au _) (gG.butI nz hI) (l2.sto.setI hn hm hc hI r1))
  ·rw[aW z]at h2;exact h2.elim⟩
structure iG(P:Program)(w:World)(K:Frag)(mg:Str->Option Value)(base:Heap)(k:Nat)(c m:Str)(n:Nat)(F:List W->List ar->R W):Prop where
 ex:∃(C g:Addr) (fd:FuncData) (ps:List Str),mg c=some (.ref C)/\Cls K C/\SH K C m g/\ps.length=n/\r6 K fd ps []/\c9 P w K mg base #[52] k g fd ps (iV K mg n F)
theorem iG.mono{w:World}(h:iG P w K mg base j c m n F)(hj:j<=k):iG P w K mg base k c m n F:=by
 obtain⟨C,g,fd,ps,a,b,b2,c,d,e⟩:=h.ex
 exact⟨C,g,fd,ps,a,b,b2,c,d,e.mono hj⟩
def il(c m:Str)(n:Nat)(F:List W->List ar->R W)(fo:FE)(fs:FA):FE:=fun ρ st=>(fo ρ st).bind fun x st=>match oE st x with
 |some (_,c',fl)=>if c'=c/\fl.lookup m=none then(fs ρ st).bind fun ws st=>if ws.length+1=n then F (x::ws) st else .bad else .bad
 |none=>.bad
theorem lY{k':Nat}{pl:Sem Bool}(Fn:iG X.prog X.w X.K X.mg X.base k c m n F)(hr:kg k' X.A)(hk:k<=k')(ho:SE X o fo)(ha:SA X (e::es) fs)
  (pM:starEach (e::es) X.env=(false,eval e X.env)::starEach es X.env:=by rfl) (m7:(backTo pos #[64]).any (·.1)=false:=by rfl)
  (ht:eval (.Call (.Attribute o m gW) (e::es) [] pos) X.env=(do
   let ov <- eval o X.env
   standAt gW.atName
   let (f,fst') <- holding [ov] (getMethod ov m pl)
   callWith pos f fst' (backTo pos (starEach (e::es) X.env)) (backToKw pos (keywordEach [] X.env))):=by rfl):SE X (.Call (.Attribute o m gW) (e::es) [] pos) (il c m n F fo fs):=⟨by
 walk_at "9"
 obtain⟨C,g,fd,ps,hc,cl,hm,hn,hb,Fo⟩:=(Fn.mono hk).ex
 walk_at "2"
 have h':tE X fo σ H fun x H1=>∃(a dx:Addr) (xs:List (Str×V)),x=.ref a/\H1 a=some (.ins C dx xs)/\xs.lookup m=none/\Tj X fs σ H1 fun vs H2=>∃μ2 dz ws,Rl X μ2 ρ dz σ H2/\RelWs X.K μ2 H2 ws (.ref a::vs)/\ws.length=n/\RK X (uY X) μ2 σ H2 Q (F ws dz):=by
  walk_at "1"
  cases e0:oE st1 x with
  |none=>rw[e0]at h1;exact h1.elim
  |some nk=>
   obtain⟨i,c',fl⟩:=nk
   rw[e0]at h1
   simp only at h1
   obtain⟨rfl,hi,a,C',dx,vs,hma,rfl,hc',hI,rr⟩:=tZ l1.sto e0 q1
   by_cases z:c'=c/\fl.lookup m=none
   ·rw[aJ z]at h1
    obtain⟨z,hz⟩:=z
    subst z
    rw[hc]at hc';cases hc'
    refine⟨a,dx,_,rfl,hI,(AE m rr).2 hz,μ1,ρ,st1,l1,RK.bind h1 l1 fun μ2 dz ws vs2 H2 p2 x2 l2 q2 h2=>?_⟩
    by_cases y:ws.length+1=n
    ·rw[aJ y]at h2
     exact⟨μ2,dz,.loc i::ws,l2,.consI (q1.mono p2 x2) q2,y,h2⟩
    ·rw[aW y]at h2;exact h2.elim
   ·rw[aW z]at h1;exact h1.elim
 refine PySem.W.methodCall_KW (pl:=pl) (kJ (ho.h am s σ H _ I h') fun u s1 kt1 ⟨x,H1,I1,rx,a,dx,xs,ex,ea,lk,q⟩=>?_) ht
 subst ex
 obtain rfl:u=Value.ref a:=rx
 refine wV I1 ea cl hm lk ?_
 refine PySem.W.callWith_K (first:=[.ref a]) (h₀:=X.base) I.ok.mod.kin hm.kp (kJ (ha.h pos am s1 σ H1 _ I1 q) fun us s2 kt2 ⟨vs,H2,I2,r,μ2,dz,ws,l2,r2,y,q2⟩=>⟨I2.kIn,?_⟩) pM m7
 exact IC (us:=.ref a::us) (vs:=.ref a::vs) Fo hn hr hb I2 l2.sto r2 (.cons rfl r) y q2⟩
theorem pc{k':Nat}(Fn:iG X.prog X.w X.K X.mg X.base k c m 1 F)(hr:kg k' X.A)(hk:k<=k')(ho:SE X o fo)
  (ht:eval (.Call (.Attribute o m gW) [] [] pos) X.env=(do
   let ov <- eval o X.env
   standAt gW.atName
   let (f,fst') <- holding [ov] (getMethod ov m pl)
   callWith pos f fst' (backTo pos (starEach [] X.env)) (backToKw pos (keywordEach [] X.env))):=by rfl):SE X (.Call (.Attribute o m gW) [] [] pos) (il c m 1 F fo aA):=⟨by
 walk_at "9"
 obtain⟨C,g,fd,ps,hc,cl,hm,hn,hb,Fo⟩:=(Fn.mono hk).ex
 walk_at "2"
 have h':tE X fo σ H fun x H1=>∃(a dx:Addr) (xs:List (Str×V)),x=.ref a/\H1 a=some (.ins C dx xs)/\xs.lookup m=none/\∃μ2 dz ws,Rl X μ2 ρ dz σ H1/\RelWs X.K μ2 H1 ws [.ref a]/\ws.length=1/\RK X (uY X) μ2 σ H1 Q (F ws dz):=by
  walk_at "1"
  cases e0:oE st1 x with
  |none=>rw[e0]at h1;exact h1.elim
  |some nk=>
   obtain⟨i,c',fl⟩:=nk
   rw[e0]at h1
   simp only at h1
   obtain⟨rfl,hi,a,C',dx,vs,hma,rfl,hc',hI,rr⟩:=tZ l1.sto e0 q1
   by_cases z:c'=c/\fl.lookup m=none
   ·rw[aJ z]at h1
    obtain⟨z,hz⟩:=z
    subst z
    rw[hc]at hc';cases hc'
    exact⟨a,dx,_,rfl,hI,(AE m rr).2 hz,μ1,st1,[.loc i],l1,.consI q1 .nilI,rfl,h1⟩
   ·rw[aW z]at h1;exact h1.elim
 refine PySem.W.methodCall_KW (pl:=pl) (kJ (ho.h am s σ H _ I h') fun u s1 kt1 ⟨x,H1,I1,rx,a,dx,xs,ex,ea,lk,μ2,dz,ws,l2,r2,y,q2⟩=>?_) ht
 subst ex
 obtain rfl:u=Value.ref a:=rx
 refine wV I1 ea cl hm lk ?_
 exact PySem.W.callWith_K0 (first:=[.ref a]) I1.kIn hm.kp (IC (us:=[.ref a]) (vs:=[.ref a]) Fo hn hr hb I1 l2.sto r2 (.cons rfl .nil) y q2)⟩
structure Mw(P:Program)(w:World)(K:Frag)(mg:Str->Option Value)(base:Heap)(k:Nat)(c:Str)(n:Nat)(F:List W->List ar->R W):Prop where
 ex:∃(C g:Addr) (fd:FuncData) (ps:List Str),mg c=some (.ref C)/\Mk K C g/\ps.length=n/\r6 K fd ps []/\c9 P w K mg base #[52] k g fd ps (iV K mg n F)
def FP(c:Str)(n:Nat)(F:List W->List ar->R W)(fs:FA):FE:=fun ρ st=>(fs ρ st).bind fun ws st=>if ws.length+1=n then(match F (.loc st.length::ws) (st++[.obj c []])with
  |.ok .non bt=>.ok (.loc st.length) bt
  |_=>.bad)else .bad
theorem P8{k':Nat}(Fn:Mw X.prog X.w X.K X.mg X.base k c n F)(hr:kg k' X.A)(hk:k+1<=k')(ha:SA X (e::es) fs)(hg:Gl X c:=by rfl)(K_:(c==("__debug__":Str))=false:=by decide)
  (he:starEach (e::es) X.env=(false,eval e X.env)::starEach es X.env:=by rfl) (m7:(backTo pos #[64]).any (·.1)=false:=by rfl):SE X (.Call (.Name c p) (e::es) [] pos) (FP c n F fs):=⟨by
 walk_at "9"
 obtain⟨C,g,fd,ps,hc,M,hn,hb,Fo⟩:=Fn.ex
 refine f9 (tH I hg hc ?_ K_)
 walk_at "2"
 have h':Tj X fs σ H fun vs H1=>∃μ1 st1 ws dz,Rl X μ1 ρ st1 σ H1/\RelWs X.K μ1 H1 ws vs/\ws.length+1=n/\F (.loc st1.length::ws) (st1++[.obj c []])=.ok .non dz/\RK X (uY X) μ1 σ H1 Q (.ok (.loc st1.length) dz):=by
  walk_at "1"
  by_cases y:x.length+1=n
  ·rw[aJ y]at h1
   split at h1
   ·rename_i dz e2
    exact⟨μ1,st1,x,dz,l1,q1,y,e2,h1⟩
   ·exact h1.elim
  ·rw[aW y]at h1;exact h1.elim
 refine PySem.W.callWith_K (h₀:=X.base) I.ok.mod.kin M.kp (kJ (ha.h pos am s σ H _ I h') fun us s1 kt1 ⟨vs,H1,I1,r,μ1,st1,ws,dz,l1,r1,y,e2,q⟩=>⟨I1.kIn,?_⟩) he m7
 refine HL (dvs:=[]) (ds:=[]) (E:=fun _ _ _=>False) M Fo (hr.mono hk) hb .nil (fun am σ H s e s' I ht hq=>by obtain⟨_,_,_,_,_,_,z,_⟩:=hq;exact z.elim) I1 r fun x dx hx hdx F8=>?_
 have hs1:wf H1 (gc H1 dx (.own x)):=c7 hdx _
 have hx1:(gc H1 dx (.own x)) x=none:=by rw[df (Ne.symm F8)];exact hx
 have vJ:wf (gc H1 dx (.own x)) (gc (gc H1 dx (.own x)) x (.ins C dx [])):=c7 hx1 _
 have xt:fI X.K H1 (gc (gc H1 dx (.own x)) x (.ins C dx [])):=(gG.same hs1).trans (gG.same vJ)
 have S2:jO X.K X.mg (μ1++[x]) (st1++[.obj c []]) (gc (gc H1 dx (.own x)) x (.ins C dx [])):=(l1.sto.same hs1).push (c:=.obj c []) hx1 ⟨C,dx,[],hc,ig,.nilI⟩
 have hmx:(μ1++[x])[st1.length]?=some x:=by rw[l1.sto.len];simp
 refine⟨by rw[bd,bv,<- r1.len];exact y,μ1++[x],.loc st1.length::ws,st1++[.obj c []],S2,.consI (.locI hmx) (by rw[bd];exact r1.mono (a_ _ _) xt),?_⟩
 rw[e2]
 intro μ' v H' pp xx S' rv
 exact⟨rv.nonE,q μ' (.ref x) H' ((a_ _ _).trans pp) (xt.trans xx) S' (.locI (L2.pre_get pp hmx))⟩⟩
end
def iM:Stmt->List Stmt
 |.ClassDef _ _ _ b _ _ _ _ _ _ _=>b
 |_=>[]
inductive DefM(K:Frag)(C:Addr)(q m:Str)(st:Stmt):Prop
 |mk {ad:Addr} {od an:Option Addr} {sl:Array (Option Value)} {oc kV dc pm cd ct:Value} (a:findIn K (.ref C) m=some (some (.ref ad))) (i:isFn K (.ref ad)=true)
   (l:K.lookup ad=some ⟨oc,od,.func (fnOf m q (je st) (hZ st) (aQ st) .none kV dc pm an cd ct),sl⟩) (c:codeIn K cd q=true) (k:keepIn K (.ref ad)=true):DefM K C q m st
section
variable{w:World}{q m:Str}{st:Stmt}
theorem kW(d:DefM K C q m st)(hC:mg c=some (.ref C))(cl:Cls K C)(ok:∀{f:Addr} {fd:FuncData},iU K m q st f fd->c9 P w K mg base #[52] k f fd ps (iV K mg n G))(hn:ps.length=n:=by rfl)
  (hb:∀(kV uO pm:Value) (an:Option Addr) (fE ct:Value) (us:List Value),us.length=ps.length->bindArgs (fnOf m q (je st) (hZ st) (aQ st) .none kV uO pm an fE ct) ⟨us,[]⟩=pure (ps.zip us):=by(intro _ _ _ _ _ _ _ q;first|(obtain⟨_,rfl⟩:=VC q;rfl)|(obtain⟨_,_,rfl⟩:=VD q;rfl)|(obtain⟨_,_,_,rfl⟩:=VE q;rfl)|(obtain⟨_,_,_,_,rfl⟩:=VF q;rfl)|(obtain⟨_,_,_,_,_,rfl⟩:=VG q;rfl)|(obtain⟨_,_,_,_,_,_,rfl⟩:=Ww q;rfl))):iG P w K mg base k c m n G:=by
 obtain⟨a,i,l,cc,kk⟩:=d
 exact⟨C,_,_,ps,hC,cl,⟨a,i,kk⟩,hn,r6.all fun us hl=>hb _ _ _ _ _ _ us hl,ok (Ao (st:=st) l cc kk)⟩
theorem P9(d:DefM K C q "__init__" st)(hC:mg c=some (.ref C))(mk:makesIn K C=true)(kc:keepIn K (.ref C)=true)(ok:∀{f:Addr} {fd:FuncData},iU K "__init__" q st f fd->c9 P w K mg base #[52] k f fd ps (iV K mg n G))(hn:ps.length=n:=by rfl)
  (hb:∀(kV uO pm:Value) (an:Option Addr) (fE ct:Value) (us:List Value),us.length=ps.length->bindArgs (fnOf "__init__" q (je st) (hZ st) (aQ st) .none kV uO pm an fE ct) ⟨us,[]⟩=pure (ps.zip us):=by(intro _ _ _ _ _ _ _ q;first|(obtain⟨_,rfl⟩:=VC q;rfl)|(obtain⟨_,_,rfl⟩:=VD q;rfl)|(obtain⟨_,_,_,rfl⟩:=VE q;rfl)|(obtain⟨_,_,_,_,rfl⟩:=VF q;rfl)|(obtain⟨_,_,_,_,_,rfl⟩:=VG q;rfl)|(obtain⟨_,_,_,_,_,_,rfl⟩:=Ww q;rfl))):Mw P w K mg base k c n G:=by
 obtain⟨a,i,l,cc,kk⟩:=d
 exact⟨C,_,_,ps,hC,⟨mk,a,i,kc⟩,hn,r6.all fun us hl=>hb _ _ _ _ _ _ us hl,ok (Ao (st:=st) l cc kk)⟩
end
end L2
namespace L2
open PySem PySem.Spec PyProof.Rows
theorem ia(st x:List ar)(k:Nat):(st++x)[st.length+k]?=x[k]?:=by rw[aY #[0]];congr 1;omega
theorem d_(st x:List ar):(st++x)[st.length]?=x[0]?:=ia st x 0
theorem mS(st x:List ar)(k:Nat)(c:ar):(st++x).set (st.length+k) c=st++x.set k c:=by rw[qv _ _ #[0]];congr 2;omega
theorem gj(st x:List ar)(c:ar):(st++x).set st.length c=st++x.set 0 c:=mS st x 0 c
theorem cV{x:List ar}{c:ar}(h:st[n]?=some c):(st++x)[n]?=some c:=by
 rw[aN (ax.mp h).1];exact h
theorem El(st:List ar)(ws:List W):iL st st ws=st:=by unfold iL;split<;>simp
theorem va{st x:List ar}{ws:List W}(h:undWs st.length ws=true):iL st (st++x) ws=st:=by
 unfold iL
 rw[aJ ⟨h,by simp,fun i hi=>.inl (aN hi)⟩]
 simp
theorem zF(h:undWs st.length ws=false):iL st bt ws=bt:=by
 unfold iL
 rw[aW fun k=>by have:=k.1;rw[h]at this;cases this]
theorem jh{N:Nat}{body:FS}{ws:List W}{w:W}(h:body #[13] st=.rt w bt):dq N body ws st=.ok w (iL st bt [w]):=by
 unfold dq;rw[h]
theorem rQ{w:W}(h:body #[13] st=.rt w st):dq N body ws st=.ok w st:=by
 rw[jh h,El]
theorem Ct{x:List ar}{w:W}(h:body #[13] st=.rt w (st++x))(hu:undWs st.length [w]=true):dq N body ws st=.ok w st:=by
 rw[jh h,va hu]
theorem IQ{x:List ar}(h:body #[13] st=.rt (.loc (st.length+k)) (st++x)):dq N body ws st=.ok (.loc (st.length+k)) (st++x):=by
 rw[jh h,zF (by simp[undWs,W.und])]
theorem IR{g g':FS}{ρ':cL}(h:g ρ st=.nx ρ' bt):aK g g' ρ st=g' ρ' bt:=by unfold aK;rw[h]
theorem FQ{f:FG}{k:Iz}(h:fi ρ st=.ok k bt):mP fi f body ρ st=tQ f body k.2 k.1 ρ bt:=by unfold mP;rw[h];rfl
theorem Cu{f:FG}{body:FS}{ck:Option (Nat×List W)}(I:Nat->cL->List ar->Prop):∀{ws:List W} {ρ:cL} {st:List ar} (i0:Nat),I i0 ρ st->(∀i ρ st,I i ρ st->my st ck) ->
  (∀i w ρ st,ws[i]?=some w->I (i0+i) ρ st->∃ρ' ρ2 dz,f w ρ=some ρ'/\body ρ' st=.nx ρ2 dz/\I (i0+i+1) ρ2 dz) ->
  ∃ρ2 dz,tQ f body ck ws ρ st=.nx ρ2 dz/\I (i0+ws.length) ρ2 dz
 |[],ρ,st,i0,h0,hc,hs=>⟨ρ,st,by unfold tQ;rw[aJ (hc _ _ _ h0)],h0⟩
 |w::ws,ρ,st,i0,h0,hc,hs=>by
  obtain⟨ρ',ρ2,dz,e1,e2,h1⟩:=hs 0 w ρ st rfl h0
  obtain⟨ρ3,nN,e3,h3⟩:=Cu I (ws:=ws) (ρ:=ρ2) (st:=dz) (i0+1) h1 hc fun i w ρ st hw hI=>by
   obtain⟨a,b,c,d,e,g⟩:=hs (i+1) w ρ st (by simpa using hw) (by rw[show i0+(i+1)=i0+1+i by omega];exact hI)
   exact⟨a,b,c,d,e,by rw[show i0+1+i+1=i0+(i+1)+1 by omega];exact g⟩
  refine⟨ρ3,nN,?_,by rw[bv,show i0+(ws.length+1)=i0+1+ws.length by omega];exact h3⟩
  unfold tQ
  rw[aJ (hc _ _ _ h0),e1]
  simp only[e2]
  exact e3
theorem GT{t:FT}{g:FS}(I:Nat->cL->List ar->Prop):∀(n:Nat) {ρ:cL} {st:List ar},I n ρ st ->
  (∀n ρ st,I n ρ st->t ρ st=.ok false st\/(t ρ st=.ok true st/\∃ρ2 dz m,g ρ st=.nx ρ2 dz/\m<n/\I m ρ2 dz)) ->
  ∃m ρ2 dz,qH t g ρ st=.nx ρ2 dz/\I m ρ2 dz/\t ρ2 dz=.ok false dz:=by
 intro n ρ st h hs
 have key:∀(k n:Nat) (ρ:cL) (st:List ar),n<k->I n ρ st->∃m ρ2 dz,eX t g k ρ st=.nx ρ2 dz/\I m ρ2 dz/\t ρ2 dz=.ok false dz:=by
  intro k
  induction k with
  |zero=>intro n _ _ h;exact absurd h (mv _)
  |succ k ih=>
   intro n ρ st hk hI
   rcases hs n ρ st hI with e|⟨e,ρ2,dz,m,e2,hm,h2⟩
   ·exact⟨n,ρ,st,by unfold eX;rw[e];rfl,hI,e⟩
   ·obtain⟨m',ρ3,nN,e3,h3⟩:=ih m ρ2 dz #[0] h2
    exact⟨m',ρ3,nN,by unfold eX;rw[e];simp only[R.stmt_ok,gy,e2];exact e3,h3⟩
 obtain⟨m,ρ2,dz,e,h2⟩:=key (n+1) n ρ st (cu n) h
 exact⟨m,ρ2,dz,zx e #[15],h2⟩
section
variable{ρ':cL}{dz nN VJ:List ar}{fb fi:FE}{fs:FA}{u:FT}{x y z w v:W}{xs zs:List W}{m:Nat}{a b k:Bool}{g g':FS}
theorem im(h:ρ[i]?=some (some w)):ah i ρ st=.ok w st:=by unfold ah;rw[h]
theorem bu:eC w ρ st=.ok w st:=rfl
theorem bq{f:W->W->List ar->R W}(h1:fa ρ st=.ok x st1)(h2:fb ρ st1=.ok y dz)(h3:f x y dz=.ok z nN):e2 f fa fb ρ st=.ok z nN:=by unfold e2;rw[h1];simp only[R.bind_ok];rw[h2];exact h3
theorem aM:aA ρ st=.ok [] st:=rfl
theorem ak(h1:fa ρ st=.ok x st1)(h2:fs ρ st1=.ok xs dz):af fa fs ρ st=.ok (x::xs) dz:=by unfold af;rw[h1];simp only[R.bind_ok];rw[h2];rfl
theorem P_:Tp ls ρ st=.ok (ls.map W.str) st:=rfl
theorem c5(h1:fs ρ st=.ok ws st1)(h2:ws.length<=oy):dC fs ρ st=.ok (.tup ws) st1:=by unfold dC;rw[h1];simp only[R.bind_ok,se];rw[aJ h2]
theorem mz(h1:fs ρ st=.ok ws st1)(h2:ws.length<=oy):km fs ρ st=.ok (.loc st1.length) (st1++[.lst ws]):=by unfold km;rw[h1];simp only[R.bind_ok,qD];rw[aJ h2]
theorem bR(h1:fs ρ st=.ok ws st1)(h2:F ws st1=.ok w dz):bw F fs ρ st=.ok w dz:=by unfold bw;rw[h1];exact h2
theorem cf(h1:fs ρ st=.ok ws st1)(h2:F ws st1=.ok w dz)(hn:ws.length=n):b_ n F fs ρ st=.ok w dz:=by unfold b_;rw[h1];simp only[R.bind_ok];rw[aJ hn];exact h2
theorem aR(h:fa ρ st=.ok (.bl k) st1):dO fa ρ st=.ok k st1:=by unfold dO;rw[h];rfl
theorem ky(h1:t ρ st=.ok true st1)(h2:u ρ st1=.ok k dz):yE t u ρ st=.ok k dz:=by unfold yE;rw[h1];exact h2
theorem mG(h1:t ρ st=.ok false st1):yE t u ρ st=.ok false st1:=by unfold yE;rw[h1];rfl
theorem nI(h1:t ρ st=.ok false st1)(h2:u ρ st1=.ok k dz):GJ t u ρ st=.ok k dz:=by unfold GJ;rw[h1];exact h2
theorem AF(h1:t ρ st=.ok true st1):GJ t u ρ st=.ok true st1:=by unfold GJ;rw[h1];rfl
theorem sk(h1:t ρ st=.ok a st1)(h2:(!a)=k):BK t ρ st=.ok k st1:=by unfold BK;rw[h1,<- h2];rfl
theorem wK(h1:fa ρ st=.ok (.bl true) st1)(h2:fb ρ st1=.ok w dz):D9 fa fb ρ st=.ok w dz:=by unfold D9;rw[h1];exact h2
theorem TU(h1:fa ρ st=.ok (.bl a) st1)(h2:(!a)=k):L' fa ρ st=.ok (.bl k) st1:=by unfold L';rw[h1,<- h2];rfl
theorem t0(h1:t ρ st=.ok true st1)(h2:fa ρ st1=.ok w dz):Hm t fa fb ρ st=.ok w dz:=by unfold Hm;rw[h1];exact h2
theorem t5(h1:t ρ st=.ok false st1)(h2:fb ρ st1=.ok w dz):Hm t fa fb ρ st=.ok w dz:=by unfold Hm;rw[h1];exact h2
theorem iZ{F:W->List W->List ar->R W}(h1:fo ρ st=.ok x st1)(hl:mQ st1 x=true)(h2:fs ρ st1=.ok ws dz)(h3:F x ws dz=.ok w nN):kK F fo fs ρ st=.ok w nN:=by unfold kK;rw[h1];simp only[R.bind_ok];rw[aJ hl,h2];exact h3
theorem Mx{F:W->List W->List ar->R W}(h1:fo ρ st=.ok x st1)(hl:zy x=true)(h2:fs ρ st1=.ok ws dz)(h3:F x ws dz=.ok w nN):Lf F fo fs ρ st=.ok w nN:=by unfold Lf;rw[h1];simp only[R.bind_ok];rw[aJ hl,h2];exact h3
theorem dE(h:st[n]?=some (.lst ws)):mQ st (.loc n)=true:=by simp only[mQ,h]
theorem vZ{q:Int}(h:fa ρ st=.ok (.int q) st1):xz fa ρ st=.ok (.int (-q)) st1:=by unfold xz;rw[h];rfl
theorem TV{c:String}(h:fa ρ st=.ok x st1)(hx:x.ty=some c)(hk:Ml c T=k):xF T fa ρ st=.ok (.bl k) st1:=by unfold xF;rw[h];simp only[R.bind_ok,hx,hk]
theorem Cv(h:fa ρ st=.ok x st1)(hk:x.isNon=k):Av fa ρ st=.ok (.bl k) st1:=by unfold Av;rw[h,<- hk];rfl
theorem fB(h:fa ρ st=.ok x st1)(hk:(!x.isNon)=k):hU fa ρ st=.ok (.bl k) st1:=by unfold hU;rw[h,<- hk];rfl
theorem vb:ik ρ st=.ok none st:=rfl
theorem oF{q:Int}(h:fa ρ st=.ok (.int q) st1):fz fa ρ st=.ok (some q) st1:=by unfold fz;rw[h];rfl
theorem oG{fl fh:FO}{l h:Option Int}(h1:fa ρ st=.ok x st1)(h2:fl ρ st1=.ok l dz)(h3:fh ρ dz=.ok h nN)(h4:yG x l h nN=.ok w VJ):sQ fa fl fh ρ st=.ok w VJ:=by unfold sQ;rw[h1];simp only[R.bind_ok];rw[h2];simp only[R.bind_ok];rw[h3];exact h4
theorem be(h:fe ρ st=.ok w st1):bf i fe ρ st=.nx (ρ.set i (some w)) st1:=by unfold bf;rw[h];rfl
theorem eJ(h:fe ρ st=.ok w st1):cU fe ρ st=.nx ρ st1:=by unfold cU;rw[h];rfl
theorem sm(h:fe ρ st=.ok w st1):cM fe ρ st=.rt w st1:=by unfold cM;rw[h];rfl
theorem FR{f:W->W->W->List ar->Option (List ar)}(h1:fe ρ st=.ok v st1)(h2:fo ρ st1=.ok x dz)(h3:fi ρ dz=.ok y nN)(h4:f x y v nN=some VJ):Ci fo fi fe f ρ st=.nx ρ VJ:=by
 unfold Ci;rw[h1];simp only[R.stmt_ok];rw[h2];simp only[R.stmt_ok];rw[h3];simp only[R.stmt_ok];rw[h4]
theorem cY{r:RS}(h1:t ρ st=.ok true st1)(h2:g ρ st1=r):fK t g g' ρ st=r:=by unfold fK;rw[h1];exact h2
theorem bZ{r:RS}(h1:t ρ st=.ok false st1)(h2:g' ρ st1=r):fK t g g' ρ st=r:=by unfold fK;rw[h1];exact h2
theorem du:bW ρ st=.nx ρ st:=rfl
theorem cO{r:RS}(h:g ρ st=.nx ρ' st1)(h2:g' ρ' st1=r):aK g g' ρ st=r:=by rw[IR h];exact h2
theorem sX(h:g ρ st=.rt w st1):aK g g' ρ st=.rt w st1:=by unfold aK;rw[h]
theorem dX{p q:Int}:cN (.int p) (.int q) st=.ok (.int (p+q)) st:=rfl
theorem Em{p q:List Nat}(h:p.length+q.length<=oy):cN (.str p) (.str q) st=.ok (.str (p++q)) st:=by simp only[cN];rw[aJ h]
theorem P'(h1:st[n]?=some (.lst ws))(h2:st[m]?=some (.lst xs))(h:(ws++xs).length<=oy):cN (.loc n) (.loc m) st=.ok #[4] (st++[.lst (ws++xs)]):=by
 unfold cN;simp only[h1,h2,qD];rw[aJ h]
theorem i6{C:Int->Int->Prop}[∀i j,Decidable (C i j)]{f:Int->Int->Int}{p q:Int}(h:C p q):GK C f (.int p) (.int q) st=.ok (.int (f p q)) st:=by simp only[GK];rw[aJ h]
theorem qK{p q:Int}(h:PL p q):iY (.int p) (.int q) st=.ok (.int (p*q)) st:=by simp only[iY];rw[aJ h]
theorem jz{f:Int->Int->Bool}{p q:Int}(h:f p q=k):GL f (.int p) (.int q) st=.ok (.bl k) st:=by rw[<- h];rfl
theorem Cw{p q:Int}(h:decide (p<=q)=k):GQ (.int p) (.int q) st=.ok (.bl k) st:=by rw[<- h];rfl
theorem fg{p q:Int}(h:(p==q)=k):iK (.int p) (.int q) st=.ok (.bl k) st:=by rw[<- h];rfl
theorem TW{p q:Int}(h:(!(p==q))=k):Ni (.int p) (.int q) st=.ok (.bl k) st:=by rw[<- h];rfl
theorem c6{p q:List Nat}(h:(p==q)=k):iK (.str p) (.str q) st=.ok (.bl k) st:=by rw[<- h];rfl
theorem nJ{q:Int}(h:uV ws q=some w):bB (.tup ws) (.int q) st=.ok w st:=by unfold bB;simp only[h,fy]
theorem kv(h:ρ[i]?=some (some w):=by rfl):ah i ρ st=.ok w st:=im h
theorem ox{q:Int}(h:uV ws q=some w:=by rfl):bB (.tup ws) (.int q) st=.ok w st:=nJ h
theorem kn(h:ρ[i]?=some (some w):=by rfl):af (ah i) aA ρ st=.ok [w] st:=ak (im h) aM
theorem kx{q:Int}(h:ρ[i]?=some (some (.tup ws)):=by rfl)(h2:uV ws q=some w:=by rfl):e2 bB (ah i) (eC (.int q)) ρ st=.ok w st:=bq (im h) bu (nJ h2)
theorem IS{q:Int}{c:Nat}(hl:l.length<=oy)(h:uV l q=some c):bB (.str l) (.int q) st=.ok (.str [c]) st:=by unfold bB;simp only[h,fy];rw[aJ hl]
theorem kz{q:Int}(hl:lstOf st n=some ws)(h:uV ws q=some w):bB (.loc n) (.int q) st=.ok w st:=by unfold bB;simp only[hl,h,fy]
theorem xM:dm [.tup ws] st=.ok (.int ws.length) st:=rfl
theorem AG(h:l.length<=oy):dm [.str l] st=.ok (.int l.length) st:=by unfold dm;simp only;rw[aJ h]
theorem jr(hl:lstOf st n=some ws):dm [.loc n] st=.ok (.int ws.length) st:=by unfold dm;simp only[hl,fy]
theorem bN(h:st[n]?=some (.lst ws)):lstOf st n=some ws:=by unfold lstOf;rw[h]
theorem t6(h:st[n]?=some (.ro ws)):lstOf st n=some ws:=by unfold lstOf;rw[h]
theorem p5(h:st[n]?=some (.lst ws))(hl:ws.length<oy):bH (.loc n) [y] st=.ok .non (st.set n (.lst (ws++[y]))):=by unfold bH;simp only[h];rw[aJ hl]
theorem xN(h:st[n]?=some (.lst (ws++[y]))):oz (.loc n) [] st=.ok y (st.set n (.lst ws)):=by unfold oz;simp only[h];simp
theorem Qa{q:Int}(h:st[n]?=some (.lst ws))(hi:Fj ws.length q=some j):sf (.loc n) (.int q) v st=some (st.set n (.lst (ws.set j v))):=by unfold sf;simp only[h,hi];rfl
theorem En{sep:List Nat}(h:lstOf st n=some (ls.map W.str))(hl:(ls.map List.length).sum+ls.length*sep.length<=oy):pZ (.str sep) [.loc n] st=.ok (.str (mM sep ls)) st:=by
 unfold pZ;simp only[h,fy,zz];rw[aJ hl]
theorem TX{l h:Option Int}(hl:lstOf st n=some ws):yG (.loc n) l h st=.ok #[4] (st++[.lst (ko ws l h)]):=by unfold yG;simp only[hl,fy]
theorem IT{l h:Option Int}{z:List Nat}(hl:z.length<=oy):yG (.str z) l h st=.ok (.str (ko z l h)) st:=by unfold yG;simp only;rw[aJ hl]
theorem Cy{l h:Option Int}:yG (.tup ws) l h st=.ok (.tup (ko ws l h)) st:=rfl
theorem AH(h:fe ρ st=.ok (.tup ws) st1):hV fe ρ st=.ok (ws,none) st1:=by unfold hV;rw[h];rfl
theorem wL(h:fe ρ st=.ok (.loc n) st1)(hl:lstOf st1 n=some ws):hV fe ρ st=.ok (ws,some (n,ws)) st1:=by unfold hV;rw[h];simp only[R.bind_ok,hl]
theorem jA{q:Int}(h:fs ρ st=.ok [.int q] st1)(hq:-(2^62)<=q/\q<2^62):dU fs ρ st=.ok (fL 0 q.toNat,none) st1:=by unfold dU;rw[h];simp only[R.bind_ok];rw[aJ hq]
theorem AI{l:List W}{q:Nat}(h:l.reverse[q]?=some x):uV l (-((q:Int)+1))=some x:=by
 have hq:q<l.length:=by have:=(ax.mp h).1;simpa using this
 unfold uV Fj
 rw[aW #[0],aJ #[0]]
 rw[iI hq]at h
 simp only[Option.bind_some]
 rw[show((-((q:Int)+1))+(l.length:Int)).toNat=l.length-1-q by omega]
 exact h
theorem gA{l:List α}{q:Nat}{x:α}(h:l[q]?=some x):uV l (q:Int)=some x:=by
 have hq:q<l.length:=(ax.mp h).1
 unfold uV Fj
 rw[aJ #[0],aJ #[0]]
 simpa using h
def kX(P:RS->Prop)(r:RS):Prop:=P r
def My(I:cL->List ar->Prop):RS->Prop:=fun r=>∃ρ st,r=.nx ρ st/\I ρ st
def AJ(I:W->List ar->Prop):RS->Prop:=fun r=>∃w st,r=.rt w st/\I w st
variable{P:RS->Prop}{gO:FS}
theorem dG{r r':RS}(h:r=r')(h2:P r'):kX P r:=by rw[h];exact h2
theorem az(h:g ρ st=.nx ρ' st1)(h2:kX P (g' ρ' st1)):kX P (aK g g' ρ st):=by rw[IR h];exact h2
theorem qL(h1:t ρ st=.ok true st1)(h2:kX P (g ρ st1)):kX P (fK t g g' ρ st):=by rw[cY h1 rfl];exact h2
theorem mT(h1:t ρ st=.ok false st1)(h2:kX P (g' ρ st1)):kX P (fK t g g' ρ st):=by rw[bZ h1 rfl];exact h2
theorem ec(h1:t ρ st=.ok true st1)(h2:kX P (aK g gO ρ st1)):kX P (aK (fK t g g') gO ρ st):=by
 unfold aK at h2 ⊢;rw[cY h1 rfl];exact h2
theorem bA(h1:t ρ st=.ok false st1)(h2:kX P (aK g' gO ρ st1)):kX P (aK (fK t g g') gO ρ st):=by
 unfold aK at h2 ⊢;rw[bZ h1 rfl];exact h2
theorem vc{h:FS}(h2:kX P (aK g (aK g' h) ρ st)):kX P (aK (aK g g') h ρ st):=by
 unfold aK at h2 ⊢
 cases e:g ρ st<;>simp only[e]at h2 ⊢ <;> exact h2
theorem b6(h2:kX P (gO ρ st)):kX P (aK bW gO ρ st):=h2
theorem bU(h:fe ρ st=.ok w st1)(h2:P (.rt w st1)):kX P (cM fe ρ st):=by rw[sm h];exact h2
theorem dZ(h:fe ρ st=.ok w st1)(h2:P (.rt w st1)):kX P (aK (cM fe) gO ρ st):=by rw[sX (sm h)];exact h2
theorem gq{fi:FI}{f:FG}{k:Iz}(I:Nat->cL->List ar->Prop)(h:fi ρ st=.ok k st1)(h0:I 0 ρ st1)(hc:∀i ρ st,I i ρ st->my st k.2)
  (hs:∀i w ρ st,k.1[i]?=some w->I i ρ st->∃ρ',f w ρ=some ρ'/\kX (My (I (i+1))) (body ρ' st)) (he:∀ρ st,I k.1.length ρ st->kX P (gO ρ st)):kX P (aK (mP fi f body) gO ρ st):=by
 obtain⟨ρ2,dz,e,h2⟩:=Cu (f:=f) (body:=body) (ck:=k.2) I (ws:=k.1) (ρ:=ρ) (st:=st1) 0 h0 hc fun i w ρ st hw hI=>by
  rw[pW]at hI ⊢
  obtain⟨ρ',e1,ρ2,dz,e2,h2⟩:=hs i w ρ st hw hI
  exact⟨ρ',ρ2,dz,e1,e2,h2⟩
 rw[pW]at h2
 exact az (by rw[FQ h];exact e) (he _ _ h2)
theorem GU(I:Nat->cL->List ar->Prop)(n:Nat)(h0:I n ρ st)
  (hs:∀n ρ st,I n ρ st->t ρ st=.ok false st\/(t ρ st=.ok true st/\kX (My fun ρ2 dz=>∃m,m<n/\I m ρ2 dz) (body ρ st))) (he:∀m ρ st,I m ρ st->t ρ st=.ok false st->kX P (gO ρ st)):kX P (aK (qH t body) gO ρ st):=by
 obtain⟨m,ρ2,dz,e,h2,h3⟩:=GT (t:=t) (g:=body) I n h0 fun n ρ st hI=>by
  rcases hs n ρ st hI with e|⟨e,ρ2,dz,e2,m,hm,h2⟩
  ·exact .inl e
  ·exact .inr ⟨e,ρ2,dz,m,e2,hm,h2⟩
 exact az e (he _ _ _ h2 h3)
theorem t7{Q:W->Prop}(h:kX (AJ fun w bt=>(∃x,bt=st++x)/\undWs st.length [w]=true/\Q w) (body #[13] st)):∃w,Q w/\dq N body ws st=.ok w st:=by
 obtain⟨w,bt,e,⟨x,rfl⟩,hu,q⟩:=h
 exact⟨w,q,Ct e hu⟩
theorem fC{N:Nat}{body:FS}(h:kX (AJ fun w' bt=>w'=w/\∃x,bt=st++x) (body #[13] st))(hu:undWs st.length [w]=true):dq N body ws st=.ok w st:=by
 obtain⟨w,bt,e,rfl,x,rfl⟩:=h
 exact Ct e hu
theorem t8{Q:Nat->List ar->Prop}(h:kX (AJ fun w bt=>∃j x,w=.loc (st.length+j)/\bt=st++x/\Q j x) (body #[13] st)):∃j x,Q j x/\dq N body ws st=.ok (.loc (st.length+j)) (st++x):=by
 obtain⟨w,bt,e,j,x,rfl,rfl,q⟩:=h
 exact⟨j,x,q,IQ e⟩
theorem kY{lo:Int}(h:(fL lo q)[i]?=some w):i<q/\w=.int (lo+i):=by
 unfold fL at h
 obtain⟨h1,h2⟩:=ax.mp h
 simp only[aF,List.length_range]at h1
 exact⟨h1,by rw[<- h2];simp⟩
theorem pd{l:List α}{q:Nat}(h:q<=l.length):ko l none (some (q:Int))=l.take q:=by
 unfold ko;rw[HT.sIx_none,HT.sIx_nat,iz h];simp
theorem t9{l:List α}(h:q<=l.length):ko l (some (q:Int)) none=l.drop q:=by
 unfold ko;rw[HT.sIx_none,HT.sIx_nat,iz h];rw[bQ #[15]]
theorem gJ{q:Int}{n:Nat}(h:0<n):∃m:Nat,m<n/\q%(n:Int)=m:=by
 have h0:0<=q%(n:Int):=jM _ #[0]
 have h1:q%(n:Int)<n:=nr _ #[0]
 exact⟨(q%(n:Int)).toNat,by omega,by omega⟩
end
section
variable{u:FT}{a b k:Bool}{P:RS->Prop}{g g' gO:FS}{w:W}
theorem Qb(h1:t ρ st=.ok a st)(h2:u ρ st=.ok b st):yE t u ρ st=.ok (a&&b) st:=by cases a;exact mG h1;exact ky h1 h2
theorem IU(h1:t ρ st=.ok a st)(h2:u ρ st=.ok b st):GJ t u ρ st=.ok (a||b) st:=by cases a;exact nI h1 h2;exact AF h1
theorem Qc(h1:t ρ st=.ok a st):BK t ρ st=.ok (!a) st:=sk h1 rfl
theorem eV(h:kX (AJ fun w' bt=>w'=w/\bt=st) (body #[13] st)):dq N body ws st=.ok w st:=by
 obtain⟨w,bt,e,rfl,rfl⟩:=h
 exact rQ e
end
end L2
open L2
local macro_rules | `(tactic| walk_at "ev1") => `(tactic| first
 | (with_reducible apply im) <;> rfl
 | (with_reducible apply nJ) <;> rfl
 | with_reducible first
  | exact bu | exact aM | exact P_ | exact vb | exact dX | exact xM | exact du | exact Cy
  | apply bq | apply ak | apply c5 | apply mz | apply bR | apply cf | apply aR | apply sk | apply TU
  | apply iZ | apply Mx | apply vZ | apply TV | apply Cv | apply fB | apply oF | apply oG | apply be | apply eJ | apply sm | apply FR
  | apply i6 | apply qK | apply jz | apply Cw | apply fg | apply TW | apply c6 | apply Em
 | decide
 | (show List.length _ <= oy; exact ai rfl)
 | (show @Eq Nat _ _; exact rfl)
 | (show @Eq Bool _ _; exact rfl)
 | (show @Eq (Option String) _ _; exact rfl)
 | (show @Eq _ _ _; with_reducible assumption))
local macro_rules | `(tactic| walk_at "evs") => `(tactic| repeat' walk_at "ev1")
local macro_rules | `(tactic| walk_at "tst") => `(tactic| first
 | (walk_at "evs"; done)
 | (apply mG; (focus walk_at "tst"); done)
 | (apply ky; (focus walk_at "tst"); (focus walk_at "tst"); done)
 | (apply AF; (focus walk_at "tst"); done)
 | (apply nI; (focus walk_at "tst"); (focus walk_at "tst"); done))
local macro_rules | `(tactic| walk_at "go1") => `(tactic| first
 | apply b6
 | (apply dZ; (focus (walk_at "evs"; done)))
 | (apply bU; (focus (walk_at "evs"; done)))
 | (apply ec; (focus walk_at "tst"))
 | (apply bA; (focus walk_at "tst"))
 | (apply qL; (focus walk_at "tst"))
 | (apply mT; (focus walk_at "tst"))
 | (apply az; (focus (walk_at "evs"; done))))
local macro_rules | `(tactic| walk_at "go") => `(tactic| repeat walk_at "go1")
local macro_rules | `(tactic| walk_at "tb") => `(tactic| repeat' (first | with_reducible apply Qb | with_reducible apply IU | with_reducible apply Qc | walk_at "ev1"))
local macro_rules | `(tactic| walk_at "len") => `(tactic| (simp only [aj, bv, qk]; show _ <= 1000000; omega))
namespace L2
open PySem PySem.Spec PyProof.Rows
section
variable{ρ' ρ2:cL}{dz:List ar}{fs:FA}{g gh gO:FS}{w:W}{cs:List Str}{P:RS->Prop}{b:Bool}
def W4(c:Str)(I:List ar->Prop):RS->Prop:=fun r=>∃ρ st,r=.ex c ρ st/\I st
theorem gK{N:Nat}{body:FS}(h:kX (W4 c fun bt=>∃x,bt=st++x) (body #[13] st)):dq N body ws st=.ex c st:=by
 obtain⟨ρ,bt,e,x,rfl⟩:=h
 unfold dq
 rw[e]
 simp only[va (st:=st) (x:=x) (ws:=[]) rfl]
theorem Cz{N:Nat}{body:FS}(h:kX (My fun _ bt=>∃x,bt=st++x) (body #[13] st)):dq N body ws st=.ok .non st:=by
 obtain⟨ρ,bt,e,x,rfl⟩:=h
 unfold dq
 rw[e]
 simp only[va (st:=st) (x:=x) (ws:=[]) rfl]
theorem vd(h:P (.ex c ρ st)):kX P (sU c ρ st):=h
theorem su(h:P (.ex c ρ st)):kX P (aK (sU c) gO ρ st):=h
theorem lF(h1:fs ρ st=.ok ws st1)(h2:F ws st1=.ex c dz)(hn:ws.length=n):b_ n F fs ρ st=.ex c dz:=by unfold b_;rw[h1];simp only[R.bind_ok];rw[aJ hn];exact h2
theorem t_(h:fe ρ st=.ex c st1):bf i fe ρ st=.ex c ρ st1:=by unfold bf;rw[h];rfl
theorem rR(h:fe ρ st=.ex c st1):cU fe ρ st=.ex c ρ st1:=by unfold cU;rw[h];rfl
theorem qM(h:fe ρ st=.ex c st1):cM fe ρ st=.ex c ρ st1:=by unfold cM;rw[h];rfl
theorem fT(h:g ρ st=.ex c ρ' st1)(h2:P (.ex c ρ' st1)):kX P (aK g gO ρ st):=by unfold aK;rw[h];exact h2
theorem IV(h:g ρ st=.nx ρ' st1):Ei g cs i gh ρ st=.nx ρ' st1:=by unfold Ei;rw[h]
theorem IW(h:g ρ st=.ex c ρ' st1)(hc:c∈cs)(h2:gh (ρ'.set i (some (.loc st1.length))) (st1++[.exc c])=.nx ρ2 dz):Ei g cs i gh ρ st=.nx (ρ2.set i none) dz:=by
 unfold Ei;rw[h];simp only;rw[aJ hc,h2];rfl
theorem CA{f:Str->Option Bool}(h:fa ρ st=.ok (.loc n) st1)(hc:st1[n]?=some (.exc c))(hf:f c=some b):xH f fa ρ st=.ok (.bl b) st1:=by
 unfold xH;rw[h];simp only[R.bind_ok,hc,hf]
theorem TY{p q:Bool}(h:(p==q)=b):iK (.bl p) (.bl q) st=.ok (.bl b) st:=by rw[<- h];rfl
theorem wM(I:cL->List ar->Prop)(h:kX (My I) (g ρ st))(h2:∀ρ st,I ρ st->kX P (gO ρ st)):kX P (aK g gO ρ st):=by
 obtain⟨ρ',bt,e,hi⟩:=h
 exact az e (h2 _ _ hi)
end
section
variable{f:FG}
theorem CB{ρ0:cL}(hc:my st ck)(T:W->Bool)(Y:W->W):∀(ws jF:List W),(∀w∈ws,∃ρ',f w ρ0=some ρ'/\t ρ' st=.ok (T w) st/\(T w=true->el ρ' st=.ok (Y w) st)) ->
  tU f t el ck ρ0 ws jF st=.ok (jF++(ws.filter T).map Y) st
 |[],jF,_=>by unfold tU;rw[aJ hc];simp
 |w::ws,jF,h=>by
  obtain⟨ρ',e1,e2,e3⟩:=h w #[15]
  have ih:=fun jF=>CB hc T Y ws jF fun w' hw'=>h w' (by simp[hw'])
  unfold tU
  rw[aJ hc,e1]
  simp only[e2]
  cases hT:T w with
  |true=>
   simp only[e3 hT]
   rw[ih]
   simp[List.filter_cons,hT]
  |false=>
   simp only
   rw[ih]
   simp[List.filter_cons,hT]
theorem Eo(T:W->Bool)(Y:W->W)(h:fi ρ st=.ok (ws,ck) st1)(hl:ws.length<=oy)(hc:my st1 ck)
  (hs:∀w∈ws,∃ρ',f w (u8 cap ρ)=some ρ'/\t ρ' st1=.ok (T w) st1/\(T w=true->el ρ' st1=.ok (Y w) st1)):kN cap fi f t el ρ st=.ok (.loc st1.length) (st1++[.lst ((ws.filter T).map Y)]):=by
 unfold kN
 rw[h]
 simp only[R.bind_ok]
 rw[aJ hl,CB hc T Y ws [] hs]
 simp only[R.bind_ok,d9,qD]
 rw[aJ]
 rw[aF]
 exact aO (kT _ _) hl
theorem AK(Y:W->W)(h:fi ρ st=.ok (ws,ck) st1)(hl:ws.length<=oy)(hc:my st1 ck)
  (hs:∀w∈ws,∃ρ',f w (u8 cap ρ)=some ρ'/\el ρ' st1=.ok (Y w) st1):kN cap fi f xy el ρ st=.ok (.loc st1.length) (st1++[.lst (ws.map Y)]):=by
 have:=Eo (fi:=fi) (f:=f) (t:=xy) (el:=el) (cap:=cap) (fun _=>true) Y h hl hc fun w hw=>by
  obtain⟨ρ',e1,e2⟩:=hs w hw
  exact⟨ρ',e1,rfl,fun _=>e2⟩
 rw[mC.mpr (fun _ _=>rfl)]at this
 exact this
theorem ve{lo:Int}{w:W}(h:w∈fL lo q):∃i:Nat,i<q/\w=.int (lo+i):=by
 unfold fL at h
 obtain⟨i,hi,rfl⟩:=dy.mp h
 exact⟨i,m8.mp hi,rfl⟩
theorem n5(h:lstOf st n=some ws):iX [.loc n] st=.ok (.tup ws) st:=by unfold iX;simp only[h,fy]
theorem IX{xs:List W}(h:(ws++xs).length<=oy):cN (.tup ws) (.tup xs) st=.ok (.tup (ws++xs)) st:=by simp only[cN,se];rw[aJ h]
theorem TZ{p q:Int}:Ea [.int p,.int q] st=.ok (.int (if q>p then q else p)) st:=rfl
theorem IY{l:List α}(hj:j<=l.length)(hi:i<=j):ko l (some (i:Int)) (some (j:Int))=(l.drop i).take (j-i):=by
 unfold ko;rw[HT.sIx_nat,HT.sIx_nat,iz hj,iz #[0]]
theorem IZ{l:List α}:ko l none (some (-1))=l.dropLast:=by
 unfold ko
 rw[HT.sIx_none]
 have:HT.sIx l.length l.length (some (-1))=l.length-1:=by
  show(if (-1:Int)<0 then(-1+(l.length:Int)).toNat else min (-1:Int).toNat l.length)=_
  rw[aJ #[0]]
  omega
 rw[this,qw];simp
end
open Builtin Builtin.Str
theorem zG{c:Nat}:∀ws:List #[66],(∀w∈ws,c∉w)->(mM [c] ws).filter (fun d=>d != c)=ws.flatten
 |[],_=>rfl
 |[x],h=>by
  have hx:c∉x:=h x #[15]
  show x.filter _=_
  rw[mC.mpr fun d hd=>by simp;rintro rfl;exact hx hd]
  simp
 |x::y::r,h=>by
  have hx:c∉x:=h x #[15]
  show(x++[c]++mM [c] (y::r)).filter _=_
  rw[List.filter_append,List.filter_append,zG (y::r) fun w hw=>h w (aU _ hw),mC.mpr fun d hd=>by simp;rintro rfl;exact hx hd]
  simp
theorem Mz(l:List Nat)(c:Nat):Txt.replace (tx l) (tx [c]) (tx [])=tx (l.filter fun d=>d != c):=by
 obtain⟨f,hg,hfree⟩:=StrLaws.occ_tight (tx l) (tx [c]) (by simp[tx,Str.length])
 obtain⟨f',hc⟩:=StrLaws.occ_chain (tx l) (tx [c]) ((tx l).length+1)
 have pf:=StrLaws.parts_free (tx l) c _ 0 f hg hfree
 have pj:=StrLaws.join_partsFrom (tx l) (tx [c]) _ 0 f' hc
 rw[StrLaws.sub_whole]at pj
 unfold Txt.replace
 rw[StrLaws.partsBetween_eq]
 have pe:(occurrences (tx l) (tx [c]) 0 (tx l).length ((tx l).length+1)).isEmpty=true->StrLaws.partsFrom (tx l) (tx [c]).length 0 (occurrences (tx l) (tx [c]) 0 (tx l).length ((tx l).length+1))=[tx l]:=fun h=>by
  rw[List.isEmpty_iff.mp h]
  show[strSub (tx l) 0 (tx l).length]=_
  rw[StrLaws.sub_whole]
 generalize occurrences (tx l) (tx [c]) 0 (tx l).length ((tx l).length+1)=os at pf pj pe ⊢
 have pf:∀p∈StrLaws.partsFrom (tx l) (tx [c]).length 0 os,c∉p.cps.toList:=pf
 generalize StrLaws.partsFrom (tx l) (tx [c]).length 0 os=ps at pf pj pe ⊢
 have em:ps=(ps.map fun z=>z.cps.toList).map tx:=by
  rw[cw]
  conv=>lhs;rw[<- j_ ps]
  exact fF fun z _=>(S5 z).symm
 have fr:∀w∈ps.map (fun z=>z.cps.toList),c∉w:=fun w hw=>by
  obtain⟨p,hp,rfl⟩:=dy.mp hw
  exact pf p hp
 generalize ps.map (fun z=>z.cps.toList)=ws at em fr
 subst em
 have ej:∀sep:List Nat,Str.join (tx sep) (ws.map tx)=tx (mM sep ws):=fun sep=>by
  rw[<- Ft sep ws]
  show _=glued _ _
  rw[iH]
 rw[ej]at pj
 have el:mM [c] ws=l:=D0.mp pj
 have hfl:=zG ws fr
 rw[el]at hfl
 split
 ·rename_i h
  rw[show((tx [c]).length==0&&(tx []).length==0)=false from rfl,oh]at h
  have e1:=pe h
  have:ws.flatten=l:=by
   have e2:ws=[l]:=by
    cases ws with
    |nil=>cases e1
    |cons a r=>
     cases r with
     |nil=>simp only[bD,List.map_nil,List.cons.injEq,and_true]at e1;rw[D0.mp e1]
     |cons _ _=>simp at e1
   rw[e2];simp
  rw[hfl,this]
 ·rw[iH,ej,ou,hfl]
section
variable{to:TE}
def T0(to te:TE):TE:=fun σ H Q=>to σ H fun x H1=>(∃l,x=.str (tx l))/\te σ H1 fun y H2=>∃l c,x=.str (tx l)/\y=.str (tx [c])/\l.length<=1000000/\Q (.str (tx (l.filter fun d=>d != c))) H2
theorem MA(ho:PE X o to)(he:PE X e te)
  (kC:attributeBase o "replace" X.env (eval o X.env)=eval o X.env)
  (tm:((backTo eY (starEach [e,.Constant (.str (tx [])) j p2] X.env)).all (fun x=>!x.1)&&#[69].all (fun x=>x.1.isSome)
   && decide ([e,.Constant (.str (tx [])) j p2].length+([]:List Keyword).length+(if ([]:List Keyword).isEmpty then 0 else 1)<30))=true)
  (lJ:(gW.endLine==eY.line)=true) (hs:starEach [e,.Constant (.str (tx [])) j p2] X.env=(false,eval e X.env)::starEach [.Constant (.str (tx [])) j p2] X.env) :
  PE X (.Call (.Attribute o "replace" gW) [e,.Constant (.str (tx [])) j p2] [] eY) (T0 to te):=by
 walk_at "9"
 refine pS kC tm lJ rfl (kJ (ho am s σ H _ I h) fun v s1 kt1 zq=>?_)
 obtain⟨x,H1,I1,r1,ty,q1⟩:=zq
 obtain⟨h1,h2⟩:=DV I1 r1 (Fu ty)
 refine⟨"str",_,F.plainAttrs_str,F.slot_str_replace,F.type_str_replace,h1,h2,?_⟩
 rw[hs]
 refine kE rfl (lN ?_)
 show wpAny _ _ (spliced ((false,eval e X.env)::backTo eY (starEach [.Constant (.str (tx [])) j p2] X.env))) _ _ s1
 refine fZ (kJ (he am s1 σ H1 _ I1 q1) fun u s2 kt2 zq=>?_)
 obtain⟨y,H2,I2,r2,l,c,ex,ey,hl,q2⟩:=zq
 subst ex ey
 obtain⟨t,rfl⟩:=r1.up kt2
 obtain⟨t2,rfl⟩:=r2
 show wpAny _ _ (spliced ((false,eval (.Constant (.str (tx [])) j p2) X.env)::backTo eY (starEach [] X.env))) _ _ s2
 refine fZ (Calls.Constant_str ?_)
 show wpAny _ _ (spliced []) _ _ _
 refine iS ?_
 obtain⟨p1,p2⟩:=t2.2 rfl
 have n1:t2.1≠0:=eR p1
 have n2:s2.toks≠0:=eR I2.pos
 have n3:t2.1≠s2.toks:=a9 p2
 have e0:(tx []).length=0:=rfl
 have e1:(1000000:Nat)<=sizeLine:=by decide
 refine call_gives F.slot_str_replace (nh _ _ _) F.entry_str_replace (F.args_str_replace_3 _ _ _)
  (gives_str_replace (tx l) (tx [c]) (tx []) t.1 t2.1 s2.toks fun _=>⟨by simp[n1,n2],by simp[n3],rfl,?_⟩) ?_
 ·rw[e0,Nat.mul_zero,uH,jN]
  unfold tooLong
  exact a7 #[0]
 ·have hq:=Mz l c
  unfold Txt.replace at hq
  cases hc:((occurrences (tx l) (tx [c]) 0 (tx l).length ((tx l).length+1)).isEmpty||((tx [c]).length==0&&(tx []).length==0))
  ·rw[hc]at hq
   simp only[fv,gu]at hq ⊢
   rw[hq]
   have I3:=I2.tok (s2.toks+1)
   refine⟨?_,⟨.str _,H2,I3.tok _,I3.tkS,q2⟩⟩
   rw[jN]
   exact aO (kT _ _) (aO hl e1)
  ·rw[hc]at hq
   simp only[gy]at hq ⊢
   rw[<- hq]at q2
   exact⟨.str (tx l),H2,I2.tok _,⟨t.up (bx _),rfl⟩,q2⟩
end
section
def I_:W->W->List ar->R W
 |.str l,.str [c],st=>if l.length<=oy then .ok (.str (l.filter fun d=>d != c)) st else .bad
 |_,_,_=>.bad
def FU(fo fe:FE):FE:=fun ρ st=>(fo ρ st).bind fun x st=>if zy x then(fe ρ st).bind fun y st=>I_ x y st else .bad
theorem Qd{z:Str}(ho:SE X o fo)(he:SE X e fe)(hz:z=tx []:=by first|rfl|decide +kernel)
  (kC:attributeBase o "replace" X.env (eval o X.env)=eval o X.env:=by rfl)
  (tm:((backTo eY (starEach [e,.Constant (.str z) j p2] X.env)).all (fun x=>!x.1)&&#[69].all (fun x=>x.1.isSome)
   && decide ([e,.Constant (.str z) j p2].length+([]:List Keyword).length+(if ([]:List Keyword).isEmpty then 0 else 1)<30))=true:=by rfl)
  (lJ:(gW.endLine==eY.line)=true:=by rfl) (hs:starEach [e,.Constant (.str z) j p2] X.env=(false,eval e X.env)::starEach [.Constant (.str z) j p2] X.env:=by rfl) :
  SE X (.Call (.Attribute o "replace" gW) [e,.Constant (.str z) j p2] [] eY) (FU fo fe):=⟨by
 subst hz
 refine(MA ho.h he.h kC tm lJ hs).imp fun σ H Q h=>?_
 walk_at "2"
 walk_at "1"
 cases x with
 |str z=>
  rw[aJ (show zy (W.str z)=true from rfl)]at h1
  refine⟨⟨z,q1.strE⟩,μ1,ρ,st1,l1,RK.bind h1 l1 fun μ2 dz y u H2 p2 x2 l2 q2 h2=>?_⟩
  unfold I_ at h2
  split at h2
  ·rename_i l' c e1
   cases e1
   split at h2
   ·rename_i hl
    exact⟨_,c,q1.strE,q2.strE,hl,h2 μ2 _ H2 (au _) fI.refl l2.sto .str⟩
   ·exact h2.elim
  ·exact h2.elim
 |_=>exact h1.elim⟩
theorem Qe{dz:List ar}{c:Nat}(h1:fo ρ st=.ok (.str l) st1)(h2:fe ρ st1=.ok (.str [c]) dz)(hl:l.length<=oy):FU fo fe ρ st=.ok (.str (l.filter fun d=>d != c)) dz:=by
 unfold FU
 rw[h1]
 simp only[R.bind_ok]
 rw[aJ (show zy (W.str l)=true from rfl),h2]
 simp only[R.bind_ok]
 unfold I_
 simp only
 rw[aJ hl]
end
end L2
namespace P
open PySem L2
open PyProof.Rows (boot_sorted boot_set boot_ord boot_all boot_enumerate boot_int boot_str boot_bool boot_list boot_tuple boot_isinstance boot_max boot_min boot_zip)
def iW(i:Nat):Stmt:=PySem.Challenge.pw_trunksay_k68_changes_refused.main.body.getD i #[46]
abbrev Qf:Stmt:=iW 12
abbrev Ep:List Str:=["letters"]
abbrev T3:List Str:=["letters"]
theorem T4:bb Ep T3 (aQ Qf):=j'
abbrev Qg:Stmt:=iW 13
abbrev CC:List Str:=["names","marks","number","name"]
abbrev T5:List Str:=["names","marks"]
theorem CD:bb CC T5 (aQ Qg):=j'
abbrev Qh:Stmt:=iW 16
abbrev Er:List Str:=["place"]
abbrev T6:List Str:=["place"]
theorem T7:bb Er T6 (aQ Qh):=j'
abbrev Qi:Stmt:=iW 17
abbrev CF:List Str:=["place"]
abbrev T9:List Str:=["place"]
theorem T_:bb CF T9 (aQ Qi):=j'
abbrev Qj:Stmt:=iW 18
abbrev Es:List Str:=["tree","links","tops","number","place","right","left"]
abbrev T':List Str:=["tree"]
theorem xO:bb Es T' (aQ Qj):=j'
abbrev Ql:Stmt:=iW 19
abbrev Ja:List Str:=["tree","lefts","rights","number","pair"]
abbrev Ua:List Str:=["tree"]
theorem CG:bb Ja Ua (aQ Ql):=j'
abbrev Qm:Stmt:=iW 20
abbrev GV:List Str:=["ups","place"]
abbrev Ub:List Str:=["ups","place"]
theorem Uc:bb GV Ub (aQ Qm):=j'
abbrev Qn:Stmt:=iW 21
abbrev Et:List Str:=["tree","sizes","left","right","size"]
abbrev Ud:List Str:=["tree"]
theorem xP:bb Et Ud (aQ Qn):=j'
abbrev Qo:Stmt:=iW 22
abbrev yQ:List Str:=["tree","place"]
abbrev Ue:List Str:=["tree","place"]
theorem Uf:bb yQ Ue (aQ Qo):=j'
abbrev Qp:Stmt:=iW 23
abbrev AL:List Str:=["size"]
abbrev Ug:List Str:=["size"]
theorem Uh:bb AL Ug (aQ Qp):=j'
abbrev Jb:Stmt:=iW 24
abbrev GW:List Str:=["tree","place"]
abbrev Nq:List Str:=["tree","place"]
theorem Qq:bb GW Nq (aQ Jb):=j'
abbrev Jc:Stmt:=iW 25
abbrev yR:List Str:=["tree","place","below","right_size","middle"]
abbrev Nr:List Str:=["tree","place"]
theorem xQ:bb yR Nr (aQ Jc):=j'
abbrev Jd:Stmt:=iW 26
abbrev Eu:List Str:=["left","right","marks","branches"]
abbrev Nt:List Str:=["left","right","marks"]
theorem AM:bb Eu Nt (aQ Jd):=j'
abbrev Je:Stmt:=iW 27
abbrev AN:List Str:=["tree","place","side","other","branches","left","right","start","changed"]
abbrev Nu:List Str:=["tree","place","side","other"]
theorem vf:bb AN Nu (aQ Je):=j'
abbrev Jf:Stmt:=iW 29
abbrev AO:List Str:=["rooms","number"]
abbrev Nv:List Str:=["rooms","number"]
theorem Qr:bb AO Nv (aQ Jf):=j'
abbrev Jg:Stmt:=iW 30
abbrev GX:List Str:=["machine","marks","pair","rooms","leads"]
abbrev Nw:List Str:=["machine","marks","pair","rooms"]
theorem Jh:bb GX Nw (aQ Jg):=j'
abbrev Ji:Stmt:=iW 31
abbrev Ev:List Str:=["machine","tree","rooms","place","pair"]
abbrev Nx:List Str:=["machine","tree"]
theorem AQ:bb Ev Nx (aQ Ji):=j'
abbrev Jj:Stmt:=iW 33
abbrev Jk:List Str:=["deed"]
abbrev Ny:List Str:=["deed"]
theorem Qs:bb Jk Ny (aQ Jj):=j'
abbrev Jl:Stmt:=iW 34
abbrev AR:List Str:=["tree","place","marks"]
abbrev Nz:List Str:=["tree","place","marks"]
theorem Qt:bb AR Nz (aQ Jl):=j'
abbrev Jm:Stmt:=iW 35
abbrev xR:List Str:=["machine","rooms","deed","old","new","start","middle","fresh"]
abbrev NA:List Str:=["machine","rooms","deed"]
theorem sY:bb xR NA (aQ Jm):=j'
abbrev Jn:Stmt:=iW 36
abbrev GY:List Str:=["machine","tree","rooms","place","links","ups","fresh","many","at","room"]
abbrev NB:List Str:=["machine","tree","rooms","place"]
theorem ph:bb GY NB (aQ Jn):=j'
abbrev lZ:Stmt:=(iM (iW 37)).getD 0 #[46]
abbrev wl:List Str:=["self","machine","tree"]
abbrev p6:List Str:=["self","machine","tree"]
theorem vg:bb wl p6 (aQ lZ):=j'
abbrev kZ:Stmt:=(iM (iW 37)).getD 1 #[46]
abbrev vh:List Str:=["self","deed","moved","above"]
abbrev oH:List Str:=["self","deed"]
theorem iN:bb vh oH (aQ kZ):=j'
abbrev mU:Stmt:=(iM (iW 37)).getD 2 #[46]
abbrev xS:List Str:=["self","deed"]
abbrev qN:List Str:=["self","deed"]
theorem wm:bb xS qN (aQ mU):=j'
abbrev k6:Stmt:=(iM (iW 37)).getD 3 #[46]
abbrev vi:List Str:=["self","place","marks"]
abbrev oI:List Str:=["self","place","marks"]
theorem uc:bb vi oI (aQ k6):=j'
abbrev sZ:Stmt:=(iM (iW 37)).getD 4 #[46]
abbrev Ew:List Str:=["self","place","letter"]
abbrev xU:List Str:=["self","place","letter"]
theorem CH:bb Ew xU (aQ sZ):=j'
abbrev qR:Stmt:=(iM (iW 37)).getD 5 #[46]
abbrev CI:List Str:=["self","place","letter"]
abbrev v0:List Str:=["self","place","letter"]
theorem AS:bb CI v0 (aQ qR):=j'
abbrev n6:Stmt:=(iM (iW 37)).getD 6 #[46]
abbrev yS:List Str:=["self","place","side","tree","changed"]
abbrev sw:List Str:=["self","place","side","tree"]
theorem qS:bb yS sw (aQ n6):=j'
abbrev pi:Stmt:=(iM (iW 37)).getD 7 #[46]
abbrev AT:List Str:=["self","tree"]
abbrev ud:List Str:=["self","tree"]
theorem yT:bb AT ud (aQ pi):=j'
abbrev qT:Stmt:=(iM (iW 37)).getD 8 #[46]
abbrev CJ:List Str:=["self","deed"]
abbrev v3:List Str:=["self"]
theorem ue:bb CJ v3 (aQ qT):=j'
abbrev pw:Stmt:=(iM (iW 37)).getD 9 #[46]
abbrev AU:List Str:=["self","deed"]
abbrev uf:List Str:=["self"]
theorem sy:bb AU uf (aQ pw):=j'
abbrev l9:Stmt:=(iM (iW 37)).getD 10 #[46]
abbrev wn:List Str:=["self"]
abbrev p9:List Str:=["self"]
theorem vj:bb wn p9 (aQ l9):=j'
abbrev k7:Stmt:=(iM (iW 37)).getD 11 #[46]
abbrev vk:List Str:=["self"]
abbrev oJ:List Str:=["self"]
theorem ug:bb vk oJ (aQ k7):=j'
abbrev l_:Stmt:=(iM (iW 37)).getD 12 #[46]
abbrev wq:List Str:=["self"]
abbrev p_:List Str:=["self"]
theorem vm:bb wq p_ (aQ l_):=j'
abbrev ma:Stmt:=(iM (iW 37)).getD 13 #[46]
abbrev wt:List Str:=["self"]
abbrev qc:List Str:=["self"]
theorem vn:bb wt qc (aQ ma):=j'
abbrev Jo:Stmt:=iW 39
abbrev CK:List Str:=["_law_script","_law_k"]
abbrev NC:List Str:=["_law_script","_law_k"]
theorem Qu:bb CK NC (aQ Jo):=j'
abbrev Jp:Stmt:=iW 40
abbrev AV:List Str:=["_law_cell_here","_law_k","_law_salt","_law_first"]
abbrev ND:List Str:=["_law_cell_here","_law_k","_law_salt"]
theorem Jq:bb AV ND (aQ Jp):=j'
abbrev Jr:Stmt:=iW 41
abbrev AW:List Str:=["_law_cell_here","_law_many","_law_salt","_law_found","_law_rest","_law_k"]
abbrev NE:List Str:=["_law_cell_here","_law_many","_law_salt"]
theorem vo:bb AW NE (aQ Jr):=j'
abbrev Js:Stmt:=iW 42
abbrev CL:List Str:=["_law_found","_law_due","_law_k"]
abbrev Jt:List Str:=["_law_found","_law_due"]
theorem Ju:bb CL Jt (aQ Js):=j'
abbrev Jv:Stmt:=iW 43
abbrev CM:List Str:=["_law_cell_here","_law_many","_law_salt","_law_rest","_law_found","_law_d","_law_at"]
abbrev NF:List Str:=["_law_cell_here","_law_many","_law_salt"]
theorem s9:bb CM NF (aQ Jv):=j'
abbrev Jw:Stmt:=iW 44
abbrev AX:List Str:=["_law_pool_here","_law_number"]
abbrev NG:List Str:=["_law_pool_here","_law_number"]
theorem Qw:bb AX NG (aQ Jw):=j'
abbrev Jx:Stmt:=iW 45
abbrev CN:List Str:=["_law_draws_here","_law_pool_here","_law_found","_law_high","_law_d","_law_branches"]
abbrev NH:List Str:=["_law_draws_here","_law_pool_here"]
theorem qU:bb CN NH (aQ Jx):=j'
abbrev Jy:Stmt:=iW 46
abbrev AY:List Str:=["_law_tree_here","_law_heap","_law_found","_law_k","_law_left","_law_right"]
abbrev NI:List Str:=["_law_tree_here"]
theorem qV:bb AY NI (aQ Jy):=j'
abbrev Jz:Stmt:=iW 47
abbrev xV:List Str:=["_law_names","_law_many","_law_top","_law_draws_here","_law_good","_law_table","_law_at","_law_letter_here","_law_rows","_law_l"]
abbrev NJ:List Str:=["_law_names","_law_many","_law_top","_law_draws_here"]
theorem qW:bb xV NJ (aQ Jz):=j'
abbrev JA:Stmt:=iW 48
abbrev yU:List Str:=["_law_names","_law_marks_here","_law_found","_law_name"]
abbrev NK:List Str:=["_law_names","_law_marks_here"]
theorem AZ:bb yU NK (aQ JA):=j'
abbrev JB:Stmt:=iW 49
abbrev Ex:List Str:=["_law_machine_here","_law_tree_here","_law_heap","_law_found","_law_branches","_law_marks_here","_law_left","_law_right"]
abbrev NL:List Str:=["_law_machine_here","_law_tree_here"]
theorem py:bb Ex NL (aQ JB):=j'
abbrev JC:Stmt:=iW 50
abbrev CO:List Str:=["_law_machine_here","_law_tree_here"]
abbrev NM:List Str:=["_law_machine_here","_law_tree_here"]
theorem Qx:bb CO NM (aQ JC):=j'
abbrev JD:Stmt:=iW 51
abbrev A6:List Str:=["_law_links_here","_law_found","_law_left","_law_right","_law_many"]
abbrev NN:List Str:=["_law_links_here"]
theorem s_:bb A6 NN (aQ JD):=j'
abbrev JE:Stmt:=iW 52
abbrev yV:List Str:=["_law_tree_here","_law_place","_law_links_here","_law_sizes_here","_law_middle","_law_first"]
abbrev NO:List Str:=["_law_tree_here","_law_place"]
theorem tf:bb yV NO (aQ JE):=j'
abbrev JF:Stmt:=iW 53
abbrev wu:List Str:=["_law_tree_here","_law_place","_law_side","_law_other","_law_first","_law_middle","_law_left","_law_right","_law_top"]
abbrev NP:List Str:=["_law_tree_here","_law_place","_law_side","_law_other"]
theorem qX:bb wu NP (aQ JF):=j'
abbrev JG:Stmt:=iW 54
abbrev A7:List Str:=["_law_script","_law_sizes_here","_law_pool_here","_law_many","_law_names","_law_entries","_law_machine_here","_law_high"]
abbrev NQ:List Str:=["_law_script"]
theorem n9:bb A7 NQ (aQ JG):=j'
abbrev JH:Stmt:=iW 55
abbrev xW:List Str:=["_law_script","_law_k","_law_most","_law_tree_here","_law_pool_here","_law_draws_here","_law_other","_law_kind","_law_place"]
abbrev NR:List Str:=["_law_script","_law_k","_law_most","_law_tree_here","_law_pool_here"]
theorem xX:bb xW NR (aQ JH):=j'
abbrev JI:Stmt:=iW 56
abbrev xY:List Str:=["_law_tree_here","_law_deed","_law_branches","_law_marks_here"]
abbrev NS:List Str:=["_law_tree_here","_law_deed"]
theorem A8:bb xY NS (aQ JI):=j'
abbrev JJ:Stmt:=iW 57
abbrev A9:List Str:=["_law_kept","_law_deed"]
abbrev NT:List Str:=["_law_kept","_law_deed"]
theorem Qy:bb A9 NT (aQ JJ):=j'
abbrev JK:Stmt:=iW 58
abbrev yW:List Str:=["_law_kept","_law_machine_here","_law_tree_here","_law_turn","_law_k","_law_asked"]
abbrev NU:List Str:=["_law_kept","_law_machine_here","_law_tree_here","_law_turn"]
theorem Ey:bb yW NU (aQ JK):=j'
abbrev JL:Stmt:=iW 59
abbrev xZ:List Str:=["_law_kept","_law_deed","_law_told","e"]
abbrev NV:List Str:=["_law_kept","_law_deed"]
theorem x5:bb xZ NV (aQ JL):=j'
abbrev JM:Stmt:=iW 60
abbrev yX:List Str:=["_law_many"]
abbrev NW:List Str:=["_law_many"]
theorem Qz:bb yX NW (aQ JM):=j'
abbrev JN:Stmt:=iW 61
abbrev Ez:List Str:=["_law_script","_law_k","_law_tree_here","_law_past","_law_later","_law_none","_law_great","_law_gone","_law_size","_law_draws_here","_law_place","_law_side","_law_found","_law_at","_law_first","_law_middle","_law_old"]
abbrev NX:List Str:=["_law_script","_law_k","_law_tree_here","_law_past","_law_later"]
theorem kA:bb Ez NX (aQ JN):=j'
abbrev JO:Stmt:=iW 62
abbrev A_:List Str:=["_law_kept","_law_machine_here","_law_tree_here","_law_bad_here","_law_turn","_law_many","_law_deed","_law_due"]
abbrev NY:List Str:=["_law_kept","_law_machine_here","_law_tree_here","_law_bad_here","_law_turn"]
theorem A':bb A_ NY (aQ JO):=j'
abbrev JP:Stmt:=iW 63
abbrev vp:List Str:=["_law_kept","_law_machine_here","_law_tree_here","_law_first","_law_middle","_law_other"]
abbrev NZ:List Str:=["_law_kept","_law_machine_here","_law_tree_here"]
theorem Ba:bb vp NZ (aQ JP):=j'
abbrev uh:Stmt:=iW 64
abbrev Ui:List Str:=["_law_script","_law_machine_here","_law_tree_here","_law_pool_here","_law_kept","_law_past","_law_later","_law_k","_law_deed"]
abbrev JQ:List Str:=["_law_script"]
theorem k8:bb Ui JQ (aQ uh):=j'
structure Bl(mg:Str->Option Value):Prop where
 ValueError:mg "ValueError"=Option.none
 bool:mg "bool"=Option.none
 enumerate:mg "enumerate"=Option.none
 int:mg "int"=Option.none
 isinstance:mg "isinstance"=Option.none
 len:mg "len"=Option.none
 list:mg "list"=Option.none
 max:mg "max"=Option.none
 min:mg "min"=Option.none
 range:mg "range"=Option.none
 set:mg "set"=Option.none
 sorted:mg "sorted"=Option.none
 str:mg "str"=Option.none
 tuple:mg "tuple"=Option.none
 zip:mg "zip"=Option.none
def lD:W:=.int 100
structure Gc(K:Frag)(mg:Str->Option Value):Prop where
 MOST_PLACES:∃u v,mg "MOST_PLACES"=some u/\dN 0 v u/\∀μ H,b8 K μ H lD v
abbrev sA:List Str:=["TrunkError","NoPlace","TooGreat","NothingDone"]
def jQ:Str->Option Bool:=fun c=>if c="TrunkError" then some false else if c="NoPlace" then some true else if c="TooGreat" then some false else if c="NothingDone" then some false else none
def fU:Str->Option Bool:=fun c=>if c="TrunkError" then some false else if c="NoPlace" then some false else if c="TooGreat" then some false else if c="NothingDone" then some true else none
def i7:Str->Option Bool:=fun c=>if c="TrunkError" then some false else if c="NoPlace" then some false else if c="TooGreat" then some true else if c="NothingDone" then some false else none
def x6:Str->Option Bool:=fun c=>if c="TrunkError" then some false else if c="NoPlace" then some false else if c="TooGreat" then some false else if c="NothingDone" then some false else none
def gB:Str->Option Bool:=fun c=>if c="TrunkError" then some true else if c="NoPlace" then some true else if c="TooGreat" then some true else if c="NothingDone" then some true else none
theorem MB:bootBuiltins "ValueError"=some (.type "ValueError"):=by first|rfl|kernel_rfl|decide +kernel
structure Cls(K:Frag)(mg:Str->Option Value):Prop where
 TrunkError:IF K mg "TrunkError"
 NoPlace:IF K mg "NoPlace"
 TooGreat:IF K mg "TooGreat"
 NothingDone:IF K mg "NothingDone"
 isi_NoPlace:∃Ta,mg "NoPlace"=some (.ref Ta)/\Ej K mg (.ref Ta) jQ
 isi_NothingDone:∃Ta,mg "NothingDone"=some (.ref Ta)/\Ej K mg (.ref Ta) fU
 isi_TooGreat:∃Ta,mg "TooGreat"=some (.ref Ta)/\Ej K mg (.ref Ta) i7
 isi_t0:∃A0,∃A1,∃A2,∃A3,∃A4,∃A5,mg "NoTree"=some (.ref A0)/\mg "NoStatement"=some (.ref A1)/\mg "NoNumber"=some (.ref A2)/\mg "NoName"=some (.ref A3)/\mg "NoLine"=some (.ref A4)/\mg "NothingHeld"=some (.ref A5)/\IM K mg [A0,A1,A2,A3,A4,A5] x6
 isi_ValueError:Ej K mg (.type "ValueError") gB
 catch_TrunkError:IG K mg "TrunkError" sA
structure Ow(K:Frag)(mg:Str->Option Value):Prop where
 Kept:P7 K mg "Kept" ["machine","many","rooms","standing","taken_back","tree"]
section
variable{w:World}{f:Addr}
def Wx:FS:=(cM (Lf pZ (eC (.str [])) (af (tX (ah 0)) aA)))
def JR:List W->List ar->R W:=dq 1 Wx
theorem Uj(F:iU K "in_order" "in_order" Qf f fd)(B:Bl mg) :c9 P w K mg base #[52] 1 f fd T3 (iV K mg 1 JR):=
 bY (k:=0) F T4 rfl fun fE A outer s H E hr=>(aE (bn (Mi PySem.F.slot_str_join PySem.F.type_str_join wI dh (aa (GR B.sorted B.set (ae 0)) aq))))
def Uk:FS:=(aK (bf 2 (eI 0)) (aK (mP (hV (ah 0)) (jy 3) (aK (bf 2 (e2 iY (ah 2) (eI 2))) (fK (dO (e2 (Ho false) (ah 3) (ah 1))) (bf 2 (e2 cN (ah 2) (eI 1))) bW))) (cM (ah 2))))
def JS:List W->List ar->R W:=dq 4 Uk
theorem Ul(F:iU K "letter_of" "letter_of" Qg f fd)  :c9 P w K mg base #[52] 1 f fd T5 (iV K mg 2 JS):=
 bY (k:=0) F CD rfl fun fE A outer s H E hr=>(av (sS 2 CD aB) (av (iF (mR (ae 0)) (sG 3 CD) (av (sS 2 CD (bz jP (ae 2) aB)) (aE (cz (cb (Mg hr) (ae 3) (ae 1)) (aE (sS 2 CD (bz cD (ae 2) aB))) bX)))) (aE (bn (ae 2)))))
def Wy:FS:=(cM (e2 (Ho false) (e2 bB (ah 0) (eI 0)) (dC (af (eI 1) (af (eI 3) aA)))))
def Bb:List W->List ar->R W:=dq 1 Wy
theorem Um(F:iU K "has_left" "has_left" Qh f fd)  :c9 P w K mg base #[52] 1 f fd T6 (iV K mg 1 Bb):=
 bY (k:=0) F T7 rfl fun fE A outer s H E hr=>(aE (bn (tM (Mg hr) (bp (ae 0) aB) (cS (aa aB (aa aB aq))))))
def Wz:FS:=(cM (e2 (Ho false) (e2 bB (ah 0) (eI 0)) (dC (af (eI 2) (af (eI 3) aA)))))
def x8:List W->List ar->R W:=dq 1 Wz
theorem Uo(F:iU K "has_right" "has_right" Qi f fd)  :c9 P w K mg base #[52] 1 f fd T9 (iV K mg 1 x8):=
 bY (k:=0) F T_ rfl fun fE A outer s H E hr=>(aE (bn (tM (Mg hr) (bp (ae 0) aB) (cS (aa aB (aa aB aq))))))
def Uq:FS:=(aK (bf 1 (km aA)) (aK (bf 2 (km aA)) (aK (mP (sT (af (ah 0) aA)) (Ec 2 (eG (jy 3) (eG (jy 4) nG))) (aK (bf 5 (Hm (dO (b_ 1 x8 (af (ah 4) aA))) (kK oz (ah 2) aA) (eC .non))) (aK (bf 6 (Hm (dO (b_ 1 Bb (af (ah 4) aA))) (kK oz (ah 2) aA) (eC .non))) (aK (cU (kK bH (ah 2) (af (ah 3) aA))) (cU (kK bH (ah 1) (af (dC (af (ah 6) (af (ah 5) aA))) aA))))))) (cM (bw iX #[30])))))
def x9:List W->List ar->R W:=dq 7 Uq
theorem Ur(F:iU K "links_of" "links_of" Qj f fd)(B:Bl mg)(RT:bV P w K mg base 1 "has_left" 1 Bb)(He:bV P w K mg base 1 "has_right" 1 x8):c9 P w K mg base #[52] 2 f fd T' (iV K mg 1 x9):=
 bY (k:=1) F xO rfl fun fE A outer s H E hr=>(av (sS 1 xO (ii aq)) (av (sS 2 xO (ii aq)) (av (iF (FL B.enumerate (aa (ae 0) aq)) (lV rfl (dA (sG 3 xO) (dA (sG 4 xO) jE))) (av (sS 5 xO (D_ (jp (bO He hr #[0] (aa (ae 4) aq))) (sg PySem.F.slot_list_pop PySem.F.type_list_pop nY (ae 2)) qC)) (av (sS 6 xO (D_ (jp (bO RT hr #[0] (aa (ae 4) aq))) (sg PySem.F.slot_list_pop PySem.F.type_list_pop nY (ae 2)) qC)) (av (cy (kL PySem.F.slot_list_append PySem.F.type_list_append cC (ae 2) (aa (ae 3) aq))) (aE (cy (kL PySem.F.slot_list_append PySem.F.type_list_append cC (ae 1) (aa (cS (aa (ae 6) (aa (ae 5) aq))) aq)))))))) (aE (bn (fS kr B.tuple fw #[40]))))))
def QB:FS:=(aK (tP (kN [none] (hV (ah 0)) (jy 0) xy (eC .non)) (jy 1)) (aK (tP (kN [none] (hV (ah 0)) (jy 0) xy (eC .non)) (jy 2)) (aK (mP (sT (af (b_ 1 x9 (af (ah 0) aA)) aA)) (Ec 2 (eG (jy 3) (eG (jy 4) nG))) (aK (fK (dO (hU (e2 bB (ah 4) (eI 0)))) (Ci (ah 1) (e2 bB (ah 4) (eI 0)) (ah 3) sf) bW) (fK (dO (hU (e2 bB (ah 4) (eI 1)))) (Ci (ah 2) (e2 bB (ah 4) (eI 1)) (ah 3) sf) bW))) (cM (dC (af (ah 1) #[20]))))))
def JT:List W->List ar->R W:=dq 5 QB
theorem Us(F:iU K "ups_of" "ups_of" Ql f fd)(B:Bl mg)(wC:bV P w K mg base 2 "links_of" 1 x9):c9 P w K mg base #[52] 3 f fd Ua (iV K mg 1 JT):=
 bY (k:=2) F CG rfl fun fE A outer s H E hr=>(av (sR (sG 1 CG) (m:=0) (nm:=["place"]) (cap:=[none]) (by first|rfl|kernel_rfl) rfl (mR (ae 0)) (fun _ _ _ _ _=>(sC 0)) (fun _ _ _ _ _=>tV) (fun _ _ _ _ _=>qC)) (av (sR (sG 2 CG) (m:=0) (nm:=["place"]) (cap:=[none]) (by first|rfl|kernel_rfl) rfl (mR (ae 0)) (fun _ _ _ _ _=>(sC 0)) (fun _ _ _ _ _=>tV) (fun _ _ _ _ _=>qC)) (av (iF (FL B.enumerate (aa (bO wC hr #[0] (aa (ae 0) aq)) aq)) (lV rfl (dA (sG 3 CG) (dA (sG 4 CG) jE))) (av (cz (jf (bp (ae 4) aB)) (aE (Ee Ed (ae 3) (ae 1) (bp (ae 4) aB))) bX) (aE (cz (jf (bp (ae 4) aB)) (aE (Ee Ed (ae 3) (ae 2) (bp (ae 4) aB))) bX)))) (aE (bn (cS (aa (ae 1) #[35])))))))
def WA:FS:=(cM (Hm (dO (hU (e2 bB (e2 bB (ah 0) (eI 0)) (ah 1)))) (e2 bB (e2 bB (ah 0) (eI 0)) (ah 1)) (e2 bB (e2 bB (ah 0) (eI 1)) (ah 1))))
def GZ:List W->List ar->R W:=dq 2 WA
theorem Ut(F:iU K "up_from" "up_from" Qm f fd)  :c9 P w K mg base #[52] 1 f fd Ub (iV K mg 2 GZ):=
 bY (k:=0) F Uc rfl fun fE A outer s H E hr=>(aE (bn (D_ (jf (bp (bp (ae 0) aB) (ae 1))) (bp (bp (ae 0) aB) (ae 1)) (bp (bp (ae 0) aB) (ae 1)))))
def Uu:FS:=(aK (bf 1 (km aA)) (aK (mP (hV (b_ 1 x9 (af (ah 0) aA))) (Ec 2 (eG (jy 2) (eG (jy 3) nG))) (aK (bf 4 (eI 1)) #[76])) (cM (bw iX #[30]))))
def EA:List W->List ar->R W:=dq 5 Uu
theorem Uv(F:iU K "sizes_of" "sizes_of" Qn f fd)(B:Bl mg)(wC:bV P w K mg base 2 "links_of" 1 x9):c9 P w K mg base #[52] 3 f fd Ud (iV K mg 1 EA):=
 bY (k:=2) F xP rfl fun fE A outer s H E hr=>(av (sS 1 xP (ii aq)) (av (iF (mR (bO wC hr #[0] (aa (ae 0) aq))) (lV rfl (dA (sG 2 xP) (dA (sG 3 xP) jE))) (av (sS 4 xP aB) (av (cz (jf (ae 2)) (aE (sS 4 xP (bz cD (ae 4) (bp (ae 1) (ae 2))))) bX) (av (cz (jf (ae 3)) (aE (sS 4 xP (bz cD (ae 4) (bp (ae 1) (ae 3))))) bX) (aE (cy (kL PySem.F.slot_list_append PySem.F.type_list_append cC (ae 1) (aa (ae 4) aq)))))))) (aE (bn (fS kr B.tuple fw #[40])))))
def QC:FS:=(fK (GJ (dO (e2 PP (ah 1) (eI 0))) (dO (e2 PQ (ah 1) #[58]))) (sU "NoPlace") bW)
def yY:List W->List ar->R W:=dq 2 QC
theorem Uw(F:iU K "check_place" "check_place" Qo f fd)(B:Bl mg)(C:Cls K mg) :c9 P w K mg base #[52] 1 f fd Ue (iV K mg 2 yY):=
 bY (k:=0) F Uf rfl fun fE A outer s H E hr=>(aE (cz (xn (Cb (cb w_lt (ae 1) aB) (xl (cb Me (ae 1) #[56])))) (aE (tY C.NoPlace)) bX))
def JU:FS:=(fK (dO (e2 yF (ah 0) (eC lD))) (sU "TooGreat") bW)
def EB:List W->List ar->R W:=dq 1 JU
theorem Ux(F:iU K "check_size" "check_size" Qp f fd)(G:Gc K mg)(C:Cls K mg) :c9 P w K mg base #[52] 1 f fd Ug (iV K mg 1 EB):=
 bY (k:=0) F Uh rfl fun fE A outer s H E hr=>(aE (cz (cb u4 (ae 0) (Wp G.MOST_PLACES)) (aE (tY C.TooGreat)) bX))
def JV:FS:=(aK (cU (b_ 2 yY (af (ah 0) #[30]))) (cM (sQ (ah 0) (fz (e2 g9 (e2 cN (ah 1) (eI 1)) (e2 bB (b_ 1 EA (af (ah 0) aA)) (ah 1)))) (fz (e2 cN (ah 1) (eI 1))))))
def v5:List W->List ar->R W:=dq 2 JV
theorem QD(F:iU K "part_at" "part_at" Jb f fd) (BA:bV P w K mg base 1 "check_place" 2 yY)(Hj:bV P w K mg base 3 "sizes_of" 1 EA):c9 P w K mg base #[52] 4 f fd Nq (iV K mg 2 v5):=
 bY (k:=3) F Qq rfl fun fE A outer s H E hr=>(av (cy (bO BA hr #[0] (aa (ae 0) #[40]))) (aE (bn (mO (ae 0) (dP (bz iJ (bz cD (ae 1) aB) (bp (bO Hj hr #[0] (aa (ae 0) aq)) (ae 1)))) (dP (bz cD (ae 1) aB))))))
def JW:FS:=(aK (bf 2 (sQ (b_ 2 v5 (af (ah 0) #[30])) ik (fz (xz (eI 1))))) (aK (bf 3 (eI 0)) (aK (fK (dO (b_ 1 x8 (af (e2 bB (ah 0) (ah 1)) aA))) (bf 3 (e2 bB (b_ 1 EA (af (ah 0) aA)) (e2 g9 (ah 1) (eI 1)))) bW) (aK (bf 4 (e2 g9 (bw dm #[20]) (ah 3))) (cM (dC (af (sQ (ah 2) ik (fz (ah 4))) (af (sQ (ah 2) (fz (ah 4)) ik) aA))))))))
def qY:List W->List ar->R W:=dq 5 JW
theorem QF(F:iU K "branches_at" "branches_at" Jc f fd)(B:Bl mg)(He:bV P w K mg base 1 "has_right" 1 x8)(K':bV P w K mg base 4 "part_at" 2 v5)(Hj:bV P w K mg base 3 "sizes_of" 1 EA):c9 P w K mg base #[52] 5 f fd Nr (iV K mg 2 qY):=
 bY (k:=4) F xQ rfl fun fE A outer s H E hr=>(av (sS 2 xQ (mO (bO K' hr #[0] (aa (ae 0) #[40])) fJ (dP (xA aB)))) (av (sS 3 xQ aB) (av (cz (jp (bO He hr #[0] (aa (bp (ae 0) (ae 1)) aq))) (aE (sS 3 xQ (bp (bO Hj hr #[0] (aa (ae 0) aq)) (bz iJ (ae 1) aB)))) bX) (av (sS 4 xQ (bz iJ (bM dF B.len bE #[35]) (ae 3))) (aE (bn (cS (aa (mO (ae 2) fJ (dP (ae 4))) (aa (mO (ae 2) (dP (ae 4)) fJ) aq)))))))))
def N0:FS:=(aK (bf 3 (eI 0)) (aK (fK (dO (e2 yF #[58] (eI 0))) (bf 3 (e2 cN (ah 3) (eI 1))) bW) (aK (fK (dO (e2 yF (bw dm #[30]) (eI 0))) (bf 3 (e2 cN (ah 3) (eI 2))) bW) (cM (e2 cN (e2 cN (ah 0) (ah 1)) (dC (af (dC (af (ah 3) #[20])) aA)))))))
def CP:List W->List ar->R W:=dq 4 N0
theorem QH(F:iU K "with_top" "with_top" Jd f fd)(B:Bl mg) :c9 P w K mg base #[52] 1 f fd Nt (iV K mg 3 CP):=
 bY (k:=0) F AM rfl fun fE A outer s H E hr=>(av (sS 3 AM aB) (av (cz (cb u4 #[56] aB) (aE (sS 3 AM (bz cD (ae 3) aB))) bX) (av (cz (cb u4 (bM dF B.len bE #[40]) aB) (aE (sS 3 AM (bz cD (ae 3) aB))) bX) (aE (bn (bz cD (bz cD (ae 0) (ae 1)) (cS (aa (cS (aa (ae 3) #[35])) aq))))))))
def CQ:FS:=(aK (bf 4 (b_ 2 qY (af (ah 0) #[30]))) (aK (bf 5 (Hm (dO (e2 iK (ah 2) (eC #[53]))) (ah 3) (e2 bB (ah 4) (eI 0)))) (aK (bf 6 (Hm (dO (e2 iK (ah 2) (eC (.str [114,105,103,104,116])))) (ah 3) (e2 bB (ah 4) (eI 1)))) (aK (bf 7 (e2 g9 (e2 g9 (ah 1) (bw dm (af (e2 bB (ah 4) (eI 0)) aA))) (bw dm (af (e2 bB (ah 4) (eI 1)) aA)))) (aK (bf 8 (e2 cN (e2 cN (sQ (ah 0) ik (fz (ah 7))) (b_ 3 CP (af (ah 5) (af (ah 6) (af (e2 bB (e2 bB (ah 0) (ah 1)) (eI 1)) aA))))) (sQ (ah 0) (fz (e2 cN (ah 1) (eI 1))) ik))) (aK (cU (b_ 1 EB (af (bw dm (af (ah 8) aA)) aA))) (cM (ah 8))))))))
def v7:List W->List ar->R W:=dq 9 CQ
theorem QJ(F:iU K "branch_put" "branch_put" Je f fd)(B:Bl mg)(yu:bV P w K mg base 5 "branches_at" 2 qY)(RW:bV P w K mg base 1 "check_size" 1 EB)(K7:bV P w K mg base 1 "with_top" 3 CP):c9 P w K mg base #[52] 6 f fd Nu (iV K mg 4 v7):=
 bY (k:=5) F vf rfl fun fE A outer s H E hr=>(av (sS 4 vf (bO yu hr #[0] (aa (ae 0) #[40]))) (av (sS 5 vf (D_ (cb (g_ hr) (ae 2) dh) (ae 3) (bp (ae 4) aB))) (av (sS 6 vf (D_ (cb (g_ hr) (ae 2) dh) (ae 3) (bp (ae 4) aB))) (av (sS 7 vf (bz iJ (bz iJ (ae 1) (bM dF B.len bE (aa (bp (ae 4) aB) aq))) (bM dF B.len bE (aa (bp (ae 4) aB) aq)))) (av (sS 8 vf (bz cD (bz cD (mO (ae 0) fJ (dP (ae 7))) (bO K7 hr #[0] (aa (ae 5) (aa (ae 6) (aa (bp (bp (ae 0) (ae 1)) aB) aq))))) (mO (ae 0) (dP (bz cD (ae 1) aB)) fJ))) (av (cy (bO RW hr #[0] (aa (bM dF B.len bE (aa (ae 8) aq)) aq))) (aE (bn (ae 8)))))))))
def Uy:FS:=(cM (Hm (dO (Av (ah 1))) (eI 0) (e2 bB (ah 0) (ah 1))))
def zH:List W->List ar->R W:=dq 2 Uy
theorem QK(F:iU K "room_below" "room_below" Jf f fd)  :c9 P w K mg base #[52] 1 f fd Nv (iV K mg 2 zH):=
 bY (k:=0) F Qr rfl fun fE A outer s H E hr=>(aE (bn (D_ (D' (ae 1)) aB (bp (ae 0) (ae 1)))))
def Uz:FS:=(aK (bf 4 (e2 bB (e2 bB (ah 0) (eI 2)) (b_ 2 JS (af (e2 bB (ah 0) (eI 0)) #[30])))) (cM (e2 bB (e2 bB (ah 4) (b_ 2 zH (af (ah 3) (af (e2 bB (ah 2) (eI 0)) aA)))) (b_ 2 zH (af (ah 3) (af (e2 bB (ah 2) (eI 1)) aA))))))
def ui:List W->List ar->R W:=dq 5 Uz
theorem QL(F:iU K "room_at" "room_at" Jg f fd) (RI:bV P w K mg base 1 "letter_of" 2 JS)(F9:bV P w K mg base 1 "room_below" 2 zH):c9 P w K mg base #[52] 2 f fd Nw (iV K mg 4 ui):=
 bY (k:=1) F Jh rfl fun fE A outer s H E hr=>(av (sS 4 Jh (bp (bp (ae 0) aB) (bO RI hr #[0] (aa (bp (ae 0) aB) #[40])))) (aE (bn (bp (bp (ae 4) (bO F9 hr #[0] (aa (ae 3) (aa (bp (ae 2) aB) aq)))) (bO F9 hr #[0] (aa (ae 3) (aa (bp (ae 2) aB) aq)))))))
def N1:FS:=(aK (bf 2 (km aA)) (aK (mP (AD (af (ah 1) (af (b_ 1 x9 #[30]) aA))) (Ec 2 (eG (jy 3) (eG (jy 4) nG))) (cU (kK bH (ah 2) (af (b_ 4 ui (af (ah 0) (af (e2 bB (ah 3) (eI 1)) (af (ah 4) #[20])))) aA)))) (cM (bw iX #[20]))))
def qd:List W->List ar->R W:=dq 5 N1
theorem QM(F:iU K "rooms_of" "rooms_of" Ji f fd)(B:Bl mg)(wC:bV P w K mg base 2 "links_of" 1 x9)(Ab:bV P w K mg base 2 "room_at" 4 ui):c9 P w K mg base #[52] 3 f fd Nx (iV K mg 2 qd):=
 bY (k:=2) F AQ rfl fun fE A outer s H E hr=>(av (sS 2 AQ (ii aq)) (av (iF (Mv B.zip (aa (ae 1) (aa (bO wC hr #[0] #[40]) aq))) (lV rfl (dA (sG 3 AQ) (dA (sG 4 AQ) jE))) (aE (cy (kL PySem.F.slot_list_append PySem.F.type_list_append cC (ae 2) (aa (bO Ab hr #[0] (aa (ae 0) (aa (bp (ae 3) aB) (aa (ae 4) #[35])))) aq))))) (aE (bn (fS kr B.tuple fw #[35])))))
def UA:FS:=(cM (dC (af (e2 bB (ah 0) (eI 2)) (af (e2 bB (ah 0) (eI 3)) (af (e2 bB (ah 0) (eI 0)) (af (e2 bB (ah 0) (eI 1)) (af (e2 bB (ah 0) (eI 4)) aA)))))))
def CS:List W->List ar->R W:=dq 1 UA
theorem QN(F:iU K "turned" "turned" Jj f fd)  :c9 P w K mg base #[52] 1 f fd Ny (iV K mg 1 CS):=
 bY (k:=0) F Qs rfl fun fE A outer s H E hr=>(aE (bn (cS (aa (bp (ae 0) aB) (aa (bp (ae 0) aB) (aa (bp (ae 0) aB) (aa (bp (ae 0) aB) (aa (bp (ae 0) aB) aq))))))))
def UB:FS:=(cM (e2 cN (e2 cN (sQ (ah 0) ik (fz (ah 1))) (dC (af (dC (af (e2 bB (e2 bB (ah 0) (ah 1)) (eI 0)) #[20])) aA))) (sQ (ah 0) (fz (e2 cN (ah 1) (eI 1))) ik)))
def CT:List W->List ar->R W:=dq 3 UB
theorem QO(F:iU K "with_marks" "with_marks" Jl f fd)  :c9 P w K mg base #[52] 1 f fd Nz (iV K mg 3 CT):=
 bY (k:=0) F Qt rfl fun fE A outer s H E hr=>(aE (bn (bz cD (bz cD (mO (ae 0) fJ (dP (ae 1))) (cS (aa (cS (aa (bp (bp (ae 0) (ae 1)) aB) #[35])) aq))) (mO (ae 0) (dP (bz cD (ae 1) aB)) fJ))))
def UC:FS:=(aK (bf 3 (b_ 2 qY (af (e2 bB (ah 2) (eI 0)) (af (e2 bB (ah 2) (eI 1)) aA)))) (aK (bf 4 (b_ 2 qY (af (e2 bB (ah 2) (eI 2)) (af (e2 bB (ah 2) (eI 3)) aA)))) (aK (bf 5 (e2 g9 (e2 g9 (e2 bB (ah 2) (eI 1)) (bw dm (af (e2 bB (ah 3) (eI 0)) aA))) (bw dm (af (e2 bB (ah 3) (eI 1)) aA)))) (aK (bf 6 (e2 cN (ah 5) (bw dm (af (e2 bB (ah 3) (eI 0)) aA)))) (aK (fK (dO (e2 iK (e2 bB (ah 2) (eI 4)) (eC #[53]))) (aK (bf 7 (b_ 2 qd (af (ah 0) (af (e2 bB (ah 4) (eI 0)) aA)))) (cM (dC (af (e2 cN (e2 cN (sQ (ah 1) ik (fz (ah 5))) (ah 7)) (sQ (ah 1) (fz (ah 6)) ik)) (af (bw dm (af (ah 7) aA)) aA))))) bW) (aK (bf 7 (b_ 2 qd (af (ah 0) (af (e2 bB (ah 4) (eI 1)) aA)))) (cM (dC (af (e2 cN (e2 cN (sQ (ah 1) ik (fz (ah 6))) (ah 7)) (sQ (ah 1) (fz (e2 bB (ah 2) (eI 1))) ik)) (af (bw dm (af (ah 7) aA)) aA))))))))))
def zI:List W->List ar->R W:=dq 8 UC
theorem QP(F:iU K "branch_rooms" "branch_rooms" Jm f fd)(B:Bl mg)(yu:bV P w K mg base 5 "branches_at" 2 qY)(sF:bV P w K mg base 3 "rooms_of" 2 qd):c9 P w K mg base #[52] 6 f fd NA (iV K mg 3 zI):=
 bY (k:=5) F sY rfl fun fE A outer s H E hr=>(av (sS 3 sY (bO yu hr #[0] (aa (bp (ae 2) aB) (aa (bp (ae 2) aB) aq)))) (av (sS 4 sY (bO yu hr #[0] (aa (bp (ae 2) aB) (aa (bp (ae 2) aB) aq)))) (av (sS 5 sY (bz iJ (bz iJ (bp (ae 2) aB) (bM dF B.len bE (aa (bp (ae 3) aB) aq))) (bM dF B.len bE (aa (bp (ae 3) aB) aq)))) (av (sS 6 sY (bz cD (ae 5) (bM dF B.len bE (aa (bp (ae 3) aB) aq)))) (av (cz (cb (g_ hr) (bp (ae 2) aB) dh) (av (sS 7 sY (bO sF hr #[0] (aa (ae 0) (aa (bp (ae 4) aB) aq)))) (aE (bn (cS (aa (bz cD (bz cD (mO (ae 1) fJ (dP (ae 5))) (ae 7)) (mO (ae 1) (dP (ae 6)) fJ)) (aa (bM dF B.len bE (aa (ae 7) aq)) aq)))))) bX) (av (sS 7 sY (bO sF hr #[0] (aa (ae 0) (aa (bp (ae 4) aB) aq)))) (aE (bn (cS (aa (bz cD (bz cD (mO (ae 1) fJ (dP (ae 6))) (ae 7)) (mO (ae 1) (dP (bp (ae 2) aB)) fJ)) (aa (bM dF B.len bE (aa (ae 7) aq)) aq)))))))))))
def UD:FS:=(aK (bf 4 (b_ 1 x9 #[30])) (aK (bf 5 (b_ 1 JT #[30])) (aK (bf 6 (bw zv #[20])) (aK (bf 7 (eI 0)) (aK (bf 8 (ah 3)) (aK (qH (dO (hU (ah 8))) #[72]) (cM (dC (af (bw iX (af (ah 6) aA)) (af (ah 7) aA))))))))))
def CU:List W->List ar->R W:=dq 10 UD
theorem QQ(F:iU K "climbed" "climbed" Jn f fd)(B:Bl mg)(wC:bV P w K mg base 2 "links_of" 1 x9)(Ab:bV P w K mg base 2 "room_at" 4 ui)(RQ:bV P w K mg base 1 "up_from" 2 GZ)(RU:bV P w K mg base 3 "ups_of" 1 JT):c9 P w K mg base #[52] 4 f fd NB (iV K mg 4 CU):=
 bY (k:=3) F ph rfl fun fE A outer s H E hr=>(av (sS 4 ph (bO wC hr #[0] #[40])) (av (sS 5 ph (bO RU hr #[0] #[40])) (av (sS 6 ph (fS PR B.list boot_list #[35])) (av (sS 7 ph aB) (av (sS 8 ph (ae 3)) (av (Ck (jf (ae 8)) (av (sS 9 ph (bO Ab hr #[0] (aa (ae 0) (aa (bp (bp (ae 1) (ae 8)) aB) (aa (bp (ae 4) (ae 8)) (aa (ae 6) aq)))))) (av (sS 7 ph (bz cD (ae 7) aB)) (av (cz (cb (g_ hr) (ae 9) (bp (ae 6) (ae 8))) (aE Iy) bX) (av (Ee Ed (ae 9) (ae 6) (ae 8)) (aE (sS 8 ph (bO RQ hr #[0] (aa (ae 5) (aa (ae 8) aq)))))))))) (aE (bn (cS (aa (fS kr B.tuple fw (aa (ae 6) aq)) (aa (ae 7) aq)))))))))))
def qe:FS:=(aK (qJ "Kept" "machine" (ah 0) (ah 1)) (aK (qJ "Kept" "tree" (ah 0) (ah 2)) (aK (qJ "Kept" "rooms" (ah 0) (b_ 2 qd (af (ah 1) #[20]))) (aK (qJ "Kept" "many" (ah 0) (bw dm #[20])) (aK (qJ "Kept" "standing" (ah 0) (km aA)) (qJ "Kept" "taken_back" (ah 0) (km aA)))))))
def ip:List W->List ar->R W:=dq 3 qe
theorem vq(F:iU K "__init__" "Kept.__init__" lZ f fd)(B:Bl mg)(O:Ow K mg)(sF:bV P w K mg base 3 "rooms_of" 2 qd):c9 P w K mg base #[52] 4 f fd p6 (iV K mg 3 ip):=
 bY (k:=3) F vg rfl fun fE A outer s H E hr=>(av (lX O.Kept (ae 0) (ae 1)) (av (lX O.Kept (ae 0) (ae 2)) (av (lX O.Kept (ae 0) (bO sF hr #[0] (aa (ae 1) #[35]))) (av (lX O.Kept (ae 0) (bM dF B.len bE #[35])) (av (lX O.Kept (ae 0) (ii aq)) (aE (lX O.Kept (ae 0) (ii aq))))))))
def k9:FS:=(aK (fK (dO (Av #[57])) (aK (qJ "Kept" "rooms" (ah 0) (b_ 2 qd (af (jg "Kept" "machine" (ah 0)) (af #[47] aA)))) (qJ "Kept" "many" (ah 0) (bw dm (af #[47] aA)))) (aK (bf 2 (dC (af (jg "Kept" "rooms" (ah 0)) (af (eI 0) aA)))) (aK (fK (dO (hU (e2 bB (ah 1) (eI 4)))) (bf 2 (b_ 3 zI (af (jg "Kept" "machine" (ah 0)) (af (jg "Kept" "rooms" (ah 0)) #[30])))) bW) (aK (bf 3 (b_ 4 CU (af (jg "Kept" "machine" (ah 0)) (af #[47] (af (e2 bB (ah 2) (eI 0)) (af (e2 bB (ah 1) (eI 3)) aA)))))) (aK (qJ "Kept" "rooms" (ah 0) (e2 bB (ah 3) (eI 0))) (qJ "Kept" "many" (ah 0) (e2 cN (e2 bB (ah 2) (eI 1)) (e2 bB (ah 3) (eI 1))))))))) (qJ "Kept" "tree" (ah 0) #[47]))
def dQ:List W->List ar->R W:=dq 4 k9
theorem uj(F:iU K "carry_out" "Kept.carry_out" kZ f fd)(B:Bl mg)(O:Ow K mg)(K1:bV P w K mg base 6 "branch_rooms" 3 zI)(KI:bV P w K mg base 4 "climbed" 4 CU)(sF:bV P w K mg base 3 "rooms_of" 2 qd):c9 P w K mg base #[52] 7 f fd oH (iV K mg 2 dQ):=
 bY (k:=6) F iN rfl fun fE A outer s H E hr=>(av (cz (D' #[23]) (av (lX O.Kept (ae 0) (bO sF hr #[0] (aa #[17] (aa #[23] aq)))) (aE (lX O.Kept (ae 0) (bM dF B.len bE (aa #[23] aq))))) (av (sS 2 iN (cS (aa #[17] (aa aB aq)))) (av (cz (jf #[23]) (aE (sS 2 iN (bO K1 hr #[0] (aa #[17] (aa #[17] #[40]))))) bX) (av (sS 3 iN (bO KI hr #[0] (aa #[17] (aa #[23] (aa (bp (ae 2) aB) (aa #[23] aq)))))) (av (lX O.Kept (ae 0) (bp (ae 3) aB)) (aE (lX O.Kept (ae 0) (bz cD (bp (ae 2) aB) (bp (ae 3) aB))))))))) (aE (lX O.Kept (ae 0) #[23])))
def qZ:FS:=(aK (cU (il "Kept" "carry_out" 2 dQ (ah 0) #[30])) (aK (cU (kK bH (jg "Kept" "standing" (ah 0)) #[30])) (qJ "Kept" "taken_back" (ah 0) (km aA))))
def eK:List W->List ar->R W:=dq 2 qZ
theorem ww(F:iU K "do_deed" "Kept.do_deed" mU f fd)(O:Ow K mg)(dR:iG P w K mg base 7 "Kept" "carry_out" 2 dQ):c9 P w K mg base #[52] 8 f fd qN (iV K mg 2 eK):=
 bY (k:=7) F wm rfl fun fE A outer s H E hr=>(av (cy (lY dR hr #[0] (ae 0) #[40])) (av (cy (kL PySem.F.slot_list_append PySem.F.type_list_append cC #[17] #[40])) (aE (lX O.Kept (ae 0) (ii aq)))))
def vt:FS:=(cU (il "Kept" "do_deed" 2 eK (ah 0) (af (dC (af #[62] (af (ah 1) (af (b_ 3 CT (af #[62] (af (ah 1) #[20]))) (af (ah 1) (af (eC .non) aA)))))) aA)))
def fm:List W->List ar->R W:=dq 3 vt
theorem uk(F:iU K "mark_deed" "Kept.mark_deed" k6 f fd)(O:Ow K mg)(eQ:iG P w K mg base 8 "Kept" "do_deed" 2 eK)(KP:bV P w K mg base 1 "with_marks" 3 CT):c9 P w K mg base #[52] 9 f fd oI (iV K mg 3 fm):=
 bY (k:=8) F uc rfl fun fE A outer s H E hr=>(aE (cy (lY eQ hr #[0] (ae 0) (aa (cS (aa #[17] (aa (ae 1) (aa (bO KP hr #[0] (aa #[17] (aa (ae 1) #[35]))) (aa (ae 1) (aa qC aq)))))) aq))))
def x_:FS:=(aK (cU (b_ 2 yY (af #[62] #[30]))) (cU (il "Kept" "mark_deed" 3 fm (ah 0) (af (ah 1) (af (b_ 1 JR (af (e2 cN (e2 bB (e2 bB #[62] (ah 1)) (eI 1)) (ah 2)) aA)) aA)))))
def jR:List W->List ar->R W:=dq 3 x_
theorem CV(F:iU K "put" "Kept.put" sZ f fd)(O:Ow K mg)(fQ:iG P w K mg base 9 "Kept" "mark_deed" 3 fm)(BA:bV P w K mg base 1 "check_place" 2 yY)(RL:bV P w K mg base 1 "in_order" 1 JR):c9 P w K mg base #[52] 10 f fd xU (iV K mg 3 jR):=
 bY (k:=9) F CH rfl fun fE A outer s H E hr=>(av (cy (bO BA hr #[0] (aa #[17] #[40]))) (aE (cy (lY fQ hr #[0] (ae 0) (aa (ae 1) (aa (bO RL hr #[0] (aa (bz cD (bp (bp #[17] (ae 1)) aB) (ae 2)) aq)) aq))))))
def v8:FS:=(aK (cU (b_ 2 yY (af #[62] #[30]))) (cU (il "Kept" "mark_deed" 3 fm (ah 0) (af (ah 1) (af (FU (e2 bB (e2 bB #[62] (ah 1)) (eI 1)) (ah 2)) aA)))))
def i8:List W->List ar->R W:=dq 3 v8
theorem Bc(F:iU K "take" "Kept.take" qR f fd)(O:Ow K mg)(fQ:iG P w K mg base 9 "Kept" "mark_deed" 3 fm)(BA:bV P w K mg base 1 "check_place" 2 yY):c9 P w K mg base #[52] 10 f fd v0 (iV K mg 3 i8):=
 bY (k:=9) F AS rfl fun fE A outer s H E hr=>(av (cy (bO BA hr #[0] (aa #[17] #[40]))) (aE (cy (lY fQ hr #[0] (ae 0) (aa (ae 1) (aa (Qd (bp (bp #[17] (ae 1)) aB) (ae 2)) aq))))))
def sB:FS:=(aK (bf 4 (b_ 4 v7 (af #[62] (af (ah 1) (af (ah 2) (af (ah 3) aA)))))) (cU (il "Kept" "do_deed" 2 eK (ah 0) (af (dC (af #[62] (af (ah 1) (af (ah 4) (af (e2 g9 (e2 cN (ah 1) (bw dm (af (ah 4) aA))) (bw dm (af #[62] aA))) #[20]))))) aA))))
def gC:List W->List ar->R W:=dq 5 sB
theorem ya(F:iU K "branch" "Kept.branch" n6 f fd)(B:Bl mg)(O:Ow K mg)(eQ:iG P w K mg base 8 "Kept" "do_deed" 2 eK)(K6:bV P w K mg base 6 "branch_put" 4 v7):c9 P w K mg base #[52] 9 f fd sw (iV K mg 4 gC):=
 bY (k:=8) F qS rfl fun fE A outer s H E hr=>(av (sS 4 qS (bO K6 hr #[0] (aa #[17] (aa (ae 1) (aa (ae 2) (aa (ae 3) aq)))))) (aE (cy (lY eQ hr #[0] (ae 0) (aa (cS (aa #[17] (aa (ae 1) (aa (ae 4) (aa (bz iJ (bz cD (ae 1) (bM dF B.len bE (aa (ae 4) aq))) (bM dF B.len bE (aa #[17] aq))) #[35]))))) aq)))))
def Be:FS:=(cU (il "Kept" "do_deed" 2 eK (ah 0) (af (dC (af #[62] (af (eC .non) (af (ah 1) (af (eC .non) (af (eC .non) aA)))))) aA)))
def ji:List W->List ar->R W:=dq 2 Be
theorem yZ(F:iU K "whole" "Kept.whole" pi f fd)(O:Ow K mg)(eQ:iG P w K mg base 8 "Kept" "do_deed" 2 eK):c9 P w K mg base #[52] 9 f fd ud (iV K mg 2 ji):=
 bY (k:=8) F yT rfl fun fE A outer s H E hr=>(aE (cy (lY eQ hr #[0] (ae 0) (aa (cS (aa #[17] (aa qC (aa (ae 1) (aa qC (aa qC aq)))))) aq))))
def q5:FS:=(aK (fK (dO (e2 iK (bw dm (af (jg "Kept" "standing" (ah 0)) aA)) (eI 0))) (sU "NothingDone") bW) (aK (bf 1 (kK oz (jg "Kept" "standing" (ah 0)) aA)) (aK (cU (il "Kept" "carry_out" 2 dQ (ah 0) (af (b_ 1 CS #[30]) aA))) (cU (kK bH (jg "Kept" "taken_back" (ah 0)) #[30])))))
def i9:List W->List ar->R W:=dq 2 q5
theorem Bf(F:iU K "back" "Kept.back" qT f fd)(B:Bl mg)(C:Cls K mg)(O:Ow K mg)(dR:iG P w K mg base 7 "Kept" "carry_out" 2 dQ)(Lc:bV P w K mg base 1 "turned" 1 CS):c9 P w K mg base #[52] 8 f fd v3 (iV K mg 1 i9):=
 bY (k:=7) F ue rfl fun fE A outer s H E hr=>(av (cz (cb (g_ hr) (bM dF B.len bE (aa #[17] aq)) aB) (aE (tY C.NothingDone)) bX) (av (sS 1 ue (sg PySem.F.slot_list_pop PySem.F.type_list_pop nY #[17])) (av (cy (lY dR hr #[0] (ae 0) (aa (bO Lc hr #[0] #[40]) aq))) (aE (cy (kL PySem.F.slot_list_append PySem.F.type_list_append cC #[17] #[40]))))))
def pz:FS:=(aK (fK (dO (e2 iK (bw dm (af (jg "Kept" "taken_back" (ah 0)) aA)) (eI 0))) (sU "NothingDone") bW) (aK (bf 1 (kK oz (jg "Kept" "taken_back" (ah 0)) aA)) (aK (cU (il "Kept" "carry_out" 2 dQ (ah 0) #[30])) (cU (kK bH (jg "Kept" "standing" (ah 0)) #[30])))))
def ib:List W->List ar->R W:=dq 2 pz
theorem y0(F:iU K "again" "Kept.again" pw f fd)(B:Bl mg)(C:Cls K mg)(O:Ow K mg)(dR:iG P w K mg base 7 "Kept" "carry_out" 2 dQ):c9 P w K mg base #[52] 8 f fd uf (iV K mg 1 ib):=
 bY (k:=7) F sy rfl fun fE A outer s H E hr=>(av (cz (cb (g_ hr) (bM dF B.len bE (aa #[17] aq)) aB) (aE (tY C.NothingDone)) bX) (av (sS 1 sy (sg PySem.F.slot_list_pop PySem.F.type_list_pop nY #[17])) (av (cy (lY dR hr #[0] (ae 0) #[40])) (aE (cy (kL PySem.F.slot_list_append PySem.F.type_list_append cC #[17] #[40]))))))
def wz:FS:=(cM #[62])
def iq:List W->List ar->R W:=dq 1 wz
theorem vw(F:iU K "tree_now" "Kept.tree_now" l9 f fd)(O:Ow K mg) :c9 P w K mg base #[52] 1 f fd p9 (iV K mg 1 iq):=
 bY (k:=0) F vj rfl fun fE A outer s H E hr=>(aE (bn #[17]))
def vx:FS:=(cM (jg "Kept" "rooms" (ah 0)))
def gU:List W->List ar->R W:=dq 1 vx
theorem ul(F:iU K "rooms_now" "Kept.rooms_now" k7 f fd)(O:Ow K mg) :c9 P w K mg base #[52] 1 f fd oJ (iV K mg 1 gU):=
 bY (k:=0) F ug rfl fun fE A outer s H E hr=>(aE (bn #[17]))
def wA:FS:=(cM (e2 bB (e2 bB (jg "Kept" "machine" (ah 0)) (eI 1)) (Hm (dO (e2 yF (bw dm (af (jg "Kept" "rooms" (ah 0)) aA)) (eI 0))) (e2 bB (jg "Kept" "rooms" (ah 0)) (xz (eI 1))) (eI 0))))
def iu:List W->List ar->R W:=dq 1 wA
theorem vy(F:iU K "lets_now" "Kept.lets_now" l_ f fd)(B:Bl mg)(O:Ow K mg) :c9 P w K mg base #[52] 1 f fd p_ (iV K mg 1 iu):=
 bY (k:=0) F vm rfl fun fE A outer s H E hr=>(aE (bn (bp (bp #[17] aB) (D_ (cb u4 (bM dF B.len bE (aa #[17] aq)) aB) (bp #[17] (xA aB)) aB))))
def wB:FS:=(cM (jg "Kept" "many" (ah 0)))
def gk:List W->List ar->R W:=dq 1 wB
theorem vz(F:iU K "reckoned" "Kept.reckoned" ma f fd)(O:Ow K mg) :c9 P w K mg base #[52] 1 f fd qc (iV K mg 1 gk):=
 bY (k:=0) F vn rfl fun fE A outer s H E hr=>(aE (bn #[17]))
def UE:FS:=(aK (fK (dO (e2 iK #[58] (eI 0))) (cM (eI 0)) bW) (cM (e2 bB (ah 0) (e2 ij (ah 1) #[58]))))
def nK:List W->List ar->R W:=dq 2 UE
theorem QR(F:iU K "_law_cell" "_law_cell" Jo f fd)(B:Bl mg) :c9 P w K mg base #[52] 1 f fd NC (iV K mg 2 nK):=
 bY (k:=0) F Qu rfl fun fE A outer s H E hr=>(av (cz (cb (g_ hr) #[56] aB) (aE (bn aB)) bX) (aE (bn (bp (ae 0) (bz gR (ae 1) #[56])))))
def UF:FS:=(aK (bf 3 (e2 ij (e2 iY (e2 cN (e2 cN (e2 cN (ah 0) (e2 iY (e2 iY (eI 7) (ah 1)) (ah 1))) (e2 iY (eI 13) (ah 1))) (ah 2)) (eI 69621)) (eI 2147483647))) (cM (e2 ij (e2 iY (e2 ij (e2 cN (e2 cN (e2 iY (ah 3) (e2 cN (e2 vV (ah 3) (eI 1009)) (eI 3))) (e2 iY (eI 31) (ah 1))) (ah 2)) (eI 2147483629)) (eI 48271)) (eI 1000000007))))
def zJ:List W->List ar->R W:=dq 4 UF
theorem QT(F:iU K "_law_mixed" "_law_mixed" Jp f fd)  :c9 P w K mg base #[52] 1 f fd ND (iV K mg 3 zJ):=
 bY (k:=0) F Jq rfl fun fE A outer s H E hr=>(av (sS 3 Jq (bz gR (bz jP (bz cD (bz cD (bz cD (ae 0) (bz jP (bz jP aB (ae 1)) (ae 1))) (bz jP aB (ae 1))) (ae 2)) aB) aB)) (aE (bn (bz gR (bz jP (bz gR (bz cD (bz cD (bz jP (ae 3) (bz cD (bz u3 (ae 3) aB) aB)) (bz jP aB (ae 1))) (ae 2)) aB) aB) aB))))
def N2:FS:=(aK (bf 3 (km aA)) (aK (bf 4 (eI 0)) (aK (fK (dO (e2 PQ (ah 0) (e2 Ma (eI 10) (eI 18)))) (bf 4 (ah 0)) bW) (aK (mP (dU #[30]) (jy 5) #[74]) (cM (ah 3))))))
def kO:List W->List ar->R W:=dq 6 N2
theorem QU(F:iU K "_law_draws" "_law_draws" Jr f fd)(B:Bl mg)(KO:bV P w K mg base 1 "_law_mixed" 3 zJ):c9 P w K mg base #[52] 2 f fd NE (iV K mg 3 kO):=
 bY (k:=1) F vo rfl fun fE A outer s H E hr=>(av (sS 3 vo (ii aq)) (av (sS 4 vo aB) (av (cz (cb Me (ae 0) (bz Ng aB aB)) (aE (sS 4 vo (ae 0))) bX) (av (iF (gT B.range #[40]) (sG 5 vo) (aE (cz (cb u4 (ae 4) aB) (av (cy (kL PySem.F.slot_list_append PySem.F.type_list_append cC (ae 3) (aa (bz gR (ae 4) aB) aq))) (aE (sS 4 vo (bz u3 (ae 4) aB)))) (aE (cy (kL PySem.F.slot_list_append PySem.F.type_list_append cC (ae 3) (aa (bO KO hr #[0] (aa (ae 0) (aa (ae 5) #[35]))) aq))))))) (aE (bn (ae 3)))))))
def CW(U':List W->List ar->R W):FS:=(aK (fK (dO (xF "tuple" (ah 1))) (aK (fK (GJ (BK (dO (xF "tuple" (ah 0)))) (dO (e2 Ni #[58] (bw dm #[30])))) (cM #[78]) bW) (aK (mP (dU (af (bw dm #[30]) aA)) (jy 2) (fK (BK (dO (b_ 2 U' (af (e2 bB (ah 0) (ah 2)) (af (e2 bB (ah 1) (ah 2)) aA))))) (cM #[78]) bW)) (cM (eC (.bl true))))) bW) (aK (fK (dO (Av (ah 1))) (cM (Av (ah 0))) bW) (aK (fK (dO (xF "bool" (ah 1))) (cM (D9 (xF "bool" (ah 0)) (e2 iK (ah 0) (ah 1)))) bW) (aK (fK (dO (xF "int" (ah 1))) (cM (D9 (xF "int" (ah 0)) (D9 (L' (xF "bool" (ah 0))) (e2 iK (ah 0) (ah 1))))) bW) (cM (D9 (xF "str" (ah 0)) (e2 iK (ah 0) (ah 1))))))))
def j6:Nat->List W->List ar->R W
 |0=>fun _ _=>.bad
 |k+1=>dq 3 (CW (j6 k))
theorem FV{KS:Addr}{RP:FuncData}(Ae:iU K "_law_same" "_law_same" Js KS RP)(Dp:mg "_law_same"=some (.ref KS))(B:Bl mg) :∀k:Nat,bV P w K mg base (0+k) "_law_same" 2 (j6 k)
 |0=>IE (ps:=Jt) Ae Dp rfl (fun _ _ _ _ _ _ us hl=>match us,hl with|[_,_],_=>rfl)
 |k+1=>by
  have rj:=FV Ae Dp B  k
  exact Aw (ps:=Jt) Ae Dp rfl (fun _ _ _ _ _ _ us hl=>match us,hl with|[_,_],_=>rfl) (bY (k:=0+k) Ae Ju rfl fun fE A outer s H E hr=>(av (cz (jp (vY B.isinstance B.tuple fw (ae 1))) (av (cz (xn (Cb (nX (jp (vY B.isinstance B.tuple fw (ae 0)))) (xl (cb (Tt hr) #[56] (bM dF B.len bE #[40]))))) (aE (bn kj)) bX) (av (iF (gT B.range (aa (bM dF B.len bE #[40]) aq)) (sG 2 Ju) (aE (cz (nX (jp (bO rj hr #[0] (aa (bp (ae 0) (ae 2)) (aa (bp (ae 1) (ae 2)) aq))))) (aE (bn kj)) bX))) (aE (bn kj)))) bX) (av (cz (D' (ae 1)) (aE (bn (To (ae 0)))) bX) (av (cz (jp (vY B.isinstance B.bool vN (ae 1))) (aE (bn (FB (vY B.isinstance B.bool vN (ae 0)) (Il (tM (g_ hr) (ae 0) (ae 1)))))) bX) (av (cz (jp (vY B.isinstance B.int rJ (ae 1))) (aE (bn (FB (vY B.isinstance B.int rJ (ae 0)) (FB (Tn (vY B.isinstance B.bool vN (ae 0))) (Il (tM (g_ hr) (ae 0) (ae 1))))))) bX) (aE (bn (FB (vY B.isinstance B.str boot_str (ae 0)) (Il (tM (g_ hr) (ae 0) (ae 1)))))))))))
def N3:FS:=(aK (bf 3 (eC (.str [65,66,67,68,69,70,71,72,73,74,75,76,77,78,79,80,81,82,83,84,85,86,87,88,89,90,97,98,99,100,101,102,103,104,105,106,107,108,109,110,111,112,113,114,115,116,117,118,119,120,121,122]))) (aK (bf 4 (eC (.str []))) (aK (mP (hV (b_ 3 kO (af (ah 0) (af (ah 1) #[20])))) (jy 5) (aK (bf 6 (e2 ij (ah 5) (bw dm (af (ah 3) aA)))) (aK (bf 4 (e2 cN (ah 4) (e2 bB (ah 3) (ah 6)))) (bf 3 (e2 cN (sQ (ah 3) ik (fz (ah 6))) (sQ (ah 3) (fz (e2 cN (ah 6) (eI 1))) ik)))))) (cM (ah 4)))))
def zK:List W->List ar->R W:=dq 7 N3
theorem QV(F:iU K "_law_pool" "_law_pool" Jv f fd)(B:Bl mg)(nM:bV P w K mg base 2 "_law_draws" 3 kO):c9 P w K mg base #[52] 3 f fd NF (iV K mg 3 zK):=
 bY (k:=2) F s9 rfl fun fE A outer s H E hr=>(av (sS 3 s9 dh) (av (sS 4 s9 dh) (av (iF (mR (bO nM hr #[0] (aa (ae 0) (aa (ae 1) #[35])))) (sG 5 s9) (av (sS 6 s9 (bz gR (ae 5) (bM dF B.len bE (aa (ae 3) aq)))) (av (sS 4 s9 (bz cD (ae 4) (bp (ae 3) (ae 6)))) (aE (sS 3 s9 (bz cD (mO (ae 3) fJ (dP (ae 6))) (mO (ae 3) (dP (bz cD (ae 6) aB)) fJ))))))) (aE (bn (ae 4))))))
def N4:FS:=(cM (Lf pZ (eC (.str [])) (af (bw lW (af (kN [none,some 0,some 1] (dU (af #[58] aA)) (jy 0) (dO (e2 iK (e2 Ip (e2 PM (ah 2) (ah 0)) (eI 1)) (eI 1))) (e2 bB (ah 1) (ah 0))) aA)) aA)))
def CY:List W->List ar->R W:=dq 2 N4
theorem QW(F:iU K "_law_marks" "_law_marks" Jw f fd)(B:Bl mg) :c9 P w K mg base #[52] 1 f fd NG (iV K mg 2 CY):=
 bY (k:=0) F Qw rfl fun fE A outer s H E hr=>(aE (bn (Mi PySem.F.slot_str_join PySem.F.type_str_join wI dh (aa (bM AC B.sorted rH (aa (Ax (nm:=["_law_k","_law_pool_here","_law_number"]) (cap:=[none,some 0,some 1]) (by first|rfl|kernel_rfl) rfl (gT B.range (aa #[56] aq)) (fun _ _ _ _ _=>(sC 0)) (fun _ _ _ _ _=>(FK (cb (g_ hr) (bz PN (bz Ts (ae 2) (ae 0)) aB) aB))) (fun _ _ _ _ _=>(bp (ae 1) (ae 0)))) aq)) aq))))
def N5:FS:=(aK (bf 2 (km aA)) (aK (bf 3 (eI 0)) (aK (mP (hV (ah 0)) (jy 4) (aK (bf 5 (e2 ij (ah 4) (eI 4))) (aK (fK (dO (e2 yF (e2 vV (e2 cN (ah 5) (eI 1)) (eI 2)) (ah 3))) (bf 5 (eI 0)) bW) (aK (cU (kK bH (ah 2) (af (dC (af (ah 5) (af (b_ 2 CY (af (ah 1) (af (e2 ij (e2 vV (ah 4) (eI 4)) (eI 16)) aA))) aA))) aA))) (bf 3 (e2 g9 (e2 cN (ah 3) (eI 1)) (e2 vV (e2 cN (ah 5) (eI 1)) (eI 2)))))))) (aK (qH (dO (e2 yF (ah 3) (eI 1))) (aK (cU (kK bH (ah 2) (af (dC (af (eI 3) (af (e2 bB (e2 bB (ah 2) (e2 g9 (ah 3) (eI 1))) (eI 1)) aA))) aA))) (bf 3 (e2 g9 (ah 3) (eI 1))))) (cM (bw iX #[20]))))))
def yb:List W->List ar->R W:=dq 6 N5
theorem QX(F:iU K "_law_tree" "_law_tree" Jx f fd)(B:Bl mg)(Lb:bV P w K mg base 1 "_law_marks" 2 CY):c9 P w K mg base #[52] 2 f fd NH (iV K mg 2 yb):=
 bY (k:=1) F qU rfl fun fE A outer s H E hr=>(av (sS 2 qU (ii aq)) (av (sS 3 qU aB) (av (iF (mR (ae 0)) (sG 4 qU) (av (sS 5 qU (bz gR (ae 4) aB)) (av (cz (cb u4 (bz u3 (bz cD (ae 5) aB) aB) (ae 3)) (aE (sS 5 qU aB)) bX) (av (cy (kL PySem.F.slot_list_append PySem.F.type_list_append cC (ae 2) (aa (cS (aa (ae 5) (aa (bO Lb hr #[0] (aa (ae 1) (aa (bz gR (bz u3 (ae 4) aB) aB) aq))) aq))) aq))) (aE (sS 3 qU (bz iJ (bz cD (ae 3) aB) (bz u3 (bz cD (ae 5) aB) aB)))))))) (av (Ck (cb u4 (ae 3) aB) (av (cy (kL PySem.F.slot_list_append PySem.F.type_list_append cC (ae 2) (aa (cS (aa aB (aa (bp (bp (ae 2) (bz iJ (ae 3) aB)) aB) aq))) aq))) (aE (sS 3 qU (bz iJ (ae 3) aB))))) (aE (bn (fS kr B.tuple fw #[35])))))))
def N6:FS:=(aK (bf 1 (km aA)) (aK (bf 2 (km aA)) (aK (mP (dU (af #[58] aA)) (jy 3) (aK (bf 4 (eC .non)) (aK (bf 5 (eC .non)) (aK (fK (dO (e2 PQ (e2 bB (e2 bB (ah 0) (ah 3)) (eI 0)) (eI 2))) (bf 5 (kK oz (ah 1) aA)) bW) (aK (fK (dO (e2 iK (e2 ij (e2 bB (e2 bB (ah 0) (ah 3)) (eI 0)) (eI 2)) (eI 1))) (bf 4 (kK oz (ah 1) aA)) bW) (aK (cU (kK bH (ah 2) (af (dC (af (ah 4) (af (ah 5) aA))) aA))) (cU (kK bH (ah 1) (af (ah 3) aA))))))))) (cM (ah 2)))))
def CZ:List W->List ar->R W:=dq 6 N6
theorem QY(F:iU K "_law_links" "_law_links" Jy f fd)(B:Bl mg) :c9 P w K mg base #[52] 1 f fd NI (iV K mg 1 CZ):=
 bY (k:=0) F qV rfl fun fE A outer s H E hr=>(av (sS 1 qV (ii aq)) (av (sS 2 qV (ii aq)) (av (iF (gT B.range (aa #[56] aq)) (sG 3 qV) (av (sS 4 qV qC) (av (sS 5 qV qC) (av (cz (cb Me (bp (bp (ae 0) (ae 3)) aB) aB) (aE (sS 5 qV (sg PySem.F.slot_list_pop PySem.F.type_list_pop nY (ae 1)))) bX) (av (cz (cb (g_ hr) (bz gR (bp (bp (ae 0) (ae 3)) aB) aB) aB) (aE (sS 4 qV (sg PySem.F.slot_list_pop PySem.F.type_list_pop nY (ae 1)))) bX) (av (cy (kL PySem.F.slot_list_append PySem.F.type_list_append cC (ae 2) (aa (cS (aa (ae 4) (aa (ae 5) aq))) aq))) (aE (cy (kL PySem.F.slot_list_append PySem.F.type_list_append cC (ae 1) (aa (ae 3) aq)))))))))) (aE (bn (ae 2))))))
def N7:FS:=(aK (bf 4 (bw iX (af (kN [none,some 3] (dU #[30]) (jy 0) xy (e2 iK (e2 ij (e2 bB (ah 1) (ah 0)) (eI 2)) (eI 1))) aA))) (aK (bf 5 (km aA)) (aK (bf 6 (ah 1)) (aK (mP (dU (af (e2 Cd (eI 1) #[58]) aA)) (jy 7) (aK (bf 8 (km aA)) (aK (mP (dU #[30]) (jy 9) (aK (cU (kK bH (ah 8) (af (bw iX (af (kN [none,some 2,some 3,some 6] (dU #[30]) (jy 0) xy (e2 ij (e2 bB (ah 2) (e2 cN (ah 3) (ah 0))) (ah 1))) aA)) aA))) (bf 6 (e2 cN (ah 6) (ah 1))))) (cU (kK bH (ah 5) (af (bw iX (af (ah 8) aA)) aA)))))) (cM (dC (af (ah 0) (af (ah 4) (af (bw iX (af (ah 5) aA)) aA)))))))))
def C0:List W->List ar->R W:=dq 10 N7
theorem QZ(F:iU K "_law_machine" "_law_machine" Jz f fd)(B:Bl mg) :c9 P w K mg base #[52] 1 f fd NJ (iV K mg 4 C0):=
 bY (k:=0) F qW rfl fun fE A outer s H E hr=>(av (sS 4 qW (fS kr B.tuple fw (aa (Ax (nm:=["_law_k","_law_draws_here"]) (cap:=[none,some 3]) (by first|rfl|kernel_rfl) rfl (gT B.range #[40]) (fun _ _ _ _ _=>(sC 0)) (fun _ _ _ _ _=>tV) (fun _ _ _ _ _=>(tM (g_ hr) (bz gR (bp (ae 1) (ae 0)) aB) aB))) aq))) (av (sS 5 qW (ii aq)) (av (sS 6 qW (ae 1)) (av (iF (gT B.range (aa (bz Nh aB #[56]) aq)) (sG 7 qW) (av (sS 8 qW (ii aq)) (av (iF (gT B.range #[40]) (sG 9 qW) (av (cy (kL PySem.F.slot_list_append PySem.F.type_list_append cC (ae 8) (aa (fS kr B.tuple fw (aa (Ax (nm:=["_law_r","_law_top","_law_draws_here","_law_at"]) (cap:=[none,some 2,some 3,some 6]) (by first|rfl|kernel_rfl) rfl (gT B.range #[40]) (fun _ _ _ _ _=>(sC 0)) (fun _ _ _ _ _=>tV) (fun _ _ _ _ _=>(bz gR (bp (ae 2) (bz cD (ae 3) (ae 0))) (ae 1)))) aq)) aq))) (aE (sS 6 qW (bz cD (ae 6) (ae 1)))))) (aE (cy (kL PySem.F.slot_list_append PySem.F.type_list_append cC (ae 5) (aa (fS kr B.tuple fw (aa (ae 8) aq)) aq))))))) (aE (bn (cS (aa (ae 0) (aa (ae 4) (aa (fS kr B.tuple fw (aa (ae 5) aq)) aq))))))))))
def N8:FS:=(aK (bf 2 (eI 0)) (aK (mP (hV (ah 0)) (jy 3) (bf 2 (e2 cN (e2 iY (eI 2) (ah 2)) (bw zE (af (e2 (Ho false) (ah 3) (ah 1)) aA))))) (cM (ah 2))))
def zL:List W->List ar->R W:=dq 4 N8
theorem Q0(F:iU K "_law_letter" "_law_letter" JA f fd)(B:Bl mg) :c9 P w K mg base #[52] 1 f fd NK (iV K mg 2 zL):=
 bY (k:=0) F AZ rfl fun fE A outer s H E hr=>(av (sS 2 AZ aB) (av (iF (mR (ae 0)) (sG 3 AZ) (aE (sS 2 AZ (bz cD (bz jP aB (ae 2)) (fS Ek B.int rJ (aa (tM (Mg hr) (ae 3) (ae 1)) aq)))))) (aE (bn (ae 2)))))
def N9:FS:=(aK (bf 2 (km aA)) (aK (bf 3 (km aA)) (aK (mP (hV (ah 1)) (Ec 2 (eG (jy 4) (eG (jy 5) nG))) (aK (bf 6 (eI 0)) (aK (bf 7 (eI 0)) (aK (fK (dO (e2 PQ (ah 4) (eI 2))) (bf 7 (kK oz (ah 2) aA)) bW) (aK (fK (dO (e2 iK (e2 ij (ah 4) (eI 2)) (eI 1))) (bf 6 (kK oz (ah 2) aA)) bW) (aK (cU (kK bH (ah 2) (af (e2 bB (e2 bB (e2 bB (e2 bB (ah 0) (eI 2)) (b_ 2 zL (af (e2 bB (ah 0) (eI 0)) (af (ah 5) aA)))) (ah 6)) (ah 7)) aA))) (cU (kK bH (ah 3) (af (e2 bB (ah 2) (xz (eI 1))) aA))))))))) (cM (ah 3)))))
def yc:List W->List ar->R W:=dq 8 N9
theorem Q1(F:iU K "_law_run" "_law_run" JB f fd) (KL:bV P w K mg base 1 "_law_letter" 2 zL):c9 P w K mg base #[52] 2 f fd NL (iV K mg 2 yc):=
 bY (k:=1) F py rfl fun fE A outer s H E hr=>(av (sS 2 py (ii aq)) (av (sS 3 py (ii aq)) (av (iF (mR (ae 1)) (lV rfl (dA (sG 4 py) (dA (sG 5 py) jE))) (av (sS 6 py aB) (av (sS 7 py aB) (av (cz (cb Me (ae 4) aB) (aE (sS 7 py (sg PySem.F.slot_list_pop PySem.F.type_list_pop nY (ae 2)))) bX) (av (cz (cb (g_ hr) (bz gR (ae 4) aB) aB) (aE (sS 6 py (sg PySem.F.slot_list_pop PySem.F.type_list_pop nY (ae 2)))) bX) (av (cy (kL PySem.F.slot_list_append PySem.F.type_list_append cC (ae 2) (aa (bp (bp (bp (bp (ae 0) aB) (bO KL hr #[0] (aa (bp (ae 0) aB) (aa (ae 5) aq)))) (ae 6)) (ae 7)) aq))) (aE (cy (kL PySem.F.slot_list_append PySem.F.type_list_append cC (ae 3) (aa (bp (ae 2) (xA aB)) aq)))))))))) (aE (bn (ae 3))))))
def N_:FS:=(aK (fK (dO (e2 iK (bw dm #[30]) (eI 0))) (cM (e2 bB (e2 bB (ah 0) (eI 1)) (eI 0))) bW) (cM (e2 bB (e2 bB (ah 0) (eI 1)) (e2 bB (b_ 2 yc (af (ah 0) #[30])) (xz (eI 1))))))
def C1:List W->List ar->R W:=dq 2 N_
theorem Q3(F:iU K "_law_lets" "_law_lets" JC f fd)(B:Bl mg)(zX:bV P w K mg base 2 "_law_run" 2 yc):c9 P w K mg base #[52] 3 f fd NM (iV K mg 2 C1):=
 bY (k:=2) F Qx rfl fun fE A outer s H E hr=>(av (cz (cb (g_ hr) (bM dF B.len bE #[40]) aB) (aE (bn (bp (bp (ae 0) aB) aB))) bX) (aE (bn (bp (bp (ae 0) aB) (bp (bO zX hr #[0] (aa (ae 0) #[40])) (xA aB))))))
def Oa:FS:=(aK (bf 1 (km aA)) (aK (mP (hV (ah 0)) (Ec 2 (eG (jy 2) (eG (jy 3) nG))) (aK (bf 4 (eI 1)) #[76])) (cM (ah 1))))
def C2:List W->List ar->R W:=dq 5 Oa
theorem Q4(F:iU K "_law_sizes" "_law_sizes" JD f fd)  :c9 P w K mg base #[52] 1 f fd NN (iV K mg 1 C2):=
 bY (k:=0) F s_ rfl fun fE A outer s H E hr=>(av (sS 1 s_ (ii aq)) (av (iF (mR (ae 0)) (lV rfl (dA (sG 2 s_) (dA (sG 3 s_) jE))) (av (sS 4 s_ aB) (av (cz (jf (ae 2)) (aE (sS 4 s_ (bz cD (ae 4) (bp (ae 1) (ae 2))))) bX) (av (cz (jf (ae 3)) (aE (sS 4 s_ (bz cD (ae 4) (bp (ae 1) (ae 3))))) bX) (aE (cy (kL PySem.F.slot_list_append PySem.F.type_list_append cC (ae 1) (aa (ae 4) aq)))))))) (aE (bn (ae 1)))))
def UG:FS:=(aK (bf 2 (b_ 1 CZ (af (ah 0) aA))) (aK (bf 3 (b_ 1 C2 #[20])) (aK (bf 4 (ah 1)) (aK (fK (dO (hU (e2 bB (e2 bB (ah 2) (ah 1)) (eI 1)))) (bf 4 (e2 g9 (ah 1) (e2 bB (ah 3) (e2 bB (e2 bB (ah 2) (ah 1)) (eI 1))))) bW) (aK (bf 5 (ah 4)) (aK (fK (dO (hU (e2 bB (e2 bB (ah 2) (ah 1)) (eI 0)))) (bf 5 (e2 g9 (ah 4) (e2 bB (ah 3) (e2 bB (e2 bB (ah 2) (ah 1)) (eI 0))))) bW) (cM (dC (af (ah 5) (af (ah 4) aA))))))))))
def sD:List W->List ar->R W:=dq 6 UG
theorem Q5(F:iU K "_law_bounds" "_law_bounds" JE f fd) (K5:bV P w K mg base 1 "_law_links" 1 CZ)(K2:bV P w K mg base 1 "_law_sizes" 1 C2):c9 P w K mg base #[52] 2 f fd NO (iV K mg 2 sD):=
 bY (k:=1) F tf rfl fun fE A outer s H E hr=>(av (sS 2 tf (bO K5 hr #[0] (aa (ae 0) aq))) (av (sS 3 tf (bO K2 hr #[0] #[35])) (av (sS 4 tf (ae 1)) (av (cz (jf (bp (bp (ae 2) (ae 1)) aB)) (aE (sS 4 tf (bz iJ (ae 1) (bp (ae 3) (bp (bp (ae 2) (ae 1)) aB))))) bX) (av (sS 5 tf (ae 4)) (av (cz (jf (bp (bp (ae 2) (ae 1)) aB)) (aE (sS 5 tf (bz iJ (ae 4) (bp (ae 3) (bp (bp (ae 2) (ae 1)) aB))))) bX) (aE (bn (cS (aa (ae 5) (aa (ae 4) aq)))))))))))
def UH:FS:=(aK (tP (b_ 2 sD (af (ah 0) #[30])) (Ec 2 (eG (jy 4) (eG (jy 5) nG)))) (aK (bf 6 (sQ (ah 0) (fz (ah 4)) (fz (ah 5)))) (aK (bf 7 (sQ (ah 0) (fz (ah 5)) (fz (ah 1)))) (aK (fK (dO (e2 iK (ah 2) (eC #[53]))) (bf 6 (ah 3)) (bf 7 (ah 3))) (aK (bf 8 (dC (af (e2 cN (bw zE (af (e2 yF (bw dm (af (ah 6) aA)) (eI 0)) aA)) (e2 iY (eI 2) (bw zE (af (e2 yF (bw dm (af (ah 7) aA)) (eI 0)) aA)))) (af (e2 bB (e2 bB (ah 0) (ah 1)) (eI 1)) aA)))) (cM (e2 cN (e2 cN (e2 cN (e2 cN (sQ (ah 0) ik (fz (ah 4))) (ah 6)) (ah 7)) (dC (af (ah 8) aA))) (sQ (ah 0) (fz (e2 cN (ah 1) (eI 1))) ik))))))))
def yd:List W->List ar->R W:=dq 9 UH
theorem Q6(F:iU K "_law_branched" "_law_branched" JF f fd)(B:Bl mg)(uD:bV P w K mg base 2 "_law_bounds" 2 sD):c9 P w K mg base #[52] 3 f fd NP (iV K mg 4 yd):=
 bY (k:=2) F qX rfl fun fE A outer s H E hr=>(av (xq (bO uD hr #[0] (aa (ae 0) #[40])) (lV rfl (dA (sG 4 qX) (dA (sG 5 qX) jE)))) (av (sS 6 qX (mO (ae 0) (dP (ae 4)) (dP (ae 5)))) (av (sS 7 qX (mO (ae 0) (dP (ae 5)) (dP (ae 1)))) (av (cz (cb (g_ hr) (ae 2) dh) (aE (sS 6 qX (ae 3))) (aE (sS 7 qX (ae 3)))) (av (sS 8 qX (cS (aa (bz cD (fS Ek B.int rJ (aa (tM u4 (bM dF B.len bE (aa (ae 6) aq)) aB) aq)) (bz jP aB (fS Ek B.int rJ (aa (tM u4 (bM dF B.len bE (aa (ae 7) aq)) aB) aq)))) (aa (bp (bp (ae 0) (ae 1)) aB) aq)))) (aE (bn (bz cD (bz cD (bz cD (bz cD (mO (ae 0) fJ (dP (ae 4))) (ae 6)) (ae 7)) (cS (aa (ae 8) aq))) (mO (ae 0) (dP (bz cD (ae 1) aB)) fJ)))))))))
def Ob:FS:=(aK (bf 1 (b_ 3 kO (af (b_ 2 nK (af (ah 0) (af (eI 0) aA))) (af (eI 4) (af (eI 100003) aA))))) (aK (bf 2 (b_ 3 zK (af (b_ 2 nK (af (ah 0) (af (eI 1) aA))) (af (eI 4) (af (eI 200017) aA))))) (aK (bf 3 (e2 cN (eI 1) (e2 ij (e2 bB (ah 1) (eI 0)) (eI 4)))) (aK (bf 4 (Lf pZ (eC (.str [])) (af (bw lW (af (sQ (ah 2) ik (fz (e2 ij #[57] (eI 3)))) aA)) aA))) (aK (fK (dO (e2 iK (ah 3) (eI 4))) (bf 4 (sQ (ah 4) ik (fz (eI 1)))) bW) (aK (bf 5 (e2 cN (ah 3) (e2 iY (e2 iY (ah 3) (ah 3)) (e2 Cd (eI 1) (bw dm (af (ah 4) aA)))))) (aK (bf 6 (b_ 4 C0 (af (ah 4) (af (ah 3) (af (ah 3) (af (b_ 3 kO (af (b_ 2 nK (af (ah 0) (af (eI 2) aA))) (af (ah 5) (af (eI 300007) aA)))) aA)))))) (aK (bf 7 (e2 ij #[47] (eI 8))) (aK (fK (dO (e2 iK (e2 ij (e2 bB (ah 1) (eI 3)) (eI 4)) (eI 1))) (bf 7 (e2 ij #[47] (eI 41))) bW) (cM (dC (af (ah 6) (af (b_ 2 yb (af (b_ 3 kO (af (b_ 2 nK (af (ah 0) (af (eI 3) aA))) (af (ah 7) (af (eI 400009) aA)))) #[20])) #[20])))))))))))))
def C3:List W->List ar->R W:=dq 8 Ob
theorem Q7(F:iU K "_law_start" "_law_start" JG f fd)(B:Bl mg)(qf:bV P w K mg base 1 "_law_cell" 2 nK)(nM:bV P w K mg base 2 "_law_draws" 3 kO)(KG:bV P w K mg base 1 "_law_machine" 4 C0)(KN:bV P w K mg base 3 "_law_pool" 3 zK)(Ac:bV P w K mg base 2 "_law_tree" 2 yb):c9 P w K mg base #[52] 4 f fd NQ (iV K mg 1 C3):=
 bY (k:=3) F n9 rfl fun fE A outer s H E hr=>(av (sS 1 n9 (bO nM hr #[0] (aa (bO qf hr #[0] (aa (ae 0) (aa aB aq))) (aa aB (aa aB aq))))) (av (sS 2 n9 (bO KN hr #[0] (aa (bO qf hr #[0] (aa (ae 0) (aa aB aq))) (aa aB (aa aB aq))))) (av (sS 3 n9 (bz cD aB (bz gR #[23] aB))) (av (sS 4 n9 (Mi PySem.F.slot_str_join PySem.F.type_str_join wI dh (aa (bM AC B.sorted rH (aa (mO (ae 2) fJ (dP (bz gR #[23] aB))) aq)) aq))) (av (cz (cb (g_ hr) (ae 3) aB) (aE (sS 4 n9 (mO (ae 4) fJ (dP aB)))) bX) (av (sS 5 n9 (bz cD (ae 3) (bz jP (bz jP (ae 3) (ae 3)) (bz Nh aB (bM dF B.len bE (aa (ae 4) aq)))))) (av (sS 6 n9 (bO KG hr #[0] (aa (ae 4) (aa (ae 3) (aa (ae 3) (aa (bO nM hr #[0] (aa (bO qf hr #[0] (aa (ae 0) (aa aB aq))) (aa (ae 5) (aa aB aq)))) aq)))))) (av (sS 7 n9 (bz gR #[23] aB)) (av (cz (cb (g_ hr) (bz gR #[23] aB) aB) (aE (sS 7 n9 (bz gR #[23] aB))) bX) (aE (bn (cS (aa (ae 6) (aa (bO Ac hr #[0] (aa (bO nM hr #[0] (aa (bO qf hr #[0] (aa (ae 0) (aa aB aq))) (aa (ae 7) (aa aB aq)))) #[35])) #[35]))))))))))))))
def Oc:FS:=(aK (bf 5 (b_ 3 kO (af (b_ 2 nK (af (ah 0) (af (e2 cN (eI 4) (ah 1)) aA))) (af (eI 12) (af (e2 cN (eI 500009) (e2 iY (eI 101) (ah 1))) aA))))) (aK (bf 6 (b_ 2 yb (af (sQ (ah 5) (fz (eI 6)) (fz (e2 cN (eI 6) (e2 ij (e2 bB (ah 5) (eI 5)) (eI 6))))) (af (ah 4) aA)))) (aK (bf 7 (e2 ij (e2 bB (ah 5) (eI 0)) (ah 2))) (aK (fK (dO (e2 iK (ah 7) (eI 8))) (cM (dC (af (eC (.str [98,97,99,107])) aA))) bW) (aK (fK (dO (e2 iK (ah 7) (eI 9))) (cM (dC (af (eC (.str [97,103,97,105,110])) aA))) bW) (aK (fK (GJ (dO (e2 iK (ah 7) (eI 7))) (dO (e2 iK (bw dm (af (ah 3) aA)) (eI 0)))) (cM (dC (af (eC (.str [119,104,111,108,101])) (af (ah 6) aA)))) bW) (aK (bf 8 (e2 ij (e2 cN (e2 iY (eI 64) (e2 bB (ah 5) (eI 1))) (e2 bB (ah 5) (eI 2))) (bw dm (af (ah 3) aA)))) (aK (fK (dO (e2 PP (ah 7) (eI 4))) (cM (dC (af (e2 bB (km (af (eC (.str [112,117,116])) (af (eC (.str [116,97,107,101])) aA))) (e2 vV (ah 7) (eI 2))) (af (ah 8) (af (e2 bB (ah 4) (e2 ij (e2 bB (ah 5) (eI 3)) (eI 4))) aA))))) bW) (cM (dC (af (eC (.str [98,114,97,110,99,104])) (af (ah 8) (af (e2 bB (km (af (eC #[53]) (af (eC (.str [114,105,103,104,116])) aA))) (e2 ij (e2 bB (ah 5) (eI 4)) (eI 2))) (af (ah 6) aA))))))))))))))
def v9:List W->List ar->R W:=dq 9 Oc
theorem Q8(F:iU K "_law_planned" "_law_planned" JH f fd)(B:Bl mg)(qf:bV P w K mg base 1 "_law_cell" 2 nK)(nM:bV P w K mg base 2 "_law_draws" 3 kO)(Ac:bV P w K mg base 2 "_law_tree" 2 yb):c9 P w K mg base #[52] 3 f fd NR (iV K mg 5 v9):=
 bY (k:=2) F xX rfl fun fE A outer s H E hr=>(av (sS 5 xX (bO nM hr #[0] (aa (bO qf hr #[0] (aa (ae 0) (aa (bz cD aB (ae 1)) aq))) (aa aB (aa (bz cD aB (bz jP aB (ae 1))) aq))))) (av (sS 6 xX (bO Ac hr #[0] (aa (mO (ae 5) (dP aB) (dP (bz cD aB (bz gR (bp (ae 5) aB) aB)))) (aa (ae 4) aq)))) (av (sS 7 xX (bz gR (bp (ae 5) aB) (ae 2))) (av (cz (cb (g_ hr) (ae 7) aB) (aE (bn (cS (aa dh aq)))) bX) (av (cz (cb (g_ hr) (ae 7) aB) (aE (bn (cS (aa dh aq)))) bX) (av (cz (xn (Cb (cb (g_ hr) (ae 7) aB) (xl (cb (g_ hr) (bM dF B.len bE (aa (ae 3) aq)) aB)))) (aE (bn (cS (aa dh (aa (ae 6) aq))))) bX) (av (sS 8 xX (bz gR (bz cD (bz jP aB (bp (ae 5) aB)) (bp (ae 5) aB)) (bM dF B.len bE (aa (ae 3) aq)))) (av (cz (cb w_lt (ae 7) aB) (aE (bn (cS (aa (bp (ii (aa dh (aa dh aq))) (bz u3 (ae 7) aB)) (aa (ae 8) (aa (bp (ae 4) (bz gR (bp (ae 5) aB) aB)) aq)))))) bX) (aE (bn (cS (aa dh (aa (ae 8) (aa (bp (ii (aa dh (aa dh aq))) (bz gR (bp (ae 5) aB) aB)) (aa (ae 6) aq)))))))))))))))
def UI:FS:=(aK (fK (dO (e2 iK (e2 bB (ah 1) (eI 0)) (eC (.str [119,104,111,108,101])))) (cM #[57]) bW) (aK (fK (dO (e2 iK (e2 bB (ah 1) (eI 0)) (eC (.str [98,114,97,110,99,104])))) (cM (b_ 4 yd (af (ah 0) (af #[57] (af #[47] (af (e2 bB (ah 1) (eI 3)) aA)))))) bW) (aK (tP (e2 bB (ah 0) #[57]) (Ec 2 (eG (jy 2) (eG (jy 3) nG)))) (aK (tP (kN [none,some 1] (hV (ah 3)) (jy 0) (dO (e2 Ni (ah 0) #[47])) (ah 0)) (jy 3)) (aK (fK (dO (e2 iK (e2 bB (ah 1) (eI 0)) (eC (.str [112,117,116])))) (cU (kK bH (ah 3) (af #[47] aA))) bW) (cM #[80]))))))
def q9:List W->List ar->R W:=dq 4 UI
theorem Q9(F:iU K "_law_changed" "_law_changed" JI f fd)(B:Bl mg)(z_:bV P w K mg base 3 "_law_branched" 4 yd):c9 P w K mg base #[52] 4 f fd NS (iV K mg 2 q9):=
 bY (k:=3) F A8 rfl fun fE A outer s H E hr=>(av (cz (cb (g_ hr) #[23] dh) (aE (bn #[23])) bX) (av (cz (cb (g_ hr) #[23] dh) (aE (bn (bO z_ hr #[0] (aa (ae 0) (aa #[23] (aa #[23] (aa #[23] aq))))))) bX) (av (xq (bp (ae 0) #[23]) (lV rfl (dA (sG 2 A8) (dA (sG 3 A8) jE)))) (av (sR (sG 3 A8) (nm:=["_law_letter_here","_law_deed"]) (cap:=[none,some 1]) (by first|rfl|kernel_rfl) rfl (mR (ae 3)) (fun _ _ _ _ _=>(sC 0)) (fun _ _ _ _ _=>(FK (cb (Tt hr) (ae 0) #[23]))) (fun _ _ _ _ _=>(ae 0))) (av (cz (cb (g_ hr) #[23] dh) (aE (cy (kL PySem.F.slot_list_append PySem.F.type_list_append cC (ae 3) (aa #[23] aq)))) bX) (aE (bn (bz cD (bz cD (mO (ae 0) fJ (dP #[23])) (cS (aa (cS (aa (ae 2) (aa (Mi PySem.F.slot_str_join PySem.F.type_str_join wI dh (aa (bM AC B.sorted rH (aa (ae 3) aq)) aq)) aq))) aq))) (mO (ae 0) (dP (bz cD #[23] aB)) fJ)))))))))
def zM:FS:=(aK (fK (dO (e2 iK (e2 bB (ah 1) (eI 0)) (eC (.str [112,117,116])))) (cM (il "Kept" "put" 3 jR (ah 0) (af #[57] (af #[47] aA)))) bW) (aK (fK (dO (e2 iK (e2 bB (ah 1) (eI 0)) (eC (.str [116,97,107,101])))) (cM (il "Kept" "take" 3 i8 (ah 0) (af #[57] (af #[47] aA)))) bW) (aK (fK (dO (e2 iK (e2 bB (ah 1) (eI 0)) (eC (.str [98,114,97,110,99,104])))) (cM (il "Kept" "branch" 4 gC (ah 0) (af #[57] (af #[47] (af (e2 bB (ah 1) (eI 3)) aA))))) bW) (aK (fK (dO (e2 iK (e2 bB (ah 1) (eI 0)) (eC (.str [119,104,111,108,101])))) (cM (il "Kept" "whole" 2 ji (ah 0) (af #[57] aA))) bW) (aK (fK (dO (e2 iK (e2 bB (ah 1) (eI 0)) (eC (.str [98,97,99,107])))) (cM (il "Kept" "back" 1 i9 (ah 0) aA)) bW) (cM (il "Kept" "again" 1 ib (ah 0) aA)))))))
def kP:List W->List ar->R W:=dq 2 zM
theorem Q_(F:iU K "_law_doing" "_law_doing" JJ f fd) (pJ:iG P w K mg base 8 "Kept" "again" 1 ib)(rh:iG P w K mg base 8 "Kept" "back" 1 i9)(og:iG P w K mg base 9 "Kept" "branch" 4 gC)(tq:iG P w K mg base 10 "Kept" "put" 3 jR)(rk:iG P w K mg base 10 "Kept" "take" 3 i8)(pL:iG P w K mg base 9 "Kept" "whole" 2 ji):c9 P w K mg base #[52] 11 f fd NT (iV K mg 2 kP):=
 bY (k:=10) F Qy rfl fun fE A outer s H E hr=>(av (cz (cb (g_ hr) #[23] dh) (aE (bn (lY tq hr #[0] (ae 0) (aa #[23] (aa #[23] aq))))) bX) (av (cz (cb (g_ hr) #[23] dh) (aE (bn (lY rk hr #[0] (ae 0) (aa #[23] (aa #[23] aq))))) bX) (av (cz (cb (g_ hr) #[23] dh) (aE (bn (lY og hr #[0] (ae 0) (aa #[23] (aa #[23] (aa #[23] aq)))))) bX) (av (cz (cb (g_ hr) #[23] dh) (aE (bn (lY pL hr #[0] (ae 0) (aa #[23] aq)))) bX) (av (cz (cb (g_ hr) #[23] dh) (aE (bn (pc rh hr #[0] (ae 0)))) bX) (aE (bn (pc pJ hr #[0] (ae 0)))))))))
def UJ:FS:=(aK (mP (dU (af (eI 3) aA)) (jy 4) (aK (bf 5 (e2 ij (e2 cN (ah 3) (ah 4)) (eI 3))) (aK (fK (yE (dO (e2 iK (ah 5) (eI 0))) (BK (dO (b_ 2 (j6 40) (af (il "Kept" "rooms_now" 1 gU (ah 0) aA) (af (bw iX (af (b_ 2 yc (af (ah 1) #[20])) aA)) aA)))))) (cM #[78]) bW) (aK (fK (yE (dO (e2 iK (ah 5) (eI 1))) (BK (dO (b_ 2 (j6 40) (af (il "Kept" "lets_now" 1 iu (ah 0) aA) (af (b_ 2 C1 (af (ah 1) #[20])) aA)))))) (cM #[78]) bW) (fK (yE (dO (e2 iK (ah 5) (eI 2))) (BK (dO (b_ 2 (j6 40) (af (il "Kept" "tree_now" 1 iq (ah 0) aA) #[20]))))) (cM #[78]) bW))))) (cM (eC (.bl true))))
def q_:List W->List ar->R W:=dq 6 UJ
theorem Ra(F:iU K "_law_stands" "_law_stands" JK f fd)(B:Bl mg)(mh:iG P w K mg base 1 "Kept" "lets_now" 1 iu)(lh:iG P w K mg base 1 "Kept" "rooms_now" 1 gU)(mj:iG P w K mg base 1 "Kept" "tree_now" 1 iq)(KM:bV P w K mg base 3 "_law_lets" 2 C1)(zX:bV P w K mg base 2 "_law_run" 2 yc)(rj:bV P w K mg base 40 "_law_same" 2 (j6 40)):c9 P w K mg base #[52] 41 f fd NU (iV K mg 4 q_):=
 bY (k:=40) F Ey rfl fun fE A outer s H E hr=>(av (iF (gT B.range (aa aB aq)) (sG 4 Ey) (av (sS 5 Ey (bz gR (bz cD (ae 3) (ae 4)) aB)) (av (cz (xn (u0 (cb (g_ hr) (ae 5) aB) (rN (nX (jp (bO rj hr #[0] (aa (pc lh hr #[0] (ae 0)) (aa (fS kr B.tuple fw (aa (bO zX hr #[0] (aa (ae 1) #[35])) aq)) aq)))))))) (aE (bn kj)) bX) (av (cz (xn (u0 (cb (g_ hr) (ae 5) aB) (rN (nX (jp (bO rj hr #[0] (aa (pc mh hr #[0] (ae 0)) (aa (bO KM hr #[0] (aa (ae 1) #[35])) aq)))))))) (aE (bn kj)) bX) (aE (cz (xn (u0 (cb (g_ hr) (ae 5) aB) (rN (nX (jp (bO rj hr #[0] (aa (pc mj hr #[0] (ae 0)) #[35]))))))) (aE (bn kj)) bX)))))) (aE (bn kj)))
def Od:FS:=(aK (bf 2 (eC .non)) (aK (Ei (bf 2 (b_ 2 kP (af (ah 0) #[30]))) sA 3 (bf 2 (dC (af (eC (.str [114,101,102,117,115,101,100])) (af (xH gB (ah 3)) (af (xH jQ (ah 3)) (af (xH i7 (ah 3)) (af (xH fU (ah 3)) (af (xH x6 (ah 3)) aA))))))))) (cM (ah 2))))
def nL:List W->List ar->R W:=dq 4 Od
theorem Rb(F:iU K "_law_refused" "_law_refused" JL f fd)(B:Bl mg)(C:Cls K mg)(K8:bV P w K mg base 11 "_law_doing" 2 kP):c9 P w K mg base #[52] 12 f fd NV (iV K mg 2 nL):=
 bY (k:=11) F x5 rfl fun fE A outer s H E hr=>(av (sS 2 x5 qC) (av (PZ (i:=3) C.catch_TrunkError x5.nd rfl (Or.inl rfl) (fun _ _=>(aE (sS 2 x5 (bO K8 hr #[0] (aa (ae 0) #[40]))))) (fun _=>(aE (sS 2 x5 (cS (aa dh (aa (TM B.isinstance B.ValueError MB C.isi_ValueError (ae 3)) (aa (C.isi_NoPlace.elim fun _ h=>IL B.isinstance h.1 h.2 (ae 3)) (aa (C.isi_TooGreat.elim fun _ h=>IL B.isinstance h.1 h.2 (ae 3)) (aa (C.isi_NothingDone.elim fun _ h=>IL B.isinstance h.1 h.2 (ae 3)) (aa (C.isi_t0.elim fun _ h=>h.elim fun _ h=>h.elim fun _ h=>h.elim fun _ h=>h.elim fun _ h=>h.elim fun _ h=>P2 B.isinstance (.cons h.1 rfl #[3] (.cons h.2.1 rfl #[3] (.cons h.2.2.1 rfl #[3] (.cons h.2.2.2.1 rfl #[3] (.cons h.2.2.2.2.1 rfl #[3] (.cons h.2.2.2.2.2.1 rfl #[3] .nil)))))) h.2.2.2.2.2.2 #[41] (ae 3)) aq))))))))))) (aE (bn (ae 2)))))
def UK:FS:=(aK (fK (dO (e2 iK (ah 0) (eI 0))) (cM (dC aA)) bW) (cM (bw iX (af (e2 cN (km (af (dC (af (eI 0) (af (eC (.str [81])) aA))) aA)) (kN [none] (dU (af (e2 g9 (ah 0) (eI 1)) aA)) (jy 0) xy (dC (af (e2 cN (eI 1) (e2 ij (ah 0) (eI 2))) (af (eC (.str [])) aA))))) aA))))
def sE:List W->List ar->R W:=dq 1 UK
theorem Rc(F:iU K "_law_row_of" "_law_row_of" JM f fd)(B:Bl mg) :c9 P w K mg base #[52] 1 f fd NW (iV K mg 1 sE):=
 bY (k:=0) F Qz rfl fun fE A outer s H E hr=>(av (cz (cb (g_ hr) (ae 0) aB) (aE (bn (cS aq))) bX) (aE (bn (fS kr B.tuple fw (aa (bz cD (ii (aa (cS (aa aB (aa dh aq))) aq)) (Ax (m:=0) (nm:=["_law_k"]) (cap:=[none]) (by first|rfl|kernel_rfl) rfl (gT B.range (aa (bz iJ (ae 0) aB) aq)) (fun _ _ _ _ _=>(sC 0)) (fun _ _ _ _ _=>tV) (fun _ _ _ _ _=>(cS (aa (bz cD aB (bz gR (ae 0) aB)) (aa dh aq)))))) aq)))))
def Oe:FS:=(aK (bf 5 (dC (af (eC (.str [114,101,102,117,115,101,100])) (af (eC (.bl true)) (af (eC (.bl true)) (af #[78] (af #[78] (af #[78] aA)))))))) (aK (bf 6 (dC (af (eC (.str [114,101,102,117,115,101,100])) (af (eC (.bl true)) (af #[78] (af (eC (.bl true)) (af #[78] (af #[78] aA)))))))) (aK (bf 7 (dC (af (eC (.str [114,101,102,117,115,101,100])) (af (eC (.bl true)) (af #[78] (af #[78] (af (eC (.bl true)) (af #[78] aA)))))))) (aK (bf 8 (bw dm #[20])) (aK (bf 9 (b_ 3 kO (af (b_ 2 nK (af (ah 0) (af (e2 cN (eI 4) (ah 1)) aA))) (af (eI 4) (af (e2 cN (eI 900001) (e2 iY (eI 101) (ah 1))) aA))))) (aK (bf 10 (e2 bB (km (af (xz (eI 1)) (af (ah 8) (af (e2 cN (ah 8) (eI 7)) (af (e2 g9 (xz (ah 8)) (eI 1)) (af (e2 cN (ah 8) (e2 Ma (eI 10) (eI 20))) aA)))))) (e2 ij (e2 bB (ah 9) (eI 0)) (eI 5)))) (aK (bf 11 (e2 bB (km (af (eC #[53]) (af (eC (.str [114,105,103,104,116])) aA))) (e2 ij (e2 bB (ah 9) (eI 1)) (eI 2)))) (aK (bf 12 (km (af (dC (af (dC (af (eC (.str [112,117,116])) (af (ah 10) (af (eC (.str [98])) aA)))) (af (ah 5) aA))) (af (dC (af (dC (af (eC (.str [116,97,107,101])) (af (ah 10) (af (eC (.str [98])) aA)))) (af (ah 5) aA))) (af (dC (af (dC (af (eC (.str [112,117,116])) (af (xz (eI 1)) (af (eC (.str [90])) aA)))) (af (ah 5) aA))) aA))))) (aK (cU (kK bH (ah 12) (af (dC (af (dC (af (eC (.str [116,97,107,101])) (af (ah 8) (af (eC (.str [90])) aA)))) (af (ah 5) aA))) aA))) (aK (cU (kK bH (ah 12) (af (dC (af (dC (af (eC (.str [98,114,97,110,99,104])) (af (ah 10) (af (ah 11) (af (dC aA) aA))))) (af (ah 5) aA))) aA))) (aK (cU (kK bH (ah 12) (af (dC (af (dC (af (eC (.str [98,114,97,110,99,104])) (af (ah 10) (af (ah 11) (af (b_ 1 sE (af (eI 100) aA)) aA))))) (af (ah 5) aA))) aA))) (aK (fK (dO (e2 yF (ah 8) (eI 0))) (aK (bf 13 (e2 ij (e2 bB (ah 9) (eI 2)) (ah 8))) (aK (tP (b_ 2 sD (af (ah 2) (af (ah 13) aA))) (Ec 2 (eG (jy 14) (eG (jy 15) nG)))) #[79])) bW) (aK (fK (dO (e2 iK (bw dm (af (ah 3) aA)) (eI 0))) (cU (kK bH (ah 12) (af (dC (af (dC (af (eC (.str [98,97,99,107])) aA)) (af (ah 7) aA))) aA))) bW) (aK (fK (dO (e2 iK (bw dm (af (ah 4) aA)) (eI 0))) (cU (kK bH (ah 12) (af (dC (af (dC (af (eC (.str [97,103,97,105,110])) aA)) (af (ah 7) aA))) aA))) bW) (cM (ah 12))))))))))))))))
def yf:List W->List ar->R W:=dq 17 Oe
theorem Re(F:iU K "_law_bad" "_law_bad" JN f fd)(B:Bl mg)(uD:bV P w K mg base 2 "_law_bounds" 2 sD)(qf:bV P w K mg base 1 "_law_cell" 2 nK)(nM:bV P w K mg base 2 "_law_draws" 3 kO)(yt:bV P w K mg base 1 "_law_row_of" 1 sE):c9 P w K mg base #[52] 3 f fd NX (iV K mg 5 yf):=
 bY (k:=2) F kA rfl fun fE A outer s H E hr=>(av (sS 5 kA (cS (aa dh (aa kj (aa kj (aa kj (aa kj (aa kj aq)))))))) (av (sS 6 kA (cS (aa dh (aa kj (aa kj (aa kj (aa kj (aa kj aq)))))))) (av (sS 7 kA (cS (aa dh (aa kj (aa kj (aa kj (aa kj (aa kj aq)))))))) (av (sS 8 kA (bM dF B.len bE #[35])) (av (sS 9 kA (bO nM hr #[0] (aa (bO qf hr #[0] (aa (ae 0) (aa (bz cD aB (ae 1)) aq))) (aa aB (aa (bz cD aB (bz jP aB (ae 1))) aq))))) (av (sS 10 kA (bp (ii (aa (xA aB) (aa (ae 8) (aa (bz cD (ae 8) aB) (aa (bz iJ (xA (ae 8)) aB) (aa (bz cD (ae 8) (bz Ng aB aB)) aq)))))) (bz gR (bp (ae 9) aB) aB))) (av (sS 11 kA (bp (ii (aa dh (aa dh aq))) (bz gR (bp (ae 9) aB) aB))) (av (sS 12 kA (ii (aa (cS (aa (cS (aa dh (aa (ae 10) (aa dh aq)))) (aa (ae 5) aq))) (aa (cS (aa (cS (aa dh (aa (ae 10) (aa dh aq)))) (aa (ae 5) aq))) (aa (cS (aa (cS (aa dh (aa (xA aB) (aa dh aq)))) (aa (ae 5) aq))) aq))))) (av (cy (kL PySem.F.slot_list_append PySem.F.type_list_append cC (ae 12) (aa (cS (aa (cS (aa dh (aa (ae 8) (aa dh aq)))) (aa (ae 5) aq))) aq))) (av (cy (kL PySem.F.slot_list_append PySem.F.type_list_append cC (ae 12) (aa (cS (aa (cS (aa dh (aa (ae 10) (aa (ae 11) (aa (cS aq) aq))))) (aa (ae 5) aq))) aq))) (av (cy (kL PySem.F.slot_list_append PySem.F.type_list_append cC (ae 12) (aa (cS (aa (cS (aa dh (aa (ae 10) (aa (ae 11) (aa (bO yt hr #[0] (aa aB aq)) aq))))) (aa (ae 5) aq))) aq))) (av (cz (cb u4 (ae 8) aB) (av (sS 13 kA (bz gR (bp (ae 9) aB) (ae 8))) (av (xq (bO uD hr #[0] (aa (ae 2) (aa (ae 13) aq))) (lV rfl (dA (sG 14 kA) (dA (sG 15 kA) jE)))) (av (sS 16 kA (bz iJ (ae 15) (ae 14))) (av (cz (cb (g_ hr) (ae 11) dh) (aE (sS 16 kA (bz iJ (ae 13) (ae 15)))) bX) (aE (cy (kL PySem.F.slot_list_append PySem.F.type_list_append cC (ae 12) (aa (cS (aa (cS (aa dh (aa (ae 13) (aa (ae 11) (aa (bO yt hr #[0] (aa (bz cD (bz iJ aB (ae 8)) (ae 16)) aq)) aq))))) (aa (ae 6) aq))) aq)))))))) bX) (av (cz (cb (g_ hr) (bM dF B.len bE (aa (ae 3) aq)) aB) (aE (cy (kL PySem.F.slot_list_append PySem.F.type_list_append cC (ae 12) (aa (cS (aa (cS (aa dh aq)) (aa (ae 7) aq))) aq)))) bX) (av (cz (cb (g_ hr) (bM dF B.len bE (aa (ae 4) aq)) aB) (aE (cy (kL PySem.F.slot_list_append PySem.F.type_list_append cC (ae 12) (aa (cS (aa (cS (aa dh aq)) (aa (ae 7) aq))) aq)))) bX) (aE (bn (ae 12)))))))))))))))))
def UL:FS:=(aK (bf 5 (il "Kept" "reckoned" 1 gk (ah 0) aA)) (aK (mP (hV (ah 3)) (Ec 2 (eG (jy 6) (eG (jy 7) nG))) (aK (fK (BK (dO (b_ 2 (j6 40) (af (b_ 2 nL (af (ah 0) (af (ah 6) aA))) (af (ah 7) aA))))) (cM #[78]) bW) (fK (GJ (BK (dO (b_ 4 q_ (af (ah 0) (af (ah 1) (af (ah 2) (af (ah 4) aA))))))) (BK (dO (b_ 2 (j6 40) (af (il "Kept" "reckoned" 1 gk (ah 0) aA) (af (ah 5) aA)))))) (cM #[78]) bW))) (cM (eC (.bl true)))))
def yg:List W->List ar->R W:=dq 8 UL
theorem Rf(F:iU K "_law_stays" "_law_stays" JO f fd) (jG:iG P w K mg base 1 "Kept" "reckoned" 1 gk)(uC:bV P w K mg base 12 "_law_refused" 2 nL)(rj:bV P w K mg base 40 "_law_same" 2 (j6 40))(uE:bV P w K mg base 41 "_law_stands" 4 q_):c9 P w K mg base #[52] 42 f fd NY (iV K mg 5 yg):=
 bY (k:=41) F A' rfl fun fE A outer s H E hr=>(av (sS 5 A' (pc jG hr #[0] (ae 0))) (av (iF (mR (ae 3)) (lV rfl (dA (sG 6 A') (dA (sG 7 A') jE))) (av (cz (nX (jp (bO rj hr #[0] (aa (bO uC hr #[0] (aa (ae 0) (aa (ae 6) aq))) (aa (ae 7) aq))))) (aE (bn kj)) bX) (aE (cz (xn (Cb (nX (jp (bO uE hr #[0] (aa (ae 0) (aa (ae 1) (aa (ae 2) (aa (ae 4) aq))))))) (xl (nX (jp (bO rj hr #[0] (aa (pc jG hr #[0] (ae 0)) (aa (ae 5) aq)))))))) (aE (bn kj)) bX)))) (aE (bn kj))))
def Of:FS:=(aK (fK (dO (e2 iK (bw dm #[20]) (eI 0))) (cM (eC (.bl true))) bW) (aK (tP (b_ 2 sD (af (ah 2) (af (e2 g9 (bw dm #[20]) (eI 1)) aA))) (Ec 2 (eG (jy 3) (eG (jy 4) nG)))) (aK (bf 5 (b_ 1 sE (af (e2 g9 (e2 cN (e2 g9 (eI 100) (bw dm #[20])) (ah 4)) (ah 3)) aA))) (aK (fK (dO (hU (b_ 2 nL (af (ah 0) (af (dC (af (eC (.str [98,114,97,110,99,104])) (af (e2 g9 (bw dm #[20]) (eI 1)) (af (eC #[53]) (af (ah 5) aA))))) aA))))) (cM #[78]) bW) (cM (b_ 4 q_ (af (ah 0) (af (ah 1) (af (b_ 4 yd (af (ah 2) (af (e2 g9 (bw dm #[20]) (eI 1)) (af (eC #[53]) (af (ah 5) aA))))) (af (eI 2) aA))))))))))
def C4:List W->List ar->R W:=dq 6 Of
theorem Rg(F:iU K "_law_filled_up" "_law_filled_up" JP f fd)(B:Bl mg)(uD:bV P w K mg base 2 "_law_bounds" 2 sD)(z_:bV P w K mg base 3 "_law_branched" 4 yd)(uC:bV P w K mg base 12 "_law_refused" 2 nL)(yt:bV P w K mg base 1 "_law_row_of" 1 sE)(uE:bV P w K mg base 41 "_law_stands" 4 q_):c9 P w K mg base #[52] 42 f fd NZ (iV K mg 3 C4):=
 bY (k:=41) F Ba rfl fun fE A outer s H E hr=>(av (cz (cb (g_ hr) (bM dF B.len bE #[35]) aB) (aE (bn kj)) bX) (av (xq (bO uD hr #[0] (aa (ae 2) (aa (bz iJ (bM dF B.len bE #[35]) aB) aq))) (lV rfl (dA (sG 3 Ba) (dA (sG 4 Ba) jE)))) (av (sS 5 Ba (bO yt hr #[0] (aa (bz iJ (bz cD (bz iJ aB (bM dF B.len bE #[35])) (ae 4)) (ae 3)) aq))) (av (cz (jf (bO uC hr #[0] (aa (ae 0) (aa (cS (aa dh (aa (bz iJ (bM dF B.len bE #[35]) aB) (aa dh (aa (ae 5) aq))))) aq)))) (aE (bn kj)) bX) (aE (bn (bO uE hr #[0] (aa (ae 0) (aa (ae 1) (aa (bO z_ hr #[0] (aa (ae 2) (aa (bz iJ (bM dF B.len bE #[35]) aB) (aa dh (aa (ae 5) aq))))) (aa aB aq)))))))))))
def Og:FS:=(aK (tP (b_ 1 C3 (af (ah 0) aA)) (Ec 3 (eG (jy 1) (eG (jy 2) (eG (jy 3) nG))))) (aK (bf 4 (FP "Kept" 3 ip (af (ah 1) #[20]))) (aK (bf 5 (km aA)) (aK (bf 6 (km aA)) (aK (mP (dU (af (bw GN (af (eI 16) (af (bw Ea (af (eI 3) (af (e2 g9 #[58] (eI 4)) aA))) aA))) aA)) (jy 7) (aK #[18] (aK (bf 8 (b_ 5 v9 (af (ah 0) (af (ah 7) (af (eI 10) (af (ah 2) (af (ah 3) aA))))))) (aK (fK (yE #[82] (dO (e2 yF (bw dm (af (ah 5) aA)) (eI 0)))) (aK (cU (kK bH (ah 6) #[20])) (bf 2 (kK oz (ah 5) aA))) (fK (yE #[71] (dO (e2 yF (bw dm (af (ah 6) aA)) (eI 0)))) (aK (cU (kK bH (ah 5) #[20])) (bf 2 (kK oz (ah 6) aA))) (fK (yE (dO (e2 yF (bw dm (af (ah 8) aA)) (eI 1))) (dO (e2 GQ (bw dm (af (b_ 2 q9 (af (ah 2) (af (ah 8) aA))) aA)) (eI 100)))) (aK (cU (kK bH (ah 5) #[20])) (aK (bf 6 (km aA)) (bf 2 (b_ 2 q9 (af (ah 2) (af (ah 8) aA)))))) Iw))) #[26])))) (cM (b_ 3 C4 (af (ah 4) (af (ah 1) #[20])))))))))
def f_q46:List W->List ar->R W:=dq 9 Og
theorem Rh(F:iU K "law" "law" uh f fd)(B:Bl mg)(mi:Mw P w K mg base 4 "Kept" 3 ip)(KW:bV P w K mg base 3 "_law_bad" 5 yf)(F_:bV P w K mg base 4 "_law_changed" 2 q9)(KB:bV P w K mg base 42 "_law_filled_up" 3 C4)(KJ:bV P w K mg base 3 "_law_planned" 5 v9)(uC:bV P w K mg base 12 "_law_refused" 2 nL)(uE:bV P w K mg base 41 "_law_stands" 4 q_)(KZ:bV P w K mg base 4 "_law_start" 1 C3)(KF:bV P w K mg base 42 "_law_stays" 5 yg):c9 P w K mg base #[52] 43 f fd JQ (iV K mg 1 f_q46):=
 bY (k:=42) F k8 rfl fun fE A outer s H E hr=>(av (xq (bO KZ hr #[0] (aa (ae 0) aq)) (lV rfl (dA (sG 1 k8) (dA (sG 2 k8) (dA (sG 3 k8) jE))))) (av (sS 4 k8 (P8 mi hr #[0] (aa (ae 1) #[35]))) (av (sS 5 k8 (ii aq)) (av (sS 6 k8 (ii aq)) (av (iF (gT B.range (aa (bM Tz B.min boot_min (aa aB (aa (bM Tx B.max boot_max (aa aB (aa (bz iJ #[56] aB) aq))) aq))) aq)) (sG 7 k8) (av (cz (nX (jp (bO KF hr #[0] (aa (ae 4) (aa (ae 1) (aa (ae 2) (aa (bO KW hr #[0] (aa (ae 0) (aa (ae 7) (aa (ae 2) (aa (ae 5) (aa (ae 6) aq)))))) (aa (ae 7) aq)))))))) (aE (bn kj)) bX) (av (sS 8 k8 (bO KJ hr #[0] (aa (ae 0) (aa (ae 7) (aa aB (aa (ae 2) (aa (ae 3) aq))))))) (av (cz (xn (u0 (cb (g_ hr) (bp (ae 8) aB) dh) (rN (cb u4 (bM dF B.len bE (aa (ae 5) aq)) aB)))) (av (cy (kL PySem.F.slot_list_append PySem.F.type_list_append cC (ae 6) #[35])) (aE (sS 2 k8 (sg PySem.F.slot_list_pop PySem.F.type_list_pop nY (ae 5))))) (aE (cz (xn (u0 (cb (g_ hr) (bp (ae 8) aB) dh) (rN (cb u4 (bM dF B.len bE (aa (ae 6) aq)) aB)))) (av (cy (kL PySem.F.slot_list_append PySem.F.type_list_append cC (ae 5) #[35])) (aE (sS 2 k8 (sg PySem.F.slot_list_pop PySem.F.type_list_pop nY (ae 6))))) (aE (cz (xn (u0 (cb u4 (bM dF B.len bE (aa (ae 8) aq)) aB) (rN (cb TJ (bM dF B.len bE (aa (bO F_ hr #[0] (aa (ae 2) (aa (ae 8) aq))) aq)) aB)))) (av (cy (kL PySem.F.slot_list_append PySem.F.type_list_append cC (ae 5) #[35])) (av (sS 6 k8 (ii aq)) (aE (sS 2 k8 (bO F_ hr #[0] (aa (ae 2) (aa (ae 8) aq))))))) (aE Ch)))))) (aE (cz (xn (Cb (jf (bO uC hr #[0] (aa (ae 4) (aa (ae 8) aq)))) (xl (nX (jp (bO uE hr #[0] (aa (ae 4) (aa (ae 1) (aa (ae 2) (aa (ae 7) aq)))))))))) (aE (bn kj)) bX)))))) (aE (bn (bO KB hr #[0] (aa (ae 4) (aa (ae 1) #[35]))))))))))
end
abbrev lO(n:Nat):Option W:=some (.loc n)
abbrev iO(q:Int):Option W:=some (.int q)
theorem Ri(ns:List α)(hl:0<ns.length)(k:Int):∃c∈ns,uV ns (k%((ns.length:Nat):Int))=some c:=by
 have h0:0<=k%((ns.length:Nat):Int):=jM _ #[0]
 have h1:k%((ns.length:Nat):Int)<ns.length:=nr _ #[0]
 obtain⟨m,hm⟩:=Int.eq_ofNat_of_zero_le h0
 rw[hm]at h1 ⊢
 have h2:m<ns.length:=by omega
 exact⟨ns[m],ef _,gA (by simp[h2])⟩
theorem rS(h:st[n]?=some (.ro #[33]))(k:Int):∃c,nK [.loc n,.int k] st=.ok (.int c) st:=by
 by_cases hn:ns=[]
 ·subst hn
  refine⟨0,?_⟩
  apply rQ;apply sX;apply cY
  ·(repeat' (first|with_reducible exact jr (t6 h)|walk_at "ev1"))
  ·(walk_at "evs")
 ·have hl:0<ns.length:=List.length_pos_iff.mpr hn
  obtain⟨c,hc,e⟩:=Ri #[33] (by simpa using hl) k
  obtain⟨c,_,rfl⟩:=dy.mp hc
  refine⟨c,?_⟩
  apply rQ;apply cO
  ·apply bZ
   ·(repeat' (first|with_reducible exact jr (t6 h)|walk_at "ev1"))
    rw[bh,aF];omega
   ·(walk_at "evs")
  ·(repeat' (first|with_reducible exact jr (t6 h)|with_reducible exact kz (t6 h) e|walk_at "ev1"))
   rw[aF];omega
theorem JX(c k s:Int)(hk:-(2^64)<k/\k<2^64)(st:List ar):∃r,0<=r/\zJ [.int c,.int k,.int s] st=.ok (.int r) st:=by
 have big:∀q:Int,0<=q%2147483647/\q%2147483647<2147483647:=fun q=>⟨jM _ #[3],nr _ #[3]⟩
 refine⟨(((c+7*k*k+13*k+s)*69621%2147483647*((c+7*k*k+13*k+s)*69621%2147483647/1009+3)+31*k+s)%2147483629*48271)%1000000007,jM _ #[3],?_⟩
 apply rQ;apply cO
 ·(walk_at "evs")<;>first|exact .inl #[3]|exact .inr #[3]|exact .inr hk
 ·(walk_at "evs")<;>first|exact .inl #[3]|exact .inr #[3]|exact .inl (by have:=big ((c+7*k*k+13*k+s)*69621);omega)
theorem oK(c s:Int)(m:Nat)(hm:m<=1000)(st:List ar):∃ds:List Int,ds.length=m/\(∀d∈ds,0<=d)/\kO [.int c,.int m,.int s] st=.ok #[4] (st++[.lst #[50]]):=by
 suffices hh:kX (AJ fun w bt=>∃j x,w=.loc (st.length+j)/\bt=st++x/\j=0/\∃ds:List Int,x=[.lst #[50]]/\ds.length=m/\∀d∈ds,0<=d) (N2 ([W.int c,.int m,.int s].map some++List.replicate (6-3) none) st) by
  obtain⟨j,x,⟨rfl,ds,rfl,h1,h2⟩,e⟩:=t8 hh
  exact⟨ds,h1,h2,e⟩
 apply az
 ·(walk_at "evs")
 apply az
 ·(walk_at "evs")
 have main:∀r0:Int,kX (AJ fun w bt=>∃j x,w=.loc (st.length+j)/\bt=st++x/\j=0/\∃ds:List Int,x=[.lst #[50]]/\ds.length=m/\∀d∈ds,0<=d)
   (aK (mP (dU #[30]) (jy 5) #[74]) (cM (ah 3))
   [some (.int c),some (.int m),some (.int s),some #[4],some (.int r0),none] (st++[.lst []])):=by
  intro r0
  refine gq (fun i ρ bt=>∃(r:Int) (o:Option W) (ds:List Int),ρ=[some (.int c),some (.int m),some (.int s),some #[4],some (.int r),o]/\bt=st++[.lst #[50]]/\ds.length=i/\∀d∈ds,0<=d) (jA (by(walk_at "evs");rfl) #[0])
   ⟨r0,none,[],rfl,rfl,rfl,by simp⟩ #[59] ?_ ?_
  ·rintro i w ρ bt hw ⟨r,o,ds,rfl,rfl,hd,h⟩
   obtain⟨hi,rfl⟩:=kY hw
   refine⟨_,rfl,?_⟩
   have iP:(st++[ar.lst #[50]])[st.length]?=some (.lst #[50]):=by rw[d_];rfl
   have hsh:#[50].length<oy:=by rw[aF,hd];show i<1000000;omega
   by_cases hr:0<r
   ·apply qL
    ·(walk_at "evs");simpa using hr
    apply az
    ·(repeat' (first|with_reducible exact dE iP|with_reducible exact p5 iP hsh|walk_at "ev1"))
    rw[gj]
    apply dG
    ·(walk_at "evs")
    ·refine⟨_,_,rfl,r/64,_,ds++[r%64],rfl,by simp,by simp[hd],fun d hd'=>?_⟩
     rcases aV.mp hd' with hd'|hd'
     ·exact h d hd'
     ·rw[aZ.mp hd'];exact jM _ #[3]
   ·obtain⟨q,hq,e⟩:=JX c (0+i) s #[0] (st++[ar.lst #[50]])
    apply mT
    ·(walk_at "evs");simpa using hr
    apply dG
    ·(repeat' (first|with_reducible exact dE iP|with_reducible exact p5 iP hsh|with_reducible exact e|walk_at "ev1"))
    ·refine⟨_,_,rfl,r,_,ds++[q],rfl,by rw[gj];simp,by simp[hd],fun d hd'=>?_⟩
     rcases aV.mp hd' with hd'|hd'
     ·exact h d hd'
     ·rw[aZ.mp hd'];exact hq
  ·rintro ρ bt ⟨r,o,ds,rfl,rfl,hd,h⟩
   apply bU
   ·(walk_at "evs")
   ·exact⟨_,_,rfl,0,_,rfl,rfl,rfl,ds,rfl,by rw[hd];simpa using fj 0 m,h⟩
 by_cases hc:(10:Int)^18<=c
 ·apply az
  ·apply cY
   ·(walk_at "evs")<;>simpa using hc
   ·(walk_at "evs")
  ·exact main c
 ·apply az
  ·apply bZ
   ·(walk_at "evs")<;>simpa using hc
   ·(walk_at "evs")
  ·exact main 0
abbrev LL:List Nat:=[65,66,67,68,69,70,71,72,73,74,75,76,77,78,79,80,81,82,83,84,85,86,87,88,89,90,97,98,99,100,101,102,103,104,105,106,107,108,109,110,111,112,113,114,115,116,117,118,119,120,121,122]
theorem MC(c s:Int)(m:Nat)(hm:m<=52)(st:List ar):∃l:List Nat,l.length=m/\l.Nodup/\(∀d∈l,d∈LL)/\zK [.int c,.int m,.int s] st=.ok (.str l) st:=by
 suffices hh:kX (AJ fun w bt=>(∃x,bt=st++x)/\undWs st.length [w]=true/\∃l:List Nat,w=.str l/\l.length=m/\l.Nodup/\∀d∈l,d∈LL) (N3 ([W.int c,.int m,.int s].map some++List.replicate (7-3) none) st) by
  obtain⟨w,⟨l,rfl,h1,h2,h3⟩,e⟩:=t7 hh
  exact⟨l,h1,h2,h3,e⟩
 obtain⟨ds,h1,h2,e⟩:=oK c s m #[0] st
 apply az
 ·(walk_at "evs")
 apply az
 ·(walk_at "evs")
 have iP:lstOf (st++[ar.lst #[50]]) st.length=some #[50]:=bN (by rw[d_];rfl)
 refine gq (fun i ρ bt=>∃(r f:List Nat) (o o2:Option W),ρ=[iO c,iO m,iO s,some (.str r),some (.str f),o,o2]/\bt=st++[.lst #[50]]/\f.length=i/\r.length+i=52/\(f++r).Perm LL) (wL (by(repeat' (first|with_reducible exact e|walk_at "ev1"))) iP)
  ⟨LL,[],none,none,rfl,rfl,rfl,rfl,.refl _⟩ (fun i ρ bt h=>?_) ?_ ?_
 ·obtain⟨r,f,o,o2,rfl,rfl,_⟩:=h
  exact iP
 ·rintro i w ρ bt hw ⟨r,f,o,o2,rfl,rfl,hf,hr,hfl⟩
  obtain⟨d,hd,rfl⟩:∃d,ds[i]?=some d/\w=.int d:=by
   simp only[aI,fM]at hw
   obtain⟨d,h1,rfl⟩:=hw
   exact⟨d,h1,rfl⟩
  have hi:i<m:=by rw[<- h1];exact(ax.mp hd).1
  obtain⟨q,hq,eq⟩:=gJ (q:=d) (n:=r.length) #[0]
  have hL:r.length<=oy:=by show _<=1000000;omega
  have hLf:f.length<=oy:=by show _<=1000000;omega
  have hat:uV r (d%(r.length:Int))=some r[q]:=by rw[eq];exact gA (by simp[hq])
  refine⟨_,rfl,?_⟩
  apply az
  ·(repeat' (first|with_reducible exact AG hL|walk_at "ev1"))
   show 0<(r.length:Int);omega
  apply az
  ·have ha:f.length+[r[q]].length<=oy:=by show _+1<=1000000;omega
   (repeat' (first|with_reducible exact IS hL hat|with_reducible exact Em ha|walk_at "ev1"))
  apply dG
  ·(repeat' (first|with_reducible exact IT hL|walk_at "ev1"))
   rw[eq,pd #[0],show((q:Int)+1)=((q+1:Nat):Int)from rfl,t9 #[0],aP,cF]
   show _<=1000000;omega
  ·refine⟨_,_,rfl,_,_,_,_,rfl,rfl,by simp[hf],?_,?_⟩
   ·rw[eq,pd #[0],show((q:Int)+1)=((q+1:Nat):Int)from rfl,t9 #[0],aj,aP,cF]
    omega
   ·rw[eq,pd #[0],show((q:Int)+1)=((q+1:Nat):Int)from rfl,t9 #[0]]
    refine List.Perm.trans ?_ hfl
    rw[al]
    refine qu f ?_
    have e:r=r.take q++r[q]::r.drop (q+1):=by rw[<- gg hq,List.take_append_drop]
    have e2:(r[q]::(r.take q++r.drop (q+1))).Perm r:=(List.perm_middle.symm).trans (by rw[<- e])
    exact e2
 ·rintro ρ bt ⟨r,f,o,o2,rfl,rfl,hf,hr,hfl⟩
  apply bU
  ·(walk_at "evs")
  ·exact⟨_,_,rfl,⟨_,rfl⟩,rfl,f,rfl,by rw[hf];simpa using h1,(nS.mp (hfl.nodup_iff.mpr #[3])).1,fun d hd=>hfl.mem_iff.mp (bJ _ hd)⟩
structure Pl where
 b:Nat
 m:List Nat
def Pl.w(p:Pl):W:=.tup [.int p.b,.str p.m]
def bF(t:List Pl):W:=.tup (t.map Pl.w)
inductive St(n:Nat):List Nat->Nat->List Nat->Nat->Option Nat×Option Nat->Prop
 |z {S:List Nat}:St n S 0 (1::S) 1 (none,none)
 |l {a:Nat} {S:List Nat}:St n (a::S) 1 ((1+a)::S) (1+a) (some (n-1),none)
 |r {a:Nat} {S:List Nat}:St n (a::S) 2 ((1+a)::S) (1+a) (none,some (n-1))
 |b {c a:Nat} {S:List Nat}:St n (c::a::S) 3 ((1+c+a)::S) (1+c+a) (some (n-1-c),some (n-1))
inductive Gr:List Pl->List Nat->List Nat->List #[9]->Prop
 |nil:Gr [] [] [] []
 |snoc {ps:List Pl} {S S' sz:List Nat} {lk:List (Option Nat×Option Nat)} {b k:Nat} {m:List Nat} {x:Option Nat×Option Nat}:Gr ps S sz lk->St ps.length S b S' k x->Gr (ps++[⟨b,m⟩]) S' (sz++[k]) (lk++[x])
def At(sz:List Nat):List Nat->Nat->Prop
 |[],n=>n=0
 |a::S,n=>sz[n-1]?=some a/\a<=n/\1<=a/\At sz S (n-a)
theorem At.app{sz x:List Nat}:∀{S:List Nat} {n:Nat},n<=sz.length->At sz S n->At (sz++x) S n
 |[],_,_,h=>h
 |a::S,n,hn,⟨h1,h2,h3,h4⟩=>⟨by rw[aN (by omega)];exact h1,h2,h3,At.app (by omega) h4⟩
theorem St.at'{sz S':List Nat}{b:Nat}{x:Option Nat×Option Nat}(h:St n S b S' k x)(hn:sz.length=n)(ha:At sz S n):At (sz++[k]) S' (n+1):=by
 have hk:(sz++[k])[n+1-1]?=some k:=by rw[Nat.add_sub_cancel,<- hn];simp
 cases h with
 |z=>exact⟨hk,by omega,by omega,by rw[Nat.add_sub_cancel];exact ha.app (by omega)⟩
 |@l a S=>exact⟨hk,by have:=ha.2.1;omega,by omega,by rw[show n+1-(1+a)=n-a by omega];exact ha.2.2.2.app (by omega)⟩
 |@r a S=>exact⟨hk,by have:=ha.2.1;omega,by omega,by rw[show n+1-(1+a)=n-a by omega];exact ha.2.2.2.app (by omega)⟩
 |@b c a S=>exact⟨hk,by have:=ha.2.1;have:=ha.2.2.2.2.1;omega,by omega,by rw[show n+1-(1+c+a)=n-c-a by omega];exact ha.2.2.2.2.2.2.app (by omega)⟩
theorem Gr.ok{ps:List Pl}{sz:List Nat}{lk:List #[9]}(h:Gr ps S sz lk):sz.length=ps.length/\lk.length=ps.length/\At sz S ps.length:=by
 induction h with
 |nil=>exact⟨rfl,rfl,rfl⟩
 |snoc _ hs ih=>
  obtain⟨h1,h2,h3⟩:=ih
  exact⟨by simp[h1],by simp[h2],by rw[aj];exact hs.at' h1 h3⟩
theorem Gr.step{ps:List Pl}{sz:List Nat}{lk:List #[9]}(h:Gr ps S sz lk):∀i,i<ps.length->∃S1 S2 p k x,Gr (ps.take i) S1 (sz.take i) (lk.take i)/\ps[i]?=some p/\sz[i]?=some k/\lk[i]?=some x/\St i S1 p.b S2 k x/\Gr (ps.take (i+1)) S2 (sz.take (i+1)) (lk.take (i+1)):=by
 induction h with
 |nil=>intro i hi;simp at hi
 |@snoc ps S S' sz lk b k m x hg hs ih=>
  intro i hi
  obtain⟨l1,l2,_⟩:=hg.ok
  by_cases e:i=ps.length
  ·subst e
   refine⟨S,S',⟨b,m⟩,k,x,?_,by simp,by rw[<- l1];simp,by rw[<- l2];simp,hs,?_⟩
   ·rw[gZ,<- l1,gZ]
    rw[l1,<- l2,gZ];exact hg
   ·rw[bQ #[15],bQ (by simp[l1]),bQ (by simp[l2])]
    exact .snoc hg hs
  ·have hi':i<ps.length:=by simp at hi;omega
   obtain⟨S1,S2,p,k1,x1,g1,q1,q2,q3,hs1,g2⟩:=ih i hi'
   refine⟨S1,S2,p,k1,x1,?_,by rw[aN hi'];exact q1,by rw[aN #[0]];exact q2,by rw[aN #[0]];exact q3,hs1,?_⟩
   ·rw[cK #[0],cK #[0],cK #[0]];exact g1
   ·rw[cK #[0],cK #[0],cK #[0]];exact g2
theorem Gr.cut{ps:List Pl}{sz:List Nat}{lk:List #[9]}(h:Gr ps S sz lk)(hi:i<ps.length):∃(p:Pl) (L R:Nat),ps[i]?=some p/\sz[i]?=some (1+L+R)/\L+R<=i/\p.b<=3/\(0<L↔p.b%2=1)/\(0<R↔2<=p.b)/\(2<=p.b->1<=i/\sz[i-1]?=some R):=by
 obtain⟨S1,S2,p,k,x,g1,q1,q2,q3,hs,_⟩:=h.step i hi
 obtain⟨l1,l2,ha⟩:=g1.ok
 have gI:(ps.take i).length=i:=by rw[aP];omega
 rw[gI]at ha
 obtain⟨b,m⟩:=p
 have get:∀j a,1<=i->j=i-1->(sz.take i)[j]?=some a->sz[j]?=some a:=fun j a hi1 hj e=>by
  rw[cZ #[0]]at e;exact e
 cases hs with
 |z=>exact⟨⟨0,m⟩,0,0,q1,q2,by omega,by simp,by simp,by simp,by simp⟩
 |@l a S=>
  have ha1:(sz.take i)[i-1]?=some a:=ha.1
  have ha2:a<=i:=ha.2.1
  have ha3:1<=a:=ha.2.2.1
  exact⟨⟨1,m⟩,a,0,q1,q2,by omega,by simp,by simp;omega,by simp,by simp⟩
 |@r a S=>
  have ha1:(sz.take i)[i-1]?=some a:=ha.1
  have ha2:a<=i:=ha.2.1
  have ha3:1<=a:=ha.2.2.1
  exact⟨⟨2,m⟩,0,a,q1,by rw[q2],by omega,by simp,by simp,by simp;omega,fun _=>⟨by omega,get _ _ #[0] rfl ha1⟩⟩
 |@b c a S=>
  have ha1:(sz.take i)[i-1]?=some c:=ha.1
  have ha2:c<=i:=ha.2.1
  have ha3:1<=c:=ha.2.2.1
  have hb2:a<=i-c:=ha.2.2.2.2.1
  have hb3:1<=a:=ha.2.2.2.2.2.1
  exact⟨⟨3,m⟩,a,c,q1,by rw[q2];congr 1<;>omega,by omega,by simp,by simp;omega,by simp;omega,fun _=>⟨by omega,get _ _ #[0] rfl ha1⟩⟩
theorem UM{b:Nat}(h:b<=3)(st:List ar):Ho false (.int b) (.tup [.int 1,.int 3]) st=.ok (.bl (decide (b%2=1))) st:=by
 obtain rfl|rfl|rfl|rfl:b=0\/b=1\/b=2\/b=3:=by omega
 all_goals rfl
theorem UN{b:Nat}(h:b<=3)(st:List ar):Ho false (.int b) (.tup [.int 2,.int 3]) st=.ok (.bl (decide (2<=b))) st:=by
 obtain rfl|rfl|rfl|rfl:b=0\/b=1\/b=2\/b=3:=by omega
 all_goals rfl
theorem MD{p:Pl}(h:p.b<=3)(st:List ar):Bb [p.w] st=.ok (.bl (decide (p.b%2=1))) st:=by
 have:=UM h st
 have i0:bB p.w (.int 0) st=.ok (.int p.b) st:=rfl
 apply eV
 apply bU
 ·(walk_at "evs")
 ·walk_at "8"
theorem C5{p:Pl}(h:p.b<=3)(st:List ar):x8 [p.w] st=.ok (.bl (decide (2<=p.b))) st:=by
 have:=UN h st
 have i0:bB p.w (.int 0) st=.ok (.int p.b) st:=rfl
 apply eV
 apply bU
 ·(walk_at "evs")
 ·walk_at "8"
def oW:Option Nat->W
 |none=>.non
 |some k=>.int k
def jS(x:Option Nat×Option Nat):W:=.tup [oW x.1,oW x.2]
def ke:List Nat->Nat->List Nat
 |[],_=>[]
 |a::S,n=>(n-1)::ke S (n-a)
theorem jk:∀(S:List Nat) (n:Nat),(ke S n).length=S.length
 |[],_=>rfl
 |a::S,n=>by simp[ke,jk S]
theorem At.le{sz:List Nat}:∀{S:List Nat} {n:Nat},At sz S n->S.length<=n
 |[],_,_=>cE _
 |a::S,n,⟨_,h2,h3,h4⟩=>by have:=At.le h4;simp;omega
theorem St.det{S1 S2:List Nat}{b k1 k2:Nat}{x1 x2:Option Nat×Option Nat}(h1:St n S b S1 k1 x1)(h2:St n S b S2 k2 x2):S1=S2/\k1=k2/\x1=x2:=by
 cases h1<;>cases h2<;>exact⟨rfl,rfl,rfl⟩
theorem Gr.det{ps:List Pl}{sz:List Nat}{lk:List #[9]}(h:Gr ps S sz lk):∀{VR:List Pl} {S' WP:List Nat} {R6:List #[9]},Gr VR S' WP R6->ps=VR->S=S':=by
 induction h with
 |nil=>
  intro VR S' WP R6 h' e
  cases h' with
  |nil=>rfl
  |snoc _ _=>simp at e
 |snoc hg hs ih=>
  intro VR S' WP R6 h' e
  cases h' with
  |nil=>simp at e
  |snoc hg' hs'=>
   have e2:=List.append_inj' e rfl
   have:=ih hg' e2.1
   subst this
   have e3:Pl.mk _ _=Pl.mk _ _:=List.head_eq_of_cons_eq e2.2
   injection e3 with eb em
   subst eb
   rw[<- e2.1]at hs'
   exact(hs.det hs').1
def dg(l:List Nat):List W:=l.map fun k:Nat=>W.int k
section
variable{ps:List Pl}{sz:List Nat}{lk:List #[9]}
theorem um(h:Gr ps S sz lk)(hn:ps.length<=1000)(st:List ar):x9 [bF ps] st=.ok (.tup (lk.map jS)) st:=by
 obtain⟨l1,l2,_⟩:=h.ok
 have hu:∀(l:List #[9]) (n:Nat),undWs n (l.map jS)=true:=by
  intro l n
  induction l with
  |nil=>rfl
  |cons x r ih=>
   obtain⟨a,b⟩:=x
   simp only[bD,undWs,ih,dM,jS,W.und]
   cases a<;>cases b<;>rfl
 refine fC (N:=7) (ws:=[bF ps]) (body:=Uq) ?_ (by simp[undWs,W.und,hu])
 apply az
 ·(walk_at "evs")
 apply az
 ·(walk_at "evs")
 rw[show(st++[ar.lst []]).length=st.length+1 by simp,show st++[ar.lst []]++[ar.lst []]=st++[ar.lst [],ar.lst []] by simp]
 refine gq (fun i ρ bt=>∃(S1:List Nat) (o3 o4 o5 o6:Option W),ρ=[some (bF ps),some #[4],some #[36],o3,o4,o5,o6]/\bt=st++[.lst #[42],.lst (dg (ke S1 i).reverse)]/\Gr (ps.take i) S1 (sz.take i) (lk.take i)/\i<=ps.length) (k:=(nH (ps.map Pl.w),none))
  (by show sT (af (ah 0) aA) _ _=_;unfold sT;rfl) ⟨[],none,none,none,none,rfl,rfl,.nil,cE _⟩ #[59] ?_ ?_
 ·rintro i w ρ bt hw ⟨S1,o3,o4,o5,o6,rfl,rfl,hg,hi⟩
  obtain⟨y,hy,rfl⟩:=u9 hw
  have hip:i<ps.length:=by have:=(ax.mp hy).1;simpa using this
  obtain⟨S1',S2,p,k,x,g1,q1,q2,q3,hs,g2⟩:=h.step i hip
  rw[aI,q1]at hy
  cases hy
  refine⟨_,rfl,?_⟩
  have hS:=hg.det g1 rfl
  subst hS
  obtain⟨lz,ll,ha⟩:=g1.ok
  have hti:(ps.take i).length=i:=by rw[aP];omega
  rw[hti]at ha lz ll
  have hSl:=ha.le
  obtain⟨p',L,R,q1',q2',_,hb3,hL,hR,_⟩:=h.cut hip
  rw[q1]at q1';cases q1'
  have hlk:lk.take (i+1)=lk.take i++[x]:=by rw[kI,q3];rfl
  have hrt:=fun st=>C5 (p:=p) hb3 st
  have hlf:=fun st=>MD (p:=p) hb3 st
  have pop:∀(A:List W) (B:List Nat) (q:Nat),oz #[36] [] (st++[.lst A,.lst (dg (q::B).reverse)])=.ok (.int q) (st++[.lst A,.lst (dg B.reverse)]):=fun A B q=>by
   have hc:(st++[ar.lst A,.lst (dg (q::B).reverse)])[st.length+1]?=some (.lst (dg B.reverse++[.int q])):=by rw[ia];simp[dg]
   rw[xN hc,mS];rfl
  have isl:∀(A:List W) (B:List W),mQ (st++[.lst A,.lst B]) #[36]=true:=fun A B=>dE (by rw[ia];rfl)
  have isl0:∀(A:List W) (B:List W),mQ (st++[.lst A,.lst B]) #[4]=true:=fun A B=>dE (by rw[d_];rfl)
  have app:∀(A:List W) (B:List Nat) (q:Nat),B.length<1000->bH #[36] [.int q] (st++[.lst A,.lst (dg B.reverse)])=.ok .non (st++[.lst A,.lst (dg (q::B).reverse)]):=fun A B q hB=>by
   have hc:(st++[ar.lst A,.lst (dg B.reverse)])[st.length+1]?=some (.lst (dg B.reverse)):=by rw[ia];rfl
   rw[p5 hc (by simp[dg];show _<1000000;omega),mS]
   simp[dg]
  have app0:∀(B:List W) (w:W),bH #[4] [w] (st++[.lst #[42],.lst B])=.ok .non (st++[.lst ((lk.take i).map jS++[w]),.lst B]):=fun B w=>by
   have hc:(st++[ar.lst #[42],.lst B])[st.length]?=some (.lst #[42]):=by rw[d_];rfl
   rw[p5 hc (by simp;show _<1000000;omega),gj];rfl
  have lg:∀(o3 o4 o5 o6:Option W) (B:List Nat),B=ke S2 (i+1)->My (fun ρ bt=>∃(S1:List Nat) (o3 o4 o5 o6:Option W),ρ=[some (bF ps),some #[4],some #[36],o3,o4,o5,o6]/\bt=st++[.lst ((lk.take (i+1)).map jS),.lst (dg (ke S1 (i+1)).reverse)]/\Gr (ps.take (i+1)) S1 (sz.take (i+1)) (lk.take (i+1))/\i+1<=ps.length)
    (.nx [some (bF ps),some #[4],some #[36],o3,o4,o5,o6] (st++[.lst ((lk.take i).map jS++[jS x]),.lst (dg B.reverse)])):=by
   rintro o3 o4 o5 o6 B rfl
   exact⟨_,_,rfl,S2,_,_,_,_,rfl,by rw[hlk];simp,g2,by omega⟩
  obtain⟨b,m⟩:=p
  have hiS:∀T:List Nat,T.length<=i->(ke T i).length<1000:=fun T hT=>by rw[jk];omega
  cases hs with
  |@z=>
   have hr:x8 [(Pl.mk 0 m).w]=fun st=>.ok (.bl false) st:=funext hrt
   have hl:Bb [(Pl.mk 0 m).w]=fun st=>.ok (.bl false) st:=funext hlf
   have a1:=app #[42] (ke S1 i) i (hiS _ hSl)
   have a2:=app0 (dg (i::ke S1 i).reverse) (.tup [.non,.non])
   apply az
   ·apply be
    apply t5
    ·(repeat' (first|with_reducible exact nu hr _|walk_at "ev1"))
    ·(walk_at "evs")
   apply az
   ·apply be
    apply t5
    ·(repeat' (first|with_reducible exact nu hl _|walk_at "ev1"))
    ·(walk_at "evs")
   apply az
   ·(repeat' (first|with_reducible exact isl _ _|walk_at "ev1"))
   apply dG
   ·(repeat' (first|with_reducible exact isl0 _ _|walk_at "ev1"))
   ·exact lg _ _ _ _ (i::ke S1 i) rfl
  |@l a S=>
   have hr:x8 [(Pl.mk 1 m).w]=fun st=>.ok (.bl false) st:=funext hrt
   have hl:Bb [(Pl.mk 1 m).w]=fun st=>.ok (.bl true) st:=funext hlf
   have hSl':S.length<=i:=by simp at hSl;omega
   have p1:=pop #[42] (ke S (i-a)) (i-1)
   have a1:=app #[42] (ke S (i-a)) i (by rw[jk];omega)
   have a2:=app0 (dg (i::ke S (i-a)).reverse) (.tup [.int (i-1:Nat),.non])
   apply az
   ·apply be
    apply t5
    ·(repeat' (first|with_reducible exact nu hr _|walk_at "ev1"))
    ·(walk_at "evs")
   apply az
   ·apply be
    apply t0
    ·(repeat' (first|with_reducible exact nu hl _|walk_at "ev1"))
    ·exact iZ kv (isl _ _) aM p1
   apply az
   ·(repeat' (first|with_reducible exact isl _ _|walk_at "ev1"))
   apply dG
   ·(repeat' (first|with_reducible exact isl0 _ _|walk_at "ev1"))
   ·exact lg _ _ _ _ (i::ke S (i-a)) (by simp only[ke];congr 1;congr 1;omega)
  |@r a S=>
   have hr:x8 [(Pl.mk 2 m).w]=fun st=>.ok (.bl true) st:=funext hrt
   have hl:Bb [(Pl.mk 2 m).w]=fun st=>.ok (.bl false) st:=funext fun st=>(hlf st).trans (by rw[show decide ((Pl.mk 2 m).b%2=1)=false from by simp])
   have hSl':S.length<=i:=by simp at hSl;omega
   have p1:=pop #[42] (ke S (i-a)) (i-1)
   have a1:=app #[42] (ke S (i-a)) i (by rw[jk];omega)
   have a2:=app0 (dg (i::ke S (i-a)).reverse) (.tup [.non,.int (i-1:Nat)])
   apply az
   ·apply be
    apply t0
    ·(repeat' (first|with_reducible exact nu hr _|walk_at "ev1"))
    ·exact iZ kv (isl _ _) aM p1
   apply az
   ·apply be
    apply t5
    ·(repeat' (first|with_reducible exact nu hl _|walk_at "ev1"))
    ·(walk_at "evs")
   apply az
   ·(repeat' (first|with_reducible exact isl _ _|walk_at "ev1"))
   apply dG
   ·(repeat' (first|with_reducible exact isl0 _ _|walk_at "ev1"))
   ·exact lg _ _ _ _ (i::ke S (i-a)) (by simp only[ke];congr 1;congr 1;omega)
  |@b c a S=>
   have hr:x8 [(Pl.mk 3 m).w]=fun st=>.ok (.bl true) st:=funext hrt
   have hl:Bb [(Pl.mk 3 m).w]=fun st=>.ok (.bl true) st:=funext fun st=>(hlf st).trans (by rw[show decide ((Pl.mk 3 m).b%2=1)=true from by simp])
   have hSl':S.length<=i:=by simp at hSl;omega
   have hca:(i-c-1)=(i-1-c):=by omega
   have p1:=pop #[42] ((i-1-c)::ke S (i-c-a)) (i-1)
   have p2:=pop #[42] (ke S (i-c-a)) (i-1-c)
   have a1:=app #[42] (ke S (i-c-a)) i (by rw[jk];omega)
   have a2:=app0 (dg (i::ke S (i-c-a)).reverse) (.tup [.int (i-1-c:Nat),.int (i-1:Nat)])
   have ht:ke (c::a::S) i=(i-1)::(i-1-c)::ke S (i-c-a):=by simp only[ke,hca]
   rw[ht]
   apply az
   ·apply be
    apply t0
    ·(repeat' (first|with_reducible exact nu hr _|walk_at "ev1"))
    ·exact iZ kv (isl _ _) aM p1
   apply az
   ·apply be
    apply t0
    ·(repeat' (first|with_reducible exact nu hl _|walk_at "ev1"))
    ·exact iZ kv (isl _ _) aM p2
   apply az
   ·(repeat' (first|with_reducible exact isl _ _|walk_at "ev1"))
   apply dG
   ·(repeat' (first|with_reducible exact isl0 _ _|walk_at "ev1"))
   ·exact lg _ _ _ _ (i::ke S (i-c-a)) (by simp only[ke];congr 1;congr 1;omega)
 ·rintro ρ bt ⟨S1,o3,o4,o5,o6,rfl,rfl,hg,hi⟩
  have gI:(nH (ps.map Pl.w)).length=ps.length:=by simp[nH]
  have hc:(st++[ar.lst ((lk.take (nH (ps.map Pl.w),(none:Option (Nat×List W))).1.length).map jS),.lst (dg (ke S1 (nH (ps.map Pl.w),(none:Option (Nat×List W))).1.length).reverse)])[st.length]?=some (.lst (lk.map jS)):=by
   rw[d_]
   show some (ar.lst ((lk.take (nH (ps.map Pl.w)).length).map jS))=_
   rw[gI,bQ #[0]]
  apply bU
  ·(repeat' (first|with_reducible exact n5 (bN hc)|walk_at "ev1"))
  ·exact⟨_,_,rfl,rfl,_,rfl⟩
end
theorem md(t:List Pl)(n:Nat):(bF t).und n=true:=by
 unfold bF W.und
 induction t with
 |nil=>rfl
 |cons x r ih=>simp only[bD,undWs,ih,dM];simp[Pl.w,W.und,undWs]
theorem gD(a:List Pl)(st:List ar):dm [bF a] st=.ok (.int a.length) st:=by
 unfold bF
 rw[xM,aF]
theorem uo{a:List Pl}{p:Pl}(h:a[q]?=some p)(st:List ar):bB (bF a) (.int q) st=.ok p.w st:=nJ (gA (by simp[h]))
theorem EC(p:Pl)(st:List ar):bB p.w (.int 1) st=.ok (.str p.m) st:=rfl
theorem Rj(p:Pl)(st:List ar):bB p.w (.int 0) st=.ok (.int p.b) st:=rfl
section
variable{ps:List Pl}{sz:List Nat}{lk:List #[9]}
theorem G0(h:Gr ps S sz lk)(hn:ps.length<=1000)(st:List ar):∃x,(∃A,x=[ar.lst A,.lst (lk.map jS)])/\CZ [bF ps] st=.ok #[36] (st++x):=by
 obtain⟨l1,l2,_⟩:=h.ok
 suffices hh:kX (AJ fun w bt=>∃j x,w=.loc (st.length+j)/\bt=st++x/\j=1/\∃A,x=[ar.lst A,.lst (lk.map jS)]) (N6 ([bF ps].map some++List.replicate (6-1) none) st) by
  obtain⟨j,x,⟨rfl,h1⟩,e⟩:=t8 hh
  exact⟨x,h1,e⟩
 apply az
 ·(walk_at "evs")
 apply az
 ·(walk_at "evs")
 rw[show(st++[ar.lst []]).length=st.length+1 by simp,show st++[ar.lst []]++[ar.lst []]=st++[ar.lst [],ar.lst []] by simp]
 refine gq (fun i ρ bt=>∃(S1:List Nat) (o3 o4 o5:Option W),ρ=[some (bF ps),some #[4],some #[36],o3,o4,o5]/\bt=st++[.lst (dg (ke S1 i).reverse),.lst #[42]]/\Gr (ps.take i) S1 (sz.take i) (lk.take i)/\i<=ps.length)
  (jA (q:=(ps.length:Int)) (st1:=st++[ar.lst [],ar.lst []]) (ak (bR kn (gD ps _)) aM) #[0]) ⟨[],none,none,none,rfl,rfl,.nil,cE _⟩ #[59] ?_ ?_
 ·rintro i w ρ bt hw ⟨S1,o3,o4,o5,rfl,rfl,hg,hi⟩
  obtain⟨hip,rfl⟩:=kY hw
  rw[cG]at hip
  obtain⟨S1',S2,p,k,x,g1,q1,q2,q3,hs,g2⟩:=h.step i hip
  refine⟨_,rfl,?_⟩
  have hS:=hg.det g1 rfl
  subst hS
  obtain⟨lz,ll,ha⟩:=g1.ok
  have hti:(ps.take i).length=i:=by rw[aP];omega
  rw[hti]at ha lz ll
  have hSl:=ha.le
  have hlk:lk.take (i+1)=lk.take i++[x]:=by rw[kI,q3];rfl
  have it:∀s:List ar,bB (bF ps) (.int (0+(i:Int))) s=.ok p.w s:=fun s=>by rw[uL];exact uo q1 s
  have pop:∀(A:List W) (B:List Nat) (q:Nat),oz #[4] [] (st++[.lst (dg (q::B).reverse),.lst A])=.ok (.int q) (st++[.lst (dg B.reverse),.lst A]):=fun A B q=>by
   have hc:(st++[ar.lst (dg (q::B).reverse),.lst A])[st.length]?=some (.lst (dg B.reverse++[.int q])):=by rw[d_];simp[dg]
   rw[xN hc,gj];rfl
  have isl:∀(A:List W) (B:List W),mQ (st++[.lst A,.lst B]) #[36]=true:=fun A B=>dE (by rw[ia];rfl)
  have isl0:∀(A:List W) (B:List W),mQ (st++[.lst A,.lst B]) #[4]=true:=fun A B=>dE (by rw[d_];rfl)
  have app:∀(A:List W) (B:List Nat),B.length<1001->bH #[4] [.int (0+(i:Int))] (st++[.lst (dg B.reverse),.lst A])=.ok .non (st++[.lst (dg (i::B).reverse),.lst A]):=fun A B hB=>by
   have hc:(st++[ar.lst (dg B.reverse),.lst A])[st.length]?=some (.lst (dg B.reverse)):=by rw[d_];rfl
   rw[p5 hc (by simp[dg];show _<1000000;omega),gj]
   simp[dg]
  have app1:∀(B:List W) (w:W),bH #[36] [w] (st++[.lst B,.lst #[42]])=.ok .non (st++[.lst B,.lst ((lk.take i).map jS++[w])]):=fun B w=>by
   have hc:(st++[ar.lst B,.lst #[42]])[st.length+1]?=some (.lst #[42]):=by rw[ia];rfl
   rw[p5 hc (by simp;show _<1000000;omega),mS];rfl
  have T1:∀(k:Bool) (ρ:cL) (s:List ar),decide ((2:Int)<=(p.b:Int))=k->ρ[0]?=some (some (bF ps))->ρ[3]?=some (some (.int (0+(i:Int))))->dO (e2 PQ (e2 bB (e2 bB (ah 0) (ah 3)) (eI 0)) (eI 2)) ρ s=.ok k s:=fun k ρ s e h0 h3=>aR (bq (bq (bq (im h0) (im h3) (it s)) bu (Rj p s)) bu (Cw e))
  have T2:∀(k:Bool) (ρ:cL) (s:List ar),(((p.b:Int)%2)==1)=k->ρ[0]?=some (some (bF ps))->ρ[3]?=some (some (.int (0+(i:Int))))->dO (e2 iK (e2 ij (e2 bB (e2 bB (ah 0) (ah 3)) (eI 0)) (eI 2)) (eI 1)) ρ s=.ok k s:=fun k ρ s e h0 h3=>aR (bq (bq (bq (bq (im h0) (im h3) (it s)) bu (Rj p s)) bu (i6 #[3])) bu (fg e))
  have lg:∀(o3 o4 o5:Option W) (B:List Nat),i::B=ke S2 (i+1)->My (fun ρ bt=>∃(S1:List Nat) (o3 o4 o5:Option W),ρ=[some (bF ps),some #[4],some #[36],o3,o4,o5]/\bt=st++[.lst (dg (ke S1 (i+1)).reverse),.lst ((lk.take (i+1)).map jS)]/\Gr (ps.take (i+1)) S1 (sz.take (i+1)) (lk.take (i+1))/\i+1<=ps.length)
    (.nx [some (bF ps),some #[4],some #[36],o3,o4,o5] (st++[.lst (dg (i::B).reverse),.lst ((lk.take i).map jS++[jS x])])):=by
   rintro o3 o4 o5 B e
   exact⟨_,_,rfl,S2,_,_,_,rfl,by rw[hlk,e];simp,g2,by omega⟩
  have put:∀(lw vK:W) (o3:Option W) (B:List Nat),o3=some (.int (0+(i:Int)))->B.length<1001->jS x=.tup [lw,vK]->i::B=ke S2 (i+1) ->
    kX (My (fun ρ bt=>∃(S1:List Nat) (o3 o4 o5:Option W),ρ=[some (bF ps),some #[4],some #[36],o3,o4,o5]/\bt=st++[.lst (dg (ke S1 (i+1)).reverse),.lst ((lk.take (i+1)).map jS)]/\Gr (ps.take (i+1)) S1 (sz.take (i+1)) (lk.take (i+1))/\i+1<=ps.length))
     (aK (cU (kK bH (ah 2) (af (dC (af (ah 4) (af (ah 5) aA))) aA))) (cU (kK bH (ah 1) (af (ah 3) aA))) [some (bF ps),some #[4],some #[36],o3,some lw,some vK] (st++[.lst (dg B.reverse),.lst #[42]])):=by
   intro lw vK o3 B e3 hB hx hT
   subst e3
   have a1:=app1 (dg B.reverse) (.tup [lw,vK])
   have a2:=app ((lk.take i).map jS++[.tup [lw,vK]]) B hB
   have ff:=lg (some (.int (0+(i:Int)))) (some lw) (some vK) B hT
   rw[hx]at ff
   apply az
   ·exact eJ (iZ kv (isl _ _) (ak (c5 (ak kv kn) #[41]) aM) a1)
   apply dG
   ·exact eJ (iZ kv (isl0 _ _) kn a2)
   ·exact ff
  apply az
  ·exact be bu
  apply az
  ·exact be bu
  obtain⟨b,m⟩:=p
  cases hs with
  |@z=>
   apply bA
   ·exact T1 false _ _ rfl rfl rfl
   apply b6
   apply bA
   ·exact T2 false _ _ rfl rfl rfl
   apply b6
   exact put _ _ _ (ke S1 i) rfl (by rw[jk];omega) rfl rfl
  |@l a S=>
   apply bA
   ·exact T1 false _ _ rfl rfl rfl
   apply b6
   apply az
   ·exact cY (T2 true _ _ rfl rfl rfl) (be (iZ kv (isl0 _ _) aM (pop _ (ke S (i-a)) (i-1))))
   exact put _ _ _ (ke S (i-a)) rfl (by rw[jk];simp at hSl;omega) rfl (by simp only[ke];congr 1;congr 1;omega)
  |@r a S=>
   apply az
   ·exact cY (T1 true _ _ rfl rfl rfl) (be (iZ kv (isl0 _ _) aM (pop _ (ke S (i-a)) (i-1))))
   apply bA
   ·exact T2 false _ _ (by show((2:Int)%2==1)=false;decide) rfl rfl
   apply b6
   exact put _ _ _ (ke S (i-a)) rfl (by rw[jk];simp at hSl;omega) rfl (by simp only[ke];congr 1;congr 1;omega)
  |@b c a S=>
   apply az
   ·exact cY (T1 true _ _ rfl rfl rfl) (be (iZ kv (isl0 _ _) aM (pop _ (ke (a::S) (i-c)) (i-1))))
   apply az
   ·exact cY (T2 true _ _ (by show((3:Int)%2==1)=true;decide) rfl rfl) (be (iZ kv (isl0 _ _) aM (pop _ (ke S (i-c-a)) (i-c-1))))
   exact put _ _ _ (ke S (i-c-a)) rfl (by rw[jk];simp at hSl;omega) (by show W.tup [.int ((i-1-c:Nat):Int),_]=_;rw[show i-1-c=i-c-1 by omega];rfl) (by simp only[ke];congr 1;congr 1;omega)
 ·rintro ρ bt ⟨S1,o3,o4,o5,rfl,rfl,hg,hi⟩
  rw[show(fL 0 (ps.length:Int).toNat,(none:Option (Nat×List W))).fst.length=lk.length by rw[l2];simp[fj],et]
  apply bU
  ·(walk_at "evs")
  ·exact⟨_,_,rfl,1,_,rfl,rfl,rfl,_,rfl⟩
end
theorem uq{s:List ar}{p:Nat}{c:ar}(h:st <+: s)(hp:st.length<=p):st <+: s.set p c:=by
 obtain⟨x,rfl⟩:=h
 rw[show p=st.length+(p-st.length) by omega,mS]
 exact a_ _ _
theorem Bg{s y:List ar}(h:st <+: s):st <+: s++y:=h.trans (a_ _ _)
theorem pre_get{s:List ar}{c:ar}(h:st <+: s)(e:st[i]?=some c):s[i]?=some c:=by
 obtain⟨x,rfl⟩:=h
 exact cV e
theorem eM{s:List ar}{p:Nat}{c d:ar}(h:s[p]?=some d):(s.set p c)[p]?=some c:=by
 rw[cq (ax.mp h).1]
theorem b7{s:List ar}{p:Nat}{c:ar}(h:p≠q):(s.set p c)[q]?=s[q]?:=cW h
theorem gf{s:List ar}{p:Nat}{c:ar}(h:s[p]?=some c):p<s.length:=(ax.mp h).1
theorem c_{s:List ar}{c:ar}:(s++[c])[s.length]?=some c:=by rw[d_];rfl
def zN(l:List Int):List W:=l.map W.int
theorem ur{s:List ar}{p:Nat}{ds:List Int}{d:Int}(h:s[p]?=some (.lst (zN ds)))(e:ds[i]?=some d):bB (.loc p) (.int i) s=.ok (.int d) s:=kz (bN h) (gA (by rw[zN,aI,e];rfl))
theorem JY(h:lstOf st n=some (ls.map W.str))(hl:ls.length<64):lW [.loc n] st=.ok #[4] (st++[.lst ((j4 ls).map W.str)]):=by
 show rO [.loc n] st=_
 unfold rO
 simp only[h,fy,zz]
 rw[aJ hl]
theorem yh{a b:List #[66]}(h:a.Perm b):(a.map List.length).sum=(b.map List.length).sum:=by
 induction h with
 |nil=>rfl
 |cons x _ ih=>simp only[bD,sM,ih]
 |swap x y l=>simp only[bD,sM];omega
 |trans _ _ ih1 ih2=>rw[ih1,ih2]
theorem ut(l:List Nat):((#[49]).map List.length).sum=l.length:=by
 induction l with
 |nil=>rfl
 |cons a r ih=>simp only[bD,sM,bv,ih,qk];omega
def ED(l:List Nat):List Nat:=mM [] (j4 #[49])
theorem FW(l:List Nat):(ED l).length=l.length:=by
 unfold ED;rw[ou,List.length_flatten,yh (h_ _),ut]
theorem JZ(l:List Nat):(ED l).Perm l:=by
 unfold ED;rw[ou]
 have h:(j4 #[49]).flatten.Perm #[49].flatten:=(h_ _).flatten
 refine h.trans (.of_eq ?_)
 induction l with
 |nil=>rfl
 |cons a r ih=>
  have ih':=ih ((h_ _).flatten)
  simp only[bD,nT,ih',List.cons_append,d9]
theorem FX{fe:FE}{s1:List ar}(h:fe ρ st=.ok (.loc n) s1)(hc:lstOf s1 n=some (#[49].map W.str))(hl:l.length<64) :
  Lf pZ (eC (.str [])) (af (bw lW (af fe aA)) aA) ρ st=.ok (.str (ED l)) (s1++[.lst ((j4 #[49]).map W.str)]):=by
 have hs:=JY hc (by simpa using hl)
 have hcell2:lstOf (s1++[ar.lst ((j4 #[49]).map W.str)]) s1.length=some ((j4 #[49]).map W.str):=bN c_
 have hj:=En (sep:=[]) hcell2 (by rw[yh (h_ _),ut];show _<=1000000;simp;omega)
 exact Mx bu rfl (ak (bR (ak h aM) hs) aM) hj
section
variable{fs:FA}
theorem ME(V:β->W)(Pb:Nat->β->Prop)(hr:fs ρ st=.ok [.int n] st)(hn:n<=100000)(h:∀i:Nat,i<n->∃b,Pb i b/\el ((u8 cap ρ).set 0 (some (.int i))) st=.ok (V b) st) :
  ∃r:List β,r.length=n/\(∀i b,r[i]?=some b->Pb i b)/\kN cap (dU fs) (jy 0) xy el ρ st=.ok #[4] (st++[.lst (r.map V)]):=by
 let f:Fin n->β:=fun i=>Classical.choose (h i i.2)
 have hf:∀i:Fin n,Pb i (f i)/\el ((u8 cap ρ).set 0 (some (.int (i:Nat)))) st=.ok (V (f i)) st:=fun i=>Classical.choose_spec (h i i.2)
 let Y:W->W:=fun w=>match w with
  |.int z=>if hz:z.toNat<n then V (f ⟨z.toNat,hz⟩)else .non
  |_=>.non
 have ir:dU fs ρ st=.ok (fL 0 n,none) st:=by
  have:=jA hr #[0]
  rw[cG]at this
  exact this
 have hc:=AK (fi:=dU fs) (f:=jy 0) (el:=el) (cap:=cap) (ρ:=ρ) Y ir (by rw[fj];show _<=1000000;omega) trivial fun w hw=>by
  obtain⟨i,hi,rfl⟩:=ve hw
  refine⟨_,rfl,?_⟩
  rw[show((0:Int)+(i:Int))=(i:Int) by omega]
  show _=R.ok (if hz:(i:Int).toNat<n then V (f ⟨(i:Int).toNat,hz⟩)else .non) st
  rw[dif_pos (show(i:Int).toNat<n by omega)]
  exact(hf ⟨i,hi⟩).2
 refine⟨List.ofFn f,by simp,fun i b hb=>?_,?_⟩
 ·obtain⟨h1,h2⟩:=ax.mp hb
  rw[List.getElem_ofFn]at h2
  rw[<- h2]
  exact(hf ⟨i,by simpa using h1⟩).1
 ·rw[hc]
  have e:(fL 0 n).map Y=(List.ofFn f).map V:=by
   refine List.ext_getElem (by simp[fj]) fun i h1 h2=>?_
   have hi:i<n:=by simpa[fj]using h1
   rw[oV,oV,List.getElem_ofFn]
   unfold fL
   rw[oV,List.getElem_range,show((0:Int)+(i:Int))=(i:Int) by omega]
   show(if hz:(i:Int).toNat<n then V (f ⟨(i:Int).toNat,hz⟩)else .non)=_
   rw[dif_pos (show(i:Int).toNat<n by omega)]
  rw[e]
theorem J0(V:β->W)(Pb:Nat->β->Prop)(hr:fs ρ st=.ok [.int n] st)(hn:n<=100000)(h:∀i:Nat,i<n->∃b,Pb i b/\el ((u8 cap ρ).set 0 (some (.int i))) st=.ok (V b) st) :
  ∃r:List β,r.length=n/\(∀i b,r[i]?=some b->Pb i b)/\bw iX (af (kN cap (dU fs) (jy 0) xy el) aA) ρ st=.ok (.tup (r.map V)) (st++[.lst (r.map V)]):=by
 obtain⟨r,h1,h2,e⟩:=ME (cap:=cap) (el:=el) V Pb hr hn h
 exact⟨r,h1,h2,bR (ak e aM) (n5 (bN c_))⟩
end
structure Mc where
 nm:List Nat
 gd:List Bool
 tb:List (List #[66])
def gH(r:List Nat):W:=.tup (r.map fun k=>W.int (k:Nat))
def y4(t:List #[66]):W:=.tup (t.map gH)
def Mc.w(M:Mc):W:=.tup [.str M.nm,.tup (M.gd.map W.bl),.tup (M.tb.map y4)]
def W5(n:Nat)(t:List #[66]):Prop:=t.length=n/\∀r∈t,r.length=n/\∀k∈r,k<n
structure mK(M:Mc)(n:Nat):Prop where
 gd:M.gd.length=n
 tb:M.tb.length=2^M.nm.length
 t:∀t∈M.tb,W5 n t
theorem wN(r:List Nat)(n:Nat):(gH r).und n=true:=by
 unfold gH W.und
 induction r with
 |nil=>rfl
 |cons x r ih=>simp only[bD,undWs,ih,dM];rfl
theorem MF(t:List #[66])(n:Nat):(y4 t).und n=true:=by
 unfold y4 W.und
 induction t with
 |nil=>rfl
 |cons x r ih=>simp only[bD,undWs,ih,dM];exact wN x n
theorem J1(t:List (List #[66]))(n:Nat):undWs n (t.map y4)=true:=by
 induction t with
 |nil=>rfl
 |cons x r ih=>simp only[bD,undWs,ih,dM];exact MF x n
theorem MG(t:List Bool)(n:Nat):undWs n (t.map W.bl)=true:=by
 induction t with
 |nil=>rfl
 |cons x r ih=>simp only[bD,undWs,ih,dM];rfl
theorem J2(M:Mc)(n:Nat):M.w.und n=true:=by
 unfold Mc.w
 simp[W.und,undWs,J1,MG]
theorem HZ{c:Nat}(h:c<=100):Cd (.int 1) (.int c) st=.ok (.int ((2^c:Nat):Int)) st:=by
 have:=i6 (C:=fun i j=>0<=j/\j<=1000000/\i.natAbs<2^64) (f:=fun i j=>i*2^j.toNat) (p:=1) (q:=(c:Int)) (st:=st) ⟨by omega,by omega,by decide⟩
 rw[show Cd (.int 1) (.int c) st=_ from this]
 simp
theorem mV{s:List ar}{p:Nat}{y:W}(h:s[p]?=some (.lst ws))(hl:ws.length<1000000):bH (.loc p) [y] s=.ok .non (s.set p (.lst (ws++[y]))):=p5 h hl
theorem Rk(h:q<n):Fj n (q:Int)=some q:=by
 unfold Fj
 rw[aJ #[0],aJ #[0]];simp
theorem EE{s:List ar}{p q:Nat}{v:W}(h:s[p]?=some (.lst ws))(hq:q<ws.length):sf (.loc p) (.int q) v s=some (s.set p (.lst (ws.set q v))):=Qa h (Rk hq)
theorem Rm{s:List ar}:zv [.tup ws] s=.ok (.loc s.length) (s++[.lst ws]):=rfl
def nW(l:List Nat):List W:=l.map fun k=>W.int (k:Nat)
theorem Oh{s:List ar}{p:Nat}(h:s[p]?=some (.lst (nW l)))(e:l[i]?=some k):bB (.loc p) (.int i) s=.ok (.int k) s:=kz (bN h) (gA (by rw[nW,aI,e];rfl))
theorem J3{s:List ar}(e:l[i]?=some k):bB (gH l) (.int i) s=.ok (.int k) s:=nJ (gA (by rw[aI,e];rfl))
theorem J4{s:List ar}{t:List #[66]}{r:List Nat}(e:t[i]?=some r):bB (y4 t) (.int i) s=.ok (gH r) s:=nJ (gA (by rw[aI,e];rfl))
theorem v_{f:FG}{ρ':cL}{w:W}(h:fe ρ st=.ok w st1)(h2:f w ρ=some ρ'):tP fe f ρ st=.nx ρ' st1:=by
 unfold tP;rw[h];simp only[R.stmt_ok];rw[h2]
theorem J5{c:Nat}:Ho false (.str [c]) (.str l) st=.ok (.bl (decide (c∈l))) st:=rfl
theorem Bh{st1:List ar}(h:fe ρ st=.ok (.str l) st1):hV fe ρ st=.ok (jq l,none) st1:=by unfold hV;rw[h];rfl
theorem C6{w:W}(h:(jq l)[i]?=some w):∃c,l[i]?=some c/\w=.str [c]:=by
 simp only[jq,aI,fM]at h
 obtain⟨c,h1,rfl⟩:=h
 exact⟨c,h1,rfl⟩
theorem vA(l:List Nat):(jq l).length=l.length:=by simp[jq]
theorem rV{l:List α}{c:α}(h:l[i]?=some c):l.take (i+1)=l.take i++[c]:=by
 rw[List.take_succ,h];rfl
def me(m:List Nat)(l:List Nat):Nat:=l.foldl (fun a c=>2*a+if c∈m then 1 else 0) 0
theorem zO(m l:List Nat)(c:Nat):me m (l++[c])=2*me m l+if c∈m then 1 else 0:=by unfold me;rw[List.foldl_append];rfl
theorem FY(m:List Nat)(l:List Nat):me m l<2^l.length:=by
 have key:∀(l:List Nat) (a k:Nat),a<2^k->l.foldl (fun a c=>2*a+if c∈m then 1 else 0) a<2^(k+l.length):=by
  intro l
  induction l with
  |nil=>intro a k h;simpa using h
  |cons c r ih=>
   intro a k h
   have:=ih (2*a+if c∈m then 1 else 0) (k+1) (by rw[Nat.pow_succ];split<;>omega)
   rw[List.foldl_cons,bv,show k+(r.length+1)=k+1+r.length by omega];exact this
 have:=key l 0 0 #[15]
 simpa[me]using this
theorem G1(names m:List Nat)(st:List ar):JS [.str names,.str m] st=.ok (.int (me m names:Nat)) st:=by
 refine fC (N:=4) (ws:=[.str names,.str m]) (body:=Uk) ?_ rfl
 apply az
 ·(walk_at "evs")
 refine gq (fun i ρ s=>∃o3:Option W,ρ=[some (.str names),some (.str m),some (.int (me m (names.take i):Nat)),o3]/\s=st) (Bh (st1:=st) kv) ⟨none,rfl,rfl⟩ #[59] ?_ ?_
 ·rintro i w ρ s hw ⟨o3,rfl,rfl⟩
  obtain⟨c,hc,rfl⟩:=C6 hw
  refine⟨_,rfl,?_⟩
  have e:=zO m (names.take i) c
  rw[<- rV hc]at e
  apply az
  ·exact be (bq kv bu (qK (.inr #[3])))
  by_cases h:c∈m
  ·have t1:decide (c∈m)=true:=bg h
   rw[aJ h]at e
   apply qL
   ·exact aR (bq kv kv (by rw[J5,t1]))
   apply dG
   ·exact be (bq kv bu dX)
   ·exact⟨_,_,rfl,_,by rw[e,gn,jL,pV];rfl,rfl⟩
  ·have t1:decide (c∈m)=false:=a7 h
   rw[aW h]at e
   apply mT
   ·exact aR (bq kv kv (by rw[J5,t1]))
   apply dG
   ·exact du
   ·exact⟨_,_,rfl,_,by rw[e,gn,jL,pV];rfl,rfl⟩
 ·rintro ρ s ⟨o3,rfl,rfl⟩
  apply bU
  ·(walk_at "evs")
  ·exact⟨_,_,rfl,by rw[show(jq names,(none:Option (Nat×List W))).fst.length=names.length from vA names,et],[],by simp⟩
theorem EF(names m:List Nat)(st:List ar):zL [.str names,.str m] st=.ok (.int (me m names:Nat)) st:=by
 refine fC (N:=4) (ws:=[.str names,.str m]) (body:=N8) ?_ rfl
 apply az
 ·(walk_at "evs")
 refine gq (fun i ρ s=>∃o3:Option W,ρ=[some (.str names),some (.str m),some (.int (me m (names.take i):Nat)),o3]/\s=st) (Bh (st1:=st) kv) ⟨none,rfl,rfl⟩ #[59] ?_ ?_
 ·rintro i w ρ s hw ⟨o3,rfl,rfl⟩
  obtain⟨c,hc,rfl⟩:=C6 hw
  refine⟨_,rfl,?_⟩
  have e:=zO m (names.take i) c
  rw[<- rV hc]at e
  have bi:GO [.bl (decide (c∈m))] s=.ok (.int ((if c∈m then 1 else 0:Nat):Int)) s:=by
   by_cases h:c∈m
   ·rw[bg h,aJ h];rfl
   ·rw[a7 h,aW h];rfl
  apply dG
  ·exact be (bq (bq bu kv (qK (.inl #[3]))) (bR (ak (bq kv kv J5) aM) bi) dX)
  ·exact⟨_,_,rfl,_,by rw[e,gn,jL];rfl,rfl⟩
 ·rintro ρ s ⟨o3,rfl,rfl⟩
  apply bU
  ·(walk_at "evs")
  ·exact⟨_,_,rfl,by rw[show(jq names,(none:Option (Nat×List W))).fst.length=names.length from vA names,et],[],by simp⟩
def Bi(r:List Nat):Option Nat->Nat
 |none=>0
 |some k=>r.getD k 0
def wO(M:Mc)(r:List Nat)(m:List Nat)(x:Option Nat×Option Nat):Nat:=(#[67].getD (Bi r x.1) []).getD (Bi r x.2) 0
def G3(M:Mc):List Pl->List #[9]->List Nat->List Nat
 |p::ps,x::xs,r=>G3 M ps xs (r++[wO M r p.m x])
 |_,_,r=>r
def J6(n:Nat)(x:Option Nat×Option Nat):Prop:=(∀k,x.1=some k->k<n)/\∀k,x.2=some k->k<n
theorem C7(r:List Nat)(o:Option Nat)(p:Nat)(st:List ar)(hc:st[p]?=some (.lst (nW r)))(ho:∀k,o=some k->k<r.length):zH [.loc p,oW o] st=.ok (.int (Bi r o:Nat)) st:=by
 cases o with
 |none=>
  apply eV
  apply bU
  ·exact t0 (aR (Cv kv rfl)) bu
  ·walk_at "8"
 |some k=>
  have hk:=ho k rfl
  have e:r[k]?=some (r.getD k 0):=by rw[aG,ao hk];rfl
  apply eV
  apply bU
  ·exact t5 (aR (Cv kv rfl)) (bq kv kv (Oh hc e))
  ·walk_at "8"
theorem Gr.lk{ps:List Pl}{sz:List Nat}{lk:List #[9]}(h:Gr ps S sz lk){x:Option Nat×Option Nat}(hx:lk[i]?=some x):J6 i x:=by
 obtain⟨_,l2,_⟩:=h.ok
 have hi:i<ps.length:=by have:=(ax.mp hx).1;omega
 obtain⟨S1,S2,p,k,x',g1,q1,q2,q3,hs,g2⟩:=h.step i hi
 rw[hx]at q3;cases q3
 obtain⟨_,_,ha⟩:=g1.ok
 rw[show(ps.take i).length=i by rw[aP];omega]at ha
 obtain⟨b,m⟩:=p
 cases hs with
 |z=>exact⟨fun k e=>by simp at e,fun k e=>by simp at e⟩
 |@l a S=>have:=ha.2.1;have:=ha.2.2.1;exact⟨fun k e=>by simp at e;omega,fun k e=>by simp at e⟩
 |@r a S=>have:=ha.2.1;have:=ha.2.2.1;exact⟨fun k e=>by simp at e,fun k e=>by simp at e;omega⟩
 |@b c a S=>have:=ha.2.1;have:=ha.2.2.1;exact⟨fun k e=>by simp at e;omega,fun k e=>by simp at e;omega⟩
theorem C8(M:Mc)(p:Pl)(x:Option Nat×Option Nat):∀(ps:List Pl) (lk:List #[9]) (r:List Nat),ps.length=lk.length->G3 M (ps++[p]) (lk++[x]) r=G3 M ps lk r++[wO M (G3 M ps lk r) p.m x]
 |[],[],r,_=>rfl
 |q::ps,y::lk,r,h=>by
  show G3 M (ps++[p]) (lk++[x]) _=_
  rw[C8 M p x ps lk _ (by simpa using h)];rfl
 |[],_::_,_,h=>by simp at h
 |_::_,[],_,h=>by simp at h
def gF(M:Mc)(ps:List Pl)(lk:List #[9]):List Nat:=G3 M ps lk []
theorem J7{r:List Nat}{o:Option Nat}(hn:1<=n)(hr:∀k∈r,k<n)(ho:∀k,o=some k->k<r.length):Bi r o<n:=by
 cases o with
 |none=>exact hn
 |some k=>
  have hk:=ho k rfl
  have e:r[k]?=some (r.getD k 0):=by rw[aG,ao hk];rfl
  exact hr _ (cr e)
theorem EG{M:Mc}{r:List Nat}{m:List Nat}{x:Option Nat×Option Nat}(hM:mK M n)(hn:1<=n)(hr:∀k∈r,k<n)(hx:J6 r.length x) :
  ∃t q,M.tb[me m M.nm]?=some t/\t[Bi r x.1]?=some q/\q[Bi r x.2]?=some (wO M r m x)/\wO M r m x<n:=by
 have h1:me m M.nm<M.tb.length:=by rw[hM.tb];exact FY m M.nm
 have e1:M.tb[me m M.nm]?=some #[67]:=by rw[aG,ao h1];rfl
 obtain⟨t1,t2⟩:=hM.t _ (cr e1)
 have h2:Bi r x.1<#[67].length:=by rw[t1];exact J7 hn hr hx.1
 have e2:#[67][Bi r x.1]?=some (#[67].getD (Bi r x.1) []):=by rw[aG (l:=M.tb.getD (me m M.nm) []),ao h2];rfl
 obtain⟨t3,t4⟩:=t2 _ (cr e2)
 have h3:Bi r x.2<(#[67].getD (Bi r x.1) []).length:=by rw[t3];exact J7 hn hr hx.2
 have e3:(#[67].getD (Bi r x.1) [])[Bi r x.2]?=some (wO M r m x):=by unfold wO;rw[aG (l:=#[67].getD (Bi r x.1) []),ao h3];rfl
 exact⟨_,_,e1,e2,e3,t4 _ (cr e3)⟩
theorem J8{M:Mc}{t:List #[66]}(h:M.tb[k]?=some t)(st:List ar):bB (.tup (M.tb.map y4)) (.int k) st=.ok (y4 t) st:=nJ (gA (by rw[aI,h];rfl))
theorem Oi{M:Mc}{r:List Nat}{m:List Nat}{x:Option Nat×Option Nat}{p:Nat}(hM:mK M n)(hn:1<=n)(hr:∀k∈r,k<n)(hx:J6 r.length x)(st:List ar)(hc:st[p]?=some (.lst (nW r))) :
  ui [M.w,.str m,jS x,.loc p] st=.ok (.int (wO M r m x:Nat)) st:=by
 obtain⟨t,q,e1,e2,e3,_⟩:=EG (m:=m) hM hn hr hx
 have g0:bB M.w (.int 0) st=.ok (.str M.nm) st:=rfl
 have g2:bB M.w (.int 2) st=.ok (.tup (M.tb.map y4)) st:=rfl
 have x0:bB (jS x) (.int 0) st=.ok (oW x.1) st:=rfl
 have x1:bB (jS x) (.int 1) st=.ok (oW x.2) st:=rfl
 have lt:=G1 M.nm m st
 have b1:=C7 r x.1 p st hc hx.1
 have b2:=C7 r x.2 p st hc hx.2
 apply eV
 apply az
 ·exact be (bq (bq kv bu g2) (cf (ak (bq kv bu g0) kn) lt rfl) (J8 e1 st))
 apply bU
 ·exact bq (bq kv (cf (ak kv (ak (bq kv bu x0) aM)) b1 rfl) (J4 e2)) (cf (ak kv (ak (bq kv bu x1) aM)) b2 rfl) (J3 e3)
 ·walk_at "8"
section
variable{ps:List Pl}{sz:List Nat}{lk:List #[9]}{M:Mc}
theorem pD(h:Gr ps S sz lk){p:Pl}{x:Option Nat×Option Nat}(hp:ps[i]?=some p)(hx:lk[i]?=some x):gF M (ps.take (i+1)) (lk.take (i+1))=gF M (ps.take i) (lk.take i)++[wO M (gF M (ps.take i) (lk.take i)) p.m x]:=by
 obtain⟨_,l2,_⟩:=h.ok
 unfold gF
 rw[rV hp,rV hx,C8 M p x _ _ _ (by rw[aP,aP,l2])]
theorem pE(h:Gr ps S sz lk)(hM:mK M n)(hn:1<=n):∀i,i<=ps.length->(gF M (ps.take i) (lk.take i)).length=i/\∀k∈gF M (ps.take i) (lk.take i),k<n:=by
 obtain⟨_,l2,_⟩:=h.ok
 intro i
 induction i with
 |zero=>intro _;exact⟨rfl,by simp[gF,G3]⟩
 |succ i ih=>
  intro hi
  obtain⟨h1,h2⟩:=ih #[0]
  obtain⟨p,hp⟩:∃p,ps[i]?=some p:=⟨_,ao #[0]⟩
  obtain⟨x,hx⟩:∃x,lk[i]?=some x:=⟨_,ao #[0]⟩
  obtain⟨_,_,_,_,_,e⟩:=EG (m:=p.m) hM hn h2 (by rw[h1];exact h.lk hx)
  rw[pD h hp hx]
  refine⟨by simp[h1],fun k hk=>?_⟩
  rcases aV.mp hk with z|z
  ·exact h2 k z
  ·simp at z;subst z;exact e
theorem Rn{a b:List W}{w:W}(h:(sV a b)[i]?=some w):∃x y,a[i]?=some x/\b[i]?=some y/\w=.tup [x,y]:=xK h
theorem UO{fs:FA}{st1:List ar}{xs ys:List W}(h:fs ρ st=.ok [.tup xs,.tup ys] st1):AD fs ρ st=.ok (sV xs ys,none) st1:=by unfold AD;rw[h];rfl
theorem J9(h:Gr ps S sz lk)(hl:ps.length<=900)(hM:mK M n)(hn:1<=n)(st:List ar):qd [M.w,bF ps] st=.ok (gH (gF M ps lk)) st:=by
 obtain⟨_,l2,_⟩:=h.ok
 have lo:=um h #[0] (st++[ar.lst []])
 refine fC (N:=5) (ws:=[M.w,bF ps]) (body:=N1) ?_ (by simp only[undWs,dM];exact wN _ _)
 apply az
 ·(walk_at "evs")
 refine gq (fun i ρ s=>∃(o3 o4:Option W),ρ=[some M.w,some (bF ps),some #[4],o3,o4]/\st <+: s/\s[st.length]?=some (.lst (nW (gF M (ps.take i) (lk.take i))))/\i<=ps.length) (k:=(sV (ps.map Pl.w) (lk.map jS),none))
  (UO (st1:=st++[ar.lst []]) (ak kv (ak (cf kn lo rfl) aM))) ⟨none,none,rfl,a_ _ _,c_,cE _⟩ #[59] ?_ ?_
 ·rintro i w ρ s hw ⟨o3,o4,rfl,hp,hc,hi⟩
  obtain⟨a,b,ha,hb,rfl⟩:=Rn hw
  have hip:i<ps.length:=by have:=(ax.mp ha).1;simpa using this
  obtain⟨p,Aa⟩:∃p,ps[i]?=some p:=⟨_,ao hip⟩
  obtain⟨x,hx⟩:∃x,lk[i]?=some x:=⟨_,ao #[0]⟩
  rw[aI,Aa]at ha;cases ha
  rw[aI,hx]at hb;cases hb
  refine⟨_,rfl,?_⟩
  obtain⟨r1,r2⟩:=pE (M:=M) h hM hn i hi
  have ra:=Oi (m:=p.m) hM hn r2 (by rw[r1];exact h.lk hx) s hc
  have ap:=mV (y:=.int (wO M (gF M (ps.take i) (lk.take i)) p.m x:Nat)) hc (by simp[nW];omega)
  apply dG
  ·exact eJ (iZ kv (dE hc) (ak (cf (ak kv (ak (bq kv bu (EC p s)) (ak kv kn))) ra rfl) aM) ap)
  ·refine⟨_,_,rfl,_,_,rfl,uq hp (aC _),?_,by omega⟩
   rw[eM hc,pD h Aa hx];simp[nW]
 ·rintro ρ s ⟨o3,o4,rfl,⟨x,rfl⟩,hc,hi⟩
  rw[show(sV (ps.map Pl.w) (lk.map jS),(none:Option (Nat×List W))).fst.length=ps.length by rw[xL];simp[l2],et,show ps.length=lk.length by omega,et]at hc
  apply bU
  ·exact bR kn (n5 (bN hc))
  ·exact⟨_,_,rfl,rfl,x,rfl⟩
end
theorem C9(l:List Nat)(k:Nat)(st:List ar):j6 (k+1) [.str l,.str l] st=.ok (.bl true) st:=by
 refine fC (N:=3) (ws:=[.str l,.str l]) (body:=CW (j6 k)) ?_ rfl
 (walk_at "go")
 apply bU
 ·apply wK
  ·(walk_at "evs")
  ·(walk_at "evs")
 ·exact⟨_,_,rfl,by simp,[],by simp⟩
theorem uu{k:Nat}(hl:ws.length<=1000)(h:∀w∈ws,j6 k [w,w] st=.ok (.bl true) st):j6 (k+1) [.tup ws,.tup ws] st=.ok (.bl true) st:=by
 refine fC (N:=3) (ws:=[.tup ws,.tup ws]) (body:=CW (j6 k)) ?_ rfl
 apply ec
 ·(walk_at "evs")
 apply vc
 apply bA
 ·apply nI
  ·(walk_at "evs")
  ·(walk_at "evs")
   simp
 apply b6
 apply vc
 refine gq (fun i ρ bt=>∃o,ρ=[some (.tup ws),some (.tup ws),o]/\bt=st) (jA (by(walk_at "evs")) #[0]) ⟨none,rfl,rfl⟩ #[59] ?_ ?_
 ·rintro i w ρ bt hw ⟨o,rfl,rfl⟩
  obtain⟨hi,rfl⟩:=kY hw
  refine⟨_,rfl,?_⟩
  have hi':i<ws.length:=by simpa using hi
  have hat:bB (.tup ws) (.int (0+(i:Int))) bt=.ok ws[i] bt:=nJ (by rw[uL];exact gA (by simp[hi']))
  have hs:=h ws[i] (ef _)
  apply mT
  ·(walk_at "evs")
  apply dG
  ·(walk_at "evs")
  ·exact⟨_,_,rfl,_,rfl,rfl⟩
 ·rintro ρ bt ⟨o,rfl,rfl⟩
  apply dZ
  ·(walk_at "evs")
  ·exact⟨_,_,rfl,rfl,[],by simp⟩
theorem zP(b:Bool)(k:Nat)(st:List ar):j6 (k+1) [.bl b,.bl b] st=.ok (.bl true) st:=by
 have hb:iK (.bl b) (.bl b) st=.ok (.bl true) st:=TY #[15]
 refine fC (N:=3) (ws:=[.bl b,.bl b]) (body:=CW (j6 k)) ?_ rfl
 apply bA
 ·(walk_at "evs")
 apply b6
 apply bA
 ·(walk_at "evs")
 apply b6
 apply ec
 ·(walk_at "evs")
 apply dZ
 ·apply wK
  ·(walk_at "evs")
  ·(walk_at "evs")
 ·exact⟨_,_,rfl,rfl,[],by simp⟩
theorem yi(z:Int)(k:Nat)(st:List ar):j6 (k+1) [.int z,.int z] st=.ok (.bl true) st:=by
 have hb:iK (.int z) (.int z) st=.ok (.bl true) st:=fg #[15]
 refine fC (N:=3) (ws:=[.int z,.int z]) (body:=CW (j6 k)) ?_ rfl
 apply bA
 ·(walk_at "evs")
 apply b6
 apply bA
 ·(walk_at "evs")
 apply b6
 apply bA
 ·(walk_at "evs")
 apply b6
 apply ec
 ·(walk_at "evs")
 apply dZ
 ·apply wK
  ·(walk_at "evs")
  ·apply wK
   ·(walk_at "evs")
   ·(walk_at "evs")
 ·exact⟨_,_,rfl,by simp,[],by simp⟩
def Sm(w:W):Prop:=∀st,j6 40 [w,w] st=.ok (.bl true) st
theorem Ro(z:Int):Sm (.int z):=fun st=>yi z 39 st
theorem UP(b:Bool):Sm (.bl b):=fun st=>zP b 39 st
theorem Rp(r:List Nat)(h:r.length<=1000):Sm (gH r):=fun st=>uu (k:=39) (by simpa using h) fun w hw=>by
 obtain⟨z,_,rfl⟩:=dy.mp hw
 exact yi _ _ _
section
variable{ps:List Pl}{sz:List Nat}{lk:List #[9]}{M:Mc}
theorem C_{r:List Nat}{o:Option Nat}(h:∀j,o=some j->j<k):Bi (r.take k) o=Bi r o:=by
 cases o with
 |none=>rfl
 |some j=>show(r.take k).getD j 0=r.getD j 0;rw[aG,aG,cZ (h j rfl)]
theorem zQ(h:Gr ps S sz lk)(hM:mK M n)(hn:1<=n):∀i,i<=ps.length->(gF M ps lk).take i=gF M (ps.take i) (lk.take i):=by
 obtain⟨_,l2,_⟩:=h.ok
 have key:∀d i,i+d=ps.length->(gF M ps lk).take i=gF M (ps.take i) (lk.take i):=by
  intro d
  induction d with
  |zero=>
   intro i hi
   have e1:ps.take i=ps:=bQ #[0]
   have e2:lk.take i=lk:=bQ #[0]
   have hg:=(pE (M:=M) h hM hn i #[0]).1
   rw[e1,e2]at hg ⊢
   exact bQ #[0]
  |succ d ih=>
   intro i hi
   have e:=ih (i+1) #[0]
   obtain⟨p,hp⟩:∃p,ps[i]?=some p:=⟨_,ao #[0]⟩
   obtain⟨x,hx⟩:∃x,lk[i]?=some x:=⟨_,ao #[0]⟩
   rw[pD h hp hx]at e
   have hg:=(pE (M:=M) h hM hn i #[0]).1
   have e2:=iy (List.take i) e
   rw[rK,iz #[0],cK #[0]]at e2
   rw[e2];exact bQ #[0]
 intro i hi
 exact key (ps.length-i) i #[0]
theorem oM(h:Gr ps S sz lk)(hM:mK M n)(hn:1<=n):(gF M ps lk).length=ps.length/\∀k∈gF M ps lk,k<n:=by
 obtain⟨_,l2,_⟩:=h.ok
 have:=pE (M:=M) h hM hn ps.length (aC _)
 rw[et,show ps.length=lk.length by omega,et]at this
 exact⟨by rw[this.1];omega,this.2⟩
theorem J_(h:Gr ps S sz lk)(hM:mK M n)(hn:1<=n){i:Nat}{p:Pl}{x:Option Nat×Option Nat}(hp:ps[i]?=some p)(hx:lk[i]?=some x):(gF M ps lk)[i]?=some (wO M (gF M ps lk) p.m x):=by
 have hi:i<ps.length:=(ax.mp hp).1
 have e:=zQ (M:=M) h hM hn (i+1) #[0]
 rw[pD h hp hx,<- zQ (M:=M) h hM hn i #[0]]at e
 have R6:=h.lk hx
 have e3:wO M ((gF M ps lk).take i) p.m x=wO M (gF M ps lk) p.m x:=by unfold wO;rw[C_ R6.1,C_ R6.2]
 rw[e3]at e
 have hl:=(oM (M:=M) h hM hn).1
 have:=iy (fun l=>l[i]?) e
 simp only[cZ (show i<i+1 by omega)]at this
 rw[this,aY (by rw[aP];omega),aP,show i-min i (gF M ps lk).length=0 by omega];rfl
def Da(M:Mc)(ps:List Pl)(lk:List #[9]):Nat:=(gF M ps lk).getD (ps.length-1) 0
def MH(M:Mc)(ps:List Pl)(lk:List #[9]):Bool:=M.gd.getD (if 0<ps.length then Da M ps lk else 0) false
theorem VH(h:Gr ps S sz lk)(hM:mK M n)(hn:1<=n)(h0:0<ps.length)(st:List ar):bB (gH (gF M ps lk)) (.int (-1)) st=.ok (.int (Da M ps lk:Nat)) st:=by
 have hl:=(oM (M:=M) h hM hn).1
 refine nJ ?_
 rw[show(-1:Int)=-((0:Nat)+1:Int) by rfl]
 refine AI ?_
 rw[iI (by rw[aF];omega),aF,aI,hl,show ps.length-1-0=ps.length-1 by omega,ao #[0]]
 show some (W.int _)=some (W.int _)
 unfold Da
 rw[aG,ao #[0]];rfl
theorem J'(hM:mK M n){k:Nat}(hk:k<n)(st:List ar):bB (.tup (M.gd.map W.bl)) (.int k) st=.ok (.bl (M.gd.getD k false)) st:=
 nJ (gA (by rw[aI,ao (by rw[hM.gd];exact hk),aG,ao (by rw[hM.gd];exact hk)];rfl))
theorem Rq(h:Gr ps S sz lk)(hM:mK M n)(hn:1<=n):(if 0<ps.length then Da M ps lk else 0)<n:=by
 split
 ·rename_i h0
  obtain⟨hl,hr⟩:=oM (M:=M) h hM hn
  unfold Da
  rw[aG,ao #[0]]
  exact hr _ (ef _)
 ·exact hn
end
section
variable{ps:List Pl}{sz:List Nat}{lk:List #[9]}
theorem Rs{fs:FA}(h:fs ρ st=.ok [.tup ws] st1):sT fs ρ st=.ok (nH ws,none) st1:=by unfold sT;rw[h];rfl
end
section
variable{ps:List Pl}{sz:List Nat}{lk:List #[9]}
theorem FZ(ps:List Pl)(hn:ps.length<=1000)(hρ:ρ[0]?=some (some (bF ps)))(st:List ar):kN [none] (hV (ah 0)) (jy 0) xy (eC .non) ρ st=.ok #[4] (st++[.lst ((List.replicate ps.length none).map oW)]):=by
 have:=AK (cap:=[none]) (f:=jy 0) (el:=eC .non) (ρ:=ρ) (st:=st) (fun _=>.non) (AH (fe:=ah 0) (ws:=ps.map Pl.w) (st1:=st) (im hρ)) (by rw[aF];show _<=1000000;omega) trivial fun w _=>⟨_,rfl,bu⟩
 rw[this,List.map_replicate,cw]
 congr 4
 exact List.map_const' ..
def Up(lk:List #[9])(f:Option Nat×Option Nat->Option Nat)(i:Nat)(l:List #[81]):Prop:=
 (∀p u:Nat,l[p]?=some (some u)->∃x,lk[u]?=some x/\f x=some p)/\∀u x p,u<i->lk[u]?=some x->f x=some p->∃v,l[p]?=some (some v)
theorem Up.zero:Up lk f 0 (List.replicate k none):=⟨fun p u e=>by
 rw[j8]at e
 split at e<;>simp at e,fun u x p h=>absurd h #[0]⟩
theorem Up.skip{l:List #[81]}{x:Option Nat×Option Nat}(h:Up lk f i l)(hx:lk[i]?=some x)(hf:f x=none):Up lk f (i+1) l:=⟨h.1,fun u y p hu hy hp=>by
 by_cases e:u=i
 ·subst e;rw[hx]at hy;cases hy;rw[hf]at hp;cases hp
 ·exact h.2 u y p #[0] hy hp⟩
theorem Up.put{l:List #[81]}{x:Option Nat×Option Nat}(h:Up lk f i l)(hx:lk[i]?=some x)(hf:f x=some q)(hq:q<l.length):Up lk f (i+1) (l.set q (some i)):=⟨fun p u e=>by
 by_cases z:q=p
 ·subst z
  rw[cq hq]at e
  cases e;exact⟨x,hx,hf⟩
 ·rw[cW z]at e;exact h.1 p u e,fun u y p hu hy hp=>by
 by_cases z:q=p
 ·subst z;exact⟨i,cq hq⟩
 ·rw[cW z]
  by_cases e:u=i
  ·subst e;rw[hx]at hy;cases hy;rw[hf]at hp;exact absurd (bC hp) z
  ·exact h.2 u y p #[0] hy hp⟩
theorem Rt(h:Gr ps S sz lk)(hn:ps.length<=900)(st:List ar):∃(A B:List #[81]) (x:List ar),A.length=ps.length/\B.length=ps.length/\Up lk Prod.fst ps.length A/\Up lk Prod.snd ps.length B/\(st++x)[st.length]?=some (.lst (A.map oW))/\(st++x)[st.length+1]?=some (.lst (B.map oW))/\JT [bF ps] st=.ok (.tup [.loc st.length,.loc (st.length+1)]) (st++x):=by
 obtain⟨l1,l2,_⟩:=h.ok
 suffices hh:kX (AJ fun w bt=>w=.tup [.loc st.length,.loc (st.length+1)]/\st <+: bt/\∃(A B:List #[81]),A.length=ps.length/\B.length=ps.length/\Up lk Prod.fst ps.length A/\Up lk Prod.snd ps.length B/\bt[st.length]?=some (.lst (A.map oW))/\bt[st.length+1]?=some (.lst (B.map oW))) (QB ([bF ps].map some++List.replicate (5-1) none) st) by
  obtain⟨w,s',e,rfl,⟨x,rfl⟩,A,B,a1,a2,a3,a4,a5,a6⟩:=hh
  refine⟨A,B,x,a1,a2,a3,a4,a5,a6,?_⟩
  have:=jh (N:=5) (body:=QB) (ws:=[bF ps]) e
  rw[zF (by simp[undWs,W.und])]at this
  exact this
 have eA:=FZ ps #[0] (ρ:=[some (bF ps),none,none,none,none]) rfl st
 apply az
 ·exact v_ eA rfl
 generalize hA0:List.replicate ps.length (none:Option Nat)=A0 at *
 have eB:=FZ ps #[0] (ρ:=[some (bF ps),lO st.length,none,none,none]) rfl (st++[.lst (A0.map oW)])
 rw[hA0]at eB
 apply az
 ·exact v_ eB rfl
 rw[show(st++[ar.lst (A0.map oW)]).length=st.length+1 by simp]
 have lA0:A0.length=ps.length:=by rw[<- hA0];simp
 have uA:∀f,Up lk f 0 A0:=fun f=>by rw[<- hA0];exact Up.zero
 have hlk:=um h #[0] (st++[ar.lst (A0.map oW)]++[.lst (A0.map oW)])
 refine gq (fun i ρ s=>∃(o3 o4:Option W) (A B:List #[81]),ρ=[some (bF ps),lO st.length,lO (st.length+1),o3,o4]/\st <+: s/\A.length=ps.length/\B.length=ps.length/\s[st.length]?=some (.lst (A.map oW))/\s[st.length+1]?=some (.lst (B.map oW))/\Up lk Prod.fst i A/\Up lk Prod.snd i B) (k:=(nH (lk.map jS),none))
  (st1:=st++[ar.lst (A0.map oW)]++[.lst (A0.map oW)]) (Rs (ak (cf kn hlk rfl) aM)) ⟨none,none,A0,A0,rfl,Bg (Bg (au _)),lA0,lA0,cV c_,by rw[show st.length+1=(st++[ar.lst (A0.map oW)]).length by simp];exact c_,uA _,uA _⟩ #[59] ?_ ?_
 ·rintro i w ρ s hw ⟨o3,o4,A,B,rfl,hp,hA,hB,cA,cB,uA,uB⟩
  obtain⟨y,hy,rfl⟩:=u9 hw
  rw[aI]at hy
  obtain⟨x,hx,rfl⟩:=fM.mp hy
  obtain⟨k1,k2⟩:=h.lk hx
  have hi:i<ps.length:=by have:=(ax.mp hx).1;omega
  refine⟨_,rfl,?_⟩
  obtain⟨a,b⟩:=x
  have last:∀(s:List ar) (A:List #[81]),st <+: s->A.length=ps.length->s[st.length]?=some (.lst (A.map oW))->s[st.length+1]?=some (.lst (B.map oW))->Up lk Prod.fst (i+1) A->kX (My fun ρ s=>∃(o3 o4:Option W) (A B:List #[81]),ρ=[some (bF ps),lO st.length,lO (st.length+1),o3,o4]/\st <+: s/\A.length=ps.length/\B.length=ps.length/\s[st.length]?=some (.lst (A.map oW))/\s[st.length+1]?=some (.lst (B.map oW))/\Up lk Prod.fst (i+1) A/\Up lk Prod.snd (i+1) B)
    (fK (dO (hU (e2 bB (ah 4) (eI 1)))) (Ci (ah 2) (e2 bB (ah 4) (eI 1)) (ah 3) sf) bW [some (bF ps),lO st.length,lO (st.length+1),iO (i:Nat),some (jS (a,b))] s):=by
   intro s A hp hA cA cB uA
   cases b with
   |none=>
    apply mT
    ·exact aR (fB kx rfl)
    ·exact⟨_,_,rfl,_,_,A,B,rfl,hp,hA,hB,cA,cB,uA,uB.skip hx rfl⟩
   |some q=>
    have:=k2 q rfl
    apply qL
    ·exact aR (fB kx rfl)
    apply dG
    ·exact FR kv kv kx (EE (q:=q) cB (by rw[aF];omega))
    ·exact⟨_,_,rfl,_,_,A,B.set q (some i),rfl,uq hp #[0],hA,by rw[qh];exact hB,by rw[b7 #[0]];exact cA,by rw[eM cB,uM];rfl,uA,uB.put hx rfl #[0]⟩
  cases a with
  |none=>
   apply bA
   ·exact aR (fB kx rfl)
   apply b6
   exact last s A hp hA cA cB (uA.skip hx rfl)
  |some q=>
   have:=k1 q rfl
   apply az
   ·exact cY (aR (fB kx rfl)) (FR kv kv kx (EE (q:=q) cA (by rw[aF];omega)))
   exact last _ (A.set q (some i)) (uq hp (aC _)) (by rw[qh];exact hA) (by rw[eM cA,uM];rfl) (by rw[b7 #[0]];exact cB) (uA.put hx rfl #[0])
 ·rintro ρ s ⟨o3,o4,A,B,rfl,hp,hA,hB,cA,cB,uA,uB⟩
  rw[show(nH (lk.map jS),(none:Option (Nat×List W))).fst.length=ps.length by rw[zB,aF,l2]]at uA uB
  apply bU
  ·exact c5 (ak kv kn) #[41]
  ·exact⟨_,_,rfl,rfl,hp,A,B,hA,hB,uA,uB,cA,cB⟩
end
theorem G4(l:List α)(d:α)(f:α->β):(List.range l.length).map (fun i=>f (l.getD i d))=l.map f:=by
 refine kG fun i=>?_
 rw[aI,aI]
 by_cases h:i<l.length
 ·rw[jv h,ao h]
  show some (f (l.getD i d))=_
  rw[aG,ao h];rfl
 ·rw[cm (by simpa using h),cm #[0]];rfl
theorem lG{l:List α}(d:α)(h:i<l.length):l[i]?=some (l.getD i d):=by
 rw[aG,ao h];rfl
theorem St.ex{n b:Nat}{S:List Nat}(hb:b<=3)(h:(b+1)/2<=S.length):∃S' k x,St n S b S' k x/\S'.length+(b+1)/2=S.length+1:=by
 obtain rfl|rfl|rfl|rfl:b=0\/b=1\/b=2\/b=3:=by omega
 ·exact⟨_,_,_,.z,by simp⟩
 ·match S,h with
  |a::S,_=>exact⟨_,_,_,.l,by simp⟩
 ·match S,h with
  |a::S,_=>exact⟨_,_,_,.r,by simp⟩
 ·match S,h with
  |c::a::S,_=>exact⟨_,_,_,.b,by simp⟩
  |[_],hz=>simp at hz
  |[],hz=>simp at hz
def zR(d:Int)(i:Nat):Bool:=Builtin.bitAnd (d/2^i) 1==1
def rd(pool:List Nat)(d:Int):List Nat:=((List.range pool.length).filter (zR d)).map fun i=>pool.getD i 0
theorem pF(pool:List Nat)(d:Int):(rd pool d).Sublist pool:=by
 unfold rd
 have:((List.range pool.length).map fun i=>pool.getD i 0)=pool:=by
  have:=G4 pool 0 (fun x=>x)
  rw[List.map_id']at this;exact this
 conv=>rhs;rw[<- this]
 exact List.Sublist.map _ List.filter_sublist
def Bj:W->Nat
 |.int i=>i.toNat
 |_=>0
theorem G5(pool:List Nat)(hp:pool.length<=50)(d:Int)(st:List ar):CY [.str pool,.int d] st=.ok (.str (ED (rd pool d))) st:=by
 have hL:pool.length<=oy:=by show _<=1000000;omega
 have hc:=Eo (fi:=dU (af #[58] aA)) (f:=jy 0) (t:=dO (e2 iK (e2 Ip (e2 PM (ah 2) (ah 0)) (eI 1)) (eI 1))) (el:=e2 bB (ah 1) (ah 0)) (cap:=[none,some 0,some 1]) (ρ:=[some (.str pool),iO d]) (st:=st) (st1:=st) (ws:=fL 0 pool.length) (ck:=none) (fun w=>zR d (Bj w)) (fun w=>.str [pool.getD (Bj w) 0])
   (by
    have:=jA (fs:=af #[58] aA) (ρ:=[some (.str pool),iO d]) (st:=st) (st1:=st) (q:=(pool.length:Int)) (ak (bR kn (AG hL)) aM) #[0]
    rw[cG]at this
    exact this) (by rw[fj];show _<=1000000;omega) trivial fun w hw=>by
   obtain⟨i,hi,rfl⟩:=ve hw
   refine⟨[iO (0+(i:Int)),some (.str pool),iO d],rfl,?_,fun _=>?_⟩
   ·have h0:(0:Int)<=0+(i:Int):=by omega
    have hk:(Builtin.bitAnd (d/2^(0+(i:Int)).toNat) 1==1)=zR d (Bj (.int (0+(i:Int)))):=rfl
    exact aR (bq (bq (bq kv kv (i6 h0)) bu (i6 trivial)) bu (fg hk))
   ·refine bq kv kv ?_
    rw[show((0:Int)+(i:Int))=(i:Int) by omega]
    have e2:uV pool (i:Int)=some (pool.getD i 0):=gA (lG 0 hi)
    rw[IS hL e2]
    simp[Bj]
 have e:((fL 0 pool.length).filter fun w=>zR d (Bj w)).map (fun w=>W.str [pool.getD (Bj w) 0])=((rd pool d).map fun c=>[c]).map W.str:=by
  unfold fL rd
  rw[List.filter_map,cw,cw,cw]
  have e1:((fun w=>zR d (Bj w))∘fun k:Nat=>W.int (0+(k:Int)))=zR d:=by funext k;simp[Bj]
  rw[e1]
  refine fF fun k _=>?_
  simp[Bj]
 rw[e]at hc
 have hl:(rd pool d).length<=50:=aO (pF pool d).length_le hp
 refine fC (N:=2) (ws:=[.str pool,.int d]) (body:=N4) ?_ rfl
 apply bU
 ·exact FX hc (bN c_) #[0]
 ·exact⟨_,_,rfl,rfl,_,by rw[al]⟩
theorem zS(l:List Nat):mM [] #[49]=l:=by
 rw[ou]
 induction l with
 |nil=>rfl
 |cons a r ih=>simp only[bD,nT,ih];rfl
theorem vB(h:l.Nodup):ED l=hW l:=by
 have hp:(hW l).Perm l:=(List.perm_ext_iff_of_nodup ((ku l).imp fun h=>a9 h) h).mpr fun d=>jZ
 have e:j4 #[49]=(hW l).map fun c=>[c]:=by
  refine wJ (xC _) ?_ ((h_ _).trans (hp.map _).symm)
  refine List.pairwise_map.mpr ((ku l).imp fun{a b} h=>?_)
  intro z
  rcases List.cons_lt_cons_iff.mp z with y|⟨y,_⟩<;>omega
 unfold ED
 rw[e,zS]
def G6(pool m:List Nat):Prop:=m.length<=50/\(∀d∈m,d∈pool)/\(pool.Nodup->m.Pairwise (· < ·))
theorem UQ(hp:pool.length<=50)(d:Int):G6 pool (ED (rd pool d)):=
 ⟨by rw[FW];exact aO (pF pool d).length_le hp,fun c hc=>(pF pool d).subset ((JZ _).mem_iff.mp hc),fun h=>by rw[vB ((pF pool d).nodup h)];exact ku _⟩
theorem Ru{f:cL->List ar->R Bool}{a b:List ar}(h1:f ρ st=.ok false a)(h2:f ρ st=.ok true b):False:=by
 rw[h1]at h2;cases h2
theorem F0{nd:Nat}{ds:List Int}{pool:List Nat}(hd:st[nd]?=some (.lst (zN ds)))(WM:ds.length<=100)(hp:pool.length<=50) :
  ∃ps S sz lk,Gr ps S sz lk/\S.length<=1/\ps.length<=2*ds.length/\(∀p∈ps,G6 pool p.m)/\yb [.loc nd,.str pool] st=.ok (bF ps) st:=by
 suffices hh:kX (AJ fun w bt=>(∃x,bt=st++x)/\undWs st.length [w]=true/\∃ps S sz lk,w=bF ps/\Gr ps S sz lk/\S.length<=1/\ps.length<=2*ds.length/\∀p∈ps,G6 pool p.m) (N5 ([W.loc nd,.str pool].map some++List.replicate (6-2) none) st) by
  obtain⟨w,⟨ps,S,sz,lk,rfl,h1,h2,h3,h4⟩,e⟩:=t7 hh
  exact⟨ps,S,sz,lk,h1,h2,h3,h4,e⟩
 apply az
 ·(walk_at "evs")
 apply az
 ·(walk_at "evs")
 have iP:∀A:List W,lstOf (st++[ar.lst A]) nd=some (zN ds):=fun A=>bN (cV hd)
 refine gq (fun i ρ bt=>∃(ps:List Pl) (S sz:List Nat) (lk:List #[9]) (o5 o6:Option W),ρ=[lO nd,some (.str pool),lO st.length,iO S.length,o5,o6]/\bt=st++[.lst (ps.map Pl.w)]/\Gr ps S sz lk/\ps.length=i/\∀p∈ps,G6 pool p.m) (wL (st1:=st++[ar.lst []]) (by(walk_at "evs")) (iP []))
  ⟨[],[],[],[],none,none,rfl,rfl,.nil,rfl,by simp⟩ (fun i ρ bt h=>?_) ?_ ?_
 ·obtain⟨ps,S,sz,lk,o5,o6,rfl,rfl,_⟩:=h
  exact iP _
 ·rintro i w ρ bt hw ⟨ps,S,sz,lk,o5,o6,rfl,rfl,hg,mL,hpm⟩
  obtain⟨d,hdd,rfl⟩:∃d,ds[i]?=some d/\w=.int d:=by
   simp only[zN,aI,fM]at hw
   obtain⟨d,h1,rfl⟩:=hw
   exact⟨d,h1,rfl⟩
  have hi:i<ds.length:=(ax.mp hdd).1
  refine⟨_,rfl,?_⟩
  have hc:#[84][st.length]?=some (.lst (ps.map Pl.w)):=c_
  obtain⟨b0,hb0,eb0⟩:=gJ (q:=d) (n:=4) #[0]
  have eb0:d%4=(b0:Int):=eb0
  apply az
  ·exact be (bq kv bu (i6 #[3]))
  rw[eb0]
  refine wM (fun ρ bt=>∃b:Nat,b<=3/\(b+1)/2<=S.length/\ρ=[lO nd,some (.str pool),lO st.length,iO S.length,iO d,iO b]/\bt=st++[.lst (ps.map Pl.w)]) ?_ ?_
  ·by_cases h1:S.length<(b0+1)/2
   ·have t1:decide ((S.length:Int)<((b0:Int)+1)/2)=true:=bg #[0]
    apply qL
    ·exact aR (bq (bq (bq kv bu dX) bu (i6 #[3])) kv (jz t1))
    apply dG
    ·(walk_at "evs")
    ·exact⟨_,_,rfl,0,by omega,by omega,rfl,rfl⟩
   ·have t1:decide ((S.length:Int)<((b0:Int)+1)/2)=false:=a7 #[0]
    apply mT
    ·exact aR (bq (bq (bq kv bu dX) bu (i6 #[3])) kv (jz t1))
    apply dG
    ·exact du
    ·exact⟨_,_,rfl,b0,by omega,by omega,rfl,rfl⟩
  rintro ρ bt ⟨b2,hb2,vJ,rfl,rfl⟩
  obtain⟨S',k,x,pM,hlen'⟩:=St.ex (n:=ps.length) hb2 vJ
  have em:=G5 pool hp (d/4%16) #[84]
  have hmk:=UQ hp (d/4%16)
  generalize ED (rd pool (d/4%16))=m at em hmk
  have ap:=p5 (y:=(Pl.mk b2 m).w) hc (by rw[aF];show _<1000000;omega)
  rw[gj]at ap
  have ap:bH #[4] [.tup [.int b2,.str m]] #[84]=_:=ap
  apply az
  ·exact eJ (iZ kv (dE hc) (ak (c5 (ak kv (ak (cf (ak kv (ak (bq (bq kv bu (i6 #[3])) bu (i6 #[3])) aM)) em rfl) aM)) #[41]) aM) ap)
  apply dG
  ·exact be (bq (bq kv bu dX) (bq (bq kv bu dX) bu (i6 #[3])) (i6 trivial))
  ·refine⟨_,_,rfl,ps++[⟨b2,m⟩],S',sz++[k],lk++[x],iO d,iO b2,?_,by simp,.snoc hg pM,by simp[mL],?_⟩
   ·show[_,_,_,iO ((S.length:Int)+1-((b2:Int)+1)/2),_,_]=_
    rw[show(S.length:Int)+1-((b2:Int)+1)/2=(S'.length:Int) by omega]
   ·intro p hp'
    rcases aV.mp hp' with z|z
    ·exact hpm p z
    ·simp at z;subst z;exact hmk
 ·rintro ρ bt ⟨ps,S,sz,lk,o5,o6,rfl,rfl,hg,mL,hpm⟩
  rw[show(zN ds,some (nd,zN ds)).fst.length=ds.length by simp[zN]]at mL
  have hSle:=hg.ok.2.2.le
  refine GU (fun n ρ bt=>∃(ps:List Pl) (S sz:List Nat) (lk:List #[9]),ρ=[lO nd,some (.str pool),lO st.length,iO S.length,o5,o6]/\bt=st++[.lst (ps.map Pl.w)]/\Gr ps S sz lk/\ps.length+S.length<=2*ds.length/\(∀p∈ps,G6 pool p.m)/\S.length=n) S.length ⟨ps,S,sz,lk,rfl,rfl,hg,by omega,hpm,rfl⟩ ?_ ?_
  ·rintro n ρ bt ⟨ps,S,sz,lk,rfl,rfl,hg,mL,hpm,rfl⟩
   by_cases h1:1<S.length
   ·refine .inr ?_
    have t1:decide ((1:Int)<(S.length:Int))=true:=bg #[0]
    constructor
    ·exact aR (bq kv bu (jz t1))
    obtain⟨S',k,x,pM,hlen'⟩:=St.ex (n:=ps.length) (b:=3) (S:=S) #[0] #[0]
    have hc:#[84][st.length]?=some (.lst (ps.map Pl.w)):=c_
    have hS2:=hg.ok.2.2.le
    obtain⟨p,Aa⟩:∃p,ps[S.length-1]?=some p:=⟨_,ao #[0]⟩
    have ix:bB #[4] (.int ((S.length:Int)-1)) #[84]=.ok p.w #[84]:=by
     rw[show(S.length:Int)-1=((S.length-1:Nat):Int) by omega]
     exact kz (bN hc) (gA (by rw[aI,Aa];rfl))
    have hmk:=hpm p (cr Aa)
    have ap:=p5 (y:=(Pl.mk 3 p.m).w) hc (by rw[aF];show _<1000000;omega)
    rw[gj]at ap
    have ap:bH #[4] [.tup [.int 3,.str p.m]] #[84]=_:=ap
    apply az
    ·exact eJ (iZ kv (dE hc) (ak (c5 (ak bu (ak (bq (bq kv (bq kv bu (i6 trivial)) ix) bu (EC p _)) aM)) #[41]) aM) ap)
    apply dG
    ·exact be (bq kv bu (i6 trivial))
    ·refine⟨_,_,rfl,S'.length,by omega,ps++[⟨3,p.m⟩],S',sz++[k],lk++[x],?_,by simp,.snoc hg pM,by simp;omega,?_,rfl⟩
     ·show[_,_,_,iO ((S.length:Int)-1),_,_]=_
      rw[show(S.length:Int)-1=(S'.length:Int) by omega]
     ·intro q hq
      rcases aV.mp hq with z|z
      ·exact hpm q z
      ·simp at z;subst z;exact hmk
   ·refine .inl ?_
    have t1:decide ((1:Int)<(S.length:Int))=false:=a7 #[0]
    exact aR (bq kv bu (jz t1))
  ·rintro n ρ bt ⟨ps,S,sz,lk,rfl,rfl,hg,mL,hpm,rfl⟩ hno
   have hc:#[84][st.length]?=some (.lst (ps.map Pl.w)):=c_
   have hS1:S.length<=1:=by
    rcases Nat.lt_or_ge 1 S.length with h1|h1
    ·have t1:decide ((1:Int)<(S.length:Int))=true:=bg #[0]
     exact(Ru hno (aR (bq kv bu (jz t1)))).elim
    ·exact h1
   apply bU
   ·exact bR kn (n5 (bN hc))
   ·exact⟨_,_,rfl,⟨_,rfl⟩,by simp only[undWs,dM];exact md ps _,ps,S,sz,lk,rfl,hg,hS1,by omega,hpm⟩
theorem Ka{l:List Nat}(hl:l.length<4000)(h:∀c∈l,c∈LL)(st:List ar):JR [.str l] st=.ok (.str (hW l)) st:=by
 have hs:(hW l).length<64:=by
  have:(hW l).length<=LL.length:=nZ ((ku l).imp fun h=>a9 h) fun c hc=>h c (jZ.mp hc)
  have e:LL.length=52:=by decide
  omega
 have e1:tX (ah 0) [some (.str l)] st=.ok #[4] (st++[.lst (jq (hW l))]):=by
  unfold tX
  rw[im (w:=.str l) rfl]
  simp only[R.bind_ok,xE,fy]
  rw[aJ ⟨hl,hs⟩]
 have hj:=En (sep:=[]) (ls:=(hW l).map fun c=>[c]) (st:=st++[.lst (jq (hW l))]) (n:=st.length) (bN (by rw[c_];unfold jq;rw[cw];rfl)) (by
  rw[ut];show _<=1000000;simp;omega)
 rw[zS]at hj
 exact fC (bU (Mx bu rfl (ak e1 aM) hj) ⟨_,_,rfl,rfl,_,rfl⟩) rfl
section
variable{ps:List Pl}{sz:List Nat}{lk:List #[9]}
theorem Kb(l:List Nat)(n:Nat):undWs n (dg l)=true:=by
 unfold dg
 induction l with
 |nil=>rfl
 |cons x r ih=>simp[undWs,W.und,ih]
theorem zT{st:List ar}{z:List Nat}{a:Nat}(x:List ar)(h:z[q]?=some a):bB #[4] (.int q) (st++.lst (dg z)::x)=.ok (.int a) (st++.lst (dg z)::x):=
 kz (bN (by rw[d_];rfl)) (gA (by unfold dg;rw[aI,h];rfl))
theorem Kc{st:List ar}{z:List Nat}(q:Nat)(hz:z.length<1000):bH #[4] [.int q] (st++[.lst (dg z)])=.ok .non (st++[.lst (dg (z++[q]))]):=by
 have hc:(st++[ar.lst (dg z)])[st.length]?=some (.lst (dg z)):=by rw[d_];rfl
 rw[p5 hc (by simp[dg];show _<1000000;omega),gj]
 simp[dg]
theorem W6{l:List α}{x:α}(h:l[i]?=some x):l.take (i+1)=l.take i++[x]:=by rw[kI,h];rfl
theorem Db(h:Gr ps S sz lk)(hn:ps.length<=900)(st:List ar):EA [bF ps] st=.ok (.tup (dg sz)) st:=by
 obtain⟨l1,l2,_⟩:=h.ok
 refine fC (N:=5) (ws:=[bF ps]) (body:=Uu) ?_ (by simp[undWs,W.und,Kb])
 apply az
 ·(walk_at "evs")
 have hlk:=um h #[0] (st++[ar.lst []])
 refine gq (fun i ρ bt=>∃(o2 o3 o4:Option W),ρ=[some (bF ps),some #[4],o2,o3,o4]/\bt=st++[.lst (dg (sz.take i))]) (k:=(lk.map jS,none))
  (AH (st1:=st++[ar.lst []]) (by(walk_at "evs"))) ⟨none,none,none,rfl,rfl⟩ #[59] ?_ ?_
 ·rintro i w ρ bt hw ⟨o2,o3,o4,rfl,rfl⟩
  have hip:i<ps.length:=by have:=(ax.mp hw).1;simp at this;omega
  obtain⟨S1,S2,p,k,x,g1,q1,q2,q3,hs,g2⟩:=h.step i hip
  rw[show(lk.map jS,(none:Option (Nat×List W))).1=lk.map jS from rfl,aI,q3]at hw
  cases hw
  obtain⟨lz,ll,ha⟩:=g1.ok
  have hti:(ps.take i).length=i:=by rw[aP];omega
  rw[hti]at ha lz
  have isl:mQ #[16] #[4]=true:=dE (by rw[d_];rfl)
  have ap:=Kc (st:=st) (z:=sz.take i) k #[0]
  rw[<- W6 q2]at ap
  obtain⟨b,m⟩:=p
  cases hs with
  |z=>
   rw[show((1:Nat):Int)=1 from rfl]at ap
   refine⟨_,rfl,?_⟩
   apply az
   ·(walk_at "evs")
   apply bA
   ·(walk_at "evs")
   apply b6
   apply bA
   ·(walk_at "evs")
   apply b6
   apply dG
   ·(walk_at "evs")
   ·exact⟨_,_,rfl,_,_,_,rfl,rfl⟩
  |@l a S=>
   rw[show((1+a:Nat):Int)=1+(a:Int) by omega]at ap
   have x1:bB #[4] (oW ((some (i-1),none):Option Nat×Option Nat).fst) #[16]=.ok (.int a) #[16]:=zT (st:=st) [] ha.1
   refine⟨_,rfl,?_⟩
   apply az
   ·(walk_at "evs")
   apply az
   ·apply cY
    ·(walk_at "evs")
    ·(walk_at "evs")
   apply bA
   ·(walk_at "evs")
   apply b6
   apply dG
   ·(walk_at "evs")
   ·exact⟨_,_,rfl,_,_,_,rfl,rfl⟩
  |@r a S=>
   rw[show((1+a:Nat):Int)=1+(a:Int) by omega]at ap
   have x1:bB #[4] (oW ((none,some (i-1)):Option Nat×Option Nat).snd) #[16]=.ok (.int a) #[16]:=zT (st:=st) [] ha.1
   refine⟨_,rfl,?_⟩
   apply az
   ·(walk_at "evs")
   apply bA
   ·(walk_at "evs")
   apply b6
   apply az
   ·apply cY
    ·(walk_at "evs")
    ·(walk_at "evs")
   apply dG
   ·(walk_at "evs")
   ·exact⟨_,_,rfl,_,_,_,rfl,rfl⟩
  |@b c a S=>
   have x1:bB #[4] (oW ((some (i-1-c),some (i-1)):Option Nat×Option Nat).snd) #[16]=.ok (.int c) #[16]:=zT (st:=st) [] ha.1
   have x2:=zT (st:=st) [] ha.2.2.2.1
   rw[show i-c-1=i-1-c by omega]at x2
   have x2:bB #[4] (oW ((some (i-1-c),some (i-1)):Option Nat×Option Nat).fst) #[16]=.ok (.int a) #[16]:=x2
   rw[show((1+c+a:Nat):Int)=1+(a:Int)+(c:Int) by omega]at ap
   refine⟨_,rfl,?_⟩
   apply az
   ·(walk_at "evs")
   apply az
   ·apply cY
    ·(walk_at "evs")
    ·(walk_at "evs")
   apply az
   ·apply cY
    ·(walk_at "evs")
    ·(walk_at "evs")
   apply dG
   ·(walk_at "evs")
   ·exact⟨_,_,rfl,_,_,_,rfl,rfl⟩
 ·rintro ρ bt ⟨o2,o3,o4,rfl,rfl⟩
  have hc:(st++[ar.lst (dg (sz.take (lk.map jS,(none:Option (Nat×List W))).1.length))])[st.length]?=some (.lst (dg sz)):=by
   rw[d_]
   show some (ar.lst (dg (sz.take (lk.map jS).length)))=_
   rw[bQ (by simp;omega)]
  apply bU
  ·(repeat' (first|with_reducible exact n5 (bN hc)|walk_at "ev1"))
  ·exact⟨_,_,rfl,rfl,_,rfl⟩
end
structure F1(ps:List Pl)(sz:List Nat)(q:Nat)(p:Pl)(L R:Nat):Prop where
 hp:ps[q]?=some p
 hz:sz[q]?=some (1+L+R)
 le:L+R<=q
 b3:p.b<=3
 hL:0<L↔p.b%2=1
 hR:0<R↔2<=p.b
 hr:2<=p.b->1<=q/\sz[q-1]?=some R
theorem F1.lt{ps:List Pl}{sz:List Nat}{p:Pl}{R:Nat}(c:F1 ps sz q p L R):q<ps.length:=(ax.mp c.hp).1
theorem kB(a b:List Pl)(h:(a++b).length<=100000)(st:List ar):cN (bF a) (bF b) st=.ok (bF (a++b)) st:=by
 unfold bF
 rw[IX (by rw[<- a8,aF];show _<=1000000;omega),<- a8]
theorem Oj{z:List Nat}{a:Nat}(h:z[q]?=some a)(st:List ar):bB (.tup (dg z)) (.int q) st=.ok (.int a) st:=nJ (gA (by unfold dg;rw[aI,h];rfl))
theorem yj{a:List Pl}{q:Nat}(h:q<=a.length)(st:List ar):yG (bF a) none (some (q:Int)) st=.ok (bF (a.take q)) st:=by
 unfold bF;rw[Cy,pd (by simpa using h),om]
theorem yk{a:List Pl}{q:Nat}(h:q<=a.length)(st:List ar):yG (bF a) (some (q:Int)) none st=.ok (bF (a.drop q)) st:=by
 unfold bF;rw[Cy,t9 (by simpa using h),on]
theorem EH{a:List Pl}{i j:Nat}(hj:j<=a.length)(hi:i<=j)(st:List ar):yG (bF a) (some (i:Int)) (some (j:Int)) st=.ok (bF ((a.drop i).take (j-i))) st:=by
 unfold bF;rw[Cy,IY (by simpa using hj) hi,om,on]
section
variable{ps:List Pl}{sz:List Nat}{lk:List #[9]}{p:Pl}{R:Nat}
theorem yl(h:q<ps.length)(st:List ar):yY [bF ps,.int q] st=.ok .non st:=by
 have d1:decide ((q:Int)<0)=false:=a7 #[0]
 have d2:decide ((ps.length:Int)<=(q:Int))=false:=a7 #[0]
 have hl:=gD ps st
 refine Cz (N:=2) (ws:=[bF ps,.int q]) (body:=QC) ?_
 apply mT
 ·apply nI
  ·(walk_at "evs")
  ·(walk_at "evs")
 apply dG
 ·(walk_at "evs")
 ·exact⟨_,_,rfl,[],by simp⟩
theorem Dc{z:Int}(h:z<0\/(ps.length:Int)<=z)(st:List ar):yY [bF ps,.int z] st=.ex "NoPlace" st:=by
 have hl:=gD ps st
 refine gK (N:=2) (ws:=[bF ps,.int z]) (body:=QC) ?_
 by_cases h0:z<0
 ·have d1:decide (z<0)=true:=bg h0
  apply qL
  ·apply AF
   (walk_at "evs")
  apply vd
  exact⟨_,_,rfl,[],by simp⟩
 ·have d1:decide (z<0)=false:=a7 h0
  have d2:decide ((ps.length:Int)<=z)=true:=bg #[0]
  apply qL
  ·apply nI
   ·(walk_at "evs")
   ·(walk_at "evs")
  apply vd
  exact⟨_,_,rfl,[],by simp⟩
theorem Kd(h:n<=100)(st:List ar):EB [.int n] st=.ok .non st:=by
 have d1:decide ((100:Int)<(n:Int))=false:=a7 #[0]
 refine Cz (N:=1) (ws:=[.int n]) (body:=JU) ?_
 simp only[JU,lD]
 apply mT
 ·(walk_at "evs")
 apply dG
 ·(walk_at "evs")
 ·exact⟨_,_,rfl,[],by simp⟩
theorem MI(h:100<n)(st:List ar):EB [.int n] st=.ex "TooGreat" st:=by
 have d1:decide ((100:Int)<(n:Int))=true:=bg #[0]
 refine gK (N:=1) (ws:=[.int n]) (body:=JU) ?_
 simp only[JU,lD]
 apply qL
 ·(walk_at "evs")
 apply vd
 exact⟨_,_,rfl,[],by simp⟩
theorem MJ(h:Gr ps S sz lk)(hn:ps.length<=900)(c:F1 ps sz q p L R)(st:List ar):v5 [bF ps,.int q] st=.ok (bF ((ps.drop (q-L-R)).take (1+L+R))) st:=by
 have hq:=c.lt
 have mL:=c.le
 have h1:=yl hq st
 have h2:=Db h hn st
 have h3:=Oj c.hz st
 have h4:=EH (a:=ps) (i:=q-L-R) (j:=q+1) #[0] #[0] st
 rw[show q+1-(q-L-R)=1+L+R by omega,show((q-L-R:Nat):Int)=(q:Int)+1-((1+L+R:Nat):Int) by omega,show((q+1:Nat):Int)=(q:Int)+1 from rfl]at h4
 refine fC (N:=2) (ws:=[bF ps,.int q]) (body:=JV) ?_ (by simp[undWs,md])
 apply az
 ·(walk_at "evs")
 apply bU
 ·apply oG
  ·(walk_at "evs")
  ·(walk_at "evs")
  ·(walk_at "evs")
  ·exact h4
 ·exact⟨_,_,rfl,rfl,[],by simp⟩
theorem MK{z:Int}(h:z<0\/(ps.length:Int)<=z)(st:List ar):v5 [bF ps,.int z] st=.ex "NoPlace" st:=by
 refine gK (N:=2) (ws:=[bF ps,.int z]) (body:=JV) ?_
 apply fT
 ·apply rR
  apply lF
  ·(walk_at "evs")
  ·exact Dc h st
  ·rfl
 ·exact⟨_,_,rfl,[],by simp⟩
theorem Ke(h:Gr ps S sz lk)(hn:ps.length<=900)(c:F1 ps sz q p L R)(st:List ar):qY [bF ps,.int q] st=.ok (.tup [bF ((ps.drop (q-L-R)).take L),bF ((ps.drop (q-R)).take R)]) st:=by
 have hq:=c.lt
 have mL:=c.le
 have h1:=MJ h hn c st
 have h2:=Db h hn st
 have h3:=uo c.hp st
 have h4:=C5 c.b3 st
 have hl:yG (bF ((ps.drop (q-L-R)).take (1+L+R))) none (some (-1)) st=.ok (bF ((ps.drop (q-L-R)).take (L+R))) st:=by
  unfold bF
  rw[Cy,IZ,<- List.map_dropLast,qw,aP,cF,rK,show min (min (1+L+R) (ps.length-(q-L-R))-1) (1+L+R)=L+R by omega]
 have hbl:((ps.drop (q-L-R)).take (L+R)).length=L+R:=by rw[aP,cF];omega
 have h5:=gD ((ps.drop (q-L-R)).take (L+R)) st
 rw[hbl]at h5
 have h6:=yj (a:=(ps.drop (q-L-R)).take (L+R)) (q:=L) #[0] st
 have h7:=yk (a:=(ps.drop (q-L-R)).take (L+R)) (q:=L) #[0] st
 rw[rK,iz #[0]]at h6
 rw[List.drop_take,List.drop_drop,show q-L-R+L=q-R by omega,show L+R-L=R by omega]at h7
 have eL:((L+R:Nat):Int)-(R:Int)=(L:Int):=by omega
 refine fC (N:=5) (ws:=[bF ps,.int q]) (body:=JW) ?_ (by simp[undWs,W.und,md])
 apply az
 ·apply be
  apply oG
  ·(walk_at "evs")
  ·(walk_at "evs")
  ·apply oF
   apply vZ
   (walk_at "evs")
  ·exact hl
 apply az
 ·(walk_at "evs")
 refine wM (fun ρ bt=>ρ=[some (bF ps),some (.int q),some (bF ((ps.drop (q-L-R)).take (L+R))),some (.int R),none]/\bt=st) ?_ ?_
 ·by_cases hb:2<=p.b
  ·rw[bg hb]at h4
   obtain⟨hq1,hz1⟩:=c.hr hb
   have h8:=Oj hz1 st
   rw[show((q-1:Nat):Int)=(q:Int)-1 by omega]at h8
   apply qL
   ·(walk_at "evs")
   apply dG
   ·(walk_at "evs")
   ·walk_at "8"
  ·rw[a7 hb]at h4
   have hR0:R=0:=by have:=c.hR;omega
   apply mT
   ·(walk_at "evs")
   apply dG
   ·(walk_at "evs")
   ·exact⟨_,_,rfl,by subst hR0;rfl,rfl⟩
 ·rintro ρ bt ⟨rfl,rfl⟩
  apply az
  ·(walk_at "evs")
  rw[eL]
  apply bU
  ·apply c5
   ·apply ak
    ·apply oG
     ·(walk_at "evs")
     ·(walk_at "evs")
     ·(walk_at "evs")
     ·exact h6
    ·apply ak
     ·apply oG
      ·(walk_at "evs")
      ·(walk_at "evs")
      ·(walk_at "evs")
      ·exact h7
     ·(walk_at "evs")
   ·(walk_at "evs")
  ·exact⟨_,_,rfl,rfl,[],by simp⟩
end
def rW(l:List Pl):Nat:=if 0<l.length then 1 else 0
theorem Kf(a b:List Pl)(m:List Nat)(h:a.length+b.length<=5000)(st:List ar):CP [bF a,bF b,.str m] st=.ok (bF (a++b++[⟨rW a+2*rW b,m⟩])) st:=by
 have h1:=gD a st
 have h2:=gD b st
 have h3:=kB a b (by simp;omega) st
 have h4:=kB (a++b) [⟨rW a+2*rW b,m⟩] (by simp;omega) st
 refine fC (N:=4) (ws:=[bF a,bF b,.str m]) (body:=N0) ?_ (by simp[undWs,md])
 apply az
 ·(walk_at "evs")
 refine wM (fun ρ bt=>ρ=[some (bF a),some (bF b),some (.str m),some (.int (rW a:Nat))]/\bt=st) ?_ ?_
 ·by_cases ha:0<a.length
  ·have d:decide ((0:Int)<(a.length:Int))=true:=bg #[0]
   apply qL
   ·(walk_at "evs")
   apply dG
   ·(walk_at "evs")
   ·exact⟨_,_,rfl,by simp only[rW,aJ ha];rfl,rfl⟩
  ·have d:decide ((0:Int)<(a.length:Int))=false:=a7 #[0]
   apply mT
   ·(walk_at "evs")
   apply dG
   ·(walk_at "evs")
   ·exact⟨_,_,rfl,by simp only[rW,aW ha];rfl,rfl⟩
 rintro ρ bt ⟨rfl,rfl⟩
 refine wM (fun ρ st''=>ρ=[some (bF a),some (bF b),some (.str m),some (.int (rW a+2*rW b:Nat))]/\st''=bt) ?_ ?_
 ·by_cases hb:0<b.length
  ·have d:decide ((0:Int)<(b.length:Int))=true:=bg #[0]
   apply qL
   ·(walk_at "evs")
   apply dG
   ·(walk_at "evs")
   ·exact⟨_,_,rfl,by simp only[rW,aJ hb];rfl,rfl⟩
  ·have d:decide ((0:Int)<(b.length:Int))=false:=a7 #[0]
   apply mT
   ·(walk_at "evs")
   apply dG
   ·(walk_at "evs")
   ·exact⟨_,_,rfl,by simp only[rW,aW hb];rfl,rfl⟩
 rintro ρ st'' ⟨rfl,rfl⟩
 have h5:cN (bF (a++b)) (.tup [.tup [.int (rW a+2*rW b:Nat),.str m]]) st''=.ok (bF (a++b++[⟨rW a+2*rW b,m⟩])) st'':=h4
 apply bU
 ·(walk_at "evs")
 ·exact⟨_,_,rfl,rfl,[],by simp⟩
def EI(ps:List Pl)(q L R:Nat):List Pl:=(ps.drop (q-L-R)).take L
def EJ(ps:List Pl)(q R:Nat):List Pl:=(ps.drop (q-R)).take R
def Lg(ps:List Pl)(q L R:Nat)(m:List Nat)(sd:Bool)(oth:List Pl):List Pl:=
 let l:=if sd then oth else EI ps q L R
 let r:=if sd then EJ ps q R else oth
 ps.take (q-L-R)++(l++r++[⟨rW l+2*rW r,m⟩])++ps.drop (q+1)
def mf(sd:Bool):W:=.str (if sd then[108,101,102,116]else[114,105,103,104,116])
section
variable{ps oth:List Pl}{sz:List Nat}{lk:List #[9]}{p:Pl}{R:Nat}
theorem F1.l0(c:F1 ps sz q p L R):(EI ps q L R).length=L:=by have:=c.lt;have:=c.le;unfold EI;rw[aP,cF];omega
theorem F1.l1(c:F1 ps sz q p L R):(EJ ps q R).length=R:=by have:=c.lt;have:=c.le;unfold EJ;rw[aP,cF];omega
theorem F1.len(c:F1 ps sz q p L R)(sd:Bool):(Lg ps q L R p.m sd oth).length+(if sd then L else R)=ps.length+oth.length:=by
 have:=c.lt;have:=c.le;have h0:=c.l0;have h1:=c.l1
 unfold Lg
 cases sd
 ·simp[h0];omega
 ·simp[h1];omega
theorem F2(h:Gr ps S sz lk)(hn:ps.length<=900)(ho:oth.length<=900)(c:F1 ps sz q p L R)(sd:Bool)(st:List ar){P:RS->Prop}
  (he:∀o4 o5 o6 o7:Option W,kX P ((aK (cU (b_ 1 EB (af (bw dm (af (ah 8) aA)) aA))) (cM (ah 8))) [some (bF ps),some (.int q),some (mf sd),some (bF oth),o4,o5,o6,o7,some (bF (Lg ps q L R p.m sd oth))] st)) :
  kX P (CQ ([bF ps,.int q,mf sd,bF oth].map some++List.replicate (9-4) none) st):=by
 have hq:=c.lt
 have mL:=c.le
 have h0:=c.l0
 have h1:=c.l1
 have a1:=Ke h hn c st
 change _=L2.R.ok (W.tup [bF (EI ps q L R),bF (EJ ps q R)]) st at a1
 have b0:bB (.tup [bF (EI ps q L R),bF (EJ ps q R)]) (.int 0) st=.ok (bF (EI ps q L R)) st:=rfl
 have b1:bB (.tup [bF (EI ps q L R),bF (EJ ps q R)]) (.int 1) st=.ok (bF (EJ ps q R)) st:=rfl
 have n0:=gD (EI ps q L R) st
 have n1:=gD (EJ ps q R) st
 rw[h0]at n0
 rw[h1]at n1
 have i1:=uo c.hp st
 have i2:=EC p st
 have s1:=yj (a:=ps) (q:=q-L-R) #[0] st
 rw[show((q-L-R:Nat):Int)=(q:Int)-(L:Int)-(R:Int) by omega]at s1
 have s2:=yk (a:=ps) (q:=q+1) #[0] st
 rw[show((q+1:Nat):Int)=(q:Int)+1 from rfl]at s2
 cases sd with
 |true=>
  have q1:iK (mf true) #[53] st=.ok (.bl true) st:=rfl
  have q2:iK (mf true) (.str [114,105,103,104,116]) st=.ok (.bl false) st:=rfl
  have t1:=Kf oth (EJ ps q R) p.m #[0] st
  have t2:=kB (ps.take (q-L-R)) (oth++EJ ps q R++[⟨rW oth+2*rW (EJ ps q R),p.m⟩]) (by simp;omega) st
  have t3:=kB (ps.take (q-L-R)++(oth++EJ ps q R++[⟨rW oth+2*rW (EJ ps q R),p.m⟩])) (ps.drop (q+1)) (by simp;omega) st
  apply az
  ·(walk_at "evs")
  apply az
  ·apply be
   apply t0
   ·(walk_at "evs")
   ·(walk_at "evs")
  apply az
  ·apply be
   apply t5
   ·(walk_at "evs")
   ·(walk_at "evs")
  apply az
  ·(walk_at "evs")
  apply az
  ·(repeat' (first|with_reducible exact s1|with_reducible exact s2|walk_at "ev1"))
  exact he _ _ _ _
 |false=>
  have q1:iK (mf false) #[53] st=.ok (.bl false) st:=rfl
  have q2:iK (mf false) (.str [114,105,103,104,116]) st=.ok (.bl true) st:=rfl
  have t1:=Kf (EI ps q L R) oth p.m #[0] st
  have t2:=kB (ps.take (q-L-R)) (EI ps q L R++oth++[⟨rW (EI ps q L R)+2*rW oth,p.m⟩]) (by simp;omega) st
  have t3:=kB (ps.take (q-L-R)++(EI ps q L R++oth++[⟨rW (EI ps q L R)+2*rW oth,p.m⟩])) (ps.drop (q+1)) (by simp;omega) st
  apply az
  ·(walk_at "evs")
  apply az
  ·apply be
   apply t5
   ·(walk_at "evs")
   ·(walk_at "evs")
  apply az
  ·apply be
   apply t0
   ·(walk_at "evs")
   ·(walk_at "evs")
  apply az
  ·(walk_at "evs")
  apply az
  ·(repeat' (first|with_reducible exact s1|with_reducible exact s2|walk_at "ev1"))
  exact he _ _ _ _
theorem Rv(h:Gr ps S sz lk)(hn:ps.length<=900)(ho:oth.length<=900)(c:F1 ps sz q p L R)(sd:Bool)(st:List ar)(hs:(Lg ps q L R p.m sd oth).length<=100):v7 [bF ps,.int q,mf sd,bF oth] st=.ok (bF (Lg ps q L R p.m sd oth)) st:=by
 refine fC (N:=9) (ws:=[bF ps,.int q,mf sd,bF oth]) (body:=CQ) (F2 h hn ho c sd st fun o4 o5 o6 o7=>?_) (by simp[undWs,md])
 have n:=gD (Lg ps q L R p.m sd oth) st
 have z:=Kd hs st
 apply az
 ·(walk_at "evs")
 apply bU
 ·(walk_at "evs")
 ·exact⟨_,_,rfl,rfl,[],by simp⟩
theorem G7(h:Gr ps S sz lk)(hn:ps.length<=900)(ho:oth.length<=900)(c:F1 ps sz q p L R)(sd:Bool)(st:List ar)(hs:100<(Lg ps q L R p.m sd oth).length):v7 [bF ps,.int q,mf sd,bF oth] st=.ex "TooGreat" st:=by
 refine gK (N:=9) (ws:=[bF ps,.int q,mf sd,bF oth]) (body:=CQ) (F2 h hn ho c sd st fun o4 o5 o6 o7=>?_)
 have n:=gD (Lg ps q L R p.m sd oth) st
 have z:=MI hs st
 apply fT
 ·apply rR
  apply lF
  ·(walk_at "evs")
  ·exact z
  ·rfl
 ·exact⟨_,_,rfl,[],by simp⟩
theorem Rw{z:Int}(h:z<0\/(ps.length:Int)<=z)(sd oth:W)(st:List ar):v7 [bF ps,.int z,sd,oth] st=.ex "NoPlace" st:=by
 have hb:qY [bF ps,.int z] st=.ex "NoPlace" st:=by
  refine gK (N:=5) (ws:=[bF ps,.int z]) (body:=JW) ?_
  refine fT (c:="NoPlace") (ρ':=[some (bF ps),some (.int z),none,none,none]) (st1:=st) ?_ ⟨_,_,rfl,[],by simp⟩
  refine t_ ?_
  have e:b_ 2 v5 (af (ah 0) #[30]) [some (bF ps),some (.int z),none,none,none] st=.ex "NoPlace" st:=lF (ak kv kn) (MK h st) rfl
  unfold sQ
  change (b_ 2 v5 (af (ah 0) #[30]) [some (bF ps),some (.int z),none,none,none] st).bind _=_
  rw[e]
  rfl
 refine gK (N:=9) (ws:=[bF ps,.int z,sd,oth]) (body:=CQ) ?_
 apply fT
 ·apply t_
  apply lF
  ·(walk_at "evs")
  ·exact hb
  ·rfl
 ·exact⟨_,_,rfl,[],by simp⟩
end
theorem ML{l:List α}{x d:α}(h:l[i]?=some x):l.getD i d=x:=by rw[aG,h];rfl
section
variable{ps:List Pl}{sz:List Nat}{lk:List #[9]}{M:Mc}
def zU(R:List Nat)(q:Nat):W:=.int ((R.getD q 0:Nat):Int)
theorem F3(h:Gr ps S sz lk)(hl:ps.length<=900)(hM:mK M n)(hn:1<=n)(st:List ar) :
  ∃x,yc [M.w,bF ps] st=.ok #[36] (st++x)/\x[1]?=some (.lst (nW (gF M ps lk))):=by
 suffices hh:kX (AJ fun w bt=>∃j x,w=.loc (st.length+j)/\bt=st++x/\j=1/\x[1]?=some (.lst (nW (gF M ps lk)))) (N9 ([M.w,bF ps].map some++List.replicate (8-2) none) st) by
  obtain⟨j,x,⟨rfl,hx⟩,e⟩:=t8 hh
  exact⟨x,e,hx⟩
 obtain⟨l1,l2,_⟩:=h.ok
 obtain⟨rl,rlt⟩:=oM (M:=M) h hM hn
 have rat:=fun{i:Nat} {p:Pl} {x:Option Nat×Option Nat}=>J_ (M:=M) (i:=i) (p:=p) (x:=x) h hM hn
 generalize gF M ps lk=R at *
 apply az
 ·exact be (mz aM #[41])
 apply az
 ·exact be (mz aM #[41])
 have l3:(st++[ar.lst []]).length=st.length+1:=by simp
 rw[l3]
 refine gq (fun i ρ s=>∃(S1:List Nat) (o4 o5 o6 o7:Option W),ρ=[some M.w,some (bF ps),some #[4],some #[36],o4,o5,o6,o7]/\s=st++[.lst ((ke S1 i).map (zU R)).reverse,.lst (nW (R.take i))]/\Gr (ps.take i) S1 (sz.take i) (lk.take i)/\i<=ps.length)
  (k:=(ps.map Pl.w,none)) (st1:=(st++[ar.lst []])++[ar.lst []]) (AH kv) ⟨[],none,none,none,none,rfl,by rw[al];rfl,.nil,cE _⟩ #[59] ?_ ?_
 ·rintro i w ρ s hw ⟨S1,o4,o5,o6,o7,rfl,rfl,hg,hi⟩
  have hip:i<ps.length:=by have:=(ax.mp hw).1;simpa using this
  obtain⟨S1',S2,p,k,x,g1,q1,q2,q3,hs,g2⟩:=h.step i hip
  have hw:w=p.w:=by
   simp only at hw
   rw[aI,q1]at hw
   exact(bC hw).symm
  subst hw
  refine⟨_,rfl,?_⟩
  have hS:=hg.det g1 rfl
  subst hS
  obtain⟨lz,ll,ha⟩:=g1.ok
  have hti:(ps.take i).length=i:=by rw[aP];omega
  rw[hti]at ha lz ll
  have hSl:=ha.le
  have hR:=rat q1 q3
  have hlo:J6 R.length x:=⟨fun j e=>by have:=(h.lk q3).1 j e;omega,fun j e=>by have:=(h.lk q3).2 j e;omega⟩
  obtain⟨t,r,f1,f2,f3,_⟩:=EG (m:=p.m) hM hn rlt hlo
  have hRt:R.take (i+1)=R.take i++[wO M R p.m x]:=by rw[kI,hR];rfl
  have pop:∀(A:List W) (B:List Nat) (q:Nat),oz #[4] [] (st++[.lst ((q::B).map (zU R)).reverse,.lst A])=.ok (zU R q) (st++[.lst (B.map (zU R)).reverse,.lst A]):=fun A B q=>by
   have hc:(st++[ar.lst ((q::B).map (zU R)).reverse,.lst A])[st.length]?=some (.lst ((B.map (zU R)).reverse++[zU R q])):=by rw[d_];simp
   rw[xN hc,gj];rfl
  have isl0:∀(A:List W) (B:List W),mQ (st++[.lst A,.lst B]) #[4]=true:=fun A B=>dE (by rw[d_];rfl)
  have T1:∀(k:Bool) (ρ:cL) (s:List ar),decide ((2:Int)<=(p.b:Int))=k->ρ[4]?=some (some (.int p.b))->dO (e2 PQ (ah 4) (eI 2)) ρ s=.ok k s:=fun k ρ s e h4=>aR (bq (im h4) bu (Cw e))
  have T2:∀(k:Bool) (ρ:cL) (s:List ar),(((p.b:Int)%2)==1)=k->ρ[4]?=some (some (.int p.b))->dO (e2 iK (e2 ij (ah 4) (eI 2)) (eI 1)) ρ s=.ok k s:=fun k ρ s e h4=>aR (bq (bq (im h4) bu (i6 #[3])) bu (fg e))
  have put:∀(u v:W) (B:List Nat),u=.int (Bi R x.1:Nat)->v=.int (Bi R x.2:Nat)->B.length<1001->i::B=ke S2 (i+1) ->
    kX (My (fun ρ s=>∃(S1:List Nat) (o4 o5 o6 o7:Option W),ρ=[some M.w,some (bF ps),some #[4],some #[36],o4,o5,o6,o7]/\s=st++[.lst ((ke S1 (i+1)).map (zU R)).reverse,.lst (nW (R.take (i+1)))]/\Gr (ps.take (i+1)) S1 (sz.take (i+1)) (lk.take (i+1))/\i+1<=ps.length))
     (aK (cU (kK bH (ah 2) (af (e2 bB (e2 bB (e2 bB (e2 bB (ah 0) (eI 2)) (b_ 2 zL (af (e2 bB (ah 0) (eI 0)) (af (ah 5) aA)))) (ah 6)) (ah 7)) aA))) (cU (kK bH (ah 3) (af (e2 bB (ah 2) (xz (eI 1))) aA)))
      [some M.w,some (bF ps),some #[4],some #[36],some (.int p.b),some (.str p.m),some u,some v] (st++[.lst (B.map (zU R)).reverse,.lst (nW (R.take i))])):=by
   rintro u v B rfl rfl hB hT
   have hc:(st++[ar.lst (B.map (zU R)).reverse,.lst (nW (R.take i))])[st.length]?=some (.lst (B.map (zU R)).reverse):=by rw[d_];rfl
   apply az
   ·exact eJ (iZ kv (dE hc) (ak (bq (bq (bq kx (cf (ak kx kn) (EF M.nm p.m _) rfl) (J8 f1 _)) kv (J4 f2)) kv (J3 f3)) aM) (p5 hc (by rw[List.length_reverse,aF];show _<1000000;omega)))
   rw[gj]
   have hc1:(st++[ar.lst (B.map (zU R)).reverse,.lst (nW (R.take i))].set 0 (.lst ((B.map (zU R)).reverse++[W.int (wO M R p.m x:Nat)])))[st.length]?=some (.lst ((B.map (zU R)).reverse++[W.int (wO M R p.m x:Nat)])):=by rw[d_];rfl
   have hc2:(st++[ar.lst (B.map (zU R)).reverse,.lst (nW (R.take i))].set 0 (.lst ((B.map (zU R)).reverse++[W.int (wO M R p.m x:Nat)])))[st.length+1]?=some (.lst (nW (R.take i))):=by rw[ia];rfl
   have last:uV ((B.map (zU R)).reverse++[W.int (wO M R p.m x:Nat)]) (-1)=some (.int (wO M R p.m x:Nat)):=AI (q:=0) (by rw[List.reverse_append];rfl)
   refine dG (eJ (iZ kv (dE hc2) (ak (bq kv (vZ bu) (kz (bN hc1) last)) aM) (p5 hc2 (by simp[nW];show _<1000000;omega)))) ?_
   refine⟨_,_,rfl,S2,_,_,_,_,rfl,?_,g2,by omega⟩
   rw[mS,<- hT,hRt]
   have:zU R i=.int (wO M R p.m x:Nat):=by unfold zU;rw[ML hR]
   simp[nW,this]
  apply az
  ·exact be bu
  apply az
  ·exact be bu
  obtain⟨b,m⟩:=p
  cases hs with
  |@z=>
   apply bA
   ·exact T1 false _ _ rfl rfl
   apply b6
   apply bA
   ·exact T2 false _ _ rfl rfl
   apply b6
   exact put _ _ (ke S1 i) rfl rfl (by rw[jk];omega) rfl
  |@l a S=>
   apply bA
   ·exact T1 false _ _ rfl rfl
   apply b6
   apply az
   ·exact cY (T2 true _ _ rfl rfl) (be (iZ kv (isl0 _ _) aM (pop _ (ke S (i-a)) (i-1))))
   exact put _ _ (ke S (i-a)) rfl rfl (by rw[jk];simp at hSl;omega) (by simp only[ke];congr 1;congr 1;omega)
  |@r a S=>
   apply az
   ·exact cY (T1 true _ _ rfl rfl) (be (iZ kv (isl0 _ _) aM (pop _ (ke S (i-a)) (i-1))))
   apply bA
   ·exact T2 false _ _ (by show((2:Int)%2==1)=false;decide) rfl
   apply b6
   exact put _ _ (ke S (i-a)) rfl rfl (by rw[jk];simp at hSl;omega) (by simp only[ke];congr 1;congr 1;omega)
  |@b c a S=>
   apply az
   ·exact cY (T1 true _ _ rfl rfl) (be (iZ kv (isl0 _ _) aM (pop _ (ke (a::S) (i-c)) (i-1))))
   apply az
   ·exact cY (T2 true _ _ (by show((3:Int)%2==1)=true;decide) rfl) (be (iZ kv (isl0 _ _) aM (pop _ (ke S (i-c-a)) (i-c-1))))
   exact put _ _ (ke S (i-c-a)) (by show zU R _=W.int ((R.getD (i-1-c) 0:Nat):Int);rw[show i-1-c=i-c-1 by omega];rfl) rfl (by rw[jk];simp at hSl;omega) (by simp only[ke];congr 1;congr 1;omega)
 ·rintro ρ s ⟨S1,o4,o5,o6,o7,rfl,rfl,hg,hi⟩
  apply bU
  ·exact im rfl
  ·refine⟨_,_,rfl,1,_,rfl,rfl,rfl,?_⟩
   rw[show(ps.map Pl.w,(none:Option (Nat×List W))).fst.length=R.length by simp[rl],et]
   rfl
theorem Kg(h:Gr ps S sz lk)(hl:ps.length<=900)(hM:mK M n)(hn:1<=n)(st:List ar):C1 [M.w,bF ps] st=.ok (.bl (MH M ps lk)) st:=by
 refine fC (N:=2) (ws:=[M.w,bF ps]) (body:=N_) ?_ rfl
 have ll:=gD ps st
 have tl:=Rq (M:=M) h hM hn
 unfold MH
 by_cases z:0<ps.length
 ·refine bA (aR (bq (bR kn ll) bu (fg (by rw[bh];omega)))) ?_
  refine b6 ?_
  rw[aJ z]at tl ⊢
  obtain⟨x,e,hx⟩:=F3 h hl hM hn st
  have hx2:(st++x)[st.length+1]?=some (.lst (nW (gF M ps lk))):=by rw[ia];exact hx
  refine bU (bq kx (bq (cf (ak kv kn) e rfl) (vZ bu) (kz (bN hx2) (AI (q:=0) (x:=.int (Da M ps lk:Nat)) ?_))) (J' hM tl _)) ⟨_,_,rfl,rfl,_,rfl⟩
  have rl:=(oM (M:=M) h hM hn).1
  unfold nW
  rw[iI (by rw[aF];omega),aF,aI,rl,show ps.length-1-0=ps.length-1 by omega,ao #[0]]
  show some (W.int _)=some (W.int _)
  unfold Da
  rw[aG,ao #[0]];rfl
 ·rw[aW z]
  refine ec (aR (bq (bR kn ll) bu (fg (by rw[dv];omega)))) ?_
  exact dZ (bq kx bu (J' (k:=0) hM hn st)) ⟨_,_,rfl,rfl,[],by simp⟩
end
theorem EK(nm:List Nat)(n iW dl:Nat)(ds:List Int)(st:List ar)(U8:nm.length<=6)(hn:1<=n)(XB:n<=9)(R8:1<=iW)(XC:iW<=n)(hd:st[dl]?=some (.lst (zN ds)))(Ot:n+2^nm.length*(n*n)<=ds.length) :
  ∃M:Mc,M.nm=nm/\mK M n/\C0 [.str nm,.int n,.int iW,.loc dl] st=.ok M.w st:=by
 suffices hh:kX (AJ fun w bt=>(∃x,bt=st++x)/\undWs st.length [w]=true/\∃M:Mc,w=M.w/\M.nm=nm/\mK M n) (N7 ([W.str nm,.int n,.int iW,.loc dl].map some++List.replicate (10-4) none) st) by
  obtain⟨w,⟨M,rfl,h1,h2⟩,e⟩:=t7 hh
  exact⟨M,h1,h2,e⟩
 have gI:∀s:List ar,dm [.str nm] s=.ok (.int nm.length) s:=fun s=>AG (by show _<=1000000;omega)
 have p2:2^nm.length<=64:=Nat.pow_le_pow_right #[0] U8
 obtain⟨N,hN⟩:∃N,N=2^nm.length:=⟨_,rfl⟩
 have sh:∀s:List ar,Cd (.int 1) (.int nm.length) s=.ok (.int N) s:=fun s=>by rw[hN];exact HZ #[0]
 rw[<- hN]at p2 Ot
 have hdn:n<=ds.length:=by omega
 obtain⟨gd,hgl,_,eg⟩:=J0 (cap:=[none,some 3]) (ρ:=[some (.str nm),iO n,iO iW,lO dl,none,none,none,none,none,none]) (st:=st) (fs:=af (ah 1) aA) (n:=n)
  (el:=e2 iK (e2 ij (e2 bB (ah 1) (ah 0)) (eI 2)) (eI 1)) W.bl (fun _ _=>True) kn #[0] fun q hq=>by
   obtain⟨d,hdd⟩:∃d,ds[q]?=some d:=⟨_,ao #[0]⟩
   exact⟨_,trivial,bq (bq (bq kv kv (ur hd hdd)) bu (i6 #[3])) bu (fg rfl)⟩
 apply az
 ·exact be eg
 generalize hs0:st++[ar.lst (gd.map W.bl)]=s0
 have hst0:st <+: s0:=by rw[<- hs0];exact a_ _ _
 apply az
 ·(walk_at "evs")
 apply az
 ·(walk_at "evs")
 refine gq (fun i ρ s=>∃(tb:List (List #[66])) (a:Nat) (o7 o8 o9:Option W),ρ=[some (.str nm),iO n,iO iW,lO dl,some (.tup (gd.map W.bl)),lO s0.length,iO a,o7,o8,o9]/\s0 <+: s/\s[s0.length]?=some (.lst (tb.map y4))/\tb.length=i/\(∀t∈tb,W5 n t)/\a+(N-i)*(n*n)<=ds.length)
  (jA (q:=(N:Int)) (st1:=s0++[ar.lst []]) (ak (bq bu (bR kn (gI _)) (sh _)) aM) #[0])
  ⟨[],n,none,none,none,rfl,a_ _ _,c_,rfl,by simp,by simpa using Ot⟩ #[59] ?_ ?_
 ·rintro i w ρ s hw ⟨tb,a,o7,o8,o9,rfl,hp,hc,hl,ht,hal⟩
  obtain⟨hi,rfl⟩:=kY hw
  rw[cG]at hi
  refine⟨_,rfl,?_⟩
  rw[show N-i=(N-(i+1))+1 by omega,Nat.succ_mul]at hal
  apply az
  ·(walk_at "evs")
  refine gq (fun j ρ z=>∃(BH:List #[66]) (a:Nat) (o9:Option W),ρ=[some (.str nm),iO n,iO iW,lO dl,some (.tup (gd.map W.bl)),lO s0.length,iO a,iO (0+(i:Int)),lO s.length,o9]/\s <+: z/\z[s.length]?=some (.lst (BH.map gH))/\BH.length=j/\(∀r∈BH,r.length=n/\∀k∈r,k<n)/\a+((N-(i+1))*(n*n)+(n-j)*n)<=ds.length)
   (jA (q:=(n:Int)) (st1:=s++[ar.lst []]) (by(walk_at "evs")) #[0]) ⟨[],a,_,rfl,a_ _ _,c_,rfl,by simp,by simpa using hal⟩ #[59] ?_ ?_
  ·rintro j w ρ z hw ⟨BH,a,o9,rfl,hz,hcz,hrl,hr,hal⟩
   obtain⟨hj,rfl⟩:=kY hw
   rw[cG]at hj
   refine⟨_,rfl,?_⟩
   rw[show n-j=(n-(j+1))+1 by omega,Nat.succ_mul]at hal
   have pt:(0:Int)<(iW:Int):=by omega
   obtain⟨r,hrn,hrb,er⟩:=J0 (cap:=[none,some 2,some 3,some 6]) (ρ:=[some (.str nm),iO n,iO iW,lO dl,some (.tup (gd.map W.bl)),lO s0.length,iO a,iO (0+(i:Int)),lO s.length,iO (0+(j:Int))]) (st:=z) (fs:=af (ah 1) aA) (n:=n)
    (el:=e2 ij (e2 bB (ah 2) (e2 cN (ah 3) (ah 0))) (ah 1)) (fun k:Nat=>W.int (k:Nat)) (fun _ k=>k<n) kn #[0] fun q hq=>by
     obtain⟨d,hdd⟩:∃d,ds[a+q]?=some d:=⟨_,ao #[0]⟩
     obtain⟨k,hk,ek⟩:=gJ (q:=d) (n:=iW) #[0]
     refine⟨k,by omega,?_⟩
     rw[<- ek]
     exact bq (bq kv (bq kv kv dX) (ur (pre_get (hst0.trans (hp.trans hz)) hd) hdd)) kv (i6 pt)
   have ap:=mV (y:=gH r) (pre_get (s:=z++[.lst (r.map fun k:Nat=>W.int k)]) (a_ _ _) hcz) (by rw[aF];omega)
   apply az
   ·exact eJ (iZ kv (dE hcz) (ak er aM) ap)
   apply dG
   ·exact be (bq kv kv dX)
   ·refine⟨_,_,rfl,BH++[r],a+n,_,rfl,uq (Bg hz) (aC _),?_,by simp[hrl],?_,by omega⟩
    ·rw[eM (pre_get (a_ _ _) hcz)];simp
    ·intro x hx
     rcases aV.mp hx with y|y
     ·exact hr x y
     ·simp at y;subst y
      refine⟨hrn,fun k hk=>?_⟩
      obtain⟨q,hq⟩:=List.getElem?_of_mem hk
      exact hrb q k hq
  ·rintro ρ z ⟨BH,a,o9,rfl,hz,hcz,hrl,hr,hal⟩
   have hrl:BH.length=n:=by rw[hrl];simp[fj]
   have hcp:=pre_get hz hc
   have ap:=mV (y:=y4 BH) hcp (by rw[aF,hl];omega)
   apply dG
   ·exact eJ (iZ kv (dE hcp) (ak (bR kn (n5 (bN hcz))) aM) ap)
   ·refine⟨_,_,rfl,tb++[BH],a,_,_,_,rfl,uq (hp.trans hz) (aC _),?_,by simp[hl],?_,by omega⟩
    ·rw[eM hcp];simp
    ·intro x hx
     rcases aV.mp hx with y|y
     ·exact ht x y
     ·simp at y;subst y
      exact⟨hrl,hr⟩
 ·rintro ρ s ⟨tb,a,o7,o8,o9,rfl,hp,hc,hl,ht,hal⟩
  have hl:tb.length=N:=by rw[hl];simp[fj]
  obtain⟨x,rfl⟩:=hst0.trans hp
  apply bU
  ·exact c5 (ak kv (ak kv (ak (bR kn (n5 (bN hc))) aM))) #[41]
  ·exact⟨_,_,rfl,⟨_,rfl⟩,by simp only[undWs,dM];exact J2 ⟨nm,gd,tb⟩ _,⟨nm,gd,tb⟩,rfl,rfl,hgl,by rw[hl,hN],ht⟩
inductive MT where
 |nil
 |nd (l r:MT) (m:List Nat)
namespace MT
def one:MT->Nat
 |nil=>0
 |nd _ _ _=>1
def size:MT->Nat
 |nil=>0
 |nd l r _=>l.size+r.size+1
def po:MT->List Pl
 |nil=>[]
 |nd l r m=>l.po++r.po++[⟨l.one+2*r.one,m⟩]
def tp:MT->Nat->Option Nat
 |nil,_=>none
 |nd l r _,o=>some (o+l.size+r.size)
def lkT:MT->Nat->List #[9]
 |nil,_=>[]
 |nd l r _,o=>l.lkT o++r.lkT (o+l.size)++[(l.tp o,r.tp (o+l.size))]
def szT:MT->List Nat
 |nil=>[]
 |nd l r _=>l.szT++r.szT++[l.size+r.size+1]
theorem po_len:∀t:MT,t.po.length=t.size
 |nil=>rfl
 |nd l r m=>by unfold po size;rw[aj,aj,po_len l,po_len r];rfl
theorem sz_len:∀t:MT,t.szT.length=t.size
 |nil=>rfl
 |nd l r m=>by unfold szT size;rw[aj,aj,sz_len l,sz_len r];rfl
theorem lk_len:∀(t:MT) (o:Nat),(t.lkT o).length=t.size
 |nil,_=>rfl
 |nd l r m,o=>by unfold lkT size;rw[aj,aj,lk_len l,lk_len r];rfl
theorem size_nd(l r:MT)(m:List Nat):(nd l r m).size=l.size+r.size+1:=rfl
theorem tp_nd(l r:MT)(m:List Nat)(o:Nat):(nd l r m).tp o=some (o+(nd l r m).size-1):=by
 show some (o+l.size+r.size)=_
 rw[size_nd];congr 1;omega
theorem WB(l r:MT)(m:List Nat)(o k:Nat):(nd l r m).tp o=some (o+(nd l r m).size+k-1-k):=by
 rw[tp_nd,size_nd];congr 1;omega
def cs(S:List Nat):MT->List Nat
 |nil=>S
 |nd l r m=>(nd l r m).size::S
theorem gr:∀(t:MT) {ps:List Pl} {S sz:List Nat} {lk:List #[9]},Gr ps S sz lk->Gr (ps++t.po) (t.cs S) (sz++t.szT) (lk++t.lkT ps.length)
 |nil,ps,S,sz,lk,h=>by
  show Gr (ps++[]) S (sz++[]) (lk++[])
  rw[bd,bd,bd];exact h
 |nd l r m,ps,S,sz,lk,h=>by
  have h1:=gr l h
  have h2:=gr r h1
  rw[aj,po_len]at h2
  unfold po szT lkT
  rw[<- al,<- al,<- al,<- al,<- al,<- al]
  refine .snoc h2 ?_
  rw[aj,aj,po_len,po_len]
  cases l with
  |nil=>
   cases r with
   |nil=>exact .z
   |nd r1 r2 rm=>
    have:=St.r (n:=ps.length+(nil:MT).size+(nd r1 r2 rm).size) (a:=(nd r1 r2 rm).size) (S:=S)
    have e:(none,(nd r1 r2 rm).tp (ps.length+(nil:MT).size))=((none:Option Nat),some (ps.length+(nil:MT).size+(nd r1 r2 rm).size-1)):=by rw[tp_nd]
    show St _ _ 2 _ _ (none,_)
    rw[e,show(nil:MT).size+(nd r1 r2 rm).size+1=1+(nd r1 r2 rm).size by simp only[size];omega]
    show St _ _ 2 ((nil.size+(nd r1 r2 rm).size+1)::S) _ _
    rw[show(nil:MT).size+(nd r1 r2 rm).size+1=1+(nd r1 r2 rm).size by simp only[size];omega]
    exact this
  |nd l1 l2 lm=>
   cases r with
   |nil=>
    have:=St.l (n:=ps.length+(nd l1 l2 lm).size+(nil:MT).size) (a:=(nd l1 l2 lm).size) (S:=S)
    have e:((nd l1 l2 lm).tp ps.length,(none:Option Nat))=(some (ps.length+(nd l1 l2 lm).size+(nil:MT).size-1),none):=by rw[tp_nd];rfl
    show St _ _ 1 ((_+1)::S) _ (_,none)
    rw[e,show(nd l1 l2 lm).size+(nil:MT).size+1=1+(nd l1 l2 lm).size by simp only[size];omega]
    exact this
   |nd r1 r2 rm=>
    have:=St.b (n:=ps.length+(nd l1 l2 lm).size+(nd r1 r2 rm).size) (c:=(nd r1 r2 rm).size) (a:=(nd l1 l2 lm).size) (S:=S)
    have e:((nd l1 l2 lm).tp ps.length,(nd r1 r2 rm).tp (ps.length+(nd l1 l2 lm).size))=(some (ps.length+(nd l1 l2 lm).size+(nd r1 r2 rm).size-1-(nd r1 r2 rm).size),some (ps.length+(nd l1 l2 lm).size+(nd r1 r2 rm).size-1)):=by rw[tp_nd r1,WB l1 l2 lm _ (nd r1 r2 rm).size]
    show St _ _ 3 ((_+1)::S) _ _
    rw[e,show(nd l1 l2 lm).size+(nd r1 r2 rm).size+1=1+(nd r1 r2 rm).size+(nd l1 l2 lm).size by omega]
    exact this
theorem gr0(t:MT):Gr t.po (t.cs []) t.szT (t.lkT 0):=by
 have:=gr t Gr.nil
 simpa using this
def Bl:MT->Nat->Nat->Prop
 |nil,_,_=>False
 |nd l r _,q,j=>(q<l.size/\j<l.size/\l.Bl q j)\/(l.size<=q/\q<l.size+r.size/\l.size<=j/\j<l.size+r.size/\r.Bl (q-l.size) (j-l.size))\/(q=l.size+r.size/\j<l.size+r.size)
end MT
end P
namespace P
open PySem L2
def sv(M:Mc)(m:List Nat)(a b:Nat):Nat:=(#[67].getD a []).getD b 0
namespace MT
def tR(M:Mc):MT->Nat
 |nil=>0
 |nd l r m=>sv M m (l.tR M) (r.tR M)
def rT(M:Mc):MT->List Nat
 |nil=>[]
 |nd l r m=>l.rT M++r.rT M++[sv M m (l.tR M) (r.tR M)]
theorem rT_len(M:Mc):∀t:MT,(t.rT M).length=t.size
 |nil=>rfl
 |nd l r m=>by unfold rT size;rw[aj,aj,rT_len M l,rT_len M r];rfl
theorem EL(M:Mc)(u w:List Nat):∀t:MT,Bi (u++t.rT M++w) (t.tp u.length)=t.tR M
 |nil=>rfl
 |nd l r m=>by
  show(u++(l.rT M++r.rT M++[_])++w).getD (u.length+l.size+r.size) 0=_
  rw[al,al,al,aG,aY #[0],aY (by rw[rT_len];omega),aY (by rw[rT_len,rT_len];omega),rT_len,rT_len,show u.length+l.size+r.size-u.length-l.size-r.size=0 by omega]
  rfl
theorem stp_tp(M:Mc)(u w:List Nat)(l r:MT)(m:List Nat):wO M (u++(l.rT M++r.rT M)++w) m (l.tp u.length,r.tp (u.length+l.size))=sv M m (l.tR M) (r.tR M):=by
 unfold wO sv
 have e1:=EL M u (r.rT M++w) l
 have e2:=EL M (u++l.rT M) w r
 rw[aj,rT_len]at e2
 simp only[al]at e1 e2 ⊢
 rw[e1,e2]
theorem Bk(M:Mc):∀(a b:List Pl) (la lb:List #[9]) (r:List Nat),a.length=la.length->G3 M (a++b) (la++lb) r=G3 M b lb (G3 M a la r)
 |[],b,[],lb,r,_=>rfl
 |p::a,b,x::la,lb,r,h=>by
  show G3 M (a++b) (la++lb) _=_
  rw[Bk M a b la lb _ (by simpa using h)];rfl
theorem EM(M:Mc):∀(t:MT) (r:List Nat),G3 M t.po (t.lkT r.length) r=r++t.rT M
 |nil,r=>(bd r).symm
 |nd l r m,u=>by
  show G3 M (l.po++r.po++[_]) (l.lkT u.length++r.lkT (u.length+l.size)++[(l.tp u.length,r.tp (u.length+l.size))]) u=_
  rw[Bk M _ _ _ _ _ (by rw[aj,aj,po_len,po_len,lk_len,lk_len]),Bk M _ _ _ _ _ (by rw[po_len,lk_len]),EM M l u]
  have e:=EM M r (u++l.rT M)
  rw[aj,rT_len]at e
  rw[e]
  show(u++l.rT M++r.rT M)++[wO M (u++l.rT M++r.rT M) m _]=_
  have e2:=stp_tp M u [] l r m
  rw[bd,<- al]at e2
  rw[e2]
  show _=u++(l.rT M++r.rT M++[_])
  rw[al,al,al]
theorem rooms_po(M:Mc)(t:MT):gF M t.po (t.lkT 0)=t.rT M:=EM M t []
theorem rT_top(M:Mc)(t:MT)(h:0<t.size):(t.rT M).getD (t.size-1) 0=t.tR M:=by
 have:=EL M [] [] t
 cases t with
 |nil=>exact absurd h (by decide)
 |nd l r m=>
  rw[d9,bd,tp_nd]at this
  rw[<- this];show _=List.getD _ _ 0
  congr 1
  show _=0+_-1
  omega
end MT
inductive Fm where
 |lf (r:MT) (m:List Nat)
 |rg (l:MT) (m:List Nat)
def Fm.ap:Fm->MT->MT
 |.lf r m,x=>.nd x r m
 |.rg l m,x=>.nd l x m
def ba:List Fm->MT->MT
 |[],x=>x
 |f::C,x=>ba C (f.ap x)
def pA:List Fm->List Pl
 |[]=>[]
 |.lf _ _::C=>pA C
 |.rg l _::C=>pA C++l.po
def pB:List Fm->List Pl
 |[]=>[]
 |.lf r m::C=>r.po++[⟨1+2*r.one,m⟩]++pB C
 |.rg l m::C=>[⟨l.one+2,m⟩]++pB C
def rA(M:Mc):List Fm->List Nat
 |[]=>[]
 |.lf _ _::C=>rA M C
 |.rg l _::C=>rA M C++l.rT M
def rB(M:Mc):List Fm->Nat->List Nat
 |[],_=>[]
 |.lf r m::C,a=>r.rT M++[sv M m a (r.tR M)]++rB M C (sv M m a (r.tR M))
 |.rg l m::C,a=>[sv M m (l.tR M) a]++rB M C (sv M m (l.tR M) a)
theorem dD:∀(C:List Fm) (l r:MT) (m:List Nat),#[1].po=pA C++#[70].po++pB C
 |[],l,r,m=>by show _=[]++_++[];rw[d9,bd];rfl
 |.lf y w::C,l,r,m=>by
  show(ba C (.nd (.nd l r m) y w)).po=_
  rw[dD C]
  show pA C++(#[70].po++y.po++[⟨1+2*y.one,w⟩])++pB C=pA C++_++(y.po++[⟨1+2*y.one,w⟩]++pB C)
  simp only[al]
 |.rg y w::C,l,r,m=>by
  show(ba C (.nd y (.nd l r m) w)).po=_
  rw[dD C]
  show pA C++(y.po++#[70].po++[⟨y.one+2*1,w⟩])++pB C=(pA C++y.po)++_++([⟨y.one+2,w⟩]++pB C)
  simp only[al]
theorem rX(M:Mc):∀(C:List Fm) (x:MT),(ba C x).rT M=rA M C++x.rT M++rB M C (x.tR M)
 |[],x=>by show _=[]++_++[];rw[d9,bd];rfl
 |.lf y w::C,x=>by
  show(ba C (.nd x y w)).rT M=_
  rw[rX M C]
  show rA M C++(x.rT M++y.rT M++[_])++rB M C _=rA M C++_++(y.rT M++[_]++rB M C _)
  simp only[al];rfl
 |.rg y w::C,x=>by
  show(ba C (.nd y x w)).rT M=_
  rw[rX M C]
  show rA M C++(y.rT M++x.rT M++[_])++rB M C _=(rA M C++y.rT M)++_++([_]++rB M C _)
  simp only[al];rfl
theorem pG(M:Mc):∀C:List Fm,(rA M C).length=(pA C).length
 |[]=>rfl
 |.lf _ _::C=>pG M C
 |.rg l _::C=>by show(rA M C++l.rT M).length=(pA C++l.po).length;rw[aj,aj,pG M C,MT.rT_len,MT.po_len]
theorem Bm:∀(C:List Fm) (x:MT),∃u w,(ba C x).lkT 0=u++x.lkT (pA C).length++w/\u.length=(pA C).length
 |[],x=>⟨[],[],by rw[d9,bd];rfl,rfl⟩
 |.lf y w::C,x=>by
  obtain⟨u,v,e,h⟩:=Bm C (.nd x y w)
  refine⟨u,y.lkT ((pA C).length+x.size)++[(x.tp (pA C).length,y.tp ((pA C).length+x.size))]++v,?_,h⟩
  show(ba C (.nd x y w)).lkT 0=u++x.lkT (pA C).length++_
  rw[e]
  show u++(x.lkT (pA C).length++_++[_])++v=_
  simp only[al]
 |.rg y w::C,x=>by
  obtain⟨u,v,e,h⟩:=Bm C (.nd y x w)
  have hl:(pA (.rg y w::C)).length=(pA C).length+y.size:=by show(pA C++y.po).length=_;rw[aj,MT.po_len]
  refine⟨u++y.lkT (pA C).length,[(y.tp (pA C).length,x.tp ((pA C).length+y.size))]++v,?_,by rw[aj,MT.lk_len,h,hl]⟩
  show(ba C (.nd y x w)).lkT 0=_
  rw[e,hl]
  show u++(y.lkT (pA C).length++x.lkT _++[_])++v=_
  simp only[al]
theorem wP:∀(C:List Fm) (x:MT),∃u w,(ba C x).szT=u++x.szT++w/\u.length=(pA C).length
 |[],x=>⟨[],[],by rw[d9,bd];rfl,rfl⟩
 |.lf y w::C,x=>by
  obtain⟨u,v,e,h⟩:=wP C (.nd x y w)
  refine⟨u,y.szT++[x.size+y.size+1]++v,?_,h⟩
  show(ba C (.nd x y w)).szT=_
  rw[e]
  show u++(x.szT++y.szT++[_])++v=_
  simp only[al]
 |.rg y w::C,x=>by
  obtain⟨u,v,e,h⟩:=wP C (.nd y x w)
  refine⟨u++y.szT,[y.size+x.size+1]++v,?_,by rw[aj,MT.sz_len,h];show _=(pA C++y.po).length;rw[aj,MT.po_len]⟩
  show(ba C (.nd y x w)).szT=_
  rw[e]
  show u++(y.szT++x.szT++[_])++v=_
  simp only[al]
theorem vC(f:Fm):∀(C:List Fm) (x:MT),ba (C++[f]) x=f.ap (ba C x)
 |[],x=>rfl
 |g::C,x=>vC f C (g.ap x)
theorem Kh(r:MT)(m:List Nat):∀C:List Fm,pA (C++[.lf r m])=pA C
 |[]=>rfl
 |.lf _ _::C=>Kh r m C
 |.rg l _::C=>by show pA (C++[.lf r m])++l.po=pA C++l.po;rw[Kh r m C]
theorem Ki(l:MT)(m:List Nat):∀C:List Fm,pA (C++[.rg l m])=l.po++pA C
 |[]=>by show[]++l.po=l.po++[];simp
 |.lf _ _::C=>Ki l m C
 |.rg y _::C=>by show pA (C++[.rg l m])++y.po=l.po++(pA C++y.po);rw[Ki l m C,al]
theorem uv:∀(t:MT) (q:Nat),q<t.size->∃C l r m,t=ba C (.nd l r m)/\q=(pA C).length+l.size+r.size
 |.nil,q,h=>absurd h (by simp[MT.size])
 |.nd l r m,q,h=>by
  rw[MT.size_nd]at h
  by_cases h1:q<l.size
  ·obtain⟨C,a,b,w,e1,e2⟩:=uv l q h1
   exact⟨C++[.lf r m],a,b,w,by rw[vC,<- e1];rfl,by rw[Kh];exact e2⟩
  ·by_cases h2:q<l.size+r.size
   ·obtain⟨C,a,b,w,e1,e2⟩:=uv r (q-l.size) #[0]
    exact⟨C++[.rg l m],a,b,w,by rw[vC,<- e1];rfl,by rw[Ki,aj,MT.po_len];omega⟩
   ·exact⟨[],l,r,m,rfl,by show q=0+_+_;omega⟩
end P
namespace P
open PySem L2
theorem Kj{a b:List α}{c x:α}{u:Nat}(h:(a++b++[c])[u]?=some x):(u<a.length/\a[u]?=some x)\/(a.length<=u/\u<a.length+b.length/\b[u-a.length]?=some x)\/(u=a.length+b.length/\x=c):=by
 by_cases h1:u<a.length
 ·rw[al,aN h1]at h
  exact .inl ⟨h1,h⟩
 ·by_cases h2:u<a.length+b.length
  ·rw[al,aY #[0],aN #[0]]at h
   exact .inr (.inl ⟨by omega,h2,h⟩)
  ·have hu:=(ax.mp h).1
   rw[aj,aj,bj]at hu
   have e:u=a.length+b.length:=by omega
   subst e
   rw[aY (by rw[aj];omega),aj,Nat.sub_self]at h
   cases h
   exact .inr (.inr ⟨rfl,rfl⟩)
def R5(x:Option Nat×Option Nat)(j:Nat):Prop:=x.1=some j\/x.2=some j
namespace MT
theorem tp_some{t:MT}{o:Nat}(h:t.tp o=some j):0<t.size/\j+1=o+t.size:=by
 cases t with
 |nil=>cases h
 |nd l r m=>
  have:some (o+l.size+r.size)=some j:=h
  rw[size_nd]
  have:=bC this
  omega
theorem kid_lt:∀(t:MT) {o u j:Nat} {x:Option Nat×Option Nat},(t.lkT o)[u]?=some x->R5 x j->o<=j/\j<o+u
 |nil,o,u,j,x,h,_=>by cases h
 |nd l r m,o,u,j,x,h,k=>by
  rcases Kj h with⟨h1,h2⟩|⟨h1,h2,h3⟩|⟨h1,h2⟩
  ·exact kid_lt l h2 k
  ·rw[lk_len]at h1 h2 h3
   have:=kid_lt r h3 k
   omega
  ·rw[lk_len,lk_len]at h1
   subst h2
   rcases k with k|k
   ·have:=tp_some k;omega
   ·have:=tp_some k;omega
theorem par_one:∀(t:MT) {o u v j:Nat} {x y:Option Nat×Option Nat},(t.lkT o)[u]?=some x->(t.lkT o)[v]?=some y->R5 x j->R5 y j->u=v
 |nil,o,u,v,j,x,y,h,_,_,_=>by cases h
 |nd l r m,o,u,v,j,x,y,h,h',k,k'=>by
  have hl:=lk_len l o
  have hr:=lk_len r (o+l.size)
  have rt:∀{z:Option Nat×Option Nat},z=(l.tp o,r.tp (o+l.size))->R5 z j->(j+1=o+l.size/\0<l.size)\/(j+1=o+l.size+r.size/\0<r.size):=fun{z} e k=>by
   subst e
   rcases k with k|k
   ·have:=tp_some k;exact .inl ⟨by omega,by omega⟩
   ·have:=tp_some k;exact .inr ⟨by omega,by omega⟩
  rcases Kj h with⟨h1,h2⟩|⟨h1,h2,h3⟩|⟨h1,h2⟩
  ·have b:=kid_lt l h2 k
   rcases Kj h' with⟨g1,g2⟩|⟨g1,g2,g3⟩|⟨g1,g2⟩
   ·exact par_one l h2 g2 k k'
   ·have:=kid_lt r g3 k';omega
   ·have:=rt g2 k';omega
  ·have b:=kid_lt r h3 k
   rcases Kj h' with⟨g1,g2⟩|⟨g1,g2,g3⟩|⟨g1,g2⟩
   ·have:=kid_lt l g2 k';omega
   ·have:=par_one r h3 g3 k k';omega
   ·have:=rt g2 k';omega
  ·have b:=rt h2 k
   rcases Kj h' with⟨g1,g2⟩|⟨g1,g2,g3⟩|⟨g1,g2⟩
   ·have:=kid_lt l g2 k';omega
   ·have:=kid_lt r g3 k';omega
   ·omega
end MT
def Hq(A B:List #[81])(p:Nat):Option Nat:=match A.getD p none with
 |some u=>some u
 |none=>B.getD p none
theorem fP:∀(C:List Fm) (x:MT),0<x.size->(pA C).length+x.size<=(ba C x).size
 |[],x,h=>by show 0+x.size<=x.size;omega
 |.lf y w::C,x,h=>by
  have:=fP C (.nd x y w) (by rw[MT.size_nd];omega)
  rw[MT.size_nd]at this
  show(pA C).length+x.size<=(ba C (.nd x y w)).size
  omega
 |.rg y w::C,x,h=>by
  have:=fP C (.nd y x w) (by rw[MT.size_nd];omega)
  rw[MT.size_nd]at this
  show(pA C++y.po).length+x.size<=(ba C (.nd y x w)).size
  rw[aj,MT.po_len]
  omega
theorem wQ(C:List Fm)(l r:MT)(m:List Nat):(#[1].lkT 0)[(pA C).length+l.size+r.size]?=some (l.tp (pA C).length,r.tp #[60]):=by
 obtain⟨u,w,e,h⟩:=Bm C (.nd l r m)
 rw[e,al,aY #[0],h]
 show((l.lkT (pA C).length++r.lkT #[60]++[_])++w)[_]?=_
 rw[aN (by simp[MT.lk_len];omega),aY (by rw[aj,MT.lk_len,MT.lk_len];omega),aj,MT.lk_len,MT.lk_len,show(pA C).length+l.size+r.size-(pA C).length-(l.size+r.size)=0 by omega]
 rfl
theorem Up.is{t:MT}{A:List #[81]}(hf:∀x j,f x=some j->R5 x j)(h:Up (t.lkT 0) f t.size A){p:Nat}{x:Option Nat×Option Nat}(hx:(t.lkT 0)[p]?=some x)(hk:f x=some j):A.getD j none=some p:=by
 have hp:p<t.size:=by have:=(ax.mp hx).1;rwa[MT.lk_len]at this
 obtain⟨v,hv⟩:=h.2 p x j hp hx hk
 obtain⟨y,hy,hy2⟩:=h.1 j v hv
 rw[aG,hv,Option.getD_some,MT.par_one t hy hx (hf _ _ hy2) (hf _ _ hk)]
theorem Up.no{t:MT}{A:List #[81]}(h:Up (t.lkT 0) f t.size A)(hn:∀(p:Nat) (x:Option Nat×Option Nat),(t.lkT 0)[p]?=some x->f x≠some j):A.getD j none=none:=by
 rw[aG]
 cases e:A[j]? with
 |none=>rfl
 |some o=>
  cases o with
  |none=>rfl
  |some u=>
   obtain⟨y,hy,hy2⟩:=h.1 j u e
   exact absurd hy2 (hn u y hy)
theorem Rx{x:MT}{A:List #[81]}(hA:Up (x.lkT 0) Prod.fst x.size A)(hB:Up (x.lkT 0) Prod.snd x.size B)(h0:0<x.size):Hq A B (x.size-1)=none:=by
 have key:∀(p:Nat) (y:Option Nat×Option Nat),(x.lkT 0)[p]?=some y->¬ R5 y (x.size-1):=fun p y hy hk=>by
  have:=MT.kid_lt x hy hk
  have hp:=(ax.mp hy).1
  rw[MT.lk_len]at hp
  omega
 unfold Hq
 rw[hA.no fun p y hy e=>key p y hy (.inl e)]
 exact hB.no fun p y hy e=>key p y hy (.inr e)
theorem UR{C:List Fm}{x y:MT}{w:List Nat}{A B:List #[81]}{t:MT}(ht:t=ba C (.nd x y w))(hA:Up (t.lkT 0) Prod.fst t.size A)(h0:0<x.size):Hq A B ((pA C).length+x.size-1)=some ((pA C).length+x.size+y.size):=by
 subst ht
 have e:=wQ C x y w
 have hx:x.tp (pA C).length=some ((pA C).length+x.size-1):=by
  cases x with
  |nil=>exact absurd h0 (by decide)
  |nd a b c=>rw[MT.tp_nd]
 unfold Hq
 rw[hA.is (fun _ _ h=>.inl h) e hx]
theorem US{C:List Fm}{x y:MT}{w:List Nat}{A:List #[81]}{t:MT}(ht:t=ba C (.nd y x w))(hA:Up (t.lkT 0) Prod.fst t.size A)(hB:Up (t.lkT 0) Prod.snd t.size B)(h0:0<x.size):Hq A B ((pA C).length+y.size+x.size-1)=some ((pA C).length+y.size+x.size):=by
 subst ht
 have e:=wQ C y x w
 have hx:x.tp ((pA C).length+y.size)=some ((pA C).length+y.size+x.size-1):=by
  cases x with
  |nil=>exact absurd h0 (by decide)
  |nd a b c=>rw[MT.tp_nd]
 unfold Hq
 rw[hA.no (fun p z hz k=>by
  obtain rfl:=MT.par_one _ hz e (.inl k) (.inr hx)
  rw[e]at hz
  cases hz
  have:=MT.tp_some k
  omega)]
 exact hB.is (fun _ _ h=>.inr h) e hx
end P
namespace P
open PySem L2
section
variable{M:Mc}
theorem ym(hM:mK M n)(m:List Nat){a b:Nat}(ha:a<n)(hb:b<n):sv M m a b<n:=by
 have h1:me m M.nm<M.tb.length:=by rw[hM.tb];exact FY m M.nm
 have e1:=lG [] h1
 obtain⟨t1,t2⟩:=hM.t _ (cr e1)
 have e2:=lG (l:=M.tb.getD (me m M.nm) []) [] (i:=a) #[0]
 obtain⟨t3,t4⟩:=t2 _ (cr e2)
 have e3:=lG (l:=#[67].getD a []) 0 (i:=b) #[0]
 exact t4 _ (cr e3)
theorem MT.tR_lt(hM:mK M n)(hn:1<=n):∀t:MT,t.tR M<n
 |.nil=>hn
 |.nd l r m=>ym hM m (tR_lt hM hn l) (tR_lt hM hn r)
theorem MT.rT_lt(hM:mK M n)(hn:1<=n):∀t:MT,∀k∈t.rT M,k<n
 |.nil,k,h=>by cases h
 |.nd l r m,k,h=>by
  rcases aV.mp h with h|h
  ·rcases aV.mp h with h|h
   ·exact rT_lt hM hn l k h
   ·exact rT_lt hM hn r k h
  ·rw[aZ.mp h];exact ym hM m (tR_lt hM hn l) (tR_lt hM hn r)
def Fm.rm(M:Mc):Fm->Nat->Nat
 |.lf r m,a=>sv M m a (r.tR M)
 |.rg l m,a=>sv M m (l.tR M) a
theorem Kk(hM:mK M n)(hn:1<=n):∀C:List Fm,∀k∈rA M C,k<n
 |[],k,h=>by cases h
 |.lf _ _::C,k,h=>Kk hM hn C k h
 |.rg l _::C,k,h=>by
  rcases aV.mp h with h|h
  ·exact Kk hM hn C k h
  ·exact l.rT_lt hM hn k h
theorem Kl(hM:mK M n)(hn:1<=n):∀(C:List Fm) {a:Nat},a<n->∀k∈rB M C a,k<n
 |[],a,_,k,h=>by cases h
 |.lf r m::C,a,ha,k,h=>by
  have hv:=ym hM m ha (r.tR_lt hM hn)
  rcases aV.mp h with h|h
  ·rcases aV.mp h with h|h
   ·exact r.rT_lt hM hn k h
   ·rw[aZ.mp h];exact hv
  ·exact Kl hM hn C hv k h
 |.rg l m::C,a,ha,k,h=>by
  have hv:=ym hM m (l.tR_lt hM hn) ha
  rcases aV.mp h with h|h
  ·rw[aZ.mp h];exact hv
  ·exact Kl hM hn C hv k h
def fr(M:Mc)(C:List Fm)(l r:MT)(o:Nat):List Nat:=rA M C++(l.rT M++r.rT M++[o])++rB M C o
theorem UT(hM:mK M n)(hn:1<=n)(C:List Fm)(l r:MT){o:Nat}(ho:o<n):∀k∈fr M C l r o,k<n:=fun k h=>by
 rcases aV.mp h with h|h
 ·rcases aV.mp h with h|h
  ·exact Kk hM hn C k h
  ·rcases aV.mp h with h|h
   ·rcases aV.mp h with h|h
    ·exact l.rT_lt hM hn k h
    ·exact r.rT_lt hM hn k h
   ·rw[aZ.mp h];exact ho
 ·exact Kl hM hn C ho k h
theorem Bn(a b c d:List α)(o:α){p:Nat}(hp:p=a.length+b.length+c.length):(a++(b++c++[o])++d)[p]?=some o:=by
 subst hp
 rw[show a++(b++c++[o])++d=(a++b++c)++o::d by simp,aY (by simp[oo])]
 simp[oo]
theorem MM(a b c d:List α)(o v:α){p:Nat}(hp:p=a.length+b.length+c.length):(a++(b++c++[o])++d).set p v=a++(b++c++[v])++d:=by
 subst hp
 rw[show a++(b++c++[o])++d=(a++b++c)++o::d by simp,qv _ _ (by simp[oo]),show a.length+b.length+c.length-(a++b++c).length=0 by simp;omega]
 simp
theorem Ol(M:Mc)(C:List Fm)(l r:MT):(pA C).length+l.size+r.size=(rA M C).length+(l.rT M).length+(r.rT M).length:=by rw[pG,MT.rT_len,MT.rT_len]
def MN(M:Mc):List Fm->Nat->Nat->Nat
 |[],_,_=>1
 |f::C,v,o=>if v=o then 1 else 1+MN M C (f.rm M v) (f.rm M o)
theorem EN{A:List #[81]}{ua ub p:Nat}(ha:st[ua]?=some (.lst (A.map oW)))(hb:st[ub]?=some (.lst (B.map oW)))(hp:p<A.length)(Lo:p<B.length):GZ [.tup [.loc ua,.loc ub],.int p] st=.ok (oW (Hq A B p)) st:=by
 have ea:bB (.loc ua) (.int p) st=.ok (oW (A.getD p none)) st:=kz (bN ha) (gA (by rw[aI,lG none hp];rfl))
 have eb:bB (.loc ub) (.int p) st=.ok (oW (B.getD p none)) st:=kz (bN hb) (gA (by rw[aI,lG none Lo];rfl))
 unfold Hq
 cases e:A.getD p none with
 |some u=>
  rw[e]at ea
  apply eV
  apply bU
  ·exact t0 (aR (fB (bq kx kv ea) rfl)) (bq kx kv ea)
  ·walk_at "8"
 |none=>
  rw[e]at ea
  apply eV
  apply bU
  ·exact t5 (aR (fB (bq kx kv ea) rfl)) (bq kx kv eb)
  ·walk_at "8"
theorem Ry{g g':FS}{ρ':cL}(h:g ρ st=.bk ρ' st1):aK g g' ρ st=.bk ρ' st1:=by unfold aK;rw[h]
abbrev cT:FT:=dO (hU (ah 8))
abbrev cB:FS:=#[72]
abbrev cR(M:Mc)(t:MT)(x2:W)(q ua ub pf c:Nat)(o8 o9:Option W):cL:=[some M.w,some (bF t.po),some x2,iO (q:Nat),some (.tup ((t.lkT 0).map jS)),some (.tup [.loc ua,.loc ub]),lO pf,iO (c:Nat),o8,o9]
theorem De{g:FS}{ρ':cL}(h:t ρ st=.ok true st)(e:g ρ st=.bk ρ' bt):eX t g (k+1) ρ st=.nx ρ' bt:=by unfold eX;rw[h];simp only[R.stmt_ok,gy,e]
theorem yn{g:FS}{ρ':cL}{rs:RS}(h:t ρ st=.ok true st)(e:g ρ st=.nx ρ' bt)(e2:eX t g k ρ' bt=rs):eX t g (k+1) ρ st=rs:=by unfold eX;rw[h];simp only[R.stmt_ok,gy,e];exact e2
theorem G8{g:FS}(h:t ρ st=.ok false st):eX t g (k+1) ρ st=.nx ρ st:=by unfold eX;rw[h];rfl
theorem pH(C:List Fm)(l r:MT)(m:List Nat):#[1].po[(pA C).length+l.size+r.size]?=some ⟨l.one+2*r.one,m⟩:=by
 rw[dD]
 exact Bn (pA C) l.po r.po (pB C) _ (by rw[MT.po_len,MT.po_len])
section
variable{t:MT}{A:List #[81]}{ua ub pf:Nat}
theorem MO(M:Mc)(C:List Fm)(l r:MT)(m:List Nat)(o:Nat):wO M #[63] m (l.tp (pA C).length,r.tp #[60])=sv M m (l.tR M) (r.tR M):=by
 have:=MT.stp_tp M (rA M C) ([o]++rB M C o) l r m
 rw[pG]at this
 rw[<- this]
 unfold fr
 simp only[al]
theorem yo(hM:mK M n)(hn:1<=n)(x2:W)(q:Nat)(lA:A.length=t.size)(lB:B.length=t.size)(na:pf≠ua)(nb:pf≠ub){C:List Fm}{l r:MT}{o:Nat}(c:Nat)(o9:Option W)(ht:t=ba C (.nd l r m))(ho:o<n)(ha:st[ua]?=some (.lst (A.map oW)))(hb:st[ub]?=some (.lst (B.map oW)))(hf:st[pf]?=some (.lst (nW #[63]))) :
  (sv M m (l.tR M) (r.tR M)=o->cB (cR M t x2 q ua ub pf c (iO ((pA C).length+l.size+r.size:Nat)) o9) st=.bk (cR M t x2 q ua ub pf (c+1) (iO ((pA C).length+l.size+r.size:Nat)) (iO (o:Nat))) st) /\
  (sv M m (l.tR M) (r.tR M)≠o->cB (cR M t x2 q ua ub pf c (iO ((pA C).length+l.size+r.size:Nat)) o9) st=.nx (cR M t x2 q ua ub pf (c+1) (some (oW (Hq A B ((pA C).length+l.size+r.size)))) (iO (sv M m (l.tR M) (r.tR M):Nat))) (st.set pf (.lst (nW (rA M C++(l.rT M++r.rT M++[sv M m (l.tR M) (r.tR M)])++rB M C o))))):=by
 have hx:=wQ C l r m
 have hp:=pH C l r m
 have hg:=MT.gr0 #[1]
 have hz:=fP C (.nd l r m) (by rw[MT.size_nd];omega)
 rw[<- ht]at hx hp hg hz
 rw[MT.size_nd]at hz
 have hs:=MO M C l r m o
 have hat:#[63][(pA C).length+l.size+r.size]?=some o:=Bn _ _ _ _ _ (Ol M C l r)
 have RF:#[63].set ((pA C).length+l.size+r.size) (sv M m (l.tR M) (r.tR M))=rA M C++(l.rT M++r.rT M++[sv M m (l.tR M) (r.tR M)])++rB M C o:=MM _ _ _ _ _ _ (Ol M C l r)
 have hfl:=(ax.mp hat).1
 have hlk:=hg.lk hx
 have hr:=Oi (m:=m) hM hn (UT hM hn C l r ho) (x:=(l.tp (pA C).length,r.tp #[60])) ⟨fun k e=>uK (hlk.1 k e) hfl,fun k e=>uK (hlk.2 k e) hfl⟩ st hf
 rw[hs]at hr
 generalize hv:sv M m (l.tR M) (r.tR M)=v at *
 generalize hP:(pA C).length+l.size+r.size=p at *
 have e9:bf 9 #[61] (cR M t x2 q ua ub pf c (iO (p:Nat)) o9) st=.nx (cR M t x2 q ua ub pf c (iO (p:Nat)) (iO (v:Nat))) st:=
  be (cf (ak kv (ak (bq (bq kv kv (uo hp st)) bu (EC _ st)) (ak (bq kv kv (nJ (gA (by rw[aI,hx];rfl)))) kn))) hr rfl)
 have e7:bf 7 (e2 cN (ah 7) (eI 1)) (cR M t x2 q ua ub pf c (iO (p:Nat)) (iO (v:Nat))) st=.nx (cR M t x2 q ua ub pf (c+1) (iO (p:Nat)) (iO (v:Nat))) st:=be (bq kv bu dX)
 have eq:∀b,decide (v=o)=b->dO (e2 iK (ah 9) (e2 bB (ah 6) (ah 8))) (cR M t x2 q ua ub pf (c+1) (iO (p:Nat)) (iO (v:Nat))) st=.ok b st:=fun b hb=>aR (bq kv (bq kv kv (Oh hf hat)) (fg (by rw[<- hb,ql,dv,nv];omega)))
 refine⟨fun h=>?_,fun h=>?_⟩
 ·refine cO e9 (cO e7 (Ry ?_))
  rw[cY (eq true (bg h)) rfl,h];rfl
 ·refine cO e9 (cO e7 (cO (bZ (eq false (a7 h)) rfl) (cO (FR kv kv kv (EE hf (by show _<(List.map _ _).length;rw[aF];exact hfl))) ?_)))
  rw[show(nW #[63]).set p (W.int (v:Nat))=nW (#[63].set p v) by unfold nW;rw[uM],RF]
  exact be (cf (ak kv kn) (EN (by rw[b7 na];exact ha) (by rw[b7 nb];exact hb) #[0] #[0]) rfl)
theorem EO(hM:mK M n)(hn:1<=n)(x2:W)(q:Nat)(hA:Up (t.lkT 0) Prod.fst t.size A)(hB:Up (t.lkT 0) Prod.snd t.size B)(lA:A.length=t.size)(lB:B.length=t.size)(na:pf≠ua)(nb:pf≠ub) :
  ∀(C:List Fm) (l r:MT) (m:List Nat) (o c:Nat) (o9:Option W) (st:List ar),t=ba C (.nd l r m)->o<n->st[ua]?=some (.lst (A.map oW))->st[ub]?=some (.lst (B.map oW))->st[pf]?=some (.lst (nW #[63])) ->
   ∃o8 o9' bt,eX cT cB (C.length+2) (cR M t x2 q ua ub pf c (iO ((pA C).length+l.size+r.size:Nat)) o9) st=.nx (cR M t x2 q ua ub pf (c+MN M C (sv M m (l.tR M) (r.tR M)) o) o8 o9') bt/\bt[pf]?=some (.lst (nW (t.rT M)))/\∀i,i≠pf->bt[i]?=st[i]?:=by
 intro C
 induction C with
 |nil=>
  intro l r m o c o9 st ht ho ha hb hf
  obtain⟨s1,s2⟩:=yo hM hn x2 q lA lB na nb c o9 ht ho ha hb hf
  by_cases h:sv M m (l.tR M) (r.tR M)=o
  ·refine⟨_,_,st,De (aR (fB kv rfl)) (s1 h),?_,fun _ _=>rfl⟩
   rw[hf,ht]
   unfold fr
   rw[show(ba [] (.nd l r m)).rT M=rA M []++(l.rT M++r.rT M++[sv M m (l.tR M) (r.tR M)])++rB M [] (sv M m (l.tR M) (r.tR M))from rX M [] _,h]
  ·have e:=s2 h
   have hu:Hq A B ((pA []).length+l.size+r.size)=none:=by
    have:=Rx hA hB (by rw[ht];show 0<l.size+r.size+1;omega)
    rw[show t.size=l.size+r.size+1 by rw[ht];rfl]at this
    rw[<- this];congr 1;show 0+_+_=_;omega
   rw[hu]at e
   refine⟨_,_,_,yn (aR (fB kv rfl)) e (G8 (aR (fB kv rfl))),?_,fun i hi=>b7 (Ne.symm hi)⟩
   rw[eM hf,ht]
   show some (ar.lst (nW ([]++_++[])))=_
   rw[d9,bd];rfl
 |cons f C ih=>
  intro l r m o c o9 st ht ho ha hb hf
  obtain⟨s1,s2⟩:=yo hM hn x2 q lA lB na nb c o9 ht ho ha hb hf
  by_cases h:sv M m (l.tR M) (r.tR M)=o
  ·rw[show MN M (f::C) (sv M m (l.tR M) (r.tR M)) o=1 from aJ h]
   refine⟨_,_,st,De (aR (fB kv rfl)) (s1 h),?_,fun _ _=>rfl⟩
   rw[hf,ht]
   unfold fr
   rw[rX M (f::C),show#[70].tR M=o from h,show#[70].rT M=l.rT M++r.rT M++[sv M m (l.tR M) (r.tR M)]from rfl,h]
  ·have e:=s2 h
   rw[show MN M (f::C) (sv M m (l.tR M) (r.tR M)) o=1+MN M C (f.rm M (sv M m (l.tR M) (r.tR M))) (f.rm M o)from aW h,<- oo]
   cases f with
   |lf y w=>
    have hu:Hq A B ((pA (.lf y w::C)).length+l.size+r.size)=some ((pA C).length+#[70].size+y.size):=by
     have:=UR (B:=B) (t:=t) (C:=C) (x:=.nd l r m) (y:=y) (w:=w) ht hA (by rw[MT.size_nd];omega)
     rw[<- this];congr 1;rw[MT.size_nd];show(pA C).length+_+_=_;omega
    rw[hu]at e
    obtain⟨o8,o9',bt,e2,e3,e4⟩:=ih (.nd l r m) y w (sv M w o (y.tR M)) (c+1) (iO (sv M m (l.tR M) (r.tR M):Nat)) (st.set pf (.lst (nW (rA M (.lf y w::C)++(l.rT M++r.rT M++[sv M m (l.tR M) (r.tR M)])++rB M (.lf y w::C) o)))) ht (ym hM w ho (y.tR_lt hM hn)) (by rw[b7 na];exact ha) (by rw[b7 nb];exact hb) (by
     rw[eM hf]
     unfold fr
     show some (ar.lst (nW (rA M C++_++(y.rT M++[_]++rB M C _))))=some (ar.lst (nW (rA M C++((l.rT M++r.rT M++[_])++y.rT M++[_])++rB M C _)))
     simp only[al])
    exact⟨o8,o9',bt,yn (aR (fB kv rfl)) e e2,e3,fun i hi=>by rw[e4 i hi];exact b7 (Ne.symm hi)⟩
   |rg y w=>
    have hu:Hq A B ((pA (.rg y w::C)).length+l.size+r.size)=some ((pA C).length+y.size+#[70].size):=by
     have:=US (t:=t) (C:=C) (x:=.nd l r m) (y:=y) (w:=w) ht hA hB (by rw[MT.size_nd];omega)
     rw[<- this];congr 1;rw[MT.size_nd];show(pA C++y.po).length+_+_=_;rw[aj,MT.po_len];omega
    rw[hu]at e
    obtain⟨o8,o9',bt,e2,e3,e4⟩:=ih y (.nd l r m) w (sv M w (y.tR M) o) (c+1) (iO (sv M m (l.tR M) (r.tR M):Nat)) (st.set pf (.lst (nW (rA M (.rg y w::C)++(l.rT M++r.rT M++[sv M m (l.tR M) (r.tR M)])++rB M (.rg y w::C) o)))) ht (ym hM w (y.tR_lt hM hn) ho) (by rw[b7 na];exact ha) (by rw[b7 nb];exact hb) (by
     rw[eM hf]
     unfold fr
     show some (ar.lst (nW ((rA M C++y.rT M)++_++([_]++rB M C _))))=some (ar.lst (nW (rA M C++(y.rT M++(l.rT M++r.rT M++[_])++[_])++rB M C _)))
     simp only[al])
    exact⟨o8,o9',bt,yn (aR (fB kv rfl)) e e2,e3,fun i hi=>by rw[e4 i hi];exact b7 (Ne.symm hi)⟩
end
theorem EQ(hM:mK M n)(hn:1<=n){C:List Fm}{l r t:MT}{o:Nat}(ht:t=ba C (.nd l r m))(ho:o<n)(hs:t.size<=900)(st:List ar) :
  CU [M.w,bF t.po,gH #[63],.int ((pA C).length+l.size+r.size:Nat)] st=.ok (.tup [gH (t.rT M),.int (MN M C (sv M m (l.tR M) (r.tR M)) o:Nat)]) st:=by
 have hg:=t.gr0
 have hl:=t.po_len
 obtain⟨A,B,x,lA,lB,uA,uB,cA,cB',e5⟩:=Rt hg #[0] st
 rw[hl]at lA lB uA uB
 have e6:zv [gH #[63]] (st++x)=.ok (.loc (st++x).length) (st++x++[.lst (nW #[63])]):=Rm
 have nA:(st++x).length≠st.length:=fun e=>by have:=gf cA;omega
 have nB:(st++x).length≠st.length+1:=fun e=>by have:=gf cB';omega
 obtain⟨o8,o9,bt,e8,e9,e10⟩:=EO hM hn (gH #[63]) ((pA C).length+l.size+r.size) uA uB lA lB nA nB C l r m o 0 none (st++x++[.lst (nW #[63])]) ht ho (cV cA) (cV cB') c_
 rw[pW]at e8
 refine fC ?_ (by simp[undWs,wN,W.und])
 apply az
 ·exact be (cf kn (um hg #[0] st) rfl)
 apply az
 ·exact be (cf kn e5 rfl)
 apply az
 ·exact be (bR kn e6)
 apply az
 ·exact be bu
 apply az
 ·exact be kv
 apply az
 ·exact zx e8 #[15]
 apply bU
 ·exact c5 (ak (bR kn (n5 (bN e9))) kn) #[41]
 ·refine⟨_,_,rfl,rfl,?_⟩
  have:st <+: bt:=List.prefix_iff_getElem?.mpr fun i hi=>by
   rw[e10 i (by rw[aj];omega),al,aN hi,ao hi]
  exact this.imp fun x e=>e.symm
end
theorem MT.one_of:∀{t:MT},0<t.size->t.one=1
 |.nil,h=>absurd h (by decide)
 |.nd _ _ _,_=>rfl
theorem MT.one_bit:∀t:MT,rW t.po=t.one
 |.nil=>rfl
 |.nd l r m=>by unfold rW;rw[aJ (by rw[MT.po_len,MT.size_nd];omega)];rfl
theorem MT.one_le:∀t:MT,t.one<=1/\(0<t.size↔t.one=1)
 |.nil=>⟨by decide,by decide⟩
 |.nd l r m=>⟨aC 1,by rw[MT.size_nd];exact⟨fun _=>rfl,fun _=>by omega⟩⟩
theorem Gr.mts{ps:List Pl}{sz:List Nat}{lk:List #[9]}(h:Gr ps S sz lk):∃F:List MT,(∀t∈F,0<t.size)/\S=F.map MT.size/\ps=(F.reverse.map MT.po).flatten:=by
 induction h with
 |nil=>exact⟨[],by simp,rfl,rfl⟩
 |@snoc ps S S' sz lk b k m x h hs ih=>
  obtain⟨F,h1,rfl,rfl⟩:=ih
  have add:∀(t:MT) (G:List MT),0<t.size->(∀x∈G,0<x.size)->∀x∈t::G,0<x.size:=fun t G h g x hx=>by
   rcases aT.mp hx with rfl|hx
   ·exact h
   ·exact g x hx
  generalize hS:F.map MT.size=S0 at hs
  cases hs with
  |z=>
   refine⟨.nd .nil .nil m::F,add _ _ (Nat.succ_pos _) h1,by rw[<- hS];rfl,?_⟩
   rw[bK,a8,dY];rfl
  |l=>
   match F,hS with
   |t::F,hS=>
    rw[bD]at hS
    cases hS
    have ht:=h1 t bS
    refine⟨.nd t .nil m::F,add _ _ (by rw[MT.size_nd];omega) fun x hx=>h1 x (aU _ hx),?_,?_⟩
    ·rw[bD,MT.size_nd];congr 1;show _=_+0+1;omega
    ·rw[bK,a8,dY,bK,a8,dY,al]
     congr 1
     show(t.po++[])++_=(t.po++[]++[⟨t.one+2*0,m⟩])++[]
     rw[MT.one_of ht];simp
  |r=>
   match F,hS with
   |t::F,hS=>
    rw[bD]at hS
    cases hS
    have ht:=h1 t bS
    refine⟨.nd .nil t m::F,add _ _ (by rw[MT.size_nd];omega) fun x hx=>h1 x (aU _ hx),?_,?_⟩
    ·rw[bD,MT.size_nd];congr 1;show _=0+_+1;omega
    ·rw[bK,a8,dY,bK,a8,dY,al]
     congr 1
     show(t.po++[])++_=([]++t.po++[⟨0+2*t.one,m⟩])++[]
     rw[MT.one_of ht];simp
  |b=>
   match F,hS with
   |c::t::F,hS=>
    rw[bD,bD]at hS
    cases hS
    have hc:=h1 c bS
    have ht:=h1 t (aU _ bS)
    refine⟨.nd t c m::F,add _ _ (by rw[MT.size_nd];omega) fun x hx=>h1 x (aU _ (aU _ hx)),?_,?_⟩
    ·rw[bD,MT.size_nd];congr 1;omega
    ·rw[bK,a8,dY,bK,bK,a8,dY,a8,dY,al,al]
     congr 1
     show(t.po++[])++((c.po++[])++_)=(t.po++c.po++[⟨t.one+2*c.one,m⟩])++[]
     rw[MT.one_of ht,MT.one_of hc];simp
   |[_],hS=>simp at hS
theorem Gr.mt{ps:List Pl}{sz:List Nat}{lk:List #[9]}(h:Gr ps S sz lk)(h1:S.length<=1):∃t:MT,ps=t.po:=by
 obtain⟨F,_,rfl,rfl⟩:=h.mts
 match F,h1 with
 |[],_=>exact⟨.nil,rfl⟩
 |[t],_=>exact⟨t,by simp⟩
 |_::_::_,h=>simp at h
section
variable{M:Mc}
def pq(C:List Fm)(l r:MT):Nat:=(pA C).length+l.size+r.size
theorem uw(C:List Fm)(l r:MT)(m:List Nat):F1 #[1].po #[1].szT (pq C l r) ⟨l.one+2*r.one,m⟩ l.size r.size:=by
 obtain⟨u,w,e,hu⟩:=wP C (.nd l r m)
 have hl:=l.one_le
 have hr:=r.one_le
 refine⟨pH C l r m,?_,by unfold pq;omega,by show l.one+2*r.one<=3;omega,by show _↔(l.one+2*r.one)%2=1;omega,by show _↔2<=l.one+2*r.one;omega,fun h=>?_⟩
 ·rw[e,show 1+l.size+r.size=l.size+r.size+1 by omega]
  exact Bn u l.szT r.szT w _ (by rw[hu,MT.sz_len,MT.sz_len];rfl)
 ·have h2:2<=l.one+2*r.one:=h
  cases r with
  |nil=>exact absurd h2 (by show ¬ 2<=l.one+2*0;omega)
  |nd a b c=>
   rw[MT.size_nd]
   refine⟨by unfold pq;rw[MT.size_nd];omega,?_⟩
   rw[e,show(MT.nd l (.nd a b c) m).szT=l.szT++(a.szT++b.szT++[a.size+b.size+1])++[l.size+(MT.nd a b c).size+1]from rfl,<- al,<- al,al]
   exact Bn (u++l.szT) a.szT b.szT _ _ (by rw[aj,hu,MT.sz_len,MT.sz_len,MT.sz_len];unfold pq;rw[MT.size_nd];omega)
theorem wR{a b c d:List α}{p q:Nat}(hp:p=a.length)(hk:k=b.length):((a++(b++c)++d).drop p).take k=b:=by
 subst hp;subst hk
 rw[al,List.drop_left,al,gZ]
theorem Df(C:List Fm)(l r:MT)(m:List Nat):EI #[1].po (pq C l r) l.size r.size=l.po:=by
 unfold EI pq
 rw[dD,show#[70].po=l.po++(r.po++[⟨l.one+2*r.one,m⟩])from al _ _ _]
 exact wR (q:=0) #[0] (MT.po_len l).symm
theorem Dg(C:List Fm)(l r:MT)(m:List Nat):EJ #[1].po (pq C l r) r.size=r.po:=by
 unfold EJ pq
 rw[dD,show pA C++#[70].po++pB C=(pA C++l.po)++(r.po++[⟨l.one+2*r.one,m⟩])++pB C by show pA C++(l.po++r.po++_)++_=_;simp only[al]]
 exact wR (q:=0) (by rw[aj,MT.po_len];omega) (MT.po_len r).symm
theorem ux(C:List Fm)(l r x:MT)(m:List Nat)(sd:Bool):Lg #[1].po (pq C l r) l.size r.size m sd x.po=(ba C (.nd (if sd then x else l) (if sd then r else x) m)).po:=by
 unfold Lg
 rw[Df,Dg]
 have e1:#[1].po.take (pq C l r-l.size-r.size)=pA C:=by
  rw[dD,al,show pq C l r-l.size-r.size=(pA C).length by unfold pq;omega,gZ]
 have e2:#[1].po.drop (pq C l r+1)=pB C:=by
  rw[dD]
  exact iA (by rw[aj,MT.po_len,MT.size_nd];unfold pq;omega)
 rw[e1,e2,dD]
 cases sd
 ·show pA C++(l.po++x.po++[⟨rW l.po+2*rW x.po,m⟩])++pB C=_
  rw[MT.one_bit,MT.one_bit];rfl
 ·show pA C++(x.po++r.po++[⟨rW x.po+2*rW r.po,m⟩])++pB C=_
  rw[MT.one_bit,MT.one_bit];rfl
theorem Dh{a:List Nat}(h:q<=a.length)(st:List ar):yG (gH a) none (some (q:Int)) st=.ok (gH (a.take q)) st:=by
 show R.ok (W.tup (ko _ _ _)) st=_
 rw[pd (by simpa using h),<- om];rfl
theorem Di{a:List Nat}(h:q<=a.length)(st:List ar):yG (gH a) (some (q:Int)) none st=.ok (gH (a.drop q)) st:=by
 show R.ok (W.tup (ko _ _ _)) st=_
 rw[t9 (by simpa using h),<- on];rfl
theorem uy(a b:List Nat)(h:(a++b).length<=100000)(st:List ar):cN (gH a) (gH b) st=.ok (gH (a++b)) st:=by
 unfold gH
 rw[a8]
 exact IX (by rw[<- a8,aF];show _<=1000000;omega)
theorem uz(hM:mK M n)(hn:1<=n)(t:MT)(h:t.size<=900)(st:List ar):qd [M.w,bF t.po] st=.ok (gH (t.rT M)) st:=by
 have:=J9 t.gr0 (by rw[MT.po_len];omega) hM hn st
 rwa[MT.rooms_po]at this
theorem Km(C:List Fm)(l r:MT)(m:List Nat)(h:#[1].size<=900)(st:List ar):qY [bF #[1].po,.int (pq C l r:Nat)] st=.ok (.tup [bF l.po,bF r.po]) st:=by
 have:=Ke #[1].gr0 (by rw[MT.po_len];exact h) (uw C l r m) st
 rwa[show(List.drop (pq C l r-l.size-r.size) #[1].po).take l.size=l.po from Df C l r m,show(List.drop (pq C l r-r.size) #[1].po).take r.size=r.po from Dg C l r m]at this
theorem Bo(r:List Nat)(st:List ar):dm [gH r] st=.ok (.int r.length) st:=by
 have:dm [gH r] st=.ok (.int (r.map fun k=>W.int (k:Nat)).length) st:=xM
 rwa[aF]at this
theorem F4(M:Mc)(C:List Fm)(l r:MT)(o:Nat):fr M C l r o=rA M C++(l.rT M++(r.rT M++([o]++rB M C o))):=by unfold fr;simp only[al]
theorem Kn(M:Mc)(C:List Fm)(l r:MT)(o:Nat):#[63].take (pA C).length=rA M C:=by rw[F4];exact mx (pG M C)
theorem Ko(M:Mc)(C:List Fm)(l r:MT)(o:Nat):#[63].drop #[60]=r.rT M++([o]++rB M C o):=by
 rw[F4,<- al];exact iA (by rw[aj,pG,MT.rT_len])
theorem Kp(M:Mc)(C:List Fm)(l r:MT)(o:Nat):#[63].take #[60]=rA M C++l.rT M:=by
 rw[F4,<- al];exact mx (by rw[aj,pG,MT.rT_len])
theorem Kq(M:Mc)(C:List Fm)(l r:MT)(o:Nat):#[63].drop (pq C l r)=[o]++rB M C o:=by
 rw[F4,<- al,<- al];exact iA (by rw[aj,aj,pG,MT.rT_len,MT.rT_len];rfl)
theorem Kr(M:Mc):∀(D:List Fm) (a b:Nat),(rB M D a).length=(rB M D b).length
 |[],a,b=>rfl
 |.lf y w::D,a,b=>by
  show(y.rT M++[_]++rB M D _).length=(y.rT M++[_]++rB M D _).length
  rw[aj,aj,aj,aj,Kr M D _ (sv M w b (y.tR M))];rfl
 |.rg y w::D,a,b=>by
  show([_]++rB M D _).length=([_]++rB M D _).length
  rw[aj,aj,Kr M D _ (sv M w (y.tR M) b)];rfl
theorem Rz(M:Mc)(C:List Fm)(l r:MT)(o:Nat)(m:List Nat):#[63].length=#[1].size:=by
 rw[<- MT.rT_len M,rX M C (.nd l r m)]
 unfold fr
 simp only[aj,MT.rT_len,Kr M C o (#[70].tR M),MT.size_nd,bj]
def dW(C C':List Fm)(l r:MT)(m:List Nat)(l' r':MT)(m':List Nat)(s:W):W:=.tup [bF #[1].po,.int (pq C l r:Nat),bF (ba C' (.nd l' r' m')).po,.int (pq C' l' r':Nat),s]
theorem G9(hM:mK M n)(hn:1<=n)(C:List Fm)(l r l' r':MT)(m m':List Nat)(sd:Bool)(h1:#[1].size<=900)(h2:(ba C (.nd l' r' m')).size<=900)(hl:sd=false->l'=l)(hr:sd=true->r'=r)(o:Nat)(st:List ar) :
  zI [M.w,gH #[63],dW C C l r m l' r' m' (mf sd)] st=.ok (.tup [gH (fr M C l' r' o),.int ((if sd then l'.size else r'.size:Nat))]) st:=by
 have z1:=fP C (.nd l r m) (by rw[MT.size_nd];omega)
 have z2:=fP C (.nd l' r' m') (by rw[MT.size_nd];omega)
 rw[MT.size_nd]at z1 z2
 have b1:=Km C l r m h1 st
 have b2:=Km C l' r' m' h2 st
 have n1:=gD l.po st
 have n2:=gD r.po st
 rw[MT.po_len]at n1 n2
 have hA:=pG M C
 have hfl:=Rz M C l r o m
 have i3:∀ρ:cL,ρ[2]?=some (some (dW C C l r m l' r' m' (mf sd)))->e2 bB (ah 2) (eI 4) ρ st=.ok (mf sd) st:=fun ρ h=>bq (im h) bu ox
 have eS:iK (mf sd) #[53] st=.ok (.bl sd) st:=by cases sd<;>exact c6 rfl
 have a5:(pq C l r:Int)-(l.size:Nat)-(r.size:Nat)=((pA C).length:Nat):=by unfold pq;omega
 have d3:bf 3 (b_ 2 qY (af (e2 bB (ah 2) (eI 0)) (af (e2 bB (ah 2) (eI 1)) aA))) [some M.w,some (gH #[63]),some (dW C C l r m l' r' m' (mf sd)),none,none,none,none,none] st=.nx [some M.w,some (gH #[63]),some (dW C C l r m l' r' m' (mf sd)),some (.tup [bF l.po,bF r.po]),none,none,none,none] st:=
  be (cf (ak kx (ak kx aM)) b1 rfl)
 refine fC ?_ (by simp[undWs,wN,W.und])
 apply az
 ·exact d3
 apply az
 ·exact be (cf (ak kx (ak kx aM)) b2 rfl)
 apply az
 ·refine be (st1:=st) (w:=.int ((pA C).length:Nat)) ?_
  rw[<- a5]
  exact bq (bq kx (bR (ak kx aM) n1) rfl) (bR (ak kx aM) n2) rfl
 apply az
 ·refine be (st1:=st) (w:=.int ((pA C).length+l.size:Nat)) ?_
  rw[gn]
  exact bq kv (bR (ak kx aM) n1) dX
 cases sd with
 |true=>
  obtain rfl:=hr rfl
  have rm:=uz hM hn l' #[0] st
  have nl:=Bo (l'.rT M) st
  rw[MT.rT_len]at nl
  apply ec
  ·exact aR (bq (i3 _ rfl) bu eS)
  apply vc
  apply az
  ·exact be (cf (ak kv (ak kx aM)) rm rfl)
  apply dZ
  ·refine c5 (ak (bq (bq (oG kv vb (oF kv) (Dh #[0] st)) kv (uy _ _ ?_ st)) (oG kv (oF kv) vb (Di #[0] st)) (uy _ _ ?_ st)) (ak (bR kn nl) aM)) #[41]
   ·simp only[aj,aP,MT.rT_len];omega
   ·simp only[aj,aP,cF,MT.rT_len];omega
  ·refine⟨_,_,rfl,?_,[],by simp⟩
   rw[Kn,Ko]
   unfold fr
   simp only[al];rfl
 |false=>
  obtain rfl:=hl rfl
  have rm:=uz hM hn r' #[0] st
  have nl:=Bo (r'.rT M) st
  rw[MT.rT_len]at nl
  apply bA
  ·exact aR (bq (i3 _ rfl) bu eS)
  apply b6
  apply az
  ·exact be (cf (ak kv (ak kx aM)) rm rfl)
  apply bU
  ·refine c5 (ak (bq (bq (oG kv vb (oF kv) (Dh #[0] st)) kv (uy _ _ ?_ st)) (oG kv (oF kx) vb (Di (by unfold pq;omega) st)) (uy _ _ ?_ st)) (ak (bR kn nl) aM)) #[41]
   ·simp only[aj,aP,MT.rT_len];omega
   ·simp only[aj,aP,cF,MT.rT_len];omega
  ·refine⟨_,_,rfl,?_,[],by simp⟩
   rw[Kp,Kq]
   unfold fr
   simp only[al];rfl
end
inductive Dd where
 |mk (C:List Fm) (l r:MT) (m:List Nat) (l' r':MT) (m':List Nat) (sd:Option Bool)
 |wh (t t':MT)
namespace Dd
def a:Dd->MT
 |mk C l r m _ _ _ _=>ba C (.nd l r m)
 |wh t _=>t
def b:Dd->MT
 |mk C _ _ _ l' r' m' _=>ba C (.nd l' r' m')
 |wh _ t'=>t'
def sW:Option Bool->W
 |none=>.non
 |some s=>mf s
def w:Dd->W
 |mk C l r m l' r' m' sd=>dW C C l r m l' r' m' (sW sd)
 |wh t t'=>.tup [bF t.po,.non,bF t'.po,.non,.non]
def tn:Dd->Dd
 |mk C l r m l' r' m' sd=>mk C l' r' m' l r m sd
 |wh t t'=>wh t' t
def ok:Dd->Prop
 |mk C l r m l' r' m' sd=>(ba C (.nd l r m)).size<=100/\(ba C (.nd l' r' m')).size<=100/\(sd≠some true->l'=l)/\(sd≠some false->r'=r)
 |wh t t'=>t.size<=100/\t'.size<=100
def bc:Option Bool->MT->MT->Nat
 |none,_,_=>0
 |some sd,l,r=>if sd then l.size else r.size
def ct(M:Mc):Dd->Nat
 |mk C l r m l' r' m' sd=>bc sd l' r'+MN M C (sv M m' (l'.tR M) (r'.tR M)) (sv M m (l.tR M) (r.tR M))
 |wh _ t'=>t'.size
theorem tn_a(d:Dd):d.tn.a=d.b:=by cases d<;>rfl
theorem tn_b(d:Dd):d.tn.b=d.a:=by cases d<;>rfl
theorem tn_ok{d:Dd}(h:d.ok):d.tn.ok:=by
 cases d with
 |mk C l r m l' r' m' sd=>exact⟨h.2.1,h.1,fun e=>(h.2.2.1 e).symm,fun e=>(h.2.2.2 e).symm⟩
 |wh t t'=>exact⟨h.2,h.1⟩
theorem ok_a{d:Dd}(h:d.ok):d.a.size<=100:=by
 cases d with
 |mk C l r m l' r' m' sd=>exact h.1
 |wh t t'=>exact h.1
theorem ok_b{d:Dd}(h:d.ok):d.b.size<=100:=by rw[<- tn_a];exact ok_a (tn_ok h)
end Dd
section
variable{f m:Str}{fs:FA}{z1 z2 z3:List ar}{fl XF:List (Str×W)}{y w:W}{P:RS->Prop}{gO:FS}
theorem re(h1:fe ρ z=.ok y z1)(h2:fo ρ z1=.ok (.loc n) z2)(h3:z2[n]?=some (.obj c fl))(hl:fl.length<900):qJ c f fo fe ρ z=.nx ρ (z2.set n (.obj c (yP f y fl))):=by
 unfold qJ
 rw[h1];simp only[R.stmt_ok];rw[h2];simp only[R.stmt_ok,oE,h3]
 rw[aJ ⟨trivial,hl⟩]
theorem dH(h:fa ρ z=.ok (.loc n) z1)(h3:z1[n]?=some (.obj c fl))(hk:fl.lookup f=some w):jg c f fa ρ z=.ok w z1:=by
 unfold jg
 rw[h];simp only[R.bind_ok,oE,h3,gy,hk,fy]
theorem ic(h:fo ρ z=.ok (.loc n) z1)(h3:z1[n]?=some (.obj c fl))(hm:fl.lookup m=none)(ha:fs ρ z1=.ok ws z2)(hn:ws.length+1=k)(hF:F (.loc n::ws) z2=.ok w z3):il c m k F fo fs ρ z=.ok w z3:=by
 unfold il
 rw[h];simp only[R.bind_ok,oE,h3]
 rw[aJ ⟨trivial,hm⟩,ha];simp only[R.bind_ok]
 rw[aJ hn,hF]
theorem RA(ha:fs ρ z=.ok ws z1)(hn:ws.length+1=k)(hF:F (.loc z1.length::ws) (z1++[.obj c []])=.ok .non z2):FP c k F fs ρ z=.ok (.loc z1.length) z2:=by
 unfold FP
 rw[ha];simp only[R.bind_ok]
 rw[aJ hn,hF]
theorem k_(h:bt.length=st.length):iL st bt ws=bt:=by
 unfold iL
 split
 ·rw[bQ #[0]]
 ·rfl
theorem yp(ws:List W)(hL:L<st.length)(h:bt[L]?=some (.obj c fl))(hu:undWs st.length (fl.map fun p=>p.2)=false)(hz:st[L]?≠some (.obj c fl)):iL st bt ws=bt:=by
 unfold iL
 rw[aW]
 rintro⟨_,_,k⟩
 rcases k L hL with e|⟨c,e,hc⟩
 ·rw[h]at e;exact hz e.symm
 ·rw[h]at e
  cases e
  have hc:undWs st.length (fl.map fun p=>p.2)=true:=hc
  rw[hu]at hc;cases hc
theorem lE{N:Nat}(h:body #[13] st=.nx ρ bt):dq N body ws st=.ok .non (iL st bt []):=by
 unfold dq;rw[h]
end
section
variable{M:Mc}{a b:Nat}
def kF(M:Mc)(t:MT)(k:Nat)(a b:Nat):List (Str×W):=[("machine",M.w),("tree",bF t.po),("rooms",gH (t.rT M)),("many",.int (k:Nat)),("standing",.loc a),("taken_back",.loc b)]
theorem yq(hM:mK M n)(hn:1<=n){d:Dd}(hd:d.ok)(hz:z[L]?=some (.obj "Kept" (kF M d.a k a b))):dQ [.loc L,d.w] z=.ok .non (z.set L #[31]):=by
 suffices hh:∃ρ,k9 ([.loc L,d.w].map some++List.replicate (4-2) none) z=.nx ρ (z.set L #[31]) by
  obtain⟨ρ,e⟩:=hh
  show dq 4 k9 _ _=_
  rw[lE e,k_ #[15]]
 cases d with
 |wh t t'=>
  have hd2:t'.size<=100:=hd.2
  refine⟨[lO L,some (Dd.wh t t').w,none,none],?_⟩
  have e1:qJ "Kept" "rooms" (ah 0) (b_ 2 qd (af (jg "Kept" "machine" (ah 0)) (af #[47] aA))) [lO L,some (Dd.wh t t').w,none,none] z=.nx [lO L,some (Dd.wh t t').w,none,none] (z.set L (.obj "Kept" [("machine",M.w),("tree",bF t.po),("rooms",gH (t'.rT M)),("many",.int (k:Nat)),("standing",.loc a),("taken_back",.loc b)])):=
   re (cf (ak (dH kv hz rfl) (ak kx aM)) (uz hM hn t' #[0] z) rfl) kv hz #[41]
  have l1:=gD t'.po (z.set L (.obj "Kept" [("machine",M.w),("tree",bF t.po),("rooms",gH (t'.rT M)),("many",.int (k:Nat)),("standing",.loc a),("taken_back",.loc b)]))
  rw[MT.po_len]at l1
  refine cO (cY (aR (Cv kx rfl)) (cO e1 (re (bR (ak kx aM) l1) kv (eM hz) #[41]))) ?_
  rw[pX]
  rw[re (f:="tree") kx kv (eM hz) #[41],pX]
  rfl
 |mk C l r m l' r' m' sd=>
  obtain⟨h1,h2,h3,h4⟩:=hd
  have z0:z[L]?=some (.obj "Kept" (kF M #[1] k a b)):=hz
  have hrm:#[1].rT M=fr M C l r (sv M m (l.tR M) (r.tR M)):=by rw[rX];rfl
  have ho:=ym hM m (l.tR_lt hM hn) (r.tR_lt hM hn)
  generalize hov:sv M m (l.tR M) (r.tR M)=o at *
  obtain⟨k1,hk1,e2⟩:∃k1,k1=Dd.bc sd l' r'/\fK (dO (hU (e2 bB (ah 1) (eI 4)))) (bf 2 (b_ 3 zI (af (jg "Kept" "machine" (ah 0)) (af (jg "Kept" "rooms" (ah 0)) #[30])))) bW [lO L,some (Dd.mk C l r m l' r' m' sd).w,some (.tup [gH #[63],.int 0]),none] z=.nx [lO L,some (Dd.mk C l r m l' r' m' sd).w,some (.tup [gH (fr M C l' r' o),.int (k1:Nat)]),none] z:=by
   cases sd with
   |none=>
    obtain rfl:=h3 #[3]
    obtain rfl:=h4 #[3]
    exact⟨_,rfl,bZ (aR (fB kx rfl)) du⟩
   |some s=>
    have bo:=G9 hM hn C l r l' r' m m' s #[0] #[0] (fun e=>h3 (by rw[e];decide)) (fun e=>h4 (by rw[e];decide)) o z
    refine⟨_,rfl,cY (aR (fB kx (by cases s<;>rfl))) (be (cf (ak (dH kv z0 rfl) (ak (dH kv z0 ?_) kn)) bo rfl))⟩
    show some (gH (#[1].rT M))=_
    rw[hrm]
  have cl:=EQ hM hn (C:=C) (l:=l') (r:=r') (m:=m') (o:=o) rfl ho #[0] z
  refine⟨[lO L,some (Dd.mk C l r m l' r' m' sd).w,some (.tup [gH (fr M C l' r' o),.int (k1:Nat)]),some (.tup [gH ((ba C (.nd l' r' m')).rT M),.int (MN M C (sv M m' (l'.tR M) (r'.tR M)) o:Nat)])],?_⟩
  refine cO (bZ (aR (Cv kx rfl)) (cO (be (w:=.tup [gH #[63],.int 0]) (c5 (ak (dH (w:=gH #[63]) kv z0 ?_) (ak bu aM)) #[41])) (cO e2 (cO (be (cf (ak (dH kv z0 rfl) (ak kx (ak kx (ak kx aM)))) cl rfl)) (cO (re kx kv z0 #[41]) (re (bq kx kx dX) kv (eM z0) #[41])))))) ?_
  ·show some (gH (#[1].rT M))=_
   rw[hrm]
  ·rw[pX]
   rw[re (f:="tree") kx kv (eM z0) #[41],pX]
   have hct:(Dd.mk C l r m l' r' m' sd).ct M=k1+MN M C (sv M m' (l'.tR M) (r'.tR M)) o:=by rw[hk1,<- hov];rfl
   rw[hct]
   rfl
end
end P
namespace P
open PySem L2
structure mW(M:Mc)(L a b:Nat)(t:MT)(k:Nat)(sd tk:List Dd)(z:List ar):Prop where
 ob:z[L]?=some (.obj "Kept" (kF M t k a b))
 s:z[a]?=some (.lst (sd.reverse.map Dd.w))
 u:z[b]?=some (.lst (tk.reverse.map Dd.w))
 la:L≠a
 lb:L≠b
 ab:a≠b
 ls:sd.length<=1000
 lu:tk.length<=1000
def K3(L a b:Nat)(z z':List ar):Prop:=z.length<=z'.length/\∀i,i<z.length->i≠L->i≠a->i≠b->z'[i]?=z[i]?
section
variable{M:Mc}{a b:Nat}{t:MT}{sd tk:List Dd}{d:Dd}
theorem Ks(hM:mK M n)(hn:1<=n)(hd:d.ok)(hz:mW M L a b d.a k sd tk z)(hs:sd.length<1000):∃z',eK [.loc L,d.w] z=.ok .non z'/\mW M L a z.length d.b (d.ct M) (d::sd) [] z'/\K3 L a b z z':=by
 have c1:=yq hM hn hd hz.ob
 have lL:=gf hz.ob
 have lA:=gf hz.s
 have lB:=gf hz.u
 have g1:(z.set L #[31])[a]?=some (.lst (sd.reverse.map Dd.w)):=by rw[b7 hz.la];exact hz.s
 have g2:#[83][L]?=some #[31]:=by rw[b7 (Ne.symm hz.la)];exact eM hz.ob
 have hl:#[83].length=z.length:=by simp
 have e:qZ ([.loc L,d.w].map some++List.replicate (2-2) none) z=.nx [lO L,some d.w] ((#[83]++[ar.lst []]).set L (.obj "Kept" (kF M d.b (d.ct M) a z.length))):=by
  refine cO (eJ (ic kv hz.ob rfl kn rfl c1)) (cO (eJ (iZ (dH kv (eM hz.ob) rfl) (dE g1) kn (mV g1 (by simp;omega)))) ?_)
  rw[re (f:="taken_back") (mz aM #[41]) kv (cV g2) #[41],hl]
  rfl
 have e2:=lE (N:=2) e
 generalize hz':(#[83]++[ar.lst []]).set L (.obj "Kept" (kF M d.b (d.ct M) a z.length))=z' at *
 have oL:z'[L]?=some (.obj "Kept" (kF M d.b (d.ct M) a z.length)):=by rw[<- hz'];exact eM (cV g2)
 have oA:z'[a]?=some (.lst ((d::sd).reverse.map Dd.w)):=by
  rw[<- hz',b7 hz.la]
  refine cV ?_
  rw[eM g1,bK,a8];rfl
 have oB:z'[z.length]?=some (.lst (([]:List Dd).reverse.map Dd.w)):=by
  rw[<- hz',b7 #[0],<- hl]
  exact c_
 rw[yp [] lL oL (by simp[kF,undWs,W.und]) (by rw[hz.ob];intro e;injection e with e;injection e with _ e;simp[kF]at e;omega)]at e2
 refine⟨z',e2,⟨oL,oA,oB,hz.la,by omega,by omega,by rw[bv];omega,by simp⟩,by rw[<- hz'];simp,fun i hi h1 h2 h3=>?_⟩
 rw[<- hz',b7 (Ne.symm h1),aN (by simpa using hi),b7 (Ne.symm h2),b7 (Ne.symm h1)]
theorem iw{z':List ar}{t':MT}{k':Nat}{Xx RO:List Dd}(ws:List W)(hz:mW M L a b t k sd tk z)(h:mW M L a z.length t' k' Xx RO z'):iL z z' ws=z':=
 yp ws (gf hz.ob) h.ob (by simp[kF,undWs,W.und]) (by
  have:=gf hz.u
  rw[hz.ob];intro e;injection e with e;injection e with _ e;simp[kF]at e;omega)
theorem Bp(C:List Fm)(l r:MT)(m m':List Nat)(h:#[1].size<=900)(st:List ar):CT [bF #[1].po,.int (pq C l r:Nat),.str m'] st=.ok (bF (ba C (.nd l r m')).po) st:=by
 have z1:=fP C (.nd l r m) (by rw[MT.size_nd];omega)
 rw[MT.size_nd]at z1
 have hl:=MT.po_len #[1]
 have hq:pq C l r+1<=#[1].po.length:=by unfold pq;omega
 have e1:#[1].po.take (pq C l r)=pA C++(l.po++r.po):=by
  rw[dD,show pA C++#[70].po++pB C=(pA C++(l.po++r.po))++(⟨l.one+2*r.one,m⟩::pB C) by show pA C++(l.po++r.po++[_])++pB C=_;simp only[al];rfl]
  exact mx (by rw[aj,aj,MT.po_len,MT.po_len];unfold pq;omega)
 have e2:#[1].po.drop (pq C l r+1)=pB C:=by
  rw[dD]
  exact iA (by rw[aj,MT.po_len,MT.size_nd];unfold pq;omega)
 have e3:(ba C (.nd l r m')).po=(pA C++(l.po++r.po))++[⟨l.one+2*r.one,m'⟩]++pB C:=by
  rw[dD];show pA C++(l.po++r.po++[_])++pB C=_;simp only[al]
 have hs:(ba C (.nd l r m')).po.length=#[1].po.length:=by rw[dD,dD];simp only[aj,MT.po_len,MT.size_nd]
 rw[e3]at hs
 have s1:=yj (a:=#[1].po) (q:=pq C l r) #[0] st
 have s2:=yk (a:=#[1].po) (q:=pq C l r+1) #[0] st
 rw[e1]at s1
 rw[e2]at s2
 rw[aj]at hs
 refine fC ?_ (by simp only[undWs,md,dM])
 apply bU
 ·exact bq (bq (oG kv vb (oF kv) s1) (c5 (ak (c5 (ak (bq (bq kv kv (uo (pH C l r m) st)) bu (Rj _ st)) kn) #[41]) aM) #[41]) (kB _ [⟨l.one+2*r.one,m'⟩] #[0] st)) (oG kv (oF (bq kv bu dX)) vb s2) (kB _ _ (by rw[aj];omega) st)
 ·exact⟨_,_,rfl,by rw[e3],[],by simp⟩
theorem F5(hM:mK M n)(hn:1<=n){C:List Fm}{l r:MT}{m':List Nat}(hd:(Dd.mk C l r m l r m' none).ok)(hz:mW M L a b #[1] k sd tk z)(hs:sd.length<1000):∃z',fm [.loc L,.int (pq C l r:Nat),.str m'] z=.ok .non z'/\mW M L a z.length (ba C (.nd l r m')) ((Dd.mk C l r m l r m' none).ct M) (Dd.mk C l r m l r m' none::sd) [] z'/\K3 L a b z z':=by
 obtain⟨z',e,h,h3⟩:=Ks hM hn (d:=Dd.mk C l r m l r m' none) hd hz hs
 refine⟨z',?_,h,h3⟩
 rw[<- iw [] hz h]
 refine lE (N:=3) (ρ:=[lO L,iO (pq C l r:Nat),some (.str m')]) (eJ (ic kv hz.ob rfl (ak (c5 (ak #[32] (ak kv (ak (cf (ak #[32] (ak kv kn)) (Bp C l r m m' (by have:=hd.1;omega) z) rfl) (ak kv (ak bu aM))))) #[41]) aM) rfl e))
def rZ(m:List Nat):Prop:=m.Pairwise (· < ·)/\∀c∈m,c∈LL
theorem ER(hM:mK M n)(hn:1<=n){C:List Fm}{l r:MT}{c:Nat}(h1:#[1].size<=100)(h2:(ba C (.nd l r (hW (m++[c])))).size<=100)(hm:∀d∈m,d∈LL)(Xf:m.length<=60)(hc:c∈LL)(hz:mW M L a b #[1] k sd tk z)(hs:sd.length<1000) :
  ∃z',jR [.loc L,.int (pq C l r:Nat),.str [c]] z=.ok .non z'/\mW M L a z.length (ba C (.nd l r (hW (m++[c])))) ((Dd.mk C l r m l r (hW (m++[c])) none).ct M) (Dd.mk C l r m l r (hW (m++[c])) none::sd) [] z'/\K3 L a b z z':=by
 obtain⟨z',e,h,h3⟩:=F5 hM hn (C:=C) (l:=l) (r:=r) (m:=m) (m':=hW (m++[c])) ⟨h1,h2,fun _=>rfl,fun _=>rfl⟩ hz hs
 refine⟨z',?_,h,h3⟩
 have z1:=fP C (.nd l r m) (by rw[MT.size_nd];omega)
 rw[MT.size_nd]at z1
 have hl:=MT.po_len #[1]
 have hml2:m.length<=oy:=by show _<=1000000;omega
 have hcp:=yl (ps:=#[1].po) (q:=pq C l r) (by unfold pq;omega) z
 have io:=Ka (l:=m++[c]) (by rw[aj,bj];omega) (fun d hd=>by
  rcases aV.mp hd with hd|hd
  ·exact hm d hd
  ·rw[aZ.mp hd];exact hc) z
 rw[<- iw [] hz h]
 refine lE (N:=3) (ρ:=[lO L,iO (pq C l r:Nat),some (.str [c])]) (cO (eJ (cf (ak #[32] kn) hcp rfl)) (eJ (ic kv hz.ob rfl (ak kv (ak (cf (ak (bq (bq (bq #[32] kv (uo (pH C l r m) z)) bu (EC _ z)) kv (Em (by show _<=1000000;simp;omega))) aM) io rfl) aM)) rfl e)))
theorem Dj(hM:mK M n)(hn:1<=n){C:List Fm}{l r:MT}{c:Nat}(h1:#[1].size<=100)(h2:(ba C (.nd l r #[54])).size<=100)(Xf:m.length<=60)(hz:mW M L a b #[1] k sd tk z)(hs:sd.length<1000) :
  ∃z',i8 [.loc L,.int (pq C l r:Nat),.str [c]] z=.ok .non z'/\mW M L a z.length (ba C (.nd l r #[54])) ((Dd.mk C l r m l r #[54] none).ct M) (Dd.mk C l r m l r #[54] none::sd) [] z'/\K3 L a b z z':=by
 obtain⟨z',e,h,h3⟩:=F5 hM hn (C:=C) (l:=l) (r:=r) (m:=m) (m':=m.filter fun d=>d != c) ⟨h1,h2,fun _=>rfl,fun _=>rfl⟩ hz hs
 refine⟨z',?_,h,h3⟩
 have z1:=fP C (.nd l r m) (by rw[MT.size_nd];omega)
 rw[MT.size_nd]at z1
 have hl:=MT.po_len #[1]
 have hml2:m.length<=oy:=by show _<=1000000;omega
 have hcp:=yl (ps:=#[1].po) (q:=pq C l r) (by unfold pq;omega) z
 rw[<- iw [] hz h]
 refine lE (N:=3) (ρ:=[lO L,iO (pq C l r:Nat),some (.str [c])]) (cO (eJ (cf (ak #[32] kn) hcp rfl)) (eJ (ic kv hz.ob rfl (ak kv (ak (Qe (bq (bq #[32] kv (uo (pH C l r m) z)) bu (EC _ z)) kv hml2) aM)) rfl e)))
theorem zV(hM:mK M n)(hn:1<=n){C:List Fm}{l r x:MT}{m:List Nat}{s:Bool}(h1:#[1].size<=100)(hx:x.size<=100)(h2:(ba C #[12]).size<=100)(hz:mW M L a b #[1] k sd tk z)(hs:sd.length<1000) :
  ∃z',gC [.loc L,.int (pq C l r:Nat),mf s,bF x.po] z=.ok .non z'/\mW M L a z.length (ba C #[12]) ((Dd.mk C l r m (if s then x else l) (if s then r else x) m (some s)).ct M) (Dd.mk C l r m (if s then x else l) (if s then r else x) m (some s)::sd) [] z'/\K3 L a b z z':=by
 obtain⟨z',e,h,h3⟩:=Ks hM hn (d:=Dd.mk C l r m (if s then x else l) (if s then r else x) m (some s)) ⟨h1,h2,fun e=>by cases s<;>first|rfl|exact absurd rfl e,fun e=>by cases s<;>first|rfl|exact absurd rfl e⟩ hz hs
 refine⟨z',?_,h,h3⟩
 have z1:=fP C (.nd l r m) (by rw[MT.size_nd];omega)
 have z2:=fP C #[12] (by rw[MT.size_nd];omega)
 rw[MT.size_nd]at z1 z2
 have hl:=MT.po_len #[1]
 have hl2:=MT.po_len (ba C #[12])
 have hxl:=MT.po_len x
 have pb:=Rv (oth:=x.po) #[1].gr0 #[0] #[0] (uw C l r m) s z (by rw[ux];omega)
 rw[ux]at pb
 have n1:=gD (ba C #[12]).po z
 have n2:=gD #[1].po z
 have hq:(pq C l r:Int)+((ba C #[12]).po.length:Nat)-(#[1].po.length:Nat)=(pq C (if s then x else l) (if s then r else x):Nat):=by
  rw[dD,dD]
  simp only[aj,MT.po_len,MT.size_nd]
  unfold pq
  omega
 rw[<- iw [] hz h]
 refine lE (N:=5) (ρ:=[lO L,iO (pq C l r:Nat),some (mf s),some (bF x.po),some (bF (ba C #[12]).po)]) (cO (be (cf (ak #[32] (ak kv (ak kv kn))) pb rfl)) (eJ (ic (ws:=[(Dd.mk C l r m (if s then x else l) (if s then r else x) m (some s)).w]) kv hz.ob rfl (ak ?_ aM) rfl e)))
 show _=R.ok (W.tup [bF #[1].po,.int (pq C l r:Nat),bF (ba C #[12]).po,.int (pq C (if s then x else l) (if s then r else x):Nat),mf s]) z
 rw[<- hq]
 exact c5 (ak #[32] (ak kv (ak kv (ak (bq (bq kv (bR kn n1) dX) (bR (ak #[32] aM) n2) rfl) kn)))) #[41]
theorem Kt(hM:mK M n)(hn:1<=n){x:MT}(h1:t.size<=100)(hx:x.size<=100)(hz:mW M L a b t k sd tk z)(hs:sd.length<1000) :
  ∃z',ji [.loc L,bF x.po] z=.ok .non z'/\mW M L a z.length x x.size (Dd.wh t x::sd) [] z'/\K3 L a b z z':=by
 obtain⟨z',e,h,h3⟩:=Ks hM hn (d:=Dd.wh t x) ⟨h1,hx⟩ hz hs
 refine⟨z',?_,h,h3⟩
 rw[<- iw [] hz h]
 exact lE (N:=2) (ρ:=[lO L,some (bF x.po)]) (eJ (ic kv hz.ob rfl (ak (c5 (ak #[32] (ak bu (ak kv (ak bu (ak bu aM))))) #[41]) aM) rfl e))
end
section
variable{M:Mc}{a b:Nat}{t:MT}{sd tk:List Dd}{d:Dd}
theorem G_(d:Dd)(st:List ar):CS [d.w] st=.ok d.tn.w st:=by
 cases d with
 |mk C l r m l' r' m' s=>
  apply eV
  apply bU
  ·exact c5 (ak kx (ak kx (ak kx (ak kx (ak kx aM))))) #[41]
  ·walk_at "8"
 |wh t t'=>
  apply eV
  apply bU
  ·exact c5 (ak kx (ak kx (ak kx (ak kx (ak kx aM))))) #[41]
  ·walk_at "8"
theorem MP(hM:mK M n)(hn:1<=n)(hd:d.ok)(hz:mW M L a b d.b k (d::sd) tk z)(hs:tk.length<1000):∃z',i9 [.loc L] z=.ok .non z'/\mW M L a b d.a (d.tn.ct M) sd (d::tk) z'/\K3 L a b z z'/\z'.length=z.length:=by
 have hsr:z[a]?=some (.lst (sd.reverse.map Dd.w++[d.w])):=by rw[hz.s,bK,a8];rfl
 have oL:(z.set a (.lst (sd.reverse.map Dd.w)))[L]?=some (.obj "Kept" (kF M d.tn.a k a b)):=by rw[b7 (Ne.symm hz.la),Dd.tn_a];exact hz.ob
 have c1:=yq hM hn (Dd.tn_ok hd) oL
 rw[Dd.tn_b]at c1
 have oB:((z.set a (.lst (sd.reverse.map Dd.w))).set L (.obj "Kept" (kF M d.a (d.tn.ct M) a b)))[b]?=some (.lst (tk.reverse.map Dd.w)):=by rw[b7 hz.lb,b7 hz.ab];exact hz.u
 have e:q5 ([.loc L].map some++List.replicate (2-1) none) z=.nx [lO L,some d.w] (((z.set a (.lst (sd.reverse.map Dd.w))).set L (.obj "Kept" (kF M d.a (d.tn.ct M) a b))).set b (.lst (tk.reverse.map Dd.w++[d.w]))):=
  cO (bZ (aR (bq (bR (ak #[32] aM) (jr (bN hsr))) bu (fg (by simp;omega)))) du)
   (cO (be (iZ #[32] (dE hsr) aM (xN hsr))) (cO (eJ (ic kv oL rfl (ak (cf kn (G_ d _) rfl) aM) rfl c1))
    (eJ (iZ (dH kv (eM oL) rfl) (dE oB) kn (mV oB (by simp;omega))))))
 have e2:=lE (N:=2) e
 rw[k_ #[15]]at e2
 refine⟨_,e2,⟨?_,?_,?_,hz.la,hz.lb,hz.ab,by have:=hz.ls;rw[bv]at this;omega,by rw[bv];omega⟩,⟨by simp,fun i hi h1 h2 h3=>?_⟩,by simp⟩
 ·rw[b7 (Ne.symm hz.lb)];exact eM oL
 ·rw[b7 (Ne.symm hz.ab),b7 hz.la];exact eM hsr
 ·rw[eM oB,bK,a8];rfl
 ·rw[b7 (Ne.symm h3),b7 (Ne.symm h1),b7 (Ne.symm h2)]
theorem Ku(hM:mK M n)(hn:1<=n)(hd:d.ok)(hz:mW M L a b d.a k sd (d::tk) z)(hs:sd.length<1000):∃z',ib [.loc L] z=.ok .non z'/\mW M L a b d.b (d.ct M) (d::sd) tk z'/\K3 L a b z z'/\z'.length=z.length:=by
 have hsr:z[b]?=some (.lst (tk.reverse.map Dd.w++[d.w])):=by rw[hz.u,bK,a8];rfl
 have oL:(z.set b (.lst (tk.reverse.map Dd.w)))[L]?=some (.obj "Kept" (kF M d.a k a b)):=by rw[b7 (Ne.symm hz.lb)];exact hz.ob
 have c1:=yq hM hn hd oL
 have oA:((z.set b (.lst (tk.reverse.map Dd.w))).set L #[31])[a]?=some (.lst (sd.reverse.map Dd.w)):=by rw[b7 hz.la,b7 (Ne.symm hz.ab)];exact hz.s
 have e:pz ([.loc L].map some++List.replicate (2-1) none) z=.nx [lO L,some d.w] (((z.set b (.lst (tk.reverse.map Dd.w))).set L #[31]).set a (.lst (sd.reverse.map Dd.w++[d.w]))):=
  cO (bZ (aR (bq (bR (ak #[32] aM) (jr (bN hsr))) bu (fg (by simp;omega)))) du)
   (cO (be (iZ #[32] (dE hsr) aM (xN hsr))) (cO (eJ (ic kv oL rfl kn rfl c1))
    (eJ (iZ (dH kv (eM oL) rfl) (dE oA) kn (mV oA (by simp;omega))))))
 have e2:=lE (N:=2) e
 rw[k_ #[15]]at e2
 refine⟨_,e2,⟨?_,?_,?_,hz.la,hz.lb,hz.ab,by rw[bv];omega,by have:=hz.lu;rw[bv]at this;omega⟩,⟨by simp,fun i hi h1 h2 h3=>?_⟩,by simp⟩
 ·rw[b7 (Ne.symm hz.la)];exact eM oL
 ·rw[eM oA,bK,a8];rfl
 ·rw[b7 hz.ab,b7 hz.lb];exact eM hsr
 ·rw[b7 (Ne.symm h2),b7 (Ne.symm h1),b7 (Ne.symm h3)]
theorem mW.app{x:List ar}(h:mW M L a b t k sd tk z):mW M L a b t k sd tk (z++x):=⟨cV h.ob,cV h.s,cV h.u,h.la,h.lb,h.ab,h.ls,h.lu⟩
theorem MQ(hM:mK M n)(hn:1<=n)(ht:t.size<=900)(z:List ar):∃z',ip [.loc z.length,M.w,bF t.po] (z++[.obj "Kept" []])=.ok .non z'/\mW M z.length (z.length+1) (z.length+2) t t.size [] [] z'/\z <+: z':=by
 have rm:=uz hM hn t ht
 have ln:=gD t.po
 rw[MT.po_len]at ln
 have sx:∀(c:ar) (y:List ar),(z++c::y)[z.length]?=some c:=fun c y=>by rw[d_];rfl
 have ss:∀(c d:ar) (y:List ar),(z++c::y).set z.length d=z++d::y:=fun c d y=>by rw[gj];rfl
 have e:qe ([.loc z.length,M.w,bF t.po].map some++List.replicate (3-3) none) (z++[.obj "Kept" []])=.nx [lO z.length,some M.w,some (bF t.po)] (z++[.obj "Kept" (kF M t t.size (z.length+1) (z.length+2)),.lst [],.lst []]):=by
  have F:∀{f:Str} {fe:FE} {ρ:cL} {fl:List (Str×W)} {y:List ar} {w:W} {y':List ar},ρ[0]?=some (lO z.length)->fl.length<900->fe ρ (z++.obj "Kept" fl::y)=.ok w (z++.obj "Kept" fl::y')->qJ "Kept" f (ah 0) fe ρ (z++.obj "Kept" fl::y)=.nx ρ (z++.obj "Kept" (yP f w fl)::y'):=fun h hl h1=>by
   rw[re h1 (im h) (sx _ _) hl,ss]
  refine cO (F rfl #[41] kv) (cO (F rfl #[41] kv) (cO (F rfl #[41] (cf (ak kv kn) (rm _) rfl)) (cO (F rfl #[41] (bR kn (ln _))) (cO (F (w:=.loc (z.length+1)) (y':=[.lst []]) rfl #[41] ?_) ?_))))
  ·rw[mz aM #[41],al];simp
  ·rw[F (w:=.loc (z.length+2)) (y':=[.lst [],.lst []]) rfl #[41] (by rw[mz aM #[41],al];simp)]
   rfl
 have e2:=lE (N:=3) e
 have oL:(z++[.obj "Kept" (kF M t t.size (z.length+1) (z.length+2)),.lst [],.lst []])[z.length]?=some (.obj "Kept" (kF M t t.size (z.length+1) (z.length+2))):=sx _ _
 rw[yp (L:=z.length) [] #[15] oL (by simp[kF,undWs,W.und]) (by rw[sx];intro e;injection e with e;injection e with _ e;simp[kF]at e)]at e2
 exact⟨_,e2,⟨oL,by rw[ia];rfl,by rw[ia];rfl,by omega,by omega,by omega,by simp,by simp⟩,a_ _ _⟩
theorem Dk(hz:mW M L a b t k sd tk z):gU [.loc L] z=.ok (gH (t.rT M)) z:=by
 apply eV
 apply bU
 ·exact dH kv hz.ob rfl
 ·walk_at "8"
theorem ES(hz:mW M L a b t k sd tk z):iq [.loc L] z=.ok (bF t.po) z:=by
 apply eV
 apply bU
 ·exact dH kv hz.ob rfl
 ·walk_at "8"
theorem ET(hM:mK M n)(hn:1<=n)(hz:mW M L a b t k sd tk z):iu [.loc L] z=.ok (.bl (M.gd.getD (t.tR M) false)) z:=by
 have g1:bB M.w (.int 1) z=.ok (.tup (M.gd.map W.bl)) z:=rfl
 have nl:=Bo (t.rT M) z
 rw[MT.rT_len]at nl
 have gi:=J' hM (t.tR_lt hM hn) z
 apply eV
 apply bU
 ·by_cases h:0<t.size
  ·have lx:bB (gH (t.rT M)) (.int (-1)) z=.ok (.int (t.tR M:Nat)) z:=by
    refine nJ (q:=-(((0:Nat):Int)+1)) (AI ?_)
    have:=MT.rT_top M t h
    rw[iI (by rw[aF,MT.rT_len];exact h),aF,MT.rT_len,aI,show t.size-1-0=t.size-1 from rfl,lG 0 (by rw[MT.rT_len];omega),this];rfl
   exact bq (bq #[32] bu g1) (t0 (aR (bq (bR (ak #[32] aM) nl) bu (jz (by simp;omega)))) (bq #[32] (vZ bu) lx)) gi
  ·have h0:t.tR M=0:=by
    cases t with
    |nil=>rfl
    |nd l r m=>rw[MT.size_nd]at h;omega
   rw[h0]at gi
   rw[h0]
   exact bq (bq #[32] bu g1) (t5 (aR (bq (bR (ak #[32] aM) nl) bu (jz (by simp;omega)))) bu) gi
 ·walk_at "8"
theorem MR(M:Mc)(t:MT):MH M t.po (t.lkT 0)=M.gd.getD (t.tR M) false:=by
 unfold MH Da
 rw[MT.rooms_po,MT.po_len]
 by_cases h:0<t.size
 ·rw[aJ h,MT.rT_top M t h]
 ·rw[aW h]
  cases t with
  |nil=>rfl
  |nd l r m=>rw[MT.size_nd]at h;omega
theorem UU(t:MT)(h:t.size<=1000):Sm (bF t.po):=fun st=>uu (k:=39) (by rw[aF,MT.po_len];exact h) fun w hw=>by
 obtain⟨p,_,rfl⟩:=dy.mp hw
 refine uu (k:=38) #[15] fun w hw=>?_
 simp only[aT,eh,lT]at hw
 rcases hw with rfl|rfl
 ·exact yi _ 37 _
 ·exact C9 _ 37 _
theorem vD(hM:mK M n)(hn:1<=n)(ht:t.size<=900)(hz:mW M L a b t k sd tk z)(q:Int):q_ [.loc L,M.w,bF t.po,.int q] z=.ok (.bl true) z:=by
 refine fC ?_ rfl
 refine gq (fun i ρ bt=>∃(o4 o5:Option W) (x:List ar),ρ=[lO L,some M.w,some (bF t.po),iO q,o4,o5]/\bt=z++x) (jA (ak bu aM) #[3])
  ⟨none,none,[],rfl,(bd _).symm⟩ #[59] ?_ ?_
 ·rintro i w ρ bt hw ⟨o4,o5,x,rfl,rfl⟩
  obtain⟨hi,rfl⟩:=kY hw
  obtain⟨j,hj,ej⟩:=gJ (q:=q+(0+(i:Int))) (n:=3) #[0]
  have ej:(q+(0+(i:Int)))%3=(j:Int):=ej
  refine⟨_,rfl,?_⟩
  apply az
  ·exact be (w:=.int (j:Nat)) (by rw[<- ej];exact bq (bq kv kv dX) bu (i6 #[3]))
  have hzx:=hz.app (x:=x)
  have no:∀(v:Nat) (gO:FT) (s:List ar),v≠j->yE (dO (e2 iK (ah 5) (eC (.int (v:Nat))))) gO [lO L,some M.w,some (bF t.po),iO q,some (.int (0+(i:Int))),iO (j:Nat)] s=.ok false s:=fun v gO s h=>mG (aR (bq kv bu (fg (by rw[bh];omega))))
  have rl:=MT.rT_len M t
  obtain rfl|rfl|rfl:j=0\/j=1\/j=2:=by omega
  ·obtain⟨y,ey,hy⟩:=F3 t.gr0 (by rw[MT.po_len];exact ht) hM hn (z++x)
   rw[MT.rooms_po]at hy
   apply bA
   ·exact ky (aR (bq kv bu (fg rfl))) (sk (aR (cf (ak (ic kv hzx.ob rfl aM rfl (Dk hzx)) (ak (bR (ak (cf (ak kv kn) ey rfl) aM) (n5 (bN (by rw[ia];exact hy)))) aM)) (Rp (t.rT M) #[0] _) rfl)) rfl)
   apply b6
   apply bA
   ·exact no 1 _ _ #[3]
   apply b6
   apply mT
   ·exact no 2 _ _ #[3]
   ·exact⟨_,_,rfl,_,_,x++y,rfl,(al _ _ _)⟩
  ·have le:=Kg t.gr0 (by rw[MT.po_len];exact ht) hM hn (z++x)
   rw[MR]at le
   apply bA
   ·exact no 0 _ _ #[3]
   apply b6
   apply bA
   ·exact ky (aR (bq kv bu (fg rfl))) (sk (aR (cf (ak (ic kv hzx.ob rfl aM rfl (ET hM hn hzx)) (ak (cf (ak kv kn) le rfl) aM)) (UP _ _) rfl)) rfl)
   apply b6
   apply mT
   ·exact no 2 _ _ #[3]
   ·exact⟨_,_,rfl,_,_,x,rfl,rfl⟩
  ·apply bA
   ·exact no 0 _ _ #[3]
   apply b6
   apply bA
   ·exact no 1 _ _ #[3]
   apply b6
   apply mT
   ·exact ky (aR (bq kv bu (fg rfl))) (sk (aR (cf (ak (ic kv hzx.ob rfl aM rfl (ES hzx)) kn) (UU t #[0] _) rfl)) rfl)
   ·exact⟨_,_,rfl,_,_,x,rfl,rfl⟩
 ·rintro ρ bt ⟨o4,o5,x,rfl,rfl⟩
  apply bU
  ·exact bu
  ·exact⟨_,_,rfl,rfl,x,rfl⟩
end
def Lh(sz:List Nat):Option Nat->Nat
 |none=>0
 |some j=>sz.getD j 0
section
variable{ps:List Pl}{sz:List Nat}{lk:List #[9]}
theorem Gr.szl(h:Gr ps S sz lk)(hi:i<ps.length):∃x,lk[i]?=some x/\J6 i x/\sz[i]?=some (1+Lh (sz.take i) x.1+Lh (sz.take i) x.2):=by
 obtain⟨S1,S2,p,k,x,g1,q1,q2,q3,hs,g2⟩:=h.step i hi
 obtain⟨lz,ll,ha⟩:=g1.ok
 rw[show(ps.take i).length=i by rw[aP];omega]at ha
 refine⟨x,q3,h.lk q3,?_⟩
 rw[q2]
 congr 1
 have g:∀{j a:Nat},(sz.take i)[j]?=some a->Lh (sz.take i) (some j)=a:=fun e=>by show List.getD _ _ _=_;rw[aG,e];rfl
 obtain⟨b,m⟩:=p
 cases hs with
 |z=>rfl
 |l=>rw[g ha.1];rfl
 |r=>rw[g ha.1];show _=1+0+_;omega
 |b=>
  have:=ha.2.2.2.1
  rw[g ha.1,show ∀c,i-1-c=i-c-1 by omega,g this];omega
theorem G'(h:Gr ps S sz lk)(hn:ps.length<=900){p:Nat}(hp:st[p]?=some (.lst (lk.map jS))):C2 [.loc p] st=.ok #[4] (st++[.lst (dg sz)]):=by
 obtain⟨l1,l2,_⟩:=h.ok
 have hh:kX (AJ fun w bt=>∃j x,w=.loc (st.length+j)/\bt=st++x/\j=0/\x=[.lst (dg sz)]) (Oa ([W.loc p].map some++List.replicate (5-1) none) st):=by
  apply az
  ·exact be (mz aM #[41])
  refine gq (fun i ρ bt=>∃(o2 o3 o4:Option W),ρ=[lO p,lO st.length,o2,o3,o4]/\bt=st++[.lst (dg (sz.take i))]) (wL kv (bN (cV hp))) ⟨none,none,none,rfl,rfl⟩ (fun i ρ bt hI=>?_) ?_ ?_
  ·obtain⟨o2,o3,o4,rfl,rfl⟩:=hI
   exact bN (cV hp)
  ·rintro i w ρ bt hw ⟨o2,o3,o4,rfl,rfl⟩
   have hw:(lk.map jS)[i]?=some w:=hw
   obtain⟨x0,hx0,rfl⟩:=by rw[aI]at hw;exact fM.mp hw
   have hil:i<lk.length:=(ax.mp hx0).1
   obtain⟨x,hx,lkx,hz⟩:=h.szl (show i<ps.length by omega)
   rw[hx0]at hx;cases hx
   have ht:(sz.take i).length=i:=by rw[aP];omega
   have get:∀k:Nat,k<i->bB #[4] (.int k) #[16]=.ok (.int ((sz.take i).getD k 0:Nat)) #[16]:=fun k hk=>zT [] (lG 0 #[0])
   have ap:=Kc (st:=st) (z:=sz.take i) (1+Lh (sz.take i) x0.1+Lh (sz.take i) x0.2) #[0]
   rw[<- W6 hz]at ap
   have isl:mQ #[16] #[4]=true:=dE c_
   refine⟨[lO p,lO st.length,some (oW x0.1),some (oW x0.2),o4],rfl,?_⟩
   apply az
   ·exact be bu
   have e1:fK (dO (hU (ah 2))) (bf 4 (e2 cN (ah 4) (e2 bB (ah 1) (ah 2)))) bW [lO p,lO st.length,some (oW x0.1),some (oW x0.2),iO 1] #[16]=.nx [lO p,lO st.length,some (oW x0.1),some (oW x0.2),iO (1+Lh (sz.take i) x0.1:Nat)] #[16]:=by
    obtain⟨a,b⟩:=x0
    cases a with
    |none=>exact bZ (aR (fB kv rfl)) rfl
    |some j=>rw[gn];exact cY (aR (fB kv rfl)) (be (bq kv (bq kv kv (get j (lkx.1 j rfl))) dX))
   apply az
   ·exact e1
   have e2:fK (dO (hU (ah 3))) (bf 4 (e2 cN (ah 4) (e2 bB (ah 1) (ah 3)))) bW [lO p,lO st.length,some (oW x0.1),some (oW x0.2),iO (1+Lh (sz.take i) x0.1:Nat)] #[16]=.nx [lO p,lO st.length,some (oW x0.1),some (oW x0.2),iO (1+Lh (sz.take i) x0.1+Lh (sz.take i) x0.2:Nat)] #[16]:=by
    obtain⟨a,b⟩:=x0
    cases b with
    |none=>exact bZ (aR (fB kv rfl)) rfl
    |some j=>rw[gn _ (Lh _ _)];exact cY (aR (fB kv rfl)) (be (bq kv (bq kv kv (get j (lkx.2 j rfl))) dX))
   apply az
   ·exact e2
   apply dG
   ·exact eJ (iZ kv isl kn ap)
   ·exact⟨_,_,rfl,_,_,_,rfl,rfl⟩
  ·rintro ρ bt ⟨o2,o3,o4,rfl,rfl⟩
   apply bU
   ·exact im rfl
   ·refine⟨_,_,rfl,0,_,rfl,rfl,rfl,?_⟩
    rw[show((lk.map jS,some (p,lk.map jS)):List W×Option (Nat×List W)).1.length=sz.length by show(lk.map jS).length=_;rw[aF];omega,bQ (aC _)]
 obtain⟨j,x,⟨rfl,rfl⟩,e⟩:=t8 hh
 exact e
end
theorem MT.sz_top:∀t:MT,0<t.size->t.szT[t.size-1]?=some t.size
 |.nil,h=>absurd h (by decide)
 |.nd l r m,_=>by
  rw[MT.size_nd]
  show(l.szT++r.szT++[_])[_]?=_
  rw[aY (by rw[aj,MT.sz_len,MT.sz_len];omega),aj,MT.sz_len,MT.sz_len,show l.size+r.size+1-1-(l.size+r.size)=0 by omega];rfl
section
theorem RB{C:List Fm}{l r:MT}{m:List Nat}:(0<l.size->#[1].szT[(pA C).length+l.size-1]?=some l.size)/\(0<r.size->#[1].szT[(pA C).length+l.size+r.size-1]?=some r.size):=by
 obtain⟨u,w,e,hu⟩:=wP C (.nd l r m)
 have e2:#[1].szT=u++(l.szT++(r.szT++([l.size+r.size+1]++w))):=by rw[e];show u++(l.szT++r.szT++[_])++w=_;simp only[al]
 rw[e2]
 refine⟨fun h=>?_,fun h=>?_⟩
 ·rw[aY #[0],aN (by rw[MT.sz_len];omega),hu,show(pA C).length+l.size-1-(pA C).length=l.size-1 by omega,MT.sz_top l h]
 ·rw[aY #[0],aY (by rw[MT.sz_len];omega),aN (by rw[MT.sz_len,MT.sz_len];omega),hu,MT.sz_len,show(pA C).length+l.size+r.size-1-(pA C).length-l.size=r.size-1 by omega,MT.sz_top r h]
theorem vE(C:List Fm)(l r:MT)(m:List Nat)(h:#[1].size<=900)(st:List ar):sD [bF #[1].po,.int (pq C l r:Nat)] st=.ok (.tup [.int ((pA C).length:Nat),.int ((pA C).length+l.size:Nat)]) st:=by
 have hg:=#[1].gr0
 have hl:=MT.po_len #[1]
 obtain⟨x,⟨A,rfl⟩,el⟩:=G0 hg #[0] st
 have c1:(st++[ar.lst A,.lst ((#[1].lkT 0).map jS)])[st.length+1]?=some (.lst ((#[1].lkT 0).map jS)):=by rw[ia];rfl
 have es:=G' hg #[0] c1
 generalize hs1:st++[ar.lst A,.lst ((#[1].lkT 0).map jS)]=s1 at *
 have hx:=wQ C l r m
 obtain⟨zl,zr⟩:=RB (C:=C) (l:=l) (r:=r) (m:=m)
 have lx:∀(s:List ar),s[st.length+1]?=some (.lst ((#[1].lkT 0).map jS))->bB #[36] (.int (pq C l r:Nat)) s=.ok (jS (l.tp (pA C).length,r.tp #[60])) s:=fun s hs=>kz (bN hs) (gA (by rw[aI];unfold pq;rw[hx];rfl))
 have c2:(s1++[.lst (dg #[1].szT)])[st.length+1]?=some (.lst ((#[1].lkT 0).map jS)):=cV c1
 have lx2:=lx _ c2
 have sx:∀{j a:Nat},#[1].szT[j]?=some a->bB (.loc s1.length) (.int j) (s1++[.lst (dg #[1].szT)])=.ok (.int a) (s1++[.lst (dg #[1].szT)]):=fun e=>zT [] e
 have x0:bB (jS (l.tp (pA C).length,r.tp #[60])) (.int 0) (s1++[.lst (dg #[1].szT)])=.ok (oW (l.tp (pA C).length)) (s1++[.lst (dg #[1].szT)]):=rfl
 have x1:bB (jS (l.tp (pA C).length,r.tp #[60])) (.int 1) (s1++[.lst (dg #[1].szT)])=.ok (oW (r.tp #[60])) (s1++[.lst (dg #[1].szT)]):=rfl
 generalize vJ:s1++[ar.lst (dg #[1].szT)]=s2 at *
 generalize hT:bF #[1].po=T at *
 have tpn:∀(t:MT) (o:Nat),(t.size=0/\t.tp o=none)\/(0<t.size/\t.tp o=some (o+t.size-1)):=fun t o=>by
  cases t with
  |nil=>exact .inl ⟨rfl,rfl⟩
  |nd a b c=>exact .inr ⟨by rw[MT.size_nd];omega,MT.tp_nd a b c o⟩
 have e4:fK (dO (hU (e2 bB (e2 bB (ah 2) (ah 1)) (eI 1)))) (bf 4 (e2 g9 (ah 1) (e2 bB (ah 3) (e2 bB (e2 bB (ah 2) (ah 1)) (eI 1))))) bW [some T,iO (pq C l r:Nat),lO (st.length+1),lO s1.length,iO (pq C l r:Nat),none] s2=.nx [some T,iO (pq C l r:Nat),lO (st.length+1),lO s1.length,iO ((pA C).length+l.size:Nat),none] s2:=by
  rcases tpn r #[60]with⟨h0,e⟩|⟨h0,e⟩
  ·rw[e]at x1 lx2
   rw[show pq C l r=(pA C).length+l.size by unfold pq;omega]at lx2 ⊢
   exact bZ (aR (fB (bq (bq kv kv lx2) bu x1) rfl)) rfl
  ·rw[e]at x1 lx2
   have:((pA C).length+l.size:Nat)=((pq C l r:Nat):Int)-(r.size:Nat):=by unfold pq;omega
   rw[this]
   exact cY (aR (fB (bq (bq kv kv lx2) bu x1) rfl)) (be (bq kv (bq kv (bq (bq kv kv lx2) bu x1) (sx (zr h0))) rfl))
 have e5:fK (dO (hU (e2 bB (e2 bB (ah 2) (ah 1)) (eI 0)))) (bf 5 (e2 g9 (ah 4) (e2 bB (ah 3) (e2 bB (e2 bB (ah 2) (ah 1)) (eI 0))))) bW [some T,iO (pq C l r:Nat),lO (st.length+1),lO s1.length,iO ((pA C).length+l.size:Nat),iO ((pA C).length+l.size:Nat)] s2=.nx [some T,iO (pq C l r:Nat),lO (st.length+1),lO s1.length,iO ((pA C).length+l.size:Nat),iO ((pA C).length:Nat)] s2:=by
  rcases tpn l (pA C).length with⟨h0,e⟩|⟨h0,e⟩
  ·rw[e]at x0 lx2
   rw[show(pA C).length+l.size=(pA C).length by omega]at lx2 x0 ⊢
   exact bZ (aR (fB (bq (bq kv kv lx2) bu x0) rfl)) rfl
  ·rw[e]at x0 lx2
   have:((pA C).length:Nat)=(((pA C).length+l.size:Nat):Int)-(l.size:Nat):=by omega
   refine(cY (aR (fB (bq (bq kv kv lx2) bu x0) rfl)) (be (bq kv (bq kv (bq (bq kv kv lx2) bu x0) (sx (zl h0))) rfl))).trans ?_
   rw[this];rfl
 refine fC ?_ rfl
 apply az
 ·exact be (cf kn el rfl)
 apply az
 ·exact be (cf kn es rfl)
 apply az
 ·exact be kv
 apply az
 ·exact e4
 apply az
 ·exact be kv
 apply az
 ·exact e5
 apply bU
 ·exact c5 (ak kv kn) #[41]
 ·exact⟨_,_,rfl,rfl,_,by rw[<- vJ,<- hs1,al]⟩
theorem UV(a:List Pl)(st:List ar):GO [.bl (decide ((0:Int)<(a.length:Int)))] st=.ok (.int (rW a:Nat)) st:=by
 by_cases h:0<a.length
 ·rw[bg #[0]];unfold rW;rw[aJ h];rfl
 ·rw[a7 #[0]];unfold rW;rw[aW h];rfl
theorem wa(C:List Fm)(l r x:MT)(m:List Nat)(s:Bool)(h:#[1].size<=900)(hx:x.size<=900)(st:List ar):yd [bF #[1].po,.int (pq C l r:Nat),mf s,bF x.po] st=.ok (bF (ba C #[12]).po) st:=by
 have z1:=fP C (.nd l r m) (by rw[MT.size_nd];omega)
 rw[MT.size_nd]at z1
 have hl:=MT.po_len #[1]
 have hxl:=MT.po_len x
 have b:=vE C l r m h st
 have c1:=EH (a:=#[1].po) (i:=(pA C).length) (j:=(pA C).length+l.size) #[0] #[0] st
 have c2:=EH (a:=#[1].po) (i:=(pA C).length+l.size) (j:=pq C l r) (by unfold pq;omega) (by unfold pq;omega) st
 have d1:(#[1].po.drop (pA C).length).take ((pA C).length+l.size-(pA C).length)=l.po:=by
  rw[dD,show#[70].po=l.po++(r.po++[⟨l.one+2*r.one,m⟩])from al _ _ _]
  exact wR (q:=0) rfl (by rw[MT.po_len];omega)
 have d2:(#[1].po.drop #[60]).take (pq C l r-#[60])=r.po:=by
  rw[dD,show pA C++#[70].po++pB C=(pA C++l.po)++(r.po++[⟨l.one+2*r.one,m⟩])++pB C by show pA C++(l.po++r.po++_)++_=_;simp only[al]]
  exact wR (q:=0) (by rw[aj,MT.po_len]) (by rw[MT.po_len];unfold pq;omega)
 rw[d1]at c1
 rw[d2]at c2
 have w1:#[1].po.take (pA C).length=pA C:=by rw[dD,al,gZ]
 have w2:#[1].po.drop (pq C l r+1)=pB C:=by
  rw[dD]
  exact iA (by rw[aj,MT.po_len,MT.size_nd];unfold pq;omega)
 have s1:=yj (a:=#[1].po) (q:=(pA C).length) #[0] st
 have s2:=yk (a:=#[1].po) (q:=pq C l r+1) (by unfold pq;omega) st
 rw[w1]at s1
 rw[w2]at s2
 have s2:yG (bF #[1].po) (some ((pq C l r:Int)+1)) none st=.ok (bF (pB C)) st:=s2
 have hB:(pB C).length<=900:=by rw[<- w2,cF];omega
 have hA:(pA C).length<=900:=by omega
 have eS:iK (mf s) #[53] st=.ok (.bl s) st:=by cases s<;>exact c6 rfl
 have e7:fK (dO (e2 iK (ah 2) (eC #[53]))) (bf 6 (ah 3)) (bf 7 (ah 3)) [some (bF #[1].po),iO (pq C l r:Nat),some (mf s),some (bF x.po),iO ((pA C).length:Nat),iO ((pA C).length+l.size:Nat),some (bF l.po),some (bF r.po),none] st=.nx [some (bF #[1].po),iO (pq C l r:Nat),some (mf s),some (bF x.po),iO ((pA C).length:Nat),iO ((pA C).length+l.size:Nat),some (bF (MT.po (if s then x else l))),some (bF (MT.po (if s then r else x))),none] st:=by
  cases s
  ·exact bZ (aR (bq kv bu eS)) (be kv)
  ·exact cY (aR (bq kv bu eS)) (be kv)
 have hl2:(MT.po (if s then x else l)).length<=900:=by cases s<;>simp only[gy,fv,gu,MT.po_len]<;>omega
 have hr2:(MT.po (if s then r else x)).length<=900:=by cases s<;>simp only[gy,fv,gu,MT.po_len]<;>omega
 generalize (if s then x else l)=l' at *
 generalize (if s then r else x)=r' at *
 have t1:=UV l'.po st
 have t2:=UV r'.po st
 rw[MT.one_bit]at t1 t2
 refine fC ?_ (by simp only[undWs,md,dM])
 apply az
 ·exact v_ (cf (ak kv kn) b rfl) rfl
 apply az
 ·exact be (oG kv (oF kv) (oF kv) c1)
 apply az
 ·exact be (oG kv (oF kv) (oF kv) c2)
 apply az
 ·exact e7
 apply az
 ·refine be (w:=.tup [.int (l'.one+2*r'.one:Nat),.str m]) (c5 (ak ?_ (ak (bq (bq kv kv (uo (pH C l r m) st)) bu (EC _ st)) aM)) #[41])
  rw[show((l'.one+2*r'.one:Nat):Int)=(l'.one:Int)+2*(r'.one:Int) by omega]
  exact bq (bR (ak (bq (bR kn (gD l'.po st)) bu (jz rfl)) aM) t1) (bq bu (bR (ak (bq (bR kn (gD r'.po st)) bu (jz rfl)) aM) t2) (qK (.inl #[3]))) dX
 apply bU
 ·refine bq (bq (bq (bq (oG kv vb (oF kv) s1) kv (kB _ _ ?_ st)) kv (kB _ _ ?_ st)) (c5 kn #[41]) (kB _ [⟨l'.one+2*r'.one,m⟩] ?_ st)) (oG kv (oF (bq kv bu dX)) vb s2) (kB _ _ ?_ st)
  ·rw[aj];omega
  ·rw[aj,aj];omega
  ·rw[aj,aj,aj,bj];omega
  ·rw[aj,aj,aj,aj,bj];omega
 ·refine⟨_,_,rfl,?_,[],by simp⟩
  rw[dD]
  show _=bF (pA C++(l'.po++r'.po++[⟨l'.one+2*r'.one,m⟩])++pB C)
  simp only[al]
end
theorem EU(h:l.Pairwise (· < ·)):hW l=l:=Az (ku l) h fun _=>jZ
def Bq(t:MT):Prop:=∀p∈t.po,rZ p.m
theorem Bq.plg{C:List Fm}{l r l' r':MT}{m':List Nat}(h:Bq #[1])(hl:Bq l')(hr:Bq r')(hm:rZ m'):Bq (ba C (.nd l' r' m')):=fun p hp=>by
 rw[dD]at hp
 rcases aV.mp hp with hp|hp
 ·rcases aV.mp hp with hp|hp
  ·exact h p (by rw[dD];exact bJ _ (bJ _ hp))
  ·rcases aV.mp hp with hp|hp
   ·rcases aV.mp hp with hp|hp
    ·exact hl p hp
    ·exact hr p hp
   ·rw[aZ.mp hp];exact hm
 ·exact h p (by rw[dD];exact aS _ hp)
theorem Bq.at{C:List Fm}{l r:MT}(h:Bq #[1]):Bq l/\Bq r/\rZ m:=
  ⟨fun p hp=>h p (by rw[dD];exact bJ _ (aS _ (bJ _ (bJ _ hp)))),
   fun p hp=>h p (by rw[dD];exact bJ _ (aS _ (bJ _ (aS _ hp)))),
   h ⟨_,m⟩ (by rw[dD];exact bJ _ (aS _ (aS _ (aZ.mpr rfl))))⟩
theorem rZ.ln(h:rZ m):m.length<=52:=nZ (h.1.imp fun h=>a9 h) h.2
theorem rZ.take(h:rZ m)(c:Nat):rZ #[54]:=⟨h.1.sublist List.filter_sublist,fun d hd=>h.2 d (jH.mp hd).1⟩
theorem rZ.put(h:rZ m){c:Nat}(hc:c∈LL):rZ (hW (m++[c])):=⟨ku _,fun d hd=>by
 rcases aV.mp (jZ.mp hd)with hd|hd
 ·exact h.2 d hd
 ·rw[aZ.mp hd];exact hc⟩
theorem rZ.srt_take(h:rZ m)(c:Nat):ED #[54]=m.filter fun d=>d != c:=by
 rw[vB ((h.take c).1.imp fun h=>a9 h),EU (h.take c).1]
theorem rZ.srt_put(h:rZ m)(c:Nat):ED (#[54]++[c])=hW (m++[c]):=by
 rw[vB]
 ·refine Az (ku _) (ku _) fun d=>?_
  rw[jZ,jZ,aV,aV,jH,aZ,bne_iff_ne]
  by_cases e:d=c
  ·simp[e]
  ·simp[e]
 ·refine nS.mpr ⟨(h.take c).1.imp fun h=>a9 h,by simp,fun d hd e he=>?_⟩
  rw[aZ.mp he]
  exact bne_iff_ne.mp (jH.mp hd).2
theorem UW{p q:List Nat}{k:Bool}(h:(!(p==q))=k):Ni (.str p) (.str q) st=.ok (.bl k) st:=by rw[<- h];rfl
theorem MS{fe:FE}(T:Nat->Bool)(h:fe ρ st=.ok (.str l) st1)(hl:l.length<=10000)(h0:0<cap.length)
  (ht:∀c∈l,t ((u8 cap ρ).set 0 (some (.str [c]))) st1=.ok (T c) st1) :
  kN cap (hV fe) (jy 0) t (ah 0) ρ st=.ok (.loc st1.length) (st1++[.lst (((l.filter T).map fun c=>[c]).map W.str)]):=by
 have cg:=Eo (cap:=cap) (ρ:=ρ) (st:=st) (st1:=st1) (f:=jy 0) (t:=t) (el:=ah 0) (fun w=>match w with|.str [c]=>T c|_=>false) id (Bh h) (by rw[vA];show _<=1000000;omega) trivial fun w hw=>by
  obtain⟨c,hc,rfl⟩:=dy.mp hw
  exact⟨_,rfl,ht c hc,fun _=>im (by rw[cq (by simp[u8];exact h0)];rfl)⟩
 have e:((jq l).filter (fun w=>match w with|.str [c]=>T c|_=>false)).map id=((l.filter T).map fun c=>[c]).map W.str:=by
  rw[j_]
  unfold jq
  rw[List.filter_map,cw];rfl
 rwa[e]at cg
inductive Pn where
 |back|again
 |wh (x:MT)
 |mk (b:Bool) (q c:Nat)
 |br (q:Nat) (s:Bool) (x:MT)
def Li(b:Bool):W:=.str (if b then[112,117,116]else[116,97,107,101])
def Pn.w:Pn->W
 |back=>.tup [.str [98,97,99,107]]
 |again=>.tup [.str [97,103,97,105,110]]
 |wh x=>.tup [.str [119,104,111,108,101],bF x.po]
 |mk b q c=>.tup [Li b,.int (q:Nat),.str [c]]
 |br q s x=>.tup [.str [98,114,97,110,99,104],.int (q:Nat),mf s,bF x.po]
def Pn.ok(n:Nat):Pn->Prop
 |back=>True
 |again=>True
 |wh x=>x.size<=10/\Bq x
 |mk _ q c=>q<n/\c∈LL
 |br q _ x=>q<n/\x.size<=10/\Bq x
theorem EV(T:W)(x:MT)(st:List ar):q9 [T,(Pn.wh x).w] st=.ok (bF x.po) st:=by
 apply eV
 apply ec
 ·exact aR #[73]
 apply dZ
 ·exact bq kv bu ox
 ·walk_at "8"
theorem EW(C:List Fm)(l r x:MT)(m:List Nat)(s:Bool)(h:#[1].size<=900)(hx:x.size<=900)(st:List ar):q9 [bF #[1].po,(Pn.br (pq C l r) s x).w] st=.ok (bF (ba C #[12]).po) st:=by
 apply eV
 apply bA
 ·exact aR #[73]
 apply b6
 apply ec
 ·exact aR #[73]
 apply dZ
 ·exact cf (ak kv (ak kx (ak kx (ak kx aM)))) (wa C l r x m s h hx st) rfl
 ·walk_at "8"
def nm'(b:Bool)(m:List Nat)(c:Nat):List Nat:=if b then hW (m++[c])else m.filter fun d=>d != c
theorem EX(C:List Fm)(l r:MT)(m:List Nat)(b:Bool)(c:Nat)(h:#[1].size<=900)(hm:rZ m)(st:List ar):q9 [bF #[1].po,(Pn.mk b (pq C l r) c).w] st=.ok (bF (ba C (.nd l r (nm' b m c))).po) st:=by
 have Xf:=hm.ln
 have z1:=fP C (.nd l r m) (by rw[MT.size_nd];omega)
 rw[MT.size_nd]at z1
 have hl:=MT.po_len #[1]
 have w1:#[1].po.take (pq C l r)=pA C++(l.po++r.po):=by
  rw[dD,show pA C++#[70].po++pB C=(pA C++(l.po++r.po))++(⟨l.one+2*r.one,m⟩::pB C) by show pA C++(l.po++r.po++[_])++pB C=_;simp only[al];rfl]
  exact mx (by rw[aj,aj,MT.po_len,MT.po_len];unfold pq;omega)
 have w2:#[1].po.drop (pq C l r+1)=pB C:=by
  rw[dD]
  exact iA (by rw[aj,MT.po_len,MT.size_nd];unfold pq;omega)
 have w3:∀m',(ba C (.nd l r m')).po=(pA C++(l.po++r.po))++[⟨l.one+2*r.one,m'⟩]++pB C:=fun m'=>by
  rw[dD];show pA C++(l.po++r.po++[_])++pB C=_;simp only[al]
 have hs:=iy List.length (w3 m)
 rw[aj,aj,bj]at hs
 have s1:∀st,yG (bF #[1].po) none (some (pq C l r:Int)) st=.ok (bF (pA C++(l.po++r.po))) st:=fun st=>by
  have:=yj (a:=#[1].po) (q:=pq C l r) (by unfold pq;omega) st
  rwa[w1]at this
 have s2:∀st,yG (bF #[1].po) (some ((pq C l r:Int)+1)) none st=.ok (bF (pB C)) st:=fun st=>by
  have:=yk (a:=#[1].po) (q:=pq C l r+1) (by unfold pq;omega) st
  rwa[w2]at this
 have pk:=MS (fe:=ah 3) (t:=dO (e2 Ni (ah 0) #[47])) (cap:=[none,some 1]) (ρ:=[some (bF #[1].po),some (Pn.mk b (pq C l r) c).w,iO (l.one+2*r.one:Nat),some (.str m)]) (st:=st) (st1:=st) (l:=m) (fun d=>d != c) kv #[0] #[3] fun d _=>aR (bq kv kx (UW (by simp[bne])))
 have c1:(st++[ar.lst ((#[54].map fun c=>[c]).map W.str)])[st.length]?=some (.lst ((#[54].map fun c=>[c]).map W.str)):=c_
 have hfl:=kT (fun d=>d != c) m
 have ap:=mV (y:=.str [c]) c1 (by rw[aF,aF];omega)
 have lg:∀(l2:List Nat) (s:List ar) (x:List ar),s=st++x->ED l2=nm' b m c->l2.length<64->s[st.length]?=some (.lst ((l2.map fun c=>[c]).map W.str)) ->
   kX (AJ fun w' bt=>w'=bF (ba C (.nd l r (nm' b m c))).po/\∃x,bt=st++x) (cM #[80] [some (bF #[1].po),some (Pn.mk b (pq C l r) c).w,iO (l.one+2*r.one:Nat),lO st.length] s):=fun l2 s x vJ hsr hl2 hc=>by
  have sj:=FX (fe:=ah 3) (ρ:=[some (bF #[1].po),some (Pn.mk b (pq C l r) c).w,iO (l.one+2*r.one:Nat),lO st.length]) (st:=s) kv (bN hc) hl2
  rw[hsr]at sj
  apply bU
  ·exact bq (bq (oG kv vb (oF kx) (s1 _)) (c5 (ak (c5 (ak kv (ak sj aM)) #[41]) aM) #[41]) (kB _ [⟨l.one+2*r.one,nm' b m c⟩] (by rw[aj,bj];omega) _)) (oG kv (oF (bq kx bu dX)) vb (s2 _)) (kB _ _ (by rw[aj,aj,bj];omega) _)
  ·exact⟨_,_,rfl,by rw[w3],_,by rw[vJ,al]⟩
 refine fC ?_ (by simp only[undWs,md,dM])
 apply bA
 ·exact aR (bq kx bu (c6 (by cases b<;>rfl)))
 apply b6
 apply bA
 ·exact aR (bq kx bu (c6 (by cases b<;>rfl)))
 apply b6
 apply az
 ·exact v_ (bq kv kx (uo (pH C l r m) st)) rfl
 apply az
 ·exact v_ pk rfl
 cases b with
 |true=>
  apply ec
  ·exact aR #[73]
  apply az
  ·exact eJ (iZ kv (dE c1) (ak kx aM) ap)
  ·rw[gj]
   refine lg (#[54]++[c]) _ _ rfl (hm.srt_put c) (by rw[aj,bj];omega) ?_
   rw[d_,a8,a8];rfl
 |false=>
  apply bA
  ·exact aR #[73]
  apply b6
  exact lg #[54] _ _ rfl (hm.srt_take c) #[0] c1
theorem Om{ps:List Pl}{sz:List Nat}{lk:List #[9]}(hp:pool.Nodup)(hL:∀d∈pool,d∈LL)(h:Gr ps S sz lk)(h1:S.length<=1)(hm:∀p∈ps,G6 pool p.m):∃t:MT,ps=t.po/\Bq t:=by
 obtain⟨t,rfl⟩:=h.mt h1
 exact⟨t,rfl,fun p Lo=>⟨(hm p Lo).2.2 hp,fun d hd=>hL d ((hm p Lo).2.1 d hd)⟩⟩
theorem MU(h:l.length<64):lW [.str l] st=.ok #[4] (st++[.lst ((j4 #[49]).map W.str)]):=by
 unfold lW;simp only;rw[aJ h]
theorem MV{s1:List ar}(h:fe ρ st=.ok (.str l) s1)(hl:l.length<64) :
  Lf pZ (eC (.str [])) (af (bw lW (af fe aA)) aA) ρ st=.ok (.str (ED l)) (s1++[.lst ((j4 #[49]).map W.str)]):=by
 have hcell2:lstOf (s1++[ar.lst ((j4 #[49]).map W.str)]) s1.length=some ((j4 #[49]).map W.str):=bN c_
 have hj:=En (sep:=[]) hcell2 (by rw[yh (h_ _),ut];show _<=1000000;simp;omega)
 exact Mx bu rfl (ak (bR (ak h aM) (MU hl)) aM) hj
theorem Kv{a b:Nat}(h:a<1000000):iY (.int (a:Nat)) (.int (b:Nat)) st=.ok (.int ((a*b:Nat):Int)) st:=by
 rw[qK (.inl ⟨by omega,by omega⟩),jL]
theorem Kw(h0:st[n]?=some (.ro #[33])):∃(M:Mc) (r:Nat) (t:MT) (pool:List Nat),mK M r/\1<=r/\t.size<=80/\Bq t/\pool.length=4/\(∀d∈pool,d∈LL)/\pool.Nodup/\C3 [.loc n] st=.ok (.tup [M.w,bF t.po,.str pool]) st:=by
 suffices hh:kX (AJ fun w bt=>(∃x,bt=st++x)/\undWs st.length [w]=true/\∃(M:Mc) (r:Nat) (t:MT) (pool:List Nat),w=.tup [M.w,bF t.po,.str pool]/\mK M r/\1<=r/\t.size<=80/\Bq t/\pool.length=4/\(∀d∈pool,d∈LL)/\pool.Nodup) (Ob ([W.loc n].map some++List.replicate (8-1) none) st) by
  obtain⟨w,⟨M,r,t,pool,rfl,h1,h2,h3,h4,h5,h6,h7⟩,e⟩:=t7 hh
  exact⟨M,r,t,pool,h1,h2,h3,h4,h5,h6,h7,e⟩
 obtain⟨c0,e0⟩:=rS h0 0
 obtain⟨ds,WM,hdp,e1⟩:=oK c0 100003 4 #[0] st
 have e1:kO [.int c0,.int 4,.int 100003] st=_:=e1
 have hsh:(st++[ar.lst #[50]])[st.length]?=some (.lst (zN ds)):=c_
 have ish:∀(i:Nat),i<4->∃d:Int,∀x:List ar,bB #[4] (.int (i:Nat)) (st++[ar.lst #[50]]++x)=.ok (.int d) (st++[ar.lst #[50]]++x):=fun i hi=>by
  obtain⟨d,hd⟩:∃d,ds[i]?=some d:=⟨_,ao #[0]⟩
  exact⟨d,fun x=>ur (cV hsh) hd⟩
 obtain⟨d0,i0⟩:=ish 0 #[0]
 obtain⟨d1,i1⟩:=ish 1 #[0]
 obtain⟨d2,i2⟩:=ish 2 #[0]
 obtain⟨d3,i3⟩:=ish 3 #[0]
 have h1:∀x:List ar,(st++[ar.lst #[50]]++x)[n]?=some (.ro #[33]):=fun x=>cV (cV h0)
 generalize hs1:st++[ar.lst #[50]]=s1 at *
 have j0:bB #[4] (.int 0) s1=.ok (.int d0) s1:=by have:=i0 [];rwa[bd]at this
 have j1:bB #[4] (.int 1) s1=.ok (.int d1) s1:=by have:=i1 [];rwa[bd]at this
 have g1:s1[n]?=some (.ro #[33]):=by have:=h1 [];rwa[bd]at this
 obtain⟨c1,e2'⟩:=rS g1 1
 obtain⟨pool,m7,Lj,Aa,ep⟩:=MC c1 200017 4 #[0] s1
 have ep:zK [.int c1,.int 4,.int 200017] s1=_:=ep
 obtain⟨a,ha,ea⟩:=gJ (q:=d0) (n:=4) #[0]
 have ea:d0%4=(a:Int):=ea
 obtain⟨b,hb,eb⟩:=gJ (q:=d1) (n:=3) #[0]
 have eb:d1%3=(b:Int):=eb
 apply az
 ·exact be (cf (ak (cf (ak kv (ak bu aM)) e0 rfl) (ak bu (ak bu aM))) e1 rfl)
 apply az
 ·exact be (cf (ak (cf (ak kv (ak bu aM)) e2' rfl) (ak bu (ak bu aM))) ep rfl)
 apply az
 ·exact be (bq bu (bq (bq kv bu j0) bu (i6 #[3])) dX)
 rw[show(1:Int)+d0%4=((1+a:Nat):Int) by rw[ea,gn];rfl]
 have hpt:(pool.take b).length<=2:=by rw[aP];omega
 have esl:sQ (ah 2) ik (fz (e2 ij #[57] (eI 3))) [lO n,lO st.length,some (.str pool),iO (1+a:Nat),none,none,none,none] s1=.ok (.str (pool.take b)) s1:=by
  have c:ko pool none (some (b:Int))=pool.take b:=pd #[0]
  rw[<- c,<- eb]
  exact oG kv vb (oF (bq (bq kv bu j1) bu (i6 #[3]))) (IT (by show _<=1000000;omega))
 apply az
 ·exact be (MV esl #[0])
 generalize hN:ED (pool.take b)=nm
 have hnl:nm.length<=2:=by rw[<- hN,FW];exact hpt
 generalize vJ:s1++[ar.lst ((j4 ((pool.take b).map fun c=>[c])).map W.str)]=s2
 have i2':∀x,bB #[4] (.int 2) (s2++x)=.ok (.int d2) (s2++x):=fun x=>by rw[<- vJ,al];exact i2 _
 have i3':∀x,bB #[4] (.int 3) (s2++x)=.ok (.int d3) (s2++x):=fun x=>by rw[<- vJ,al];exact i3 _
 have g2:s2[n]?=some (.ro #[33]):=by rw[<- vJ];exact cV g1
 obtain⟨nm2,Vc,e4⟩:∃nm2:List Nat,((1+a)*(1+a)*2^nm2.length+(1+a)<=68/\nm2.length<=2)/\fK (dO (e2 iK (ah 3) (eI 4))) (bf 4 (sQ (ah 4) ik (fz (eI 1)))) bW [lO n,lO st.length,some (.str pool),iO (1+a:Nat),some (.str nm),none,none,none] s2=.nx [lO n,lO st.length,some (.str pool),iO (1+a:Nat),some (.str nm2),none,none,none] s2:=by
  by_cases h:a=3
  ·subst h
   refine⟨ko nm none (some 1),?_,cY (aR (bq kv bu (fg rfl))) (be (oG kv vb (oF bu) (IT (by show _<=1000000;omega))))⟩
   have hc:(ko nm none (some 1)).length<=1:=by
    by_cases h1:1<=nm.length
    ·rw[show ko nm none (some 1)=nm.take 1 from pd (q:=1) h1,aP];omega
    ·match nm,h1 with
     |[],_=>exact cE 1
     |_::_,h=>simp at h
   have h1:(ko nm none (some 1)).length=0\/(ko nm none (some 1)).length=1:=by omega
   rcases h1 with e|e<;>rw[e]<;>decide
  ·refine⟨nm,?_,bZ (aR (bq kv bu (fg (by rw[bh];omega)))) rfl⟩
   have h1:nm.length=0\/nm.length=1\/nm.length=2:=by omega
   have h2:a=0\/a=1\/a=2:=by omega
   rcases h1 with e|e|e<;>rw[e]<;>rcases h2 with rfl|rfl|rfl<;>decide
 apply az
 ·exact e4
 have sh:Cd (.int 1) (.int nm2.length) s2=.ok (.int (2^nm2.length:Nat)) s2:=HZ #[0]
 have x2:(1+a)*(1+a)<=4*4:=Nat.mul_le_mul #[0] #[0]
 have eE:e2 cN (ah 3) (e2 iY (e2 iY (ah 3) (ah 3)) (e2 Cd (eI 1) (bw dm (af (ah 4) aA)))) [lO n,lO st.length,some (.str pool),iO (1+a:Nat),some (.str nm2),none,none,none] s2=.ok (.int (((1+a)+(1+a)*(1+a)*2^nm2.length:Nat):Int)) s2:=by
  rw[show(((1+a)+(1+a)*(1+a)*2^nm2.length:Nat):Int)=((1+a:Nat):Int)+(((1+a)*(1+a)*2^nm2.length:Nat):Int) by omega]
  exact bq kv (bq (bq kv kv (Kv #[0])) (bq bu (bR kn (AG (by show _<=1000000;omega))) sh) (Kv #[0])) dX
 apply az
 ·exact be eE
 generalize hE:(1+a)+(1+a)*(1+a)*2^nm2.length=E
 obtain⟨c2,e5⟩:=rS g2 2
 obtain⟨ds2,hdl2,_,e6⟩:=oK c2 300007 E #[0] s2
 have hd2:(s2++[ar.lst (ds2.map W.int)])[s2.length]?=some (.lst (zN ds2)):=c_
 obtain⟨M,hMn,hM,e7⟩:=EK nm2 (1+a) (1+a) s2.length ds2 _ #[0] #[0] #[0] #[0] (aC _) hd2 (by rw[hdl2,<- hE,Nat.mul_comm (2^_)];omega)
 have e5:nK [.loc n,.int 2] s2=_:=e5
 have e6:kO [.int c2,.int E,.int 300007] s2=_:=e6
 apply az
 ·exact be (cf (ak kv (ak kv (ak kv (ak (cf (ak (cf (ak kv (ak bu aM)) e5 rfl) (ak kv (ak bu aM))) e6 rfl) aM)))) e7 rfl)
 generalize hs3:s2++[ar.lst (ds2.map W.int)]=s3
 have i2'':bB #[4] (.int 2) s3=.ok (.int d2) s3:=by rw[<- hs3];exact i2' _
 have i3'':bB #[4] (.int 3) s3=.ok (.int d3) s3:=by rw[<- hs3];exact i3' _
 have g3:s3[n]?=some (.ro #[33]):=by rw[<- hs3];exact cV g2
 obtain⟨q,hq,eq⟩:=gJ (q:=d2) (n:=8) #[0]
 have eq:d2%8=(q:Int):=eq
 apply az
 ·exact be (bq (bq kv bu i2'') bu (i6 #[3]))
 rw[eq]
 obtain⟨hi,hh,e8⟩:∃hi:Nat,hi<=40/\fK (dO (e2 iK (e2 ij (e2 bB (ah 1) (eI 3)) (eI 4)) (eI 1))) (bf 7 (e2 ij #[47] (eI 41))) bW [lO n,lO st.length,some (.str pool),iO (1+a:Nat),some (.str nm2),iO E,some M.w,iO q] s3=.nx [lO n,lO st.length,some (.str pool),iO (1+a:Nat),some (.str nm2),iO E,some M.w,iO hi] s3:=by
  by_cases h:d3%4=1
  ·obtain⟨q2,hq2,eq2⟩:=gJ (q:=d2) (n:=41) #[0]
   have eq2:d2%41=(q2:Int):=eq2
   refine⟨q2,by omega,?_⟩
   rw[<- eq2]
   exact cY (aR (bq (bq (bq kv bu i3'') bu (i6 #[3])) bu (fg (by rw[dv];exact h)))) (be (bq (bq kv bu i2'') bu (i6 #[3])))
  ·exact⟨q,by omega,bZ (aR (bq (bq (bq kv bu i3'') bu (i6 #[3])) bu (fg (by rw[bh];exact h)))) rfl⟩
 apply az
 ·exact e8
 obtain⟨c3,e9⟩:=rS g3 3
 obtain⟨ds3,hdl3,_,e10⟩:=oK c3 400009 hi #[0] s3
 have hd3:(s3++[ar.lst (ds3.map W.int)])[s3.length]?=some (.lst (zN ds3)):=c_
 obtain⟨ps,S,sz,lk,hg,hS,hpsl,hpm,e11⟩:=F0 (pool:=pool) hd3 #[0] #[0]
 obtain⟨t,rfl,ht⟩:=Om Lj Aa hg hS hpm
 have e9:nK [.loc n,.int 3] s3=_:=e9
 have e10:kO [.int c3,.int hi,.int 400009] s3=_:=e10
 rw[MT.po_len]at hpsl
 apply bU
 ·exact c5 (ak kv (ak (cf (ak (cf (ak (cf (ak kv (ak bu aM)) e9 rfl) (ak kv (ak bu aM))) e10 rfl) kn) e11 rfl) kn)) #[41]
 ·exact⟨_,_,rfl,⟨_,by rw[<- hs3,<- vJ,<- hs1,al,al,al]⟩,by simp[undWs,J2,md,W.und],M,1+a,t,pool,rfl,hM,by omega,by omega,ht,m7,Aa,Lj⟩
theorem EY(h0:st[n]?=some (.ro #[33]))(k:Int){t:MT}(m7:pool.length=4)(Aa:∀d∈pool,d∈LL)(Lj:pool.Nodup)(mo:Nat)(Xv:0<mo) :
  ∃p:Pn,p.ok t.size/\(p=.back\/p=.again->8<mo)/\v9 [.loc n,.int k,.int (mo:Nat),bF t.po,.str pool] st=.ok p.w st:=by
 suffices hh:kX (AJ fun w bt=>(∃x,bt=st++x)/\undWs st.length [w]=true/\∃p:Pn,w=p.w/\p.ok t.size/\(p=.back\/p=.again->8<mo)) (Oc ([W.loc n,.int k,.int (mo:Nat),bF t.po,.str pool].map some++List.replicate (9-5) none) st) by
  obtain⟨w,⟨p,rfl,h1,h2⟩,e⟩:=t7 hh
  exact⟨p,h1,h2,e⟩
 obtain⟨c0,e0⟩:=rS h0 (4+k)
 obtain⟨ds,WM,hdp,e1⟩:=oK c0 (500009+101*k) 12 #[0] st
 have e1:kO [.int c0,.int 12,.int (500009+101*k)] st=_:=e1
 have hsh:(st++[ar.lst #[50]])[st.length]?=some (.lst (zN ds)):=c_
 have ish:∀(i:Nat),i<12->∃d:Int,∀x:List ar,bB #[4] (.int (i:Nat)) (st++[ar.lst #[50]]++x)=.ok (.int d) (st++[ar.lst #[50]]++x):=fun i hi=>by
  obtain⟨d,hd⟩:∃d,ds[i]?=some d:=⟨_,ao #[0]⟩
  exact⟨d,fun x=>ur (cV hsh) hd⟩
 obtain⟨d0,i0⟩:=ish 0 #[0]
 obtain⟨d1,i1⟩:=ish 1 #[0]
 obtain⟨d2,i2⟩:=ish 2 #[0]
 obtain⟨d3,i3⟩:=ish 3 #[0]
 obtain⟨d4,i4⟩:=ish 4 #[0]
 obtain⟨d5,i5⟩:=ish 5 #[0]
 generalize hs1:st++[ar.lst #[50]]=s1 at *
 have j5:bB #[4] (.int 5) s1=.ok (.int d5) s1:=by have:=i5 [];rwa[bd]at this
 obtain⟨m,hm,em⟩:=gJ (q:=d5) (n:=6) #[0]
 have em:d5%6=(m:Int):=em
 apply az
 ·exact be (cf (ak (cf (ak kv (ak (bq bu kv dX) aM)) e0 rfl) (ak bu (ak (bq bu (bq bu kv (qK (.inl #[3]))) dX) aM))) e1 rfl)
 have hsl:yG #[4] (some 6) (some ((6:Int)+d5%6)) s1=.ok (.loc s1.length) (s1++[.lst (zN ((ds.drop 6).take m))]):=by
  rw[TX (bN hsh),em,show((6:Int)+(m:Int))=((6+m:Nat):Int)from rfl,show(6:Int)=((6:Nat):Int)from rfl,IY (by unfold zN;rw[aF];omega) #[0]]
  unfold zN
  rw[<- on,<- om,show 6+m-6=m by omega]
 obtain⟨ps,S,sz,lk,hg,hS,hpsl,hpm,e2'⟩:=F0 (st:=s1++[.lst (zN ((ds.drop 6).take m))]) (nd:=s1.length) (ds:=(ds.drop 6).take m) (pool:=pool) c_ (by rw[aP,cF];omega) #[0]
 obtain⟨x,rfl,hx⟩:=Om Lj Aa hg hS hpm
 have hxs:x.size<=10:=by rw[MT.po_len,aP,cF]at hpsl;omega
 generalize vJ:s1++[ar.lst (zN ((ds.drop 6).take m))]=s2 at *
 have i0':bB #[4] (.int 0) s2=.ok (.int d0) s2:=by rw[<- vJ];exact i0 _
 have i1':bB #[4] (.int 1) s2=.ok (.int d1) s2:=by rw[<- vJ];exact i1 _
 have i2':bB #[4] (.int 2) s2=.ok (.int d2) s2:=by rw[<- vJ];exact i2 _
 have i3':∀y,bB #[4] (.int 3) (s2++y)=.ok (.int d3) (s2++y):=fun y=>by rw[<- vJ,al];exact i3 _
 have i4':∀y,bB #[4] (.int 4) (s2++y)=.ok (.int d4) (s2++y):=fun y=>by rw[<- vJ,al];exact i4 _
 have hs:s2=st++([ar.lst #[50]]++[.lst (zN ((ds.drop 6).take m))]):=by rw[<- vJ,<- hs1,al]
 apply az
 ·exact be (cf (ak (oG kv (oF bu) (oF (bq bu (bq (bq kv bu j5) bu (i6 #[3])) dX)) hsl) kn) e2' rfl)
 obtain⟨kd,hkd,ek⟩:=gJ (q:=d0) (n:=mo) Xv
 apply az
 ·exact be (bq (bq kv bu i0') kv (i6 #[0]))
 rw[ek]
 have hln:dm [bF t.po] s2=.ok (.int (t.size:Nat)) s2:=by have:=gD t.po s2;rwa[MT.po_len]at this
 by_cases h8:kd=8
 ·subst h8
  apply ec
  ·exact aR (bq kv bu (fg rfl))
  apply dZ
  ·exact c5 (ak bu aM) #[41]
  ·exact⟨_,_,rfl,⟨_,hs⟩,rfl,.back,rfl,trivial,fun _=>by omega⟩
 apply bA
 ·exact aR (bq kv bu (fg (by rw[bh];omega)))
 apply b6
 by_cases h9:kd=9
 ·subst h9
  apply ec
  ·exact aR (bq kv bu (fg rfl))
  apply dZ
  ·exact c5 (ak bu aM) #[41]
  ·exact⟨_,_,rfl,⟨_,hs⟩,rfl,.again,rfl,trivial,fun _=>by omega⟩
 apply bA
 ·exact aR (bq kv bu (fg (by rw[bh];omega)))
 apply b6
 by_cases h7:kd=7\/t.size=0
 ·apply ec
  ·refine IU (a:=decide (kd=7)) (b:=decide (t.size=0)) (aR (bq kv bu (fg ?_))) (aR (bq (bR kn hln) bu (fg ?_)))|>.trans ?_
   ·rw[ql,dv,nv];omega
   ·rw[ql,dv,nv];omega
   ·rcases h7 with h|h
    ·rw[bg h];rfl
    ·rw[bg h,Bool.or_true]
  apply dZ
  ·exact c5 (ak bu kn) #[41]
  ·exact⟨_,_,rfl,⟨_,hs⟩,by simp[undWs,md,W.und],.wh x,rfl,⟨hxs,hx⟩,fun e=>by rcases e with e|e<;>cases e⟩
 apply bA
 ·refine nI (aR (bq kv bu (fg ?_))) (aR (bq (bR kn hln) bu (fg ?_)))
  ·rw[bh];omega
  ·rw[bh];omega
 apply b6
 have ht0:0<t.size:=by omega
 obtain⟨q,hq,eq⟩:=gJ (q:=64*d1+d2) (n:=t.size) ht0
 apply az
 ·exact be (bq (bq (bq bu (bq kv bu i1') (qK (.inl #[3]))) (bq kv bu i2') dX) (bR kn hln) (i6 #[0]))
 rw[eq]
 by_cases h4:kd<4
 ·obtain⟨m3,hm3,em3⟩:=gJ (q:=d3) (n:=4) #[0]
  have em3:d3%4=(m3:Int):=em3
  obtain⟨c,hc⟩:∃c,pool[m3]?=some c:=⟨_,ao #[0]⟩
  have hcL:=Aa c (cr hc)
  have hix:∀s,bB (.str pool) (.int (d3%4)) s=.ok (.str [c]) s:=fun s=>by rw[em3];exact IS (by show _<=1000000;omega) (gA hc)
  have hk2:∃b:Bool,∀s:List ar,s[s2.length]?=some (.lst [.str [112,117,116],.str [116,97,107,101]])->bB (.loc s2.length) (.int ((kd:Int)/2)) s=.ok (Li b) s:=by
   obtain rfl|rfl|rfl|rfl:kd=0\/kd=1\/kd=2\/kd=3:=by omega
   ·exact⟨true,fun s hs=>kz (bN hs) rfl⟩
   ·exact⟨true,fun s hs=>kz (bN hs) rfl⟩
   ·exact⟨false,fun s hs=>kz (bN hs) rfl⟩
   ·exact⟨false,fun s hs=>kz (bN hs) rfl⟩
  obtain⟨b,hb⟩:=hk2
  apply ec
  ·exact aR (bq kv bu (jz (bg #[0])))
  apply dZ
  ·exact c5 (ak (bq (mz (ak bu (ak bu aM)) #[41]) (bq kv bu (i6 #[3])) (hb _ c_)) (ak kv (ak (bq kv (bq (bq kv bu (i3' _)) bu (i6 #[3])) (hix _)) aM))) #[41]
  ·exact⟨_,_,rfl,⟨_,by rw[hs,al]⟩,by cases b<;>rfl,.mk b q c,rfl,⟨hq,hcL⟩,fun e=>by rcases e with e|e<;>cases e⟩
 apply bA
 ·exact aR (bq kv bu (jz (a7 #[0])))
 apply b6
 have hk2:∃b:Bool,∀s:List ar,s[s2.length]?=some (.lst [.str [108,101,102,116],.str [114,105,103,104,116]])->bB (.loc s2.length) (.int (d4%2)) s=.ok (mf b) s:=by
  obtain⟨m4,hm4,em4⟩:=gJ (q:=d4) (n:=2) #[0]
  have em4:d4%2=(m4:Int):=em4
  rw[em4]
  obtain rfl|rfl:m4=0\/m4=1:=by omega
  ·exact⟨true,fun s hs=>kz (bN hs) rfl⟩
  ·exact⟨false,fun s hs=>kz (bN hs) rfl⟩
 obtain⟨b,hb⟩:=hk2
 apply bU
 ·exact c5 (ak bu (ak kv (ak (bq (mz (ak bu (ak bu aM)) #[41]) (bq (bq kv bu (i4' _)) bu (i6 #[3])) (hb _ c_)) kn))) #[41]
 ·exact⟨_,_,rfl,⟨_,by rw[hs,al]⟩,by cases b<;>simp[undWs,md,W.und,mf],.br q b x,rfl,⟨hq,hxs,hx⟩,fun e=>by rcases e with e|e<;>cases e⟩
section
variable{M:Mc}{z':List ar}{a b:Nat}{t:MT}{sd tk:List Dd}{d:Dd}
theorem On{c:Nat}{B:Bool}(hm:(if B then jR else i8) [.loc L,.int (q:Nat),.str [c]] z=.ok .non z')(hz:z[L]?=some (.obj "Kept" (kF M t k a b)))(ht:iL z z' [.non]=z'):kP [.loc L,(Pn.mk B q c).w] z=.ok .non z':=by
 rw[<- ht]
 cases B with
 |true=>exact jh (sX (cY (aR (bq kx bu (c6 rfl))) (sm (ic kv hz rfl (ak kx (ak kx aM)) rfl hm))))
 |false=>exact jh (cO (bZ (aR (bq kx bu (c6 rfl))) du) (sX (cY (aR (bq kx bu (c6 rfl))) (sm (ic kv hz rfl (ak kx (ak kx aM)) rfl hm)))))
theorem Oo{q:Nat}{s:Bool}{x:MT}(hm:gC [.loc L,.int (q:Nat),mf s,bF x.po] z=.ok .non z')(hz:z[L]?=some (.obj "Kept" (kF M t k a b)))(ht:iL z z' [.non]=z'):kP [.loc L,(Pn.br q s x).w] z=.ok .non z':=by
 rw[<- ht]
 exact jh (cO #[6] (cO #[6] (sX (cY (aR #[73]) (sm (ic kv hz rfl (ak kx (ak kx (ak kx aM))) rfl hm))))))
theorem UX{x:MT}(hm:ji [.loc L,bF x.po] z=.ok .non z')(hz:z[L]?=some (.obj "Kept" (kF M t k a b)))(ht:iL z z' [.non]=z'):kP [.loc L,(Pn.wh x).w] z=.ok .non z':=by
 rw[<- ht]
 exact jh (cO #[6] (cO #[6] (cO #[6] (sX (cY (aR #[73]) (sm (ic kv hz rfl (ak kx aM) rfl hm)))))))
theorem MW(hm:i9 [.loc L] z=.ok .non z')(hz:z[L]?=some (.obj "Kept" (kF M t k a b)))(ht:iL z z' [.non]=z'):kP [.loc L,Pn.back.w] z=.ok .non z':=by
 rw[<- ht]
 exact jh (cO #[6] (cO #[6] (cO #[6] (cO #[6] (sX (cY (aR #[73]) (sm (ic kv hz rfl aM rfl hm))))))))
theorem Kx(hm:ib [.loc L] z=.ok .non z')(hz:z[L]?=some (.obj "Kept" (kF M t k a b)))(ht:iL z z' [.non]=z'):kP [.loc L,Pn.again.w] z=.ok .non z':=by
 rw[<- ht]
 exact jh (cO #[6] (cO #[6] (cO #[6] (cO #[6] (cO #[6] (sm (ic kv hz rfl aM rfl hm)))))))
theorem mW.fr(h:mW M L a b t k sd tk z)(hL:z'[L]?=z[L]?)(ha:z'[a]?=z[a]?)(hb:z'[b]?=z[b]?):mW M L a b t k sd tk z':=⟨hL.trans h.ob,ha.trans h.s,hb.trans h.u,h.la,h.lb,h.ab,h.ls,h.lu⟩
theorem UY(hM:mK M n)(hn:1<=n){p:Pn}(hp:p.ok t.size)(hb:p≠.back)(hA:p≠.again)(zZ:t.size<=100)(VQ:Bq t):∃(t2:MT) (s:List Nat) (ws:List W),Bq t2/\p.w=.tup (.str s::ws)/\0<ws.length/\(s==[98,97,99,107])=false/\(s==[97,103,97,105,110])=false/\(∀z,q9 [bF t.po,p.w] z=.ok (bF t2.po) z) /\
  (t2.size<=100->∃d:Dd,d.ok/\d.a=t/\d.b=t2/\∀{L a b k:Nat} {sd tk:List Dd} {z1:List ar},mW M L a b t k sd tk z1->sd.length<1000->∃z2,kP [.loc L,p.w] z1=.ok .non z2/\mW M L a z1.length t2 (d.ct M) (d::sd) [] z2/\K3 L a b z1 z2):=by
 cases p with
 |back=>exact absurd rfl hb
 |again=>exact absurd rfl hA
 |wh x=>
  exact⟨x,[119,104,111,108,101],_,hp.2,rfl,oX 0,rfl,rfl,fun z=>EV _ x z,fun h=>⟨.wh t x,⟨zZ,h⟩,rfl,rfl,fun hk1 hl=>by
   obtain⟨z2,e2',hk2,h3⟩:=Kt hM hn zZ h hk1 hl
   exact⟨z2,UX e2' hk1.ob (iw _ hk1 hk2),hk2,h3⟩⟩⟩
 |mk B q c=>
  obtain⟨hq,hcL⟩:=hp
  obtain⟨C,l,r,m,rfl,rfl⟩:=uv t q hq
  obtain⟨g1,g2,gm⟩:=VQ.at
  refine⟨ba C (.nd l r (nm' B m c)),if B then[112,117,116]else[116,97,107,101],_,VQ.plg g1 g2 (by cases B;exact gm.take c;exact gm.put hcL),rfl,oX 1,by cases B<;>rfl,by cases B<;>rfl,fun z=>EX C l r m B c #[0] gm z,fun h=>?_⟩
  cases B with
  |true=>
   exact⟨.mk C l r m l r (hW (m++[c])) none,⟨zZ,h,fun _=>rfl,fun _=>rfl⟩,rfl,rfl,fun hk1 hl=>by
    obtain⟨z2,e2',hk2,h3⟩:=ER hM hn zZ h gm.2 (by have:=gm.ln;omega) hcL hk1 hl
    exact⟨z2,On (B:=true) e2' hk1.ob (iw _ hk1 hk2),hk2,h3⟩⟩
  |false=>
   exact⟨.mk C l r m l r #[54] none,⟨zZ,h,fun _=>rfl,fun _=>rfl⟩,rfl,rfl,fun hk1 hl=>by
    obtain⟨z2,e2',hk2,h3⟩:=Dj hM hn zZ h (by have:=gm.ln;omega) hk1 hl
    exact⟨z2,On (B:=false) e2' hk1.ob (iw _ hk1 hk2),hk2,h3⟩⟩
 |br q s x=>
  obtain⟨hq,hx,Ou⟩:=hp
  obtain⟨C,l,r,m,rfl,rfl⟩:=uv t q hq
  obtain⟨g1,g2,gm⟩:=VQ.at
  exact⟨ba C #[12],[98,114,97,110,99,104],_,VQ.plg (by cases s;exact g1;exact Ou) (by cases s;exact Ou;exact g2) gm,rfl,oX 2,rfl,rfl,fun z=>EW C l r x m s #[0] #[0] z,fun h=>⟨.mk C l r m (if s then x else l) (if s then r else x) m (some s),⟨zZ,h,fun e=>by cases s<;>first|rfl|exact absurd rfl e,fun e=>by cases s<;>first|rfl|exact absurd rfl e⟩,rfl,rfl,fun hk1 hl=>by
   obtain⟨z2,e2',hk2,h3⟩:=zV hM hn zZ #[0] h hk1 hl
   exact⟨z2,Oo e2' hk1.ob (iw _ hk1 hk2),hk2,h3⟩⟩⟩
end
def vF:Nat->MT
 |0=>.nil
 |1=>.nd .nil .nil [81]
 |k+2=>if k%2=0 then .nd (vF (k+1)) .nil []else .nd .nil (vF (k+1)) []
theorem mX:∀k,(vF k).size=k
 |0=>rfl
 |1=>rfl
 |k+2=>by
  unfold vF
  have:=mX (k+1)
  by_cases h:k%2=0
  ·rw[aJ h,MT.size_nd,this];rfl
  ·rw[aW h,MT.size_nd,this];show 0+(k+1)+1=_;omega
theorem RC(k:Nat):(vF (k+2)).po=(vF (k+1)).po++[⟨1+k%2,[]⟩]:=by
 have h1:(vF (k+1)).one=1:=MT.one_of (by rw[mX];omega)
 rw[show vF (k+2)=if k%2=0 then .nd (vF (k+1)) .nil []else .nd .nil (vF (k+1)) []from rfl]
 by_cases h:k%2=0
 ·rw[aJ h,h]
  show(vF (k+1)).po++[]++[⟨(vF (k+1)).one+2*0,[]⟩]=_
  rw[h1,bd]
 ·rw[aW h,show k%2=1 by omega]
  show[]++(vF (k+1)).po++[⟨0+2*(vF (k+1)).one,[]⟩]=_
  rw[h1,d9]
theorem F6:∀k:Nat,(vF (k+1)).po.map Pl.w=[W.tup [.int 0,.str [81]]]++(fL 0 k).map fun w=>match w with
  |.int z=>W.tup [.int (1+z%2),.str []]
  |w=>w
 |0=>rfl
 |k+1=>by
  rw[RC,a8,F6 k]
  unfold fL
  rw[List.range_succ,a8,a8,al]
  congr 2
  show[W.tup [.int ((1+k%2:Nat):Int),.str []]]=[W.tup [.int (1+(0+(k:Int))%2),.str []]]
  rw[show((1+k%2:Nat):Int)=1+(0+(k:Int))%2 by omega]
theorem yr(m:Nat)(hm:m<=1000)(st:List ar):sE [.int (m:Nat)] st=.ok (bF (vF m).po) st:=by
 refine fC ?_ (by simp only[undWs,md,dM])
 cases m with
 |zero=>
  apply ec
  ·exact aR (bq kv bu (fg rfl))
  apply dZ
  ·exact c5 aM #[41]
  ·exact⟨_,_,rfl,rfl,[],(bd _).symm⟩
 |succ k=>
  apply bA
  ·exact aR (bq kv bu (fg (by rw[bh];omega)))
  apply b6
  have a0:=mz (fs:=af (dC (af (eI 0) (af (eC (.str [81])) aA))) aA) (ρ:=[iO (k+1:Nat)]) (st:=st) (ak (c5 (ak bu (ak bu aM)) #[41]) aM) #[41]
  have hr:dU (af (e2 g9 (ah 0) (eI 1)) aA) [iO (k+1:Nat)] (st++[ar.lst [W.tup [.int 0,.str [81]]]])=.ok (fL 0 k,none) (st++[ar.lst [W.tup [.int 0,.str [81]]]]):=by
   have:=jA (fs:=af (e2 g9 (ah 0) (eI 1)) aA) (ρ:=[iO (k+1:Nat)]) (st:=st++[ar.lst [W.tup [.int 0,.str [81]]]]) (q:=((k+1:Nat):Int)-1) (ak (bq kv bu rfl) aM) #[0]
   rwa[show(((k+1:Nat):Int)-1).toNat=k by omega]at this
  have a1:=AK (cap:=[none]) (f:=jy 0) (el:=dC (af (e2 cN (eI 1) (e2 ij (ah 0) (eI 2))) (af (eC (.str [])) aA))) (fun w=>match w with
   |.int z=>W.tup [.int (1+z%2),.str []]
   |w=>w) hr (by rw[fj];show _<=1000000;omega) trivial fun w hw=>by
    obtain⟨i,_,rfl⟩:=ve hw
    exact⟨_,rfl,c5 (ak (bq bu (bq kv bu (i6 #[3])) dX) (ak bu aM)) #[41]⟩
  have hl:(st++[ar.lst [W.tup [.int 0,.str [81]]]]).length=st.length+1:=by simp
  rw[hl,al]at a1
  have a2:=P' (st:=st++([ar.lst [W.tup [.int 0,.str [81]]]]++[.lst ((fL 0 k).map fun w=>match w with
   |.int z=>W.tup [.int (1+z%2),.str []]
   |w=>w)])) (n:=st.length) (m:=st.length+1) (by rw[d_];rfl) (by rw[ia];rfl) (by rw[aj,aF,fj];show _<=1000000;simp;omega)
  rw[<- F6]at a2
  apply bU
  ·exact bR (ak (bq a0 a1 a2) aM) (n5 (bN c_))
  ·exact⟨_,_,rfl,rfl,_,by rw[al]⟩
section
variable{M:Mc}{z':List ar}{a b:Nat}{t:MT}{sd tk:List Dd}{d:Dd}
theorem oN{m e:Str}{fs:FA}{z1 z2 z3:List ar}{fl:List (Str×W)}(h:fo ρ z=.ok (.loc n) z1)(h3:z1[n]?=some (.obj c fl))(hm:fl.lookup m=none)(ha:fs ρ z1=.ok ws z2)(hn:ws.length+1=k)(hF:F (.loc n::ws) z2=.ex e z3):il c m k F fo fs ρ z=.ex e z3:=by
 unfold il
 rw[h];simp only[R.bind_ok,oE,h3]
 rw[aJ ⟨trivial,hm⟩,ha];simp only[R.bind_ok]
 rw[aJ hn,hF]
abbrev Xs(c:Str)(z:List ar):RS->Prop:=W4 c fun bt=>∃x,bt=z++x
theorem n_:Xs c z (.ex c ρ z):=⟨_,_,rfl,[],(bd _).symm⟩
theorem MX(hz:mW M L a b t k [] tk z):kP [.loc L,Pn.back.w] z=.ex "NothingDone" z:=by
 have e:i9 [.loc L] z=.ex "NothingDone" z:=gK (N:=2) (body:=q5) (ws:=[.loc L]) (ec (aR (bq (bR (ak #[32] aM) (jr (bN hz.s))) bu (fg rfl))) (su n_))
 exact gK (N:=2) (body:=zM) (ws:=[.loc L,Pn.back.w]) (az #[6] (az #[6] (az #[6] (az #[6] (fT (cY (aR #[73]) (qM (oN kv hz.ob rfl aM rfl e))) n_)))))
theorem Ky(hz:mW M L a b t k sd [] z):kP [.loc L,Pn.again.w] z=.ex "NothingDone" z:=by
 have e:ib [.loc L] z=.ex "NothingDone" z:=gK (N:=2) (body:=pz) (ws:=[.loc L]) (ec (aR (bq (bR (ak #[32] aM) (jr (bN hz.u))) bu (fg rfl))) (su n_))
 exact gK (N:=2) (body:=zM) (ws:=[.loc L,Pn.again.w]) (az #[6] (az #[6] (az #[6] (az #[6] (az #[6] (dG (qM (oN kv hz.ob rfl aM rfl e)) n_))))))
theorem UZ(hz:mW M L a b t k sd tk z)(B:Bool){q:Int}(hq:q<0\/(t.size:Int)<=q)(l:List Nat):kP [.loc L,.tup [Li B,.int q,.str l]] z=.ex "NoPlace" z:=by
 have hp:=Dc (ps:=t.po) (z:=q) (by rw[MT.po_len];exact hq) z
 cases B with
 |true=>
  have e:jR [.loc L,.int q,.str l] z=.ex "NoPlace" z:=gK (N:=3) (body:=x_) (ws:=[.loc L,.int q,.str l]) (fT (rR (lF (ak #[32] kn) hp rfl)) n_)
  exact gK (N:=2) (body:=zM) (ws:=[.loc L,.tup [Li true,.int q,.str l]]) (fT (cY (aR #[73]) (qM (oN kv hz.ob rfl (ak kx (ak kx aM)) rfl e))) n_)
 |false=>
  have e:i8 [.loc L,.int q,.str l] z=.ex "NoPlace" z:=gK (N:=3) (body:=v8) (ws:=[.loc L,.int q,.str l]) (fT (rR (lF (ak #[32] kn) hp rfl)) n_)
  exact gK (N:=2) (body:=zM) (ws:=[.loc L,.tup [Li false,.int q,.str l]]) (az #[6] (fT (cY (aR #[73]) (qM (oN kv hz.ob rfl (ak kx (ak kx aM)) rfl e))) n_))
theorem Op(hz:mW M L a b t k sd tk z){q:Int}{s:Bool}{x:MT}(h:v7 [bF t.po,.int q,mf s,bF x.po] z=.ex c z):kP [.loc L,.tup [.str [98,114,97,110,99,104],.int q,mf s,bF x.po]] z=.ex c z:=by
 have e:gC [.loc L,.int q,mf s,bF x.po] z=.ex c z:=gK (N:=5) (body:=sB) (ws:=[.loc L,.int q,mf s,bF x.po]) (fT (t_ (lF (ak #[32] (ak kv (ak kv kn))) h rfl)) n_)
 exact gK (N:=2) (body:=zM) (ws:=[.loc L,.tup [.str [98,114,97,110,99,104],.int q,mf s,bF x.po]]) (az #[6] (az #[6] (fT (cY (aR #[73]) (qM (oN kv hz.ob rfl (ak kx (ak kx (ak kx aM))) rfl e))) n_)))
theorem U0(hz:mW M L a b t k sd tk z){q:Int}(hq:q<0\/(t.size:Int)<=q)(s:Bool)(x:MT):kP [.loc L,.tup [.str [98,114,97,110,99,104],.int q,mf s,bF x.po]] z=.ex "NoPlace" z:=Op hz (Rw (ps:=t.po) (by rw[MT.po_len];exact hq) (mf s) (bF x.po) z)
theorem Kz{C:List Fm}{l r x:MT}(h1:#[1].size<=900)(hx:x.size<=900)(hz:mW M L a b #[1] k sd tk z)(s:Bool)(hg:100<(ba C #[12]).size):kP [.loc L,.tup [.str [98,114,97,110,99,104],.int (pq C l r:Nat),mf s,bF x.po]] z=.ex "TooGreat" z:=
 Op hz (G7 (oth:=x.po) #[1].gr0 (by rw[MT.po_len];exact h1) (by rw[MT.po_len];exact hx) (uw C l r m) s z (by rw[ux,MT.po_len];exact hg))
def fW(i:Nat):W:=.tup [.str [114,101,102,117,115,101,100],.bl true,.bl (i==0),.bl (i==1),.bl (i==2),.bl false]
theorem MY(i:Nat)(st:List ar):j6 40 [fW i,fW i] st=.ok (.bl true) st:=uu (k:=39) #[41] fun w hw=>by
 simp only[aT,eh,lT]at hw
 rcases hw with rfl|rfl|rfl|rfl|rfl|rfl
 ·exact C9 _ 38 st
 all_goals exact zP _ 38 st
def RD(i:Nat):Str:=if i=0 then "NoPlace" else if i=1 then "TooGreat" else "NothingDone"
theorem mY(hi:i<3){w:W}(e:kP [.loc L,w] z=.ex (RD i) z):nL [.loc L,w] z=.ok (fW i) z:=by
 have cx:(z++[ar.exc (RD i)])[z.length]?=some (.exc (RD i)):=c_
 obtain rfl|rfl|rfl:i=0\/i=1\/i=2:=by omega
 all_goals exact fC (N:=4) (body:=Od) (ws:=[.loc L,w]) (az (be bu) (az (IW (t_ (lF (ak kv kn) e rfl)) #[3] (be (c5 (ak bu (ak (CA kv cx rfl) (ak (CA kv cx rfl) (ak (CA kv cx rfl) (ak (CA kv cx rfl) (ak (CA kv cx rfl) aM)))))) #[41]))) (bU kv ⟨_,_,rfl,rfl,_,rfl⟩))) rfl
theorem pI{w:W}(e:kP [.loc L,w] z=.ok .non z')(ht:iL z z' [.non]=z'):nL [.loc L,w] z=.ok .non z':=by
 rw[<- ht]
 exact jh (N:=4) (cO (be bu) (cO (IV (be (cf (ak kv kn) e rfl))) (sm kv)))
theorem wb(hz:mW M L a b t k sd tk z):gk [.loc L] z=.ok (.int (k:Nat)) z:=by
 apply eV
 apply bU
 ·exact dH kv hz.ob rfl
 ·walk_at "8"
def Bd(M:Mc)(L a b:Nat)(t:MT)(k:Nat)(sd tk:List Dd)(w:W):Prop:=∃(dw:W) (i:Nat),w=.tup [dw,fW i]/\∀z,mW M L a b t k sd tk z->nL [.loc L,dw] z=.ok (fW i) z
theorem KA(hM:mK M n)(hn:1<=n)(ht:t.size<=900){p:Nat}{bl:List W}(hp:z[p]?=some (.lst bl))(hz:mW M L a b t k sd tk z)(hb:∀w∈bl,Bd M L a b t k sd tk w)(q:Int):yg [.loc L,M.w,bF t.po,.loc p,.int q] z=.ok (.bl true) z:=by
 apply eV
 apply az
 ·exact be (ic kv hz.ob rfl aM rfl (wb hz))
 refine gq (fun i ρ bt=>∃(o6 o7:Option W),ρ=[lO L,some M.w,some (bF t.po),lO p,iO q,iO (k:Nat),o6,o7]/\bt=z) (wL kv (bN hp)) ⟨none,none,rfl,rfl⟩ (fun i ρ bt h=>?_) ?_ ?_
 ·obtain⟨o6,o7,rfl,rfl⟩:=h
  exact bN hp
 ·rintro i w ρ bt hw ⟨o6,o7,rfl,rfl⟩
  have hw:bl[i]?=some w:=hw
  obtain⟨dw,j,rfl,hd⟩:=hb w (cr hw)
  refine⟨[lO L,some M.w,some (bF t.po),lO p,iO q,iO (k:Nat),some dw,some (fW j)],rfl,?_⟩
  apply bA
  ·exact sk (aR (cf (ak (cf (ak kv kn) (hd _ hz) rfl) kn) (MY j _) rfl)) rfl
  apply b6
  apply mT
  ·exact nI (sk (aR (cf (ak kv (ak kv (ak kv kn))) (vD hM hn ht hz q) rfl)) rfl) (sk (aR (cf (ak (ic kv hz.ob rfl aM rfl (wb hz)) kn) (Ro _ _) rfl)) rfl)
  ·exact⟨_,_,rfl,_,_,rfl,rfl⟩
 ·rintro ρ bt ⟨o6,o7,rfl,rfl⟩
  apply bU
  ·exact bu
  ·walk_at "8"
end
theorem Br(t:MT)(st:List ar):dm [bF t.po] st=.ok (.int (t.size:Nat)) st:=by have:=gD t.po st;rwa[MT.po_len]at this
section
variable{M:Mc}{z':List ar}{a b:Nat}{t:MT}{sd tk:List Dd}{d:Dd}
abbrev gS(st:List ar)(c1 c2 c3:ar)(bl:List W):List ar:=st++[c1,c2,c3,.lst bl]
theorem Oq(st:List ar)(c1 c2 c3:ar)(bl:List W):(gS st c1 c2 c3 bl)[st.length+3]?=some (.lst bl):=by rw[ia];rfl
theorem vG{st:List ar}{c1 c2 c3:ar}{bl:List W}{w:W}(hρ:ρ[12]?=some (lO (st.length+3)))(hl:bl.length<1000)(h:fe ρ (gS st c1 c2 c3 bl)=.ok w (gS st c1 c2 c3 bl)):cU (kK bH (ah 12) (af fe aA)) ρ (gS st c1 c2 c3 bl)=.nx ρ (gS st c1 c2 c3 (bl++[w])):=by
 refine(eJ (iZ (im hρ) (dE (Oq st c1 c2 c3 bl)) (ak h aM) (mV (Oq st c1 c2 c3 bl) #[0]))).trans ?_
 rw[mS];rfl
theorem vH{bl:List W}{w:W}(h:∀w∈bl,Bd M L a b t k sd tk w)(h2:Bd M L a b t k sd tk w):∀w'∈bl++[w],Bd M L a b t k sd tk w':=fun w' hw=>by
 rcases aV.mp hw with hw|hw
 ·exact h w' hw
 ·rw[aZ.mp hw];exact h2
theorem RE{n0 P Q:Nat}{A B:List W}(h0:st[n0]?=some (.ro #[33]))(hP:st[P]?=some (.lst A))(hQ:st[Q]?=some (.lst B))(hA:A.length=sd.length)(hB:B.length=tk.length)(F':Nat)(ht:t.size<=100) :
  ∃(x:List ar) (bl:List W),yf [.loc n0,.int (F':Nat),bF t.po,.loc P,.loc Q] st=.ok (.loc (st.length+3)) (st++x)/\x[3]?=some (.lst bl)/\∀w∈bl,Bd M L a b t k sd tk w:=by
 suffices hh:kX (AJ fun w bt=>∃j x,w=.loc (st.length+j)/\bt=st++x/\j=3/\∃bl:List W,x[3]?=some (.lst bl)/\∀w∈bl,Bd M L a b t k sd tk w) (Oe ([W.loc n0,.int (F':Nat),bF t.po,.loc P,.loc Q].map some++List.replicate (17-5) none) st) by
  obtain⟨j,x,⟨rfl,bl,h1,h2⟩,e⟩:=t8 hh
  exact⟨x,bl,e,h1,h2⟩
 apply az
 ·exact be (w:=fW 0) (c5 (ak bu (ak bu (ak bu (ak bu (ak bu (ak bu aM)))))) #[41])
 apply az
 ·exact be (w:=fW 1) (c5 (ak bu (ak bu (ak bu (ak bu (ak bu (ak bu aM)))))) #[41])
 apply az
 ·exact be (w:=fW 2) (c5 (ak bu (ak bu (ak bu (ak bu (ak bu (ak bu aM)))))) #[41])
 apply az
 ·exact be (bR kn (Br t st))
 obtain⟨c0,e0⟩:=rS h0 (4+(F':Int))
 obtain⟨ds,WM,_,e1⟩:=oK c0 (900001+101*(F':Int)) 4 #[0] st
 have e1:kO [.int c0,.int 4,.int (900001+101*(F':Int))] st=_:=e1
 have hsh:(st++[ar.lst #[50]])[st.length]?=some (.lst (zN ds)):=c_
 have ish:∀(i:Nat),i<4->∃d:Int,∀x:List ar,bB #[4] (.int (i:Nat)) (st++[ar.lst #[50]]++x)=.ok (.int d) (st++[ar.lst #[50]]++x):=fun i hi=>by
  obtain⟨d,hd⟩:∃d,ds[i]?=some d:=⟨_,ao #[0]⟩
  exact⟨d,fun x=>ur (cV hsh) hd⟩
 obtain⟨d0,i0⟩:=ish 0 #[0]
 obtain⟨d1,i1⟩:=ish 1 #[0]
 obtain⟨d2,i2⟩:=ish 2 #[0]
 apply az
 ·exact be (cf (ak (cf (ak kv (ak (bq bu kv dX) aM)) e0 rfl) (ak bu (ak (bq bu (bq bu kv (qK (.inl #[3]))) dX) aM))) e1 rfl)
 generalize hc1:ar.lst #[50]=c1 at *
 obtain⟨v,hv,ev⟩:∃v:Int,0<=v/\∀(ρ:cL) (s:List ar),e2 Ma (eI 10) (eI 20) ρ s=.ok (.int v) s:=⟨(10:Int)^(20:Int).toNat,by decide,fun ρ s=>bq bu bu (i6 #[3])⟩
 obtain⟨m0,hm0,em0⟩:=gJ (q:=d0) (n:=5) #[0]
 have em0:d0%5=(m0:Int):=em0
 obtain⟨pl,m7,epl⟩:∃pl:Int,(pl<0\/(t.size:Int)<=pl)/\([W.int (-1),.int (t.size:Nat),.int ((t.size:Nat)+7),.int (-((t.size:Nat):Int)-1),.int ((t.size:Nat)+v)]:List W)[m0]?=some (.int pl):=by
  obtain rfl|rfl|rfl|rfl|rfl:m0=0\/m0=1\/m0=2\/m0=3\/m0=4:=by omega
  ·exact⟨-1,by omega,rfl⟩
  ·exact⟨_,by omega,rfl⟩
  ·exact⟨_,by omega,rfl⟩
  ·exact⟨_,by omega,rfl⟩
  ·exact⟨_,by omega,rfl⟩
 apply az
 ·refine be (w:=.int pl) (bq (mz (ak (vZ bu) (ak kv (ak (bq kv bu dX) (ak (bq (vZ kv) bu rfl) (ak (bq kv (ev _ _) dX) aM))))) #[41]) (bq (bq kv bu (i0 _)) bu (i6 #[3])) (kz (bN c_) ?_))
  rw[em0];exact gA epl
 generalize hc2:ar.lst [W.int (-1),.int (t.size:Nat),.int ((t.size:Nat)+7),.int (-((t.size:Nat):Int)-1),.int ((t.size:Nat)+v)]=c2 at *
 have hk2:∃s:Bool,∀(y:List ar) (p:Nat),(st++[c1]++y)[p]?=some (.lst [.str [108,101,102,116],.str [114,105,103,104,116]])->bB (.loc p) (.int (d1%2)) (st++[c1]++y)=.ok (mf s) (st++[c1]++y):=by
  obtain⟨m4,hm4,em4⟩:=gJ (q:=d1) (n:=2) #[0]
  have em4:d1%2=(m4:Int):=em4
  rw[em4]
  obtain rfl|rfl:m4=0\/m4=1:=by omega
  ·exact⟨true,fun y p h=>kz (bN h) rfl⟩
  ·exact⟨false,fun y p h=>kz (bN h) rfl⟩
 obtain⟨s,hs⟩:=hk2
 have j1:bB #[4] (.int 1) #[51]=.ok (.int d1) #[51]:=by
  rw[al (st++[c1])];exact i1 _
 have js:bB (.loc (st++[c1]++[c2]).length) (.int (d1%2)) #[51]=.ok (mf s) #[51]:=by
  have:=hs ([c2]++[.lst [.str [108,101,102,116],.str [114,105,103,104,116]]]) (st++[c1]++[c2]).length (by rw[<- al];exact c_)
  rwa[<- al]at this
 apply az
 ·exact be (bq (mz (ak bu (ak bu aM)) #[41]) (bq (bq kv bu j1) bu (i6 #[3])) js)
 generalize hc3:ar.lst [W.str [108,101,102,116],.str [114,105,103,104,116]]=c3 at *
 have hG:∀bl:List W,st++[c1]++[c2]++[c3]++[ar.lst bl]=gS st c1 c2 c3 bl:=fun bl=>by simp only[al];rfl
 have hD:(st++[c1]++[c2]++[c3]).length=st.length+3:=by simp
 have bmk:∀(X:Bool) (q:Int) (l:List Nat),(q<0\/(t.size:Int)<=q)->Bd M L a b t k sd tk (.tup [.tup [Li X,.int q,.str l],fW 0]):=fun X q l hq=>⟨_,0,rfl,fun z hz=>mY #[3] (UZ hz X hq l)⟩
 obtain⟨bl3,hb3⟩:∃x,x=([.tup [.tup [Li true,.int pl,.str [98]],fW 0],.tup [.tup [Li false,.int pl,.str [98]],fW 0],.tup [.tup [Li true,.int (-1),.str [90]],fW 0]]:List W):=⟨_,rfl⟩
 apply az
 ·refine be (w:=.loc (st++[c1]++[c2]++[c3]).length) (st1:=st++[c1]++[c2]++[c3]++[.lst bl3]) ?_
  rw[hb3]
  exact mz (ak (c5 (ak (c5 (ak bu (ak kv (ak bu aM))) #[41]) kn) #[41]) (ak (c5 (ak (c5 (ak bu (ak kv (ak bu aM))) #[41]) kn) #[41]) (ak (c5 (ak (c5 (ak bu (ak (vZ bu) (ak bu aM))) #[41]) kn) #[41]) aM))) #[41]
 rw[hG,hD]
 have B3:∀w∈bl3,Bd M L a b t k sd tk w:=fun w hw=>by
  rw[hb3]at hw
  simp only[aT,eh,lT]at hw
  rcases hw with rfl|rfl|rfl
  ·exact bmk true pl _ m7
  ·exact bmk false pl _ m7
  ·exact bmk true (-1) _ (.inl #[3])
 have l3:bl3.length=3:=by rw[hb3];rfl
 obtain⟨w4,hw4⟩:∃x,x=(.tup [.tup [Li false,.int (t.size:Nat),.str [90]],fW 0]:W):=⟨_,rfl⟩
 obtain⟨w5,hw5⟩:∃x,x=(.tup [.tup [.str [98,114,97,110,99,104],.int pl,mf s,bF MT.nil.po],fW 0]:W):=⟨_,rfl⟩
 obtain⟨w6,hw6⟩:∃x,x=(.tup [.tup [.str [98,114,97,110,99,104],.int pl,mf s,bF (vF 100).po],fW 0]:W):=⟨_,rfl⟩
 apply az
 ·refine vG (w:=w4) rfl #[0] ?_
  rw[hw4]
  exact c5 (ak (c5 (ak bu (ak kv (ak bu aM))) #[41]) kn) #[41]
 have B4:=vH B3 (by rw[hw4];exact bmk false (t.size:Nat) [90] (.inr (Int.le_refl _)):Bd M L a b t k sd tk w4)
 have bbr:∀x:MT,Bd M L a b t k sd tk (.tup [.tup [.str [98,114,97,110,99,104],.int pl,mf s,bF x.po],fW 0]):=fun x=>⟨_,0,rfl,fun z hz=>mY #[3] (U0 hz m7 s x)⟩
 apply az
 ·refine vG (w:=w5) rfl (by rw[aj,bj];omega) ?_
  rw[hw5]
  exact c5 (ak (c5 (ak bu (ak kv (ak kv (ak (c5 aM #[41]) aM)))) #[41]) kn) #[41]
 have B5:=vH B4 (by rw[hw5];exact bbr .nil:Bd M L a b t k sd tk w5)
 apply az
 ·refine vG (w:=w6) rfl (by rw[aj,aj,bj,bj];omega) ?_
  rw[hw6]
  exact c5 (ak (c5 (ak bu (ak kv (ak kv (ak (cf (ak bu aM) (yr 100 #[3] _) rfl) aM)))) #[41]) kn) #[41]
 have B6:=vH B5 (by rw[hw6];exact bbr (vF 100):Bd M L a b t k sd tk w6)
 have l6:(bl3++[w4]++[w5]++[w6]).length=6:=by simp only[aj,bj,l3]
 generalize bl3++[w4]++[w5]++[w6]=bl at *
 obtain⟨Sa,R',R9,R7,RM,B7,l7,e7⟩:∃(Sa R' R9 R7:Option W) (RM:List W),(∀w∈RM,Bd M L a b t k sd tk w)/\RM.length<=7 /\
   fK (dO (e2 yF (ah 8) (eI 0))) (aK (bf 13 (e2 ij (e2 bB (ah 9) (eI 2)) (ah 8))) (aK (tP (b_ 2 sD (af (ah 2) (af (ah 13) aA))) (Ec 2 (eG (jy 14) (eG (jy 15) nG)))) #[79])) bW [lO n0,iO (F':Nat),some (bF t.po),lO P,lO Q,some (fW 0),some (fW 1),some (fW 2),iO (t.size:Nat),lO st.length,iO pl,some (mf s),lO (st.length+3),none,none,none,none] (gS st c1 c2 c3 bl)=.nx [lO n0,iO (F':Nat),some (bF t.po),lO P,lO Q,some (fW 0),some (fW 1),some (fW 2),iO (t.size:Nat),lO st.length,iO pl,some (mf s),lO (st.length+3),Sa,R',R9,R7] (gS st c1 c2 c3 RM):=by
  by_cases h:0<t.size
  ·have j2:bB #[4] (.int 2) (gS st c1 c2 c3 bl)=.ok (.int d2) (gS st c1 c2 c3 bl):=by
    have:=i2 [c2,c3,.lst bl]
    rwa[al]at this
   obtain⟨q,hq,eq⟩:=gJ (q:=d2) (n:=t.size) h
   obtain⟨C,l,r,m,rfl,rfl⟩:=uv t q hq
   have eq:d2%(#[1].size:Int)=((pq C l r:Nat):Int):=eq
   have bo:=vE C l r m #[0] (gS st c1 c2 c3 bl)
   obtain⟨N,hN⟩:∃N:Nat,N=101-#[1].size+(if s then l.size else r.size):=⟨_,rfl⟩
   have cl:=(uw C l r m).len (oth:=(vF N).po) s
   rw[ux,MT.po_len,MT.po_len,MT.po_len,mX]at cl
   have hlr:=fP C (.nd l r m) (by rw[MT.size_nd];omega)
   rw[MT.size_nd]at hlr
   have hN1:N<=201:=by cases s<;>simp only[gy,fv,gu]at hN<;>omega
   have e16:fK (dO (e2 iK (ah 11) (eC (.str [114,105,103,104,116])))) (bf 16 (e2 g9 (ah 13) (ah 15))) bW [lO n0,iO (F':Nat),some (bF #[1].po),lO P,lO Q,some (fW 0),some (fW 1),some (fW 2),iO (#[1].size:Nat),lO st.length,iO pl,some (mf s),lO (st.length+3),iO (pq C l r:Nat),iO ((pA C).length:Nat),iO ((pA C).length+l.size:Nat),some (.int ((((pA C).length+l.size:Nat):Int)-((pA C).length:Nat)))] (gS st c1 c2 c3 bl)=.nx [lO n0,iO (F':Nat),some (bF #[1].po),lO P,lO Q,some (fW 0),some (fW 1),some (fW 2),iO (#[1].size:Nat),lO st.length,iO pl,some (mf s),lO (st.length+3),iO (pq C l r:Nat),iO ((pA C).length:Nat),iO ((pA C).length+l.size:Nat),iO (if s then l.size else r.size:Nat)] (gS st c1 c2 c3 bl):=by
    cases s with
    |true=>
     rw[show(((pA C).length+l.size:Nat):Int)-((pA C).length:Nat)=(l.size:Nat) by omega]
     exact bZ (aR (bq kv bu (c6 rfl))) du
    |false=>
     have:((if false=true then l.size else r.size:Nat):Int)=(pq C l r:Int)-((pA C).length+l.size:Nat):=by show(r.size:Int)=_;unfold pq;omega
     rw[this]
     exact cY (aR (bq kv bu (c6 rfl))) (be (bq kv kv rfl))
   obtain⟨w7,hw7⟩:∃x,x=(.tup [.tup [.str [98,114,97,110,99,104],.int (pq C l r:Nat),mf s,bF (vF N).po],fW 1]:W):=⟨_,rfl⟩
   have ad:=vG (st:=st) (c1:=c1) (c2:=c2) (c3:=c3) (bl:=bl) (w:=w7) (ρ:=[lO n0,iO (F':Nat),some (bF #[1].po),lO P,lO Q,some (fW 0),some (fW 1),some (fW 2),iO (#[1].size:Nat),lO st.length,iO pl,some (mf s),lO (st.length+3),iO (pq C l r:Nat),iO ((pA C).length:Nat),iO ((pA C).length+l.size:Nat),iO (if s then l.size else r.size:Nat)]) (fe:=dC #[25]) rfl #[0] (by
     rw[hw7]
     refine c5 (ak (c5 (ak bu (ak kv (ak kv (ak (cf (ak (x:=.int (N:Nat)) ?_ aM) (yr N #[0] _) rfl) aM)))) #[41]) kn) #[41]
     rw[show((N:Nat):Int)=(101-(#[1].size:Nat):Int)+((if s then l.size else r.size:Nat):Int) by omega]
     exact bq (bq bu kv rfl) kv dX)
   refine⟨_,_,_,_,bl++[w7],vH B6 ?_,by rw[aj,bj];omega,cY (aR (bq kv bu (jz (bg #[0])))) (cO (be (w:=.int (pq C l r:Nat)) (by rw[<- eq];exact bq (bq kv bu j2) kv (i6 #[0]))) (cO (v_ (cf (ak kv kn) bo rfl) rfl) (cO (be (bq kv kv rfl)) (cO e16 ad))))⟩
   rw[hw7]
   exact⟨_,1,rfl,fun z hz=>mY #[3] (Kz #[0] (by rw[mX];omega) hz s #[0])⟩
  ·exact⟨none,none,none,none,bl,B6,by omega,bZ (aR (bq kv bu (jz (a7 #[0])))) du⟩
 apply az
 ·exact e7
 have gP:∀bl,(gS st c1 c2 c3 bl)[P]?=some (.lst A):=fun bl=>cV hP
 have gQ:∀bl,(gS st c1 c2 c3 bl)[Q]?=some (.lst B):=fun bl=>cV hQ
 obtain⟨bl8,B8,l8,e8⟩:∃bl8:List W,(∀w∈bl8,Bd M L a b t k sd tk w)/\bl8.length<=8/\fK (dO (e2 iK (bw dm (af (ah 3) aA)) (eI 0))) (cU (kK bH (ah 12) (af (dC (af (dC (af (eC (.str [98,97,99,107])) aA)) (af (ah 7) aA))) aA))) bW [lO n0,iO (F':Nat),some (bF t.po),lO P,lO Q,some (fW 0),some (fW 1),some (fW 2),iO (t.size:Nat),lO st.length,iO pl,some (mf s),lO (st.length+3),Sa,R',R9,R7] (gS st c1 c2 c3 RM)=.nx [lO n0,iO (F':Nat),some (bF t.po),lO P,lO Q,some (fW 0),some (fW 1),some (fW 2),iO (t.size:Nat),lO st.length,iO pl,some (mf s),lO (st.length+3),Sa,R',R9,R7] (gS st c1 c2 c3 bl8):=by
  by_cases h:A.length=0
  ·refine⟨RM++[.tup [Pn.back.w,fW 2]],vH B7 ⟨_,2,rfl,fun z hz=>mY #[3] (MX (tk:=tk) (k:=k) (t:=t) (a:=a) (b:=b) (M:=M) ?_)⟩,by rw[aj,bj];omega,cY (aR (bq (bR kn (jr (bN (gP _)))) bu (fg (by rw[dv];omega)))) (vG rfl #[0] (c5 (ak (c5 (ak bu aM) #[41]) kn) #[41]))⟩
   rwa[d6 (show sd.length=0 by omega)]at hz
  ·exact⟨RM,B7,by omega,bZ (aR (bq (bR kn (jr (bN (gP _)))) bu (fg (by rw[bh];omega)))) du⟩
 apply az
 ·exact e8
 obtain⟨bl9,B9,e9⟩:∃bl9:List W,(∀w∈bl9,Bd M L a b t k sd tk w)/\fK (dO (e2 iK (bw dm (af (ah 4) aA)) (eI 0))) (cU (kK bH (ah 12) (af (dC (af (dC (af (eC (.str [97,103,97,105,110])) aA)) (af (ah 7) aA))) aA))) bW [lO n0,iO (F':Nat),some (bF t.po),lO P,lO Q,some (fW 0),some (fW 1),some (fW 2),iO (t.size:Nat),lO st.length,iO pl,some (mf s),lO (st.length+3),Sa,R',R9,R7] (gS st c1 c2 c3 bl8)=.nx [lO n0,iO (F':Nat),some (bF t.po),lO P,lO Q,some (fW 0),some (fW 1),some (fW 2),iO (t.size:Nat),lO st.length,iO pl,some (mf s),lO (st.length+3),Sa,R',R9,R7] (gS st c1 c2 c3 bl9):=by
  by_cases h:B.length=0
  ·refine⟨bl8++[.tup [Pn.again.w,fW 2]],vH B8 ⟨_,2,rfl,fun z hz=>mY #[3] (Ky (sd:=sd) (k:=k) (t:=t) (a:=a) (b:=b) (M:=M) ?_)⟩,cY (aR (bq (bR kn (jr (bN (gQ _)))) bu (fg (by rw[dv];omega)))) (vG rfl #[0] (c5 (ak (c5 (ak bu aM) #[41]) kn) #[41]))⟩
   rwa[d6 (show tk.length=0 by omega)]at hz
  ·exact⟨bl8,B8,bZ (aR (bq (bR kn (jr (bN (gQ _)))) bu (fg (by rw[bh];omega)))) du⟩
 apply az
 ·exact e9
 apply bU
 ·exact im rfl
 ·exact⟨_,_,rfl,3,[c1,c2,c3,.lst bl9],rfl,rfl,rfl,bl9,rfl,B9⟩
end
section
variable{M:Mc}{z':List ar}{a b:Nat}{t:MT}{sd tk:List Dd}{d:Dd}
def W7:List Dd->MT->Prop
 |[],_=>True
 |d::sd,t=>d.b=t/\W7 sd d.a
def W8:List Dd->MT->Prop
 |[],_=>True
 |d::tk,t=>d.a=t/\W8 tk d.b
def W9(d:Dd):Prop:=d.ok/\Bq d.a/\Bq d.b
structure Lv(M:Mc)(ns:List Int)(L a b P Q:Nat)(t:MT)(k:Nat)(sd tk:List Dd)(i:Nat)(z:List ar):Prop where
 ks:mW M L a b t k sd tk z
 r0:z[0]?=some (.ro #[33])
 pP:z[P]?=some (.lst (sd.reverse.map fun d=>bF d.a.po))
 pQ:z[Q]?=some (.lst (tk.reverse.map fun d=>bF d.b.po))
 cs:W7 sd t
 ct:W8 tk t
 gd:Bq t
 sz:t.size<=100
 os:∀d∈sd,W9 d
 ot:∀d∈tk,W9 d
 ln:sd.length+tk.length<=i
 n0:0≠L/\0≠a/\0≠b/\0≠P/\0≠Q
 nP:P≠L/\P≠a/\P≠b/\P≠Q
 nQ:Q≠L/\Q≠a/\Q≠b
theorem zW{f:FG}{body:FS}(I:Nat->cL->List ar->Prop):∀{ws:List W} {ρ:cL} {st:List ar} (i0:Nat),I i0 ρ st ->
  (∀i w ρ st,ws[i]?=some w->I (i0+i) ρ st->∃ρ' ρ2 dz,f w ρ=some ρ'/\(body ρ' st=.nx ρ2 dz\/body ρ' st=.ct ρ2 dz)/\I (i0+i+1) ρ2 dz) ->
  ∃ρ2 dz,tQ f body none ws ρ st=.nx ρ2 dz/\I (i0+ws.length) ρ2 dz
 |[],ρ,st,i0,h0,hs=>⟨ρ,st,by unfold tQ;rw[aJ (show my st none from trivial)],h0⟩
 |w::ws,ρ,st,i0,h0,hs=>by
  obtain⟨ρ',ρ2,dz,e1,e2,h1⟩:=hs 0 w ρ st rfl h0
  obtain⟨ρ3,nN,e3,h3⟩:=zW I (ws:=ws) (ρ:=ρ2) (st:=dz) (i0+1) h1 fun i w ρ st hw hI=>by
   obtain⟨a,b,c,d,e,g⟩:=hs (i+1) w ρ st (by simpa using hw) (by rw[show i0+(i+1)=i0+1+i by omega];exact hI)
   exact⟨a,b,c,d,e,by rw[show i0+1+i+1=i0+(i+1)+1 by omega];exact g⟩
  refine⟨ρ3,nN,?_,by rw[bv,show i0+(ws.length+1)=i0+1+ws.length by omega];exact h3⟩
  unfold tQ
  rw[aJ (show my st none from trivial),e1]
  rcases e2 with e2|e2<;>simp only[e2]<;>exact e3
theorem EZ{g g':FS}{ρ':cL}(h:g ρ st=.ct ρ' st1):aK g g' ρ st=.ct ρ' st1:=by unfold aK;rw[h]
abbrev lR(M:Mc)(t:MT)(pool:List Nat)(L P Q:Nat)(o7 o8:Option W):cL:=[lO 0,some M.w,some (bF t.po),some (.str pool),lO L,lO P,lO Q,o7,o8]
abbrev lB:FS:=(aK #[18] (aK (bf 8 (b_ 5 v9 (af (ah 0) (af (ah 7) (af (eI 10) (af (ah 2) (af (ah 3) aA))))))) (aK (fK (yE #[82] (dO (e2 yF (bw dm (af (ah 5) aA)) (eI 0)))) (aK (cU (kK bH (ah 6) #[20])) (bf 2 (kK oz (ah 5) aA))) (fK (yE #[71] (dO (e2 yF (bw dm (af (ah 6) aA)) (eI 0)))) (aK (cU (kK bH (ah 5) #[20])) (bf 2 (kK oz (ah 6) aA))) (fK (yE (dO (e2 yF (bw dm (af (ah 8) aA)) (eI 1))) (dO (e2 GQ (bw dm (af (b_ 2 q9 (af (ah 2) (af (ah 8) aA))) aA)) (eI 100)))) (aK (cU (kK bH (ah 5) #[20])) (aK (bf 6 (km aA)) (bf 2 (b_ 2 q9 (af (ah 2) (af (ah 8) aA)))))) Iw))) #[26])))
theorem E0(hM:mK M n)(hn:1<=n){P Q:Nat}{p:Pn}(ht:t.size<=100)(hd:nL [.loc L,p.w] z=.ok .non z')(hk:mW M L a b t k sd tk z') :
  #[26] #[45] z=.nx #[45] z':=
 bZ (nI (aR (fB (cf (ak kv kn) hd rfl) rfl)) (sk (aR (cf (ak kv (ak kv (ak kv kn))) (vD hM hn #[0] hk i) rfl)) rfl)) du
def Go(M:Mc)(ns:List Int)(pool:List Nat)(L P i:Nat)(r:RS):Prop:=
 ∃(t:MT) (a b Q k:Nat) (sd tk:List Dd) (o7 o8:Option W) (z2:List ar),(r=.nx (lR M t pool L P Q o7 o8) z2\/r=.ct (lR M t pool L P Q o7 o8) z2)/\Lv M ns L a b P Q t k sd tk i z2
theorem Lv.up{P Q:Nat}(h:Lv M ns L a b P Q t k sd tk i z)(hj:i<=j):Lv M ns L a b P Q t k sd tk j z:={ h with ln:=aO h.ln hj }
theorem Lv.app{P Q:Nat}{x:List ar}(h:Lv M ns L a b P Q t k sd tk i z):Lv M ns L a b P Q t k sd tk i (z++x):={ h with ks:=h.ks.app,r0:=cV h.r0,pP:=cV h.pP,pQ:=cV h.pQ }
section
variable{P Q:Nat}{o8:Option W}{z0:List ar}
def Hd(M:Mc)(t:MT)(pool:List Nat)(L P Q i:Nat)(o8:Option W)(z0 z:List ar)(p:Pn):Prop:=∀{g:FS} {r:RS},g #[45] z=r->aK #[18] (aK (bf 8 (b_ 5 v9 (af (ah 0) (af (ah 7) (af (eI 10) (af (ah 2) (af (ah 3) aA))))))) g) #[75] z0=r
theorem U1(hM:mK M n)(hn:1<=n)(m7:pool.length=4)(Aa:∀d∈pool,d∈LL)(Lj:pool.Nodup)(hv:Lv M ns L a b P Q t k sd tk i z0):∃(x:List ar) (p:Pn),p.ok t.size/\Hd M t pool L P Q i o8 z0 (z0++x) p:=by
 have zZ:=hv.sz
 obtain⟨x,bl,eb,hx,hb⟩:=RE (M:=M) (L:=L) (a:=a) (b:=b) (k:=k) (t:=t) (sd:=sd) (tk:=tk) hv.r0 hv.pP hv.pQ #[15] #[15] i hv.sz
 have hv2:=hv.app (x:=x)
 have st:=KA hM hn #[0] (p:=z0.length+3) (bl:=bl) (z:=z0++x) (by rw[ia];exact hx) hv2.ks hb i
 obtain⟨p,hp,_,e⟩:=EY hv2.r0 (i:Nat) (t:=t) m7 Aa Lj 10 #[3]
 have e:v9 [.loc 0,.int (i:Nat),.int 10,bF t.po,.str pool] (z0++x)=.ok p.w (z0++x):=e
 refine⟨x,p,hp,fun{g r} h=>?_⟩
 exact cO (bZ (sk (aR (cf (ak kv (ak kv (ak kv (ak (cf (ak kv (ak kv (ak kv (ak kv kn)))) eb rfl) kn)))) st rfl)) rfl) du) (cO (be (cf (ak kv (ak kv (ak bu (ak kv kn)))) e rfl)) h)
theorem Ha(hM:mK M n)(hn:1<=n)(hv:Lv M ns L a b P Q t k sd tk i z)(hi:i<100)(H:Hd M t pool L P Q i o8 z0 z .back):Go M ns pool L P (i+1) (lB #[75] z0):=by
 have pP:=hv.pP
 have pQ:=hv.pQ
 have hln:=hv.ln
 have nA:∀{ρ:cL} {s:List ar} {g:FT},ρ[8]?=some (some Pn.back.w)->yE #[71] g ρ s=.ok false s:=fun h=>mG (aR (bq (bq (im h) bu ox) bu (c6 rfl)))
 have n1:∀{ρ:cL} {s:List ar} {g:FT},ρ[8]?=some (some Pn.back.w)->yE (dO (e2 yF (bw dm (af (ah 8) aA)) (eI 1))) g ρ s=.ok false s:=fun h=>mG (aR (bq (bR (ak (im h) aM) xM) bu (jz rfl)))
 cases sd with
 |nil=>exact⟨t,a,b,Q,k,[],tk,_,_,z,.inr (H (EZ (bZ (ky (aR (bq kx bu (c6 rfl))) (aR (bq (bR kn (jr (bN pP))) bu (jz rfl)))) (bZ (nA rfl) (bZ (n1 rfl) rfl))))),hv.up (by omega)⟩
 |cons d sd=>
  rw[bv]at hln
  obtain⟨c1,c2⟩:=hv.cs
  subst c1
  rw[bK,a8]at pP
  have pP2:(z.set Q (.lst (tk.reverse.map (fun d=>bF d.b.po)++[bF d.b.po])))[P]?=some (.lst (sd.reverse.map (fun d=>bF d.a.po)++[bF d.a.po])):=by rw[b7 (Ne.symm hv.nP.2.2.2)];exact pP
  have hl0:∀x:List W,x.length=sd.length+1->decide ((x.length:Int)>0)=true:=fun x hx=>bg #[0]
  have hk1:mW M L a b d.b k (d::sd) tk #[21]:=hv.ks.fr (by rw[b7 hv.nP.1,b7 hv.nQ.1]) (by rw[b7 hv.nP.2.1,b7 hv.nQ.2.1]) (by rw[b7 hv.nP.2.2.1,b7 hv.nQ.2.2])
  obtain⟨z2,e2',hk2,h3,hzl⟩:=MP hM hn (hv.os d bS).1 hk1 #[0]
  have oD:=hv.os d bS
  have qb:#[21][Q]?=some (.lst (tk.reverse.map (fun d=>bF d.b.po)++[bF d.b.po])):=by rw[b7 hv.nP.2.2.2];exact eM pQ
  have qa:#[21][P]?=some (.lst (sd.reverse.map fun d=>bF d.a.po)):=eM pP2
  have q0:#[21][0]?=some (.ro #[33]):=by rw[b7 (Ne.symm hv.n0.2.2.2.1),b7 (Ne.symm hv.n0.2.2.2.2)];exact hv.r0
  have f:=E0 hM hn (pool:=pool) (P:=P) (Q:=Q) (i:=i) (p:=.back) (Dd.ok_a oD.1) (pI (MW e2' hk1.ob (k_ hzl)) (k_ hzl)) hk2
  have eB:lB (lR M d.b pool L P Q (iO (i:Nat)) o8) z0=.nx (lR M d.a pool L P Q (iO (i:Nat)) (some Pn.back.w)) z2:=H (cO (cY (ky (aR #[73]) (aR (bq (bR kn (jr (bN pP))) bu (jz (hl0 _ #[15]))))) (cO (eJ (iZ kv (dE pQ) kn (mV pQ (by simp;omega)))) (be (iZ kv (dE pP2) aM (xN pP2))))) f)
  refine⟨d.a,a,b,Q,d.tn.ct M,sd,d::tk,_,_,z2,.inl eB,?_⟩
  exact⟨hk2,(h3.2 0 (gf q0) hv.n0.1 hv.n0.2.1 hv.n0.2.2.1).trans q0,(h3.2 P (gf qa) hv.nP.1 hv.nP.2.1 hv.nP.2.2.1).trans qa,(h3.2 Q (gf qb) hv.nQ.1 hv.nQ.2.1 hv.nQ.2.2).trans (qb.trans (by rw[bK,a8];rfl)),c2,⟨rfl,hv.ct⟩,oD.2.1,Dd.ok_a oD.1,fun x hx=>hv.os x (aU _ hx),fun x hx=>by
   rcases aT.mp hx with rfl|hx
   ·exact oD
   ·exact hv.ot x hx,by rw[bv];omega,hv.n0,hv.nP,hv.nQ⟩
theorem E1(hM:mK M n)(hn:1<=n)(hv:Lv M ns L a b P Q t k sd tk i z)(hi:i<100)(H:Hd M t pool L P Q i o8 z0 z .again):Go M ns pool L P (i+1) (lB #[75] z0):=by
 have pP:=hv.pP
 have pQ:=hv.pQ
 have hln:=hv.ln
 have nB:∀{ρ:cL} {s:List ar} {g:FT},ρ[8]?=some (some Pn.again.w)->yE #[82] g ρ s=.ok false s:=fun h=>mG (aR (bq (bq (im h) bu ox) bu (c6 rfl)))
 have n1:∀{ρ:cL} {s:List ar} {g:FT},ρ[8]?=some (some Pn.again.w)->yE (dO (e2 yF (bw dm (af (ah 8) aA)) (eI 1))) g ρ s=.ok false s:=fun h=>mG (aR (bq (bR (ak (im h) aM) xM) bu (jz rfl)))
 cases tk with
 |nil=>exact⟨t,a,b,Q,k,sd,[],_,_,z,.inr (H (EZ (bZ (nB rfl) (bZ (ky (aR (bq kx bu (c6 rfl))) (aR (bq (bR kn (jr (bN pQ))) bu (jz rfl)))) (bZ (n1 rfl) rfl))))),hv.up (by omega)⟩
 |cons d tk=>
  rw[bv]at hln
  obtain⟨c1,c2⟩:=hv.ct
  subst c1
  rw[bK,a8]at pQ
  have pQ2:(z.set P (.lst (sd.reverse.map (fun d=>bF d.a.po)++[bF d.a.po])))[Q]?=some (.lst (tk.reverse.map (fun d=>bF d.b.po)++[bF d.b.po])):=by rw[b7 hv.nP.2.2.2];exact pQ
  have hl0:∀x:List W,x.length=tk.length+1->decide ((x.length:Int)>0)=true:=fun x hx=>bg #[0]
  have hk1:mW M L a b d.a k sd (d::tk) #[22]:=hv.ks.fr (by rw[b7 hv.nQ.1,b7 hv.nP.1]) (by rw[b7 hv.nQ.2.1,b7 hv.nP.2.1]) (by rw[b7 hv.nQ.2.2,b7 hv.nP.2.2.1])
  have oD:=hv.ot d bS
  obtain⟨z2,e2',hk2,h3,hzl⟩:=Ku hM hn oD.1 hk1 #[0]
  have qb:#[22][P]?=some (.lst (sd.reverse.map (fun d=>bF d.a.po)++[bF d.a.po])):=by rw[b7 (Ne.symm hv.nP.2.2.2)];exact eM pP
  have qa:#[22][Q]?=some (.lst (tk.reverse.map fun d=>bF d.b.po)):=eM pQ2
  have q0:#[22][0]?=some (.ro #[33]):=by rw[b7 (Ne.symm hv.n0.2.2.2.2),b7 (Ne.symm hv.n0.2.2.2.1)];exact hv.r0
  have f:=E0 hM hn (pool:=pool) (P:=P) (Q:=Q) (i:=i) (p:=.again) (Dd.ok_b oD.1) (pI (Kx e2' hk1.ob (k_ hzl)) (k_ hzl)) hk2
  have eB:lB (lR M d.a pool L P Q (iO (i:Nat)) o8) z0=.nx (lR M d.b pool L P Q (iO (i:Nat)) (some Pn.again.w)) z2:=H (cO (bZ (nB rfl) (cY (ky (aR #[73]) (aR (bq (bR kn (jr (bN pQ))) bu (jz (hl0 _ #[15]))))) (cO (eJ (iZ kv (dE pP) kn (mV pP (by simp;omega)))) (be (iZ kv (dE pQ2) aM (xN pQ2)))))) f)
  refine⟨d.b,a,b,Q,d.ct M,d::sd,tk,_,_,z2,.inl eB,?_⟩
  exact⟨hk2,(h3.2 0 (gf q0) hv.n0.1 hv.n0.2.1 hv.n0.2.2.1).trans q0,(h3.2 P (gf qb) hv.nP.1 hv.nP.2.1 hv.nP.2.2.1).trans (qb.trans (by rw[bK,a8];rfl)),(h3.2 Q (gf qa) hv.nQ.1 hv.nQ.2.1 hv.nQ.2.2).trans qa,⟨rfl,hv.cs⟩,c2,oD.2.2,Dd.ok_b oD.1,fun x hx=>by
   rcases aT.mp hx with rfl|hx
   ·exact oD
   ·exact hv.os x hx,fun x hx=>hv.ot x (aU _ hx),by rw[bv];omega,hv.n0,hv.nP,hv.nQ⟩
theorem Hb(hM:mK M n)(hn:1<=n){p:Pn}(hv:Lv M ns L a b P Q t k sd tk i z)(hi:i<100)(hp:p.ok t.size)(hb:p≠.back)(hA:p≠.again)(H:Hd M t pool L P Q i o8 z0 z p):Go M ns pool L P (i+1) (lB #[75] z0):=by
 obtain⟨t2,s,ws,g2,hw,VS,n1,n2,hc,hd⟩:=UY hM hn hp hb hA hv.sz hv.gd
 have pP:=hv.pP
 have pQ:=hv.pQ
 have hln:=hv.ln
 have ix:∀z:List ar,bB p.w (.int 0) z=.ok (.str s) z:=fun z=>by rw[hw];exact nJ (gA (q:=0) rfl)
 have m7:∀z:List ar,dm [p.w] z=.ok (.int (ws.length+1:Nat)) z:=fun z=>by rw[hw];rfl
 have hl2:=Br t2 z
 have nB:∀{g:FT},yE #[82] g #[45] z=.ok false z:=mG (aR (bq (bq kv bu (ix _)) bu (c6 n1)))
 have nA:∀{g:FT},yE #[71] g #[45] z=.ok false z:=mG (aR (bq (bq kv bu (ix _)) bu (c6 n2)))
 have t1:dO (e2 yF (bw dm (af (ah 8) aA)) (eI 1)) #[45] z=.ok true z:=aR (bq (bR kn (m7 _)) bu (jz (bg #[0])))
 by_cases h:t2.size<=100
 ·obtain⟨d,dk,da,db,hdo⟩:=hd h
  have lP:=gf pP
  have lQ:=gf pQ
  have lL:=gf hv.ks.ob
  have lA:=gf hv.ks.s
  have lB':=gf hv.ks.u
  have l0:=gf hv.r0
  have zl:#[27].length=z.length:=by simp
  have hk1:mW M L a b t k sd tk (#[27]++[.lst []]):=hv.ks.fr (by rw[aN #[0],b7 hv.nP.1]) (by rw[aN #[0],b7 hv.nP.2.1]) (by rw[aN #[0],b7 hv.nP.2.2.1])
  obtain⟨z2,ed,hk2,h3⟩:=hdo hk1 #[0]
  have f:=E0 hM hn (pool:=pool) (P:=P) (Q:=z.length) (i:=i) h (pI ed (iw _ hk1 hk2)) hk2
  have eB:lB #[75] z0=.nx (lR M t2 pool L P z.length (iO (i:Nat)) (some p.w)) z2:=by
   refine H (cO (bZ nB (bZ nA (cY (ky t1 (aR (bq (bR (ak (cf (ak kv kn) (hc _) rfl) aM) hl2) bu (Cw (bg #[0]))))) (cO (eJ (iZ kv (dE pP) kn (mV pP (by simp;omega)))) (cO (be (mz aM #[41])) (be (cf (ak kv kn) (hc _) rfl))))))) ?_)
   rw[zl]
   exact f
  have q0:(#[27]++[.lst []])[0]?=some (.ro #[33]):=by rw[aN #[0],b7 (Ne.symm hv.n0.2.2.2.1)];exact hv.r0
  have qP:(#[27]++[.lst []])[P]?=some (.lst (sd.reverse.map (fun d=>bF d.a.po)++[bF t.po])):=by rw[aN #[0]];exact eM pP
  have qQ:(#[27]++[.lst []])[z.length]?=some (.lst []):=by rw[<- zl];exact c_
  have zl2:(#[27]++[ar.lst []]).length=z.length+1:=by simp
  rw[zl2]at hk2
  refine⟨t2,a,z.length+1,z.length,d.ct M,d::sd,[],_,_,z2,.inl eB,?_⟩
  exact⟨hk2,(h3.2 0 (gf q0) hv.n0.1 hv.n0.2.1 hv.n0.2.2.1).trans q0,(h3.2 P (gf qP) hv.nP.1 hv.nP.2.1 hv.nP.2.2.1).trans (qP.trans (by rw[bK,a8,<- da];rfl)),(h3.2 z.length #[0] #[0] #[0] #[0]).trans qQ,⟨db,by rw[da];exact hv.cs⟩,trivial,g2,h,fun x hx=>by
   rcases aT.mp hx with rfl|hx
   ·exact⟨dk,by rw[da];exact hv.gd,by rw[db];exact g2⟩
   ·exact hv.os x hx,fun x hx=>(by cases hx),by rw[bv,qk];omega,⟨hv.n0.1,hv.n0.2.1,by omega,hv.n0.2.2.2.1,by omega⟩,⟨hv.nP.1,hv.nP.2.1,by omega,by omega⟩,⟨by omega,by omega,by omega⟩⟩
 ·have eB:lB #[75] z0=.ct #[45] z:=H (EZ (bZ nB (bZ nA (bZ (ky t1 (aR (bq (bR (ak (cf (ak kv kn) (hc _) rfl) aM) hl2) bu (Cw (a7 #[0]))))) rfl))))
  exact⟨t,a,b,Q,k,sd,tk,_,_,z,.inr eB,hv.up #[0]⟩
theorem MZ(hM:mK M n)(hn:1<=n)(m7:pool.length=4)(Aa:∀d∈pool,d∈LL)(Lj:pool.Nodup)(hv:Lv M ns L a b P Q t k sd tk i z)(hi:i<100):Go M ns pool L P (i+1) (lB #[75] z):=by
 obtain⟨x,p,hp,H⟩:=U1 (o8:=o8) hM hn m7 Aa Lj hv
 by_cases hb:p=.back
 ·subst hb;exact Ha hM hn hv.app hi H
 ·by_cases hA:p=.again
  ·subst hA;exact E1 hM hn hv.app hi H
  ·exact Hb hM hn hv.app hi hp hb hA H
end
theorem Hc(hM:mK M n)(hn:1<=n)(ht:t.size<=100)(hz:mW M L a b t k sd tk z)(hs:sd.length<1000):∃z',C4 [.loc L,M.w,bF t.po] z=.ok (.bl true) z':=by
 suffices hh:kX (AJ fun w bt=>w=.bl true) (Of ([W.loc L,M.w,bF t.po].map some++List.replicate (6-3) none) z) by
  obtain⟨w,bt,e,rfl⟩:=hh
  exact⟨_,jh e⟩
 have hln:=Br t z
 cases t with
 |nil=>
  apply ec
  ·exact aR (bq (bR kn hln) bu (fg rfl))
  apply dZ
  ·exact bu
  ·exact⟨_,_,rfl,rfl⟩
 |nd l r m=>
  have h1:(ba [] (.nd l r m)).size<=900:=by show#[70].size<=900;omega
  have bo:=vE [] l r m h1 z
  have zZ:=MT.size_nd l r m
  obtain⟨N,hN⟩:∃N:Nat,N=100-#[70].size+l.size:=⟨_,rfl⟩
  have hq:((#[70].size:Nat):Int)-1=((pq [] l r:Nat):Int):=by show _=((0+l.size+r.size:Nat):Int);omega
  have q1:∀(ρ:cL),ρ[2]?=some (some (bF #[70].po))->e2 g9 (bw dm #[20]) (eI 1) ρ z=.ok (.int ((pq [] l r:Nat):Int)) z:=fun ρ h=>by
   rw[<- hq]
   exact bq (bR (ak (im h) aM) hln) bu rfl
  have h2:(ba [] (.nd (vF N) r m)).size=100:=by show(MT.nd (vF N) r m).size=100;rw[MT.size_nd,mX];omega
  obtain⟨z2,eb,hk2,h3⟩:=zV (C:=[]) (l:=l) (r:=r) (x:=vF N) (m:=m) (s:=true) hM hn (by show#[70].size<=100;exact ht) (by rw[mX];omega) (by show(ba [] (.nd (vF N) r m)).size<=100;omega) hz hs
  have rf:=pI (Oo (q:=pq [] l r) (s:=true) eb hz.ob (iw _ hz hk2)) (iw _ hz hk2)
  have bc:=wa [] l r (vF N) m true h1 (by rw[mX];omega) z2
  have hk3:mW M L a z.length (ba [] (.nd (vF N) r m)) _ _ [] z2:=hk2
  have sd2:=vD hM hn #[0] hk3 2
  have hln2:=Br #[70] z2
  apply bA
  ·exact aR (bq (bR kn hln) bu (fg (by rw[bh];omega)))
  apply b6
  apply az
  ·exact v_ (cf (ak kv (ak (q1 _ rfl) aM)) bo rfl) rfl
  have eN:e2 g9 (e2 cN (e2 g9 (eI 100) (bw dm #[20])) (ah 4)) (ah 3) [lO L,some M.w,some (bF #[70].po),iO ((pA []).length:Nat),iO ((pA []).length+l.size:Nat),none] z=.ok (.int (N:Nat)) z:=by
   have:((N:Nat):Int)=(100-(#[70].size:Nat):Int)+(((pA []).length+l.size:Nat):Int)-((pA []).length:Nat):=by
    show _=(100-(#[70].size:Nat):Int)+((0+l.size:Nat):Int)-((0:Nat):Int)
    omega
   rw[this]
   exact bq (bq (bq bu (bR kn hln) rfl) kv dX) kv rfl
  apply az
  ·exact be (cf (ak eN aM) (yr N #[0] z) rfl)
  apply bA
  ·exact aR (fB (cf (ak kv (ak (x:=(Pn.br (pq [] l r) true (vF N)).w) (c5 (ak bu (ak (q1 _ rfl) (ak bu kn))) #[41]) aM)) rf rfl) rfl)
  apply b6
  have q2:∀(ρ:cL),ρ[2]?=some (some (bF #[70].po))->e2 g9 (bw dm #[20]) (eI 1) ρ z2=.ok (.int ((pq [] l r:Nat):Int)) z2:=fun ρ h=>by
   rw[<- hq]
   exact bq (bR (ak (im h) aM) hln2) bu rfl
  apply bU
  ·exact cf (ak kv (ak kv (ak (cf (ak kv (ak (q2 _ rfl) (ak bu kn))) bc rfl) (ak bu aM)))) sd2 rfl
  ·exact⟨_,_,rfl,rfl⟩
end
theorem law_ok:Np f_q46:=by
 intro ns WH
 suffices hh:kX (AJ fun w bt=>w=.bl true) (Og ([W.loc 0].map some++List.replicate (9-1) none) [.ro #[33]]) by
  obtain⟨w,bt,e,rfl⟩:=hh
  exact⟨_,jh e⟩
 have h0:([ar.ro #[33]]:List ar)[0]?=some (.ro #[33]):=rfl
 have hl0:([ar.ro #[33]]:List ar).length=1:=rfl
 generalize hs0:([ar.ro #[33]]:List ar)=s0 at h0 hl0
 obtain⟨M,n,t,pool,hM,hn,hts,htg,m7,Aa,Lj,es⟩:=Kw h0
 apply az
 ·exact v_ (cf kn es rfl) rfl
 obtain⟨z1,ei,hk,Du⟩:=MQ hM hn (t:=t) #[0] s0
 rw[hl0]at hk
 apply az
 ·exact be (RA (ak kv kn) rfl ei)
 rw[hl0]
 have r0:z1[0]?=some (.ro #[33]):=pre_get Du h0
 apply az
 ·exact be (mz aM #[41])
 apply az
 ·exact be (mz aM #[41])
 have l1:=gf hk.u
 have pP:(z1++[ar.lst []]++[.lst []])[z1.length]?=some (.lst []):=cV c_
 have pQ:(z1++[ar.lst []]++[.lst []])[(z1++[ar.lst []]).length]?=some (.lst []):=c_
 have lQ:(z1++[ar.lst []]).length=z1.length+1:=by simp
 have r0':(z1++[ar.lst []]++[.lst []])[0]?=some (.ro #[33]):=cV (cV r0)
 rw[lQ]at pQ ⊢
 have hv:Lv M ns 1 2 3 z1.length (z1.length+1) t t.size [] [] 0 (z1++[ar.lst []]++[.lst []]):=⟨hk.app.app,r0',pP,pQ,trivial,trivial,htg,by omega,fun _ h=>(by cases h),fun _ h=>(by cases h),aC _,⟨by omega,by omega,by omega,by omega,by omega⟩,⟨by omega,by omega,by omega,by omega⟩,⟨by omega,by omega,by omega⟩⟩
 generalize z1.length=P at *
 generalize z1++[ar.lst []]++[.lst []]=z at *
 have hrange:∃m:Nat,m<=16/\dU (af (bw GN (af (eI 16) (af (bw Ea (af (eI 3) (af (e2 g9 #[58] (eI 4)) aA))) aA))) aA) (lR M t pool 1 P (P+1) none none) z=.ok (fL 0 m,none) z:=by
  have hln:=jr (t6 r0')
  have a1:af (bw GN (af (eI 16) (af (bw Ea (af (eI 3) (af (e2 g9 #[58] (eI 4)) aA))) aA))) aA (lR M t pool 1 P (P+1) none none) z=.ok [.int (if (if (#[33].length:Int)-4>3 then(#[33].length:Int)-4 else 3)<16 then(if (#[33].length:Int)-4>3 then(#[33].length:Int)-4 else 3)else 16)] z:=
   ak (bR (ak bu (ak (bR (ak bu (ak (bq (bR kn hln) bu rfl) aM)) TZ) aM)) rfl) aM
  generalize hq:(if (if (#[33].length:Int)-4>3 then(#[33].length:Int)-4 else 3)<16 then(if (#[33].length:Int)-4>3 then(#[33].length:Int)-4 else 3)else 16)=q at a1
  have hq1:0<=q/\q<=16:=by rw[<- hq];split<;>split<;>omega
  exact⟨q.toNat,by omega,jA a1 #[0]⟩
 obtain⟨m,hm,er⟩:=hrange
 obtain⟨ρ2,dz,e2',t',a,b,Q,k,sd,tk,o7,o8,rfl,hv2⟩:=zW (f:=jy 7) (body:=lB) (fun i ρ st=>∃t a b Q k sd tk o7 o8,ρ=lR M t pool 1 P Q o7 o8/\Lv M ns 1 a b P Q t k sd tk i st) (ws:=fL 0 m) (ρ:=lR M t pool 1 P (P+1) none none) (st:=z) 0 ⟨t,2,3,P+1,t.size,[],[],none,none,rfl,hv⟩ fun i w ρ st hw hI=>by
  obtain⟨t',a,b,Q,k,sd,tk,o7,o8,rfl,VP⟩:=hI
  obtain⟨hi,rfl⟩:=kY hw
  rw[pW]at VP ⊢
  obtain⟨t2,a2,b2,Q2,k2,sd2,tb2,p7,p8,z2,er2,hv2⟩:=MZ (o8:=o8) hM hn m7 Aa Lj VP #[0]
  refine⟨lR M t' pool 1 P Q (iO (i:Nat)) o8,lR M t2 pool 1 P Q2 p7 p8,z2,by rw[uL];rfl,er2,t2,a2,b2,Q2,k2,sd2,tb2,p7,p8,rfl,hv2⟩
 apply az
 ·exact(FQ er).trans e2'
 have hl2:=hv2.ln
 have hm2:(fL 0 m).length=m:=fj 0 m
 obtain⟨z9,e9⟩:=Hc hM hn hv2.sz hv2.ks #[0]
 apply bU
 ·exact cf (ak kv (ak kv kn)) e9 rfl
 ·exact⟨_,_,rfl,rfl⟩
theorem all_mk{l:PySem.W.OpenLaw}{w:World}{fa:Addr}(X:K.In h)(G:h.Ns mainGlobals mg)(Xu:mg "law"=some (.ref fa))
  {E3:Addr} {RG KC:Option Addr} {RY:Array (Option Value)} {RJ K9 KH La Fb K4:Value} {fD:Addr} {bI:Addr} {oP:Addr} {iC:Addr} {c8:Addr} {lc:Addr} {cI:Addr} {oQ:Addr} {oO:Addr} {bP:Addr} {iD:Addr} {za:Tok}
  (Fa:DefIn K "in_order" Qf)
  (Dm:DefIn K "letter_of" Qg)
  (E_:DefIn K "has_left" Qh)
  (Dr:DefIn K "has_right" Qi)
  (Fc:DefIn K "links_of" Qj)
  (KT:DefIn K "ups_of" Ql)
  (Hi:DefIn K "up_from" Qm)
  (E7:DefIn K "sizes_of" Qn)
  (ze:DefIn K "check_place" Qo)
  (By:DefIn K "check_size" Qp)
  (Hf:DefIn K "part_at" Jb)
  (y_:DefIn K "branches_at" Jc)
  (E5:DefIn K "with_top" Jd)
  (Bt:DefIn K "branch_put" Je)
  (Bw:DefIn K "room_below" Jf)
  (Hk:DefIn K "room_at" Jg)
  (Fe:DefIn K "rooms_of" Ji)
  (KD:DefIn K "turned" Jj)
  (Bv:DefIn K "with_marks" Jl)
  (yx:DefIn K "branch_rooms" Jm)
  (Hg:DefIn K "climbed" Jn)
  (Dz:DefIn K "_law_cell" Jo)
  (Bu:DefIn K "_law_mixed" Jp)
  (BF:DefIn K "_law_draws" Jr)
  (Dq:DefIn K "_law_same" Js)
  (Dw:DefIn K "_law_pool" Jv)
  (Bs:DefIn K "_law_marks" Jw)
  (Do:DefIn K "_law_tree" Jx)
  (Bx:DefIn K "_law_links" Jy)
  (yC:DefIn K "_law_machine" Jz)
  (zg:DefIn K "_law_letter" JA)
  (E8:DefIn K "_law_run" JB)
  (Ds:DefIn K "_law_lets" JC)
  (Bz:DefIn K "_law_sizes" JD)
  (zb:DefIn K "_law_bounds" JE)
  (wF:DefIn K "_law_branched" JF)
  (BC:DefIn K "_law_start" JG)
  (yw:DefIn K "_law_planned" JH)
  (yz:DefIn K "_law_changed" JI)
  (BE:DefIn K "_law_doing" JJ)
  (zd:DefIn K "_law_stands" JK)
  (yA:DefIn K "_law_refused" JL)
  (zf:DefIn K "_law_row_of" JM)
  (E4:DefIn K "_law_bad" JN)
  (BD:DefIn K "_law_stays" JO)
  (vI:DefIn K "_law_filled_up" JP)
  (OB:nsIn K mainGlobals "law"=some (some (.ref E3)))
  (Vn:K.lookup E3=some ⟨RJ,RG,.func (fnOf "law" "law" (je uh) (hZ uh) (aQ uh) .none K9 KH La KC Fb K4),RY⟩)
  (Hh:codeIn K Fb "law"=true)
  (U9:keepIn K (.ref E3)=true)
  (jT:nsIn K mainGlobals "Kept"=some (some (.ref fD)))
  (cl_Kept:L2.Cls K fD)
  (wD:findIn K (.ref fD) "machine"=some none)
  (BI:findIn K (.ref fD) "many"=some none)
  (y7:findIn K (.ref fD) "rooms"=some none)
  (vL:findIn K (.ref fD) "standing"=some none)
  (tw:findIn K (.ref fD) "taken_back"=some none)
  (BG:findIn K (.ref fD) "tree"=some none)
  (M0:makesIn K fD=true)
  (M1:keepIn K (.ref fD)=true)
  (dm_Kept___init__:DefM K fD "Kept.__init__" "__init__" lZ)
  (dm_Kept_carry_out:DefM K fD "Kept.carry_out" "carry_out" kZ)
  (dm_Kept_do_deed:DefM K fD "Kept.do_deed" "do_deed" mU)
  (dm_Kept_mark_deed:DefM K fD "Kept.mark_deed" "mark_deed" k6)
  (dm_Kept_put:DefM K fD "Kept.put" "put" sZ)
  (dm_Kept_take:DefM K fD "Kept.take" "take" qR)
  (dm_Kept_branch:DefM K fD "Kept.branch" "branch" n6)
  (dm_Kept_whole:DefM K fD "Kept.whole" "whole" pi)
  (dm_Kept_back:DefM K fD "Kept.back" "back" qT)
  (dm_Kept_again:DefM K fD "Kept.again" "again" pw)
  (dm_Kept_tree_now:DefM K fD "Kept.tree_now" "tree_now" l9)
  (dm_Kept_rooms_now:DefM K fD "Kept.rooms_now" "rooms_now" k7)
  (dm_Kept_lets_now:DefM K fD "Kept.lets_now" "lets_now" l_)
  (dm_Kept_reckoned:DefM K fD "Kept.reckoned" "reckoned" ma)
  (eO:nsIn K mainGlobals "TrunkError"=some (some (.ref bI)))
  (KQ:nsIn K mainGlobals "NoTree"=some (some (.ref oP)))
  (y8:nsIn K mainGlobals "NoStatement"=some (some (.ref iC)))
  (j7:nsIn K mainGlobals "NoPlace"=some (some (.ref c8)))
  (E9:nsIn K mainGlobals "NoNumber"=some (some (.ref lc)))
  (i_:nsIn K mainGlobals "TooGreat"=some (some (.ref cI)))
  (KR:nsIn K mainGlobals "NoName"=some (some (.ref oQ)))
  (KU:nsIn K mainGlobals "NoLine"=some (some (.ref oO)))
  (fN:nsIn K mainGlobals "NothingDone"=some (some (.ref bP)))
  (zc:nsIn K mainGlobals "NothingHeld"=some (some (.ref iD)))
  (x_TrunkError:excIn K bI rY si=true)
  (jD:findIn K (.ref bI) "__getattribute__"=some #[34])
  (jC:findIn K (.ref bI) "__getattr__"=some none)
  (jB:findIn K (.ref bI) "__class__"=some (some #[29]))
  (w_TrunkError_NoPlace:kitOne K (.ref bI) (.ref c8)=some false)
  (w_TrunkError_NothingDone:kitOne K (.ref bI) (.ref bP)=some false)
  (w_TrunkError_TooGreat:kitOne K (.ref bI) (.ref cI)=some false)
  (w_TrunkError_t0:kitAny K (.ref bI) ([oP,iC,lc,oQ,oO,iD].map Value.ref)=some false)
  (w_TrunkError_VE:kitOne K (.ref bI) (.type "ValueError")=some true)
  (x_NoPlace:excIn K c8 rY si=true)
  (m5:findIn K (.ref c8) "__getattribute__"=some #[34])
  (mZ:findIn K (.ref c8) "__getattr__"=some none)
  (m6:findIn K (.ref c8) "__class__"=some (some #[29]))
  (w_NoPlace_NoPlace:kitOne K (.ref c8) (.ref c8)=some true)
  (w_NoPlace_NothingDone:kitOne K (.ref c8) (.ref bP)=some false)
  (w_NoPlace_TooGreat:kitOne K (.ref c8) (.ref cI)=some false)
  (w_NoPlace_t0:kitAny K (.ref c8) ([oP,iC,lc,oQ,oO,iD].map Value.ref)=some false)
  (w_NoPlace_VE:kitOne K (.ref c8) (.type "ValueError")=some true)
  (x_TooGreat:excIn K cI rY si=true)
  (lH:findIn K (.ref cI) "__getattribute__"=some #[34])
  (lK:findIn K (.ref cI) "__getattr__"=some none)
  (lI:findIn K (.ref cI) "__class__"=some (some #[29]))
  (w_TooGreat_NoPlace:kitOne K (.ref cI) (.ref c8)=some false)
  (w_TooGreat_NothingDone:kitOne K (.ref cI) (.ref bP)=some false)
  (w_TooGreat_TooGreat:kitOne K (.ref cI) (.ref cI)=some true)
  (w_TooGreat_t0:kitAny K (.ref cI) ([oP,iC,lc,oQ,oO,iD].map Value.ref)=some false)
  (w_TooGreat_VE:kitOne K (.ref cI) (.type "ValueError")=some true)
  (x_NothingDone:excIn K bP rY si=true)
  (ja:findIn K (.ref bP) "__getattribute__"=some #[34])
  (jb:findIn K (.ref bP) "__getattr__"=some none)
  (i':findIn K (.ref bP) "__class__"=some (some #[29]))
  (w_NothingDone_NoPlace:kitOne K (.ref bP) (.ref c8)=some false)
  (w_NothingDone_NothingDone:kitOne K (.ref bP) (.ref bP)=some true)
  (w_NothingDone_TooGreat:kitOne K (.ref bP) (.ref cI)=some false)
  (w_NothingDone_t0:kitAny K (.ref bP) ([oP,iC,lc,oQ,oO,iD].map Value.ref)=some false)
  (w_NothingDone_VE:kitOne K (.ref bP) (.type "ValueError")=some true)
  (u_TrunkError_TrunkError:(Cp K bI).contains (.ref bI)=true)
  (u_NoPlace_TrunkError:(Cp K c8).contains (.ref bI)=true)
  (u_TooGreat_TrunkError:(Cp K cI).contains (.ref bI)=true)
  (u_NothingDone_TrunkError:(Cp K bP).contains (.ref bI)=true)
  (BB:nsIn K mainGlobals "ValueError"=some none)
  (RX:nsIn K mainGlobals "bool"=some none)
  (Dx:nsIn K mainGlobals "enumerate"=some none)
  (Vf:nsIn K mainGlobals "int"=some none)
  (BJ:nsIn K mainGlobals "isinstance"=some none)
  (Vg:nsIn K mainGlobals "len"=some none)
  (RV:nsIn K mainGlobals "list"=some none)
  (Vi:nsIn K mainGlobals "max"=some none)
  (U7:nsIn K mainGlobals "min"=some none)
  (M5:nsIn K mainGlobals "range"=some none)
  (U4:nsIn K mainGlobals "set"=some none)
  (KY:nsIn K mainGlobals "sorted"=some none)
  (Vm:nsIn K mainGlobals "str"=some none)
  (M6:nsIn K mainGlobals "tuple"=some none)
  (Vl:nsIn K mainGlobals "zip"=some none)
  (y9:nsIn K mainGlobals "MOST_PLACES"=some (some (.int 100 za))) :
  ∃fd:FuncData,fd.scope.names.lookup ("_law_script":Str)=some .local/\(∀(s:Shared) (v:Value),BindsTo s fd ⟨[v],[]⟩ [("_law_script",v)])/\∀base:Heap,K.In base->base.Ns mainGlobals mg->c9 l.prog w K mg base (iB l.prog w) 43 fa fd JQ (iV K mg 1 f_q46):=by
 have e:=Xu.symm.trans (mg_of X G OB)
 cases e
 obtain⟨_,_,F_q0,m_q0⟩:=Fa.fn X G
 obtain⟨_,_,F_q1,m_q1⟩:=Dm.fn X G
 obtain⟨_,_,F_q2,m_q2⟩:=E_.fn X G
 obtain⟨_,_,F_q3,m_q3⟩:=Dr.fn X G
 obtain⟨_,_,F_q4,m_q4⟩:=Fc.fn X G
 obtain⟨_,_,F_q5,m_q5⟩:=KT.fn X G
 obtain⟨_,_,F_q6,m_q6⟩:=Hi.fn X G
 obtain⟨_,_,F_q7,m_q7⟩:=E7.fn X G
 obtain⟨_,_,F_q8,m_q8⟩:=ze.fn X G
 obtain⟨_,_,F_q9,m_q9⟩:=By.fn X G
 obtain⟨_,_,F_q10,m_q10⟩:=Hf.fn X G
 obtain⟨_,_,F_q11,m_q11⟩:=y_.fn X G
 obtain⟨_,_,F_q12,m_q12⟩:=E5.fn X G
 obtain⟨_,_,F_q13,m_q13⟩:=Bt.fn X G
 obtain⟨_,_,F_q14,m_q14⟩:=Bw.fn X G
 obtain⟨_,_,F_q15,m_q15⟩:=Hk.fn X G
 obtain⟨_,_,F_q16,m_q16⟩:=Fe.fn X G
 obtain⟨_,_,F_q17,m_q17⟩:=KD.fn X G
 obtain⟨_,_,F_q18,m_q18⟩:=Bv.fn X G
 obtain⟨_,_,F_q19,m_q19⟩:=yx.fn X G
 obtain⟨_,_,F_q20,m_q20⟩:=Hg.fn X G
 obtain⟨_,_,F_q21,m_q21⟩:=Dz.fn X G
 obtain⟨_,_,F_q22,m_q22⟩:=Bu.fn X G
 obtain⟨_,_,F_q23,m_q23⟩:=BF.fn X G
 obtain⟨_,_,Ae,Dp⟩:=Dq.fn X G
 obtain⟨_,_,F_q25,m_q25⟩:=Dw.fn X G
 obtain⟨_,_,F_q26,m_q26⟩:=Bs.fn X G
 obtain⟨_,_,F_q27,m_q27⟩:=Do.fn X G
 obtain⟨_,_,F_q28,m_q28⟩:=Bx.fn X G
 obtain⟨_,_,F_q29,m_q29⟩:=yC.fn X G
 obtain⟨_,_,F_q30,m_q30⟩:=zg.fn X G
 obtain⟨_,_,F_q31,m_q31⟩:=E8.fn X G
 obtain⟨_,_,F_q32,m_q32⟩:=Ds.fn X G
 obtain⟨_,_,F_q33,m_q33⟩:=Bz.fn X G
 obtain⟨_,_,F_q34,m_q34⟩:=zb.fn X G
 obtain⟨_,_,F_q35,m_q35⟩:=wF.fn X G
 obtain⟨_,_,F_q36,m_q36⟩:=BC.fn X G
 obtain⟨_,_,F_q37,m_q37⟩:=yw.fn X G
 obtain⟨_,_,F_q38,m_q38⟩:=yz.fn X G
 obtain⟨_,_,F_q39,m_q39⟩:=BE.fn X G
 obtain⟨_,_,F_q40,m_q40⟩:=zd.fn X G
 obtain⟨_,_,F_q41,m_q41⟩:=yA.fn X G
 obtain⟨_,_,F_q42,m_q42⟩:=zf.fn X G
 obtain⟨_,_,F_q43,m_q43⟩:=E4.fn X G
 obtain⟨_,_,F_q44,m_q44⟩:=BD.fn X G
 obtain⟨_,_,F_q45,m_q45⟩:=vI.fn X G
 have F_q46:=Ao (st:=uh) Vn Hh U9
 have m_q46:=mg_of X G OB
 have B:Bl mg:=⟨mg_none_of X G BB,mg_none_of X G RX,mg_none_of X G Dx,mg_none_of X G Vf,mg_none_of X G BJ,mg_none_of X G Vg,mg_none_of X G RV,mg_none_of X G Vi,mg_none_of X G U7,mg_none_of X G M5,mg_none_of X G U4,mg_none_of X G KY,mg_none_of X G Vm,mg_none_of X G M6,mg_none_of X G Vl⟩
 have C:Cls K mg:=⟨⟨bI,mg_of X G eO,x_TrunkError⟩,⟨c8,mg_of X G j7,x_NoPlace⟩,⟨cI,mg_of X G i_,x_TooGreat⟩,⟨bP,mg_of X G fN,x_NothingDone⟩,⟨c8,mg_of X G j7,⟨fun c b hb=>by by_cases e0:c="TrunkError";(· subst e0;rw[show jQ "TrunkError"=some false from by decide +kernel]at hb;cases hb;exact⟨bI,mg_of X G eO,x_TrunkError,⟨jD,jC,jB⟩,w_TrunkError_NoPlace⟩);by_cases e1:c="NoPlace";(· subst e1;rw[show jQ "NoPlace"=some true from by decide +kernel]at hb;cases hb;exact⟨c8,mg_of X G j7,x_NoPlace,⟨m5,mZ,m6⟩,w_NoPlace_NoPlace⟩);by_cases e2:c="TooGreat";(· subst e2;rw[show jQ "TooGreat"=some false from by decide +kernel]at hb;cases hb;exact⟨cI,mg_of X G i_,x_TooGreat,⟨lH,lK,lI⟩,w_TooGreat_NoPlace⟩);by_cases e3:c="NothingDone";(· subst e3;rw[show jQ "NothingDone"=some false from by decide +kernel]at hb;cases hb;exact⟨bP,mg_of X G fN,x_NothingDone,⟨ja,jb,i'⟩,w_NothingDone_NoPlace⟩);simp only[jQ,e0,e1,e2,e3,gu,reduceCtorEq]at hb⟩⟩,⟨bP,mg_of X G fN,⟨fun c b hb=>by by_cases e0:c="TrunkError";(· subst e0;rw[show fU "TrunkError"=some false from by decide +kernel]at hb;cases hb;exact⟨bI,mg_of X G eO,x_TrunkError,⟨jD,jC,jB⟩,w_TrunkError_NothingDone⟩);by_cases e1:c="NoPlace";(· subst e1;rw[show fU "NoPlace"=some false from by decide +kernel]at hb;cases hb;exact⟨c8,mg_of X G j7,x_NoPlace,⟨m5,mZ,m6⟩,w_NoPlace_NothingDone⟩);by_cases e2:c="TooGreat";(· subst e2;rw[show fU "TooGreat"=some false from by decide +kernel]at hb;cases hb;exact⟨cI,mg_of X G i_,x_TooGreat,⟨lH,lK,lI⟩,w_TooGreat_NothingDone⟩);by_cases e3:c="NothingDone";(· subst e3;rw[show fU "NothingDone"=some true from by decide +kernel]at hb;cases hb;exact⟨bP,mg_of X G fN,x_NothingDone,⟨ja,jb,i'⟩,w_NothingDone_NothingDone⟩);simp only[fU,e0,e1,e2,e3,gu,reduceCtorEq]at hb⟩⟩,⟨cI,mg_of X G i_,⟨fun c b hb=>by by_cases e0:c="TrunkError";(· subst e0;rw[show i7 "TrunkError"=some false from by decide +kernel]at hb;cases hb;exact⟨bI,mg_of X G eO,x_TrunkError,⟨jD,jC,jB⟩,w_TrunkError_TooGreat⟩);by_cases e1:c="NoPlace";(· subst e1;rw[show i7 "NoPlace"=some false from by decide +kernel]at hb;cases hb;exact⟨c8,mg_of X G j7,x_NoPlace,⟨m5,mZ,m6⟩,w_NoPlace_TooGreat⟩);by_cases e2:c="TooGreat";(· subst e2;rw[show i7 "TooGreat"=some true from by decide +kernel]at hb;cases hb;exact⟨cI,mg_of X G i_,x_TooGreat,⟨lH,lK,lI⟩,w_TooGreat_TooGreat⟩);by_cases e3:c="NothingDone";(· subst e3;rw[show i7 "NothingDone"=some false from by decide +kernel]at hb;cases hb;exact⟨bP,mg_of X G fN,x_NothingDone,⟨ja,jb,i'⟩,w_NothingDone_TooGreat⟩);simp only[i7,e0,e1,e2,e3,gu,reduceCtorEq]at hb⟩⟩,⟨oP,iC,lc,oQ,oO,iD,mg_of X G KQ,mg_of X G y8,mg_of X G E9,mg_of X G KR,mg_of X G KU,mg_of X G zc,⟨fun c b hb=>by by_cases e0:c="TrunkError";(· subst e0;rw[show x6 "TrunkError"=some false from by decide +kernel]at hb;cases hb;exact⟨bI,mg_of X G eO,x_TrunkError,⟨jD,jC,jB⟩,w_TrunkError_t0⟩);by_cases e1:c="NoPlace";(· subst e1;rw[show x6 "NoPlace"=some false from by decide +kernel]at hb;cases hb;exact⟨c8,mg_of X G j7,x_NoPlace,⟨m5,mZ,m6⟩,w_NoPlace_t0⟩);by_cases e2:c="TooGreat";(· subst e2;rw[show x6 "TooGreat"=some false from by decide +kernel]at hb;cases hb;exact⟨cI,mg_of X G i_,x_TooGreat,⟨lH,lK,lI⟩,w_TooGreat_t0⟩);by_cases e3:c="NothingDone";(· subst e3;rw[show x6 "NothingDone"=some false from by decide +kernel]at hb;cases hb;exact⟨bP,mg_of X G fN,x_NothingDone,⟨ja,jb,i'⟩,w_NothingDone_t0⟩);simp only[x6,e0,e1,e2,e3,gu,reduceCtorEq]at hb⟩⟩,⟨fun c b hb=>by by_cases e0:c="TrunkError";(· subst e0;rw[show gB "TrunkError"=some true from by decide +kernel]at hb;cases hb;exact⟨bI,mg_of X G eO,x_TrunkError,⟨jD,jC,jB⟩,w_TrunkError_VE⟩);by_cases e1:c="NoPlace";(· subst e1;rw[show gB "NoPlace"=some true from by decide +kernel]at hb;cases hb;exact⟨c8,mg_of X G j7,x_NoPlace,⟨m5,mZ,m6⟩,w_NoPlace_VE⟩);by_cases e2:c="TooGreat";(· subst e2;rw[show gB "TooGreat"=some true from by decide +kernel]at hb;cases hb;exact⟨cI,mg_of X G i_,x_TooGreat,⟨lH,lK,lI⟩,w_TooGreat_VE⟩);by_cases e3:c="NothingDone";(· subst e3;rw[show gB "NothingDone"=some true from by decide +kernel]at hb;cases hb;exact⟨bP,mg_of X G fN,x_NothingDone,⟨ja,jb,i'⟩,w_NothingDone_VE⟩);simp only[gB,e0,e1,e2,e3,gu,reduceCtorEq]at hb⟩,⟨fun c hc=>by simp only[aT,eh,lT]at hc;rcases hc with rfl|rfl|rfl|rfl;(· exact⟨bI,bI,mg_of X G eO,mg_of X G eO,x_TrunkError,x_TrunkError,u_TrunkError_TrunkError⟩);(· exact⟨c8,bI,mg_of X G j7,mg_of X G eO,x_NoPlace,x_TrunkError,u_NoPlace_TrunkError⟩);(· exact⟨cI,bI,mg_of X G i_,mg_of X G eO,x_TooGreat,x_TrunkError,u_TooGreat_TrunkError⟩);(· exact⟨bP,bI,mg_of X G fN,mg_of X G eO,x_NothingDone,x_TrunkError,u_NothingDone_TrunkError⟩)⟩⟩
 have O:Ow K mg:=⟨⟨fD,mg_of X G jT,cl_Kept,fun f hf=>by simp only[aT,eh,lT]at hf;rcases hf with rfl|rfl|rfl|rfl|rfl|rfl;(· exact wD);(· exact BI);(· exact y7);(· exact vL);(· exact tw);(· exact BG)⟩⟩
 have Gg:Gc K mg:=⟨⟨_,.int 100,mg_of X G y9,⟨_,rfl⟩,fun μ H=>.int⟩⟩
 refine⟨fnOf "law" "law" (je uh) (hZ uh) (aQ uh) .none K9 KH La KC Fb K4,rfl,fun s v=>.of_eq rfl,fun base _ _=>?_⟩
 have RL:bV l.prog w K mg base 1 "in_order" 1 JR:=cP F_q0 m_q0 (Uj F_q0 B)
 have RI:bV l.prog w K mg base 1 "letter_of" 2 JS:=cP F_q1 m_q1 (Ul F_q1)
 have RT:bV l.prog w K mg base 1 "has_left" 1 Bb:=cP F_q2 m_q2 (Um F_q2)
 have He:bV l.prog w K mg base 1 "has_right" 1 x8:=cP F_q3 m_q3 (Uo F_q3)
 have wC:bV l.prog w K mg base 2 "links_of" 1 x9:=cP F_q4 m_q4 (Ur F_q4 B  RT He)
 have RU:bV l.prog w K mg base 3 "ups_of" 1 JT:=cP F_q5 m_q5 (Us F_q5 B  wC)
 have RQ:bV l.prog w K mg base 1 "up_from" 2 GZ:=cP F_q6 m_q6 (Ut F_q6)
 have Hj:bV l.prog w K mg base 3 "sizes_of" 1 EA:=cP F_q7 m_q7 (Uv F_q7 B  wC)
 have BA:bV l.prog w K mg base 1 "check_place" 2 yY:=cP F_q8 m_q8 (Uw F_q8 B C)
 have RW:bV l.prog w K mg base 1 "check_size" 1 EB:=cP F_q9 m_q9 (Ux F_q9 Gg C)
 have K':bV l.prog w K mg base 4 "part_at" 2 v5:=cP F_q10 m_q10 (QD F_q10   BA Hj)
 have yu:bV l.prog w K mg base 5 "branches_at" 2 qY:=cP F_q11 m_q11 (QF F_q11 B  He K' Hj)
 have K7:bV l.prog w K mg base 1 "with_top" 3 CP:=cP F_q12 m_q12 (QH F_q12 B)
 have K6:bV l.prog w K mg base 6 "branch_put" 4 v7:=cP F_q13 m_q13 (QJ F_q13 B  yu RW K7)
 have F9:bV l.prog w K mg base 1 "room_below" 2 zH:=cP F_q14 m_q14 (QK F_q14)
 have Ab:bV l.prog w K mg base 2 "room_at" 4 ui:=cP F_q15 m_q15 (QL F_q15   RI F9)
 have sF:bV l.prog w K mg base 3 "rooms_of" 2 qd:=cP F_q16 m_q16 (QM F_q16 B  wC Ab)
 have Lc:bV l.prog w K mg base 1 "turned" 1 CS:=cP F_q17 m_q17 (QN F_q17)
 have KP:bV l.prog w K mg base 1 "with_marks" 3 CT:=cP F_q18 m_q18 (QO F_q18)
 have K1:bV l.prog w K mg base 6 "branch_rooms" 3 zI:=cP F_q19 m_q19 (QP F_q19 B  yu sF)
 have KI:bV l.prog w K mg base 4 "climbed" 4 CU:=cP F_q20 m_q20 (QQ F_q20 B  wC Ab RQ RU)
 have mi:Mw l.prog w K mg base 4 "Kept" 3 ip:=P9 dm_Kept___init__ (mg_of X G jT) M0 M1 (fun F=>vq F B O sF)
 have dR:iG l.prog w K mg base 7 "Kept" "carry_out" 2 dQ:=kW dm_Kept_carry_out (mg_of X G jT) cl_Kept (fun F=>uj F B O K1 KI sF)
 have eQ:iG l.prog w K mg base 8 "Kept" "do_deed" 2 eK:=kW dm_Kept_do_deed (mg_of X G jT) cl_Kept (fun F=>ww F O dR)
 have fQ:iG l.prog w K mg base 9 "Kept" "mark_deed" 3 fm:=kW dm_Kept_mark_deed (mg_of X G jT) cl_Kept (fun F=>uk F O eQ KP)
 have tq:iG l.prog w K mg base 10 "Kept" "put" 3 jR:=kW dm_Kept_put (mg_of X G jT) cl_Kept (fun F=>CV F O fQ BA RL)
 have rk:iG l.prog w K mg base 10 "Kept" "take" 3 i8:=kW dm_Kept_take (mg_of X G jT) cl_Kept (fun F=>Bc F O fQ BA)
 have og:iG l.prog w K mg base 9 "Kept" "branch" 4 gC:=kW dm_Kept_branch (mg_of X G jT) cl_Kept (fun F=>ya F B O eQ K6)
 have pL:iG l.prog w K mg base 9 "Kept" "whole" 2 ji:=kW dm_Kept_whole (mg_of X G jT) cl_Kept (fun F=>yZ F O eQ)
 have rh:iG l.prog w K mg base 8 "Kept" "back" 1 i9:=kW dm_Kept_back (mg_of X G jT) cl_Kept (fun F=>Bf F B C O dR Lc)
 have pJ:iG l.prog w K mg base 8 "Kept" "again" 1 ib:=kW dm_Kept_again (mg_of X G jT) cl_Kept (fun F=>y0 F B C O dR)
 have mj:iG l.prog w K mg base 1 "Kept" "tree_now" 1 iq:=kW dm_Kept_tree_now (mg_of X G jT) cl_Kept (fun F=>vw F O)
 have lh:iG l.prog w K mg base 1 "Kept" "rooms_now" 1 gU:=kW dm_Kept_rooms_now (mg_of X G jT) cl_Kept (fun F=>ul F O)
 have mh:iG l.prog w K mg base 1 "Kept" "lets_now" 1 iu:=kW dm_Kept_lets_now (mg_of X G jT) cl_Kept (fun F=>vy F B O)
 have jG:iG l.prog w K mg base 1 "Kept" "reckoned" 1 gk:=kW dm_Kept_reckoned (mg_of X G jT) cl_Kept (fun F=>vz F O)
 have qf:bV l.prog w K mg base 1 "_law_cell" 2 nK:=cP F_q21 m_q21 (QR F_q21 B)
 have KO:bV l.prog w K mg base 1 "_law_mixed" 3 zJ:=cP F_q22 m_q22 (QT F_q22)
 have nM:bV l.prog w K mg base 2 "_law_draws" 3 kO:=cP F_q23 m_q23 (QU F_q23 B  KO)
 have rj:=FV (P:=l.prog) (w:=w) (base:=base) Ae Dp B  40
 have KN:bV l.prog w K mg base 3 "_law_pool" 3 zK:=cP F_q25 m_q25 (QV F_q25 B  nM)
 have Lb:bV l.prog w K mg base 1 "_law_marks" 2 CY:=cP F_q26 m_q26 (QW F_q26 B)
 have Ac:bV l.prog w K mg base 2 "_law_tree" 2 yb:=cP F_q27 m_q27 (QX F_q27 B  Lb)
 have K5:bV l.prog w K mg base 1 "_law_links" 1 CZ:=cP F_q28 m_q28 (QY F_q28 B)
 have KG:bV l.prog w K mg base 1 "_law_machine" 4 C0:=cP F_q29 m_q29 (QZ F_q29 B)
 have KL:bV l.prog w K mg base 1 "_law_letter" 2 zL:=cP F_q30 m_q30 (Q0 F_q30 B)
 have zX:bV l.prog w K mg base 2 "_law_run" 2 yc:=cP F_q31 m_q31 (Q1 F_q31   KL)
 have KM:bV l.prog w K mg base 3 "_law_lets" 2 C1:=cP F_q32 m_q32 (Q3 F_q32 B  zX)
 have K2:bV l.prog w K mg base 1 "_law_sizes" 1 C2:=cP F_q33 m_q33 (Q4 F_q33)
 have uD:bV l.prog w K mg base 2 "_law_bounds" 2 sD:=cP F_q34 m_q34 (Q5 F_q34   K5 K2)
 have z_:bV l.prog w K mg base 3 "_law_branched" 4 yd:=cP F_q35 m_q35 (Q6 F_q35 B  uD)
 have KZ:bV l.prog w K mg base 4 "_law_start" 1 C3:=cP F_q36 m_q36 (Q7 F_q36 B  qf nM KG KN Ac)
 have KJ:bV l.prog w K mg base 3 "_law_planned" 5 v9:=cP F_q37 m_q37 (Q8 F_q37 B  qf nM Ac)
 have F_:bV l.prog w K mg base 4 "_law_changed" 2 q9:=cP F_q38 m_q38 (Q9 F_q38 B  z_)
 have K8:bV l.prog w K mg base 11 "_law_doing" 2 kP:=cP F_q39 m_q39 (Q_ F_q39   pJ rh og tq rk pL)
 have uE:bV l.prog w K mg base 41 "_law_stands" 4 q_:=cP F_q40 m_q40 (Ra F_q40 B  mh lh mj KM zX rj)
 have uC:bV l.prog w K mg base 12 "_law_refused" 2 nL:=cP F_q41 m_q41 (Rb F_q41 B C  K8)
 have yt:bV l.prog w K mg base 1 "_law_row_of" 1 sE:=cP F_q42 m_q42 (Rc F_q42 B)
 have KW:bV l.prog w K mg base 3 "_law_bad" 5 yf:=cP F_q43 m_q43 (Re F_q43 B  uD qf nM yt)
 have KF:bV l.prog w K mg base 42 "_law_stays" 5 yg:=cP F_q44 m_q44 (Rf F_q44   jG uC rj uE)
 have KB:bV l.prog w K mg base 42 "_law_filled_up" 3 C4:=cP F_q45 m_q45 (Rg F_q45 B  uD z_ uC yt uE)
 exact Rh F_q46 B  mi KW F_ KB KJ uC uE KZ KF
end P
end
namespace PySem.W.Fast
def tw4483769889745293663:=0
def tw6709009307286148188:=0
def tw3394065279423588314:=0
def tw17362796606201158522:=0
def tw12663816279849171063:=0
def tw1638270834239951638:=0
def tw2682085434615062677:=0
def tw15605951130325974132:=0
def tw7898107261424092212:=0
def tw12376874584295604211:=0
def tw13536672017696232435:=0
def tw1995203012811736627:=0
def tw9678933120081636371:=0
def tw2278729840614656114:=0
def tw627056917903922096:=0
def tw16520880944355517264:=0
def tw14699622002876093968:=0
def tw5474318007493432624:=0
def tw5560615266811084559:=0
def tw12989538866543571470:=0
def tw4854842587753420045:=0
def tw354306827755132875:=0
def tw10397178422736048811:=0
def tw3109096697911533163:=0
def tw12450714358726853386:=0
def tw12386357367923917322:=0
def tw17022658315721575626:=0
def tw16602530715149578185:=0
def tw13444896180877193065:=0
def tw3972220189879515209:=0
def tw9183540455068930760:=0
def tw9693086423427387496:=0
def tw2756921657451780069:=0
def tw11288870742386302181:=0
def tw9388184334693870788:=0
def tw16251267718129647331:=0
def tw4778719338236579906:=0
def tw9694005588281385281:=0
def tw16354803358128852118:=0
def tw3151205898209611975:=0
def tw2276620589170373298:=0
def tw11622891289286679909:=0
def tw7000787618762441870:=0
def tw7715471901061970533:=0
def tw15335828035155575205:=0
def tw5161103002304841800:=0
def tw12103001807330855404:=0
def tw13739874020471704789:=0
def tw11377799364160647229:=0
def tw15724573387319557321:=0
def tw17595526707791735268:=0
def tw950288686746579542:=0
def tw13874524352610326301:=0
def tw6743998850061568562:=0
def tw10731863359706144029:=0
def tw9024391211698736437:=0
def tw7843038408683636321:=0
def tw16941708415083734578:=0
def tw18281506064393213367:=0
def tw14833233576002342474:=0
def tw16745852280384843246:=0
def tw3134446272044600702:=0
def tw16856108902042583633:=0
def tw3115846241852191918:=0
def tw5995315079731685964:=0
def tw16526774606356803399:=0
def tw8268156265067272743:=0
def tw3165863474258382986:=0
def tw17584682358457924707:=0
def tw1549331905309158323:=0
def tw2456932281262864824:=0
def tw7845171439873232628:=0
def tw2325930382942598914:=0
def tw11709396297812433592:=0
def tw11431111644183657635:=0
def tw1573771934205661310:=0
def tw16068739952100224570:=0
def tw15880623623629801601:=0
def tw6295867287523115029:=0
def tw2036209514525855848:=0
def tw7644983474778461385:=0
def tw6607901554188813508:=0
def tw5282290287365242843:=0
def tw7434054059404118115:=0
def tw2789055480967660869:=0
def tw14274108449073431932:=0
def tw6945736320058076872:=0
def tw11626824320595119509:=0
def tw1112353122475947809:=0
def tw7373063315527575117:=0
def tw16212893729024082546:=0
def tw16613670440069057184:=0
def tw7637480772627488507:=0
def tw17672628116689642274:=0
def tw17916736359757910867:=0
def tw16279402121960521132:=0
def tw18412252895387998430:=0
def tw1996606443770810954:=0
def tw10242821667209169306:=0
def tw17719189650454753021:=0
def tw16407222182198739923:=0
def tw8212563147284986161:=0
def tw8649257179046484785:=0
def tw9310408020203497168:=0
def tw10192092483626516263:=0
def tw1717523993928530227:=0
def tw15287836714460080472:=0
def tw2281050989160073750:=0
def tw15944929035441789600:=0
def tw4213076970543707537:=0
def tw4239921092508110208:=0
def tw13002588245877933325:=0
def tw50230104651744711:=0
def tw6964369039229786981:=0
def tw2517088992490104827:=0
def tw5455039652461791190:=0
def tw3701404895277754976:=0
def tw14780085456473185794:=0
def tw10033254087181052246:=0
def tw18103247208970128191:=0
def tw17890369767295522356:=0
def tw6575578717156029536:=0
def tw4923714477119827596:=0
def tw8548851839114064690:=0
def tw1231469790752817260:=0
def tw10977991737953608942:=0
def tw7679501970823084158:=0
def tw14160051142807461420:=0
def tw16982050633228990573:=0
def tw7012191478907068805:=0
def tw11362204695842889138:=0
def tw14512490862698235998:=0
def tw8787243658419670798:=0
def tw4424597499093191642:=0
def tw17466131734498870475:=0
def tw17459765356554835109:=0
def tw4164505917371108771:=0
def tw15004630282104209542:=0
def tw13437284124784210381:=0
def tw10669229139120233335:=0
def tw15525600762749072202:=0
def tw16050605097602370195:=0
def tw16598590098548308584:=0
def tw16269571511381622847:=0
def tw5989352990172617600:=0
def tw16024397022260360944:=0
def tw16910104052754882246:=0
def tw5986678517107672587:=0
def tw16710920940399185159:=0
def tw13167369992864141671:=0
def tw12895734915157083125:=0
def tw16784224670691046000:=0
def tw6655713560910044309:=0
def tw2005652136571222794:=0
def tw1514867612497595075:=0
def tw6674354543535857032:=0
def tw8985526217623656559:=0
def tw9051114348285056604:=0
def tw366357112077005516:=0
def tw16355218530214198945:=0
def tw15263402297517661592:=0
def tw8094959826091510334:=0
def tw4175508504390928679:=0
def tw4688884072985516271:=0
def tw14652709833449801858:=0
def tw6540466015045409428:=0
def tw286834016540090687:=0
def tw7655118834462789335:=0
def tw13165618274433392153:=0
def tw2387021279317059345:=0
def tw7804954746368014615:=0
def tw6744328913716859702:=0
def tw2856737758045523609:=0
def tw16245316967924028309:=0
def tw17770559758379977959:=0
def tw9750197647702772865:=0
def tw16560287060525339430:=0
def tw560202322163572708:=0
def tw14818508190814768175:=0
def tw3803895500408065994:=0
def tw15138243062280139105:=0
def tw1665114794828305629:=0
def tw9057554435123999884:=0
def tw15401607691713998420:=0
def tw1508991392405626248:=0
def tw11616674402722190804:=0
def tw12747175614278699909:=0
def tw16162635853185218729:=0
def tw7626132044089865113:=0
def tw16761877231973653601:=0
def tw11117110395859850867:=0
def tw5702913709965999818:=0
def tw9313078820344091098:=0
def tw16605310497236087128:=0
def tw16355728934962826465:=0
def tw2830873531246069775:=0
def tw5107690852453550546:=0
def tw6852513604441795776:=0
def tw12051925708511286468:=0
def tw9125577100225387351:=0
def tw13507513193269541141:=0
def tw1497189982583727430:=0
def tw13637884549938477580:=0
def tw11895656079671013169:=0
def tw16624757040811636955:=0
def tw17488169803616645407:=0
def tw5840593416671598517:=0
def tw17931508080166684771:=0
def tw17027331046965559887:=0
def tw14124615203961197046:=0
def tw11559622430438146605:=0
def tw12463451283081865036:=0
def tw294575142780287100:=0
def tw5364878059856182625:=0
def tw3348367638898632650:=0
def tw3250937341059258464:=0
def tw3360929050218096131:=0
def tw17908715360201116182:=0
def tw8573619117942264944:=0
def tw14660378348284637449:=0
def tw17464198025633062257:=0
def tw8761362945565783459:=0
def tw7032737319477662564:=0
def tw6280167264723552097:=0
def tw526501304285768583:=0
def tw3595122252085111792:=0
def tw18112336806380878535:=0
def tw17143739336075963824:=0
def tw6122474368842627198:=0
def tw15719860845792105849:=0
def tw17431508489592213344:=0
def tw5963187216883792042:=0
def tw3201431902905510102:=0
def tw12520320687200090968:=0
def tw11762045149282543030:=0
def tw10382937524247077252:=0
def tw12790785647456954608:=0
def tw2345808320714230848:=0
def tw10691009987237712981:=0
def tw15774527455101701284:=0
def tw5646305600553226034:=0
def tw14843723861276738781:=0
def tw9926078190794600839:=0
def tw3438075202287163842:=0
def tw16971036690115164618:=0
def tw7261815282634351038:=0
def tw13008290089470915502:=0
def tw12577840870777212773:=0
def tw7074735766462627710:=0
def tw11177784749637856963:=0
def tw4963363063554247840:=0
def tw16582314876377214542:=0
def tw15316837055462342770:=0
def tw5364530062895017562:=0
def tw15642944316882204174:=0
def tw4154213263202210349:=0
def tw10270876906228206379:=0
def tw17681786710557484435:=0
def tw2937825323062943408:=0
def tw581785373125478996:=0
def tw10249500310257921246:=0
def tw1332425119892968555:=0
def tw8527043214044279801:=0
def tw12875904388840200977:=0
def tw10482158638249755535:=0
def tw1002969962208870873:=0
def tw14878294068347246337:=0
def tw13219000489428585023:=0
def tw2253375907582038872:=0
def tw2441698648031484918:=0
def tw15602303499862553625:=0
def tw17990643851874738730:=0
def tw11208377312048638678:=0
def tw7065870039972198349:=0
def tw11069756821677472987:=0
def tw1652050291150862726:=0
def tw14184471552292219498:=0
def tw6413458471893113077:=0
def tw1842952768810108792:=0
def tw11990469051761877567:=0
def tw5740980118612659999:=0
def tw15246993111935761825:=0
def tw12872309227041467504:=0
def tw18366367596623210904:=0
def tw15156175832028342775:=0
def tw5383410283979973651:=0
def tw13527798374786462386:=0
def tw2815217021785718989:=0
def tw10667457478600187784:=0
def tw2607485171695426093:=0
def tw11576035534237722928:=0
def tw7550313349190752967:=0
def tw7255412477812866969:=0
def tw4204182924871007088:=0
def tw15108962840110731092:=0
def tw6443230378953216070:=0
def tw7845655281644274627:=0
def tw17767085025097045248:=0
def tw9044082809879381324:=0
def tw7006187243148700578:=0
def tw6758816167790536419:=0
def tw17290624503753329267:=0
def tw16522095930000989037:=0
def tw10744774319810772930:=0
def tw16369872312522114016:=0
def tw945370587970421381:=0
def tw9279758274115238597:=0
def tw8268665848015062196:=0
def tw6879055140134495669:=0
def tw5770101350302805615:=0
end PySem.W.Fast
open PySem PySem.W PyProof.Rows
set_option maxRecDepth 100000 in
set_option maxHeartbeats 0 in
theorem PySem.Challenge.cw_trunksay_k68_changes_refused_holds : PySem.Challenge.rw_trunksay_k68_changes_refused.Holds := by
 w_on; o_law; k_head; (case hw => w_witness2)
 k_fill
 refine L2.walkW (l := PySem.Challenge.rw_trunksay_k68_changes_refused) (k := 43) (x := "_law_script") (G := P.f_q46) rfl rfl ⟨rfl, by decide, by decide⟩ (fun w h Y => PySem.W.kIn_of Y) ?F P.law_ok
 case F =>
  intro w mg fa h KX G hmg
  refine' P.all_mk KX G hmg ?_ ?_ ?_ ?_ ?_ ?_ ?_ ?_ ?_ ?_ ?_ ?_ ?_ ?_ ?_ ?_ ?_ ?_ ?_ ?_ ?_ ?_ ?_ ?_ ?_ ?_ ?_ ?_ ?_ ?_ ?_ ?_ ?_ ?_ ?_ ?_ ?_ ?_ ?_ ?_ ?_ ?_ ?_ ?_ ?_ ?_ ?_ ?_ ?_ ?_ ?_ ?cl_Kept ?_ ?_ ?_ ?_ ?_ ?_ ?_ ?_ ?dm_Kept___init__ ?dm_Kept_carry_out ?dm_Kept_do_deed ?dm_Kept_mark_deed ?dm_Kept_put ?dm_Kept_take ?dm_Kept_branch ?dm_Kept_whole ?dm_Kept_back ?dm_Kept_again ?dm_Kept_tree_now ?dm_Kept_rooms_now ?dm_Kept_lets_now ?dm_Kept_reckoned ?_ ?_ ?_ ?_ ?_ ?_ ?_ ?_ ?_ ?_ ?x_TrunkError ?_ ?_ ?_ ?w_TrunkError_NoPlace ?w_TrunkError_NothingDone ?w_TrunkError_TooGreat ?w_TrunkError_t0 ?w_TrunkError_VE ?x_NoPlace ?_ ?_ ?_ ?w_NoPlace_NoPlace ?w_NoPlace_NothingDone ?w_NoPlace_TooGreat ?w_NoPlace_t0 ?w_NoPlace_VE ?x_TooGreat ?_ ?_ ?_ ?w_TooGreat_NoPlace ?w_TooGreat_NothingDone ?w_TooGreat_TooGreat ?w_TooGreat_t0 ?w_TooGreat_VE ?x_NothingDone ?_ ?_ ?_ ?w_NothingDone_NoPlace ?w_NothingDone_NothingDone ?w_NothingDone_TooGreat ?w_NothingDone_t0 ?w_NothingDone_VE ?u_TrunkError_TrunkError ?u_NoPlace_TrunkError ?u_TooGreat_TrunkError ?u_NothingDone_TrunkError ?_ ?_ ?_ ?_ ?_ ?_ ?_ ?_ ?_ ?_ ?_ ?_ ?_ ?_ ?_ ?_
  any_goals (refine' L2.DefIn.mk ?a ?l ?c ?k; (case a => k_is); (case l => k_is); (case c => k_is); (case k => k_is))
  any_goals k_is
  (case cl_Kept => exact ⟨by kernel_rfl, by kernel_rfl, by kernel_rfl, by first | k_is | kernel_rfl⟩)
  (case dm_Kept___init__ => (refine' L2.DefM.mk ?a ?i ?l ?c ?k; (case a => k_is); (case i => first | k_is | kernel_rfl); (case l => k_is); (case c => k_is); (case k => k_is)))
  (case dm_Kept_carry_out => (refine' L2.DefM.mk ?a ?i ?l ?c ?k; (case a => k_is); (case i => first | k_is | kernel_rfl); (case l => k_is); (case c => k_is); (case k => k_is)))
  (case dm_Kept_do_deed => (refine' L2.DefM.mk ?a ?i ?l ?c ?k; (case a => k_is); (case i => first | k_is | kernel_rfl); (case l => k_is); (case c => k_is); (case k => k_is)))
  (case dm_Kept_mark_deed => (refine' L2.DefM.mk ?a ?i ?l ?c ?k; (case a => k_is); (case i => first | k_is | kernel_rfl); (case l => k_is); (case c => k_is); (case k => k_is)))
  (case dm_Kept_put => (refine' L2.DefM.mk ?a ?i ?l ?c ?k; (case a => k_is); (case i => first | k_is | kernel_rfl); (case l => k_is); (case c => k_is); (case k => k_is)))
  (case dm_Kept_take => (refine' L2.DefM.mk ?a ?i ?l ?c ?k; (case a => k_is); (case i => first | k_is | kernel_rfl); (case l => k_is); (case c => k_is); (case k => k_is)))
  (case dm_Kept_branch => (refine' L2.DefM.mk ?a ?i ?l ?c ?k; (case a => k_is); (case i => first | k_is | kernel_rfl); (case l => k_is); (case c => k_is); (case k => k_is)))
  (case dm_Kept_whole => (refine' L2.DefM.mk ?a ?i ?l ?c ?k; (case a => k_is); (case i => first | k_is | kernel_rfl); (case l => k_is); (case c => k_is); (case k => k_is)))
  (case dm_Kept_back => (refine' L2.DefM.mk ?a ?i ?l ?c ?k; (case a => k_is); (case i => first | k_is | kernel_rfl); (case l => k_is); (case c => k_is); (case k => k_is)))
  (case dm_Kept_again => (refine' L2.DefM.mk ?a ?i ?l ?c ?k; (case a => k_is); (case i => first | k_is | kernel_rfl); (case l => k_is); (case c => k_is); (case k => k_is)))
  (case dm_Kept_tree_now => (refine' L2.DefM.mk ?a ?i ?l ?c ?k; (case a => k_is); (case i => first | k_is | kernel_rfl); (case l => k_is); (case c => k_is); (case k => k_is)))
  (case dm_Kept_rooms_now => (refine' L2.DefM.mk ?a ?i ?l ?c ?k; (case a => k_is); (case i => first | k_is | kernel_rfl); (case l => k_is); (case c => k_is); (case k => k_is)))
  (case dm_Kept_lets_now => (refine' L2.DefM.mk ?a ?i ?l ?c ?k; (case a => k_is); (case i => first | k_is | kernel_rfl); (case l => k_is); (case c => k_is); (case k => k_is)))
  (case dm_Kept_reckoned => (refine' L2.DefM.mk ?a ?i ?l ?c ?k; (case a => k_is); (case i => first | k_is | kernel_rfl); (case l => k_is); (case c => k_is); (case k => k_is)))
  (case x_TrunkError => k_exc)
  (case w_TrunkError_NoPlace => kernel_rfl)
  (case w_TrunkError_NothingDone => kernel_rfl)
  (case w_TrunkError_TooGreat => kernel_rfl)
  (case w_TrunkError_t0 => kernel_rfl)
  (case w_TrunkError_VE => kernel_rfl)
  (case x_NoPlace => k_exc)
  (case w_NoPlace_NoPlace => kernel_rfl)
  (case w_NoPlace_NothingDone => kernel_rfl)
  (case w_NoPlace_TooGreat => kernel_rfl)
  (case w_NoPlace_t0 => kernel_rfl)
  (case w_NoPlace_VE => kernel_rfl)
  (case x_TooGreat => k_exc)
  (case w_TooGreat_NoPlace => kernel_rfl)
  (case w_TooGreat_NothingDone => kernel_rfl)
  (case w_TooGreat_TooGreat => kernel_rfl)
  (case w_TooGreat_t0 => kernel_rfl)
  (case w_TooGreat_VE => kernel_rfl)
  (case x_NothingDone => k_exc)
  (case w_NothingDone_NoPlace => kernel_rfl)
  (case w_NothingDone_NothingDone => kernel_rfl)
  (case w_NothingDone_TooGreat => kernel_rfl)
  (case w_NothingDone_t0 => kernel_rfl)
  (case w_NothingDone_VE => kernel_rfl)
  (case u_TrunkError_TrunkError => kernel_rfl)
  (case u_NoPlace_TrunkError => kernel_rfl)
  (case u_TooGreat_TrunkError => kernel_rfl)
  (case u_NothingDone_TrunkError => kernel_rfl)
