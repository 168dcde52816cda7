import PyProof.Rows.All
import Wide.All
import OpenK.AllK
import Wide.FinOn
import Lean
import PyProof.EqAt
import PyProof.EqKinds
import PyProof.TupleCall
import PyProof.StrLawsIn
import PyProof.StationsW
import PyProof.NeData
import OpenK.KOwn
import PyProof.NsDelKeeps
import PyProof.ExcArgsOwn
import PyProof.ExcAttrAll.ValueError
import PyProof.IsiH_tuple
import KE.KIsAll
import PyProof.CollectStr
import PyProof.ZipIter
import PyProof.Rows.ZipGen
import PyProof.JoinWalk
import PyProof.CollectIter
import PyProof.EnumMake
import PyProof.SumAny
import PyProof.DictTruth
import KE.KDictList
import KE.KNest
import KE.KEqDict
import PyProof.ListRange
import KE.KEqSeq
import PyProof.Rows.SetFrom
import PyProof.ListMulRoad
import PyProof.Rows.SortShell
import PyProof.AttrMissHeap
import PyProof.ListNew
import PySem.Challenge.RW_trunksay_k36_looker_wrong
set_option Elab.async false
set_option linter.all false
set_option genSizeOf false
set_option maxRecDepth 100000

def tv0:=trivial
set_option hygiene false
local macro_rules|`(#[0])=>`(by lia)
local macro_rules|`(#[1])=>`(fI X nm scope (cellsFrom (G2.objs.size+1) scope.names []++cl) G2.objs.size s2 H1 fp)
local macro_rules|`(#[2])=>`(model X.prog X.w)
local macro_rules|`(#[3])=>`(.ListComp mz [⟨tg,iter,kw,0⟩] scope pos)
set_option hygiene true
open Array renaming length_toList->d5,getElem?_toList->fX,getElem?_eq_getElem->gb,eq_empty_of_size_eq_zero->kj,getD_eq_getD_getElem?->lq,forIn_toList->me
open Bool renaming and_eq_true->cJ,false_ne_true->dN,not_eq_true'->gr,true_and->ic,and_true->jc,eq_iff_iff->kQ,not_eq_true->nP
open Classical renaming axiomOfChoice->nJ
open Function renaming comp_def->mP
open Int renaming toNat_natCast->aO,zero_add->cI,natCast_add->gj,natCast_mul->hX,eq_ofNat_of_zero_le->jz,emod_nonneg->kP,fdiv_eq_ediv_of_nonneg->lW
open LawfulBEq renaming eq_of_beq->qK
open List renaming prefix_refl->af,prefix_append->ag,getElem?_map->ai,length_map->aj,getElem?_eq_getElem->ak,getElem?_eq_some_iff->am,getD_eq_getElem?_getD->aA,append_assoc->aG,length_append->aI,mem_cons_of_mem->aJ,map_map->aN,mem_cons->aS,mem_of_getElem?->aV,mem_map->aX,map_cons->aZ,mem_append_right->a8,mem_cons_self->a9,mem_singleton->a_,size_toArray->bb,length_take->bh,getElem?_set_self->bt,getElem?_append_left->bu,getElem?_range->bv,getElem?_append_right->bA,all_eq_true->bC,mem_append->bD,nodup_cons->bI,mem_range->bN,pairwise_cons->bS,map_append->bT,getElem?_eq_none->b8,map_congr_left->b_,drop_eq_getElem_cons->cx,getElem?_set_ne->cy,mem_append_left->cL,getElem?_take_of_lt->cW,length_cons->cX,length_replicate->cY,append_nil->dh,length_drop->dv,lookup_append->dP,getElem?_replicate->dQ,getElem_mem->dS,mem_filter->d7,length_filter_le->eK,not_mem_nil->eR,getElem?_of_mem->fg,length_nil->fz,range_succ->fB,filterMap_cons->fG,take_of_length_le->fL,map_id->fO,length_singleton->fW,length_set->gg,ext_getElem?->gq,replicate_succ->gC,nodup_nil->gG,take_length->gH,getElem_map->gJ,all_eq_not_any_not->gK,eq_nil_of_length_eq_zero->gN,drop_eq_nil_of_le->g9,drop_of_length_le->g_,of_mem_zip->hV,take_sublist->iu,nodup_append->iw,lookup_cons->iT,map_nil->iV,length_reverse->i4,length_pos_iff->i7,eq_of_mem_replicate->jd,nil_append->jh,length_eq_zero_iff->jA,flatten_cons->jN,range_succ_eq_map->jO,length_eq_one_iff->jS,pairwise_map->jT,length_range->jU,any_eq_true->km,getElem_of_mem->kZ,mem_filterMap->lV,contains_cons->l_,findIdx?_eq_none_iff->mC,mem_or_eq_of_mem_set->mE,length_erase_of_mem->mZ,getElem?_cons_succ->nH,filter_cons_of_pos->nM,filter_cons_of_neg->nN,length_pos_of_mem->oJ,map_set->oM,forIn_cons->oY,filter_map->pb,take_append_drop->pB,pairwise_reverse->pD,getElem?_reverse->pE,any_cons->rd,all_map->tJ
open List.Perm renaming refl->jQ,append_left->pq
open List.cons renaming inj->rh
open Nat renaming le_refl->av,le_of_ble_eq_true->aB,ne_of_lt->aM,lt_of_lt_of_le->aQ,le_trans->aW,pow_le_pow_right->cf,mul_le_mul->cB,zero_le->cG,lt_irrefl->cV,lt_succ_of_lt->dB,le_of_lt->dL,lt_succ_self->dR,lt_of_le_of_lt->eO,ne_of_gt->eV,not_lt_zero->fC,add_mul_mod_self_left->gc,mul_comm->gZ,not_lt->g8,min_eq_left->hZ,mod_eq_of_lt->iU,mod_lt->jt,add_zero->jP,le_succ->kF,lt_or_ge->lj,zero_add->lr,pow_succ->lu,mul_one->mQ,lt_of_not_le->nI,min_eq_right->nK,div_eq_of_lt->nO,lt_trans->oF,sub_self->oK,le_antisymm->oX,le_total->tN,zero_mul->tO,mul_zero->tP
open Nat.succ renaming inj->tM
open Option renaming map_eq_some_iff->be
open Option.some renaming inj->bf
open PyProof.Rows renaming boot_tuple->d4,slot_tuple_getitem->d9,callWith_type1->fK,callWith_builtin1->ki,boot_list->nL,subscriptTail_builtinR->oB,boot_isinstance->o_,Subscript_->rW
open PyProof.Rows.F renaming entry_set_update_loop->i5
open PySem renaming wpAny_bind->aa,wpAny_pure->aq,wpAny_call_entry->bF,wpAny_loadPart'->bJ,wpAny_newObj_type->bQ,wpAny_callSpecial?_slot->bZ,wpAny_holding->cD,wpAny_setField_rec->cP,wpAny_mono->dz,codeAny_builtin->dM,wpAny_Call_Name_kw->dO,boot_len->dU,wpAny_truthy_bool->dZ,wpAny_seqItems->d3,wpAny_isInstance->eQ,wpAny_field->e_,wpAny_loadPart_at->fx,wpAny_passesOwn->gf,wpAny_setState_of->gs,wpAny_setEntries_of->gD,wpAny_forIn_list->gI,wpAny_typeNameOfWhole_keyiter->gO,call_meets->gY,codeAny_mono->g7,wpAny_specialOf->hW,plainId_quiet->ib,wpAny_rule->iM,wpAny_nameGoes_keeps->iN,wpAny_execs_cons->iR,wpAny_typeOf->iS,wpAny_isSubtype_exc->i6,wpAny_attempt->jb,wpAny_execs_nil->jg,sizeLine_eq->jy,wpAny_pyIter_list->jL,wpAny_fieldsOf->jR,codeAny_call_function->j6,isSubtype_tuple_tuple->j7,codeAny_call_builtin->kG,pushCells_keeps->kL,wpAny_updateSeq->kN,wpAny_pyIter_tuple->lU,wpAny_newFunctionEnv_cells->lX,wpAny_setField->lY,isSubtype_stop->lZ,wpAny_newTuple->l5,wpAny_tupleItemsOf->ma,wpAny_binaryOp_repeat_ref->mB,wpAny_of_eq->mM,wpAny_pyIter_slot->mO,noFill_tuple_add->nC,wpAny_getItem_str_slice->nE,wpAny_askSetting->nF,wpAny_pyNext_list_item->oA,typeIs_str->oD,typeIs_int->oE,wpAny_call->oH,wpAny_noteFrame_againW->oI,codeAny_of_tree->oZ,wpAny_pyNext_list_end->pi,wpAny_notOrdered_dict->py,wpAny_isOneOf_keyiter->pA,isSubtype_type->qm,wpAny_standAt->q9,seq_tuple_add->q_,wpAny_handled->re,name_of_addr->tD,codeAny_func->tF,concat_meets->tH,seqIndex_neg->tI,wpAny_landsW->tL
open PySem.Calls renaming spliced_cons->jq,spliced_nil->jM,Name_function_global->lS,call_function_entry->mD
open PySem.F renaming slot_tuple_iterator_next->fT,slot_int_rmul->kK,args_tuple_iterator_next_1->kM,slot_dict_keyiterator_next->kO,entry_tuple_iterator_next->li,typeOf_object_class->pw
open PySem.Heap renaming get?_push_of_some->ar,get?_push_size->ay,lt_size->aD,size_push->cA,get?_update_self->cZ,get?_update_other->dw
open PySem.Heap.SameBut renaming update->d6
open PySem.Obj renaming data_mapFields->jr,isFreed_of_fields->pj
open PySem.SeqAt renaming str_beq->rg
open PySem.Value renaming isStrOf_shape->kY
def ax:=@if_pos
def az:=@decide_eq_false
def aF:=@if_neg
def aR:=@decide_eq_true
def bj:=@beq_eq_false_iff_ne
def eJ:=@congrArg
def fU:=@decide_eq_true_iff
def ko:=@beq_self_eq_true
def l9:=@or_false
def nD:=@if_false
def nG:=@decide_eq_decide
def oG:=@beq_iff_eq
def qJ:=@if_true
def tK:=@dif_pos
set_option compiler.extract_closed false
noncomputable section
variable{us br:List PySem.Value}{x name cU:PySem.Str}{u v:PySem.Value}{a b C S:PySem.Addr}{o:PySem.Obj}{P prog:PySem.Program}{h h' base:PySem.Heap}{α β:Type}{ah pins':List (PySem.Addr×PySem.Obj)}{s:PySem.Shared}{g':Array PySem.GenState}{t' N i j n m ep kk q:Nat}{ch fp μ μ':List PySem.Addr}{M:PySem.Model}{A:PySem.Around}{E Q Qv Q₁:PySem.Value->PySem.Shared->Prop}{e c tg iter mz:PySem.Expr}{pos nA p kh p2 f_:PySem.Pos}{K:PySem.W.Frag}{es kw DN:List PySem.Expr}{g:PySem.Value->PySem.Value->PySem.Sem PySem.Value}{body:List PySem.Stmt}{op:PySem.CmpOp}{mA mg:PySem.Str->Option PySem.Value}{fd:PySem.FuncData}{ps:List PySem.Str}{ks rows:List (List Int)}{sc scope:PySem.Scope}{outer:List PySem.Env}{T:String}{l nm:List Nat}{XP:(PySem.Str->Option PySem.Value)->PySem.Heap->Prop}{YP:PySem.World->PySem.Heap->Prop}{env:PySem.Env}{ou:List (Option PySem.Expr)}{cl:List (PySem.Str×PySem.Addr)}{cap:List (Option Nat)}{use:Option (PySem.Value->PySem.Sem Unit)}{ls mt:List (List Nat)}{ns ds:List Int}{φ:PySem.Heap->Prop}{vp:PySem.Obj->Prop}{os:List (Bool×PySem.Addr)}{LD:Nat->List Int->List Int->List Int}
open PySem.W (Frag)
open PySem.W (hideAll findIn kitOne kia_one fnOf codeIn keepIn excIn codeHdIn nsIn mg_of fnMade mg_none_of)
open Bool renaming true->cT,false->eh
open False renaming elim->Zz
open ForInStep renaming yield->aaq
open List renaming replicate->rn,range->uP,length->ZH,range'->Z4,foldl->aay
open List.Pairwise renaming nil->aaz
open List.Perm renaming swap->aaG
open Ne renaming symm->Zw
open Option renaming some->bi,none->b0,none->ZO
open Or renaming inr->Z3
open PyProof.Rows renaming seqObj->ZF,AllBare->ZW,envOfC->Z0,IntsAre->aaj
open PySem renaming Value->i2,Addr->nt,wpAny->nz,Shared->n4,Expr->ow,World->qd,starEach->qe,Heap->qk,Stmt->tf,cellsFrom->vr,mainGlobals->wh,rawInt->w9,Around->xh,binaryOp->Zs,backTo->Zt,compareOp->Zu,DictEntry->Zx,Program->Zy,Scope->ZB,NameKind->ZC,pyNext->ZD,cLine->ZE,Arguments->ZG,SetTable->ZI,sysModules->ZM,FuncData->ZS,assignEach->ZU,pyIter->ZX,getItem->ZY,cellOf->Z2,IsPart->Z5,setNext->Z7,scanBound->Z8,foldedSetIterable->Z9,codeAny->aaa,closureFor->aab,behindInMarks->aac,codeAmong->aae,bootBuiltins->aaf,bindArgs->aag,HeapKind->aap,storeName->aas,sliceBounds->aat,relayAll->aau,pickOrder->aav,TriplesOk->aaw,keywordEach->aaA,builtinsNs->aaB,attributeBase->aaF,newFunctionEnv->aaH
open PySem.Builtin renaming bitAnd->aaI
open PySem.Builtin.List renaming listTooLong->aaE
open PySem.Builtin.Range renaming rangeSize->aaO
open PySem.Builtin.Slice renaming slicePlaces->aaK,sliceAdjust->aaN
open PySem.Builtin.SmallTypes renaming nextOf->ZQ
open PySem.Builtin.Str renaming strSliceIndices->aaD,occurrences->aaM
open PySem.Builtin.Tuple renaming tupleHashOf->aar,tupleExact->aaJ,tupleItemsOf->aaL
open PySem.Heap renaming SameBut->Z6
open PySem.NameKind renaming free->ZL,cell->aao
open PySem.Obj renaming mapSeq->ZP,putSet->aaC
open PySem.SeqAt renaming EqAt->aai
open PySem.SetTable renaming grown->aax
open PySem.Shared renaming TypeIs->aad,heap->aan
open PySem.Value renaming ref->Zv,none->ZJ,type->ZV,isStrOf->aah,str->aak,int->aal,bool->aam
open PySem.W renaming Frag->ti,nsIn->ZA,mg_none_of->ZK,kia_one->ZR,codeHdIn->ZT,fnMade->ZZ
open _root_ renaming List->fy,Nat->f7,Int->hG,Option->hJ,Bool->ir
local macro_rules(kind:=«term{_}»)|`({$x,*})=>`(⟨$x,*⟩)
namespace L2
open PySem PySem.Spec PyProof.Rows
noncomputable abbrev ji:=Sum hG Str
def xV:ji->i2->ir
 |.inl k,v=>Value.isInt k v
 |.inr x,v=>aah x v
def Xb(w:qd):ji->hG
 |.inl k=>hashInt k
 |.inr x=>hashStr w x
theorem gk:∀{k:ji} {v:i2},xV k v=cT->(∃i t,k=Sum.inl i/\v=aal i t)\/(∃x t,k=Sum.inr x/\v=aak x t)
 |.inl i,v,h=>by obtain⟨t,e⟩:=Value.isInt_shape h;exact .inl ⟨i,t,rfl,e⟩
 |.inr x,v,h=>by obtain⟨t,e⟩:=kY h;exact .inr ⟨x,t,rfl,e⟩
def Ft(i:hG)(t:Tok):xV (.inl i) (.int i t)=cT:=by simp[xV,Value.isInt]
def Fu(x:Str)(t:Tok):xV (.inr x) (.str x t)=cT:=by simp[xV,aah]
theorem PV(a b:hG):decide ((Sum.inl a:ji)=Sum.inl b)=(a==b):=by
 by_cases e:a=b
 .subst e;simp
 .have h:¬ (Sum.inl a:ji)=Sum.inl b:=λq=>e<|Sum.inl.inj q;rw[az h];exact(bj.mpr e).symm
def PX(a b:Str):decide ((Sum.inr a:ji)=Sum.inr b)=decide (a=b):=by simp
def PY(a:hG)(b:Str):decide ((Sum.inl a:ji)=Sum.inr b)=eh:=rfl
def PZ(a:Str)(b:hG):decide ((Sum.inr a:ji)=Sum.inl b)=eh:=rfl
def gA(prog:Zy)(w:qd):PySem.KeyKind prog w ji where
 is:=xV
 hash:=Xb w
 inj:=λv a b J U=>by
  rcases gk J with⟨i,t,rfl,rfl⟩|⟨x,t,rfl,rfl⟩
  .rcases gk U with⟨j,u,rfl,e⟩|⟨y,u,rfl,e⟩
   .injection e with e1 _;rw[e1]
   .exact nomatch e
  .rcases gk U with⟨j,u,rfl,e⟩|⟨y,u,rfl,e⟩
   .exact nomatch e
   .injection e with e1 _;rw[e1]
 byValue:=λk v h=>by rcases gk h with⟨i,t,rfl,rfl⟩|⟨x,t,rfl,rfl⟩<;>rfl
 pyHash:=λB h=>by
  rcases gk B with⟨i,t,rfl,rfl⟩|⟨x,t,rfl,rfl⟩
  .exact wpAny_pyHash_int h
  .exact wpAny_pyHash_str h
 eqBool:=λD B h=>by
  rcases gk D with⟨i,t,rfl,rfl⟩|⟨x,t,rfl,rfl⟩
  .rcases gk B with⟨j,u,rfl,rfl⟩|⟨y,u,rfl,rfl⟩
   .rw[PV]at h;exact wpAny_eqBool_int h
   .rw[PY]at h;exact SeqAt.EqAt.int_str i t y u _ _ _ _ h
  .rcases gk B with⟨j,u,rfl,rfl⟩|⟨y,u,rfl,rfl⟩
   .rw[PZ]at h;exact SeqAt.EqAt.str_int x t j u _ _ _ _ h
   .rw[PX]at h;exact wpAny_eqBool_str h
 «strs»:=λk x t v h=>by
  rcases gk h with⟨i,u,rfl,e⟩|⟨y,u,rfl,e⟩
  .exact nomatch e
  .injection e with e1 _;subst e1
   cases v<;>rfl
def AE(prog:Zy)(w:qd)(i:hG)(t:Tok):(gA prog w).is (.inl i) (.int i t)=cT:=Ft i t
def AF(prog:Zy)(w:qd)(x:Str)(t:Tok):(gA prog w).is (.inr x) (.str x t)=cT:=Fu x t
inductive V where
 |non|bl (b:ir)|int (i:hG)|str (x:Str)|byt (b:Array UInt8)|flt (b:UInt64)|ref (a:nt)|ty (n:String)
 deriving DecidableEq
def cq:V->i2->Prop
 |.non,u=>u=ZJ
 |.bl b,u=>u=aam b
 |.int i,u=>∃t,u=aal i t
 |.str x,u=>∃t,u=aak x t
 |.byt b,u=>∃t,u=Value.bytes b t
 |.flt b,u=>∃t,u=Value.float b t
 |.ref a,u=>u=Zv a
 |.ty n,u=>u=ZV n
abbrev ce:fy V->fy i2->Prop:=Paired cq
theorem ce.length{xs:fy V}(r:ce xs us):xs.length=us.length:=Paired.length r
theorem ce.get:∀{xs:fy V} {us:fy i2} {i:f7} {x:V},ce xs us->xs[i]?=bi x->∃u,us[i]?=bi u/\cq x u
 |_,_,_,_,.nil,e=>by simp at e
 |_,_,0,_,.cons r _,e=>by simp at e;subst e;exact⟨_,rfl,r⟩
 |_,_,i+1,x,.cons _ t,e=>by obtain⟨u,Z,B⟩:=ce.get t (by trivial);exact{u,by simpa using Z,B}
theorem ce.set{x:V}(r:cq x u):∀{xs:fy V} {us:fy i2} (i:f7),ce xs us->ce (xs.set i x) (us.set i u)
 |_,_,_,.nil=>.nil
 |_,_,0,.cons _ t=>.cons r t
 |_,_,i+1,.cons q t=>.cons q<|ce.set r i t
theorem ce.append:∀{xs L:fy V} {us ws:fy i2},ce xs us->ce L ws->ce (xs++L) (us++ws)
 |_,_,_,_,.nil,s=>s
 |_,_,_,_,.cons r t,s=>.cons r<|ce.append t s
theorem ce.take:∀{xs:fy V} {us:fy i2} (n:f7),ce xs us->ce (xs.take n) (us.take n)
 |_,_,0,_=>.nil
 |_,_,_+1,.nil=>.nil
 |_,_,n+1,.cons r t=>.cons r<|ce.take n t
theorem ce.drop:∀{xs:fy V} {us:fy i2} (n:f7),ce xs us->ce (xs.drop n) (us.drop n)
 |_,_,0,r=>r
 |_,_,_+1,.nil=>.nil
 |_,_,n+1,.cons _ t=>ce.drop n t
def vt:hJ V->hJ i2->Prop
 |some v,bi u=>cq v u
 |none,b0=>True
 |_,_=>False
def KV{z:Type}:fy (z×V)->fy (z×i2)->Prop:=Paired λ(p:z×V) (q:z×i2)=>p.1=q.1/\cq p.2 q.2
def kV:ji->V
 |.inl i=>.int i
 |.inr x=>.str x
inductive HO where
 /-- a list -/
 |lst (xs:fy V)
 /-- a tuple (never changes) -/
 |tup (xs:fy V)
 /-- a dict whose ou are ints and texts;one whose ou are tuples of ints and texts (the empty one is both) -/
 |dK (kvs:fy (ji×V))|dT (kvs:fy (fy ji×V))
 /-- a set of ints: br members,br size -/
 |set (S:hG->ir) (n:f7)
 /-- an instance of the class at C,br dict at dx,br attributes -/
 |ins (C dx:nt) (fs:fy (Str×V))
 /-- the dict of the instance at x -/
 |own (x:nt)
 /-- the dict of an exception -/
 |xd (fs:fy (Str×V))
 /-- a bound method,f of x -/
 |met (f x:nt)
 /-- a range object lo,lo+1,.. below hi -/
 |rng (lo hi:hG)
 /-- a thing that is known to the object (the script;a dict while a loop walks it): read,never written while it is so -/
 |frz (o:Obj) (u:HO)
 /-- a code object's table -/
 |tbl (ps:Array i2)
 /-- any other thing,by what is cT of br one object (a def of YL own: SetO a S n:=HO.ext λh=>..) -/
 |ext (φ:qk->Prop)
noncomputable abbrev Hp:=nt->hJ HO
def dX(H:Hp)(a:nt)(o:HO):Hp:=λb=>if b=a then bi o else H b
def cv{H:Hp}{o:HO}:dX H a o a=bi o:=by unfold dX;rw[ax rfl]
def bX{H:Hp}{o:HO}(h:b≠a):dX H a o b=H b:=by unfold dX;rw[aF h]
theorem TU{H:Hp}{o u:HO}(h:H a=bi o)(h':H b=bi u)(d:o≠u):a≠b:=by intro e;subst e;rw[h]at h';exact d<|bf h'
theorem fP{H:Hp}{o:HO}(h:H a=bi o)(h':H b=b0):a≠b:=by intro e;subst e;rw[h]at h';cases h'
section
variable(P:Zy)(w:qd)
def iA(H:Hp)(h:qk)(a:nt):HO->Prop
 |.lst G=>G.length<=sizeLine/\∃(br:fy i2) (n:f7),ce G br/\h.get? a=bi { cls:=.type "list",data:=.seq br.toArray n }
 |.tup G=>G.length<=sizeLine/\∃br:fy i2,ce G br/\IsTup h a br.toArray
 |.dK R=>R.length<=sizeLine/\(a==ZM)=eh/\∃D,KV R D/\h.DictOf (gA P w) a D
 |.dT R=>R.length<=sizeLine/\(a==ZM)=eh/\∃G:fy (fy ji×nt×i2),
   Paired (λ(p:fy ji×V) (q:fy ji×nt×i2)=>p.1=q.1/\H q.2.1=bi (.tup<|p.1.map kV)/\cq p.2 q.2.2) R G /\
   ∃o es ep,h.get? a=bi o/\o.ExactDict/\o.data=.dict es ep/\es.toList=G.map (entryOfKey<|tupleKind<|gA P w)/\(G.map (·.1)).Nodup
 |.set S n=>h.SetOf (intKind P w) a S n
 |.ins C U fs=>H U=bi (.own a)/\fs.length<=1000/\U≠a/\h.get? a=bi (PySem.W.instObj C U) /\
   ∃mA,h.Ns1 U mA/\(∀f,vt (fs.lookup f)<|mA f)/\PySem.Within mA (fs.map (·.1))
 |.own _=>∃o,h.get? a=bi o
 |.xd fs=>∃mA,h.Ns1 a mA/\∀f,vt (fs.lookup f) (mA f)
 |.rng z L=>∃t u v,h.get? a=bi { cls:=.type "range",data:=.fields #[.int z t,.int L u,.int 1 v] }
 |.frz o u=>h.get? a=bi o/\iA H h a u
 |.tbl ps=>h.get? a=bi { cls:=.none,data:=.fields ps }
 |.met f x=>h.get? a=bi (PySem.W.methodObj (.ref f)<|.ref x)
 |.ext φ=>φ h/\(∃o,h.get? a=bi o)/\∀Z B:qk,φ Z->(∀o,Z.get? a=bi o->B.get? a=bi o)->φ B
def lx(H:Hp)(h:qk):Prop:=∀a o,H a=bi o->iA P w H h a o
end
section
variable{w:qd}{H H':Hp}{o:HO}
theorem iA.lt(x:iA P w H h a o):a<h.objs.size:=by
 cases o with
 |lst D=>obtain⟨_,_,_,_,e⟩:=x;exact aD e
 |tup D=>obtain⟨_,_,_,p⟩:=x;exact p.lt
 |dK R=>obtain⟨_,_,_,_,o,_,_,e,_⟩:=x;exact aD e
 |dT R=>obtain⟨_,_,_,_,o,_,_,e,_⟩:=x;exact aD e
 |set S n=>obtain⟨o,_,_,_,e,_⟩:=x;exact aD e
 |ins C U fs=>obtain⟨_,_,_,e,_⟩:=x;exact aD e
 |own y=>obtain⟨_,e⟩:=x;exact aD e
 |xd fs=>obtain⟨_,⟨_,_,_,e,_⟩,_⟩:=x;exact aD e
 |rng z L=>obtain⟨_,_,_,e⟩:=x;exact aD e
 |frz F u=>obtain⟨e,_⟩:=x;exact aD e
 |tbl Z=>exact aD x
 |met f y=>exact aD x
 |ext t=>obtain⟨_,⟨_,e⟩,_⟩:=x;exact aD e
theorem Paired.mapP{F G:α->β->Prop}:∀{l₁:fy α} {l₂:fy β},Paired F l₁ l₂->(∀a b,F a b->G a b)->Paired G l₁ l₂
 |_,_,.nil,_=>.nil
 |_,_,.cons r t,f=>.cons (f _ _ r)<|Paired.mapP t f
def Paired.imp'{F G:α->β->Prop}(f:∀a b,F a b->G a b){l₁:fy α}{l₂:fy β}(r:Paired F l₁ l₂):Paired G l₁ l₂:=Paired.mapP r f
theorem iA.stay(x:iA P w H h a o)(k:∀b u,(b=a\/H b=bi (.own a))->h.get? b=bi u->h'.get? b=bi u)
  (R:∀b,H b=bi (.own a)->H' b=bi (.own a)) (B:∀b xs,H b=bi (.tup xs)->H' b=bi (.tup xs)):iA P w H' h' a o:=by
 induction o with
 |lst xs=>obtain⟨z,O,n,r,e⟩:=x;exact{z,O,n,r,k _ _ (.inl rfl) e}
 |tup xs=>obtain⟨z,O,r,F,e,c⟩:=x;exact{z,O,r,F,k _ _ (.inl rfl) e,c}
 |dK Z=>obtain⟨z,y,D,r,F,W,J,e,c⟩:=x;exact{z,y,D,r,F,W,J,k _ _ (.inl rfl) e,c}
 |dT Z=>
  obtain⟨z,y,xs,r,F,W,J,e,c⟩:=x;exact{z,y,xs,Paired.mapP r λp q z=>{z.1,B _ _ z.2.1,z.2.2},F,W,J,k _ _ (.inl rfl) e,c}
 |set S n=>obtain⟨F,W,J,t,e,c⟩:=x;exact{F,W,J,t,k _ _ (.inl rfl) e,c}
 |ins C G fs=>
  obtain⟨d,z,I,e,mA,⟨od,W,J,e2,c⟩,r⟩:=x;exact{R _ d,z,I,k _ _ (.inl rfl) e,mA,{od,W,J,k _ _ (.inr d) e2,c},r}
 |own y=>obtain⟨F,e⟩:=x;exact{F,k _ _ (.inl rfl) e}
 |xd fs=>obtain⟨mA,⟨od,W,J,e,c⟩,r⟩:=x;exact{mA,{od,W,J,k _ _ (.inl rfl) e,c},r}
 |rng Y L=>obtain⟨t,u,v,e⟩:=x;exact{t,u,v,k _ _ (.inl rfl) e}
 |frz F u U=>obtain⟨e,q⟩:=x;exact{k _ _ (.inl rfl) e,U q}
 |tbl X=>
  exact k a _ (.inl rfl) x
 |met f y=>
  exact k a _ (.inl rfl) x
 |ext φ=>obtain⟨p,⟨o,e⟩,V⟩:=x;exact{V _ _ p λo q=>k _ _ (.inl rfl) q,{o,k _ _ (.inl rfl) e},V}
theorem lx.lt(x:lx P w H h)(e:H a=bi o):a<h.objs.size:=(x a o e).lt
theorem lx.fresh(x:lx P w H h)(e:h.objs.size<=a):H a=b0:=by
 cases q:H a with
 |none=>rfl
 |some u=>exact absurd (aQ (x.lt q) e)<|cV _
theorem lx.kept(x:lx P w H h)(k:∀b u,h.get? b=bi u->h'.get? b=bi u):lx P w H h':=λa o e=>
 (x a o e).stay (λb u _ q=>k b u q) (λ_ q=>q) λ_ _ q=>q
theorem lx.laid(x:lx P w H h)(k:∀b u,h.get? b=bi u->h'.get? b=bi u)(W:h.objs.size<=a)(new:iA P w (dX H a o) h' a o):lx P w (dX H a o) h':=λb u e=>by
 have L:=x.fresh W
 by_cases U:b=a
 .subst U;rw[cv]at e;cases e;exact new
 rw[bX U]at e;exact(x b u e).stay (λc v _ q=>k c v q) (λc q=>by rw[bX<|fP q L];exact q) λc D q=>by rw[bX<|fP q L];exact q
end
def Rd(H:Hp)(a:nt)(u:HO):Prop:=H a=bi u\/∃o,H a=bi (.frz o u)
theorem Rd.ok{w:qd}{H:Hp}{u:HO}(r:Rd H a u)(x:lx P w H h):iA P w H h a u:=by
 rcases r with r|⟨o,r⟩
 .exact x a u r
 obtain⟨_,q⟩:=x a _ r;exact q
def P0:hJ HO->Prop
 |some (.lst _)=>True
 |some (.dK _)=>True
 |some (.dT _)=>True
 |some (.set _ _)=>True
 |some (.ins _ _ _)=>True
 |some (.ext _)=>True
 |_=>False
section
variable{w:qd}{H:Hp}{x e:nt}{o':HO}
theorem lx.write(ok:lx P w H h)(t:P0 (H x))(Y:e=x\/H e=bi (.own x))(k:∀b u,b≠e->h.get? b=bi u->h'.get? b=bi u)(N1:∃u,h'.get? e=bi u)
  (new:iA P w (dX H x o') h' x o'):lx P w (dX H x o') h':=λb u q=>by
 have d:∀c y,H c=bi (.own y)->c≠x:=λc y r z=>by subst z;rw[r]at t;exact t
 have Z:∀c D,H c=bi (.tup D)->c≠x:=λc D r z=>by subst z;rw[r]at t;exact t
 by_cases U:b=x
 .subst U;rw[cv]at q;cases q;exact new
 .rw[bX U]at q
  by_cases f:b=e
  .have W:H b=bi (.own x):=by
    rcases Y with z|z
    .exact absurd (f.trans z) U
    .rw[f];exact z
   rw[q]at W;cases W
   obtain⟨v,B⟩:=N1;exact{v,by rw[f];exact B}
  .refine(ok b u q).stay (λc v hc r=>k c v ?_ r) (λc r=>by rw[bX<|d c b r];exact r) λc D r=>by rw[bX<|Z c D r];exact r
   rcases hc with rfl|hc
   .exact f
   .rintro rfl;rcases Y with z|z
    .exact d c b hc z
    .rw[hc]at z;cases z;exact U rfl
end
structure Un(fs ex:fy nt)(H H':Hp)(h h':qk):Prop where
 keep:∀b o,h.get? b=bi o->H b=b0->b∉fs->b∉ex->h'.get? b=bi o
 slot:∀b o,h.get? b=bi o->H b=b0->b∈fs->b∉ex->∃sl,h'.get? b=bi { o with slots:=sl }
 free:∀b o,h.get? b=bi o->H b=b0->b∉ex->H' b=b0
 there:∀b o,h.get? b=bi o->b∉ex->∃o',h'.get? b=bi o'
 tups:∀b xs,H b=bi (.tup xs)->H' b=bi (.tup xs)
 frzs:∀b o u,H b=bi (.frz o u)->H' b=bi (.frz o u)
 tbls:∀b ps,H b=bi (.tbl ps)->∃qT,H' b=bi (.tbl<|ps++qT)
section
variable{fs Zl ex Zo:fy nt}{H H1 H2:Hp}{h1 h2:qk}{x e:nt}{o:HO}
def Un.any(u:Un fs ex H H1 h h1){F:Obj}(q:h.get? b=bi F)(n:H b=b0)(J:b∉ex):∃sl,h1.get? b=bi { F with slots:=sl }:=by
 by_cases U:b∈fs
 .exact u.slot b F q n U J
 exact{F.slots,u.keep b F q n U J}
theorem Un.kept(k:∀b u,h.get? b=bi u->h'.get? b=bi u):Un fs ex H H h h':=
 ⟨λb F q _ _ _=>k b F q,λb F q _ _ _=>{F.slots,k b F q},λ_ _ _ n _=>n,λb F q _=>{F,k b F q},λ_ _ q=>q,λ_ _ _ q=>q,λ_ Z q=>{#[],by rw[q];simp}⟩
theorem Un.refl:Un fs ex H H h h:=Un.kept λ_ _ q=>q
theorem Un.laid(k:∀b u,h.get? b=bi u->h'.get? b=bi u)(W:h.objs.size<=a)(L:H a=b0):Un fs ex H (dX H a o) h h' where
 keep:=λb u q _ _ _=>k b u q
 slot:=λb u q _ _ _=>{u.slots,k b u q}
 free:=λb u q n _=>by rw[bX<|aM<|aQ (aD q) W];exact n
 there:=λb u q _=>{u,k b u q}
 tups:=λb D q=>by rw[bX<|fP q L];exact q
 frzs:=λb u D q=>by rw[bX<|fP q L];exact q
 tbls:=λb Z q=>{#[],by rw[bX<|fP q L,q];simp}
theorem Un.write(t:P0 (H x))(Y:e=x\/H e=bi (.own x))(k:∀b u,b≠e->h.get? b=bi u->h'.get? b=bi u)(N1:∃u,h'.get? e=bi u):Un fs ex H (dX H x o) h h':=by
 have J:∀b,H b=b0->b≠x:=λb n z=>by subst z;rw[n]at t;exact t
 have U:∀b,H b=b0->b≠e:=λb n z=>by simp_all
 have hm:∀b u,H b=bi u->¬ P0 (bi u)->b≠x:=λb u q V z=>by subst z;rw[q]at t;exact V t
 refine{λb u q n _ _=>k b u (U b n) q,λb u q n _ _=>{u.slots,k b u (U b n) q},λb u q n _=>by rw[bX<|J b n];exact n,λb u q _=>?_,
  λb D q=>by rw[bX<|hm b _ q λz=>z];exact q,λb u D q=>by rw[bX<|hm b _ q λz=>z];exact q,λb Z q=>⟨#[],by rw[bX<|hm b _ q λz=>z,q];simp⟩}
 by_cases f:b=e
 .simp_all
 exact{u,k b u f q}
end
def WR(h:qk)(H:Hp):fy nt:=(uP h.objs.size).filter λa=>(H a).isSome
def xn(h:qk)(H:Hp):qk:=hideAll h<|WR h H
def Fv(h:qk)(H:Hp):(xn h H).objs.size=h.objs.size:=PySem.W.hideAll_size _ _
theorem Hm{H:Hp}(e:h.get? b=bi o)(n:H b=b0):(xn h H).get? b=bi o:=
 PySem.W.hideAll_get _ e λhm=>by have q:=(d7.mp hm).2;rw[n]at q;simp at q
theorem LK{H:Hp}(e:(xn h H).get? b=bi o):h.get? b=bi o/\H b=b0:=by
 have L:=PySem.W.of_hideAll (WR h H) e;refine{L,?_}
 cases q:H b with
 |none=>rfl
 |some x=>
  have hm:b∈WR h H:=d7.mpr {bN.mpr<|aD L,by simp[q]};have z:(xn h H).get? b=b0:=PySem.W.hideAll_none (WR h H) hm;rw[z]at e;cases e
noncomputable def LM(g h:qk)(L:nt):fy (nt×Obj):=(uP h.objs.size).filterMap λa=>if a=L\/(g.get? a).isSome=cT then b0 else(h.get? a).map λo=>(a,o)
def cN(g h:qk)(L d:nt):fy (nt×Obj):=(LM g h L).filter λp=>decide<|p.1≠d
structure Mod(K:ti)(mg:Str->hJ i2)(base:qk):Prop where
 kin:K.In base
 glob:base.Ns wh mg
 blt:∃mb,base.Ns aaB mb/\∀x:Str,x ≠ "__name__"->mb x=aaf x
 nolimit:base.NoLimit
structure Cx where
 prog:Zy
 w:qd
 K:ti
 mg:Str->hJ i2
 base:qk
 A:xh
 N:fy Str
 s₀:n4
 H₀:Hp
 env:Env
 outer:fy Env
 stack:fy Env
 ex:fy nt
 fn:Str->ir
 calm:ir
 pn:fy (nt×Obj)
 xe:i2->n4->Prop
noncomputable def rX(l:fy Env):fy nt:=l.filterMap (·.frame)
abbrev Cx.fs(X:Cx):fy nt:=rX X.outer
def N8(sc:ZB)(x:Str):Prop:=sc.names.lookup x=bi .local\/sc.names.lookup x=bi .cell\/sc.names.lookup x=bi .free
def Fw(sc:ZB)(x:Str):Prop:=sc.names.lookup x=bi .local\/sc.names.lookup x=bi .cell
def Xc(env:Env)(h:qk)(m:Str->hJ i2)(x:Str)(u:i2):Prop:=
 (env.kindOf x=bi .local/\m x=bi u)\/((env.kindOf x=bi .cell\/env.kindOf x=bi .free)/\∃c,env.cells.lookup x=bi c/\h.IsCell c (bi u))
structure Cx.Ok(X:Cx):Prop where
 mod:Mod X.K X.mg X.base
 kind:X.env.scope.kind=.function
 glob:X.env.globals=wh
 blt:X.env.builtins=aaB
 above:X.s₀.heap.objs.size<=X.env.locals
 inj:∀x y c,X.env.cells.lookup x=bi c->X.env.cells.lookup y=bi c->x=y
 has:∀x,(X.env.kindOf x=bi .cell\/X.env.kindOf x=bi .free)->∃c,X.env.cells.lookup x=bi c
 cab:∀x c,X.fn x=cT->X.env.cells.lookup x=bi c->X.s₀.heap.objs.size<=c
 hd:X.calm=cT->X.A.handled=b0
 frames:X.A.frames=bi X.stack
 stk:X.stack=X.outer\/(X.stack=X.env::X.outer/\X.env.frame=bi X.env.locals)
 exf:∀b∈X.ex,b≠X.env.locals/\∀x c,X.env.cells.lookup x=bi c->c≠b
 bs:∀b o,X.base.get? b=bi o->X.s₀.heap.get? b=bi o/\X.H₀ b=b0
 bsz:X.base.objs.size<=X.s₀.heap.objs.size
 noex:∀b o,X.base.get? b=bi o->b∉X.ex
 exfs:∀b∈X.ex,b∉X.fs
 funs:X.s₀.heap.FunFrames X.base X.outer
 frf:∀b∈X.fs,X.H₀ b=b0
structure bn(X:Cx)(ah:fy (nt×Obj))(σ:fy (hJ V))(H:Hp)(s:n4):Prop where
 ok:X.Ok
 os:s.os=X.s₀.os
 bare:ZW s.gens
 base:Un X.fs X.ex X.H₀ H X.s₀.heap s.heap
 loc:∃m,s.heap.Ns X.env.locals m/\∀(i:f7) (x:Str) (v:V),X.N[i]?=bi x->σ[i]?=bi (bi v)->N8 X.env.scope x->∃u,cq v u/\Xc X.env s.heap m x u
 cell:∀x c,X.env.cells.lookup x=bi c->∃v,s.heap.IsCell c v
 free:H X.env.locals=b0
 freeC:∀x c,X.env.cells.lookup x=bi c->H c=b0
 pin:∀p∈X.pn++ah,s.heap.get? p.1=bi p.2/\H p.1=b0/\p.1≠X.env.locals/\p.1∉X.fs/\∀v,p.2.data≠.cell v
 hok:lx X.prog X.w H s.heap
 len:σ.length=X.N.length
section
variable{X:Cx}{σ:fy (hJ V)}{H H':Hp}
def Cx.Ok.nofr(ok:X.Ok)(e:X.base.get? b=bi o):b∉X.fs:=λU=>by have:=(ok.funs.mem U).1;rw[e]at this;cases this
theorem bn.bs(I:bn X ah σ H s):∀b o,X.base.get? b=bi o->s.heap.get? b=bi o/\H b=b0:=λb o e=>
 ⟨I.base.keep b o (I.ok.bs b o e).1 (I.ok.bs b o e).2 (I.ok.nofr e)<|I.ok.noex b o e,I.base.free b o (I.ok.bs b o e).1 (I.ok.bs b o e).2<|I.ok.noex b o e⟩
theorem bn.bk(I:bn X ah σ H s):∀b o,X.base.get? b=bi o->s.heap.get? b=bi o:=λb o e=>(I.bs b o e).1
theorem bn.mod(I:bn X ah σ H s):Mod X.K X.mg X.base:=I.ok.mod
def bn.kIn(I:bn X ah σ H s):X.K.In s.heap:=I.ok.mod.kin.keeps I.bk
theorem bn.lt(I:bn X ah σ H s):X.env.locals<s.heap.objs.size:=let ⟨_,hn,_⟩:=I.loc;hn.lt
def bn.sz(I:bn X ah σ H s):X.s₀.heap.objs.size<=s.heap.objs.size:=aW I.ok.above<|dL I.lt
theorem bn.nofs(I:bn X ah σ H s)(h:s.heap.objs.size<=a):a∉X.fs:=λU=>by obtain⟨_,o,R,_⟩:=I.ok.funs.mem U;exact absurd (aQ (aD R)<|aW I.sz h)<|cV _
theorem bn.cne(I:bn X ah σ H s):∀x c,X.env.cells.lookup x=bi c->c≠X.env.locals:=λx c e z=>by obtain⟨v,o,R,k⟩:=I.cell x c e;obtain⟨m,⟨t,W,J,L,r,_⟩,_⟩:=I.loc;rw[z,L]at R;cases R;rw[r]at k;cases k
theorem bn.funs(I:bn X ah σ H s):s.heap.FunFrames X.base X.outer:=by
 have all:∀l,(∀b∈rX l,b∈X.fs)->X.s₀.heap.FunFrames X.base l->s.heap.FunFrames X.base l:=by
  intro l
  induction l with
  |nil=>intro _ _;trivial
  |cons f r J=>
   intro d y;obtain⟨O,⟨L,o,t,D,R,k⟩,Y⟩:=y;have w:=d L (by unfold rX;rw[fG,t];exact a9);obtain⟨G,e⟩:=I.base.slot L o R (I.ok.frf L w) w λz=>I.ok.exfs L z w;exact{O,⟨L,_,t,D,e,k⟩,J (λb U=>d b (by unfold rX;rw[fG,t];exact aJ _ U)) Y}
 exact all X.outer (λ_ U=>U) I.ok.funs
theorem bn.stack(I:bn X ah σ H s):s.heap.FunFrames X.base X.stack:=by
 rcases I.ok.stk with e|⟨e,O⟩
 .rw[e];exact I.funs
 rw[e];obtain⟨m,L,_⟩:=I.loc;refine .cons (by rw[I.ok.kind];decide) O L ?_ I.funs;exact Heap.get?_none_of_le<|aW I.ok.bsz I.ok.above
theorem bn.stkSub(I:bn X ah σ H s):∀b∈rX X.stack,b∈X.env.locals::X.fs:=λb U=>by
 rcases I.ok.stk with e|⟨e,O⟩
 .rw[e]at U;exact aJ _ U
 .rw[e]at U;unfold rX at U;rw[fG,O]at U;exact U
theorem bn.stkFree(I:bn X ah σ H s):∀b∈rX X.stack,H b=b0:=λb hb=>by
 rcases aS.mp (I.stkSub b hb)with e|hb
 .rw[e];exact I.free
 obtain⟨_,o,R,_⟩:=I.ok.funs.mem hb;exact I.base.free b o R (I.ok.frf b hb) λz=>I.ok.exfs b z hb
theorem bn.step{g':Array GenState}{t':f7}{d':Drawn}{ch:fy nt}(I:bn X ah σ H s)
  (LJ:∀b∈ch,(b∈X.ex\/X.s₀.heap.objs.size<=b)/\b≠X.env.locals/\(∀x c,X.env.cells.lookup x=bi c->c≠b)/\∀p∈X.pn++ah,p.1≠b)
  (keep:∀b o,b≠X.env.locals->b∉X.fs->b∉ch->s.heap.get? b=bi o->H b=b0->h'.get? b=bi o)
  (B:∀b o,b≠X.env.locals->b∈X.fs->b∉ch->s.heap.get? b=bi o->H b=b0->∃sl,h'.get? b=bi { o with slots:=sl }) (free:∀b o,b∉ch->s.heap.get? b=bi o->H b=b0->H' b=b0)
  (there:∀b o,b∉ch->s.heap.get? b=bi o->∃t,h'.get? b=bi t)
  (tups:∀b xs,H b=bi (.tup xs)->H' b=bi (.tup xs)) (frzs:∀b o u,H b=bi (.frz o u)->H' b=bi (.frz o u)) (tbls:∀b ps,H b=bi (.tbl ps)->∃qT,H' b=bi (.tbl<|ps++qT))
  (ns:∀m,s.heap.Ns X.env.locals m->h'.Ns X.env.locals m) (y:lx X.prog X.w H' h') (w:ZW g') :
  bn X ah σ H' { s with heap:=h',gens:=g',drawn:=d',toks:=t' }:=by
 have neL:∀b o,X.s₀.heap.get? b=bi o->b≠X.env.locals:=λb o e=>aM<|aQ (aD e) I.ok.above;have neC:∀b o,X.s₀.heap.get? b=bi o->b∉X.ex->b∉ch:=λb o e J U=>by
  rcases(LJ b U).1 with z|z
  .exact J z
  exact absurd (aQ (aD e) z)<|cV _
 have cellK:∀x c,X.env.cells.lookup x=bi c->∀v,s.heap.IsCell c v->h'.IsCell c v:=λx c e v zq=>by
  obtain⟨o,Z,O⟩:=zq;have nch:c∉ch:=λz=>(LJ c z).2.2.1 x c e rfl
  by_cases D:c∈X.fs
  .obtain⟨sl,q⟩:=B c o (I.cne x c e) D nch Z<|I.freeC x c e;exact⟨_,q,O⟩
  exact{o,keep c o (I.cne x c e) D nch Z<|I.freeC x c e,O}
 refine{I.ok,I.os,w,{λb o e n U J=>?_,λb o e n U J=>?_,λb o e n J=>?_,λb o e J=>?_,λb xs e=>tups b xs<|I.base.tups b xs e,λb o xs e=>frzs b o xs<|I.base.frzs b o xs e,λb ps e=>?_},?_,λx c e=>?_,?_,λx c e=>?_,λp W=>?_,y,I.len}
 .exact keep b o (neL b o e) U (neC b o e J) (I.base.keep b o e n U J) (I.base.free b o e n J)
 .obtain⟨sl,R⟩:=I.base.slot b o e n U J;obtain⟨Xa,e2⟩:=B b _ (neL b o e) U (neC b o e J) R<|I.base.free b o e n J;exact⟨Xa,e2⟩
 .obtain⟨t,R⟩:=I.base.there b o e J;exact free b t (neC b o e J) R<|I.base.free b o e n J
 .obtain⟨t,R⟩:=I.base.there b o e J;exact there b t (neC b o e J) R
 .obtain⟨F,R⟩:=I.base.tbls b ps e;obtain⟨G,e2⟩:=tbls b _ R;exact{F++G,by rw[e2,Array.append_assoc]}
 .obtain⟨m,L,Y⟩:=I.loc;refine{m,ns m L,λi x v R e2 f=>?_};obtain⟨u,r,l⟩:=Y i x v R e2 f;refine{u,r,?_};rcases l with l|⟨k,c,e,z⟩
  .exact .inl l
  exact .inr {k,c,e,cellK x c e _ z}
 .obtain⟨v,z⟩:=I.cell x c e;exact{v,cellK x c e v z}
 .obtain⟨m,⟨o,_,_,Z,_⟩,_⟩:=I.loc;exact free _ o (λz=>(LJ _ z).2.1 rfl) Z I.free
 .obtain⟨v,o,Z,O⟩:=I.cell x c e;exact free c o (λz=>(LJ c z).2.2.1 x c e rfl) Z<|I.freeC x c e
 obtain⟨e,n,ne,nf,d⟩:=I.pin p W;have nch:p.1∉ch:=λz=>(LJ p.1 z).2.2.2 p W rfl;exact{keep p.1 p.2 ne nf nch e n,free p.1 p.2 nch e n,ne,nf,d}
theorem bn.un(I:bn X ah σ H s)(u:Un X.fs [] H H' s.heap h')(Z:lx X.prog X.w H' h'):bn X ah σ H' { s with heap:=h',toks:=t' }:=by
 obtain⟨m,⟨o,W,J,R,r⟩,_⟩:=id I.loc;obtain⟨G,w⟩:=u.any R I.free (by simp);exact I.step (ch:=[]) (λ_ z=>nomatch z) (λb o _ U _ e n=>u.keep b o e n U<|by simp) (λb o _ U _ e n=>u.slot b o e n U<|by simp) (λb o _ e n=>u.free b o e n<|by simp) (λb o _ e=>u.there b o e<|by simp) u.tups u.frzs u.tbls (λk hm=>by
  obtain⟨t,y,f,L,B⟩:=hm;rw[R]at L;cases L
  exact⟨_,y,f,w,B⟩) Z I.bare
theorem bn.call{d:Drawn}(I:bn X ah σ H s)(u:Un (rX X.stack) ch H H' s.heap h')(Z:lx X.prog X.w H' h')(w:ZW g')
  (LJ:∀b∈ch,(b∈X.ex\/X.s₀.heap.objs.size<=b)/\b≠X.env.locals/\(∀x c,X.env.cells.lookup x=bi c->c≠b)/\∀p∈X.pn++ah,p.1≠b) :
  bn X ah σ H' { s with heap:=h',gens:=g',drawn:=d,toks:=t' }:=by
 obtain⟨m,⟨o,W,J,R,r⟩,_⟩:=id I.loc;obtain⟨G,Y⟩:=u.any R I.free λz=>(LJ _ z).2.1 rfl;exact I.step LJ (λb o Y U D e n=>u.keep b o e n (λz=>(aS.mp<|I.stkSub b z).elim Y U) D) (λb o _ _ D e n=>u.any e n D) (λb o D e n=>u.free b o e n D) (λb o D e=>u.there b o e D) u.tups u.frzs u.tbls (λk hm=>by
  obtain⟨t,y,f,L,B⟩:=hm;rw[R]at L;cases L
  exact⟨_,y,f,Y,B⟩) Z w
theorem bn.turned{it:nt}(I:bn X ah σ H s)(k:∀b o,b≠it->s.heap.get? b=bi o->h'.get? b=bi o)(L:H it=b0)(w:it≠X.env.locals)
  (Z:it∈X.ex\/X.s₀.heap.objs.size<=it) (B:∀x c,X.env.cells.lookup x=bi c->c≠it) (Y:∀p∈X.pn++ah,p.1≠it):bn X ah σ H { s with heap:=h',toks:=t' }:=by
 have t:∀b u,H b=bi u->b≠it:=λb u e z=>by rw[z,L]at e;cases e
 refine I.step (ch:=[it]) (λb U=>?_) (λb o _ _ D e _=>k b o (λz=>D<|by simp[z]) e) (λb o _ _ D e _=>{o.slots,k b o (λz=>D<|by simp[z]) e}) (λ_ _ _ _ n=>n)
  (λb o D e=>{o,k b o (λz=>D<|by simp[z]) e}) (λ_ _ e=>e) (λ_ _ _ e=>e) (λb f e=>{#[],by rw[e];simp}) (λm hm=>?_) (λb u e=>?_) I.bare
 .have e:b=it:=by simpa using U
  subst e;exact⟨Z,w,B,Y⟩
 .obtain⟨o,W,J,R,r⟩:=hm;exact{o,W,J,k _ o (Zw w) R,r}
 .refine(I.hok b u e).stay (λc v D q=>k c v ?_ q) (λ_ q=>q) λ_ _ q=>q;rcases D with z|z
  .rw[z];exact t b u e
  .exact t c _ z
def bn.tok(I:bn X ah σ H s)(t:f7):bn X ah σ H { s with toks:=t }:=I.un Un.refl I.hok
theorem bn.kept{t':f7}(I:bn X ah σ H s)(k:∀b u,s.heap.get? b=bi u->h'.get? b=bi u):bn X ah σ H { s with heap:=h',toks:=t' }:=I.un (Un.kept k)<|I.hok.kept k
theorem bn.laid{o:HO}{t':f7}(I:bn X ah σ H s)(k:∀b u,s.heap.get? b=bi u->h'.get? b=bi u)(W:s.heap.objs.size<=a)(new:iA X.prog X.w (dX H a o) h' a o) :
  bn X ah σ (dX H a o) { s with heap:=h',toks:=t' }:=I.un (Un.laid k W<|I.hok.fresh W)<|I.hok.laid k W new
theorem bn.write{x e:nt}{o:HO}(I:bn X ah σ H s)(t:P0 (H x))(Y:e=x\/H e=bi (.own x))(k:∀b u,b≠e->s.heap.get? b=bi u->h'.get? b=bi u)(N1:∃u,h'.get? e=bi u)
  (new:iA X.prog X.w (dX H x o) h' x o):bn X ah σ (dX H x o) { s with heap:=h',toks:=t' }:=I.un (Un.write t Y k N1)<|I.hok.write t Y k N1 new
def bn.pins_of{pins':fy (nt×Obj)}(I:bn X ah σ H s)(h:∀p∈pins',s.heap.get? p.1=bi p.2/\H p.1=b0/\p.1≠X.env.locals/\p.1∉X.fs/\∀v,p.2.data≠.cell v):bn X pins' σ H s:=
 ⟨I.ok,I.os,I.bare,I.base,I.loc,I.cell,I.free,I.freeC,λp W=>(bD.mp W).elim (λz=>I.pin p<|cL _ z)<|h p,I.hok,I.len⟩
def vx{N:fy Str}(d:N.Nodup)(a:N[i]?=bi x)(b:N[j]?=bi x):i=j:=by obtain⟨Z,R⟩:=am.mp a;obtain⟨B,e2⟩:=am.mp b;exact(List.getElem_inj d).mp (R.trans e2.symm)
theorem Fx{M:Model}{A:xh}{E:i2->n4->Prop}{v:V}{Q:Unit->n4->Prop}(I:bn X ah σ H s)(F:X.N.Nodup)(L:X.N[i]?=bi x)(J:Fw X.env.scope x)(r:cq v u)
  (h:∀D,bn X ah (σ.set i<|bi v) H D->(∃a,Z6 a s.heap D.heap/\(a=X.env.locals\/X.env.cells.lookup x=bi a))->Q () D) (t:X.fn x=cT\/X.env.scope.names.lookup x=bi .local:=by first|exact .inl rfl|exact .inr rfl|assumption):nz M A (aas X.env x u) Q E s:=by
 obtain⟨m,B,Y⟩:=id I.loc;have Ls:(X.env.scope.kind==.class||(X.env.scope.kind==.module&&X.env.locals != X.env.globals))=eh:=by rw[I.ok.kind];rfl
 have hiσ:i<σ.length:=by rw[I.len];exact(am.mp L).1
 have cne:=I.cne;have tracked:∀{a:nt} {G:qk},(∃o,s.heap.get? a=bi o/\H a=b0)->Z6 a s.heap G->lx X.prog X.w H G:=λ{a G} ha O b ob e=>by
  obtain⟨_,_,hfree⟩:=ha;refine(I.hok b ob e).stay (λc w' hc q=>(O.2 c ?_).trans q) (λ_ q=>q) λ_ _ q=>q;rintro rfl;rcases hc with rfl|hc
  .simp_all
  simp_all
 rcases J with hk|hk
 .refine wpAny_storeName_local hk B (λG TC O=>?_) Ls;obtain⟨oL,_,_,hoL,_⟩:=id B;refine h _ {I.ok,I.os,I.bare,{λb o e n U J=>?_,λb o e n U J=>?_,I.base.free,λb o e J=>?_,I.base.tups,I.base.frzs,I.base.tbls},{_,TC,λj y v' R e2 w=>?_},λy c e=>?_,I.free,I.freeC,λp W=>?_,tracked {oL,hoL,I.free} O,by simpa using I.len} {_,O,.inl rfl}
  .exact(O.2 b<|aM<|aQ (aD e) I.ok.above).trans (I.base.keep b o e n U J)
  .obtain⟨sl,R⟩:=I.base.slot b o e n U J;exact{sl,(O.2 b<|aM<|aQ (aD e) I.ok.above).trans R}
  .obtain⟨o',R⟩:=I.base.there b o e J;exact{o',(O.2 b<|aM<|aQ (aD e) I.ok.above).trans R}
  .by_cases Z:j=i
   .subst Z;rw[L]at R;cases R
    rw[bt hiσ]at e2
    cases e2
    exact{u,r,.inl ⟨hk,by simp⟩}
   rw[cy<|Zw Z]at e2;obtain⟨u',f,q⟩:=Y j y v' R e2 w;refine{u',f,?_};rcases q with⟨k,e⟩|⟨k,c,e,z⟩
   .refine .inl {k,?_};have:y≠x:=λe=>Z<|vx F R<|e▸L;simp[this,e]
   exact .inr {k,c,e,z.sameBut O<|cne y c e}
  .obtain⟨w',z⟩:=I.cell y c e;exact{w',z.sameBut O<|cne y c e}
  obtain⟨e,n,ne,nf,d⟩:=I.pin p W;exact{(O.2 p.1 ne).trans e,n,ne,nf,d}
 have Hl:X.fn x=cT:=by
  rcases t with z|z
  .exact z
  rw[z]at hk;cases hk
 obtain⟨c,hc⟩:=I.ok.has x<|.inl hk;obtain⟨w',z⟩:=I.cell x c hc;refine wpAny_storeName_cell I.ok.kind hk hc z<|λG hc' O=>?_;obtain⟨oc,hoc,hocd⟩:=id z;refine h { s with heap:=G } {I.ok,I.os,I.bare,{λb o e n U J=>?_,λb o e n U J=>?_,I.base.free,λb o e J=>?_,I.base.tups,I.base.frzs,I.base.tbls},{m,B.sameBut O<|Zw<|cne x c hc,λj y v' R e2 w=>?_},λy c' e=>?_,I.free,I.freeC,λp W=>?_,tracked {oc,hoc,I.freeC x c hc} O,by simpa using I.len} {c,O,.inr hc}
 .exact(O.2 b<|aM<|aQ (aD e)<|I.ok.cab x c Hl hc).trans (I.base.keep b o e n U J)
 .obtain⟨sl,R⟩:=I.base.slot b o e n U J;exact{sl,(O.2 b<|aM<|aQ (aD e)<|I.ok.cab x c Hl hc).trans R}
 .obtain⟨o',R⟩:=I.base.there b o e J;exact{o',(O.2 b<|aM<|aQ (aD e)<|I.ok.cab x c Hl hc).trans R}
 .by_cases Z:j=i
  .subst Z;rw[L]at R;cases R
   rw[bt hiσ]at e2
   cases e2
   exact{u,r,.inr ⟨.inl hk,c,hc,hc'⟩}
  rw[cy<|Zw Z]at e2;obtain⟨u',f,q⟩:=Y j y v' R e2 w;refine{u',f,?_};rcases q with q|⟨k,c',e,z'⟩
  .exact .inl q
  refine .inr {k,c',e,z'.sameBut O ?_};rintro rfl;exact Z<|vx F R<|I.ok.inj _ _ _ e hc▸L
 .by_cases hcc:c'=c
  .subst hcc;exact⟨_,hc'⟩
  obtain⟨w2,z2⟩:=I.cell y c' e;exact{w2,z2.sameBut O hcc}
 obtain⟨e,n,ne,nf,d⟩:=I.pin p W;refine{(O.2 p.1 ?_).trans e,n,ne,nf,d};intro q;rw[q,hoc]at e;exact d w' (by rw[<- (bf e)];exact hocd)
theorem rY{M:Model}{A:xh}{E:i2->n4->Prop}{v:V}{Q:Unit->n4->Prop}(I:bn X ah σ H s)(d:X.N.Nodup)(L:X.N[i]?=bi x)(J:Fw X.env.scope x)(r:cq v u)
  (h:∀D,bn X ah (σ.set i<|bi v) H D->Q () D) (O:X.fn x=cT\/X.env.scope.names.lookup x=bi .local:=by first|exact .inl rfl|exact .inr rfl|assumption):nz M A (aas X.env x u) Q E s:=
 Fx I d L J r (λD I' _=>h D I') O
def bn.call'{D:n4}{ch:fy nt}(I:bn X ah σ H s)(R:D.os=s.os)(u:Un (rX X.stack) ch H H' s.heap D.heap)(Z:lx X.prog X.w H' D.heap)(r:ZW D.gens)
  (LJ:∀b∈ch,(b∈X.ex\/X.s₀.heap.objs.size<=b)/\b≠X.env.locals/\(∀x c,X.env.cells.lookup x=bi c->c≠b)/\∀p∈X.pn++ah,p.1≠b):bn X ah σ H' D:=by obtain⟨G,k,d,U,t⟩:=D;subst R;exact I.call u Z r LJ
end
abbrev XK:=i2->hJ nt->Hp->Prop
noncomputable abbrev St:=fy<|hJ V
abbrev VK:=V->Hp->Prop
abbrev TE:=St->Hp->VK->Prop
abbrev TT:=St->Hp->(ir->Hp->Prop)->Prop
abbrev TA:=St->Hp->(fy V->Hp->Prop)->Prop
structure yL where
 nx:St->Hp->Prop
 rt:VK
 bk:St->Hp->Prop:=λ_ _=>False
 ct:St->Hp->Prop:=λ_ _=>False
abbrev TS:=yL->St->Hp->Prop
def EP(X:Cx)(ah:fy (nt×Obj))(σ:St)(Q:VK)(u:i2)(D:n4):Prop:=∃v H',bn X ah σ H' D/\cq v u/\Q v H'
def TP(X:Cx)(ah:fy (nt×Obj))(σ:St)(Q:ir->Hp->Prop)(b:ir)(D:n4):Prop:=∃H',bn X ah σ H' D/\Q b H'
def AP(X:Cx)(ah:fy (nt×Obj))(σ:St)(Q:fy V->Hp->Prop)(us:fy i2)(D:n4):Prop:=∃Z H',bn X ah σ H' D/\ce Z us/\Q Z H'
def SP(X:Cx)(ah:fy (nt×Obj))(D:yL)(f:Flow)(Y:n4):Prop:=
 match f with
 |.next=>∃R H',bn X ah R H' Y/\D.nx R H'
 |.brk=>∃R H',bn X ah R H' Y/\D.bk R H'
 |.cont=>∃R H',bn X ah R H' Y/\D.ct R H'
 |.ret u=>∃v R H',bn X ah R H' Y/\cq v u/\D.rt v H'
def PE(X:Cx)(e:ow)(t:TE):Prop:=
 ∀(ah:fy (nt×Obj)) (s:n4) (O:St) (H:Hp) (Q:VK),bn X ah O H s->t O H Q->nz #[2] X.A (eval e X.env) (EP X ah O Q) X.xe s
def PT(X:Cx)(e:ow)(t:TT):Prop:=
 ∀(ah:fy (nt×Obj)) (s:n4) (O:St) (H:Hp) (Q:ir->Hp->Prop),bn X ah O H s->t O H Q->nz #[2] X.A (isTrue e X.env<|eval e X.env) (TP X ah O Q) X.xe s
def PW(X:Cx)(e:ow)(t:TT):Prop:=
 ∀(z:Sem i2) (ah:fy (nt×Obj)) (s:n4) (O:St) (H:Hp) (Q:ir->Hp->Prop),bn X ah O H s->t O H Q->nz #[2] X.A (isTrue e X.env z) (TP X ah O Q) X.xe s
def PW.pt{X:Cx}{t:TT}(h:PW X e t):PT X e t:=h _
def PA(X:Cx)(es:fy ow)(t:TA):Prop:=
 ∀(pos:Pos) (ah:fy (nt×Obj)) (s:n4) (O:St) (H:Hp) (Q:fy V->Hp->Prop),bn X ah O H s->t O H Q->nz #[2] X.A (spliced<|Zt pos<|qe es X.env) (AP X ah O Q) X.xe s
def PS(X:Cx)(st:tf)(t:TS):Prop:=
 ∀(ah:fy (nt×Obj)) (s:n4) (O:St) (H:Hp) (D:yL),bn X ah O H s->t D O H->nz #[2] X.A (exec st X.env) (SP X ah D) X.xe s
def Fy(X:Cx)(st:fy tf)(t:TS):Prop:=
 ∀(ah:fy (nt×Obj)) (s:n4) (O:St) (H:Hp) (D:yL),bn X ah O H s->t D O H->nz #[2] X.A (execs st X.env) (SP X ah D) X.xe s
theorem h_{t:Sem α}{Q Q':α->n4->Prop}(h:nz M A t Q E s)(U:∀a s,Q a s->Q' a s):nz M A t Q' E s:=dz h U λ_ _ x=>x
section
variable{X:Cx}
def TV(i:f7):TE:=λO H Q=>∃v,O[i]?=bi (bi v)/\Q v H
def tC(v:V):TE:=λ_ H Q=>Q v H
theorem P2{pos:Pos}(d:X.N[i]?=bi x)(B:N8 X.env.scope x)(k:(x==("__debug__":Str))=eh:=by decide)(z:(x==("__classdict__":Str))=eh:=by decide):PE X (.Name x pos) (TV i):=by
 intro W s O H Q I h;obtain⟨v,e,h⟩:=h;obtain⟨m,L,U⟩:=I.loc;obtain⟨u,r,l⟩:=U i x v d e B;have F:EP X W O Q u s:=⟨v,H,I,r,h⟩
 rcases l with⟨hk,hm⟩|⟨hk,c,D,G⟩
 .exact wpAny_Name (wpAny_loadName_local I.ok.kind hk L hm F) k
 rcases hk with hk|hk
 .exact wpAny_Name (wpAny_loadName_cell I.ok.kind hk D G F) k
 exact wpAny_Name (wpAny_loadName_free I.ok.kind hk D G F z) k
theorem P3{i j pos}:PE X (.Constant (.int i) j pos) (tC<|.int i):=λ_ _ _ H _ I h=>wpAny_Constant_int {.int i,H,I.tok _,⟨_,rfl⟩,h}
theorem TW{b j pos}:PE X (.Constant (.bool b) j pos) (tC<|.bl b):=λ_ _ _ H _ I h=>Constant_bool {.bl b,H,I,rfl,h}
theorem Ho{x j pos}:PE X (.Constant (.str x) j pos) (tC<|.str x):=λ_ _ _ H _ I h=>Calls.Constant_str {.str x,H,I.tok _,⟨_,rfl⟩,h}
def Gl(X:Cx)(x:Str):Prop:=X.env.kindOf x=bi .globalImplicit
def qp{E:i2->n4->Prop}{σ:St}{H:Hp}{pos:Pos}(I:bn X ah σ H s)(r:Gl X x)(hm:X.mg x=bi u)(h:Q u s)
  (k:(x==("__debug__":Str))=eh:=by decide):nz #[2] X.A (eval (.Name x pos) X.env) Q E s:=
 lS I.ok.kind r (Calls.loadGlobal_global (by rw[I.ok.glob];exact I.mod.glob.keeps I.bk) hm h) k
def rj{E:i2->n4->Prop}{σ:St}{H:Hp}{pos:Pos}(I:bn X ah σ H s)(r:Gl X x)(hm:X.mg x=b0)(d:aaf x=bi u)(h:Q u s)
  (L:x ≠ "__name__":=by decide) (k:(x==("__debug__":Str))=eh:=by decide):nz #[2] X.A (eval (.Name x pos) X.env) Q E s:=by obtain⟨z,Z,B⟩:=I.mod.blt;exact lS I.ok.kind r (Calls.loadGlobal_builtin (by rw[I.ok.glob];exact I.mod.glob.keeps I.bk) hm (by rw[I.ok.blt];exact Z.keeps I.bk) ((B x L).trans d) h) k
theorem D1{v:V}{pos:Pos}(z:Gl X x)(hm:X.mg x=bi u)(r:cq v u)(k:(x==("__debug__":Str))=eh:=by decide):PE X (.Name x pos) (tC v):=
 λ_ _ _ H _ I h=>qp I z hm ⟨v,H,I,r,h⟩ k
theorem LN{v:V}{pos:Pos}(z:Gl X x)(hm:X.mg x=b0)(B:aaf x=bi u)(r:cq v u)(L:x ≠ "__name__":=by decide)(k:(x==("__debug__":Str))=eh:=by decide):PE X (.Name x pos) (tC v):=
 λ_ _ _ H _ I h=>rj I z hm B ⟨v,H,I,r,h⟩ L k
variable{a b:ow}{ta tb:TE}
def tB(t:TE):TT:=λO H Q=>t O H λx H1=>∃c,x=.bl c/\Q c H1
theorem P4{t:TE}(h:PE X e t)(Y:∀z,isTrue e X.env z=(do let v <- z;standAt e.pos;holding [v] (truthy v)):=by intro _;rfl):PT X e (tB t):=by
 refine λW s O H Q I Z=>isTrue_plain (h_ (h W s O H _ I Z) λv G zv=>?_)<|Y _;obtain⟨x,H1,I1,B,w⟩:=zv;obtain⟨d,rfl,q⟩:=w
 cases B
 exact dZ ⟨H1,I1,q⟩
variable{tA WN:TT}{cN:fy ow}
def Xd(t u:TT):TT:=λO H Q=>t O H λc H1=>if c=cT then u O H1 Q else Q eh H1
def YY(t u:TT):TT:=λO H Q=>t O H λc H1=>if c=cT then Q cT H1 else u O H1 Q
def Xe(t:TT):TT:=λO H Q=>t O H λc H1=>Q (!c) H1
theorem LO(J:PT X a tA):PW X (.BoolOp .And [a] pos) tA:=by
 refine λz W s O H Q I h=>isTrue_and<|h_ (J W s O H Q I h) λc G e=>?_
 cases c with
 |true=>exact isTrue_and_nil e
 |false=>exact e
theorem P5(J:PT X a tA):PW X (.BoolOp .Or [a] pos) tA:=by
 refine λz W s O H Q I h=>isTrue_or<|h_ (J W s O H Q I h) λc G e=>?_
 cases c with
 |false=>exact isTrue_or_nil e
 |true=>exact e
theorem P6(J:PT X a tA)(U:PW X (.BoolOp .And (b::cN) pos) WN):PW X (.BoolOp .And (a::b::cN) pos) (Xd tA WN):=by
 refine λz W s O H Q I h=>isTrue_and<|h_ (J W s O H _ I h) λc G zq=>?_;obtain⟨H1,I1,w⟩:=zq
 cases c with
 |true=>exact U z W G O H1 Q I1 w
 |false=>exact⟨H1,I1,w⟩
theorem TX(J:PT X a tA)(U:PW X (.BoolOp .Or (b::cN) pos) WN):PW X (.BoolOp .Or (a::b::cN) pos) (YY tA WN):=by
 refine λz W s O H Q I h=>isTrue_or<|h_ (J W s O H _ I h) λc G zq=>?_;obtain⟨H1,I1,w⟩:=zq
 cases c with
 |true=>exact⟨H1,I1,w⟩
 |false=>exact U z W G O H1 Q I1 w
theorem P7(J:PT X a tA):PT X (.UnaryOp .Not a pos) (Xe tA):=λW s O H Q I h=>isTrue_not<|J W s O H (λc H1=>Q (!c) H1) I h
def TY(ta tb:TE):TE:=λO H Q=>ta O H λx H1=>∃c,x=.bl c/\if c=cT then tb O H1 Q else Q (.bl eh) H1
def Xf(ta tb:TE):TE:=λO H Q=>ta O H λx H1=>∃c,x=.bl c/\if c=cT then Q (.bl cT) H1 else tb O H1 Q
def TZ(ta:TE):TE:=λO H Q=>ta O H λx H1=>∃c,x=.bl c/\Q (.bl<|!c) H1
theorem P8{op}{t:TE}(h:PE X a t):PE X (.BoolOp op [a] pos) t:=λW s O H Q I Z=>BoolOp_one<|h W s O H Q I Z
theorem P9(J:PE X a ta)(U:PE X (.BoolOp .And (b::cN) pos) tb):PE X (.BoolOp .And (a::b::cN) pos) (TY ta tb):=by
 refine λW s O H Q I h=>BoolOp_and<|h_ (J W s O H _ I h) λv G zq=>?_;obtain⟨x,H1,I1,B,w⟩:=zq;obtain⟨c,rfl,w⟩:=w
 cases B
 refine dZ ?_
 cases c with
 |true=>exact U W G O H1 Q I1 w
 |false=>exact{.bl eh,H1,I1,rfl,w}
theorem T0(J:PE X a ta)(U:PE X (.BoolOp .Or (b::cN) pos) tb):PE X (.BoolOp .Or (a::b::cN) pos) (Xf ta tb):=by
 refine λW s O H Q I h=>BoolOp_or<|h_ (J W s O H _ I h) λv G zq=>?_;obtain⟨x,H1,I1,B,w⟩:=zq;obtain⟨c,rfl,w⟩:=w
 cases B
 refine dZ ?_
 cases c with
 |false=>exact U W G O H1 Q I1 w
 |true=>exact{.bl cT,H1,I1,rfl,w}
theorem P_(J:PE X a ta):PE X (.UnaryOp .Not a pos) (TZ ta):=by
 refine λW s O H Q I h=>UnaryOp_<|h_ (J W s O H _ I h) λv G zq=>?_;obtain⟨x,H1,I1,B,w⟩:=zq;obtain⟨c,rfl,w⟩:=w
 cases B
 exact not_of<|dZ {.bl<|!c,H1,I1,rfl,w}
def YZ(t:TT)(ta tb:TE):TE:=λO H Q=>t O H λc H1=>if c=cT then ta O H1 Q else tb O H1 Q
theorem Hq(D:PT X c tA)(J:PE X a ta)(U:PE X b tb):PE X (.IfExp c a b pos) (YZ tA ta tb):=by
 refine λW s O H Q I h=>wpAny_IfExp<|h_ (D W s O H _ I h) λd G zq=>?_;obtain⟨H1,I1,w⟩:=zq
 cases d with
 |true=>exact J W G O H1 Q I1 w
 |false=>exact U W G O H1 Q I1 w
end
def rZ(K:ti)(H:Hp)(a:nt)(xs:fy V):Prop:=
 Rd H a (.lst xs) \/
  ∃(o:Obj) (br:Array i2) (n:f7),K.lookup a=bi o/\o.cls=.type "list"/\o.dict=b0/\o.data=.seq br n/\br.size<=sizeLine/\ce xs br.toList
def fY(K:ti)(H:Hp)(a:nt)(xs:fy V):Prop:=
 Rd H a (.tup xs) \/
  ∃(o:Obj) (br:Array i2) (n:f7),K.lookup a=bi o/\o.cls=.type "tuple"/\o.data=.seq br n/\br.size<=sizeLine/\ce xs br.toList
noncomputable def Xg:i2->hJ V
 |.none=>bi .non
 |.bool b=>bi (.bl b)
 |.int i _=>bi (.int i)
 |.str x _=>bi (.str x)
 |.bytes b _=>bi (.byt b)
 |.float b _=>bi (.flt b)
 |.ref a=>bi (.ref a)
 |.type n=>bi (.ty n)
 |_=>b0
def cq.abs{x:V}(r:cq x u):Xg u=bi x:=by
 cases x with
 |non=>cases r;rfl
 |bl _=>cases r;rfl
 |int _=>obtain⟨t,rfl⟩:=r;rfl
 |str _=>obtain⟨t,rfl⟩:=r;rfl
 |byt _=>obtain⟨t,rfl⟩:=r;rfl
 |flt _=>obtain⟨t,rfl⟩:=r;rfl
 |ref _=>cases r;rfl
 |ty _=>cases r;rfl
def cq.inj{x y:V}(r:cq x u)(q:cq y u):x=y:=bf<|r.abs.symm.trans q.abs
theorem ce.inj:∀{xs L:fy V} {us:fy i2},ce xs us->ce L us->xs=L
 |_,_,_,.nil,.nil=>rfl
 |_,_,_,.cons r t,.cons r' t'=>by rw[r.inj r',ce.inj t t']
section
variable{X:Cx}{σ:St}{H:Hp}{xs ys:fy V}
def rZ.of(h:H a=bi (.lst xs)):rZ K H a xs:=.inl<|.inl h
def fY.of(h:H a=bi (.tup xs)):fY K H a xs:=.inl<|.inl h
theorem bn.list(I:bn X ah σ H s)(h:rZ X.K H a xs):∃br:fy i2,ce xs br/\PlainL s.heap a br.toArray/\xs.length<=sizeLine:=by
 rcases h with h|⟨o,br,n,O,D,k,d,J,r⟩
 .obtain⟨z,br,n,r,e⟩:=h.ok I.hok;exact{br,r,⟨_,n,e,rfl,rfl,rfl⟩,z}
 refine{br.toList,r,{o,n,I.kIn a o O,D,k,by simpa using d},?_};have e:=r.length;simp at e
 lia
theorem bn.tuple(I:bn X ah σ H s)(h:fY X.K H a xs):∃br:fy i2,ce xs br/\IsTup s.heap a br.toArray/\xs.length<=sizeLine:=by
 rcases h with h|⟨o,br,n,O,D,d,J,r⟩
 .obtain⟨z,br,r,p⟩:=h.ok I.hok;exact⟨br,r,p,z⟩
 refine{br.toList,r,{o,I.kIn a o O,D,n,by simpa using d},?_};have e:=r.length;simp at e;omega
theorem bn.list_inj(I:bn X ah σ H s)(h:rZ X.K H a xs)(h':rZ X.K H a ys):xs=ys:=by
 obtain⟨f,r,⟨o,n,e,_,_,d⟩,_⟩:=I.list h;obtain⟨z,B,⟨t,Y,L,_,_,U⟩,_⟩:=I.list h';rw[e]at L;cases L
 rw[d]at U;injection U with d1 _;have:f=z:=by simpa using eJ Array.toList d1
 subst this;exact r.inj B
theorem bn.tuple_inj(I:bn X ah σ H s)(h:fY X.K H a xs)(h':fY X.K H a ys):xs=ys:=by
 obtain⟨f,r,⟨o,e,_,n,d⟩,_⟩:=I.tuple h;obtain⟨z,B,⟨t,L,_,Y,U⟩,_⟩:=I.tuple h';rw[e]at L;cases L
 rw[d]at U;injection U with d1 _;have:f=z:=by simpa using eJ Array.toList d1
 subst this;exact r.inj B
end
section
variable{X:Cx}{σ:St}{H:Hp}
end
section
variable{X:Cx}{st:tf}{cN:fy tf}{t u:TS}{te:TE}
def T1:TS:=λD O H=>D.nx O H
def Xh(t u:TS):TS:=λD O H=>t { D with nx:=u D } O H
theorem LP:Fy X [] T1:=λ_ _ O H _ I h=>jg ⟨O,H,I,h⟩
theorem Hr(Z:PS X st t)(B:Fy X cN u):Fy X (st::cN) (Xh t u):=by
 refine λW s O H D I h=>iR<|h_ (Z W s O H { D with nx:=u D } I h) λf G q=>?_
 cases f with
 |next=>
  obtain⟨R,H',I',q⟩:=q;exact B W G R H' D I' q
 |ret v=>exact q
 |brk=>exact q
 |cont=>exact q
theorem LR(Z:PS X st t):Fy X [st] t:=by
 refine λW s O H D I h=>iR<|h_ (Z W s O H D I h) λf G q=>?_
 cases f with
 |next=>exact jg q
 |ret v=>exact q
 |brk=>exact q
 |cont=>exact q
def bn.quiet{σ:St}{H:Hp}(I:bn X ah σ H s):interactive X.env=eh:=by simp[interactive,I.ok.kind]
def T2(te:TE):TS:=λD O H=>te O H λ_ H1=>D.nx O H1
theorem LS(Y:PE X e te)(d:swapsWith e b0 pos.line X.env=pure eh:=by rfl):PS X (.Expr e pos) (T2 te):=λW s O H D I h=>wpAny_Expr_any (h_ (Y W s O H _ I h) λv G zw=>by obtain⟨x,H1,I1,B,w⟩:=zw;exact ⟨O,H1,I1,w⟩) I.quiet d
def Xi(te:TE):TS:=λD O H=>te O H D.rt
theorem P'(Y:PE X e te):PS X (.Return (bi e) pos) (Xi te):=λW s O H D I h=>wpAny_Return_some (h_ (Y W s O H _ I h) λv G zx=>by obtain⟨x,H1,I1,B,w⟩:=zx;exact ⟨x,O,H1,I1,B,w⟩)
def Xj(c:TT)(t u:TS):TS:=λD O H=>c O H λb H1=>if b=cT then t D O H1 else u D O H1
theorem T3{a b:fy tf}{z:TT}(R:PT X c z)(J:Fy X a t)(U:Fy X b u):PS X (.If c a b pos) (Xj z t u):=by
 refine λW s O H D I h=>wpAny_If<|h_ (R W s O H _ I h) λd G zq=>?_;obtain⟨H1,I1,w⟩:=zq
 cases d with
 |true=>exact J W G O H1 D I1 w
 |false=>exact U W G O H1 D I1 w
end
abbrev TG:=V->St->Hp->(St->Hp->Prop)->Prop
abbrev LU:=fy V->St->Hp->(St->Hp->Prop)->Prop
def PG(X:Cx)(Tp:ow)(t:TG):Prop:=
 ∀(ah:fy (nt×Obj)) (s:n4) (O:St) (H:Hp) (v:V) (u:i2) (Q:St->Hp->Prop),bn X ah O H s->cq v u->t v O H Q ->
  nz #[2] X.A (assign Tp X.env u) (λ_ D=>∃R H',bn X ah R H' D/\Q R H') X.xe s
def N9(X:Cx)(z:fy ow)(t:LU):Prop:=
 ∀(ah:fy (nt×Obj)) (s:n4) (O:St) (H:Hp) (Z:fy V) (us:fy i2) (Q:St->Hp->Prop),bn X ah O H s->ce Z us->t Z O H Q ->
  nz #[2] X.A (assignInOrder ((ZU z X.env).map (·.2)) us) (λ_ D=>∃R H',bn X ah R H' D/\Q R H') X.xe s
abbrev LV:=V->V->V->Hp->(Hp->Prop)->Prop
def CB(X:Cx)(t:LV):Prop:=
 ∀(ah:fy (nt×Obj)) (s:n4) (O:St) (H:Hp) (o i v:V) (f U u:i2) (Q:Hp->Prop),bn X ah O H s->cq o f->cq i U->cq v u->t o i v H Q ->
  nz #[2] X.A (setItem f U u) (λ_ D=>∃H',bn X ah O H' D/\Q H') X.xe s
section
variable{X:Cx}
def N_(i:f7):TG:=λv O H Q=>Q (O.set i<|bi v) H
theorem LW(d:X.N.Nodup)(L:X.N[i]?=bi x)(J:Fw X.env.scope x)(t:X.fn x=cT\/X.env.scope.names.lookup x=bi .local:=by first|exact .inl rfl|exact .inr rfl|assumption):PG X (.Name x pos) (N_ i):=λW s O H v u Q I r h=>wpAny_assign_Name<|rY I d L J r (λD I'=>⟨_,H,I',h⟩) t
def Xk:LU:=λD O H Q=>D=[]/\Q O H
def T5(t:TG)(u:LU):LU:=λD O H Q=>∃v r,D=v::r/\t v O H λR H'=>u r R H' Q
theorem LX:N9 X [] Xk:=by intro W s O H D z Q I r h;obtain⟨e,h⟩:=h;exact assignInOrder_nil ⟨O,H,I,h⟩
theorem Hs{t:TG}{u:LU}(Z:PG X e t)(B:N9 X es u)
  (d:(ZU (e::es) X.env).map (·.2)=assign e X.env::(ZU es X.env).map (·.2):=by rfl):N9 X (e::es) (T5 t u):=by
 intro W s O H D z Q I r h;obtain⟨v,y,R,h⟩:=h;subst R
 cases r with
 |cons r Y=>
  rw[d];exact assignInOrder_cons (h_ (Z W s O H _ _ _ I r h) λ_ G zy=>by obtain⟨J,H1,I1,w⟩:=zy;exact B W G J H1 _ _ Q I1 Y w)
def Xl(K:ti)(n:f7)(t:LU):TG:=λv O H Q=>∃a D,v=.ref a/\fY K H a D/\D.length=n/\t D O H Q
theorem Qa{k:f7}{t:LU}(D:X.calm=cT)(h:N9 X es t)
  (L:(ZU es X.env).length=n:=by rfl) (z:(ZU es X.env).findIdx? (·.1)=b0:=by rfl):PG X (.Tuple es k pos) (Xl X.K n t):=by
 intro W s O H v u Q I r Z;obtain⟨a,G,R,F,U,Z⟩:=Z;subst R
 cases r
 obtain⟨f,rv,B,d⟩:=I.tuple F;refine assign_Tuple_tuple (I.ok.hd D) B (by simp[L,<- U,rv.length]) z λV J=>?_;have I1:bn X W O H { s with heap:=V }:=I.kept λb o e=>J b o (aM<|aD e) e;exact h W _ O H G _ Q I1 (by omega) Z
def Xm(to Y:TE)(t:LV):TG:=λv O H Q=>to O H λo H1=>Y O H1 λi H2=>t o i v H2 λH3=>Q O H3
theorem Qb{o i:ow}{to Y:TE}{t:LV}(R:PE X o to)(L:PE X i Y)(d:CB X t)
  (J:∀v,assign (.Subscript o i pos) X.env v=(do
   let f <- holding [v] (eval o X.env)
   let U <- holding [v,f] (eval i X.env)
   standAt pos
   holding [v,f,U] (setItem f U v)
   release [v,f,U] []):=by intro _;rfl):PG X (.Subscript o i pos) (Xm to Y t):=by intro W s O H v u Q I r h;rw[J];exact aa (cD (h_ (R W s O H _ I h) λf G zz=>by obtain⟨x,H1,I1,B,w⟩:=zz;exact aa<|cD (h_ (L W G O H1 _ I1 w) λU F zv=>by obtain⟨y,H2,I2,Z,z⟩:=zv;exact aa<|q9<|aa<|cD (h_ (d W F O H2 x y v f U u _ I2 B Z r z) λ_ k zw=>by obtain⟨H3,I3,V⟩:=zw;exact wpAny_release ⟨O,H3,I3,V⟩))))
def Ht(k:TE)(g:TG):TS:=λD O H=>k O H λx H1=>g x O H1 D.nx
theorem Hu{k:TE}{g:TG}(Y:PE X e k)(r:PG X tg g)(d:swapsWithSole [tg] e pos.line X.env=pure eh:=by rfl)(z:swappedStores [tg] e X.env=pure b0:=by rfl)
  (Z:(ZU [tg] X.env).map (·.2)=[assign tg X.env]:=by rfl):PS X (.Assign [tg] e pos) (Ht k g):=by refine λW s O H D I h=>wpAny_Assign_stores (h_ (Y W s O H _ I h) λv G zx=>?_) d z;obtain⟨x,H1,I1,B,w⟩:=zx;rw[Z];exact h_ (r W G O H1 x v _ I1 B w) λ_ F q=>q
theorem Qc{k:TE}(R:X.N.Nodup)(L:X.N[i]?=bi x)(J:Fw X.env.scope x)(Y:PE X e k)(d:swapsWith e (bi<|.Name x nA) pos.line X.env=pure eh:=by rfl)(t:X.fn x=cT\/X.env.scope.names.lookup x=bi .local:=by first|exact .inl rfl|exact .inr rfl|assumption) :
  PS X (.Assign [.Name x nA] e pos) (Ht k<|N_ i):=by refine λW s O H D I h=>wpAny_Assign_Name (h_ (Y W s O H _ I h) λv G zy=>?_) d;obtain⟨y,H1,I1,B,w⟩:=zy;exact rY I1 R L J B (λF I2=>⟨_,H1,I2,w⟩) t
end
section
variable{X:Cx}
def Hv(c:TT)(tb:TS):TS:=λD O H=>∃W:f7->St->Hp->Prop,(∃m,W m O H)/\∀m O H,W m O H ->
 c O H λb H1=>if b=cT then ∃N:St->Hp->Prop,(∀R H',N R H'->∃z,z<m/\W z R H')/\tb { D with nx:=N,ct:=N,bk:=D.nx } O H1 else D.nx O H1
theorem Hw{tc:TT}{tb:TS}(F:PassesOwn #[2] X.A X.env X.xe)(R:PT X c tc)(U:Fy X body tb):PS X (.While c body [] pos) (Hv tc tb):=by
 intro Y s O H D I h;obtain⟨W,⟨m0,B⟩,w⟩:=h;refine wpAny_While<|codeAny_whileLoop (λn Z=>∃k H',bn X Y k H' Z/\W n k H') ?_ m0 ⟨O,H,I,B⟩;rintro n G ⟨J,H1,I1,w1⟩;refine gf F<|h_ (R Y G J H1 _ I1<|w n J H1 w1) λb r zq=>?_;obtain⟨H2,I2,t⟩:=zq
 cases b with
 |true=>
  obtain⟨N,d,t⟩:=t;refine gf F<|h_ (U Y r J H2 _ I2 t) λf L V=>?_
  cases f with
  |next=>
   obtain⟨y,H3,I3,n3⟩:=V;obtain⟨z,hm,w3⟩:=d y H3 n3;exact⟨z,hm,y,H3,I3,w3⟩
  |cont=>
   obtain⟨y,H3,I3,n3⟩:=V;obtain⟨z,hm,w3⟩:=d y H3 n3;exact⟨z,hm,y,H3,I3,w3⟩
  |brk=>exact V
  |ret v=>exact V
 |false=>
  exact jg ⟨J,H2,I2,t⟩
end
structure It where
 go:f7->Hp->Prop
 yld:f7->Hp->V->Hp->Prop
 stop:f7->Hp->Prop
def yM(X:Cx)(ah:fy (nt×Obj))(H:Hp)(b:nt):Prop:=
 H b=b0/\b≠X.env.locals/\b∉X.fs/\(b∈X.ex\/X.s₀.heap.objs.size<=b)/\(∀x c,X.env.cells.lookup x=bi c->c≠b)/\∀p∈X.pn++ah,p.1≠b
theorem bn.fpOk{X:Cx}{σ:St}{H H':Hp}(I:bn X ah σ H s)(U:s.heap.objs.size<=b)(L:H' b=b0):yM X ah H' b:=by
 refine{L,eV<|aQ I.lt U,I.nofs U,.inr<|aW I.sz U,λx c e z=>?_,λp W z=>?_}
 .obtain⟨v,q⟩:=I.cell x c e;exact absurd (aQ q.lt<|by simp_all)<|cV _
 exact absurd (aQ (aD (I.pin p W).1)<|by simp_all)<|cV _
structure CC(P:Zy)(w:qd)(K:ti)(tg:ow)(J:It)(fp:fy nt)(it:nt)(tn:f7->qk->Prop):Prop where
 mem:it∈fp
 obj:∀i h,tn i h->∀b∈fp,∃o,h.get? b=bi o/\∀v,o.data≠.cell v
 keep:∀i h h',tn i h->(∀b∈fp,∀o,h.get? b=bi o->h'.get? b=bi o)->tn i h'
 item:∀(X:Cx),X.prog=P->X.w=w->X.K=K->X.calm=cT->∀(i:f7) (ah:fy (nt×Obj)) (s:n4) (σ:St) (H:Hp) (E:i2->n4->Prop),bn X ah σ H s->(∀b∈fp,yM X ah H b)->tn i s.heap->J.go i H ->
  nz (model P w) X.A (ZD<|.ref it) (λr s1=>∃u,r=bi u /\
   nz (model P w) X.A (letOwnedTupleGo tg (.ref it) u) (λ_ s2=>∃x H',bn X ah σ H' s2/\cq x u/\J.yld i H x H'/\tn (i+1) s2.heap/\∀b∈fp,H' b=b0) E s1) E s
 done:∀(X:Cx),X.prog=P->X.w=w->X.K=K->X.calm=cT->∀(i:f7) (ah:fy (nt×Obj)) (s:n4) (σ:St) (H:Hp) (E:i2->n4->Prop),bn X ah σ H s->(∀b∈fp,yM X ah H b)->tn i s.heap->J.stop i H ->
  nz (model P w) X.A (ZD<|.ref it) (λr s1=>r=b0/\bn X ah σ H s1) E s
 self:∀(A:xh) (i:f7) (s:n4) (Q:i2->n4->Prop) (E:i2->n4->Prop),tn i s.heap->Q (.ref it) s->nz (model P w) A (ZX<|.ref it) Q E s
abbrev TI:=St->Hp->(It->Hp->Prop)->Prop
def WS(X:Cx)(ah:fy (nt×Obj))(σ:St)(tg:ow)(R:It->Hp->Prop)(Yk:i2)(F:n4):Prop:=
 ∃(it:nt) (fp:fy nt) (t:f7->qk->Prop) (J:It) (H':Hp),Yk=.ref it/\bn X ah σ H' F/\CC X.prog X.w X.K tg J fp it t/\t 0 F.heap/\(∀b∈fp,yM X ah H' b)/\R J H'
def PI(X:Cx)(tg iter:ow)(y:TI):Prop:=
 ∀(ah:fy (nt×Obj)) (s:n4) (O:St) (H:Hp) (R:It->Hp->Prop),bn X ah O H s->y O H R ->
  nz #[2] X.A (eval iter X.env) (λv G=>nz #[2] X.A (ZX v) (WS X ah O tg R) X.xe G) X.xe s
theorem AG      {E:i2 -> n4 -> Prop}   {it:nt}   {n:String} {vs:Array i2} {Q:Unit -> n4 -> Prop} (R : s.heap.get? it = bi o) (D : o.cls = .type n) (k : o.data = .fields vs)
    (L : ["enumerate", "zip", "dict_itemiterator", "dict_reverseitemiterator", "odict_iterator", "itertools.zip_longest", "itertools.pairwise"].contains n = eh) (U : Q () s) : nz M A (letOwnedTupleGo tg (.ref it) u) Q E s := by
  cases tg <;> first
    | exact aq         U
    | (cases u <;> first
        | exact aq         U
        | (refine aa         (wpAny_load R ?_)
           rw [D, k];show nz M A (if (["enumerate", "zip", "dict_itemiterator", "dict_reverseitemiterator", "odict_iterator", "itertools.zip_longest", "itertools.pairwise"].contains n && vs[0]? == bi (w9 _)) = cT then _ else _) Q E s;rw [aF     (by intro h; rw [L] at h; cases h)];exact aq         U))
noncomputable def Yt(K:ti)(a:nt):It:=
 ⟨λi H=>∃D x,rZ K H a D/\D[i]?=bi x,λi H x H'=>H'=H/\∀D,rZ K H a D->D[i]?=bi x,λi H=>∃D,rZ K H a D/\D.length<=i⟩
noncomputable def Yu(K:ti)(a:nt):It:=
 ⟨λi H=>∃D x,fY K H a D/\D[i]?=bi x,λi H x H'=>H'=H/\∀D,fY K H a D->D[i]?=bi x,λi H=>∃D,fY K H a D/\D.length<=i⟩
noncomputable def WT(z:hG)(n:f7):It:={λi _=>i<n,λi H x H'=>H'=H/\x=.int (z+i),λi _=>n<=i}
theorem Fz{w:qd}(a it:nt):CC P w K tg (Yt K a) [it] it (λi h=>h.IsListIter it a i) where
 mem:=by simp
 obj:=λi h V b U=>by
  have e:b=it:=by simpa using U
  subst e;obtain⟨o,e,c,d⟩:=V;exact{o,e,λv z=>by rw[d]at z;cases z}
 keep:=λi h h' V k=>V.at λo e=>k it (by simp) o e
 item:=by intro X hP Z hK D i W s O H E I t V r;subst hP Z hK;obtain⟨G,x,F,J⟩:=r;obtain⟨f,rv,p,R⟩:=I.list F;obtain⟨u,hu,ru⟩:=rv.get J;obtain⟨f0,f1,f2,f3,f4,f5⟩:=t it (by simp);refine oA V p.isList (by simpa using hu) λh' y sb=>?_;have I1:bn X W O H { s with heap:=h' }:=I.turned (λb o U e=>(sb.2 b U).trans e) f0 f1 f3 f4 f5;obtain⟨o,e,c,d⟩:=id y;exact{u,rfl,AG e c d (by decide) ⟨x,H,I1,ru,{rfl,λL B=>by rw[I.list_inj B F];exact J},y,λb U=>(t b U).1⟩}
 done:=by intro X hP Z hK D i W s O H E I t V r;subst hP Z hK;obtain⟨G,F,J⟩:=r;obtain⟨f,rv,p,R⟩:=I.list F;obtain⟨f0,f1,f2,f3,f4,f5⟩:=t it (by simp);have Y:=rv.length;exact pi (I.ok.hd D) V p.isList (by simp;lia) λh' eb=>{rfl,I.turned (eb) f0 f1 f3 f4 f5}
 self:=λ_ _ _ _ _ V h=>wpAny_pyIter_listiter V h
theorem CD{w:qd}(a it:nt):CC P w K tg (Yu K a) [it] it (λi h=>h.IsTupleIter it a i) where
 mem:=by simp
 obj:=λi h V b U=>by
  have e:b=it:=by simpa using U
  subst e;obtain⟨o,e,c,d⟩:=V;exact{o,e,λv z=>by rw[d]at z;cases z}
 keep:=λi h h' V k=>V.at λo e=>k it (by simp) o e
 item:=by intro X hP Z hK D i W s O H E I t V r;subst hP Z hK;obtain⟨G,x,F,J⟩:=r;obtain⟨f,rv,p,R⟩:=I.tuple F;obtain⟨u,hu,ru⟩:=rv.get J;obtain⟨f0,f1,f2,f3,f4,f5⟩:=t it (by simp);refine wpAny_pyNext_tuple_item V p (by simpa using hu) λh' y sb=>?_;have I1:bn X W O H { s with heap:=h' }:=I.turned (λb o U e=>(sb.2 b U).trans e) f0 f1 f3 f4 f5;obtain⟨o,e,c,d⟩:=id y;exact{u,rfl,AG e c d (by decide) ⟨x,H,I1,ru,{rfl,λL B=>by rw[I.tuple_inj B F];exact J},y,λb U=>(t b U).1⟩}
 done:=by intro X hP Z hK D i W s O H E I t V r;subst hP Z hK;obtain⟨G,F,J⟩:=r;obtain⟨f,rv,p,R⟩:=I.tuple F;obtain⟨f0,f1,f2,f3,f4,f5⟩:=t it (by simp);have Y:=rv.length;exact wpAny_pyNext_tuple_end (I.ok.hd D) V p (by simp;lia) λh' eb=>{rfl,I.turned (eb) f0 f1 f3 f4 f5}
 self:=λ_ _ _ _ _ V h=>wpAny_pyIter_tupleiter V h
theorem CF{w:qd}(it:nt)(d:hG)(n:f7):CC P w K tg (WT d n) [it] it (λi h=>IsRangeIter h it (d+(i:f7)*1) ((n:hG)-(i:f7)) 1) where
 mem:=by simp
 obj:=λi h V b U=>by simp_all
 keep:=λi h G V k=>k it (by simp) _ V
 item:=by intro X y Z f D i W s O H E I z V r;subst y Z f;obtain⟨f0,L,Y,R,f4,f5⟩:=z it (by simp);refine(Walks.range (prog:=X.prog) (w:=X.w) (I.ok.hd D) it d 1 n).item i s _ _ r V λv G F B J kk=>?_;obtain⟨t,rfl⟩:=B;have I1:bn X W O H { s with heap:=G,toks:=F }:=I.turned (λb o U e=>kk b o (by simpa using U) e) f0 L R f4 f5;refine{_,rfl,AG J rfl rfl (by decide) ⟨.int<|d+i,H,I1,{t,?_},⟨rfl,rfl⟩,J,λb U=>(z b U).1⟩};rw[Int.mul_one]
 done:=by intro X y Z f D i W s O H E I z V r;subst y Z f;obtain⟨f0,L,Y,R,f4,f5⟩:=z it (by simp);exact wpAny_pyNext_range_end (I.ok.hd D) V (by have:n<=i:=r;lia) λG eb=>{rfl,I.turned (eb) f0 L R f4 f5}
 self:=λ_ _ _ _ _ V h=>wpAny_pyIter_rangeiter V h
section
variable{X:Cx}
def T6(K:ti)(r:TE):TI:=λO H R=>r O H λx H1=>∃a,x=.ref a/\(∃D,rZ K H1 a D)/\R (Yt K a) H1
def Xn(K:ti)(r:TE):TI:=λO H R=>r O H λx H1=>∃a,x=.ref a/\(∃D,fY K H1 a D)/\R (Yu K a) H1
theorem LY{l:ow}{r:TE}(Y:PE X l r):PI X tg l (T6 X.K r):=by
 refine λW s O H R I h=>h_ (Y W s O H _ I h) λv G zq=>?_;obtain⟨x,H1,I1,B,w⟩:=zq;obtain⟨a,e,⟨D,Z⟩,q⟩:=w;subst e
 cases B
 obtain⟨f,rv,p,J⟩:=I1.list Z;refine jL p.isList {G.heap.objs.size,[G.heap.objs.size],_,_,H1,rfl,I1.kept λb o e=>ar _ e,Fz a _,{_,ay _ rfl,rfl,rfl},λb U=>?_,q};have e:b=G.heap.objs.size:=by simpa using U
 subst e;exact I1.fpOk (av _)<|I1.hok.fresh<|av _
theorem Qd{l:ow}{r:TE}(Y:PE X l r):PI X tg l (Xn X.K r):=by
 refine λW s O H R I h=>h_ (Y W s O H _ I h) λv G zq=>?_;obtain⟨x,H1,I1,B,w⟩:=zq;obtain⟨a,e,⟨D,Z⟩,q⟩:=w;subst e
 cases B
 obtain⟨f,rv,p,J⟩:=I1.tuple Z;refine lU p {G.heap.objs.size,[G.heap.objs.size],_,_,H1,rfl,I1.kept λb o e=>ar _ e,CD a _,{_,ay _ rfl,rfl,rfl},λb U=>?_,q};have e:b=G.heap.objs.size:=by simpa using U
 subst e;exact I1.fpOk (av _)<|I1.hok.fresh<|av _
theorem Hy{σ:St}{H:Hp}{R:It->Hp->Prop}{z L:hG}{t u v:Tok}{F:f7}(I:bn X ah σ H s)(Z:-(2^62)<=z)(B:z<2^62)(Y:-(2^62)<=L)(V:L<2^62)
  (q:R (WT z (L-z).toNat) H):nz #[2] X.A (ZX<|.ref s.heap.objs.size) (WS X ah σ tg R) E { s with heap:=s.heap.push { cls:=.type "range",data:=.fields #[.int z t,.int L u,.int 1 v] },toks:=F }:=by
 refine wpAny_pyIter_range (IsRange.new ..) (small_one Z B Y V) ?_;have I1:bn X ah σ H { s with heap:=s.heap.push { cls:=.type "range",data:=.fields #[.int z t,.int L u,.int 1 v] },toks:=F }:=I.kept λb o e=>ar _ e;refine{(s.heap.push { cls:=.type "range",data:=.fields #[.int z t,.int L u,.int 1 v] }).objs.size,[(s.heap.push { cls:=.type "range",data:=.fields #[.int z t,.int L u,.int 1 v] }).objs.size],_,_,H,rfl,
  I1.kept λb o e=>ar _ e,CF _ z (L-z).toNat,?_,λb U=>?_,q}
 .have O:z+((0:f7))*1=z:=by simp
  have e2:(((L-z).toNat))-((0:f7))=aaO z L 1:=by rw[rangeSize_one];split<;>lia
  rw[O,e2];exact ay _ rfl
 have e:b=(s.heap.push { cls:=.type "range",data:=.fields #[.int z t,.int L u,.int 1 v] }).objs.size:=by simpa using U
 subst e;exact I1.fpOk (av _)<|I1.hok.fresh<|av _
def T7(Z:TA):TI:=λO H R=>Z O H λD H1=>∃j:hG,D=[.int j]/\-(2^62)<=j/\j<2^62/\R (WT 0 j.toNat) H1
theorem FB{a:ow}{Z:TA}{p pos:Pos}(z:Gl X "range")(hm:X.mg "range"=b0)(J:PA X [a] Z)(d:qe [a] X.env=[(eh,eval a X.env)]:=by rfl):PI X tg (.Call (.Name "range" p) [a] [] pos) (T7 Z):=by
 refine λW s O H R I h=>Call_<|rj I z hm boot_range<|fK (h_ (J pos W s O H _ I h) λk G zz=>?_) d rfl;obtain⟨D,H1,I1,B,w⟩:=zz;obtain⟨j,e,w,f,q⟩:=w;subst e
 cases B with
 |cons r Y=>
  cases Y
  obtain⟨t,rfl⟩:=r;exact call_range_1 (Hy I1 #[0] #[0] w f (by simp_all))
def Xo(y:TI)(g:TG)(tb:TS):TS:=λD O H=>y O H λJ H1=>∃W:f7->f7->St->Hp->Prop,(∃m,W 0 m O H1)/\∀i m O H,W i m O H ->
 (J.stop i H/\D.nx O H)\/(J.go i H/\∃N:St->Hp->Prop,(∀R H',N R H'->∃z,z<m/\W (i+1) z R H')/\∀x H',J.yld i H x H'->g x O H' λw H2=>tb { D with nx:=N,ct:=N,bk:=D.nx } w H2)
noncomputable def yN(fp:fy nt)(h:qk):fy (nt×Obj):=fp.filterMap λb=>(h.get? b).map λo=>(b,o)
def j8(U:b∈fp)(e:h.get? b=bi o):(b,o)∈yN fp h:=lV.mpr {b,U,by rw[e];rfl}
theorem FC{p:nt×Obj}(W:p∈yN fp h):p.1∈fp/\h.get? p.1=bi p.2:=by
 obtain⟨b,U,e⟩:=lV.mp W
 cases q:h.get? b with
 |none=>rw[q]at e;cases e
 |some o=>
  rw[q]at e;have L:=bf e;subst L;exact⟨U,q⟩
theorem bn.pinned{σ:St}{H:Hp}(I:bn X ah σ H s)(O:∀b∈fp,yM X ah H b)(R:∀b∈fp,∃o,s.heap.get? b=bi o/\∀v,o.data≠.cell v):bn X (ah++yN fp s.heap) σ H s:=
 I.pins_of λp W=>(bD.mp W).elim (λz=>I.pin p<|a8 _ z) λz=>by
  obtain⟨U,e⟩:=FC z;obtain⟨f,L,Y,_⟩:=O p.1 U;obtain⟨o,y,d⟩:=R p.1 U;rw[e]at y;cases y
  exact⟨e,f,L,Y,d⟩
theorem bn.unpinned{pl:fy (nt×Obj)}{σ:St}{H:Hp}(I:bn X (ah++pl) σ H s):bn X ah σ H s:=I.pins_of λp W=>I.pin p<|a8 _<|cL _ W
theorem Qe{wi:TI}{g:TG}{tb:TS}{pos:Pos}(F:PassesOwn #[2] X.A X.env X.xe)(R:X.calm=cT)(L:PI X tg iter wi)(hg:PG X tg g)(U:Fy X body tb)
  (w:∀x,Z9 iter X.env x=pure x:=by intro _;rfl):PS X (.For tg iter body [] pos) (Xo wi g tb):=by
 refine λY s O H D I h=>wpAny_For (h_ (L Y s O H _ I h) λv G Z=>h_ Z λYk s2 B=>?_) w;obtain⟨it,fp,tn,J,H2,e,I2,T,y,f2,W,⟨m0,w0⟩,turn⟩:=B;subst e;have stat:∀{H':Hp},(∀b∈fp,H' b=b0)->∀b∈fp,yM X Y H' b:=λz b U=>{z b U,(f2 b U).2}
 refine codeAny_forLoop_any (λn t=>∃i k H',bn X Y k H' t/\tn i t.heap/\(∀b∈fp,H' b=b0)/\W i n k H') ?_ m0 {0,O,H2,I2,y,λb U=>(f2 b U).1,w0};rintro n s3 ⟨i,σ3,H3,I3,gW,fr3,w3⟩;rcases turn i n σ3 H3 w3 with⟨stop,qn⟩|⟨go,N,hN,step⟩
 .refine gf F (h_ (T.done X rfl rfl rfl R i Y s3 σ3 H3 X.xe I3 (stat fr3) gW stop) λr s4 zq=>?_);obtain⟨V,I4⟩:=zq;subst V;exact jg ⟨σ3,H3,I4,qn⟩
 refine gf F<|h_ (T.item X rfl rfl rfl R i Y s3 σ3 H3 X.xe I3 (stat fr3) gW go) λr s4 zq=>?_;obtain⟨u,V,h4⟩:=zq;subst V;refine gf F<|h_ h4 λ_ s5 zv=>?_;obtain⟨x,H5,I5,r5,y5,Cw,fr5⟩:=zv;refine gf F<|h_ (hg _ s5 σ3 H5 x u _ (I5.pinned (stat fr5)<|T.obj _ _ Cw) r5<|step x H5 y5) λ_ s6 zw=>?_;obtain⟨σ6,H6,I6,q6⟩:=zw;refine gf F<|h_ (U _ s6 σ6 H6 _ I6 q6) λf s7 q7=>?_;have again:∀{σ7:St} {H7:Hp},bn X (Y++yN fp s5.heap) σ7 H7 s7->N σ7 H7->∃m,m<n/\∃i k H',bn X Y k H' s7/\tn i s7.heap/\(∀b∈fp,H' b=b0)/\W i m k H':=λ{σ7 H7} I7 n7=>by obtain⟨m',hm,w7⟩:=hN σ7 H7 n7;refine{m',hm,i+1,σ7,H7,I7.unpinned,T.keep _ _ _ Cw λb U o e=>(I7.pin (b,o)<|a8 _<|a8 _<|j8 U e).1,λb U=>?_,w7};obtain⟨o,e,d⟩:=T.obj _ _ Cw b U;exact(I7.pin (b,o)<|a8 _<|a8 _<|j8 U e).2.1
 cases f with
 |next=>obtain⟨σ7,H7,I7,n7⟩:=q7;exact again I7 n7
 |cont=>obtain⟨σ7,H7,I7,n7⟩:=q7;exact again I7 n7
 |brk=>obtain⟨σ7,H7,I7,q7⟩:=q7;exact{σ7,H7,I7.unpinned,q7}
 |ret v=>obtain⟨x7,σ7,H7,I7,r7,q7⟩:=q7;exact{x7,σ7,H7,I7.unpinned,r7,q7}
end
abbrev R2:=V->V->Hp->VK->Prop
def mR(X:Cx)(f:i2->i2->Sem i2)(r:R2):Prop:=
 ∀(ah:fy (nt×Obj)) (s:n4) (O:St) (H:Hp) (x y:V) (v u:i2) (Q:VK),bn X ah O H s->cq x v->cq y u->r x y H Q ->
  nz #[2] X.A (f v u) (EP X ah O Q) X.xe s
def Xp(X:Cx)(f:i2->Sem i2)(r:V->Hp->VK->Prop):Prop:=
 ∀(ah:fy (nt×Obj)) (s:n4) (O:St) (H:Hp) (x:V) (v:i2) (Q:VK),bn X ah O H s->cq x v->r x H Q ->
  nz #[2] X.A (f v) (EP X ah O Q) X.xe s
def ju(X:Cx)(f:i2)(r:fy V->Hp->VK->Prop):Prop:=
 ∀(ah:fy (nt×Obj)) (s:n4) (O:St) (H:Hp) (D:fy V) (us:fy i2) (Q:VK),bn X ah O H s->ce D us->r D H Q ->
  nz #[2] X.A (call f us) (EP X ah O Q) X.xe s
def T8(r:R2)(Z tb:TE):TE:=λO H Q=>Z O H λx H1=>tb O H1 λy H2=>r x y H2 Q
def Y0(r:V->Hp->VK->Prop)(Z:TE):TE:=λO H Q=>Z O H λx H1=>r x H1 Q
def rI(C:hG->hG->Prop)(g:hG->hG->V):R2:=λx y H Q=>∃i j,x=.int i/\y=.int j/\C i j/\Q (g i j) H
def Hz(g:hG->hG->V):R2:=λx y H Q=>∃i j,x=.int i/\y=.int j/\Q (g i j) H
def rU(g:hG->V):V->Hp->VK->Prop:=λx H Q=>∃i,x=.int i/\Q (g i) H
section
variable{X:Cx}{a b:ow}{ta tb tc:TE}
def Qf(J:PE X a ta)(U:PE X b tb){σ:St}{H:Hp}{R:V->V->Hp->Prop}(I:bn X ah σ H s)
  (h:ta σ H λx H1=>tb σ H1 λy H2=>R x y H2) {Q:i2->n4->Prop} {f:i2->i2->Sem i2}
  (O:∀v u F x y H2,bn X ah σ H2 F->cq x v->cq y u->R x y H2->nz #[2] X.A (f v u) Q X.xe F) :
  nz #[2] X.A (eval a X.env) (λv W=>nz #[2] X.A (eval b X.env) (λu k=>nz #[2] X.A (f v u) Q X.xe k) X.xe W) X.xe s:=by exact h_ (J ah s σ H _ I h) λv G zx=>by obtain⟨x,H1,I1,B,w⟩:=zx;exact h_ (U ah G σ H1 _ I1 w) λu F zy=>by obtain⟨y,H2,I2,Z,t⟩:=zy;exact O v u F x y H2 I2 B Z t
theorem T9{op:Operator}{r:R2}(R:mR X (Zs op) r)(J:PE X a ta)(U:PE X b tb):PE X (.BinOp a op b pos) (T8 r ta tb):=λW s O H Q I h=>wpAny_BinOp<|Qf J U I h λv u F x y H2 I2 Y w q=>R W F O H2 x y v u Q I2 Y w q
theorem T_{op:UnaryOp}{r:V->Hp->VK->Prop}(R:Xp X (unaryOp op) r)(J:PE X a ta):PE X (.UnaryOp op a pos) (Y0 r ta):=λW s O H Q I h=>UnaryOp_ (h_ (J W s O H _ I h) λv G zz=>by obtain⟨x,H1,I1,B,w⟩:=zz;exact R W G O H1 x v Q I1 B w)
theorem TD{f:i2->i2->Sem i2}{C:hG->hG->Prop}{g:hG->hG->hG}
  (r:∀(i j:hG) (t u:Tok) (s:n4) (Q:i2->n4->Prop) (E:i2->n4->Prop),C i j->Q (.int (g i j) s.toks) { s with toks:=s.toks+1 }->nz #[2] X.A (f (.int i t)<|.int j u) Q E s) :
  mR X f (rI C λi j=>.int<|g i j):=by intro W s O H x y v u Q I Y w h;obtain⟨i,j,rfl,rfl,D,q⟩:=h;obtain⟨t,rfl⟩:=Y;obtain⟨Z,rfl⟩:=w;exact r i j t Z s _ _ D {.int<|g i j,H,I.tok _,⟨_,rfl⟩,q}
theorem Qg{f:i2->i2->Sem i2}{g:hG->hG->hG}
  (r:∀(i j:hG) (t u:Tok) (s:n4) (Q:i2->n4->Prop) (E:i2->n4->Prop),Q (.int (g i j) s.toks) { s with toks:=s.toks+1 }->nz #[2] X.A (f (.int i t)<|.int j u) Q E s) :
  mR X f (Hz λi j=>.int<|g i j):=by intro W s O H x y v u Q I Y w h;obtain⟨i,j,rfl,rfl,q⟩:=h;obtain⟨t,rfl⟩:=Y;obtain⟨Z,rfl⟩:=w;exact r i j t Z s _ _ {.int<|g i j,H,I.tok _,⟨_,rfl⟩,q}
theorem LZ{f:i2->i2->Sem i2}{g:hG->hG->ir}
  (r:∀(i j:hG) (t u:Tok) (s:n4) (Q:i2->n4->Prop) (E:i2->n4->Prop),Q (.bool<|g i j) s->nz #[2] X.A (f (.int i t)<|.int j u) Q E s) :
  mR X f (Hz λi j=>.bl<|g i j):=by intro W s O H x y v u Q I Y w h;obtain⟨i,j,rfl,rfl,q⟩:=h;obtain⟨t,rfl⟩:=Y;obtain⟨Z,rfl⟩:=w;exact r i j t Z s _ _ {.bl<|g i j,H,I,rfl,q}
def Xq(i j:hG):Prop:=0<j/\j<1073741824
def Qh(i j:hG):Prop:=0<=j/\j<=1000000/\i.natAbs<2^64
def Qi(i j:hG):Prop:=(-(2^64)<i/\i<2^64)\/(-(2^64)<j/\j<2^64)
def Qi.ok{i j:hG}(h:Qi i j):IntMulOk i j:=by
 rcases h with⟨Z,B⟩|⟨Z,B⟩
 .exact .of_left (intBits_le_64 Z B)
 exact .of_right<|intBits_le_64 Z B
def CG(k:f7):(0:hG)<=2^k:=by exact Int.natCast_nonneg _
theorem Qj:mR X (Zs .Add) (Hz λi j=>.int<|i+j):=Qg λ_ _ _ _ _ _ _ q=>add_int q
theorem Ql:mR X (Zs .Sub) (Hz λi j=>.int<|i-j):=Qg λ_ _ _ _ _ _ _ q=>sub_int q
theorem Qm:mR X (Zs .Mult) (rI Qi λi j=>.int<|i*j):=TD λ_ _ _ _ _ _ _ D q=>mul_int q D.ok
theorem L0:mR X (Zs .FloorDiv) (rI Xq λi j=>.int<|i/j):=TD λi j _ _ _ _ _ D q=>by have Z:=D.1;have B:=D.2;exact floordiv_int #[0] (by rw[lW i #[0]];exact q) (.inl<|PyProof.noPylong_small #[0])
theorem Qn:mR X (Zs .Mod) (rI (λ_ j=>0<j) λi j=>.int<|i%j):=TD λi j _ _ _ _ _ D q=>by exact mod_int' #[0] (by rw[Int.fmod_eq_emod_of_nonneg i #[0]];exact q)
theorem Qo:mR X (Zs .Pow) (rI Qh λi j=>.int<|i^j.toNat):=TD λ_ _ _ _ _ _ _ D q=>pow_int_small D.1 D.2.1 D.2.2 q
theorem HA:mR X (Zs .LShift) (rI Qh λi j=>.int<|i*2^j.toNat):=TD λ_ _ _ _ _ _ _ D q=>lshift_int_small D.1 D.2.1 D.2.2 q
theorem Qp:mR X (Zs .RShift) (rI (λ_ j=>0<=j) λi j=>.int<|i/2^j.toNat):=TD λi j _ _ _ _ _ D q=>
 rshift_int D (by rw[lW i<|CG _];exact q)
theorem Qq:mR X (Zs .BitAnd) (Hz λi j=>.int<|aaI i j):=Qg λ_ _ _ _ _ _ _ q=>and_int q
theorem Y1{f:i2->Sem i2}{g:hG->hG}
  (r:∀(i:hG) (t:Tok) (s:n4) (Q:i2->n4->Prop) (E:i2->n4->Prop),Q (.int (g i) s.toks) { s with toks:=s.toks+1 }->nz #[2] X.A (f<|.int i t) Q E s) :
  Xp X f (rU λi=>.int<|g i):=by intro W s O H x v Q I Y h;obtain⟨i,rfl,q⟩:=h;obtain⟨t,rfl⟩:=Y;exact r i t s _ _ {.int<|g i,H,I.tok _,⟨_,rfl⟩,q}
theorem Qr:Xp X (unaryOp .USub) (rU λi=>.int (-i)):=Y1 λ_ _ _ _ _ q=>neg_int q
end
section
variable{X:Cx}{a b:ow}{ta tb tc:TE}
def HB{σ:St}{H:Hp}{Q:VK}{k U:ir}(I:bn X ah σ H s)(q:Q (.bl k) H)(e:k=U):EP X ah σ Q (.bool U) s:=by subst e;exact{.bl k,H,I,rfl,q}
theorem T':mR X (Zu .Lt) (Hz λi j=>.bl<|decide<|i<j):=LZ λ_ _ _ _ _ _ _ q=>lt_int q
theorem Ua:mR X (Zu .LtE) (Hz λi j=>.bl<|decide<|i<=j):=LZ λ_ _ _ _ _ _ _ q=>le_int q
theorem Ub:mR X (Zu .Gt) (Hz λi j=>.bl<|decide<|j<i):=LZ λ_ _ _ _ _ _ _ q=>gt_int q
theorem Uc:mR X (Zu .GtE) (Hz λi j=>.bl<|decide<|j<=i):=LZ λ_ _ _ _ _ _ _ q=>ge_int q
theorem FD:mR X (Zu .In) (λx y H Q=>∃i j,x=.str i/\y=.str j/\Q (.bl<|!(aaM j i 0 j.length 1).isEmpty) H):=by intro W s O H x y v u Q I Y w h;obtain⟨i,j,rfl,rfl,q⟩:=h;obtain⟨t,rfl⟩:=Y;obtain⟨Z,rfl⟩:=w;exact in_str<|HB I q rfl
theorem yO:mR X (Zu .NotIn) (λx y H Q=>∃i j,x=.str i/\y=.str j/\Q (.bl<|!(!(aaM j i 0 j.length 1).isEmpty)) H):=by intro W s O H x y v u Q I Y w h;obtain⟨i,j,rfl,rfl,q⟩:=h;obtain⟨t,rfl⟩:=Y;obtain⟨Z,rfl⟩:=w;exact notIn_str<|HB I q rfl
def HC(b:ow)(h:op≠.In:=by decide)(B:op≠.NotIn:=by decide):aac op b=eh:=by
 have R:(op==CmpOp.In)=eh:=by cases op<;>first|rfl|exact absurd rfl h
 have e2:(op==CmpOp.NotIn)=eh:=by cases op<;>first|rfl|exact absurd rfl B
 cases b<;>simp[aac,R,e2]
theorem L1{r:R2}(R:mR X (Zu op) r)(J:PE X a ta)(U:PE X b tb)(hm:aac op b=eh):PE X (.Compare a [op] [b] pos) (T8 r ta tb):=λW s O H Q I h=>wpAny_Compare1 (Qf J U I h λv u F x y H2 I2 Y w q=>R W F O H2 x y v u Q I2 Y w q) hm
def Ud(t:TE):TT:=λO H Q=>t O H λx H'=>∃k,x=.bl k/\Q k H'
theorem L3{r:R2}(R:mR X (Zu op) r)(J:PE X a ta)(U:PE X b tb)(hm:aac op b=eh):PT X (.Compare a [op] [b] pos) (Ud<|T8 r ta tb):=by
 intro W s O H Q I h;refine wpAny_isTrue_Compare1 (h_ (J W s O H _ I h) λv G ⟨x,H1,I1,B,w⟩=>h_ (U W G O H1 _ I1 w) λu F ⟨y,H2,I2,Z,t⟩=>
  h_ (R W F O H2 x y v u _ I2 B Z t) λc L ⟨z,H3,I3,f,k,e,V⟩=>?_) hm
 subst e
 cases f
 exact dZ ⟨H3,I3,V⟩
def HD(r B:R2)(ta tb tc:TE):TE:=λO H Q=>ta O H λx H1=>tb O H1 λy H2=>r x y H2 λz H3=>∃k,z=.bl k /\
 (if k=cT then tc O H3 λL H4=>B y L H4 Q else Q (.bl eh) H3)
theorem HE{Tz:CmpOp}{r f:R2}(R:mR X (Zu op) r)(tR:mR X (Zu Tz) f)(J:PE X a ta)(U:PE X b tb)(D:PE X c tc)
  (hm:lastMarks [op,Tz] [b,c]=eh:=by with_unfolding_all rfl):PE X (.Compare a [op,Tz] [b,c] pos) (HD r f ta tb tc):=by
 intro W s O H Q I h;refine Compare_chain (h_ (J W s O H _ I h) λv G ⟨x,H1,I1,B,w⟩=>chain_link (h_ (U W G O H1 _ I1 w) λu F ⟨y,H2,I2,Z,t⟩=>
  h_ (R W F O H2 x y v u _ I2 B Z t) λd L ⟨z,H3,I3,r3,k,e,V⟩=>?_)) hm
 subst e
 cases r3
 refine dZ ?_
 cases k with
 |false=>exact ite_ff {.bl eh,H3,I3,rfl,V}
 |true=>exact ite_tt (chain_last (h_ (D W L O H3 _ I3 V) λY s4 zx=>by obtain⟨z',H4,I4,r4,q4⟩:=zx;exact tR W s4 O H4 y z' u Y Q I4 Z r4 q4))
def tU:(sizeLine:f7)<2^63:=by rw[jy];decide
theorem CI:mR X (Zs .Add) (λx y H Q=>∃i j,x=.str i/\y=.str j/\i.length+j.length<=sizeLine/\Q (.str<|i++j) H):=by intro W s O H x y v u Q I Y w h;obtain⟨i,j,rfl,rfl,J,q⟩:=h;obtain⟨t,rfl⟩:=Y;obtain⟨Z,rfl⟩:=w;exact add_str (λZ F=>{.str<|i++j,H,I.tok _,⟨_,rfl⟩,q}) J
def oN{x:V}(r:ce [x] us):∃u,us=[u]/\cq x u:=by
 cases r with
 |cons B Z=>cases Z;exact⟨_,rfl,B⟩
def Ue{x y:V}(r:ce [x,y] us):∃u L,us=[u,L]/\cq x u/\cq y L:=by
 cases r with
 |cons B Z=>
  cases Z with
  |cons J I=>cases I;exact⟨_,_,rfl,B,J⟩
theorem FF(D:X.calm=cT):ju X (.builtin "max") (λxs H Q=>∃i j,xs=[.int i,.int j]/\Q (.int<|if j>i then j else i) H):=by
 intro W s O H xs z Q I r h;obtain⟨i,j,rfl,q⟩:=h;obtain⟨u,L,rfl,⟨t,rfl⟩,⟨U,rfl⟩⟩:=Ue r;refine max_two_ints (I.ok.hd D) λV F k=>{_,H,I.kept k,?_,q}
 by_cases Z:j>i
 .rw[ax Z,ax Z];exact⟨_,rfl⟩
 rw[aF Z,aF Z];exact⟨_,rfl⟩
theorem xW:ju X (.type "int") (λxs H Q=>(∃i,xs=[.int i]/\Q (.int i) H)\/∃k,xs=[.bl k]/\Q (.int<|if k then 1 else 0) H):=by
 intro W s O H xs z Q I r h;rcases h with⟨i,rfl,q⟩|⟨k,rfl,q⟩
 .obtain⟨u,rfl,t,rfl⟩:=oN r;exact call_int_int {.int i,H,I,⟨_,rfl⟩,q}
 obtain⟨u,rfl,B⟩:=oN r
 cases B
 exact call_int_bool {.int (if k then 1 else 0),H,I.tok _,⟨_,rfl⟩,q}
end
structure Qs(h:qk)(x dx C:nt)(mA:Str->hJ i2):Prop where
 obj:h.get? x=bi (PySem.W.instObj C dx)
 ns:h.Ns1 dx mA
 ne:dx≠x
theorem FH{U:nt}(n:h.Ns1 U mA):∃d,h.get? U=bi d/\∀name,PySem.W.lookIn name d=bi (mA name):=by
 obtain⟨o,G,J,R,k,O,_,hm⟩:=n;refine{o,R,λname=>?_};have e:=hm name;unfold nsFind findBy at e;rw[<- Array.find?_toList]at e;unfold PySem.W.lookIn;rw[k];dsimp only
 split
 .rename_i y q
  rw[q]at e;exact eJ bi e
 .rename_i q
  rw[q]at e;have a:G.toList.any (·.refKey)=eh:=by rw[List.any_eq_false];intro y W;obtain⟨z,t,w⟩:=O y<|Array.mem_toList_iff.mp W;simp[DictEntry.refKey,w]
  have r:¬ G.toList.any (·.refKey)=cT:=by rw[a];exact dN
  rw[aF r];exact eJ bi e
def Qs.look{x U:nt}(I:Qs h x U C mA):∃d,PySem.W.InstAt h x (PySem.W.instObj C U) C (bi d)/\∀name,PySem.W.lookIn name d=bi (mA name):=
 let ⟨d,ho,hl⟩:=FH I.ns
 ⟨d,⟨I.obj,rfl,rfl,ho⟩,hl⟩
section
variable{w:qd}{x dx f:nt}
end
def vt.some_of{v:V}{o:hJ i2}(r:vt (bi v) o):∃u,o=bi u/\cq v u:=by
 cases o with
 |none=>exact r.elim
 |some u=>exact⟨u,rfl,r⟩
section
variable{w:qd}{H H':Hp}{dx:nt}{fs Zl:fy (Str×V)}
theorem L5(Z:lx P w H h)(e:H a=bi (.ins C dx fs)):∃mA,Qs h a dx C mA/\(∀f,vt (fs.lookup f)<|mA f)/\PySem.Within mA (fs.map (·.1))/\fs.length<=1000/\H dx=bi (.own a):=by
 obtain⟨d,z,k,F,mA,n,r,q⟩:=(Z a _ e)
 exact{mA,⟨F,n,k⟩,r,q,z,d}
end
structure Qt(K:ti)(C:nt):Prop where
 pg:PySem.W.plainGet K C Str.empty=cT
 hd:PySem.W.hasDictIn K C=cT
 po:PySem.W.plainOver K C=cT
 sa:findIn K (.ref C) "__setattr__"=bi (bi<|.builtin "object.__setattr__")
def Qt.get(c:Qt K C)(f:Str):PySem.W.plainGet K C f=cT:=c.pg
section
variable{X:Cx}{σ:St}{H:Hp}{dx:nt}{fs:fy (Str×V)}{f:Str}{v:V}
end
section
variable{X:Cx}{o kX:ow}{f:Str}{Yb:Pos}{ta tv:TE}
end
section
variable{X:Cx}{σ:St}{H:Hp}{c:i2}{b:ir}
inductive uR(K:ti)(H:Hp):V->i2->Prop where
 |non:uR K H .non (.type "NoneType")
 |bl (x:ir):uR K H (.bl x) (.type "bool")
 |int (i:hG):uR K H (.int i) (.type "int")
 |str (x:Str):uR K H (.str x) (.type "str")
 |flt (x:UInt64):uR K H (.flt x) (.type "float")
 |lst {a:nt} {xs:fy V} (e:H a=bi (.lst xs)):uR K H (.ref a) (.type "list")
 |frz {a:nt} {o:Obj} {xs:fy V} (e:H a=bi (.frz o<|.lst xs)):uR K H (.ref a) (.type "list")
 |tup {a:nt} {xs:fy V} (e:H a=bi (.tup xs)):uR K H (.ref a) (.type "tuple")
 |dK {a:nt} {kvs:fy (ji×V)} (e:H a=bi (.dK kvs)):uR K H (.ref a) (.type "dict")
 |dT {a:nt} {kvs:fy (fy ji×V)} (e:H a=bi (.dT kvs)):uR K H (.ref a) (.type "dict")
 |ins {a C dx:nt} {fs:fy (Str×V)} (e:H a=bi (.ins C dx fs)) (cl:Qt K C) (ha:findIn K (.ref C) "__class__"=bi (bi<|.builtin "object.__class__"))
   (hn:PySem.W.specialIn K (.builtin "object.__class__") "__get__"=bi (bi<|.builtin "getset_descriptor.__get__")) (YS:PySem.W.takesIn K (.builtin "object.__class__")=bi cT)
   (hm:PySem.W.mroIn K C (.type "object")=bi cT):uR K H (.ref a) (.ref C)
theorem qr{x:V}{t:i2}(I:bn X ah σ H s)(Y:cq x u)(ty:uR X.K H x t)(e:kitOne X.K t c=bi b)(h:∀F,Q (.bool b) { s with toks:=F }) :
  nz #[2] A (call (.builtin "isinstance") [u,c]) Q E s:=by
 cases ty with
 |non=>cases Y;exact ZR PySem.W.kitx_none I.kIn True.intro e (λz=>nomatch z) h
 |bl y=>cases Y;exact ZR PySem.W.kitx_bool I.kIn True.intro e (λz=>nomatch z) h
 |int i=>obtain⟨t,q⟩:=Y;cases q;exact ZR PySem.W.kitx_int I.kIn True.intro e (λz=>nomatch z) h
 |str y=>obtain⟨t,q⟩:=Y;cases q;exact ZR PySem.W.kitx_str I.kIn True.intro e (λz=>nomatch z) h
 |flt y=>obtain⟨t,q⟩:=Y;cases q;exact ZR PySem.W.kitx_float I.kIn True.intro e (λz=>nomatch z) h
 |@lst a G ea=>
  cases(show u=Zv a from Y)
  obtain⟨_,_,n,_,Z⟩:=(I.hok a _ ea)
  exact ZR PySem.W.kitx_list I.kIn ⟨_,Z,rfl⟩ e (λz=>nomatch z) h
 |@frz a ob G ea=>
  cases Y
  obtain⟨_,_,_,n,_,Z⟩:=(I.hok a _ ea)
  exact ZR PySem.W.kitx_list I.kIn ⟨_,Z,rfl⟩ e (λz=>nomatch z) h
 |@tup a G ea=>
  cases(show u=Zv a from Y)
  obtain⟨_,_,_,p⟩:=(I.hok a _ ea)
  obtain⟨o,Z,B,_⟩:=p;exact ZR PySem.W.kitx_tuple I.kIn ⟨o,Z,B⟩ e (λz=>nomatch z) h
 |@dK a kvs ea=>
  cases(show u=Zv a from Y)
  obtain⟨_,_,D,_,p⟩:=(I.hok a _ ea)
  obtain⟨o,W,w,Z,B,_⟩:=p;exact ZR PySem.W.kitx_dict I.kIn {o,Z,B.1} e (λz=>nomatch z) h
 |@dT a kvs ea=>
  cases(show u=Zv a from Y)
  obtain⟨_,_,G,_,o,W,w,Z,B,_⟩:=(I.hok a _ ea)
  exact ZR PySem.W.kitx_dict I.kIn {o,Z,B.1} e (λz=>nomatch z) h
 |@ins a C dx fs ea cl ha hn YS hm=>
  cases Y
  obtain⟨r,O,_⟩:=L5 I.hok ea;obtain⟨d,J,_⟩:=O.look;exact ZR (PySem.W.kitx_own (cl.get _) cl.hd ha hn YS hm) I.kIn J e (λz=>nomatch z) h
end
structure iy(k:f7)(A:xh):Prop where
 hd:A.handled=b0
 dp:A.depth+2*k+5<recursionLimit
 un:A.units+16*k+200<ZE
theorem iy.mono{k:f7}(r:iy k A)(h:j<=k):iy j A:={r.hd,by have:=r.dp;lia,by have:=r.un;lia}
theorem iy.deeper{k:f7}(r:iy (k+1) A)(env:Env):iy k (A.deeper env):=
 ⟨r.hd,by have:=r.dp;show A.depth+1+2*k+5<_;lia,by have:=r.un;show A.units+3+16*k+200<_;lia⟩
theorem iy.depth{k:f7}(r:iy k A):A.depth<recursionLimit:=by have:=r.dp;lia
theorem iy.units{k:f7}(r:iy k A):A.units+64<ZE:=by have:=r.un;lia
def Uf:TA:=λ_ H Q=>Q [] H
def D2(Z:TE)(t:TA):TA:=λO H Q=>Z O H λx H1=>t O H1 λD H2=>Q (x::D) H2
section
variable{X:Cx}{te:TE}{t:TA}
theorem vy:PA X [] Uf:=λ_ _ _ _ H Q I h=>jM {[],H,I,.nil,h}
theorem k7(J:PE X e te)(V:PA X es t)(d:qe (e::es) X.env=(eh,eval e X.env)::qe es X.env:=by rfl):PA X (e::es) (D2 te t):=by intro Y W s O H Q I h;rw[d];show nz _ _ (spliced ((eh,eval e X.env)::Zt Y (qe es X.env))) _ _ s;exact jq (h_ (J W s O H _ I h) λu G zy=>by obtain⟨x,H1,I1,B,w⟩:=zy;exact h_ (V Y W G O H1 _ I1 w) λz F zz=>by obtain⟨D,H2,I2,Z,R⟩:=zz;exact {x::D,H2,I2,.cons B Z,R})
end
abbrev Sp:=fy V->Hp->VK->XK->Prop
abbrev Ha:=fy Env->Hp->n4->XK->i2->n4->Prop
structure CJ(P:Zy)(w:qd)(K:ti)(mg:Str->hJ i2)(base:qk)(A:xh)(outer:fy Env)(s:n4)(H:Hp):Prop where
 frames:A.frames=bi outer
 mod:Mod K mg base
 bs:∀b o,base.get? b=bi o->s.heap.get? b=bi o/\H b=b0
 bsz:base.objs.size<=s.heap.objs.size
 funs:s.heap.FunFrames base outer
 frf:∀b∈rX outer,H b=b0
 hok:lx P w H s.heap
 bare:ZW s.gens
def CE(outer:fy Env)(P:Zy)(w:qd)(H:Hp)(s:n4)(Q:VK)(u:i2)(D:n4):Prop:=
 ∃v H',D.os=s.os/\ZW D.gens/\Un (rX outer) [] H H' s.heap D.heap/\lx P w H' D.heap/\cq v u/\Q v H'
def CR(CX:Ha)(outer:fy Env)(P:Zy)(w:qd)(H:Hp)(s:n4)(Q:VK)(E:XK)(r:Result)(D:n4):Prop:=
 match r with
 |.ok (.ret u)=>CE outer P w H s Q u D
 |.ok _=>False
 |.error e=>CX outer H s E e D
structure fj(P:Zy)(w:qd)(K:ti)(mg:Str->hJ i2)(base:qk)(CX:Ha)(k:f7)(f:nt)(fd:ZS)(ps:fy Str)(sp:Sp):Prop where
 len:∀vs H Q E,sp vs H Q E->vs.length=ps.length
 run:∀(A:xh) (outer:fy Env) (s:n4) (H:Hp) (args:Args) (us:fy i2) (vs:fy V) (Q:VK) (E:XK),iy k A->CJ P w K mg base A outer s H->BindsTo s fd args (ps.zip us)->ce vs us->sp vs H Q E ->
  aaa (model P w) A (.call (.ref f) args) (CR CX outer P w H s Q E) s
theorem fj.mono{w:qd}{CX:Ha}{k:f7}{f:nt}{sp:Sp}(F:fj P w K mg base CX j f fd ps sp)(h:j<=k) :
  fj P w K mg base CX k f fd ps sp:={F.len,λA r s H t z D Q E V=>F.run A r s H t z D Q E<|V.mono h}
section
variable{X:Cx}{σ:St}{H:Hp}{s':n4}
def bn.env0(I:bn X ah σ H s):CJ X.prog X.w X.K X.mg X.base X.A X.stack s H:=
 ⟨I.ok.frames,I.ok.mod,I.bs,aW I.ok.bsz I.sz,I.stack,I.stkFree,I.hok,I.bare⟩
theorem bn.after{Q:VK}(I:bn X ah σ H s)(h:CE X.stack X.prog X.w H s Q u s'):EP X ah σ Q u s':=by obtain⟨v,H',O,y,un,Z,r,q⟩:=h;obtain⟨V,g,d,t,w⟩:=s';obtain rfl:w=s.os:=O;exact{v,H',I.call un Z y (λb z=>absurd z<|by simp),r,q}
end
def xX(K:ti)(fd:ZS)(ps:fy Str)(ds:fy i2):Prop:=
 ∀(s:n4) (us:fy i2),K.In s.heap->(us++ds).length=ps.length->BindsTo s fd ⟨us,[]⟩ (ps.zip<|us++ds)
def xX.all(h:∀us:fy i2,us.length=ps.length->aag fd ⟨us,[]⟩=pure (ps.zip us)):xX K fd ps []:=λs us _ U=>by rw[dh]at U ⊢;exact .of_eq<|h us U
section
variable{X:Cx}{CX:Ha}{k:f7}{f:nt}{sp:Sp}{Zp:fy V}{ds:fy i2}{E:XK}{m:Str}{o:ow}{ta:TE}{t:TA}
end
def PK(X:Cx)(YJ:fy Keyword)(t:TA):Prop:=
 ∀(pos:Pos) (ah:fy (nt×Obj)) (s:n4) (O:St) (H:Hp) (Q:fy V->Hp->Prop),bn X ah O H s->t O H Q->nz #[2] X.A (evalAll ((backToKw pos<|aaA YJ X.env).map (·.2))) (AP X ah O Q) X.xe s
section
variable{X:Cx}{CX:Ha}{k:f7}{f:nt}{ks:fy Str}{sp:Sp}{E:XK}{m:Str}{X7:Pos}{o:ow}{YJ:fy Keyword}{te ta:TE}{t tk:TA}{nm:hJ Str}
variable{g:fy i2->fy i2->fy i2}{gV:fy V->fy V->fy V}
end
structure bO(N P:fy Str)(sc:ZB):Prop where
 kind:sc.kind=.function
 co:sc.isCoroutine=eh
 gen:sc.isGenerator=eh
 nd:N.Nodup
 pre:N.take P.length=P
 par:∀x∈P,sc.names.lookup x=bi .local\/sc.names.lookup x=bi .cell
 nofree:∀y∈sc.names,y.2≠.free
theorem xY{k:Str->hJ ZC}:∀{binds:fy (Str×i2)} {m:Str->hJ i2},(∀v,(x,v)∉binds)->bindL k binds m x=m x
 |[],_,_=>rfl
 |(n,v)::r,m,h=>by
  unfold bindL;rw[xY λw Z=>h w<|aJ _ Z]
  split
  .have:x≠n:=by rintro rfl;exact h v a9
   simp[this]
  .rfl
theorem xZ{k:Str->hJ ZC}:∀{binds:fy (Str×i2)} {m:Str->hJ i2},(∀v,(x,v)∉binds)->bindC k binds m x=m x
 |[],_,_=>rfl
 |(n,v)::r,m,h=>by
  unfold bindC;rw[xZ λw Z=>h w<|aJ _ Z]
  split
  .rfl
  .have:x≠n:=by rintro rfl;exact h v a9
   simp[this]
theorem tV{k:Str->hJ ZC}:∀{P:fy Str} {vs:fy i2} {i:f7} {m:Str->hJ i2},P.Nodup->P[i]?=bi x->vs[i]?=bi v->k x=bi .local ->
  bindL k (P.zip vs) m x=bi v
 |[],_,_,_,_,h,_,_=>by simp at h
 |_::_,[],_,_,_,_,h,_=>by simp at h
 |p::P,w::vs,0,m,nd,h1,h2,hk=>by simp at h1 h2;subst h1;subst h2;show bindL k ((p,w)::P.zip vs) m p=_;unfold bindL;rw[xY λv B=>(bI.mp nd).1 (hV B).1,ax hk];simp
 |p::P,w::vs,i+1,m,nd,h1,h2,hk=>by unfold bindL;exact tV (bI.mp nd).2 (by trivial) (by trivial) hk
theorem tW{k:Str->hJ ZC}:∀{P:fy Str} {vs:fy i2} {i:f7} {m:Str->hJ i2},P.Nodup->P[i]?=bi x->vs[i]?=bi v->k x≠bi .local ->
  bindC k (P.zip vs) m x=bi v
 |[],_,_,_,_,h,_,_=>by simp at h
 |_::_,[],_,_,_,_,h,_=>by simp at h
 |p::P,w::vs,0,m,nd,h1,h2,hk=>by simp at h1 h2;subst h1;subst h2;show bindC k ((p,w)::P.zip vs) m p=_;unfold bindC;rw[xZ λv B=>(bI.mp nd).1 (hV B).1,aF hk];simp
 |p::P,w::vs,i+1,m,nd,h1,h2,hk=>by unfold bindC;exact tW (bI.mp nd).2 (by trivial) (by trivial) hk
def jv(N:fy Str)(vs:fy V):St:=vs.map bi++rn (N.length-vs.length) b0
def nR(CX:Ha)(P:Zy)(w:qd)(K:ti)(mg:Str->hJ i2)(base:qk)(N:fy Str)(cU:Str)(scope:ZB)(f:nt)(V:i2)(A:xh)(outer:fy Env)(s:n4)(H:Hp)(E:XK):Cx where
 prog:=P
 w:=w
 K:=K
 mg:=mg
 base:=base
 A:=A.deeper (Z0 cU scope s.heap.objs.size f V)
 N:=N
 s₀:=s
 H₀:=H
 env:=Z0 cU scope s.heap.objs.size f V
 outer:=outer
 stack:=Z0 cU scope s.heap.objs.size f V::outer
 ex:=[]
 calm:=cT
 fn:=λ_=>cT
 pn:=[]
 xe:=λe D=>nz (model P w) (A.deeper<|Z0 cU scope s.heap.objs.size f V) (leaving (Z0 cU scope s.heap.objs.size f V) e) (λ_ O=>CX outer H s E e O) (λL O=>CX outer H s E L O) D
def iB{n:f7}(h:sc.names.lookup x=bi .cell):∃c,(vr n sc.names []).lookup x=bi c:=Option.isSome_iff_exists.mp<|PySem.W.cellsFrom_some sc.names n []<|.inl h
theorem x6{CX:Ha}{w:qd}{N:fy Str}{f:nt}{d:i2}{s1:n4}{H:Hp}{E:XK}{vs:fy V}
  (S:bO N ps scope) (I:A.handled=b0) (R:CJ P w K mg base A outer s H) (U:vs.length=ps.length) (r:ce vs us)
  (x:InCallC s s.heap.objs.size (bindL (Z0 cU scope s.heap.objs.size f d).kindOf (ps.zip us) λ_=>b0) (vr (s.heap.objs.size+1) scope.names []) (bindC (Z0 cU scope s.heap.objs.size f d).kindOf (ps.zip us) λ_=>b0) s1) :
  bn (nR CX P w K mg base N cU scope f d A outer s H E) [] (jv N vs) H s1:=by
 have t:ps.length<=N.length:=by have:=eJ ZH S.pre;rw[bh]at this;lia
 obtain⟨Z,F,rfl,O⟩:=x.done;have X:∀b:nt,b∉(nR CX P w K mg base N cU scope f d A outer s H E).ex:=λb z=>absurd (show b∈([])from z) (by simp);refine⟨{R.mod,S.kind,rfl,rfl,av _,λy z c Z B=>?_,λy hy=>?_,λy c _ h=>?_,λ_=>I,Around.frames_deeper R.frames,.inr ⟨rfl,rfl⟩,λb z=>absurd z<|X b,R.bs,R.bsz,λb _ _=>X b,λb z=>absurd z<|X b,R.funs,R.frf},
  rfl,R.bare,Un.kept O,⟨_,x.toInCall.ns,λi y v Z B Y=>?_⟩,λy c h=>{_,x.cell y c h},R.hok.fresh<|av _,λy c h=>?_,λp W=>absurd (show p∈([])from W) (by simp),R.hok.kept O,?_⟩
 .exact tD x.apart (PySem.mem_of_lookup Z) (PySem.mem_of_lookup B)
 .rcases hy with hy|hy
  .exact iB hy
  .exact absurd rfl (S.nofree _<|PySem.mem_of_lookup hy)
 .exact dL (x.above y c<|PySem.mem_of_lookup h)
 .have L:i<vs.length:=by
   unfold jv at B
   by_cases L:i<vs.length
   .exact L
   .rw[bA<|by simpa using L]at B;rw[dQ]at B
    split at B<;>cases B
  have J:vs[i]?=bi v:=by
   unfold jv at B;rw[bu (by simpa using L),ai]at B
   cases e:vs[i]? with
   |none=>rw[e]at B;cases B
   |some a=>rw[e]at B;cases B;rfl
  obtain⟨u,D,rv⟩:=r.get J;have W:ps[i]?=bi y:=by rw[<- S.pre,cW #[0]];exact Z
  have G:ps.Nodup:=by rw[<- S.pre];exact S.nd.sublist<|iu _ _
  refine{u,rv,?_};rcases S.par y (aV W)with k|k
  .exact .inl {k,tV G W D k}
  .obtain⟨c,e⟩:=iB k;refine .inr {.inl k,c,e,?_};have q:=x.cell y c e;rw[tW G W D (by show scope.names.lookup y≠_;rw[k];decide)]at q;exact q
 .exact R.hok.fresh (dL<|x.above y c<|PySem.mem_of_lookup h)
 .unfold jv;show _=N.length;rw[aI,aj,cY]
  lia
theorem Ug{CX:Ha}{w:qd}{k:f7}{f:nt}{params:ZG}{dV kV kH pm O X oc:i2}{an od:hJ nt}
  {N2:Array (hJ i2)} {N ps:fy Str} {sp:Sp} (lk:K.lookup f=bi ⟨oc,od,.func<|fnOf name cU params body scope dV kV kH pm an O X,N2⟩) (pI:codeIn K O cU=cT) (S:bO N ps scope)
  (len:∀vs H Q E,sp vs H Q E->vs.length=ps.length)
  (tj:∀(A:xh) (outer:fy Env) (s:n4) (H:Hp) (vs:fy V) (Q:VK) (E:XK),iy k (A.deeper<|Z0 cU scope s.heap.objs.size f O)->sp vs H Q E ->
   ∃t,Fy (nR CX P w K mg base N cU scope f O A outer s H E) body t/\t { nx:=λ_ H'=>Q .non H',rt:=Q } (jv N vs) H) :
  fj P w K mg base CX (k+1) f (fnOf name cU params body scope dV kV kH pm an O X) ps sp:=by
 refine{len,λA outer s H args z vs Q E Y L U r Hk=>?_};have KX:=L.mod.kin.keeps λb o e=>(L.bs b o e).1;have fN:∀y∈ps.zip z,scope.names.lookup y.1=bi .local\/(scope.names.lookup y.1=bi .cell/\((vr (s.heap.objs.size+1) scope.names []).lookup y.1).isSome=cT):=λzq W=>by
  obtain⟨n,v⟩:=zq;rcases S.par n (hV W).1 with q|q
  .exact .inl q
  exact .inr {q,PySem.W.cellsFrom_some _ _ _<|.inl q}
 refine j6 Y.depth (KX _ _ lk) rfl S.co S.gen rfl (PySem.W.codeRec_of KX pI) (U _ _ _ _<|lX S.kind fN λenv B G x=>?_);subst B;refine{(L.mod.nolimit.keeps λb o e=>(L.bs b o e).1).keeps x.toInCall.keep,tF ?_};obtain⟨t,Z,F⟩:=tj A outer s H vs Q E (Y.deeper _) Hk;have I:bn (nR CX P w K mg base N cU scope f O A outer s H E) [] (jv N vs) H G:=x6 S Y.hd L (len _ _ _ _ Hk) r x;refine dz (Z [] G (jv N vs) H _ I F) (λfl D d=>?_) λe D d=>d;have jC:∀{R:St} {H':Hp} {v:V} {u:i2},bn (nR CX P w K mg base N cU scope f O A outer s H E) [] R H' D->cq v u->Q v H'->CE outer P w H s Q u D:=
  λ{R H' v u} J rv q=>{v,H',J.os,J.bare,J.base,J.hok,rv,q}
 cases fl with
 |ret u=>
  obtain⟨v,R,H',J,rv,q⟩:=d;exact jC J rv q
 |next=>
  obtain⟨R,H',J,q⟩:=d;exact jC (v:=V.non) J rfl q
 |brk=>
  obtain⟨_,_,_,q⟩:=d;exact Zz q
 |cont=>
  obtain⟨_,_,_,q⟩:=d;exact Zz q
section
variable{X:Cx}{t:TA}{id:String}{r:fy V->Hp->VK->Prop}
def Xr(r:fy V->Hp->VK->Prop)(t:TA):TE:=λO H Q=>t O H λD H1=>r D H1 Q
theorem vz(D:ju X (.builtin id) r)(z:Gl X x)(hm:X.mg x=b0)(d:aaf x=bi (.builtin id))(J:PA X (e::es) t)(L:x ≠ "__name__":=by decide)(U:(x==("__debug__":Str))=eh:=by decide)
  (Y:qe (e::es) X.env=(eh,eval e X.env)::qe es X.env:=by rfl) (R:(Zt pos<|qe es X.env).any (·.1)=eh:=by rfl):PE X (.Call (.Name x p) (e::es) [] pos) (Xr r t):=by refine λW s O H Q I h=>dO<|rj I z hm d ?_ L U;exact ki (h_ (J pos W s O H _ I h) λk G zv=>by obtain⟨Z,H1,I1,B,w⟩:=zv;exact D W G O H1 Z k Q I1 B w) Y R
theorem FJ(D:ju X (.type T) r)(z:Gl X x)(hm:X.mg x=b0)(d:aaf x=bi (.type T))(J:PA X (e::es) t)(L:x ≠ "__name__":=by decide)(U:(x==("__debug__":Str))=eh:=by decide)
  (Y:qe (e::es) X.env=(eh,eval e X.env)::qe es X.env:=by rfl) (R:(Zt pos<|qe es X.env).any (·.1)=eh:=by rfl):PE X (.Call (.Name x p) (e::es) [] pos) (Xr r t):=by refine λW s O H Q I h=>dO<|rj I z hm d ?_ L U;exact fK (h_ (J pos W s O H _ I h) λk G zw=>by obtain⟨Z,H1,I1,B,w⟩:=zw;exact D W G O H1 Z k Q I1 B w) Y R
end
end L2
variable{xs:fy (fy L2.ji×PySem.Addr×PySem.Value)}{H H':L2.Hp}{X:L2.Cx}{σ:L2.St}{y:L2.V}{te:L2.TE}{tc:L2.TT}{wi:L2.TI}{vs:fy L2.V}
namespace HT
open PySem PyProof.Rows
section
open PySem.SeqAt
open PySem.AutoSeq1 (wpAny_loadPart')
open PySem.MeetsSeq PySem.MeetsSeq2 PySem.MeetsSeq3
end
section
variable{w:qd}
theorem cat_tup{t:nt}{vs ws:fy i2}(J:IsTup s.heap t vs.toArray)(U:IsTup s.heap b ws.toArray)(d:vs≠[])
  (Z:ws=[]->Q (.ref t) s) (B:ws≠[]->Q (.ref s.heap.objs.size) { s with heap:=s.heap.push { cls:=.type "tuple",data:=.seq (vs++ws).toArray } })
  (hsz:vs.length+ws.length<=sizeLine):nz (model prog w) A (Zs .Add (.ref t)<|.ref b) Q E s:=by
 obtain⟨⟨I,r,O,G⟩,R,D,n,k⟩:=id J;obtain⟨⟨cls2,F,data2,W⟩,V,f,L,Y⟩:=id U;simp only at D k f Y;subst D k f Y;have e:vs.toArray++ws.toArray=(vs++ws).toArray:=by simp
 by_cases z:ws=[]
 .exact tH ⟨_,R,rfl⟩ ⟨_,V,rfl⟩ nC q_ PySem.F.slot_tuple_add PySem.F.entry_tuple_add (PySem.F.args_tuple_add_2 _ _)
   (tuple_addW1 t b vs.toArray ws.toArray n L r F G W (by simpa using d)<|by simp[z]) ⟨R,V,Z z⟩
 refine tH ⟨_,R,rfl⟩ ⟨_,V,rfl⟩ nC q_ PySem.F.slot_tuple_add PySem.F.entry_tuple_add (PySem.F.args_tuple_add_2 _ _)
  (tuple_addW2 t b vs.toArray ws.toArray n L r F G W (by simpa using d) (by simpa using z)<|by omega) ⟨R,V,?_⟩
 rw[e];exact B z
noncomputable def sIx(n d:f7):hJ hG->f7
 |none=>d
 |some v=>if v<0 then(v+(n:hG)).toNat else min v.toNat n
def sIx_none(n d:f7):sIx n d b0=d:=rfl
def sIx_nat(n d k:f7):sIx n d (bi (k:hG))=min k n:=rfl
theorem sIx_le(n d:f7)(k:d<=n)(o:hJ hG):sIx n d o<=n:=by
 cases o with
 |none=>exact k
 |some v=>
  show(if v<0 then(v+n).toNat else min v.toNat n)<=n
  by_cases B:v<0
  .rw[ax B];omega
  .rw[aF B];exact Nat.min_le_right _ _
theorem D3(v:hG)(n d:f7):(if v<0 then max (v+(n:hG)) 0 else min v (n:hG))=((sIx n d (bi v):f7):hG):=by
 show(if v<0 then max (v+n) 0 else min v n)=(((if v<0 then(v+n).toNat else min v.toNat n)))
 by_cases B:v<0
 .simp_all
 simp[aF B];lia
theorem CK(z L:hJ hG)(n:f7):aaN z L 1 (n:hG)=(((sIx n 0 z:f7):hG),((sIx n n L:f7):hG)):=by
 refine Prod.ext ?_ ?_
 .cases z with
  |none=>rfl
  |some v=>exact D3 v n 0
 cases L with
 |none=>rfl
 |some v=>exact D3 v n n
theorem CL(i j:f7):aaK (i:hG) (j:hG) 1=j-i:=by
 unfold aaK
 split<;>lia
theorem vA{o:hJ hG}{Q:hJ hG->n4->Prop}(p:Z5 v o)(h:Q o s):nz (model prog w) A (Builtin.Slice.slicePartIndex v) Q E s:=by
 cases p with
 |none=>exact slicePart_none h
 |int i t=>exact slicePart_int h
theorem sliceApplied_gen{sl:nt}{k U:i2}{z L:hJ hG}{Q:hG×hG×f7->n4->Prop}(d:s.heap.IsSliceOf sl k U .none)(pl:Z5 k z)(V:Z5 U L)
  (h:Q (((sIx n 0 z:f7):hG),1,sIx n n L-sIx n 0 z) s):nz (model prog w) A (Builtin.Slice.sliceApplied (.ref sl)<|pure (n:hG)) Q E s:=by obtain⟨O,r,W,PF⟩:=id d;refine aa<|aa<|e_ r PF (x:=k) rfl (aa<|e_ r PF (x:=U) rfl (aa<|e_ r PF (x:=.none) rfl (aq<|aa<|slicePart_none<|aa<|vA pl<|aa<|vA V<|aa<|aq ?_)));show nz _ _ (match aaN z L 1 n with|(z,L)=>pure (z,(1:hG),aaK z L 1)) _ _ s;rw[CK z L n];show nz _ _ (pure (((sIx n 0 z):hG),1,aaK ((sIx n 0 z)) ((sIx n n L)) 1)) _ _ s;rw[CL];exact aq h
theorem HF(xs:Array i2)(i k:f7):((uP k).filterMap λ(m:f7)=>xs[((i:hG)+(m:hG)*1).toNat]?).toArray=((xs.toList.drop i).take k).toArray:=by
 have e:(λ(m:f7)=>xs[(i+(m:hG)*1).toNat]?)=λm=>xs[i+m]?:=by
  funext m
  have:(i+(m:hG)*1).toNat=i+m:=by omega
  rw[this]
 rw[e];have:=pick_run xs i k;rw[List.filterMap_map]at this;have e2:((λx=>xs[x]?)∘λx=>i+x)=λm=>xs[i+m]?:=rfl;rw[e2]at this;rw[this]
theorem getItem_tuple_cut{t sl:nt}{Y:Array i2}{k U:i2}{z L:hJ hG}(B:IsTup s.heap t Y)(d:s.heap.IsSliceOf sl k U .none)(pl:Z5 k z)(V:Z5 U L)
  (Z:¬ (sIx Y.size 0 z=0/\sIx Y.size Y.size L=Y.size))
  (h:Q (.ref s.heap.objs.size) { s with heap:=s.heap.push { cls:=.type "tuple",data:=.seq ((Y.toList.drop<|sIx Y.size 0 z).take<|sIx Y.size Y.size L-sIx Y.size 0 z).toArray } })
  (hsz:Y.size<=sizeLine):nz (model prog w) A (ZY (.ref t)<|.ref sl) Q E s:=by
 have f:sizeOk (.seq ((Y.toList.drop<|sIx Y.size 0 z).take<|sIx Y.size Y.size L-sIx Y.size 0 z).toArray):=by show((Y.toList.drop<|sIx Y.size 0 z).take<|sIx Y.size Y.size L-sIx Y.size 0 z).toArray.size<=sizeLine;rw[bb,bh,dv,d5];omega
 obtain⟨O,r,W,PF⟩:=id d;have R:s.TypeIs (.ref sl) "slice":=⟨O,r,W⟩
 unfold ZY
 try with_reducible refine cD ?_
 refine aa (wpAny_sequenceKey B.typeIs (by decide) ?_);refine aa (bZ B.typeIs d9
  (bF d9 B.typeIs entry_tuple_getitem ?_<|args_tuple_getitem _ _))
 show nz _ _ (aaL (.ref t) >>= _) _ _ s;refine aa<|tupleItemsOf_ B<|aa<|iS R<|aa<|sliceApplied_gen d pl V ?_;have J:¬ ((((sIx Y.size 0 z):hG)==0&&(1:hG)==1&&(sIx Y.size Y.size L-sIx Y.size 0 z)==Y.size)=cT):=by simp_all
 show nz _ _ (if (((sIx Y.size 0 z):hG)==0&&(1:hG)==1&&(sIx Y.size Y.size L-sIx Y.size 0 z)==Y.size)=cT then _ else _) _ _ s;rw[aF J,HF]
 first
  |exact aa (bQ (aq {_,rfl,aq h}) f)
  |exact aa (m:=aaJ _) (bQ (aa<|aq<|aq {_,rfl,aq h}) f)
  |exact aa (aa<|bQ (aq<|aq {_,rfl,aq h}) f)
  |exact aa<|aa (m:=aaJ _)<|bQ (aq {_,rfl,aq h}) f
end
end HT
namespace L2
open PySem PySem.Spec PyProof.Rows
abbrev TO:=St->Hp->(hJ hG->Hp->Prop)->Prop
def PO(X:Cx)(e:hJ ow)(t:TO):Prop:=
 ∀(ah:fy (nt×Obj)) (s:n4) (σ:St) (H:Hp) (Q:hJ hG->Hp->Prop),bn X ah σ H s->t σ H Q ->
  nz #[2] X.A (evalPart e X.env) (λu D=>∃o H',bn X ah σ H' D/\Z5 u o/\Q o H') X.xe s
def L6:TO:=λ_ H Q=>Q b0 H
def Uh(t:TE):TO:=λσ H Q=>t σ H λx H1=>∃i,x=.int i/\Q (bi i) H1
section
variable{lo hi:hJ ow}{tl th:TO}
theorem L7:PO X b0 L6:=λW s O H Q I h=>aq {b0,H,I,.none,h}
theorem L8(h:PE X e te):PO X (bi e) (Uh te):=by refine λW s O H Q I Z=>h_ (h W s O H _ I Z) λu G zq=>?_;obtain⟨x,H1,I1,B,w⟩:=zq;obtain⟨i,rfl,q⟩:=w;obtain⟨t,rfl⟩:=B;exact{bi i,H1,I1,.int i t,q}
def Ui(X:Cx)(r:V->hJ hG->hJ hG->Hp->VK->Prop):Prop:=
 ∀(ah:fy (nt×Obj)) (s:n4) (σ:St) (H:Hp) (x:V) (v k U:i2) (lo hi:hJ hG) (G:nt) (Q:VK),bn X ah σ H s->cq x v->s.heap.IsSliceOf G k U .none->Z5 k lo->Z5 U hi->r x lo hi H Q ->
  ∃T id,typeLookup (.type T) "__getitem__"=pure (bi<|.builtin id)/\s.TypeIs v T/\nz #[2] X.A (ZY v<|.ref G) (EP X ah σ Q) X.xe s
def Y2(r:V->hJ hG->hJ hG->Hp->VK->Prop)(te:TE)(tl th:TO):TE:=λσ H Q=>te σ H λx H1=>tl σ H1 λl H2=>th σ H2 λu H3=>r x l u H3 Q
theorem HG{r:V->hJ hG->hJ hG->Hp->VK->Prop}(Y:Ui X r)(B:PE X e te)(U:PO X lo tl)(D:PO X hi th):PE X (.Subscript e (.Slice lo hi b0 p2) pos) (Y2 r te tl th):=by refine λW s O H Q I h=>rW<|h_ (B W s O H _ I h) λv G zx=>?_;obtain⟨x,H1,I1,k,w⟩:=zx;refine wpAny_Slice<|h_ (U W G O H1 _ I1 w) λZ F zy=>?_;obtain⟨l,H2,I2,pl,t⟩:=zy;refine h_ (D W F O H2 _ I2 t) λvu L zz=>?_;obtain⟨u,H3,I3,pu,f⟩:=zz;refine aq ?_;have I4:bn X W O H3 { L with heap:=L.heap.push { cls:=.type "slice",data:=.fields #[Z,vu,.none] } }:=I3.kept λb R q=>ar _ q;obtain⟨T,id,d,J,z⟩:=Y W { L with heap:=L.heap.push { cls:=.type "slice",data:=.fields #[Z,vu,.none] } } O H3 x v Z vu l u L.heap.objs.size Q I4 k (Heap.IsSliceOf.new ..) pl pu f;exact tail_any J d z rfl
noncomputable def xo(xs:fy V)(lo hi:hJ hG):fy V:=(xs.drop<|HT.sIx xs.length 0 lo).take<|HT.sIx xs.length xs.length hi-HT.sIx xs.length 0 lo
theorem ux(xs:fy V)(lo hi:hJ hG):(xo xs lo hi).length<=xs.length:=by
 unfold xo;rw[bh,dv]
 lia
def Xs(K:ti):V->hJ hG->hJ hG->Hp->VK->Prop:=λx lo hi H Q=>∃a xs,x=.ref a/\fY K H a xs /\
 ¬ (HT.sIx xs.length 0 lo=0/\HT.sIx xs.length xs.length hi=xs.length)/\∀p,H p=b0->Q (.ref p) (dX H p<|.tup<|xo xs lo hi)
theorem Qu:Ui X (Xs X.K):=by
 intro W s O H x v k w z L G Q I Y d pl V h;obtain⟨a,D,rfl,J,Z,q⟩:=h
 cases Y
 obtain⟨f,r,B,R⟩:=I.tuple J;have U:f.toArray.size=D.length:=by rw[bb];exact r.length.symm
 refine{"tuple",_,d9.lookup,B.typeIs,?_};refine HT.getItem_tuple_cut B d pl V (by rw[U];exact Z) ?_ (by rw[U];exact R);rw[U];refine{.ref s.heap.objs.size,_,I.laid (t':=s.toks) (o:=.tup<|xo D z L) (λb F q=>ar _ q) (av _) ?_,rfl,q _<|I.hok.fresh<|av _};exact{aW (ux D z L) R,_,(r.drop<|HT.sIx D.length 0 z).take<|HT.sIx D.length D.length L-HT.sIx D.length 0 z,IsTup.new _ _}
def Uj(K:ti):R2:=λx y H Q=>∃a b xs L,x=.ref a/\y=.ref b/\fY K H a xs/\fY K H b L/\xs≠[]/\xs.length+L.length<=sizeLine /\
 (L=[]->Q (.ref a) H)/\(L≠[]->∀p,H p=b0->Q (.ref p) (dX H p<|.tup<|xs++L))
def ce.nil_iff{xs:fy V}(r:ce xs us):us=[]↔xs=[]:=by
 cases r with
 |nil=>simp
 |cons _ _=>simp
theorem L9:mR X (Zs .Add) (Uj X.K):=by
 intro W s O H x y v u Q I Y Z h;obtain⟨a,b,D,L,rfl,rfl,r,U,J,R,d,t⟩:=h
 cases Y
 cases Z
 obtain⟨f,B,G,_⟩:=I.tuple r;obtain⟨its2,V,k,_⟩:=I.tuple U;refine HT.cat_tup G k (λz=>J<|B.nil_iff.mp z) (λz=>{.ref a,H,I,rfl,d<|V.nil_iff.mp z}) (λz=>?_) (by rw[<- B.length,<- V.length];exact R);refine{.ref s.heap.objs.size,_,I.laid (λb F q=>ar _ q) (av _) ?_,rfl,t (λw=>z<|V.nil_iff.mpr w) _<|I.hok.fresh<|av _};exact{by rw[aI];exact R,_,B.append V,IsTup.new _ _}
theorem AH:ju X (.type "tuple") (λxs H Q=>∃a L,xs=[.ref a]/\fY X.K H a L/\Q (.ref a) H):=by
 intro W s O H xs z Q I r h;obtain⟨a,L,rfl,J,q⟩:=h;obtain⟨u,rfl,R⟩:=oN r
 cases R
 obtain⟨f,_,U,_⟩:=I.tuple J;exact call_tuple_same U {.ref a,H,I,rfl,q}
end
noncomputable def yP(n:f7)(i:hG):hJ f7:=if 0<=i then(if i<n then bi i.toNat else b0)else if -(n:hG)<=i then bi (i+n).toNat else b0
def uS(xs:fy α)(i:hG):hJ α:=(yP xs.length i).bind λj=>xs[j]?
theorem D4{i:hG}(h:yP n i=bi j):seqIndex? i n=bi j/\j<n/\-(n:hG)<=i/\i<n:=by
 unfold yP at h
 by_cases V:0<=i
 .rw[ax V]at h
  by_cases Z:i<n
  .rw[ax Z]at h;have e:=bf h;exact{by rw[seqIndex_of V Z,e],by lia,by lia,Z}
  simp_all
 rw[aF V]at h
 by_cases Z:-n<=i
 .rw[ax Z]at h;have e:=bf h;exact{by rw[tI #[0] Z,e],by lia,Z,by lia}
 simp_all
theorem yQ{xs:fy α}{i:hG}{v:α}(h:uS xs i=bi v):∃j,seqIndex? i xs.length=bi j/\xs[j]?=bi v/\j<xs.length/\-(xs.length:hG)<=i/\i<xs.length:=by
 unfold uS at h
 cases e:yP xs.length i with
 |none=>rw[e]at h;cases h
 |some j=>
  rw[e]at h;obtain⟨Z,B,Y,O⟩:=D4 e;exact⟨j,Z,h,B,Y,O⟩
def D5(b:ow):Prop:=∀o i,subscripted b eh o i=operate [o,i] (ZY o i)
def LA(X:Cx)(r:R2):Prop:=
 ∀(f G:ow) (ah:fy (nt×Obj)) (s:n4) (σ:St) (H:Hp) (x y:V) (v u:i2) (Q:VK),bn X ah σ H s->cq x v->cq y u->r x y H Q ->
  subscripted G eh v u=operate [v,u] (ZY v u)->nz #[2] X.A (subscriptTail f G v u) (EP X ah σ Q) X.xe s
def LB(X:Cx)(id:String)(r:V->fy V->Hp->VK->Prop):Prop:=
 ∀(ah:fy (nt×Obj)) (s:n4) (σ:St) (H:Hp) (x:V) (xs:fy V) (v:i2) (us:fy i2) (Q:VK),bn X ah σ H s->cq x v->ce xs us->r x xs H Q ->
  nz #[2] X.A (call (.builtin id) (v::us)) (EP X ah σ Q) X.xe s
section
variable{a b:ow}{ta tb:TE}
theorem LA.or{r B:R2}(h:LA X r)(h':LA X B):LA X (λx y H Q=>r x y H Q\/B x y H Q):=by
 intro f G W s O H x y v u Q I Y w q d;rcases q with q|q
 .exact h f G W s O H x y v u Q I Y w q d
 exact h' f G W s O H x y v u Q I Y w q d
theorem Uk{r:R2}(V:LA X r)(J:PE X a ta)(U:PE X b tb)(d:D5 b):PE X (.Subscript a b pos) (T8 r ta tb):=λW s O H Q I h=>rW<|Qf J U I h λv u F x y H2 I2 Y w q=>V a b W F O H2 x y v u Q I2 Y w q<|d _ _
def Ul(K:ti):R2:=λx y H Q=>∃p xs i v,x=.ref p/\y=.int i/\rZ K H p xs/\uS xs i=bi v/\Q v H
def Um(K:ti):R2:=λx y H Q=>∃p xs i v,x=.ref p/\y=.int i/\fY K H p xs/\uS xs i=bi v/\Q v H
def Uo:R2:=λx y H Q=>∃z i c,x=.str z/\y=.int i/\z.length<=sizeLine/\uS z.cps.toList i=bi c/\Q (.str {#[c]}) H
theorem L_:LA X (Ul X.K):=by
 intro kX slice W s O H x y v u Q I f k h d;obtain⟨p,D,i,z,rfl,rfl,F,Y,q⟩:=h
 cases f
 obtain⟨t,rfl⟩:=k;obtain⟨G,r,pl,J⟩:=I.list F;obtain⟨j,Z,B,h3,h4,h5⟩:=yQ Y;obtain⟨w,ew,mL⟩:=r.get B;have U:=r.length;have L:=tU;have jC:EP X W O Q w s:=⟨z,H,I,mL,q⟩
 by_cases R:0<=i
 .have V:i.toNat=j:=by rw[seqIndex_of R h5]at Z;exact bf Z
  exact item_listR pl.isList R #[0] (by rw[V];simpa using ew) jC d
 have V:(i+G.toArray.size).toNat=j:=by rw[tI #[0] h4]at Z;rw[bb,<- U];exact bf Z
 exact oB pl.isList.typeIs slot_list_getitem.lookup
  (wpAny_getItem_list_neg pl.isList #[0] (by rw[bb]<;>lia) #[0] (by rw[V];simpa using ew) ⟨rfl,jC⟩) d
theorem Qw:LA X (Um X.K):=by
 intro kX G W s O H x y v u Q I f k h d;obtain⟨p,D,i,z,rfl,rfl,F,Y,q⟩:=h
 cases f
 obtain⟨t,rfl⟩:=k;obtain⟨R,r,pl,J⟩:=I.tuple F;obtain⟨j,Z,B,V,h4,h5⟩:=yQ Y;obtain⟨w,ew,mL⟩:=r.get B;have U:=r.length;have L:=tU;have jC:EP X W O Q w s:=⟨z,H,I,mL,q⟩
 exact oB pl.typeIs slot_tuple_getitem.lookup
  (getItem_tuple (j:=j) pl #[0] #[0] (by simp_all) (by simpa using ew) ⟨rfl,jC⟩) d
theorem Qx:LA X Uo:=by
 intro F G W s O H x y v u Q I f w h d;obtain⟨z,i,c,rfl,rfl,J,Y,q⟩:=h;obtain⟨t,rfl⟩:=f;obtain⟨r,rfl⟩:=w;obtain⟨j,Z,B,D,V,k⟩:=yQ Y;have U:z.cps.toList.length=z.length:=by simp[Str.length]
 rw[U]at Z V k;have L:=tU;exact tail_any (oD s z t) slot_str_getitem.lookup (getItem_str (by
  have R:decide (i < -(2^63))=eh:=az #[0];have e2:decide (i≥2^63)=eh:=az #[0];rw[R,e2,Bool.or_false]) (by rw[Z];simpa using B) {.str {#[c]},H,I.tok _,⟨_,rfl⟩,q}) d
def Y3(K:ti):R2:=λx y H Q=>Ul K x y H Q\/Um K x y H Q\/Uo x y H Q
def Qy:LA X (Y3 X.K):=L_.or<|Qw.or Qx
def CM(br:fy i2)(n j:f7)(u:i2):ZP (·.setIfInBounds j u) { cls:=.type "list",data:=.seq br.toArray n }={ cls:=.type "list",data:=.seq (br.set j u).toArray n }:=by simp[ZP]
theorem bn.lst{p:nt}{xs:fy V}(I:bn X ah σ H s)(h:H p=bi (.lst xs)) :
  ∃(br:fy i2) (n:f7),ce xs br/\s.heap.get? p=bi { cls:=.type "list",data:=.seq br.toArray n }/\xs.length<=sizeLine:=by obtain⟨z,br,n,r,e⟩:=I.hok p _ h;exact⟨br,n,r,e,z⟩
theorem bn.lstUpd{p:nt}{xs L:fy V}{its':fy i2}{Y:f7}{f:Obj->Obj}(I:bn X ah σ H s)(h:H p=bi (.lst xs))
  (R:s.heap.get? p=bi { cls:=.type "list",data:=.seq br.toArray n }) (O:f { cls:=.type "list",data:=.seq br.toArray n }={ cls:=.type "list",data:=.seq its'.toArray Y }) (r:ce L its') (hz:L.length<=sizeLine) (t:f7) :
  bn X ah σ (dX H p<|.lst L) { s with heap:=s.heap.update p f,toks:=t }:=by
 have e:(s.heap.update p f).get? p=bi { cls:=.type "list",data:=.seq its'.toArray Y }:=by rw[cZ f R (by rw[O]<;>rfl),O]
 exact I.write (by rw[h];trivial) (.inl rfl) (λb u U q=>(dw _ _<|Zw U).trans q) ⟨_,e⟩ ⟨hz,its',Y,r,e⟩
def Up:V->V->V->Hp->(Hp->Prop)->Prop:=λo i v H Q=>∃p xs k j,o=.ref p/\i=.int k/\H p=bi (.lst xs)/\yP xs.length k=bi j/\Q (dX H p<|.lst<|xs.set j v)
theorem HH:CB X Up:=by
 intro W s O H o i v G iv u Q I ro ri rv h;obtain⟨p,D,k,j,rfl,rfl,F,V,q⟩:=h
 cases ro
 obtain⟨t,rfl⟩:=ri;obtain⟨f,n,r,R,J⟩:=I.lst F;obtain⟨Z,B,Y,z⟩:=D4 V;have U:=r.length;have L:=tU;have I':=
  I.lstUpd F R (CM f n j u) (r.set rv j) (by rw[gg];exact J) s.toks
 by_cases w:0<=k
 .have d:k.toNat=j:=by rw[seqIndex_of w z]at Z;exact bf Z
  exact PySem.W.ki_setAt R w #[0] (by simp_all) (by rw[d];exact⟨_,I',q⟩)
 have d:(k+f.toArray.size).toNat=j:=by rw[tI #[0] Y]at Z;rw[bb,<- U];exact bf Z
 exact PySem.W.ki_setBack R #[0] (by simp_all) #[0] (by rw[d];exact⟨_,I',q⟩)
theorem yR(z L:hJ hG)(n:f7):(aat z L b0 n).1=((HT.sIx n 0 z:f7):hG)/\(aat z L b0 n).2.1=((HT.sIx n n L:f7):hG)/\(aat z L b0 n).2.2=1:=by
 refine{?_,?_,rfl}
 .cases z with
  |none=>simp[aat,HT.sIx]
  |some i=>
   simp[aat,HT.sIx,Option.getD_none,show 1>0 by decide,qJ]
   by_cases h:i<0
   .simp only[h,qJ]<;>lia
   simp only[h,nD]<;>lia
 cases L with
 |none=>simp[aat,HT.sIx]
 |some i=>
  simp only[aat,HT.sIx,Option.getD_none,show(1:hG)>0 by decide,qJ]
  by_cases h:i<0
  .simp only[h,qJ]<;>lia
  simp only[h,nD]<;>lia
def xq(br:fy i2)(z L:hJ hG):slicePick br.toArray z L b0=((br.drop<|HT.sIx br.length 0 z).take<|HT.sIx br.length br.length L-HT.sIx br.length 0 z).toArray:=by obtain⟨Z,B,Y⟩:=yR z L br.toArray.size;unfold slicePick;rw[Z,B,Y];simp only[sliceRange_one,pick_run]<;>rfl
def Xt(K:ti):V->hJ hG->hJ hG->Hp->VK->Prop:=λx z L H Q=>∃a xs,x=.ref a/\rZ K H a xs/\∀p,H p=b0->Q (.ref p) (dX H p<|.lst<|xo xs z L)
theorem L':Ui X (Xt X.K):=by
 intro W s O H x v k w z L G Q I Y d pl V h;obtain⟨a,D,rfl,J,q⟩:=h
 cases Y
 obtain⟨f,r,B,R⟩:=I.list J;have U:=r.length;refine{"list",_,slot_list_getitem.lookup,B.isList.typeIs,wpAny_getItem_list_slice B.isList d pl V .none (by simp) ?_<|by simp_all};rw[xq,<- U];refine{.ref s.heap.objs.size,_,I.laid (λb F q=>ar _ q) (av _) ?_,rfl,q _<|I.hok.fresh<|av _};exact{aW (ux D z L) R,_,0,(r.drop<|HT.sIx D.length 0 z).take<|HT.sIx D.length D.length L-HT.sIx D.length 0 z,ay _ rfl}
theorem r9:ju X (.builtin "len") (λxs H Q=>∃p L,xs=[.ref p]/\(rZ X.K H p L\/fY X.K H p L)/\Q (.int L.length) H):=by
 intro W s O H xs z Q I r h;obtain⟨p,L,rfl,hq,q⟩:=h;obtain⟨u,rfl,Y⟩:=oN r
 cases Y
 have D:=tU;rcases hq with hq|hq
 .obtain⟨f,B,pl,J⟩:=I.list hq;have U:=B.length;exact Calls.call_len_list pl.isList (by simp only[bb]<;>lia) {.int L.length,H,I.tok _,{s.toks+1,by rw[bb,U]},q}
 obtain⟨f,B,pl,J⟩:=I.tuple hq;have U:=B.length;exact len_tuple pl (by simp only[bb]<;>lia) {.int L.length,H,I.tok _,{s.toks+1,by rw[bb,U]},q}
theorem yS:ju X (.builtin "len") (λxs H Q=>∃z,xs=[.str z]/\z.length<=sizeLine/\Q (.int z.length) H):=by intro W s O H xs k Q I r h;obtain⟨z,rfl,J,q⟩:=h;obtain⟨u,rfl,t,rfl⟩:=oN r;have L:=tU;exact len_str #[0] {.int z.length,H,I.tok _,⟨_,rfl⟩,q}
theorem yT:ju X (.type "list") (λxs H Q=>∃p L,xs=[.ref p]/\(rZ X.K H p L\/fY X.K H p L)/\∀l,H l=b0->Q (.ref l) (dX H l<|.lst L)):=by
 intro W s O H xs z Q I r h;obtain⟨p,L,rfl,hq,q⟩:=h;obtain⟨u,rfl,Y⟩:=oN r
 cases Y
 have F:∀f,ce L f->L.length<=sizeLine->∀V w,(∀b t,s.heap.get? b=bi t->V.get? b=bi t) ->
   V.get? s.heap.objs.size=bi { cls:=.type "list",dict:=b0,data:=.seq f.toArray w,slots:=#[] }->EP X W O Q (.ref s.heap.objs.size) { s with heap:=V }:=λf B J V w d e=>
  ⟨.ref s.heap.objs.size,_,I.laid d (av _) (show iA X.prog X.w _ V _ (.lst L)from⟨J,f,w,B,e⟩),rfl,q _<|I.hok.fresh<|av _⟩
 rcases hq with hq|hq
 .obtain⟨f,B,pl,J⟩:=I.list hq;have U:=B.length;obtain⟨o,R,D,n,k⟩:=pl.isList;exact call_list_seq p (.inl rfl) R D k (F f B J) (by simp_all)
 obtain⟨f,B,pl,J⟩:=I.tuple hq;have U:=B.length;obtain⟨o,R,D,n,k⟩:=pl;exact call_list_seq p (.inr rfl) R D k (F f B J) (by simp_all)
theorem xr:ju X (.type "tuple") (λxs H Q=>∃p L,xs=[.ref p]/\((rZ X.K H p L/\∀l,H l=b0->Q (.ref l) (dX H l<|.tup L))\/(fY X.K H p L/\Q (.ref p) H))):=by
 intro W s O H xs z Q I r h;obtain⟨p,L,rfl,h⟩:=h;obtain⟨u,rfl,Y⟩:=oN r
 cases Y
 rcases h with⟨Z,q⟩|⟨Z,q⟩
 .obtain⟨f,B,pl,J⟩:=I.list Z;have U:=B.length;refine call_tuple_list pl.isList (λV d=>?_) (by simp_all);have I1:bn X W O H { s with heap:=V }:=I.kept d;have I2:bn X W O (dX H V.objs.size<|.tup L) { s with heap:=V.push { cls:=.type "tuple",data:=.seq f.toArray } }:=
   I1.laid (λb o e=>ar _ e) (av _) (⟨J,f,B,IsTup.new _ _⟩)
  exact{.ref V.objs.size,_,I2,rfl,q _<|I1.hok.fresh<|av _}
 obtain⟨f,B,pl,J⟩:=I.tuple Z;exact call_tuple_same pl {.ref p,H,I,rfl,q}
def WU(K:ti)(T:String)(x:V)(H:Hp):Prop:=match x with
 |.str _=>T="str"
 |.int _=>T="int"
 |.ref p=>(T="list"/\∃xs,rZ K H p xs)\/(T="tuple"/\∃o,K.lookup p=bi o/\o.cls=.type "tuple"/\o.dict=b0) \/
   (T="dict"/\((∃R,H p=bi (.dK R))\/∃R,H p=bi (.dT R)))\/(T="set"/\∃S n,H p=bi (.set S n))
 |_=>False
theorem Qz{x:V}(I:bn X ah σ H s)(r:cq x v)(ty:WU X.K T x H) :
  s.TypeIs v T/\∀a,v=.ref a->∃F,s.heap.get? a=bi F/\F.dict=b0:=by
 cases x with
 |str z=>
  obtain⟨t,rfl⟩:=r
  cases ty
  exact{oD s z t,λ_ e=>nomatch e}
 |int i=>
  obtain⟨t,rfl⟩:=r
  cases ty
  exact{oE s i t,λ_ e=>nomatch e}
 |ref p=>
  cases r
  rcases ty with⟨rfl,G,Z⟩|⟨rfl,o,O,D,k⟩|⟨rfl,O⟩|⟨rfl,S,n,O⟩
  .obtain⟨f,_,pl,_⟩:=I.list Z;refine{pl.isList.typeIs,λa e=>?_}
   cases e
   obtain⟨o,n,e,c,k,_⟩:=pl;exact⟨o,e,k⟩
  .refine⟨{o,I.kIn p o O,D},λa e=>?_⟩
   cases e
   exact{o,I.kIn _ o O,k}
  .have z:∃o,s.heap.get? p=bi o/\o.ExactDict:=by
    rcases O with⟨R,O⟩|⟨R,O⟩
    .obtain⟨_,_,_,_,o,_,_,e,ex,_⟩:=I.hok p _ O;exact⟨o,e,ex⟩
    obtain⟨_,_,_,_,o,_,_,e,ex,_⟩:=I.hok p _ O;exact⟨o,e,ex⟩
   obtain⟨o,e,ex⟩:=z;refine⟨{o,e,ex.1},λa e2=>?_⟩
   cases e2
   exact{o,e,ex.2.1}
  obtain⟨o,_,_,_,e,ex,_⟩:=I.hok p _ O;refine⟨{o,e,ex.1},λa e2=>?_⟩
  cases e2
  exact{o,e,ex.2.1}
 |_=>exact Zz ty
variable{o:ow}{to:TE}{t:TA}{id:String}{r:V->fy V->Hp->VK->Prop}
end
def WV(X:Cx)(id:String)(r:V->fy V->Hp->VK->Prop):Prop:=
 ∀(ah:fy (nt×Obj)) (s:n4) (σ:St) (H:Hp) (x:V) (xs:fy V) (v:i2) (us:fy i2) (Q:VK),bn X ah σ H s->cq x v->ce xs us->r x xs H Q ->
  nz #[2] X.A (call (.builtin id) (v::us)) (EP X ah σ Q) X.xe s
def ce.one{x:V}(h:ce [x] us):∃u,us=[u]/\cq x u:=by cases h with|cons r t=>cases t;exact⟨_,rfl,r⟩
theorem ce.two{x:V}(h:ce [x,y] us):∃u v,us=[u,v]/\cq x u/\cq y v:=by cases h with|cons r t=>obtain⟨v,rfl,q⟩:=ce.one t;exact⟨_,v,rfl,r,q⟩
theorem ce.rep{xs:fy V}(h:ce xs us):∀k:f7,ce (rn k xs).flatten (rn k us).flatten
 |0=>.nil
 |k+1=>by exact ce.append h<|ce.rep h k
theorem qt(br:fy i2):∀(k:f7) (acc:fy i2),
  aay (λD Y=>D++Y) acc.toArray (rn k br.toArray)=(acc++(rn k br).flatten).toArray
 |0,acc=>by simp
 |k+1,acc=>by
  have e:acc.toArray++br.toArray=(acc++br).toArray:=by simp
  have e2:(acc++br)++(rn k br).flatten=acc++(rn (k+1) br).flatten:=by rw[gC,jN,aG]
  rw[<- e2,<- qt br k (acc++br),<- e,gC,List.foldl_cons]
section
variable{l:nt}{xs ys zs:fy V}
theorem bn.lset{its':fy i2}{f:Array i2->Array i2}{t':f7}(I:bn X ah σ H s)(d:H l=bi (.lst xs))
  (e:s.heap.get? l=bi { cls:=.type "list",data:=.seq br.toArray n }) (O:f br.toArray=its'.toArray) (B:ce ys its') (hz:ys.length<=sizeLine) :
  bn X ah σ (dX H l<|.lst ys) { s with heap:=s.heap.update l<|ZP f,toks:=t' }:=by have q:=PySem.IsL.update e f;rw[O]at q;exact I.write (by rw[d];exact trivial) (.inl rfl) (λz u U D=>(dw s.heap (ZP f)<|Zw U).trans D) ⟨_,q⟩ ⟨hz,its',_,B,q⟩
theorem bn.lnew(I:bn X ah σ H s)(B:ce ys br)(hz:ys.length<=sizeLine) :
  bn X ah σ (dX H s.heap.objs.size<|.lst ys) { s with heap:=s.heap.push { cls:=.type "list",data:=.seq br.toArray },toks:=t' }:=
 I.laid (λ_ _ q=>ar _ q) (av _) ⟨hz,br,0,B,ay _ rfl⟩
theorem bn.fresh(I:bn X ah σ H s):H s.heap.objs.size=b0:=I.hok.fresh<|av _
theorem bn.lstM(I:bn X ah σ H s)(d:H l=bi (.lst xs)):xs.length<=sizeLine/\∃(br:fy i2) (n:f7),ce xs br/\xs.length=br.length/\s.heap.get? l=bi { cls:=.type "list",data:=.seq br.toArray n }:=by obtain⟨z,br,n,r,e⟩:=I.hok l _ d;exact{z,br,n,r,r.length,e}
def vB(h:n<=sizeLine):aaE n=eh:=az #[0]
end
section
def Ma:V->fy V->Hp->VK->Prop:=λx vs H Q=>∃l xs y,x=.ref l/\vs=[y]/\H l=bi (.lst xs)/\xs.length<sizeLine/\Q .non (dX H l<|.lst<|xs++[y])
theorem FK:WV X "list.append" Ma:=by
 intro W s O H x D v k Q I Y rv h;obtain⟨l,G,y,rfl,rfl,d,J,q⟩:=h
 cases Y
 obtain⟨u,rfl,L⟩:=rv.one;obtain⟨z,f,n,r,U,e⟩:=I.lstM d;refine gY F.slot_list_append ⟨_,e,rfl⟩ F.entry_list_append (F.args_list_append_2 _ _) (PySem.list_append l f.toArray n u<|by simp_all) {e,⟨.non,_,I.lset d e (by simp) (r.append<|.cons L .nil) ?_,rfl,q⟩};rw[aI,fW];omega
def Mb:V->fy V->Hp->VK->Prop:=λx vs H Q=>∃l b xs B,x=.ref l/\vs=[.ref b]/\H l=bi (.lst xs)/\H b=bi (.lst B)/\xs.length+B.length<=sizeLine/\Q .non (dX H l<|.lst<|xs++B)
theorem FL:WV X "list.extend" Mb:=by
 intro W s O H x D v k Q I Y rv h;obtain⟨l,b,G,B,rfl,rfl,d,R,J,q⟩:=h
 cases Y
 obtain⟨u,rfl,L⟩:=rv.one
 cases L
 obtain⟨z,f,n,r,U,e⟩:=I.lstM d;obtain⟨w,t,n2,Z,hl2,e2⟩:=I.lstM R;have hsz:f.toArray.size+t.toArray.size<=sizeLine:=by rw[bb,bb];lia
 have V:¬ (!f.toArray.isEmpty&&aaE (f.toArray.size+t.toArray.size))=cT:=by rw[vB hsz,Bool.and_false];exact dN
 refine gY F.slot_list_extend ⟨_,e,rfl⟩ F.entry_list_extend (F.args_list_extend_2 _ _)
  (AutoSeq1.list_extend_list_list_0 l f.toArray n b t.toArray n2 V (by rw[bb];lia) #[0]) ⟨e,e2,?_⟩
 refine{.non,_,I.lset (its':=f++t) d e (by simp) (r.append Z) ?_,rfl,q};rw[aI]
 lia
def Xu:R2:=λx y H Q=>∃l b xs B,x=.ref l/\y=.ref b/\H l=bi (.lst xs)/\H b=bi (.lst B)/\xs.length+B.length<=sizeLine/\∀p,H p=b0->Q (.ref p) (dX H p<|.lst<|xs++B)
theorem QB:mR X (Zs .Add) Xu:=by
 intro W s O H x y v u Q I Y w h;obtain⟨l,b,D,B,rfl,rfl,d,R,J,q⟩:=h
 cases Y
 cases w
 obtain⟨z,f,n,r,U,e⟩:=I.lstM d;obtain⟨L,t,k,Z,G,e2⟩:=I.lstM R;refine PySem.P.add_list e e2 ?_ (by simp_all);have V:f.toArray++t.toArray=(f++t).toArray:=by simp
 rw[V];exact{.ref _,_,I.lnew (r.append Z) (by rw[aI];omega),rfl,q _ I.fresh}
def Xv:R2:=λx y H Q=>∃l k xs,x=.ref l/\y=.int k/\H l=bi (.lst xs)/\-(2^63)<=k/\k<2^63/\xs.length*k.toNat<=sizeLine /\
 ∀p,H p=b0->Q (.ref p) (dX H p<|.lst (rn k.toNat xs).flatten)
def yU(xs:fy α)(k:f7):(rn k xs).flatten.length=k*xs.length:=by simp
theorem QC:mR X (Zs .Mult) Xv:=by
 intro W s O H x y v u Q I Y w h;obtain⟨l,k,G,rfl,rfl,hH,Z,B,J,q⟩:=h
 cases Y
 obtain⟨t,rfl⟩:=w;obtain⟨z,f,n,r,U,e⟩:=I.lstM hH;have V:f.toArray.size*k.toNat<=sizeLine:=by rw[bb,<- U];exact J
 have tm:¬ f.toArray.size*k.toNat>(2^63-1)/8:=by
  have:sizeLine<=(2^63-1)/8:=by decide
  lia
 have hfit:¬ (!Builtin.List.listFitsIndex k)=cT:=by rw[fitsIndex_both Z B];exact dN
 have hlong:¬ aaE (f.toArray.size*k.toNat)=cT:=by rw[vB V];exact dN
 have hnew:aay (λd L=>d++L) #[] (rn (if f.toArray.isEmpty=cT then 0 else k.toNat) f.toArray)=(rn k.toNat f).flatten.toArray:=by
  have f0:∀m:f7,aay (λd L=>d++L) #[] (rn m f.toArray)=(rn m f).flatten.toArray:=λm=>by have:=qt f m [];exact this
  rw[f0]
  cases f with
  |nil=>simp
  |cons a R=>rw[aF<|by simp]
 refine mB (by decide) ⟨_,e,rfl⟩ (λD=>oE D k t) noFill_list_mul F.fills_int_mul kK repeat_list F.slot_int_index.lookup
  (gY kK (oE s k t) F.entry_int_rmul (F.args_int_rmul_2 _ _) (int___rmul___int_list k t l f.toArray n)
   ⟨e,rfl,⟨_,e,rfl⟩,gY F.slot_list_mul ⟨_,e,rfl⟩ F.entry_list_mul (F.args_list_mul_2 _ _) (AutoListH.list___mul___list_int_3 l f.toArray n k t hfit tm hlong) ⟨e,?_⟩⟩)
 rw[hnew];exact{.ref _,_,I.lnew (r.rep k.toNat) (by rw[yU,gZ];exact J),rfl,q _ I.fresh}
end
section
variable{w:qd}
end
section
end
end L2
namespace Att
open PySem PySem.W PySem.Calls PyProof.Rows
theorem uT{P:Params}:∀(ns:fy hG) (vs:fy i2),WellAll P h vs (ns.map WData.int)->aaj vs ns:=by
 intro ns
 induction ns with
 |nil=>
  intro vs w
  cases w
  exact .nil
 |cons n ns U=>
  intro vs w
  cases w with
  |cons a b=>
   cases a
   exact .cons _ _<|U _ b
def FM{l:OpenLaw}(L:l.most=bi n){P:Params}{t:fy WData}{z:fy i2}
  (Ci:l.row.toRowW.claim.pre t=cT) (X8:WellAll P h z t) :
  ∃a vs ns,z=[Zv a]/\t=[WData.list<|ns.map WData.int]/\h.get? a=bi { cls:=.type "list",data:=.seq vs.toArray }/\aaj vs ns/\ns.length<=n:=by
 have w:WShape.hasAll [] t [.list .int]=cT:=(pre_splitW Ci).1;obtain⟨d,r,rfl,Z,B⟩:=hasAllW_cons w;obtain rfl:=hasAllW_nil B;obtain⟨D,rfl,Y⟩:=hasW_list Z;obtain⟨ns,rfl⟩:=items_int Y;have U:ns.length<=n:=by
  have O:(WTm.not<|.lt (.lit<|.int n)<|.len<|.arg 0).holds [] { args:=[.list<|ns.map .int] }=cT:=by have O:=(holds_andW<|(pre_splitW Ci).2).1;rw[L]at O;exact O
  have k:=condW_of O (w_not<|w_lt w_lit<|w_len_list<|w_arg rfl)
  first
   |(rw[aR q']at k;exact absurd k<|by decide)
   |(simp at k;omega)
 cases X8 with
 |cons w1 f=>
  cases f
  cases w1 with
  |list R W=>exact{_,_,ns,rfl,rfl,R,uT ns _ W,U}
def FN(l:OpenLaw)(t:fy WData):l.row.toRowW.claim.post t (.bool cT) t=cT:=
 postW_of
  (show WShape.has [] (.bool cT) .bool=cT by first|rfl|decide|simp)
  (w_eq_bool (w_res rfl) w_lit) rfl
def attach_call{l:OpenLaw}{q:Zy}{Fq:fy Str}{d:DefRec}
  (L:l.most=bi n) (Yp:d.params.defaults=[])
  (call:∀(w:qd) (s₀ W:n4) (mg mb:Str->hJ i2) (fa:nt) (o:Obj) (pm V J:i2) (a:nt) (vs:fy i2) (ns:fy hG),
   Ground q Fq [] XP w s₀ mg mb W.heap->YP w W.heap ->
   W.heap.get? fa=bi o->o.data=.func (docDef d.name d.params d.body d.scope pm V J)->W.heap.CodeRec V d.name->mg d.name=bi (.ref fa) ->
   W.heap.get? a=bi { cls:=.type "list",data:=.seq vs.toArray }->aaj vs ns->ns.length<=n->W.gens=#[] ->
   aaa (model l.prog w) callerA (.call (.ref fa) ⟨[.ref a],[]⟩) (λr D=>r=.ok (.ret<|.bool cT)/\OldK W.heap D.heap/\D.os=W.os/\ZW D.gens) W) :
  WalkO q Fq XP YP l.row.toRowW d [] (λf vs=>PySem.call f vs):=by intro w s₀ W mg mb G Y fa o pm V J dV kV R k pI hD hmg z F qj as Ci hlay t X8 hlo;obtain rfl:dV=.none:=Dflts.none hD Yp;obtain rfl:kV=.none:=Dflts.noKw hD;obtain⟨a,vs,ns,rfl,rfl,hobj,hints,U⟩:=FM L Ci X8;refine enter_call<|g7 (call w s₀ W mg mb fa o pm V J a vs ns G Y R (fd_plain k) pI hmg hobj hints U z) λr D Z=>?_;obtain⟨rfl,B,I,O⟩:=Z;exact{.inl {.bool cT,.bool cT,[],rfl,λ_=>rfl,.bool cT,FN l _,λ_=>⟨aaz,λ_ hm=>(nomatch hm)⟩},B,I,O}
section
variable{w:qd}
end
end Att
namespace L2
open PySem PySem.Spec PyProof.Rows
theorem x9:∀{vs:fy i2} {ns:fy hG},aaj vs ns->ce (ns.map V.int) vs
 |_,_,.nil=>.nil
 |_,_,.cons n t h=>.cons ⟨t,rfl⟩<|x9 h
noncomputable def fH(s:tf):ZG:=match s with
 |.FunctionDef _ a _ _ _ _ _ _ _ _=>a
 |_=>{ posonlyargs:=[],args:=[],vararg:=b0,kwonlyargs:=[],kw_defaults:=[],kwarg:=b0,defaults:=[] }
noncomputable def eS(s:tf):fy tf:=match s with
 |.FunctionDef _ _ b _ _ _ _ _ _ _=>b
 |_=>[]
noncomputable def aK(s:tf):ZB:=match s with
 |.FunctionDef _ _ _ _ _ _ sc _ _ _=>sc
 |_=>{ kind:=.function,names:=[],isGenerator:=eh,isCoroutine:=eh }
structure mf(K:ti)(x cU:Str)(st:tf)(f:nt)(fd:ZS):Prop where
 ex:∃(oc:i2) (od:hJ nt) (kV kH pm:i2) (an:hJ nt) (gp ct:i2) (N2:Array (hJ i2)),
  fd=fnOf x cU (fH st) (eS st) (aK st) .none kV kH pm an gp ct/\K.lookup f=bi ⟨oc,od,.func fd,N2⟩/\codeIn K gp cU=cT
 kp:keepIn K (.ref f)=cT
section
variable{w:qd}
def mf.binds{st:tf}{f:nt}(F:mf K x cU st f fd)
  (h:∀(kV J pm:i2) (z:hJ nt) (O Y:i2) (us:fy i2),us.length=ps.length->aag (fnOf x cU (fH st) (eS st) (aK st) .none kV J pm z O Y) ⟨us,[]⟩=pure (ps.zip us)):xX K fd ps []:=by obtain⟨t,d,kV,J,pm,z,O,Y,N2,rfl,k,U⟩:=F.ex;exact .all<|h kV J pm z O Y
def CN{st:tf}{f:nt}{t:i2}{d z:hJ nt}{N2:Array (hJ i2)}{kV J pm O Y:i2}(l:K.lookup f=bi ⟨t,d,.func<|fnOf x cU (fH st) (eS st) (aK st) .none kV J pm z O Y,N2⟩)
  (c:codeIn K O cU=cT) (k:keepIn K (.ref f)=cT):mf K x cU st f (fnOf x cU (fH st) (eS st) (aK st) .none kV J pm z O Y):=⟨⟨t,d,kV,J,pm,z,O,Y,N2,rfl,l,c⟩,k⟩
end
def Oa{k:f7}(V:iy k A):A.units+1<ZE:=eO (Nat.add_le_add_left (by simp) _) V.units
section
def pv(i:f7){pos:Pos}(d:X.N[i]?=bi x:=by rfl)(B:N8 X.env.scope x:=by first|exact Or.inl rfl|exact Z3 (Or.inl rfl)|exact Z3<|Z3 rfl)(k:(x==("__debug__":Str))=eh:=by decide)
  (U:(x==("__classdict__":Str))=eh:=by decide):PE X (.Name x pos) (TV i):=P2 d B k U
end
def qL(H H':Hp):Prop:=∀b o,H b=bi o->H' b=bi o
theorem qL.refl(H:Hp):qL H H:=λ_ _ h=>h
section
variable{κ:Type}[DecidableEq κ]
noncomputable def qM(kvs:fy (κ×V))(k:κ):hJ V:=(kvs.find? λkv=>decide<|kv.1=k).map (·.2)
noncomputable def pd(kvs:fy (κ×V))(k:κ)(v:V):fy (κ×V):=
 if (kvs.any λkv=>decide<|kv.1=k)=cT then kvs.map (λkv=>if kv.1=k then(kv.1,v)else kv)else kvs++[(k,v)]
def r_{p:κ×V}{r:fy (κ×V)}{k:κ}(e:p.1=k):qM (p::r) k=bi p.2:=by simp[qM,e]
def se{p:κ×V}{r:fy (κ×V)}{k:κ}(e:¬ p.1=k):qM (p::r) k=qM r k:=by simp[qM,e]
theorem AI(k:κ):∀kvs:fy (κ×V),(kvs.any λkv=>decide<|kv.1=k)=(qM kvs k).isSome
 |[]=>rfl
 |p::r=>by
  rw[rd]
  by_cases e:p.1=k
  .simp[r_ e,aR e,Bool.true_or,Option.isSome_some]
  rw[se e,az e];exact AI k r
def pJ(kvs:fy (κ×V))(k:κ)(v:V):(pd kvs k v).length<=kvs.length+1:=by
 unfold pd
 split
 .simp
 simp
def vt.isSome_eq{o:hJ V}{u:hJ i2}(r:vt o u):o.isSome=u.isSome:=by
 cases o with
 |none=>cases u with
  |none=>rfl
  |some _=>exact r.elim
 |some _=>cases u with
  |none=>exact r.elim
  |some _=>rfl
theorem KV.val{kvs:fy (κ×V)}{vs:fy (κ×i2)}(r:KV kvs vs)(k:κ):vt (qM kvs k) (valueAt vs k):=by
 induction r with
 |nil=>exact True.intro
 |@cons p q ps qs h t ih=>
  obtain⟨Z,B⟩:=h
  by_cases e:p.1=k
  .have L:=Z.symm.trans e;have b:valueAt (q::qs) k=bi q.2:=by simp[valueAt,L]
   rw[r_ e,b];exact B
  have L:¬ q.1=k:=λz=>e<|Z.trans z;have b:valueAt (q::qs) k=valueAt qs k:=by simp[valueAt,L]
  rw[se e,b];exact ih
theorem KV.any{kvs:fy (κ×V)}{vs:fy (κ×i2)}(r:KV kvs vs)(k:κ):(kvs.any λkv=>decide<|kv.1=k)=vs.any λkv=>decide (kv.1=k):=by
 induction r with
 |nil=>rfl
 |cons h t U=>rw[rd,rd,U,h.1]
theorem KV.repl{kvs:fy (κ×V)}{vs:fy (κ×i2)}(r:KV kvs vs)(k:κ)(w:cq y u) :
  KV (kvs.map λkv=>if kv.1=k then(kv.1,y)else kv) (vs.map λkv=>if kv.1=k then(kv.1,u)else kv):=by
 induction r with
 |nil=>exact .nil
 |@cons p q ps qs h t ih=>
  rw[aZ,aZ];refine .cons ?_ ih;obtain⟨Z,B⟩:=h
  by_cases e:p.1=k
  .rw[ax e,ax<|Z.symm.trans e];exact⟨Z,w⟩
  .rw[aF e,aF<|λz=>e<|Z.trans z];exact⟨Z,B⟩
theorem KV.put{kvs:fy (κ×V)}{vs:fy (κ×i2)}(r:KV kvs vs)(k:κ)(w:cq y u):KV (pd kvs k y) (stored vs k u):=by
 unfold pd stored;rw[r.any k]
 by_cases e:(vs.any λkv=>decide<|kv.1=k)=cT
 .rw[ax e,ax e];exact r.repl k w
 rw[aF e,aF e];exact Paired.snoc r ⟨rfl,w⟩
theorem KV.length{kvs:fy (κ×V)}{vs:fy (κ×i2)}(r:KV kvs vs):kvs.length=vs.length:=Paired.length r
end
theorem AJ{w:qd}{k:ji}(r:cq (kV k) u):(gA P w).is k u=cT:=by
 cases k with
 |inl i=>obtain⟨t,e⟩:=r;subst e;exact AE P w i t
 |inr x=>obtain⟨t,e⟩:=r;subst e;exact AF P w x t
theorem x_{w:qd}:∀{ks:fy ji} {us:fy i2},ce (ks.map kV) us->ItemsAre (gA P w) ks us
 |[],_,r=>by cases r;exact .nil
 |k::ks,_,r=>by
  cases r with
  |cons h t=>exact .cons (AJ h)<|x_ t
abbrev KT(H:Hp):fy (fy ji×V)->fy (fy ji×nt×i2)->Prop:=Paired λp q=>p.1=q.1/\H q.2.1=bi (.tup<|p.1.map kV)/\cq p.2 q.2.2
theorem KT.val{kvs:fy (fy ji×V)}(r:KT H kvs xs)(k:fy ji):vt (qM kvs k) ((atKey xs k).map (·.2)):=by
 induction r with
 |nil=>exact True.intro
 |@cons p q ps qs h t ih=>
  obtain⟨Z,_,B⟩:=h
  by_cases e:p.1=k
  .have L:=Z.symm.trans e;have b:atKey (q::qs) k=bi q.2:=by simp[atKey,L]
   rw[r_ e,b];exact B
  have L:¬ q.1=k:=λz=>e<|Z.trans z;have b:atKey (q::qs) k=atKey qs k:=by simp[atKey,L]
  rw[se e,b];exact ih
theorem KT.repl{kvs:fy (fy ji×V)}(r:KT H kvs xs)(k:fy ji)(w:cq y u) :
  KT H (kvs.map λkv=>if kv.1=k then(kv.1,y)else kv) (xs.map<|putAt k u):=by
 induction r with
 |nil=>exact .nil
 |@cons p q ps qs h t ih=>
  rw[aZ];refine .cons ?_ ih;obtain⟨Z,B,Y⟩:=h;unfold putAt
  by_cases e:p.1=k
  .rw[ax e,ax<|Z.symm.trans e];exact⟨Z,B,w⟩
  .rw[aF e,aF<|λz=>e<|Z.trans z];exact⟨Z,B,Y⟩
theorem KT.put{kvs:fy (fy ji×V)}(r:KT H kvs xs)(k:fy ji)(U:H b=bi (.tup<|k.map kV))(w:cq y u) :
  KT H (pd kvs k y) (storedH xs k b u):=by
 have e:(kvs.any λkv=>decide<|kv.1=k)=(atKey xs k).isSome:=by rw[AI,(r.val k).isSome_eq,Option.isSome_map]
 unfold pd storedH;rw[e]
 by_cases q:(atKey xs k).isSome=cT
 .rw[ax q,ax q];exact r.repl k w
 rw[aF q,aF q];exact Paired.snoc r ⟨rfl,U,w⟩
def KT.keeps{kvs:fy (fy ji×V)}(r:KT H kvs xs)(B:∀b L,H b=bi (.tup L)->H' b=bi (.tup L)):KT H' kvs xs:=
 Paired.mapP r λ_ _ z=>{z.1,B _ _ z.2.1,z.2.2}
section
variable{w:qd}
def Ob{u:HO}(ok:lx P w H h)(e:Rd H a u):iA P w H h a u:=e.ok ok
def HI{kvs:fy (ji×V)}(ok:lx P w H h)(e:Rd H a (.dK kvs)):kvs.length<=sizeLine/\(a==ZM)=eh/\∃vs,KV kvs vs/\h.DictOf (gA P w) a vs:=
 show iA P w H h a (.dK kvs)from Ob ok e
def HJ{kvs:fy (ji×V)}(ok:lx P w H h)(e:H a=bi (.dK kvs)):kvs.length<=sizeLine/\(a==ZM)=eh/\∃vs,KV kvs vs/\h.DictOf (gA P w) a vs:=HI ok<|.inl e
theorem CO{ks:fy ji}(ok:lx P w H h)(e:H a=bi (.tup<|ks.map kV)):(tupleKind<|gA P w).is h ks a:=by
 obtain⟨_,f,r,o,Z,B,n,Y⟩:=(ok a _ e)
 exact{o,f.toArray,n,Z,B,Y,by simpa using x_ r}
theorem HK{kvs:fy (fy ji×V)}(ok:lx P w H h)(e:Rd H a (.dT kvs)):kvs.length<=sizeLine/\(a==ZM)=eh /\
  ∃xs,KT H kvs xs/\h.DictOfH (tupleKind<|gA P w) a xs:=by
 obtain⟨z,y,xs,r,o,W,J,Z,B,Y,O,k⟩:=(Ob ok e)
 refine{z,y,xs,r,o,W,J,Z,B,Y,O,λx hx=>?_,k};have all:∀{l:fy (fy ji×V)} {m:fy (fy ji×nt×i2)},KT H l m->∀x∈m,(tupleKind<|gA P w).is h x.1 x.2.1:=by
  intro l m q
  induction q with
  |nil=>intro x hx;exact nomatch hx
  |@cons p q ps qs hq t ih=>
   intro x hx;rcases aS.mp hx with e|hx
   .exact CO ok (by simp_all)
   exact ih x hx
 exact all r x hx
def Uq{kvs:fy (fy ji×V)}(ok:lx P w H h)(e:H a=bi (.dT kvs)):kvs.length<=sizeLine/\(a==ZM)=eh /\
  ∃xs,KT H kvs xs/\h.DictOfH (tupleKind<|gA P w) a xs:=HK ok<|.inl e
end
def FQ(H:Hp)(a:nt)(y:V)(r:hJ V):Prop:=
 (∃R k,Rd H a (.dK R)/\y=kV k/\r=qM R k)\/∃R k b,Rd H a (.dT R)/\y=.ref b/\H b=bi (.tup<|k.map kV)/\r=qM R k
def Me(H:Hp)(a:nt)(y v:V)(H':Hp):Prop:=
 (∃R k,H a=bi (.dK R)/\y=kV k/\R.length<sizeLine/\H'=dX H a (.dK<|pd R k v)) \/
 ∃R k b,H a=bi (.dT R)/\y=.ref b/\H b=bi (.tup<|k.map kV)/\R.length<sizeLine/\H'=dX H a (.dT<|pd R k v)
theorem Me.k{kvs:fy (ji×V)}{k:ji}{v:V}(e:H a=bi (.dK kvs))(U:kvs.length<sizeLine):Me H a (kV k) v (dX H a<|.dK<|pd kvs k v):=.inl ⟨kvs,k,e,rfl,U,rfl⟩
section
variable{v:V}{r:i2}{o:hJ V}
def bn.big(I:bn X ah σ H s):ZM<s.heap.objs.size:=oF (by decide)<|(I.mod.glob.keeps I.bk).lt
theorem FR(Y:A.units+1<ZE)(I:bn X ah σ H s)(g:FQ H a y (bi v))(w:cq y u)(h:∀L D,bn X ah σ H D->cq v L->Q L D) :
  nz #[2] A (ZY (.ref a) u) Q E s:=by
 rcases g with⟨R,k,e,B,l⟩|⟨R,k,b,e,B,f,l⟩
 .subst B;obtain⟨z,O,Z,U,t⟩:=HI I.hok e;obtain⟨L,d,J⟩:=vt.some_of (by rw[l];exact U.val k);exact wpAny_getItem_of (AJ w) t.mapOf d<|h L _ (I.tok _) J
 subst B
 cases w
 obtain⟨z,O,G,U,t⟩:=HK I.hok e;obtain⟨L,d,J⟩:=vt.some_of (v:=v) (by rw[l];exact U.val k);obtain⟨p,W,F⟩:=be.mp d;refine wpAny_getItem_heap (tupleKind_room_in1 Y) (CO I.hok f) t W ?_;rw[F];exact h L _ (I.tok _) J
theorem vf{F:HO}(I:bn X ah σ H s)(t:P0 (H a))(d:Z6 a s.heap h')(Y:∃q,h'.get? a=bi q)(new:iA X.prog X.w (dX H a F) h' a F) :
  bn X ah σ (dX H a F) { s with heap:=h',toks:=t' }:=
 I.write t (.inl rfl) (λb q U z=>(d.2 b U).trans z) Y new
def CP{w:qd}{kvs:fy (ji×V)}{vs:fy (ji×i2)}(z:kvs.length<=sizeLine)(k:(a==ZM)=eh)(U:KV kvs vs)(dd:h'.DictOf (gA P w) a vs) :
  iA P w H' h' a (.dK kvs):=⟨z,k,vs,U,dd⟩
theorem FU{Q:Unit->n4->Prop}(f:A.units+1<ZE)(I:bn X ah σ H s)(g:Me H a y v H')(w:cq y u)(rv:cq v r)(h:∀D,bn X ah σ H' D->Q () D) :
  nz #[2] A (setItem (.ref a) u r) Q E s:=by
 rcases g with⟨R,k,e,ey,l,eH⟩|⟨R,k,b,e,ey,eb,l,eH⟩
 .subst ey eH;obtain⟨z,O,Z,rel,dd⟩:=HJ I.hok e;have J:Z.length<=sizeLine:=by rw[<- rel.length];exact z
  have U:(pd R k v).length<=sizeLine:=by have:=pJ R k v;lia
  refine wpAny_setItem_pairs (AJ w) dd λh' Lr d=>h _ ?_;have Y:∃q,h'.get? a=bi q:=let ⟨q,_,_,F,_⟩:=Lr;⟨q,F⟩;exact vf I (by rw[e];exact True.intro) d Y<|CP U O (rel.put k rv) Lr
 subst ey eH
 cases w
 obtain⟨z,O,G,rel,dd⟩:=Uq I.hok e;have J:G.length<=sizeLine:=by rw[<- Paired.length rel];exact z
 have U:(pd R k v).length<=sizeLine:=by have:=pJ R k v;lia
 refine wpAny_setItem_heap (hsz:=J) (tupleKind_room_in1 f) (CO I.hok eb) dd λh' Lr d=>h _ ?_;obtain⟨q,W,ep,F,B,t,h4,_,h5⟩:=Lr;refine vf I (by rw[e];exact True.intro) d ⟨q,F⟩ {U,O,_,(rel.put k eb rv).keeps λc L ec=>?_,q,W,ep,F,B,t,h4,h5};rw[bX<|TU ec e<|λz=>nomatch z];exact ec
end
section
variable{kvs:fy (ji×V)}{k:ji}
end
def QD(i:ow):Prop:=∀f U,subscripted i eh f U=operate [f,U] (ZY f U)
theorem Mf{w:qd}{f G:ow}{id:String}
  (U:typeLookup (.type T) "__getitem__"=pure (bi<|.builtin id)) (d:QD G)
  (h:nz (model prog w) A (eval f env) (λo W=>nz (model prog w) A (eval G env) (λi k=>k.TypeIs o T/\nz (model prog w) A (ZY o i) Q E k) E W) E s) :
  nz (model prog w) A (eval (.Subscript f G pos) env) Q E s:=by
 refine rW<|dz h (λo W t=>dz t (λi k Z=>?_) λ_ _ x=>x) λ_ _ x=>x;obtain⟨z,Z⟩:=Z;refine aa<|aa<|hW z U ?_;have F:nz (model prog w) A (subscripted G eh o i) (λr Y=>nz (model prog w) A (letTemporaryGo f o r >>= λ_=>pure r) Q E Y) E k:=by rw[d o i];exact wpAny_operating (dz Z (λr Y V=>aa<|wpAny_letTemporaryGo<|aq V) λ_ _ x=>x)
 first
  |exact aq (aa F)
  |exact aa (aq<|aa F)
  |exact aa F
theorem AK{o:hJ V}(I:bn X ah σ H s)(g:FQ H a y o):s.TypeIs (.ref a) "dict":=by
 rcases g with⟨R,k,e,_,_⟩|⟨R,k,b,e,_,_,_⟩
 .obtain⟨_,_,D,_,r⟩:=HI I.hok e;exact r.typeIs
 obtain⟨_,_,G,_,r⟩:=HK I.hok e;exact r.typeIs
def Ur(t ty:TE):TE:=λσ H Q=>t σ H λx H1=>ty σ H1 λy H2=>∃a v,x=.ref a/\FQ H2 a y (bi v)/\Q v H2
section
variable{o i kX:ow}{Yb:Pos}{td ty tv:TE}
theorem Mg(D:X.A.units+1<ZE)(R:PE X o td)(L:PE X i ty)(d:QD i):PE X (.Subscript o i pos) (Ur td ty):=by refine λW s O H Q I h=>Mf PySem.F.slot_dict_getitem.lookup d<|h_ (R W s O H _ I h) λu G zv=>?_;obtain⟨x,H1,I1,Y,w⟩:=zv;refine h_ (L W G O H1 _ I1 w) λU F zq=>?_;obtain⟨y,H2,I2,Z,a,v,ex,g,t⟩:=zq;subst ex;obtain rfl:u=Zv a:=Y;exact{AK I2 g,FR D I2 g Z λz k I3 J=>⟨v,H2,I3,J,t⟩}
end
def AL{w:qd}(h:qk)(U:ZM<h.objs.size):iA P w H (h.push { cls:=.type "dict",data:=.dict #[] }) h.objs.size (.dK []):=
 ⟨cG _,bj.mpr<|Zw<|aM U,[],.nil,Heap.DictOf.new h⟩
def QF:TE:=λ_ H Q=>∀p,H p=b0->Q (.ref p) (dX H p<|.dK [])
section
theorem HL:PE X (.Dict [] [] pos) QF:=λW s O H Q I h=>
 wpAny_Dict_empty ⟨.ref s.heap.objs.size,_,I.laid (λ_ _ q=>ar _ q) (av _)<|AL s.heap I.big,rfl,h _<|I.hok.fresh<|av _⟩
end
def yV:fy (TE×TE)->St->Hp->(fy (V×V)->Hp->Prop)->Prop
 |[],_,H,Q=>Q [] H
 |(tk,tv)::r,σ,H,Q=>tk σ H λx H1=>tv σ H1 λy H2=>yV r σ H2 λps H3=>Q ((x,y)::ps) H3
abbrev VV:fy (V×V)->fy (i2×i2)->Prop:=Paired λp q=>cq p.1 q.1/\cq p.2 q.2
def Us(X:Cx)(pos:Pos)(ou:fy (hJ ow))(z:fy ow)(D0:fy (TE×TE)):Prop:=
 ∀(ah:fy (nt×Obj)) (s:n4) (σ:St) (H:Hp) (Q:fy (V×V)->Hp->Prop),bn X ah σ H s->yV D0 σ H Q ->
  nz #[2] X.A (evalPairs<|pairTrees ou z X.env pos) (λvs D=>∃ps H',bn X ah σ H' D/\VV ps vs/\Q ps H') X.xe s
theorem Mh:Us X pos [] [] []:=λW s O H Q I h=>pairTrees_nil_walk {[],H,I,.nil,h}
theorem HM{k v:ow}{ks:fy (hJ ow)}{vs:fy ow}{r D:TE}{D0:fy (TE×TE)}(d:PE X k r)(B:PE X v D)(V:Us X pos ks vs D0) :
  Us X pos (bi k::ks) (v::vs) ((r,D)::D0):=λW s O H Q I h=>
 pairTrees_cons_walk (h_ (d W s O H _ I h) λu G ⟨x,H1,I1,Y,w⟩=>h_ (B W G O H1 _ I1 w) λR F ⟨y,H2,I2,Z,t⟩=>
  h_ (V W F O H2 _ I2 t) λJ L zw=>by obtain⟨f,H3,I3,U,z⟩:=zw;exact {(x,y)::f,H3,I3,.cons ⟨Y,Z⟩ U,z})
def nS(kvs z:fy (ji×V)):fy (ji×V):=z.foldl (λR kv=>pd R kv.1 kv.2) kvs
theorem KV.merge:∀{z:fy (ji×V)} {U:fy (ji×i2)} {kvs:fy (ji×V)} {vs:fy (ji×i2)},KV z U->KV kvs vs->KV (nS kvs z) (merged vs U):=by
 intro z U kvs vs r
 induction r generalizing kvs vs with
 |nil=>intro q;exact q
 |@cons p q ps qs h t ih=>
  intro D;have e:KV (pd kvs p.1 p.2) (stored vs q.1 q.2):=by have:=D.put p.1 h.2;rw[<- h.1];exact this
  exact ih e
theorem qU:∀(z kvs:fy (ji×V)),(nS kvs z).length<=kvs.length+z.length
 |[],kvs=>by show kvs.length<=kvs.length+0;lia
 |p::r,kvs=>by have Z:=qU r<|pd kvs p.1 p.2;have B:=pJ kvs p.1 p.2;show(nS (pd kvs p.1 p.2) r).length<=_;rw[cX];lia
theorem vC{w:qd}:∀{kvs:fy (ji×V)} {ws:fy (i2×i2)},VV (kvs.map λkv=>(kV kv.1,kv.2)) ws->∃U,Carries (gA P w) ws U/\KV kvs U
 |[],_,r=>by cases r;exact{[],True.intro,.nil}
 |p::kvs,_,r=>by
  cases r with
  |@cons a b as bs h t=>
   obtain⟨U,c,q⟩:=vC t;obtain⟨I,f⟩:=b;exact{(p.1,f)::U,{AJ h.1,rfl,c},.cons {rfl,h.2} q}
def Ut(D0:fy (TE×TE)):TE:=λσ H Q=>∀p,H p=b0->yV D0 σ (dX H p<|.dK []) λps H2=>H2 p=bi (.dK [])/\∃R:fy (ji×V),ps=R.map (λkv=>(kV kv.1,kv.2))/\R.length<=15/\Q (.ref p) (dX H2 p<|.dK<|nS [] R)
theorem Mi{lQ:fy ow}{D0:fy (TE×TE)}(h:Us X pos ou lQ D0)(xN:ou.all (·.isSome)=cT)(U:ou.length=lQ.length)(V:ou≠[])
  (Yo:ou.length<=15):PE X (.Dict ou lQ pos) (Ut D0):=by
 refine λW s O H Q I q=>wpAny_Dict_walk (knd:=gA X.prog X.w) xN U V Yo<|h_ (h W _ O _ _ (I.laid (t':=s.toks) (λ_ _ q=>ar _ q) (av _)<|AL s.heap I.big)<|q _<|I.hok.fresh<|av s.heap.objs.size) λB F zq=>?_;obtain⟨f,H2,I2,r,e,R,w,lk,t⟩:=zq;subst w;obtain⟨L,c,rk⟩:=vC r;obtain⟨z,k,vs0,r0,D⟩:=HJ I2.hok e
 cases r0
 refine{L,c,D,λG Lr d=>⟨.ref s.heap.objs.size,_,?_,rfl,t⟩};have J:(nS [] R).length<=sizeLine:=by have Z:=qU R [];rw[fz]at Z;rw[jy];lia
 have Y:∃q,G.get? s.heap.objs.size=bi q:=let ⟨q,_,_,hq,_⟩:=Lr;⟨q,hq⟩;exact vf I2 (by rw[e];exact True.intro) d Y<|CP J k (rk.merge .nil) Lr
structure M2(X:Cx)(o:ow)(m:Str)(kh:Pos)(e f:ow)(f_:Pos):Prop where
 base:aaF o m X.env (eval o X.env)=eval o X.env
 TR:((Zt f_<|qe [e,f] X.env).all (λx=>!x.1)&&(backToKw f_<|aaA [] X.env).all (λx=>x.1.isSome)
  && decide (([e,f]:fy ow).length+([]:fy Keyword).length+(if ([]:fy Keyword).isEmpty then 0 else 1)<30))=cT
 line:(kh.endLine==f_.line)=cT
 trees:Zt f_ (qe [e,f] X.env)=[(eh,eval e X.env),(eh,eval f X.env)]
section
variable{d:V}{r:i2}{o:hJ V}
end
section
variable{o f:ow}{td ty tx:TE}
end
section
variable{kvs:fy (ji×V)}
end
section
end
section
end
section
variable{κ:Type}[DecidableEq κ]
end
end L2
set_option maxHeartbeats 4000000
namespace L2
open PySem PySem.Spec PyProof.Rows
abbrev cu(X:Cx)(nm:fy Str)(scope:ZB)(cl:fy (Str×nt))(C:nt)(w:n4)(H0:Hp)(fp:fy nt):Cx:=
 { X with N:=nm,s₀:=w,H₀:=H0,env:=compEnvC scope cl C X.env,outer:=X.stack,stack:=X.stack,ex:=fp,fn:=λ_=>eh,pn:=[],xe:=λ_ _=>False }
def HN(X:Cx)(kw:fy ow)(t:TT):Prop:=
 ∀(ah:fy (nt×Obj)) (s:n4) (σ:St) (H:Hp) (Q:ir->Hp->Prop),bn X ah σ H s->t σ H Q ->
  nz #[2] X.A (forIn kw cT λc r=>if r=cT then do let ok <- isTrue c X.env (eval c X.env);pure (aaq ok)else pure (aaq r)) (TP X ah σ Q) X.xe s
def Xw:TT:=λ_ H Q=>Q cT H
theorem Mj:HN X [] Xw:=λ_ _ _ H _ I h=>wpAny_tests_nil ⟨H,I,h⟩
theorem Mk{t:TT}(D:PT X c t):HN X [c] t:=λW s O H Q I h=>wpAny_tests_one<|D W s O H Q I h
def pK(cap:fy (hJ f7))(σ:St):St:=cap.map λo=>o.bind λj=>(σ[j]?).join
def sf(cap:fy (hJ f7))(wi:TI)(g:TG)(tc:TT)(te:TE):TE:=λσ H Q=>wi σ H λJ H1=>∃W:f7->f7->fy V->Hp->Prop,(∃m,W 0 m [] H1)/\∀i m L H2,W i m L H2 ->
 (J.stop i H2/\L.length<=sizeLine/\∀p,H2 p=b0->Q (.ref p) (dX H2 p<|.lst L)) \/
 (J.go i H2/\∀x H3,J.yld i H2 x H3->g x (pK cap σ) H3 λw H4=>tc w H4 λb H5=>if b=cT then te w H5 λy H6=>L.length<sizeLine/\∃z,z<m/\W (i+1) z (L++[y]) H6 else ∃z,z<m/\W (i+1) z L H5)
theorem Un.cellK{fs ex:fy nt}(u:Un fs ex H H' h h'){c:nt}{v:hJ i2}(x:h.IsCell c v)(n:H c=b0)(Y:c∉ex):h'.IsCell c v:=by obtain⟨o,R,k⟩:=x;obtain⟨G,q⟩:=u.any R n Y;exact⟨_,q,k⟩
structure vD(X:Cx)(scope:ZB)(cl:fy (Str×nt))(x:Str):Prop where
 vis:N8 X.env.scope x
 nl:X.env.scope.names.lookup x≠bi .local
 cl:cl.lookup x=X.env.cells.lookup x
 kd:(relabel scope X.env).names.lookup x=bi .cell\/(relabel scope X.env).names.lookup x=bi .free
theorem kq:∀(d:fy (Str×ZC)) (n:f7) (acc:fy (Str×nt)) {y:Str} {c:nt},(y,c)∈vr n d acc->(y,aao)∈d\/(y,c)∈acc
 |[],_,_,_,_,h=>.inr h
 |(x,k)::r,n,acc,y,c,h=>by
  have h:(y,c)∈(if k==.cell then vr (n+1) r ((x,n)::acc)else vr n r acc):=h
  split at h
  .rcases kq r _ _ h with q|q
   .exact .inl (aJ _ q)
   .rcases aS.mp q with e|q
    .exact .inl (by simp_all)
    .exact .inr q
  .rcases kq r _ _ h with q|q
   .exact .inl (aJ _ q)
   .exact .inr q
theorem jw:∀{l:fy (Str×β)} {x:Str} {b:β},l.lookup x=bi b->(x,b)∈l
 |[],_,_,h=>by simp at h
 |(y,c)::r,x,b,h=>by
  rw[iT]at h
  cases J:x==y with
  |true=>rw[J]at h;have:=qK J;subst this;cases h;exact a9
  |false=>rw[J]at h;exact aJ _<|jw h
theorem i8:∀(d:fy (Str×ZC)) (n:f7) (acc:fy (Str×nt)),vr n d acc=vr n d []++acc
 |[],_,_=>rfl
 |(x,k)::r,n,acc=>by
  show(if k==.cell then vr (n+1) r ((x,n)::acc)else vr n r acc)=(if k==.cell then vr (n+1) r [(x,n)]else vr n r [])++acc
  split
  .rw[i8 r (n+1) ((x,n)::acc),i8 r (n+1) [(x,n)],aG];rfl
  exact i8 r n acc
abbrev fI(X:Cx)(nm:fy Str)(scope:ZB)(cl:fy (Str×nt))(C:nt)(w:n4)(H0:Hp)(fp:fy nt):Cx:=
 { cu X nm scope cl C w H0 fp with fn:=λy=>scope.names.lookup y==bi .cell }
theorem Ml{M:Model}{A:xh}{E:i2->n4->Prop}{z:nt}{Q:Env->n4->Prop}
  (U:∀h':qk,h'.Ns s.heap.objs.size (λx=>([]:fy (Str×i2)).reverse.lookup x)->(∀b o,s.heap.get? b=bi o->h'.get? b=bi o)->CellsOk h' (s.heap.objs.size+1) (vr (s.heap.objs.size+1) scope.names []) ->
   Q (newEnv scope s.heap.objs.size z (vr (s.heap.objs.size+1) scope.names []++cl) cU b0 .none (bi env) aaB) { s with heap:=h' }) :
  nz M A (aaH scope z cl [] cU b0 .none<|bi env) Q E s:=by simp only[aaH,Option.isSome_some,qJ];refine aa (wpAny_alloc<|aa<|wpAny_layCells _ (λV kind W=>by cases R:kind==aao<;>simp) _ _ _ _ ?_);have ok:=cellsFrom_ok scope.names (s.heap.push { cls:=.type "dict",data:=.dict #[] }) (s.heap.objs.size+1) [] {λ_ _ hm=>(nomatch hm),aaz} (by simp);rw[cA]at ok;rw[show({ s with heap:=s.heap.push { cls:=.type "dict",data:=.dict #[] } }:n4).heap.objs.size=s.heap.objs.size+1 from cA ..,i8 _ _ cl];exact aa<|aq<|aq<|U _ ((Heap.Ns.new s.heap<|.type "dict").keeps<|kL _ _) (λb o e=>kL _ _ b o<|ar _ e) ok
section
variable{nm:fy Str}{g:TG}
theorem yW{prog:Zy}{w:qd}{A:xh}{E:i2->n4->Prop}{l:nt}{u:i2}{Q:i2->n4->Prop}
  (e:s.heap.get? l=bi { cls:=.type "list",data:=.seq br.toArray n }) (hz:br.length<sizeLine)
  (h:∀(h':qk) (Y r:f7),h'.get? l=bi { cls:=.type "list",data:=.seq (br++[u]).toArray Y }->(∀b o,b≠l->s.heap.get? b=bi o->h'.get? b=bi o)->Q .none { s with heap:=h',toks:=r }) :
  nz (model prog w) A (call (.builtin "list.append") [.ref l,u]) Q E s:=by
 refine gY F.slot_list_append ⟨_,e,rfl⟩ F.entry_list_append (F.args_list_append_2 _ _) (PySem.list_append l br.toArray n u (by rw[bb];lia)) {e,?_};have q:=PySem.IsL.update e<|λa=>a.push u;have t:(s.heap.update l<|ZP λx=>x.push u).get? l=bi { cls:=.type "list",data:=.seq (br++[u]).toArray (if ((br.toArray.push u).size==br.toArray.size)=cT then n else n+1) }:=by simp_all
 exact h _ _ s.toks t λb o U R=>(dw s.heap (ZP _)<|Zw U).trans R
structure AM(X:Cx)(ah:fy (nt×Obj))(H:Hp)(s:n4)(C:nt)(m:Str->hJ i2):Prop where
 ns:s.heap.Ns C m
 fr:H C=b0
 nl:C≠X.env.locals
 nf:C∉X.fs
 hi:X.s₀.heap.objs.size<=C
 nc:∀x c,X.env.cells.lookup x=bi c->c≠C
 np:∀p∈X.pn++ah,p.1≠C
def AM.off{m:Str->hJ i2}(B:AM X ah H s C m)(I:bn X ah σ H s)(d:Z6 C s.heap h'):bn X ah σ H { s with heap:=h' }:=I.turned (d.extBut) B.fr B.nl (.inr B.hi) B.nc B.np
theorem HP{PR:fy (nt×Obj)}{σ2:St}{H1:Hp}{F:n4}
  (B:∀(i j:f7),cap[i]?=bi (bi j)->∃x,nm[i]?=bi x/\X.N[j]?=bi x/\vD X scope cl x) (U:cap.length=nm.length)
  (I2:bn X ah σ H1 F) (Wp:∀b∈fp,∀x c,X.env.cells.lookup x=bi c->c≠b)
  (I:bn (fI X nm scope cl C F H1 fp) PR σ2 H s):bn (fI X nm scope cl C F H1 fp) PR (pK cap σ) H s:=by
 refine{I.ok,I.os,I.bare,I.base,?_,I.cell,I.free,I.freeC,I.pin,I.hok,by show(pK cap σ).length=nm.length;unfold pK;rw[aj];exact U};obtain⟨m,L,_⟩:=I.loc;refine{m,L,λi x v R e2 O=>?_};unfold pK at e2;rw[ai]at e2
 cases D:cap[i]? with
 |none=>rw[D]at e2;cases e2
 |some oj=>
  cases oj with
  |none=>rw[D]at e2;cases e2
  |some j=>
   rw[D]at e2;have Z:(σ[j]?).join=bi v:=by simpa using e2
   have e2:σ[j]?=bi (bi v):=by
    cases d:σ[j]? with
    |none=>rw[d]at Z;cases Z
    |some f=>rw[d]at Z;simp at Z;rw[Z]
   obtain⟨x',t,Y,k⟩:=B i j D;have J:x'=x:=by simp_all
   subst J;obtain⟨w,_,W⟩:=I2.loc;obtain⟨u,r,l⟩:=W j x' v Y e2 k.vis;refine{u,r,?_};rcases l with⟨kl,_⟩|⟨_,c,V,G⟩
   .exact absurd kl k.nl
   .refine .inr {k.kd,c,by rw[<- V];exact k.cl,?_};exact I.base.cellK G (I2.freeC _ _ V) λz=>Wp c z _ _ V rfl
theorem CQ{Qk:VK}(gz:X.calm=cT)(xb:aab scope X.env=pure cl)(pH:∀x c,cl.lookup x=bi c->X.env.cells.lookup x=bi c)
  (fN:scope.kind=.function) (rT:∀x∈scope.names,x.2=.local->scope.names.lookup x.1=bi .local) (Zk:∀y∈scope.names,y.2=.cell->cl.lookup y.1=b0)
  (DW:∀x,scope.names.lookup x≠bi .cell->((relabel scope X.env).names.lookup x=bi .cell\/(relabel scope X.env).names.lookup x=bi .free)->∃c,cl.lookup x=bi c)
  (tm:∀(i j:f7),cap[i]?=bi (bi j)->∃x,nm[i]?=bi x/\X.N[j]?=bi x/\vD X scope cl x/\(x,aao)∉scope.names) (da:cap.length=nm.length)
  (L:PI X tg iter wi) (hg:∀k C s0 H0 fp,PG (fI X nm scope (vr k scope.names []++cl) C s0 H0 fp) tg g) (ht:∀k C s0 H0 fp,HN (fI X nm scope (vr k scope.names []++cl) C s0 H0 fp) kw tc)
  (f:∀k C s0 H0 fp,PE (fI X nm scope (vr k scope.names []++cl) C s0 H0 fp) mz te) (w:∀x,Z9 iter X.env x=pure x)
  (I:bn X ah σ H s) (h:sf cap wi g tc te σ H Qk) (jC:∀(s4:n4) (C D:nt) (m4:Str->hJ i2) (Hn:Hp),bn X ah σ Hn s4->AM X ah Hn s4 C m4->Qk (.ref D) Hn->compPost #[2] X.A X.xe use Qv (.ref D) C (.ok .next) s4) :
  nz #[2] X.A (comprehension #[3] scope X.env (firstIterPos [⟨tg,iter,kw,0⟩] pos) (newList []) (firstAsync [⟨tg,iter,kw,0⟩]) (firstIter [⟨tg,iter,kw,0⟩] X.env) use) Qv X.xe s:=by
 refine wpAny_comprehension_free (use:=use) rfl w xb fN rT (h_ (L ah s σ H _ I h) λv s1 Z=>h_ Z λYk s2 B=>?_);obtain⟨it,fp,tn,J,H1,e,I2,T,st2,f2,W,⟨m0,w0⟩,turn⟩:=B;subst e;have hfpn:∀b∈fp,b<s2.heap.objs.size:=λb U=>let ⟨o,ho,_⟩:=T.obj _ _ st2 b U;aD ho;have hfpc:∀b∈fp,∀x c,X.env.cells.lookup x=bi c->c≠b:=λb U=>(f2 b U).2.2.2.2.1;refine bQ<|Ml<|λh₁ hns₁ hsb₁ cok=>?_;dsimp only at hns₁ hsb₁ cok ⊢;generalize hH2:s2.heap.push { cls:=.type "list",dict:=b0,data:=.seq ([]:fy i2).toArray }=G2 at hns₁ hsb₁ cok ⊢;have hC:G2.objs.size=s2.heap.objs.size+1:=by rw[<- hH2,cA]
 have hDC:s2.heap.objs.size≠G2.objs.size:=by rw[hC];exact aM<|dR _
 have old:∀b o,s2.heap.get? b=bi o->h₁.get? b=bi o:=λb o e=>hsb₁ b o<|hH2▸ar _ e;have hacc:h₁.get? s2.heap.objs.size=bi { cls:=.type "list",data:=.seq ([]:fy i2).toArray }:=hsb₁ _ _<|hH2▸ay _ rfl;have both:∀y c,(vr (G2.objs.size+1) scope.names []++cl).lookup y=bi c->(vr (G2.objs.size+1) scope.names []).lookup y=bi c\/cl.lookup y=bi c:=λy c e=>by
  rw[dP]at e
  cases h:(vr (G2.objs.size+1) scope.names []).lookup y with
  |none=>rw[h]at e;exact .inr e
  |some b=>rw[h]at e;exact .inl e
 have ownhi:∀y c,(vr (G2.objs.size+1) scope.names []).lookup y=bi c->h₁.IsCell c b0/\G2.objs.size+1<=c:=λy c e=>cok.empty y c<|PySem.mem_of_lookup e;have cllow:∀y c,cl.lookup y=bi c->c<s2.heap.objs.size:=λy c e=>by obtain⟨v,hv⟩:=I2.cell y c<|pH _ _ e;exact hv.lt
 have hcap0:=tm;have tm:∀(i j:f7),cap[i]?=bi (bi j)->∃x,nm[i]?=bi x/\X.N[j]?=bi x/\vD X scope (vr (G2.objs.size+1) scope.names []++cl) x:=λi j e=>by
  obtain⟨x,q1,q2,k,q3⟩:=hcap0 i j e;refine{x,q1,q2,k.vis,k.nl,?_,k.kd};rw[dP]
  cases h:(vr (G2.objs.size+1) scope.names []).lookup x with
  |none=>exact k.cl
  |some c=>
   rcases kq _ _ _ (PySem.mem_of_lookup h)with z|z
   .exact absurd z q3
   .cases z
 have okB:#[1].Ok:=by
  refine{I2.ok.mod,fN,I2.ok.glob,I2.ok.blt,by show s2.heap.objs.size<=G2.objs.size;omega,λx y c Z B=>?_,λx O=>?_,λx c h0 R=>?_,λR=>I2.ok.hd gz,I2.ok.frames,.inl rfl,?_,?_,?_,?_,?_,?_,?_}
  .rcases both x c Z with q1|q1<;>rcases both y c B with q2|q2
   .exact tD cok.apart (PySem.mem_of_lookup q1) (PySem.mem_of_lookup q2)
   .exact absurd (cllow y c q2) (g8.mpr<|aW (by omega) (ownhi x c q1).2)
   .exact absurd (cllow x c q1) (g8.mpr<|aW (by omega) (ownhi y c q2).2)
   .exact I2.ok.inj x y c (pH _ _ q1) (pH _ _ q2)
  .show ∃c,(vr (G2.objs.size+1) scope.names []++cl).lookup x=bi c;rw[dP]
   by_cases hq:scope.names.lookup x=bi .cell
   .obtain⟨c,e⟩:=iB (n:=G2.objs.size+1) hq;exact{c,by rw[e];rfl}
   .obtain⟨c,e⟩:=DW x hq O
    cases h:(vr (G2.objs.size+1) scope.names []).lookup x with
    |none=>exact⟨c,e⟩
    |some b=>exact⟨b,rfl⟩
  .have hq:scope.names.lookup x=bi .cell:=by simpa using h0
   obtain⟨b,e⟩:=iB (n:=G2.objs.size+1) hq;have R:(vr (G2.objs.size+1) scope.names []++cl).lookup x=bi c:=R;rw[dP,e]at R
   cases R
   have:=(ownhi x _ e).2;show s2.heap.objs.size<=_
   lia
  .intro b U;exact{aM (aQ (hfpn b U) (by show _<=G2.objs.size;omega)),λx c O=>(both x c O).elim (λq=>eV<|aQ (hfpn b U)<|aW (by omega) (ownhi x c q).2) λq=>hfpc b U x c<|pH _ _ q}
  .exact λb o U=>I2.bs b o U
  .exact aW I2.ok.bsz I2.sz
  .intro b o U z;rcases(f2 b z).2.2.2.1 with q|q
   .exact I2.ok.noex b o U q
   .exact absurd (aD (I2.ok.bs b o U).1) (g8.mpr q)
  .intro b U z;rcases aS.mp (I2.stkSub b z)with q|q
   .exact(f2 b U).2.1 q
   .exact(f2 b U).2.2.1 q
  .exact I2.stack
  .exact I2.stkFree
 have I4:bn #[1] [] (pK cap σ) H1 { s2 with heap:=h₁ }:=by
  refine HP tm da I2 hfpc (σ2:=rn nm.length b0) {okB,rfl,I2.bare,Un.kept old,{_,hns₁,λi x v _ e2=>?_},λx c O=>?_,?_,λx c O=>(both x c O).elim (λq=>I2.hok.fresh (by have:=(ownhi x c q).2;lia)) λq=>I2.freeC x c<|pH _ _ q,λp F=>absurd F (by simp),I2.hok.kept old,by simp}
  .rw[dQ]at e2;split at e2<;>cases e2
  .rcases both x c O with q|q
   .exact{b0,(ownhi x c q).1}
   .obtain⟨v,hv⟩:=I2.cell x c<|pH _ _ q;exact{v,hv.keeps old}
  .exact I2.hok.fresh (by show _<=G2.objs.size;omega)
 have hsz0:∀{Hx:Hp} {sx:n4} {px:fy (nt×Obj)} {σx:St},bn #[1] px σx Hx sx->Hx s2.heap.objs.size=b0->∀{oa:Obj},sx.heap.get? s2.heap.objs.size=bi oa->(∀v,oa.data≠.cell v) ->
   bn #[1] [(s2.heap.objs.size,oa)] σx Hx sx:=λ{Hx sx px σx} Ix hn {oa} ho hd=>Ix.pins_of λp F=>by
  have e:p=(s2.heap.objs.size,oa):=by simpa using F
  subst e;exact{ho,hn,hDC,λz=>by obtain⟨_,o,q,_⟩:=I2.stack.mem z;exact absurd (aD q)<|cV _,hd}
 have hfpB:∀{Hx:Hp} {oa:Obj},(∀b∈fp,Hx b=b0)->∀b∈fp,yM #[1] [(s2.heap.objs.size,oa)] Hx b:=λ{Hx oa} hn b U=>
  ⟨hn b U,(okB.exf b U).1,okB.exfs b U,.inl U,(okB.exf b U).2,λp F=>by
   have e:p=(s2.heap.objs.size,oa):=by simpa using F
   subst e;exact eV<|hfpn b U⟩
 have hcalmB:#[1].calm=cT:=gz;have loop:∀sx:n4,sx={ s2 with heap:=h₁ } ->
   aaa #[2] X.A (.compLoop #[3] 0 (.ref it) (.ref s2.heap.objs.size) (compEnvC scope (vr (G2.objs.size+1) scope.names []++cl) G2.objs.size X.env))
    (compPost #[2] X.A X.xe use Qv (.ref s2.heap.objs.size) G2.objs.size) sx:=by
  rintro sx rfl;refine codeAny_loop rfl (λn t=>∃i G H',bn #[1] [] (pK cap σ) H' t/\tn i t.heap/\(∀b∈fp,H' b=b0)/\H' s2.heap.objs.size=b0 /\
   (∃br k,ce G br/\t.heap.get? s2.heap.objs.size=bi { cls:=.type "list",data:=.seq br.toArray k })/\W i n G H') ?_ m0
   ⟨0,[],H1,I4,T.keep _ _ _ st2<|λb _ o e=>old b o e,λb U=>(f2 b U).1,I2.fresh,{[],0,.nil,hacc},w0⟩
  rintro n s3 ⟨i,G,H3,I3,gW,fr3,na3,⟨br,ka,rv,ea⟩,w3⟩;refine wpAny_noted ?_;rw[compTurn_list];refine aa<|q9 ?_;have I3p:=hsz0 I3 na3 ea (λv z=>by cases z);rcases turn i n G H3 w3 with⟨stop,hz,qn⟩|⟨go,step⟩
  .refine aa (dz (T.done #[1] rfl rfl rfl hcalmB i _ s3 _ H3 (λ_ _=>False) I3p (hfpB fr3) gW stop) (λr s4 Y=>?_) λ_ _ z=>z.elim);obtain⟨Y,I4'⟩:=Y;subst Y;refine aq ?_;obtain⟨m4,hn4,_⟩:=id I4'.loc;have pa:=I4'.pin (s2.heap.objs.size,{ cls:=.type "list",data:=.seq br.toArray ka }) (by simp);have ne:∀b o,s2.heap.get? b=bi o->b≠s2.heap.objs.size/\b≠G2.objs.size:=λb o e=>{aM<|aD e,aM (by rw[hC];exact dB<|aD e)}
   have I5:bn X ah σ (dX H3 s2.heap.objs.size<|.lst G) s4:=by
    refine I2.call' (ch:=fp) I4'.os {λb o e n U O=>?_,λb o e n U O=>?_,λb o e n O=>?_,λb o e O=>?_,λb xs e=>?_,λb o u e=>?_,λb ps e=>?_} ?_ I4'.bare λb U=>?_
    .exact I4'.base.keep b o e n U O
    .exact I4'.base.slot b o e n U O
    .rw[bX (ne b o e).1];exact I4'.base.free b o e n O
    .exact I4'.base.there b o e O
    .have q:=I4'.base.tups b xs e;rw[bX<|fP q na3];exact q
    .have q:=I4'.base.frzs b o u e;rw[bX<|fP q na3];exact q
    .obtain⟨mr,q⟩:=I4'.base.tbls b ps e;exact{mr,by rw[bX<|fP q na3];exact q}
    .intro b o e
     by_cases U:b=s2.heap.objs.size
     .subst U;rw[cv]at e;cases e
      exact{hz,br,ka,rv,pa.1}
     .rw[bX U]at e;exact(I4'.hok b o e).stay (λc u R q=>q) (λc q=>by rw[bX<|fP q na3];exact q) λc xs q=>by rw[bX<|fP q na3];exact q
    .obtain⟨_,g1,_,g3,g4,g5⟩:=f2 b U;exact⟨g3,g1,g4,g5⟩
   have lC:s2.heap.objs.size<=G2.objs.size:=by rw[hC];exact kF _
   exact jC s4 G2.objs.size _ m4 _ I5 {hn4,by rw[bX<|Zw hDC];exact I4'.free,eV<|aQ I2.lt lC,I2.nofs lC,aW I2.sz lC,λx c O z=>(by
    obtain⟨v,o,ho,_⟩:=I2.cell x c O;exact absurd (aD ho) (by rw[z];exact g8.mpr lC)),λp F z=>(by
    have:=(I2.pin p F).1;exact absurd (aD this) (by rw[z];exact g8.mpr lC))} (qn _ na3)
  .refine aa (dz (T.item #[1] rfl rfl rfl hcalmB i _ s3 _ H3 (λ_ _=>False) I3p (hfpB fr3) gW go) (λr s4 Y=>?_) λ_ _ z=>z.elim);obtain⟨u,Y,h4⟩:=Y;subst Y;dsimp only;refine aa<|dz h4 (λ_ s5 h5=>?_) λ_ _ z=>z.elim;obtain⟨x,H5,I5,r5,y5,Cw,fr5⟩:=h5;have I5':=I5.pinned (hfpB fr5)<|T.obj _ _ Cw;refine aa<|dz (hg _ _ _ _ _ _ s5 _ H5 x u _ I5' r5<|step x H5 y5) (λ_ s6 h6=>?_) λ_ _ z=>z.elim;obtain⟨σ6,H6,I6,q6⟩:=h6;refine aa<|dz (ht _ _ _ _ _ _ s6 σ6 H6 _ I6 q6) (λok s7 h7=>?_) λ_ _ z=>z.elim;obtain⟨H7,I7,q7⟩:=h7;have back:∀{H8:Hp} {s8:n4} {W_:fy V} {its':fy i2} {k':f7},bn #[1] [] σ6 H8 s8->(∀b∈fp,∀o,s5.heap.get? b=bi o->s8.heap.get? b=bi o)->(∀b∈fp,H8 b=b0)->H8 s2.heap.objs.size=b0 ->
     ce W_ its'->s8.heap.get? s2.heap.objs.size=bi { cls:=.type "list",data:=.seq its'.toArray k' }->(∃m',m'<n/\W (i+1) m' W_ H8) ->
     ∃m,m<n/\∃i G H',bn #[1] [] (pK cap σ) H' s8/\tn i s8.heap/\(∀b∈fp,H' b=b0)/\H' s2.heap.objs.size=b0 /\
      (∃br k,ce G br/\s8.heap.get? s2.heap.objs.size=bi { cls:=.type "list",data:=.seq br.toArray k })/\W i m G H':=
    λ{H8 s8 W_ its' k'} I8 kf f8 n8 rv8 e8 ⟨m',hm,w8⟩=>{m',hm,i+1,W_,H8,HP tm da I2 hfpc I8,T.keep _ _ _ Cw kf,f8,n8,⟨its',k',rv8,e8⟩,w8}
   cases ok with
   |false=>
    refine aq {rfl,?_};have q7':∃m',m'<n/\W (i+1) m' G H7:=by simpa using q7
    have pa:=I7.pin (s2.heap.objs.size,{ cls:=.type "list",data:=.seq br.toArray ka }) (by simp);refine back (I7.pins_of λp F=>absurd F<|by simp) (λb U o e=>?_) (λb U=>?_) pa.2.1 rv pa.1 q7'
    .exact(I7.pin (b,o)<|a8 _<|a8 _<|j8 U e).1
    .obtain⟨o,e,d⟩:=T.obj _ _ Cw b U;exact(I7.pin (b,o)<|a8 _<|a8 _<|j8 U e).2.1
   |true=>
    rw[ax rfl]at q7;refine aa<|aa<|dz (f _ _ _ _ _ _ s7 σ6 H7 _ I7 q7) (λxv s8 h8=>?_) λ_ _ z=>z.elim;obtain⟨y,H8,I8,r8,hzy,q8⟩:=h8;have pa:=I8.pin (s2.heap.objs.size,{ cls:=.type "list",data:=.seq br.toArray ka }) (by simp);refine aa (yW pa.1 (by rw[<- rv.length];exact hzy) λh' k' tk e9 sb=>?_);refine aq<|aq {rfl,?_};have I9:bn #[1] [] σ6 H8 { s8 with heap:=h',toks:=tk }:=
     (bn.pins_of (pins':=[]) I8 λp F=>absurd F<|by simp).turned (it:=s2.heap.objs.size) (λb o U e=>sb b o U e) pa.2.1 hDC (.inr<|av _) (λx c O z=>by
      rcases both x c O with q|q
      .exact g8.mpr (ownhi x c q).2 (by rw[z];lia)
      .exact cV _ (by have:=cllow x c q;rw[z]at this;exact this)) (λp F=>absurd F<|by simp)
    refine back I9 (λb U o e=>?_) (λb U=>?_) pa.2.1 (rv.append<|.cons r8 .nil) e9 q8
    .exact sb b o (aM<|hfpn b U) (I8.pin (b,o)<|a8 _<|a8 _<|j8 U e).1
    .obtain⟨o,e,d⟩:=T.obj _ _ Cw b U;exact(I8.pin (b,o)<|a8 _<|a8 _<|j8 U e).2.1
 exact codeAny_compStart_list (loop _ rfl)<|T.self _ _ _ _ _ (T.keep _ _ _ st2 λb _ o e=>old b o e)<|loop _ rfl
theorem sg:∀(d:fy (Str×ZC)) (n:f7),(∀y∈d,y.2≠.cell)->vr n d []=[]
 |[],_,_=>rfl
 |(x,k)::r,n,h=>by
  show(if k==.cell then vr (n+1) r [(x,n)]else vr n r [])=[]
  rw[aF (by have:=h (x,k) (by simp);simpa using this)];exact sg r n λy W=>h y (by simp[W])
theorem ya{Qk:VK}(V:X.calm=cT)(xb:aab scope X.env=pure cl)(Z:∀x c,cl.lookup x=bi c->X.env.cells.lookup x=bi c)
  (f:scope.kind=.function) (rT:∀x∈scope.names,x.2=.local->scope.names.lookup x.1=bi .local) (G:∀y∈scope.names,y.2≠.cell)
  (DW:∀x,((relabel scope X.env).names.lookup x=bi .cell\/(relabel scope X.env).names.lookup x=bi .free)->∃c,cl.lookup x=bi c)
  (tm:∀(i j:f7),cap[i]?=bi (bi j)->∃x,nm[i]?=bi x/\X.N[j]?=bi x/\vD X scope cl x) (U:cap.length=nm.length)
  (L:PI X tg iter wi) (r:∀C w H0 fp,PG (cu X nm scope cl C w H0 fp) tg g) (B:∀C w H0 fp,HN (cu X nm scope cl C w H0 fp) kw tc)
  (Y:∀C w H0 fp,PE (cu X nm scope cl C w H0 fp) mz te) (O:∀x,Z9 iter X.env x=pure x)
  (I:bn X ah σ H s) (h:sf cap wi g tc te σ H Qk) (F:∀(R:n4) (C D:nt) (t:Str->hJ i2) (Hn:Hp),bn X ah σ Hn R->AM X ah Hn R C t->Qk (.ref D) Hn->compPost #[2] X.A X.xe use Qv (.ref D) C (.ok .next) R) :
  nz #[2] X.A (comprehension #[3] scope X.env (firstIterPos [⟨tg,iter,kw,0⟩] pos) (newList []) (firstAsync [⟨tg,iter,kw,0⟩]) (firstIter [⟨tg,iter,kw,0⟩] X.env) use) Qv X.xe s:=by
 have nc:∀k,vr k scope.names []++cl=cl:=λk=>by rw[sg _ _ G];rfl
 have J:∀C w H0 fp,fI X nm scope cl C w H0 fp=cu X nm scope cl C w H0 fp:=λC w H0 fp=>by
  have:(λy=>scope.names.lookup y==bi .cell)=λ_=>eh:=funext λy=>by rw[bj];exact λe=>G _ (jw e) rfl
  unfold fI cu;rw[this]
 exact CQ V xb Z f rT (λy W h=>absurd h<|G y W) (λx _ h=>DW x h) (λi j h=>let ⟨x,a,b,d⟩:=tm i j h;⟨x,a,b,d,λz=>G _ z rfl⟩) U L
  (λk C w H0 fp=>by rw[nc,J];exact r C w H0 fp) (λk C w H0 fp=>by rw[nc,J];exact B C w H0 fp) (λk C w H0 fp=>by rw[nc,J];exact Y C w H0 fp) O I h F
theorem D6(t:X.calm=cT)(xb:aab scope X.env=pure cl)(Z:∀x c,cl.lookup x=bi c->X.env.cells.lookup x=bi c)
  (k:scope.kind=.function) (rT:∀x∈scope.names,x.2=.local->scope.names.lookup x.1=bi .local) (G:∀y∈scope.names,y.2≠.cell)
  (DW:∀x,((relabel scope X.env).names.lookup x=bi .cell\/(relabel scope X.env).names.lookup x=bi .free)->∃c,cl.lookup x=bi c)
  (F:∀(i j:f7),cap[i]?=bi (bi j)->∃x,nm[i]?=bi x/\X.N[j]?=bi x/\vD X scope cl x) (U:cap.length=nm.length)
  (L:PI X tg iter wi) (r:∀C w H0 fp,PG (cu X nm scope cl C w H0 fp) tg g) (J:∀C w H0 fp,HN (cu X nm scope cl C w H0 fp) kw tc)
  (Y:∀C w H0 fp,PE (cu X nm scope cl C w H0 fp) mz te) (d:∀x,Z9 iter X.env x=pure x:=by intro _;rfl) :
  PE X #[3] (sf cap wi g tc te):=λW s O H Q I h=>ya t xb Z k rT G DW F U L r J Y d I h λR C D f Hn I4 B q=>{f,B.ns,λV z=>⟨.ref D,Hn,B.off I4 z,rfl,q⟩}
end
noncomputable def tx(l:fy f7):Str:={l.toArray}
def Xx(l:fy f7):(tx l).cps.toList=l:=rfl
def yX(l:fy f7):(tx l).length=l.length:=by show l.toArray.size=_;simp
def CU(a b:fy f7):tx a++tx b=tx (a++b):=by
 show({a.toArray++b.toArray}:Str)={(a++b).toArray}
 simp
theorem HQ{a b:fy f7}:tx a=tx b↔a=b:={λh=>by have:=eJ (λz:Str=>z.cps.toList) h;exact this,λh=>by rw[h]}
noncomputable def Xy(z:fy V):It:={λi _=>i<z.length,λi H x H'=>H'=H/\z[i]?=bi x,λi _=>z.length<=i}
theorem CV{w:qd}{it:nt}{qj:fy V}{Pr:f7->i2->Prop}{S:f7->qk->Prop}{ty:String}
  (W:∀A:xh,A.handled=b0->Walks P w A it [it] [it] qj.length Pr S) (hv:∀i v,i<qj.length->Pr i v->∃x,qj[i]?=bi x/\cq x v)
  (DO:∀i h,S i h->∃o vs,h.get? it=bi o/\o.cls=.type ty/\o.data=.fields vs)
  (G_:["enumerate","zip","dict_itemiterator","dict_reverseitemiterator","odict_iterator","itertools.zip_longest","itertools.pairwise"].contains ty=eh)
  (Le:∀(A:xh) (i:f7) (s:n4) (Q:i2->n4->Prop) (E:i2->n4->Prop),S i s.heap->Q (.ref it) s->nz (model P w) A (ZX<|.ref it) Q E s) :
  CC P w K tg (Xy qj) [it] it (λi h=>i<=qj.length/\S i h) where
 mem:=by simp
 obj:=λi h B b U=>by
  have e:b=it:=by simpa using U
  subst e;obtain⟨o,vs,e,c,d⟩:=DO i h B.2;exact{o,e,λv z=>by rw[d]at z;cases z}
 keep:=λi h G B k=>{B.1,(W { depth:=0,handled:=b0,frames:=b0 } rfl).frame i h G B.2 k}
 item:=by intro X hP Z hK D i Y s O H E I t B r;subst hP Z hK;obtain⟨f0,L,f2,f3,f4,f5⟩:=t it (by simp);refine(W X.A<|I.ok.hd D).item i s _ _ r B.2 λv G tk F R kk=>?_;have I1:bn X Y O H { s with heap:=G,toks:=tk }:=I.turned (λb o U e=>kk b o (by simpa using U) e) f0 L f3 f4 f5;obtain⟨x,J,f⟩:=hv i v r F;obtain⟨o,vs,e,c,d⟩:=DO _ _ R;exact{v,rfl,AG e c d G_ ⟨x,H,I1,f,⟨rfl,J⟩,⟨r,R⟩,λb U=>(t b U).1⟩}
 done:=by intro X hP Z hK D i Y s O H E I t B r;subst hP Z hK;obtain⟨f0,L,f2,f3,f4,f5⟩:=t it (by simp);have e:=oX B.1 r;refine(W X.A<|I.ok.hd D).done s _ _ (e▸B.2) λG tk kk=>{rfl,I.turned (λb o U e=>kk b o (by simpa using U) e) f0 L f3 f4 f5}
 self:=λA i s Q E B h=>Le A i s Q E B.2 h
section
def j9(l:fy f7):fy V:=l.map λc=>.str<|tx [c]
def Xz(r:TE):TI:=λσ H R=>r σ H λx H1=>∃l,x=.str (tx l)/\R (Xy<|j9 l) H1
theorem FV(i:f7)(v:i2)(L:i<(j9 l).length)(h:SignAt (tx l) i v):∃x,(j9 l)[i]?=bi x/\cq x v:=by
 obtain⟨c,u,D,e⟩:=h;refine{.str<|tx [c],?_,u,e};unfold j9;rw[ai];have:l[i]?=bi c:=by simpa[tx]using D
 rw[this];rfl
theorem QH{l:ow}{r:TE}(L:PE X l r):PI X tg l (Xz r):=by
 refine λY s O H R I h=>h_ (L Y s O H _ I h) λv G zq=>?_;obtain⟨x,H1,I1,B,w⟩:=zq;obtain⟨l,e,q⟩:=w;subst e;obtain⟨t,rfl⟩:=B;have D:(tx l).cps.size=(j9 l).length:=by unfold j9;simp[tx]
 have z:∀F S ty,(∀A:xh,A.handled=b0->Walks X.prog X.w A G.heap.objs.size [G.heap.objs.size] [G.heap.objs.size] (tx l).cps.size (SignAt<|tx l) S)->S 0 (G.heap.push F) ->
   (∀i h,S i h->∃o Z,h.get? G.heap.objs.size=bi o/\o.cls=.type ty/\o.data=.fields Z) ->
   ["enumerate","zip","dict_itemiterator","dict_reverseitemiterator","odict_iterator","itertools.zip_longest","itertools.pairwise"].contains ty=eh ->
   (∀A i s Q E,S i s.heap->Q (.ref G.heap.objs.size) s->nz #[2] A (ZX<|.ref G.heap.objs.size) Q E s) ->
   WS X Y O tg R (.ref G.heap.objs.size) { G with heap:=G.heap.push F }:=λF S ty W d DO G_ Le=>by
  rw[D]at W;refine{G.heap.objs.size,[G.heap.objs.size],_,_,H1,rfl,I1.kept λb o e=>ar _ e,CV W (FV) DO G_ Le,{cG _,d},λb U=>?_,q};have e:b=G.heap.objs.size:=by simpa using U
  subst e;exact I1.fpOk (av _) I1.fresh
 cases J:(tx l).cps.all (· < 128)
 .exact wpAny_pyIter_wide J (z _ _ _ (λA k=>Walks.strWide k _ (tx l) t) {_,ay _ rfl,rfl,rfl} (λi h V=>by obtain⟨o,a,b,c⟩:=V;exact⟨o,_,a,b,c⟩) (by decide) λA i s Q E V h=>wpAny_pyIter_striter_wide V h)
 exact wpAny_pyIter_ascii J (z _ _ _ (λA k=>Walks.strAscii k _ (tx l) t) {_,ay _ rfl,rfl,rfl} (λi h V=>by obtain⟨o,a,b,c⟩:=V;exact⟨o,_,a,b,c⟩) (by decide) λA i s Q E V h=>wpAny_pyIter_striter_ascii V h)
noncomputable def FW(l:fy f7)(z L:hJ hG):fy f7:=(l.drop<|HT.sIx l.length 0 z).take<|HT.sIx l.length l.length L-HT.sIx l.length 0 z
theorem AN(l:fy f7)(z L:hJ hG):(FW l z L).length<=l.length:=by unfold FW;rw[bh,dv];lia
theorem CW(l:fy f7)(i k:f7):((uP k).map λ(m:f7)=>i+m).filterMap (λj=>l[j]?)=(l.drop i).take k:=by
 induction k generalizing i with
 |zero=>simp
 |succ k U=>
  rw[jO,aZ,aN];have e:((λm=>i+m)∘Nat.succ)=λm=>(i+1)+m:=by funext m;simp;lia
  rw[e]
  by_cases h:i<l.length
  .rw[fG];simp only[jP,ak h];rw[U<|i+1,cx h,List.take_succ_cons]
  rw[fG];have V:l.length<=i:=by lia
  simp only[jP,b8 V];rw[U<|i+1,g9 V,g9 #[0]];simp
theorem Oc(v:hG)(n d:f7):(if (1:hG)>0 then max 0 (min (if v<0 then v+(n:hG)else v) (n:hG))else max (-1) (min (if v<0 then v+(n:hG)else v)<|(n:hG)-1))=((HT.sIx n d (bi v):f7):hG):=by
 rw[ax #[0]];show _=(((if v<0 then(v+n).toNat else min v.toNat n):f7):hG)
 by_cases B:v<0
 .simp only[ax B];lia
 simp[aF B];lia
theorem QJ(z L:hJ hG)(n:f7):aaD z L 1 n=(uP<|HT.sIx n n L-HT.sIx n 0 z).map λ(m:f7)=>HT.sIx n 0 z+m:=by
 have key:∀a b:f7,sliceRange a b 1=(uP<|b-a).map λm=>a+m:=λa b=>by
  unfold sliceRange;have e:(if (1:hG)>0 then(if a<(b:hG)then((b:hG)-a+1-1)/1 else 0)else(if (a:hG)>b then(a-b-1-1)/(-1)else 0)).toNat=b-a:=by lia
  dsimp only;rw[e];refine b_ λk _=>?_
  lia
 unfold aaD;rw[<- key];dsimp only
 congr 1
 .cases z with
  |none=>rfl
  |some v=>exact Oc v n 0
 cases L with
 |none=>rfl
 |some v=>exact Oc v n n
theorem HR(l:fy f7)(z L:hJ hG):Txt.slice (tx l) z L=tx (FW l z L):=by
 unfold Txt.slice;rw[QJ,yX]
 split
 .rename_i h
  simp at h;unfold FW;have Z:=HT.sIx_le l.length l.length (av _) L
  by_cases J:l.length=0
  .grind
  have R:HT.sIx l.length 0 z=0:=by lia
  rw[R,List.drop_zero,fL #[0]]
 unfold FW tx;have:∀j:f7,(l.toArray)[j]?=l[j]?:=λj=>by simp
 simp only[this];rw[CW]
def XA:V->hJ hG->hJ hG->Hp->VK->Prop:=λx z L H Q=>∃l,x=.str (tx l)/\l.length<=sizeLine/\Q (.str<|tx<|FW l z L) H
theorem D7{o:hJ hG}(p:Z5 v o):∃q:hJ (hG×Tok),v=partValue q/\q.map (·.1)=o:=by
 cases p with
 |none=>exact⟨b0,rfl,rfl⟩
 |int i t=>exact{bi (i,t),rfl,rfl}
theorem QK:Ui X XA:=by
 intro W s O H x v w U z L G Q I Y d pl V h;obtain⟨l,e,J,q⟩:=h;subst e;obtain⟨t,rfl⟩:=Y;obtain⟨f,rfl,rfl⟩:=D7 pl;obtain⟨r,rfl,rfl⟩:=D7 V;refine{"str",_,F.slot_str_getitem.lookup,oD _ _ _,nE (st:=b0) d rfl (post_val_or_str ?_)};have e:=HR l (f.map (·.1)) (r.map (·.1));unfold Txt.slice at e;show(if ((1:hG)==1&&(aaD (f.map (·.1)) (r.map (·.1)) 1 (tx l).length).length==(tx l).length)=cT then tx l else⟨((aaD (f.map (·.1)) (r.map (·.1)) 1 (tx l).length).filterMap ((tx l).cps[·]?)).toArray⟩).length<=sizeLine /\
  ∀Z k,EP X W O Q (.str (if ((1:hG)==1&&(aaD (f.map (·.1)) (r.map (·.1)) 1 (tx l).length).length==(tx l).length)=cT then tx l else⟨((aaD (f.map (·.1)) (r.map (·.1)) 1 (tx l).length).filterMap ((tx l).cps[·]?)).toArray⟩) Z) { s with toks:=k }
 rw[e];exact{aW (AN l _ _) J,λZ k=>⟨.str _,H,I.tok k,⟨Z,rfl⟩,q⟩}
def Uu(te:TE):TE:=λσ H Q=>te σ H λx H1=>∃l,x=.str (tx l)/\l.length<=sizeLine/\Q (.str<|tx l.reverse) H1
theorem HS(l:fy f7):(aaD b0 b0 (-1) l.length).filterMap (λj=>l[j]?)=l.reverse:=by
 unfold aaD sliceRange;have Z:¬ ((-1)>0):=by decide
 simp only[Z,nD];have e:(if (l.length:hG)-1 > -1 then((l.length:hG)-1 - -1 - -1-1)/(- -1)else 0).toNat=l.length:=by grind
 rw[e];apply gq;intro i;have z:∀k:f7,k<=l.length->((uP k).map λ(k:f7)=>(l.length-1+-1*(k:hG)).toNat).filterMap (λj=>l[j]?)=l.reverse.take k:=by
  intro k
  induction k with
  |zero=>intro _;simp
  |succ k U=>
   intro O;rw[fB,bT,List.filterMap_append,U #[0],List.map_singleton];have e2:(l.length-1+-1*(k:hG)).toNat=l.length-1-k:=by lia
   rw[e2,fG];have G:l.length-1-k<l.length:=by lia
   rw[ak G];have V:k<l.reverse.length:=by simp;lia
   rw[List.take_add_one,ak V,List.getElem_reverse];rfl
 rw[z l.length<|av _,fL<|by simp]
theorem Mm{one:ow}{d:Pos}{z:Pos}(Y:PE X e te):PE X (.Subscript e (.Slice b0 b0 (bi<|.UnaryOp .USub (.Constant (.int 1) j z) d) p2) pos) (Uu te):=by
 refine λW s O H Q I h=>rW<|h_ (Y W s O H _ I h) λv G zq=>?_;obtain⟨x,H1,I1,B,w⟩:=zq;obtain⟨l,e,J,q⟩:=w;subst e;obtain⟨t,rfl⟩:=B;refine wpAny_Slice<|aq<|aq<|UnaryOp_<|wpAny_Constant_int<|neg_int ?_;have I4:∀R r,bn X W O H1 { G with heap:=G.heap.push R,toks:=r }:=λR r=>I1.kept λb o q=>ar _ q;dsimp only;refine tail_any (oD _ _ _) F.slot_str_getitem.lookup ?_ (by rfl);refine nE (l:=b0) (u:=b0) (st:=bi (-1,_)) {_,ay _ rfl,rfl,rfl} (by rfl)<|post_val_or_str ?_;have L:¬ ((((bi ((-1:hG),G.toks+1)).map (·.1)).getD 1==1&&(slicePicked (tx l) b0 b0<|bi (-1,G.toks+1)).length==(tx l).length)=cT):=by simp
 rw[aF L];have e:(⟨((slicePicked (tx l) b0 b0<|bi (-1,G.toks+1)).filterMap ((tx l).cps[·]?)).toArray⟩:Str)=tx l.reverse:=by
  have:∀j:f7,((tx l).cps)[j]?=l[j]?:=λj=>by simp[tx]
  simp[this];show({((aaD b0 b0 (-1) l.length).filterMap<|λj=>l[j]?).toArray}:Str)=_;rw[HS];rfl
 rw[e,yX,i4];exact{J,λZ k=>⟨.str _,H1,I4 _ k,⟨Z,rfl⟩,q⟩}
def HU(c:f7)(l:fy f7):(!(aaM (tx l) (tx [c]) 0 (tx l).length 1).isEmpty)=decide (c∈l):=StrLaws.found_one (tx l) c
def Uv(neg:ir):R2:=λx y H Q=>∃c l,x=.str (tx [c])/\y=.str (tx l)/\Q (.bl<|if neg then !decide (c∈l)else decide (c∈l)) H
theorem FX:mR X (Zu .In) (Uv eh):=by intro W s O H x y v u Q I Y w h;obtain⟨c,l,rfl,rfl,q⟩:=h;exact FD W s O H _ _ v u Q I Y w {_,_,rfl,rfl,by rw[HU];exact q}
theorem yY:mR X (Zu .NotIn) (Uv cT):=by intro W s O H x y v u Q I Y w h;obtain⟨c,l,rfl,rfl,q⟩:=h;exact yO W s O H _ _ v u Q I Y w {_,_,rfl,rfl,by rw[HU];exact q}
theorem FY:mR X (Zu .LtE) (λx y H Q=>∃c d,x=.str (tx [c])/\y=.str (tx [d])/\Q (.bl<|decide<|c<=d) H):=by
 intro W s O H x y v u Q I Y w h;obtain⟨c,d,rfl,rfl,q⟩:=h;obtain⟨t,rfl⟩:=Y;obtain⟨Z,rfl⟩:=w;refine PySem.P.le_str {.bl _,H,I,?_,q}
 by_cases U:c<=d
 .rw[aR U,az];rfl;intro z
  cases z with
  |rel z=>lia
  |cons z=>cases z
 rw[az U,aR];rfl;exact .rel #[0]
theorem rq:∀{L:fy (fy f7)} {br:fy i2},ce (L.map λl=>V.str<|tx l) br->StrsAre br (L.map tx)
 |[],_,r=>by cases r;exact .nil
 |y::L,_,r=>by
  cases r with
  |cons r Y=>
   obtain⟨t,rfl⟩:=r;exact .cons _ _<|rq Y
theorem nT:∀{br:fy i2} {w:fy Str},StrsAre br w->ce (w.map λz=>V.str z) br
 |_,_,.nil=>.nil
 |_,_,.cons y t r=>.cons ⟨t,rfl⟩<|nT r
noncomputable def oO(sep:fy f7):fy (fy f7)->fy f7
 |[]=>[]
 |[x]=>x
 |x::y::r=>x++sep++oO sep (y::r)
theorem j_:∀L:fy (fy f7),oO [] L=L.flatten
 |[]=>rfl
 |[x]=>by simp[oO]
 |x::y::r=>by rw[oO,j_ (y::r)];simp
theorem Mn(sep:fy f7):∀L:fy (fy f7),Txt.join (tx sep) (L.map tx)=tx (oO sep L):=λL=>by
 show Builtin.Str.glued (tx sep) (L.map tx)=_;rw[StrLaws.glued_eq_join]
 induction L with
 |nil=>rfl
 |cons x r U=>
  cases r with
  |nil=>rfl
  |cons y r=>
   show tx x++tx sep++Str.join (tx sep) ((y::r).map tx)=tx (x++sep++oO sep (y::r));rw[U,CU,CU]
def Uw(K:ti):V->fy V->Hp->VK->Prop:=λx vs H Q=>∃(w:fy f7) (a:nt) (L:fy (fy f7)),x=.str (tx w)/\vs=[.ref a]/\rZ K H a (L.map λl=>V.str<|tx l)/\(L.map ZH).sum+L.length*w.length<=16777216/\Q (.str<|tx<|oO w L) H
theorem Mo:LB X "str.join" (Uw X.K):=by
 intro W s O H x D v z Q I Y rv h;obtain⟨w,a,L,rfl,rfl,d,J,q⟩:=h;obtain⟨t,rfl⟩:=Y;obtain⟨u,rfl,R⟩:=rv.one
 cases R
 obtain⟨f,r,p,_⟩:=I.list d;refine join_list p.isList (rq<|by omega) ?_ λZ k=>?_
 .rw[aN,aj];exact J
 rw[Mn];exact{.str _,H,I.tok k,⟨Z,rfl⟩,q}
end
inductive D where
 |non|bl (b:ir)|int (i:hG)|str (l:fy f7)|tnil|tcons (d r:D)
 deriving DecidableEq
structure dy(K:ti)(H H':Hp):Prop where
 t:∀p xs,fY K H p xs->fY K H' p xs
 z:∀b o u,H b=bi (.frz o u)->H' b=bi (.frz o u)
instance {K:ti} {H H':Hp}:CoeFun (dy K H H') (λ_=>∀p xs,fY K H p xs->fY K H' p xs):=⟨dy.t⟩
theorem fY.same{K:ti}(e:qL H H'):dy K H H':={λp D h=>by
 rcases h with(h|⟨o,h⟩)|h
 .exact .inl (.inl<|e _ _ h)
 .exact .inl (.inr {o,e _ _ h})
 exact .inr h,λb o u h=>e _ _ h}
theorem cw{p:nt}(h:H p=b0)(o:HO):qL H (dX H p o):=λb u q=>by rw[bX<|fP q h];exact q
def Ux(l:nt)(H H':Hp):Prop:=∀b o,b≠l->H b=bi o->H' b=bi o
theorem gP{l:nt}{o:HO}:Ux l H (dX H l o):=λb u h q=>by rw[bX h];exact q
theorem fY.but{l:nt}{xs:fy V}(e:Ux l H H')(U:H l=bi (.lst xs)):dy K H H':=by
 have W:∀{p:nt} {o:HO},H p=bi o->(∀B,o≠.lst B)->p≠l:=λ{p o} q hn z=>by subst z;rw[U]at q;cases q;exact hn _ rfl
 refine{λp L h=>?_,λb o u h=>e _ _ (W h<|λ_ z=>by cases z) h};rcases h with(h|⟨o,h⟩)|h
 .exact .inl (.inl<|e _ _ (W h<|λ_ z=>by cases z) h)
 .exact .inl (.inr {o,e _ _ (W h<|λ_ z=>by cases z) h})
 exact .inr h
theorem dy.refl:dy K H H:={λ_ _ h=>h,λ_ _ _ h=>h}
theorem dy.trans{H1 H2:Hp}(a:dy K H H1)(b:dy K H1 H2):dy K H H2:={λp D h=>b p D<|a p D h,λc o u h=>b.z c o u<|a.z c o u h}
def fY.new{p:nt}{xs:fy V}:fY K (dX H p<|.tup xs) p xs:=fY.of cv
theorem Uy{v:V}{pos:Pos}(h:∃u,X.mg x=bi u/\cq v u)(r:Gl X x:=by rfl)(k:(x==("__debug__":Str))=eh:=by decide):PE X (.Name x pos) (tC v):=by obtain⟨u,a,b⟩:=h;exact D1 r a b k
section
variable{o:ow}{to:TE}{t:TA}{id:String}{r:V->fy V->Hp->VK->Prop}
def Y4(r:V->fy V->Hp->VK->Prop)(to:TE)(t:TA):TE:=λσ H Q=>to σ H λx H1=>(∃l L,x=.ref l/\H1 l=bi (.lst L))/\t σ H1 λxs H2=>r x xs H2 Q
def Y5(r:V->fy V->Hp->VK->Prop)(to:TE)(t:TA):TE:=λσ H Q=>to σ H λx H1=>(∃l,x=.str (tx l))/\t σ H1 λxs H2=>r x xs H2 Q
def HW{x:V}(h:∃l L,x=.ref l/\H l=bi (.lst L)):WU K "list" x H:=by obtain⟨l,L,rfl,h⟩:=h;exact .inl {rfl,_,.of h}
def Mp{x:V}(h:∃l,x=.str (tx l)):WU K "str" x H:=by obtain⟨l,rfl⟩:=h;exact rfl
theorem HX{ty:V->Hp->Prop}(Yr:∀x H,ty x H->WU X.K T x H)(pa:PlainAttrs T)(U:Slot T name id)(G_:typeOf (.builtin id)=pure (.type "method_descriptor"))(hm:LB X id r)(R:PE X o to)(J:PA X (e::es) t)
  (O:aaF o name X.env (eval o X.env)=eval o X.env)
  (xi:((Zt f_<|qe (e::es) X.env).all (λx=>!x.1)&&(backToKw f_<|aaA [] X.env).all (λx=>x.1.isSome)
   && decide ((e::es).length+([]:fy Keyword).length+(if ([]:fy Keyword).isEmpty then 0 else 1)<30))=cT)
  (s_:(kh.endLine==f_.line)=cT) (d:qe (e::es) X.env=(eh,eval e X.env)::qe es X.env) (qc:(Zt f_<|qe es X.env).any (·.1)=eh) :
  PE X (.Call (.Attribute o name kh) (e::es) [] f_) (λσ H Q=>to σ H λx H1=>ty x H1/\t σ H1 λxs H2=>r x xs H2 Q):=by intro W s σ H Q I h;refine wpAny_Call_method_late O xi s_ rfl (h_ (R W s σ H _ I h) λv G zq=>?_);obtain⟨x,H1,I1,k,ty,w⟩:=zq;obtain⟨Z,B⟩:=Qz I1 k<|Yr _ _ ty;refine{T,id,pa,U,G_,Z,B,?_};have Y:=J f_ W G σ H1 _ I1 w;rw[d]at Y ⊢;exact Calls.callWith_builtin (by trivial) (Calls.evalArgs_plain (h_ Y λz F zx=>by obtain⟨D,H2,I2,L,f⟩:=zx;exact hm W F σ H2 x D v z Q I2 k L f))
theorem Uz(B:Slot "list" name id)(G_:typeOf (.builtin id)=pure (.type "method_descriptor"))(hm:LB X id r)(R:PE X o to)(J:PA X (e::es) t)
  (O:aaF o name X.env (eval o X.env)=eval o X.env:=by rfl)
  (z:((Zt f_<|qe (e::es) X.env).all (λx=>!x.1)&&(backToKw f_<|aaA [] X.env).all (λx=>x.1.isSome)
   && decide ((e::es).length+([]:fy Keyword).length+(if ([]:fy Keyword).isEmpty then 0 else 1)<30))=cT:=by rfl)
  (w:(kh.endLine==f_.line)=cT:=by rfl) (d:qe (e::es) X.env=(eh,eval e X.env)::qe es X.env:=by rfl) (k:(Zt f_<|qe es X.env).any (·.1)=eh:=by rfl) :
  PE X (.Call (.Attribute o name kh) (e::es) [] f_) (Y4 r to t):=HX (λ_ _ h=>HW h) F.plainAttrs_list B G_ hm R J O z w d k
theorem UA(B:Slot "str" name id)(G_:typeOf (.builtin id)=pure (.type "method_descriptor"))(hm:LB X id r)(R:PE X o to)(J:PA X (e::es) t)
  (O:aaF o name X.env (eval o X.env)=eval o X.env:=by rfl)
  (z:((Zt f_<|qe (e::es) X.env).all (λx=>!x.1)&&(backToKw f_<|aaA [] X.env).all (λx=>x.1.isSome)
   && decide ((e::es).length+([]:fy Keyword).length+(if ([]:fy Keyword).isEmpty then 0 else 1)<30))=cT:=by rfl)
  (w:(kh.endLine==f_.line)=cT:=by rfl) (d:qe (e::es) X.env=(eh,eval e X.env)::qe es X.env:=by rfl) (k:(Zt f_<|qe es X.env).any (·.1)=eh:=by rfl) :
  PE X (.Call (.Attribute o name kh) (e::es) [] f_) (Y5 r to t):=HX (λ_ _ h=>Mp h) F.plainAttrs_str B G_ hm R J O z w d k
end
section
variable{t:TA}
def UB(t:TA):TE:=λσ H Q=>t σ H λxs H1=>xs.length<=sizeLine/\∀p H2,H1 p=b0->H2=dX H1 p (.tup xs)->Q (.ref p) H2
def UC(t:TA):TE:=λσ H Q=>t σ H λxs H1=>xs.length<=sizeLine/\∀p H2,H1 p=b0->H2=dX H1 p (.lst xs)->Q (.ref p) H2
theorem Mq{x1}(h:PA X es t):PE X (.Tuple es x1 pos) (UB t):=by refine λW s O H Q I Z=>wpAny_Tuple_spliced (h_ (h pos W s O H _ I Z) λk G ⟨D,H1,I1,r,z,q⟩=>{by rw[<- r.length];exact z,⟨.ref G.heap.objs.size,dX H1 G.heap.objs.size<|.tup D,I1.laid (λb u e=>ar _ e) (av _) ?_,rfl,q _ _ (I1.hok.fresh<|av _) rfl⟩});exact{z,k,r,⟨_,ay _ rfl,rfl,_,rfl⟩}
theorem Mr(h:PA X es t):PE X (.List es pos) (UC t):=by refine λW s O H Q I Z=>wpAny_List_spliced (h_ (h pos W s O H _ I Z) λk G ⟨D,H1,I1,r,z,q⟩=>{by rw[<- r.length];exact z,⟨.ref G.heap.objs.size,dX H1 G.heap.objs.size<|.lst D,I1.laid (λb u e=>ar _ e) (av _) ?_,rfl,q _ _ (I1.hok.fresh<|av _) rfl⟩});exact{z,k,0,r,ay _ rfl}
theorem LB.imp{id:String}{r B:V->fy V->Hp->VK->Prop}(h:LB X id r)(i:∀x xs H Q,B x xs H Q->r x xs H Q):LB X id B:=λW s O H x xs v z Q I Y rv q=>h W s O H x xs v z Q I Y rv<|i _ _ _ _ q
theorem ju.imp{f:i2}{r B:fy V->Hp->VK->Prop}(h:ju X f r)(i:∀xs H Q,B xs H Q->r xs H Q):ju X f B:=λW s O H xs z Q I rv q=>h W s O H xs z Q I rv<|i _ _ _ q
theorem mR.imp{f:i2->i2->Sem i2}{r B:R2}(h:mR X f r)(i:∀x y H Q,B x y H Q->r x y H Q):mR X f B:=λW s O H x y v u Q I Y w q=>h W s O H x y v u Q I Y w<|i _ _ _ _ q
def HY:V->fy V->Hp->VK->Prop:=λx vs H Q=>∃l xs y,x=.ref l/\vs=[y]/\H l=bi (.lst xs)/\xs.length<sizeLine/\∀H2,H2=dX H l (.lst<|xs++[y])->Q .non H2
theorem CY:LB X "list.append" HY:=LB.imp FK λ_ _ _ _ zv=>by obtain⟨l,D,y,a,b,c,d,q⟩:=zv;exact {l,D,y,a,b,c,d,q _ rfl}
def QL:V->V->V->Hp->(Hp->Prop)->Prop:=λo i v H Q=>∃p xs k j,o=.ref p/\i=.int k/\H p=bi (.lst xs)/\yP xs.length k=bi j/\∀H2,H2=dX H p (.lst<|xs.set j v)->Q H2
theorem FZ:CB X QL:=λW s O H o i v f U u Q I B Z J q=>by obtain⟨p,D,k,j,a,b,c,d,q⟩:=q;exact HH W s O H o i v f U u Q I B Z J {p,D,k,j,a,b,c,d,q _ rfl}
def HZ(K:ti):fy V->Hp->VK->Prop:=λxs H Q=>∃p L,xs=[.ref p]/\rZ K H p L/\∀l H2,H l=b0->H2=dX H l (.tup L)->Q (.ref l) H2
theorem AO:ju X (.type "tuple") (HZ X.K):=ju.imp xr λ_ _ _ zw=>by obtain⟨p,L,a,b,q⟩:=zw;exact {p,L,a,.inl ⟨b,λl U=>q l _ U rfl⟩}
def Mt(K:ti):fy V->Hp->VK->Prop:=λxs H Q=>∃p L,xs=[.ref p]/\(rZ K H p L\/fY K H p L)/\∀l H2,H l=b0->H2=dX H l (.lst L)->Q (.ref l) H2
theorem vE:ju X (.type "list") (Mt X.K):=ju.imp yT λ_ _ _ zx=>by obtain⟨p,L,a,b,q⟩:=zx;exact {p,L,a,b,λl U=>q l _ U rfl}
def UD:R2:=λx y H Q=>∃l b xs B,x=.ref l/\y=.ref b/\H l=bi (.lst xs)/\H b=bi (.lst B)/\xs.length+B.length<=sizeLine/\∀p H2,H p=b0->H2=dX H p (.lst<|xs++B)->Q (.ref p) H2
theorem Mu:mR X (Zs .Add) UD:=mR.imp QB λ_ _ _ _ zy=>by obtain⟨l,b,D,r,Z,B,Y,O,k,q⟩:=zy;exact {l,b,D,r,Z,B,Y,O,k,λp W=>q p _ W rfl}
end
def H9(T:String):Prop:=T="tuple"\/T="bool"\/T="int"\/T="str"
end L2
namespace L2
end L2
namespace L2
open PySem PySem.Spec PyProof.Rows
inductive CS:fy ow->fy Str->Prop where
 |nil:CS [] []
 |cons {x:Str} {j:f7} {p:Pos} {r:fy ow} {zs:fy Str}:CS r zs->CS (.Constant (.str x) j p::r) (x::zs)
def UE(B:fy Str):TA:=λ_ H Q=>Q (B.map V.str) H
theorem Mv{B:fy Str}(h:CS es B):PA X es (UE B):=by
 induction h with
 |nil=>exact vy
 |@cons x j p r B _ ih=>
  exact λY W s O H Q I Z=>k7 (Ho) ih rfl Y W s O H Q I Z
structure QE(X:Cx)(e:ow)(t:TE):Prop where
 h:PE X e t
structure QA(X:Cx)(es:fy ow)(t:TA):Prop where
 h:PA X es t
structure QS(X:Cx)(s:tf)(t:TS):Prop where
 h:PS X s t
structure QG(X:Cx)(e:ow)(t:TG):Prop where
 h:PG X e t
structure QI(X:Cx)(tg it:ow)(t:TI):Prop where
 h:PI X tg it t
structure WW(X:Cx)(es:fy ow)(t:TT):Prop where
 h:HN X es t
structure Yv(X:Cx)(f:i2->i2->Sem i2)(r:R2):Prop where
 h:mR X f r
structure Od(X:Cx)(f:i2)(r:fy V->Hp->VK->Prop):Prop where
 h:ju X f r
section
variable{a b o:ow}{ta tb tc to:TE}{t u:TA}{tA WN:TT}{cN:fy ow}
def vF:Yv X (Zs .LShift) (rI Qh λi j=>.int<|i*2^j.toNat):=⟨HA⟩
variable{st:tf}{sr:fy tf}{ts us:TS}{g:TG}
end
section
variable{g:TG}{tb:TS}{tA:TT}
end
noncomputable def dq(env:Env):fy (Str×ZC)->fy (Str×nt)->fy (Str×nt)
 |[],cs=>cs
 |(n,k)::r,cs=>dq env r (if k==.free then(n,(env.cells.lookup n).getD 0)::cs else cs)
theorem Oe(h:∀x∈scope.names,x.2=.free->∃c,env.cells.lookup x.1=bi c):aab scope env=pure (dq env scope.names []):=by
 unfold aab;have key:∀Y z,(∀x∈Y,x.2=.free->∃c,env.cells.lookup x.1=bi c) ->
   (forIn Y z λx r=>if (x.2==ZL)=cT then(do let a <- Z2 env x.1;pure (aaq ((x.1,a)::r)))else(pure (aaq r):Sem _))=pure (dq env Y z):=by
  intro Y
  induction Y with
  |nil=>intro z _;rfl
  |cons y r U=>
   intro z D;obtain⟨n,k⟩:=y;rw[oY];have t:=λz=>U z λx J=>D x<|aJ _ J
   by_cases O:(k==ZL)=cT
   .obtain⟨c,e⟩:=D (n,k) a9<|qK O;have e2:Z2 env n=pure c:=by unfold Z2;rw[e]
    show((if (k==ZL)=cT then _ else _) >>= _)=pure (dq env r<|if (k==ZL)=cT then _ else _);rw[ax O,ax O,e2];have w:(env.cells.lookup n).getD 0=c:=by rw[show env.cells.lookup n=bi c from e];rfl
    rw[w];exact t _
   show((if (k==ZL)=cT then _ else _) >>= _)=pure (dq env r<|if (k==ZL)=cT then _ else _);rw[aF O,aF O];exact t _
 have:=key scope.names [] h;dsimp only;rw[this];simp
theorem qu:∀(ns:fy (Str×ZC)) (z:fy (Str×nt)),(∀x∈ns,x.2=.free->∃c,env.cells.lookup x.1=bi c)->(∀y∈z,env.cells.lookup y.1=bi y.2)->∀y∈dq env ns z,env.cells.lookup y.1=bi y.2
 |[],z,_,h=>h
 |(n,k)::r,z,hf,h=>by
  refine qu r _ (λx J=>hf x<|aJ _ J) ?_
  by_cases O:(k==ZL)=cT
  .rw[ax O];intro y hy;rcases aS.mp hy with rfl|hy
   .obtain⟨c,e⟩:=hf (n,k) a9<|qK O;rw[show env.cells.lookup n=bi c from e];rfl
   exact h y hy
  rw[aF O];exact h
theorem vG:∀(ns:fy (Str×ZC)) (z:fy (Str×nt)) (y:Str×nt),y∈z->y∈dq env ns z
 |[],_,_,h=>h
 |(n,k)::r,z,y,h=>by
  refine vG r _ y ?_
  split
  .exact aJ _ h
  .exact h
theorem vH:∀(ns:fy (Str×ZC)) (z:fy (Str×nt)) (x:Str),(x,ZL)∈ns->∃c,(x,c)∈dq env ns z
 |[],_,_,h=>by simp at h
 |(n,k)::r,z,x,h=>by
  rcases aS.mp h with e|h
  .obtain⟨R,e2⟩:=Prod.mk.inj e;subst R;subst e2;exact{_,vG r _ (x,_) (by rw[ax<|by rfl];exact a9)}
  exact vH r _ x h
theorem vI:∀{l:fy (Str×β)} {x:Str} {b:β},(x,b)∈l->∃c,l.lookup x=bi c
 |(y,c)::r,x,b,h=>by
  rw[iT]
  cases J:x==y with
  |true=>exact⟨c,rfl⟩
  |false=>
   rcases aS.mp h with e|h
   .simp_all
   exact vI h
theorem uy{env:Env}{g:Str×ZC->ir}:∀{d:fy (Str×ZC)} {x:Str},d.lookup x=bi .free ->
  (d.map λy=>if g y then(y.1,aao)else y).lookup x=bi .cell\/(d.map λy=>if g y then(y.1,aao)else y).lookup x=bi .free
 |[],_,h=>by simp at h
 |(n,k)::r,x,h=>by
  rw[iT]at h;rw[aZ];have R:∀y:Str×ZC,(if g y then(y.1,aao)else y).1=y.1:=λy=>by split<;>rfl
  have e2:∀(y:Str×ZC) l,(y::l).lookup x=if (x==y.1)=cT then bi y.2 else l.lookup x:=λy l=>by
   obtain⟨a,b⟩:=y;rw[iT]
   cases x==a<;>rfl
  rw[e2,R]
  cases J:x==n with
  |true=>
   rw[J]at h
   cases h
   by_cases z:g (n,.free)=cT
   .rw[ax z];exact .inl rfl
   .rw[aF z];exact .inr rfl
  |false=>
   rw[J]at h;exact uy (env:=env) h
noncomputable def vJ(dn:fy (Str×ZC))(sn:fy (Str×ZC))(nm:fy Str)(cap:fy (hJ f7))(N:fy Str):ir:=
 (sn.all λx=>!(x.2==.local)||sn.lookup x.1==bi .local)&&(sn.all λy=>!(y.2==.cell))&&(sn.all λx=>!(x.2==.free)||dn.lookup x.1==bi .cell)&&(cap.length==nm.length) &&
 ((uP cap.length).all λi=>match cap[i]? with
  |some (bi j)=>(match nm[i]?,N[j]? with
   |some x,bi y=>x==y&&dn.lookup x==bi .cell&&sn.lookup x==bi .free
   |_,_=>eh)
  |_=>cT)
structure XB(X:Cx)(scope:ZB)(nm:fy Str)(cap:fy (hJ f7)):Prop where
 clos:aab scope X.env=pure (dq X.env scope.names [])
 cl:∀x c,(dq X.env scope.names []).lookup x=bi c->X.env.cells.lookup x=bi c
 nms:∀x∈scope.names,x.2=.local->scope.names.lookup x.1=bi .local
 cell:∀y∈scope.names,y.2≠.cell
 has:∀x,((relabel scope X.env).names.lookup x=bi .cell\/(relabel scope X.env).names.lookup x=bi .free)->∃c,(dq X.env scope.names []).lookup x=bi c
 cp:∀(i j:f7),cap[i]?=bi (bi j)->∃x,nm[i]?=bi x/\X.N[j]?=bi x/\vD X scope (dq X.env scope.names []) x
 len:cap.length=nm.length
theorem QM{nm:fy Str}(t:∀x,X.env.scope.names.lookup x=bi .cell->∃c,X.env.cells.lookup x=bi c)(B:vJ X.env.scope.names scope.names nm cap X.N=cT):XB X scope nm cap:=by
 simp only[vJ,cJ,bC,Bool.or_eq_true,gr,oG,bj]at B;obtain⟨⟨⟨⟨I,f⟩,Y⟩,L⟩,F⟩:=B;have r:∀x∈scope.names,x.2=.free->∃c,X.env.cells.lookup x.1=bi c:=λx J O=>by
  rcases Y x J with z|z
  .exact absurd O z
  .exact t _ z
 have Z:∀x c,(dq X.env scope.names []).lookup x=bi c->X.env.cells.lookup x=bi c:=λx c h=>qu scope.names [] r (by simp) (x,c)<|jw h;have d:∀x,(x,ZL)∈scope.names->∃c,(dq X.env scope.names []).lookup x=bi c:=λx h=>let ⟨_,q⟩:=vH scope.names [] x h;vI q;have G:(relabel scope X.env).names=scope.names.map λy=>if (y.2==.free&&X.env.scope.kind==.function&&X.env.kindOf y.1==bi .cell)then(y.1,aao)else y:=by rfl
 have fr:∀x,((relabel scope X.env).names.lookup x=bi .cell\/(relabel scope X.env).names.lookup x=bi .free)->(x,ZL)∈scope.names:=λx h=>by
  have V:∃k,(x,k)∈(relabel scope X.env).names/\(k=.cell\/k=.free):=by
   rcases h with h|h
   .exact{_,jw h,.inl rfl}
   .exact{_,jw h,.inr rfl}
  obtain⟨k,hm,O⟩:=V;rw[G]at hm;obtain⟨y,W,e⟩:=aX.mp hm;obtain⟨a,b⟩:=y
  by_cases U:b=.free
  .subst U;have:a=x:=by split at e<;>(cases e;rfl)
   subst this;exact W
  .rw[aF<|by simp[U]]at e
   cases e
   rcases O with rfl|rfl
   .exact absurd rfl (f _ W)
   .exact absurd rfl U
 refine{Oe r,Z,λx J O=>(I x J).resolve_left λz=>z O,f,λx J=>d x<|fr x J,λi j e=>?_,L};have q:=F i<|bN.mpr<|(am.mp e).1;rw[e]at q;dsimp only at q
 cases J:nm[i]? with
 |none=>rw[J]at q;simp at q
 |some x=>
  cases W:X.N[j]? with
  |none=>rw[J,W]at q;simp at q
  |some y=>
   rw[J,W]at q;simp at q;obtain⟨⟨rfl,w⟩,R⟩:=q;refine{x,rfl,rfl,.inr<|.inl w,(by rw[w];decide),?_,?_}
   .obtain⟨c,D⟩:=d x<|jw R;rw[D,Z _ _ D]
   .rw[G];exact uy (env:=X.env) R
def QN{pos:Pos}{nm:fy Str}{g:TG}(V:X.calm=cT)
  (W:X.env.cells=vr m X.env.scope.names []) (k:scope.kind=.function) (R:vJ X.env.scope.names scope.names nm cap X.N=cT)
  (L:QI X tg iter wi) (r:∀cl C w H0 fp,QG (cu X nm scope cl C w H0 fp) tg g) (B:∀cl C w H0 fp,WW (cu X nm scope cl C w H0 fp) kw tc)
  (Y:∀cl C w H0 fp,QE (cu X nm scope cl C w H0 fp) mz te) (d:∀x,Z9 iter X.env x=pure x:=by intro _;rfl) :
  QE X #[3] (sf cap wi g tc te):=by have F:=QM (λx z=>by rw[W];exact iB z) R;exact{D6 V F.clos F.cl k F.nms F.cell F.has F.cp F.len L.h (λC w H0 fp=>(r _ C w H0 fp).h) (λC w H0 fp=>(B _ C w H0 fp).h) (λC w H0 fp=>(Y _ C w H0 fp).h) d}
def Mw(K:ti):fy V->Hp->VK->Prop:=λxs H Q=>∃(p:nt) (L:fy (fy f7)),xs=[.ref p]/\rZ K H p (L.map λl=>V.str<|tx l)/\L.length<64 /\
 ∀B:fy (fy f7),B.Perm L->sortedS (B.map tx)=cT->∀l H2,H l=b0->H2=dX H l (.lst<|B.map λl=>V.str<|tx l)->Q (.ref l) H2
def D8(z:Str):tx z.cps.toList=z:=by cases z;rfl
theorem xu:Od X (.builtin "sorted") (Mw X.K):={by
 intro W s O H D k Q I r h;obtain⟨p,L,rfl,d,h64,q⟩:=h;obtain⟨u,rfl,R⟩:=oN r
 cases R
 obtain⟨f,rv,pl,J⟩:=I.list d;have U:=rv.length;rw[aj]at U;refine sorted_strs pl.isList (rq<|by omega) #[0] λout ss' Z B Y=>?_;obtain⟨w,hat⟩:=sortedAll_at s.heap f out;have G:(ss'.map λz=>z.cps.toList).map tx=ss':=by rw[aN];have:(tx∘λz:Str=>z.cps.toList)=id:=funext D8;rw[this,fO]
 have t:(ss'.map λz=>z.cps.toList).Perm L:=by
  have e:=B.map λz:Str=>z.cps.toList;rw[aN]at e;have:((λz:Str=>z.cps.toList)∘tx)=id:=funext λl=>by simp[tx]
  rw[this,fO]at e;exact e
 have F:ce ((ss'.map λz=>z.cps.toList).map λl=>V.str<|tx l) out.toList:=by have e:=nT Z;rw[<- G,aN]at e;exact e
 refine{.ref<|s.heap.objs.size+1,_,I.laid (λb o e=>sortedAll_old e) (kF _) ?_,rfl,q _ t (by rw[G];exact Y) _ _ (I.hok.fresh<|kF _) rfl};refine{?_,out.toList,w,F,hat};rw[aj,t.length_eq];exact aW (dL h64)<|by decide}
section
variable{w:qd}
theorem xw{it t:nt}{br:Array i2}{x:i2}(st:s.heap.IsTupleIter it t i)(B:s.heap.IsTuple t br)(J:br[i]?=bi x)
  (q:∀g,g.IsTupleIter it t (i+1)->Z6 it s.heap g->Q x { s with heap:=g }):nz (model prog w) A (ZQ<|.ref it) Q E s:=by obtain⟨F,R,e2,O⟩:=id st;obtain⟨z,d,_,r,D⟩:=B;have T:=st.typeIs;refine aa<|bZ T fT<|bF fT T li ?_<|kM _;show nz _ _ (field (.ref it) 0 >>= _) _ _ s;refine aa<|e_ R O (x:=.ref t) rfl (aa<|e_ R O (x:=.int i 0) rfl (aa<|d3 d D ?_));simp[J];refine aa (lY R O (by simp)<|aq {x,rfl,aq<|q _ ?_<|d6 ..});exact{_,cZ _ R<|pj<|jr O _,(Obj.cls_mapFields ..).trans e2,by rw[jr O];simp[w9]}
theorem yZ{it t:nt}{br:Array i2}(I:A.handled=b0)(st:s.heap.IsTupleIter it t i)(B:s.heap.IsTuple t br)(J:br[i]?=b0)
  (q:∀g e,Heap.ExtBut it s.heap g->(∃o,g.get? e=bi o/\o.cls=.type "StopIteration")->E (.ref e) { s with heap:=g }):nz (model prog w) A (ZQ<|.ref it) Q E s:=by obtain⟨F,R,e2,O⟩:=id st;obtain⟨z,d,_,r,D⟩:=B;have T:=st.typeIs;refine aa<|bZ T fT<|bF fT T li ?_<|kM _;show nz _ _ (field (.ref it) 0 >>= _) _ _ s;refine aa<|e_ R O (x:=.ref t) rfl (aa<|e_ R O (x:=.int i 0) rfl (aa<|d3 d D ?_));simp[J];refine aa (iM<|aa<|lY R O (by simp)<|aa<|aa<|bQ (aa<|mM (a:=ZJ) rfl (bQ ?_<|by size_fits))<|by size_fits);refine aa<|re ?_;rw[show A.in1.handled=b0 from I];exact aa<|aq<|wpAny_throw<|q _ _ (((d6 ..).extBut.push _).push _) {_,ay _ rfl,rfl}
end
open AutoSeq1 (wpAny_loadPart')
open AutoSeq1 (wpAny_loadPart')
section
variable{w:qd}
end
section
end
section
variable{g:TG}{H1:Hp}{Q:VK}
end
theorem yb:∀(p:f7) (m:fy f7),risingS (tx [p]) (m.map λc=>tx [c])=cT->(∀c∈m,p<=c)/\m.Pairwise (· <= ·)
 |p,[],_=>{λc h=>by simp at h,.nil}
 |p,c::r,h=>by
  have V:(!ltCps (tx [c]).cps.toList (tx [p]).cps.toList&&risingS (tx [c]) (r.map λc=>tx [c]))=cT:=h;rw[cJ]at V;obtain⟨a,b⟩:=V;obtain⟨I,f⟩:=yb c r b;have w:p<=c:=by
   rw[ltCps_eq]at a;have:=of_decide_eq_false<|gr _▸a;rcases lj c p with z|z
   .exact absurd (List.Lex.rel z) this
   exact z
  refine{λx hx=>?_,bS.mpr ⟨I,f⟩};rcases aS.mp hx with rfl|hx
  .exact w
  exact aW w<|I x hx
theorem AQ:∀(m:fy f7),sortedS ((m.map λc=>[c]).map tx)=cT->m.Pairwise (· <= ·)
 |[],_=>.nil
 |c::r,h=>by have V:=h;rw[aN]at V;obtain⟨a,b⟩:=yb c r V;exact bS.mpr ⟨a,b⟩
theorem eW:Slot "set_iterator" "__next__" "set_iterator.__next__":=.of (owner:="set_iterator") (n:="__next__") (by rfl) rfl (by rfl) rfl (by decide) rfl
def mF:entryFor table "set_iterator.__next__"=bi Builtin.«set_iterator.__next__»:=entryFor_of_tree rfl
def mG(a:i2):argsOk "set_iterator.__next__" ⟨[a],[]⟩:=by kernel_rfl
def AR:entryFor table "set.__iter__"=bi Builtin.«frozenset.__iter__»:=entryFor_alias (id':="frozenset.__iter__") (by rfl) (by rfl) (by decide +kernel) (by rfl)
noncomputable def uU(w:qd):ir:=w.params.followText "set-order"
def D9(w:qd)(n:f7)(t:ZI):Prop:=(uU w=cT\/t.led=cT)/\(n=0\/t.plain=eh)
def F0(t:ZI)(es:Array (hG×i2))(h:hG)(x:i2):(layNew t es h x).2.1.led=t.led/\(t.plain=eh->(layNew t es h x).2.1.plain=eh):=by
 unfold layNew
 split
 .dsimp only;unfold SetTable.orStandIn
  split
  .exact{rfl,λz=>z}
  exact{rfl,λ_=>rfl}
 exact{rfl,λ_=>rfl}
theorem y0{t t':ZI}{d:Array hG}{o:Array f7}(h:t.relaid d n=bi (t',o)):t'.led=t.led/\t'.plain=t.plain:=by
 unfold SetTable.relaid SetTable.laid at h
 cases D:SetTable.layClean (SetTable.sizeAbove n-1) d with
 |none=>rw[D]at h;cases h
 |some z=>
  rw[D]at h;obtain⟨a,_⟩:=Prod.mk.inj<|bf h;subst a;exact⟨rfl,rfl⟩
theorem AS(t:ZI)(es:Array (hG×i2))(n:f7):(aau t es n).2.1.led=t.led/\(t.plain=eh->(aau t es n).2.1.plain=eh):=by
 unfold aau
 split
 .rename_i Z o Y
  obtain⟨a,b⟩:=y0 Y;dsimp only
  split
  .exact{a,b.trans}
  exact{rfl,λ_=>rfl}
 exact{rfl,λ_=>rfl}
section
variable{w:qd}
def AT(prog:Zy)(w:qd)(h:qk)(a:nt)(ks:fy Str):Prop:=
 ∃o es ep t,h.get? a=bi o/\o.ExactSet/\o.data=.set es ep t/\ElemsOf (PySem.strKind prog w) es.toList/\(es.toList.map λe=>strOf e.2).Perm ks/\es.size<Z8/\t.fits es.size=cT/\D9 w es.size t
def AU{l:fy (hG×i2)}(h:ElemsOf (PySem.strKind prog w) l):∀e∈l,∃t,e.2=.str (strOf e.2) t:=λe Y=>by obtain⟨⟨k,O,_⟩,_⟩:=h e Y;obtain⟨t,B⟩:=kY O;exact{t,by rw[B];rfl}
theorem yd{k:Str}{e:hG×i2}{l:fy (hG×i2)}(h:ElemsOf (PySem.strKind prog w) l)(Y:e∈l):(PySem.strKind prog w).is k e.2=cT↔k=strOf e.2:=by
 obtain⟨t,B⟩:=AU h e Y;constructor
 .intro z;obtain⟨u,D⟩:=kY z;rw[D];rfl
 intro z;show aah k e.2=cT;rw[B,z];unfold aah;simp
theorem AT.keep{ks:fy Str}(z:AT prog w h a ks)(k:∀o,h.get? a=bi o->h'.get? a=bi o):AT prog w h' a ks:=let ⟨o,es,ep,t,ho,r⟩:=z;⟨o,es,ep,t,k o ho,r⟩
theorem Mx{ks:fy Str}{F:Tok}{Q:ir->n4->Prop}(z:AT prog w s.heap a ks)(YO:ks.length+1<Z8)
  (q:∀b g,Z6 a s.heap g->AT prog w g a (if x∈ks then ks else ks++[x])->Q b { s with heap:=g }):nz (model prog w) A (setAddHashed a (.str x F)<|(PySem.strKind prog w).hash x) Q E s:=by
 obtain⟨o,G,ep,t,I,yK,k,hel,W,U,d,Hh⟩:=z;have da:G.size=ks.length:=by have:=W.length_eq;simpa using this
 have hkey:(PySem.strKind prog w).is x (.str x F)=cT:=by show aah x (.str x F)=cT;unfold aah;simp
 have hsc:(aak x F).scannable=cT:=rfl;refine cD<|aa<|gs I k d ?_;dsimp only;rw[byScan_of hsc U hel];refine aa<|aa<|iM<|aa<|wpAny_setScan_of hkey I k d hel ?_
 cases V:List.findIdx? (λe=>(PySem.strKind prog w).is x e.2) G.toList with
 |some j=>
  obtain⟨f,hpj,_⟩:=List.findIdx?_eq_some_iff_getElem.mp V;refine aq<|aq ?_;have O:=q eh s.heap (Heap.SameBut.refl a s.heap) (by rw[ax<|W.mem_iff.mp<|aX.mpr {G.toList[j],dS f,((yd hel<|dS f).mp hpj).symm}];exact⟨o,G,ep,t,I,yK,k,hel,W,U,d,Hh⟩);exact O
 |none=>
  have hin:¬ x∈ks:=λJ=>by
   obtain⟨e,Y,hxe⟩:=aX.mp<|W.mem_iff.mpr J;have y:=mC.mp V e Y;rw[(yd hel Y).mpr hxe.symm]at y
   cases y
  have q':=λb g Z B=>q b g Z (by rw[aF hin];exact B);have lp:=layNew_perm t G ((PySem.strKind prog w).hash x)<|.str x F;have lf:=layNew_fits t G ((PySem.strKind prog w).hash x)<|.str x F;have lm:=F0 t G ((PySem.strKind prog w).hash x)<|.str x F;generalize layNew t G ((PySem.strKind prog w).hash x) (.str x F)=L at lp lf lm ⊢;obtain⟨es1,t1,wd,gv⟩:=L;rw[Array.toList_push]at lp;have el1:=(hel.push hkey hsc).perm lp;have sz1:es1.size=G.size+1:=by have:=lp.length_eq;simpa using this
  have b1:es1.size<Z8:=by lia
  have p1:(es1.toList.map λe=>strOf e.2).Perm (ks++[x]):=by have y:=lp.map λe:hG×i2=>strOf e.2;rw[bT]at y;exact y.trans<|W.append_right _
  have gw:∀b {s₁:n4} {Q':Unit->n4->Prop},Q' () s₁->nz (model prog w) A (match b with|true=>rule "set.scan.the-table-gave-way" | eh=>pure ()) Q' E s₁:=λb _ _ y=>by cases b<;>first|exact aq y|exact iM y
  refine aa<|gw _ ?_;have jC:∀t2:ZI,t2.fits es1.size=cT->t2.led=t.led->t2.plain=eh->nz (model prog w) A (do
    storeSet a es1 t2
    if (!wd&&t2.tooFull)=cT then do
      (match (aau t2 es1<|aax es1.size).2.2 with|true=>rule "set.scan.the-table-gave-way" | eh=>pure ())
      storeSet a (aau t2 es1<|aax es1.size).1 (aau t2 es1<|aax es1.size).2.1
      pure (bi cT)
     else pure (bi cT)) (λr D=>nz (model prog w) A (match r with|some added=>pure added|none=>setAddHashedIn a (.str x F) ((PySem.strKind prog w).hash x) 99999) Q E D) E s:=by
   intro t2 f2 l2 n2;have to2:D9 w es1.size t2:={by rw[l2];exact Hh.1,.inr n2}
   refine aa<|wpAny_storeSet_of I k ?_<|fits_of_scanBound b1;have g1:(s.heap.update a<|aaC es1 t2).get? a=bi { o with data:=.set es1 (ep+1) t2 }:=by have y:=cZ (aaC es1 t2) I (by rw[putSet_of es1 t2 k];rfl);rw[putSet_of es1 t2 k]at y;exact y
   have sb:=d6 s.heap a<|aaC es1 t2
   split
   .have rp:=relayAll_perm t2 es1<|aax es1.size;have rf:=relayAll_fits t2 es1<|aax es1.size;have rm:=AS t2 es1<|aax es1.size;generalize aau t2 es1 (aax es1.size)=R at rp rf rm ⊢;obtain⟨es2,t3,gv2⟩:=R;dsimp only at rp rf rm ⊢;have sz2:es2.size=es1.size:=by have:=rp.length_eq;simpa using this
    refine aa<|gw _<|aa<|wpAny_storeSet_of g1 rfl (aq<|aq ?_) (fits_of_scanBound #[0]);have g2:((s.heap.update a<|aaC es1 t2).update a<|aaC es2 t3).get? a=bi { o with data:=.set es2 (ep+1+1) t3 }:=by exact(cZ (aaC es2 t3) g1 rfl)
    refine q' cT _ (sb.trans<|d6 _ a _) {_,es2,_,t3,g2,yK,rfl,el1.perm rp,?_,by lia,rf,?_}
    .grind
    exact{by rw[rm.1,l2];exact Hh.1,.inr<|rm.2 n2}
   exact aq<|aq<|q' cT _ sb ⟨_,es1,_,t2,g1,yK,rfl,el1,p1,b1,f2,to2⟩
  by_cases lR:t1.plain=cT
  .rw[ax lR];exact jC { t1 with plain:=eh } (SetTable.fits_plain_off lf) lm.1 rfl
  rw[aF lR];exact jC t1 lf lm.1 (by simpa using lR)
end
section
variable{w:qd}{R:Result->n4->Prop}{I:nt}{wr:fy nt}{P:f7->i2->Prop}{St:f7->qk->Prop}
def Of(prog:Zy)(w:qd)(val:f7->Str)(h:qk)(a:nt)(i:f7):Prop:=∃ks,AT prog w h a ks/\ks.Nodup/\(∀x,x∈ks↔∃j,j<i/\val j=x)/\ks.length<=i
theorem H_(W:Walks prog w A.in1 I fp wr n P St)(S:nt)(YB:S∉fp)(val:f7->Str)(Cg:∀i v,P i v->∃t,v=.str (val i) t)(U:n+1<Z8) :
  ∀(k i:f7) (s:n4),n-i=k->i<=n->St i s.heap->Of prog w val s.heap S i ->
   (∀g F,Of prog w val g S n->(∀b o,b≠S->b∉wr->s.heap.get? b=bi o->g.get? b=bi o)->R (.ok<|.ret .none) { s with heap:=g,toks:=F }) ->
   aaa (model prog w) A (.builtin "set.update.loop" ⟨[.ref S,.ref I],[]⟩) R s:=by
 have hSw:S∉wr:=λh=>YB<|W.sub _ h;intro k
 induction k with
 |zero=>
  intro i s O L V D hR;obtain rfl:i=n:=by lia
  refine dM i5 ?_;refine aa<|W.done s _ _ V λg F d=>aq<|hR g F ?_ λb o _ U e=>d b o U e;obtain⟨B,z,r⟩:=D;exact{B,z.keep λo e=>d S o hSw e,r}
 |succ k f=>
  intro i s O L V D hR;have G:i<n:=by lia
  refine dM i5 ?_;refine aa<|W.item i s _ _ G V λv g F hP J d=>?_;obtain⟨t,rfl⟩:=Cg i v hP;obtain⟨B,z,nd,mem,len⟩:=D;have z':AT prog w g S B:=z.keep λo e=>d S o hSw e;refine aa<|cD ?_;refine cD (aa<|(PySem.strKind prog w).pyHash (k:=val i) (show aah (val i) (.str (val i) t)=cT by unfold aah;simp) ?_);refine Mx (s:={ s with heap:=g,toks:=F+1 }) z' #[0] λ_ Y sb z2=>?_;refine aq {ib PyProof.Rows.F.plain_set_update_loop _,f (i+1) _ #[0] G (W.frame _ _ _ J λb U o e=>?_) ?_ λg3 tk3 hM3 kp3=>?_}
  .rw[sb.2 b (λh:b=S=>YB (by rw[<- h];exact U))];exact e
  .refine{_,z2,?_,λx=>?_,?_}
   .grind
   .grind
   .grind
  .exact hR g3 tk3 hM3 λb o U Z e=>kp3 b o U Z<|(sb.2 b U).trans<|d b o Z e
end
section
variable{w:qd}
abbrev dY(w:qd):Obj:={ cls:=.type "set",dict:=b0,data:=.set #[] 0 (.fresh 0 0<|!uU w) }
def AV(a:i2)(h:Q₁ (.ref s.heap.objs.size) { s with heap:=s.heap.push (dY w) }) :
  aaa (model prog w) A (.call (.builtin "set.__new__") ⟨[.type "set",a],[]⟩) (wants Q₁ E) s:=by
 refine oZ<|aa<|mM (PySem.F.newCall_set_1 a)<|aq {ib PySem.F.plain_set_new _,dM PySem.F.entry_set_new ?_};have V:=sub_set_self
 wp_walk
 exact nF<|aq<|aa<|wpAny_alloc<|aq<|aq h
set_option maxHeartbeats 8000000 in
theorem mS{T:String}{W8:Obj}{fp:nt->fy nt}{n:f7}{P:f7->i2->Prop}{St:nt->f7->qk->Prop}{val:f7->Str}{Q:i2->n4->Prop}(J:aad { s with heap:=s.heap.push (dY w) } v T)
  (n1:isSubtype (.type T) (.type "set")=pure eh) (L:isSubtype (.type T) (.type "frozenset")=pure eh) (n3:(ZV T==ZV "dict")=eh)
  (f:∀(A:xh) (E:i2->n4->Prop) (Q:i2->n4->Prop),Q (.ref<|s.heap.objs.size+1) { s with heap:=(s.heap.push<|dY w).push W8 }->nz (model prog w) A (ZX v) Q E { s with heap:=s.heap.push (dY w) })
  (W:∀(A:xh) (it:nt),A.handled=b0->it=s.heap.objs.size+1->Walks prog w A it (fp it) [it] n P (St it)) (Wp:s.heap.objs.size∉fp (s.heap.objs.size+1)) (st:St (s.heap.objs.size+1) 0 ((s.heap.push<|dY w).push W8)) (Cg:∀i v,P i v->∃t,v=.str (val i) t)
  (I:A.handled=b0) (U:n+1<Z8)
  (q:∀g F,Of prog w val g s.heap.objs.size n->(∀b o,s.heap.get? b=bi o->g.get? b=bi o)->Q (.ref s.heap.objs.size) { s with heap:=g,toks:=F }) :
  nz (model prog w) A (call (.type "set") [v]) Q E s:=by
 obtain⟨c,G,hmro⟩:=PySem.F.called_set.mro;have hmade:=PySem.F.called_set.made;have rS:=PySem.F.called_set.sub;refine oH<|oZ ?_;show nz _ _ (callAny (.type "set") _) _ _ _;refine aq {Code.quiet_builtin _ (by decide +kernel),dM PySem.F.entry_type_call ?_};rw[Around.under_plain (weight_type_call_type "set" [v] []) rfl];have Z:=PySem.F.called_set.notType;have B:=PySem.F.called_set.canCreate;have LI:=PySem.F.typeCall_set_1 v
 repeat(any_goals (first|assumption|wp_step))
 refine g7 (AV v (E:=E) (Q₁:=λobj z=>obj=.ref s.heap.objs.size/\z={ s with heap:=s.heap.push (dY w) }) ⟨rfl,rfl⟩) λr z V=>?_
 cases r with
 |error e=>exact V
 |ok O=>
  cases O with
  |ret obj=>
   obtain⟨rfl,rfl⟩:=V;have gS:(s.heap.push<|dY w).get? s.heap.objs.size=bi (dY w):=ay _ rfl;have tS:aad { s with heap:=s.heap.push (dY w) } (.ref s.heap.objs.size) "set":=⟨_,gS,rfl⟩
   have hli:=PySem.F.called_set.init.lookup;have hbi:=PySem.F.called_set.init.bind (.ref s.heap.objs.size)
   repeat(any_goals (first|assumption|wp_step))
   refine g7 (kG (R:=wants (λr k=>r=.none/\∃g F,k={ s with heap:=g,toks:=F }/\Of prog w val g s.heap.objs.size n/\(∀b o,s.heap.get? b=bi o->g.get? b=bi o)) E) PySem.F.called_set.init.plain PySem.F.entry_set_init<|check_set_init_1 tS ?_) λr₂ k hr₂=>?_
   .unfold Builtin.«set.__init__» noKeywords Builtin.Frozenset.updateFrom;generalize hPI:ZX=PI
    wp_walk
    subst hPI;refine f _ _ _<|aa<|wpAny_runValue ?_;have g0:((s.heap.push<|dY w).push W8).get? s.heap.objs.size=bi (dY w):=ar _ gS;have m0:Of prog w val ((s.heap.push<|dY w).push W8) s.heap.objs.size 0:={[],{_,#[],0,_,g0,⟨rfl,rfl,rfl⟩,rfl,λe Y=>by simp at Y,by simp,by unfold Z8;decide,rfl,?_},gG,λx=>by simp,av _}
    .refine H_ (W _ _ (by simpa using I) rfl) s.heap.objs.size Wp val Cg U (n-0) 0 _ rfl (cG _) st m0 λg F D d=>?_;refine aq<|aq {rfl,g,F,rfl,D,λb o e=>d b o (aM<|aD e) (λhbm=>?_)<|ar _<|ar _ e};rw[a_]at hbm;exact absurd (aD e) (by rw[hbm];exact g8.mpr<|kF _)
    .refine{?_,.inl rfl};show uU w=cT\/(!uU w)=cT
     cases uU w<;>simp
   .cases r₂ with
    |error e=>exact hr₂
    |ok fl₂=>
     cases fl₂ with
     |ret r=>
      obtain⟨rfl,g,F,rfl,D,d⟩:=hr₂
      repeat(any_goals (first|assumption|wp_step))
      exact q g F D d
     |_=>exact hr₂.elim
  |_=>exact V.elim
end
theorem rB:∀{l:fy α} {i:f7} (h:i<l.length),(l[i]::l.eraseIdx i).Perm l
 |x::r,0,_=>jQ _
 |x::r,i+1,h=>(aaG x (r[i]'(by simp_all))<|r.eraseIdx i).trans ((rB<|by simp_all).cons x)
section
def xy{Za:Source}{Q:f7->n4->Prop}(L:n≠0)(h:∀i,i<n->∀d,Q i { s with drawn:=d }):nz M A (choose Za n) Q E s:=λ_ _ _=>{L,h _ (jt _<|Nat.pos_of_ne_zero L) _}
theorem AW:∀(n:f7) (xs:fy α) (s:n4) (Q:fy α->n4->Prop),xs.length=n->(∀W,W.Perm xs->∀d,Q W { s with drawn:=d })->nz M A (drawOrder n xs) Q E s
 |0,xs,s,Q,hl,h=>by have e:=gN hl;subst e;exact aq (h [] (jQ _) s.drawn)
 |n+1,[],s,Q,hl,h=>by simp at hl
 |n+1,x::r,s,Q,hl,h=>by refine aa (xy (by simp) λi L d=>?_);rw[ak L];refine aa (AW n ((x::r).eraseIdx i) _ _ (by rw[List.length_eraseIdx,ax L];lia) λW I U=>aq<|h _ ?_ U);exact(List.Perm.cons _ I).trans (rB L)
theorem D_(next:f7->f7):∀(NZ k:f7) (DY:fy α) (out:Array α),DY.length=NZ->(pickOrder.go next NZ k DY out).toList.Perm (out.toList++DY)
 |0,k,DY,out,h=>by have e:=gN h;subst e;unfold pickOrder.go;simp
 |NZ+1,k,DY,out,h=>by
  have G:next k%DY.length<DY.length:=jt _ #[0]
  unfold pickOrder.go;rw[ak G];refine(D_ next NZ (k+1) _ _ (by rw[List.length_eraseIdx,ax G];lia)).trans ?_;rw[Array.toList_push,aG];exact pq _<|rB G
def F1(next:f7->f7)(xs:Array α):(aav next xs).toList.Perm xs.toList:=by
 unfold aav;have:=D_ next xs.size 0 xs.toList #[] (by simp)
 simpa using this
end
noncomputable abbrev qV(f:i2)(i:hG)(S:nt)(n ep:f7):Obj:={ cls:=.type "set_iterator",dict:=b0,data:=.fields #[f,w9 i,.ref S,w9 n,w9 ep],slots:=#[] }
section
variable{w:qd}
theorem vK{Q:Fin->n4->Prop}(I:A.handled=b0)(q:∀g e,(∀b o,s.heap.get? b=bi o->g.get? b=bi o)->(∃o,g.get? e=bi o/\o.cls=.type "StopIteration")->E (.ref e) { s with heap:=g }) :
  nz (model prog w) A (do let x <- newExc (.type "StopIteration") [];raiseNew x) Q E s:=by refine aa (aa<|bQ (aa<|mM (a:=ZJ) rfl (bQ ?_<|by size_fits))<|by size_fits);refine aa<|re ?_;rw[I];exact aa<|aq<|wpAny_throw<|q _ _ (λb o e=>ar _<|ar _ e) {_,ay _ rfl,rfl}
structure jV(w:qd)(h:qk)(S:nt)(es:Array (hG×i2))(ep:f7)(t:ZI):Prop where
 ex:∃o,h.get? S=bi o/\o.ExactSet/\o.data=.set es ep t
 fits:t.fits es.size=cT
def jV.keep{es:Array (hG×i2)}{t:ZI}(z:jV w h S es ep t)(k:∀o,h.get? S=bi o->h'.get? S=bi o):jV w h' S es ep t:={let ⟨o,ho,r⟩:=z.ex;⟨o,k o ho,r⟩,z.fits}
theorem F2{it p:nt}{k:f7}{es:Array (hG×i2)}{t:ZI}{pv:Array i2}{r:f7}{x:hG×i2}{Q:hJ i2->n4->Prop}(z:s.heap.get? it=bi (qV (.ref p) i S n ep))(d:jV w s.heap S es ep t)(L:es.size=n)
  (W:∃o,s.heap.get? p=bi o/\o.cls=.type "tuple"/\o.data=.seq pv r) (O:pv[i]?=bi (w9 k)) (J:es[k]?=bi x)
  (q:∀g,g.get? it=bi (qV (.ref p) ((i:hG)+1) S n ep)->Z6 it s.heap g->Q (bi x.2) { s with heap:=g }):nz (model prog w) A (ZD<|.ref it) Q E s:=by
 obtain⟨o,Z,G,I⟩:=d.ex;obtain⟨f,V,F,G8⟩:=W;have T:aad s (.ref it) "set_iterator":=⟨_,z,rfl⟩
 refine aa<|jb<|bZ T eW<|bF eW T mF ?_<|mG _;show nz _ _ (fieldsOf (.ref it) >>= _) _ _ s;refine aa<|jR z rfl (aa<|gD Z I d.fits ?_);rw[aF<|by simp_all];refine aa<|d3 V G8 ?_;simp[O];refine aa<|aa<|gs Z I d.fits ?_;dsimp only;rw[aF (by simp),aO,J];refine aq (aa<|cP z (by simp) λg R e2=>aq {_,rfl,aq<|q g (by trivial) e2})
theorem xz{it p:nt}{es:Array (hG×i2)}{t:ZI}{pv:Array i2}{pn:f7}{Q:hJ i2->n4->Prop}(I:A.handled=b0)(z:s.heap.get? it=bi (qV (.ref p) i S n ep))(d:jV w s.heap S es ep t)(L:es.size=n)
  (W:∃o,s.heap.get? p=bi o/\o.cls=.type "tuple"/\o.data=.seq pv pn) (O:pv[i]?=b0)
  (q:∀g,(∀b o,b≠it->s.heap.get? b=bi o->g.get? b=bi o)->Q b0 { s with heap:=g }):nz (model prog w) A (ZD<|.ref it) Q E s:=by
 obtain⟨o,Z,G,k⟩:=d.ex;obtain⟨op,V,F,G8⟩:=W;have T:aad s (.ref it) "set_iterator":=⟨_,z,rfl⟩
 refine aa<|jb<|bZ T eW<|bF eW T mF ?_<|mG _;show nz _ _ (fieldsOf (.ref it) >>= _) _ _ s;refine aa<|jR z rfl (aa<|gD Z k d.fits ?_);rw[aF<|by simp_all];refine aa<|d3 V G8 ?_;simp[O];refine aa (cP z (by simp) λg R e2=>aa<|cP R (by simp) λY f r=>vK (s:={ s with heap:=Y }) I λD e B J=>?_);obtain⟨ox,hox,hcx⟩:=J;exact aa<|eQ ⟨ox,hox,hcx⟩ lZ<|aq<|q D λb o U e=>B b o<|r.extBut b o U<|e2.extBut b o U e
theorem Ia{it:nt}{sl Xa:f7}{es:Array (hG×i2)}{t:ZI}{x:i2}{Q:hJ i2->n4->Prop}(z:s.heap.get? it=bi (qV (w9 sl) i S n ep))(d:jV w s.heap S es ep t)(L:es.size=n)
  (J:∀(Q':hJ (i2×f7)->n4->Prop) (E':i2->n4->Prop),Q' (bi (x,Xa)) s->nz (model prog w) A.in1 (Z7 S sl i ep) Q' E' s)
  (q:∀g,g.get? it=bi (qV (w9 Xa) ((i:hG)+1) S n ep)->Z6 it s.heap g->Q (bi x) { s with heap:=g }):nz (model prog w) A (ZD<|.ref it) Q E s:=by
 obtain⟨o,Z,G,k⟩:=d.ex;have T:aad s (.ref it) "set_iterator":=⟨_,z,rfl⟩
 refine aa<|jb<|bZ T eW<|bF eW T mF ?_<|mG _;show nz _ _ (fieldsOf (.ref it) >>= _) _ _ s;refine aa<|jR z rfl (aa<|gD Z k d.fits ?_);rw[aF<|by simp_all];refine aa (J _ _<|aa<|cP z (by simp) λg R e2=>aa<|cP R (by simp) λI O r=>aq {_,rfl,aq<|q I (by trivial)<|e2.trans r})
theorem y4{it:nt}{sl:f7}{es:Array (hG×i2)}{t:ZI}{Q:hJ i2->n4->Prop}(I:A.handled=b0)(z:s.heap.get? it=bi (qV (w9 sl) i S n ep))(d:jV w s.heap S es ep t)(L:es.size=n)
  (J:∀(Q':hJ (i2×f7)->n4->Prop) (E':i2->n4->Prop),Q' b0 s->nz (model prog w) A.in1 (Z7 S sl i ep) Q' E' s)
  (q:∀g,(∀b o,b≠it->s.heap.get? b=bi o->g.get? b=bi o)->Q b0 { s with heap:=g }):nz (model prog w) A (ZD<|.ref it) Q E s:=by
 obtain⟨o,Z,G,k⟩:=d.ex;have T:aad s (.ref it) "set_iterator":=⟨_,z,rfl⟩
 refine aa<|jb<|bZ T eW<|bF eW T mF ?_<|mG _;show nz _ _ (fieldsOf (.ref it) >>= _) _ _ s;refine aa<|jR z rfl (aa<|gD Z k d.fits ?_);rw[aF<|by simp_all];refine aa (J _ _<|aa<|cP z (by simp) λg R e2=>vK I λD e Y J=>?_);obtain⟨ox,r,f⟩:=J;exact aa<|eQ ⟨ox,r,f⟩ lZ<|aq<|q D λb o U e=>Y b o<|e2.extBut b o U e
end
theorem uz:Slot "set_iterator" "__iter__" "set_iterator.__iter__":=.of (owner:="set_iterator") (n:="__iter__") rfl rfl rfl rfl (by decide) (by rfl)
def AX(a:i2):argsOk "set_iterator.__iter__" ⟨[a],[]⟩:=by kernel_rfl
def AY:entryFor table "set_iterator.__iter__"=bi Builtin.«dict_keyiterator.__iter__»:=entryFor_alias (id':="dict_keyiterator.__iter__") (by rfl) (by rfl) (by decide +kernel) (by rfl)
section
variable{w:qd}
theorem AZ{it:nt}{f:i2}{i:hG}(z:s.heap.get? it=bi (qV f i S n ep))(q:Q (.ref it) s):nz (model prog w) A (ZX<|.ref it) Q E s:=by
 have T:aad s (.ref it) "set_iterator":=⟨_,z,rfl⟩
 exact mO T uz<|bF uz T AY (aq {_,rfl,"set_iterator",_,T,eW.lookup,q})<|AX _
theorem CZ(I:A.handled=b0){it p:nt}{ep:f7}{es:Array (hG×i2)}{t:ZI}{pl:fy f7}(f:pl.Perm (uP n))(J:es.size=n)(Z:it≠S)(B:it≠p) :
  Walks prog w A it [it,p,S] [it] n (λi v=>∃k x,pl[i]?=bi k/\es[k]?=bi x/\v=x.2) (λi h=>i<=n/\h.get? it=bi (qV (.ref p) i S n ep)/\(∃o,h.get? p=bi o/\o.cls=.type "tuple"/\∃e,o.data=.seq (pl.map λk:f7=>w9 k).toArray e)/\jV w h S es ep t) where
 sub:=λb U=>by simp at U;simp[U]
 frame:=λi h G V k=>{V.1,k it (by simp) _ V.2.1,(let ⟨o,R,r⟩:=V.2.2.1;⟨o,k p (by simp) o R,r⟩),V.2.2.2.keep λo R=>k S (by simp) o R}
 item:=λi s Q E L V q=>by
  obtain⟨_,pG,⟨op,hop,F,e,G8⟩,d⟩:=V;have Y:pl.length=n:=by have:=f.length_eq;simpa using this
  have O:pl[i]?=bi pl[i]:=ak (by omega);have Yl:pl[i]<es.size:=by rw[J];exact bN.mp (f.mem_iff.mp<|dS<|by omega)
  refine F2 pG d J ⟨op,hop,F,G8⟩ (k:=pl[i]) (x:=es[pl[i]]) (by simp[O]) (by simp) λg a b=>q _ g s.toks {pl[i],es[pl[i]],O,by simp,rfl} {L,?_,{op,b.extBut p op (Zw B) hop,F,e,G8},d.keep λo R=>b.extBut S o (Zw Z) R} λc o D R=>b.extBut c o (λz=>D<|by simp[z]) R;rw[a];rfl
 done:=λs Q E V q=>by
  obtain⟨_,pG,⟨op,hop,F,e,G8⟩,d⟩:=V;have Y:pl.length=n:=by have:=f.length_eq;simpa using this
  exact xz I pG d J ⟨op,hop,F,G8⟩ (by simp[Y]) λg W=>q g s.toks λc o D R=>W c o (λz=>D<|by simp[z]) R
 self:=λi s Q E V q=>AZ V.2.1 q
theorem F3(I:A.handled=b0){it:nt}{ep:f7}{es:Array (hG×i2)}{t:ZI}{vs:fy i2}{sl:f7->f7}(r:vs.length=n)(B:es.size=n)(Z:it≠S)
  (J:∀(s:n4) (i:f7),jV w s.heap S es ep t->i<=n->∀(A:xh) (Q':hJ (i2×f7)->n4->Prop) (E':i2->n4->Prop),Q' ((vs[i]?).map λv=>(v,sl<|i+1)) s->nz (model prog w) A (Z7 S (sl i) i ep) Q' E' s) :
  Walks prog w A it [it,S] [it] n (λi v=>vs[i]?=bi v) (λi h=>i<=n/\h.get? it=bi (qV (w9<|sl i) i S n ep)/\jV w h S es ep t) where
 sub:=λb U=>by simp at U;simp[U]
 frame:=λi h G V k=>{V.1,k it (by simp) _ V.2.1,V.2.2.keep λo R=>k S (by simp) o R}
 item:=λi s Q E L V q=>by obtain⟨_,f,d⟩:=V;have O:vs[i]?=bi vs[i]:=ak (by omega);refine Ia f d B (λQ' E' y=>J s i d (dL L) _ Q' E' (by rw[O];exact y)) λg a b=>q _ g s.toks O {L,?_,d.keep λo R=>b.extBut S o (Zw Z) R} λc o D R=>b.extBut c o (λz=>D<|by simp[z]) R;rw[a];rfl
 done:=λs Q E V q=>by obtain⟨_,f,d⟩:=V;have O:vs[n]?=b0:=b8 #[0];exact y4 I f d B (λQ' E' y=>J s n d (av _) _ Q' E' (by rw[O];exact y)) λg Y=>q g s.toks λc o D R=>Y c o (λz=>D<|by simp[z]) R
 self:=λi s Q E V q=>AZ V.2.1 q
end
section
variable{w:qd}
def qv{Q:ir->n4->Prop}(q:Q (uU w) s):nz (model prog w) A setsByText Q E s:=aa<|nF<|aq q
theorem F4{es:Array (hG×i2)}{t:ZI}{Q:hJ (i2×f7)->n4->Prop}(U:uU w=cT)(d:jV w s.heap S es ep t)
  (q:Q ((((aav (w.params.setOrder S ep) es).toList.map (·.2))[i]?).map λv=>(v,0)) s):nz (model prog w) A (Z7 S 0 i ep) Q E s:=by
 obtain⟨o,R,G,k⟩:=d.ex;refine aa<|gs R k d.fits<|aa<|qv ?_;rw[U,ax rfl,aF<|by simp];refine aa<|aa<|gs R k d.fits<|aa<|qv ?_;rw[U];refine aa<|nF<|aq<|aq ?_;have e:((aav (w.params.setOrder S ep) es)[i]?).map (λe=>(e.2,0))=(((aav (w.params.setOrder S ep) es).toList.map (·.2))[i]?).map λv=>(v,0):=by rw[ai,fX,Option.map_map];rfl
 show Q (((aav (w.params.setOrder S ep) es)[i]?).map λe=>(e.2,0)) s;rw[e];exact q
def yf(p:f7):SetTable.below #[p] 0=0/\SetTable.below #[p] (p+1)=1:=by
 unfold SetTable.below;constructor
 .rfl
 simp[SetTable.below.go]
theorem Ib{es:Array (hG×i2)}{t:ZI}{Q:hJ (i2×f7)->n4->Prop}(U:uU w=eh)(d:jV w s.heap S es ep t)(Tg:t.led=cT)(Z:es.size<=1)(L:i<=es.size)
  (q:Q (((es.toList.map (·.2))[i]?).map λv=>(v,if i+1=0 then 0 else t.place.getD 0 0+1)) s):nz (model prog w) A (Z7 S (if i=0 then 0 else t.place.getD 0 0+1) i ep) Q E s:=by
 obtain⟨o,I,G,k⟩:=d.ex;have O:=d.fits;have V:t.place.size=es.size:=by unfold SetTable.fits at O;simp only[cJ,oG]at O;exact O.1
 unfold Z7;refine aa<|gs I k d.fits ?_;dsimp only;refine aa<|qv ?_;rw[U,aF dN];show nz _ _ (if (!t.plain&&decide (es.size>1))=cT then _ else _) _ _ _;rw[aF (by simp;lia)];show nz _ _ ((if (!t.led&&!es.isEmpty)=cT then _ else pure ()) >>= _) _ _ _;rw[aF<|by simp[Tg]];refine aa<|aq<|aq ?_
 by_cases J:es.size=0
 .have R:es=#[]:=kj J;subst R;simpa using q
 .have z:es.size=1:=by lia
  obtain⟨x,rfl⟩:∃x,es=#[x]:=by obtain⟨l⟩:=es;obtain⟨x,e⟩:=jS.mp z;exact{x,eJ Array.mk e}
  obtain⟨p,W⟩:∃p,t.place=#[p]:=by generalize t.place=pl at V;obtain⟨l⟩:=pl;obtain⟨x,e⟩:=jS.mp V;exact{x,eJ Array.mk e}
  rw[W]at q ⊢;rcases(show i=0\/i=1 by simp at L;lia)with rfl|rfl
  .simp[yf]at q ⊢;exact q
  .simp[yf]at q ⊢;exact q
end
theorem y6[Inhabited β](f:f7->β)(xs:fy α)(g:α->β)(n:f7)(L:xs.length=n)(O:∀i x,xs[i]?=bi x->f i=g x):(uP n).map f=xs.map g:=by
 apply gq;intro i;rw[ai,ai]
 by_cases h:i<n
 .rw[bv h,ak<|by omega];exact eJ bi (O i _<|ak<|by omega)
 .rw[b8 (by simp;omega),b8<|by omega];rfl
section
variable{w:qd}
theorem Ic{es:Array (hG×i2)}{t:ZI}(f:jV w s.heap S es ep t)(Hh:D9 w es.size t)(hsz:es.size<=sizeLine)
  (q:∀(g:qk) (d:Drawn) (it:nt) (fp:fy nt) (P:f7->i2->Prop) (St:f7->qk->Prop),(∀A:xh,A.handled=b0->Walks prog w A it fp [it] es.size P St)->St 0 g->s.heap.objs.size<=it->(∀b∈fp,b=S\/s.heap.objs.size<=b)->(∀b∈fp,b<g.objs.size)->(∀b o,s.heap.get? b=bi o->g.get? b=bi o) ->
   (∀acc,ItemsOf P acc es.size->acc.toList.Perm (es.toList.map (·.2)))->Q (.ref it) { s with heap:=g,drawn:=d }):nz (model prog w) A (ZX<|.ref S) Q E s:=by
 obtain⟨o,R,yK,O⟩:=f.ex;have T:aad s (.ref S) "set":={o,R,yK.1}
 have hSlt:=aD R;refine mO T PySem.F.slot_set_iter<|bF PySem.F.slot_set_iter T AR ?_<|PySem.F.args_set_iter_1 _;show nz _ _ (Builtin.Frozenset.sizeOf S >>= _) _ _ s;refine aa<|aa<|gD R O f.fits<|aq ?_;refine aa<|aa<|gs R O f.fits ?_;dsimp only;refine aa<|qv<|aq ?_
 by_cases hdr:(!uU w&&(!t.plain&&decide (es.size>1)))=cT
 .show nz _ _ (if (!uU w&&(!t.plain&&decide (es.size>1)))=cT then _ else _) _ _ _;rw[ax hdr];refine aa (AW es.size (uP es.size) _ _ (by simp) λpl W d=>?_);have Y:pl.length=es.size:=by have:=W.length_eq;simpa using this
  refine aa (l5 ?_ (by rw[aj,Y];exact hsz));have hS1:jV w (s.heap.push { cls:=.type "tuple",data:=.seq (pl.map λi:f7=>w9 i).toArray }) S es ep t:=f.keep λo e=>ar _ e;obtain⟨o1,ho1,_,hd1⟩:=hS1.ex;refine aa<|wpAny_setEpoch_of (s:={ s with heap:=s.heap.push { cls:=.type "tuple",data:=.seq (pl.map λi:f7=>w9 i).toArray },drawn:=d }) ho1 hd1 f.fits ?_;refine aa<|bQ<|aq {_,rfl,"set_iterator",_,{_,ay _ rfl,rfl},eW.lookup,?_};have z:(s.heap.push { cls:=.type "tuple",data:=.seq (pl.map λi:f7=>w9 i).toArray }).objs.size=s.heap.objs.size+1:=cA ..;refine q _ d _ [_,s.heap.objs.size,S] _ _ (λA hA=>CZ (p:=s.heap.objs.size) (t:=t) (ep:=ep) hA W rfl ?_ ?_) {cG _,ay _ rfl,{_,ar _<|ay _ rfl,rfl,0,rfl},hS1.keep λo e=>ar _ e} ?_ (λb U=>?_) (λb U=>?_) (λb o e=>ar _<|ar _ e) λacc hacc=>?_
  .rw[z];exact eV<|dB hSlt
  .rw[z];exact Nat.succ_ne_self _
  .rw[z];exact kF _
  .grind
  .simp only[aS,eR,l9]at U;have z2:∀o2,((s.heap.push { cls:=.type "tuple",data:=.seq (pl.map λi:f7=>w9 i).toArray }).push o2).objs.size=s.heap.objs.size+2:=λo2=>by rw[cA,z]
   rw[z2];rcases U with rfl|rfl|rfl
   .rw[z];exact dR _
   .exact dB (dR _)
   .exact dB (dB hSlt)
  .have e:acc.toList=pl.map λk=>(es.getD k (0,.none)).2:=by
    apply gq;intro i;rw[ai]
    by_cases L:i<es.size
    .have hia:i<acc.size:=by rw[hacc.1];exact L
     have r:acc[i]?=bi (acc[i]'hia):=gb hia;obtain⟨k,x,Z,B,I⟩:=hacc.2 i _ r;rw[fX,r,Z];have:es.getD k (0,.none)=x:=by rw[lq,B];rfl
     rw[I];show bi x.2=bi (es.getD k (0,.none)).2;rw[this]
    .rw[b8 (by rw[d5,hacc.1];lia),b8 #[0]];rfl
   rw[e];refine(W.map _).trans (List.Perm.of_eq ?_);exact y6 _ es.toList (·.2) es.size (by simp) λi x J=>by
    have hx':es[i]?=bi x:=by rw[<- fX];exact J
    rw[lq,hx'];rfl
 .show nz _ _ (if (!uU w&&(!t.plain&&decide (es.size>1)))=cT then _ else _) _ _ _;rw[aF hdr];refine aa<|aq<|aa<|wpAny_setEpoch_of R O f.fits ?_;refine aa<|bQ<|aq {_,rfl,"set_iterator",_,{_,ay _ rfl,rfl},eW.lookup,?_};have F:∀(D:fy i2) (G:f7->f7),G 0=0->D.Perm (es.toList.map (·.2))->(∀(s:n4) (i:f7),jV w s.heap S es ep t->i<=es.size->∀(A:xh) (Q':hJ (i2×f7)->n4->Prop) (E':i2->n4->Prop),Q' ((D[i]?).map λv=>(v,G<|i+1)) s->nz (model prog w) A (Z7 S (G i) i ep) Q' E' s) ->
    Q (.ref s.heap.objs.size) { s with heap:=s.heap.push (qV (w9 0) 0 S es.size ep) }:=λD G V W J=>by
   have Y:D.length=es.size:=by have:=W.length_eq;simpa using this
   refine q _ s.drawn s.heap.objs.size [s.heap.objs.size,S] _ _ (λA hA=>F3 (t:=t) (ep:=ep) (vs:=D) (sl:=G) hA Y rfl (eV hSlt) J) {cG _,?_,f.keep λo e=>ar _ e} (av _) (λb U=>?_) (λb U=>?_) (λb o e=>ar _ e) λacc hacc=>?_
   .rw[V];exact ay _ rfl
   .simp only[aS,eR,l9]at U;rcases U with rfl|rfl
    .exact .inr (av _)
    .exact .inl rfl
   .simp only[aS,eR,l9]at U;rw[cA];rcases U with rfl|rfl
    .exact dR _
    .exact dB hSlt
   .have e:acc.toList=D:=by
     apply gq;intro i
     by_cases L:i<es.size
     .have hia:i<acc.size:=by rw[hacc.1];exact L
      have r:acc[i]?=bi (acc[i]'hia):=gb hia;rw[fX,r,hacc.2 i _ r]
     .rw[b8 (by rw[d5,hacc.1];lia),b8 #[0]]
    rw[e];exact W
  cases U:uU w with
  |true=>exact F ((aav (w.params.setOrder S ep) es).toList.map (·.2)) (λ_=>0) rfl ((F1 _ _).map _) λs i hS' L A Q' E' y=>F4 U hS' y
  |false=>
   have Z:es.size<=1:=by
    rcases Hh.2 with z|z
    .lia
    .rw[U,z]at hdr;simp at hdr;lia
   have Tg:t.led=cT:=Hh.1.resolve_left (by rw[U];exact dN);exact F (es.toList.map (·.2)) (λi=>if i=0 then 0 else t.place.getD 0 0+1) rfl (jQ _) λs i hS' L A Q' E' y=>Ib U hS' Tg Z L y
end
section
variable{w:qd}
theorem Ie{Q:ir->n4->Prop}(T:s.TypeIs (.ref S) "set")(q:Q eh s):nz (model prog w) A (Builtin.List.listLengthHint<|.ref S) Q E s:=by refine aa<|hW T PySem.F.slot_set_len.lookup ?_;generalize d:("set.__len__")=id0;subst d;exact aa (eQ (b:=cT) T (by rw[qm];kernel_rfl)<|aa<|iS T<|aq q)
theorem A0{es:Array (hG×i2)}{t:ZI}{Q:fy i2->n4->Prop}(f:jV w s.heap S es ep t)(Hh:D9 w es.size t)(hsz:es.size<=sizeLine)(z:A.handled=b0)
  (q:∀(g:qk) (d:Drawn) (F:f7) (vs:fy i2),(∀b o,s.heap.get? b=bi o->g.get? b=bi o)->vs.Perm (es.toList.map (·.2))->Q vs { s with heap:=g,drawn:=d,toks:=F }):nz (model prog w) A (collect<|.ref S) Q E s:=by
 obtain⟨o,I,yK,k⟩:=f.ex;have hSlt:=aD I;unfold collect;refine aa<|wpAny_runValue<|dM entry_proto_collect' ?_;refine aa<|bQ<|aq {ib PySem.F.plain_list_iadd _,dM entry_list_iadd' ?_};generalize hL:s.heap.objs.size=L;have gL:(s.heap.push { cls:=.type "list",data:=.seq ([]:fy i2).toArray }).get? L=bi { cls:=.type "list",data:=.seq #[] }:=by rw[<- hL];exact ay _ rfl
 have hS1:jV w (s.heap.push { cls:=.type "list",data:=.seq ([]:fy i2).toArray }) S es ep t:=f.keep λo e=>ar _ e;have z1:(s.heap.push { cls:=.type "list",data:=.seq ([]:fy i2).toArray }).objs.size=L+1:=by rw[cA,hL]
 have kp1:∀b o,s.heap.get? b=bi o->(s.heap.push { cls:=.type "list",data:=.seq ([]:fy i2).toArray }).get? b=bi o:=λb o e=>ar _ e;have bL:∀b o,s.heap.get? b=bi o->b≠L:=λb o e=>by rw[<- hL];exact aM<|aD e
 generalize s.heap.push { cls:=.type "list",data:=.seq ([]:fy i2).toArray }=Z at gL hS1 z1 kp1 ⊢;have nQ:L≠S:=by rw[<- hL];exact eV hSlt
 obtain⟨o1,ho1,hex1,hd1⟩:=hS1.ex;have T:aad { s with heap:=Z } (.ref S) "set":={o1,ho1,hex1.1}
 show nz _ A.in1 (Builtin.List.listExtendWith (.ref L) (.ref S)<|.ref L) _ _ _;unfold Builtin.List.listExtendWith;refine aa<|iS (T:="set") T ?_;have R:Builtin.List.listSameRef (.ref L) (.ref S)=eh:=by simp[Builtin.List.listSameRef,nQ]
 have e2:(ZV "set" == ZV "list")=eh:=by decide
 have O:(ZV "set" == ZV "tuple")=eh:=by decide
 simp only[R,e2,O,Bool.or_false,Bool.false_eq_true,nD];refine aa<|Ic (s:={ s with heap:=Z }) hS1 Hh hsz λg d it fp P St W V pG Wp hfl kp2 hperm=>?_;have gL2:=kp2 _ _ gL;have hLf:L∉fp:=λhm=>by
  rcases Wp L hm with y|y
  .exact nQ y
  .rw[show aan { s with heap:=Z }=Z from rfl,z1]at y;exact absurd y<|Nat.not_le.mpr<|dR _
 obtain⟨o2,ho2,hex2,hd2⟩:=(hS1.keep λo e=>kp2 S o e).ex;refine aa<|cD<|Ie (s:={ s with heap:=g,drawn:=d }) {o2,ho2,hex2.1} ?_;have old:∀b o,s.heap.get? b=bi o->b≠it:=λb o e y=>by have B:=aD<|kp1 b o e;have Y:=pG;rw[y]at B;exact absurd B<|g8.mpr Y
 have key:∀(g':qk) (c F:f7),St 0 g'->(∀b o,b≠L->g.get? b=bi o->g'.get? b=bi o)->g'.get? L=bi { cls:=.type "list",data:=.seq #[] c } ->
   aaa (model prog w) A (.builtin "list.extend.loop" ⟨[.ref L,.ref it,.ref L],[]⟩) (wants (λr D=>nz (model prog w) A (match r with|.ref a=>(do match (<- load a).data with|.seq G _=>pure G.toList|_=>unsupported "internal:collect")|_=>unsupported "internal:collect") Q E D) E) { s with heap:=g',drawn:=d,toks:=F }:=by
  intro g' c F J kp3 gL3;refine codeAny_extend_loopS (W A.in1<|by simpa using z).toS hsz L hLf (.ref L) es.size 0 _ #[] c rfl (cG _) J gL3 (ItemsOf.nil _) λD acc c' hm gL4 hacc=>?_;have ee:D={ s with heap:=D.heap,drawn:=d,toks:=D.toks }:=by
   have Z:=hm.gens;have B:=hm.drawn;have Y:=hm.os
   cases D
   simp only at Z B Y;subst Z;subst B;subst Y;rfl
  refine aa<|wpAny_load gL4<|aq ?_;rw[ee];refine q D.heap d D.toks acc.toList (λb o e=>hm.heap b o (λy=>?_)<|kp3 b o (bL b o e)<|kp2 b o<|kp1 b o e)<|hperm acc hacc;rcases aS.mp y with y|y
  .exact bL b o e y
  .exact old b o e (a_.mp y)
 refine aa<|iM<|aa ?_;refine aa<|kN gL2 rfl ?_;have g5:=cZ (ZP (·.push ZJ)) gL2 rfl;refine kN (hz:=by seq_fits) g5 rfl ?_;have g6:=cZ (ZP (·.pop)) g5 rfl;refine aq {ib PySem.F.plain_extend_loop _,key _ _ _ ((W A z).frame 0 _ _ V λb U o e=>?_) (λb o U e=>?_) g6}
 .have hbL:b≠L:=λy=>hLf<|y▸U;exact(dw _ _<|Zw hbL).trans ((dw _ _<|Zw hbL).trans e)
 .exact(dw _ _<|Zw U).trans ((dw _ _<|Zw U).trans e)
end
section
variable{w:qd}
theorem C0{ks:fy Str}(z:AT prog w s.heap S ks)(TR:ks.length<64)(hh:A.handled=b0)
  (q:∀(g0 g1:qk) (d:Drawn) (F:f7) (out:Array i2) (ss:fy Str) (e:f7),(∀b o,s.heap.get? b=bi o->g0.get? b=bi o)->(∀b o,g0.get? b=bi o->g1.get? b=bi o)->g1.get? g0.objs.size=bi (ZF "list" out e) ->
   StrsAre out.toList ss->ss.Perm ks->sortedS ss=cT->Q (.ref g0.objs.size) { s with heap:=g1,drawn:=d,toks:=F }):nz (model prog w) A (call (.builtin "sorted") [.ref S]) Q E s:=by
 obtain⟨o,G,ep,t,R,yK,k,hel,W,U,O,Hh⟩:=z;have f:jV w s.heap S G ep t:=⟨⟨o,R,yK,k⟩,O⟩
 have da:G.size=ks.length:=by have:=W.length_eq;simpa using this
 apply mD kind_sorted plain_sorted entry_sorted<|args_sorted1 _;refine aa (aq<|aa<|A0 f Hh (by rw[jy];lia) #[0] λg d F D kp pv=>?_);have L:∀v∈D,∃x t,v=aak x t:=λv L=>by obtain⟨e,Y,rfl⟩:=aX.mp<|pv.mem_iff.mp L;obtain⟨t,J⟩:=AU hel e Y;exact⟨_,t,J⟩
 have qS:=strsAre_map D L;have hks:(D.map strOf).Perm ks:=by refine(pv.map strOf).trans ?_;rw[aN];exact W
 have hvl:D.length<64:=by have:=hks.length_eq;rw[aj]at this;lia
 refine aa (wpAny_newList ?_ (by rw[jy];lia));have oL:(g.push<|ZF "list" D.toArray 0).get? g.objs.size=bi (ZF "list" D.toArray 0):=ay _ rfl;refine aa (cD<|bF slot_list_sort ⟨_,oL,rfl⟩ entry_list_sort (list_sort_treeK strKind_oneLt oL qS.keysOf (λa b r e=>keyKind_strs (by rw[<- e];exact qS)) hvl λV a1 a2=>{_,rfl,?_})<|args_list_sort _);obtain⟨ss,Z,B,I⟩:=sorted_out_str qS a1 a2;obtain⟨e,Y⟩:=sortedHeap_at oL;refine aq {_,rfl,q g _ d F _ ss e kp (λb o U=>?_) Y Z (B.trans hks) I};rw[sortedHeap_old (aM<|aD U) (by rw[cA];exact dB<|aD U)];exact ar _ U
noncomputable abbrev UF(ty:String)(x:Str)(t:Tok):Obj:={ cls:=.type ty,data:=.fields #[.str x t,.int 0 0] }
theorem Ig{t:Tok}(I:A.handled=b0)(U:l.length+1<Z8)
  (q:∀g F,Of prog w (λj=>tx [l.getD j 0]) g s.heap.objs.size l.length->(∀b o,s.heap.get? b=bi o->g.get? b=bi o)->Q (.ref s.heap.objs.size) { s with heap:=g,toks:=F }):nz (model prog w) A (call (.type "set") [.str (tx l) t]) Q E s:=by
 have z:(s.heap.push<|dY w).objs.size=s.heap.objs.size+1:=cA ..;have Cg:∀i v,SignAt (tx l) i v->∃t,v=aak (tx [l.getD i 0]) t:=by
  rintro i v ⟨c,u,D,rfl⟩;have:l[i]?=bi c:=by simpa[tx]using D
  exact{u,by rw[aA,this];rfl}
 have d:aad { s with heap:=s.heap.push (dY w) } (.str (tx l) t) "str":=oD _ _ _
 cases J:(tx l).cps.all (· < 128)
 .refine mS (T:="str") (fp:=λit=>[it]) (P:=SignAt<|tx l) d rfl rfl (by decide)
   (λA E Q y=>wpAny_pyIter_wide J (by show Q (.ref (s.heap.push<|dY w).objs.size) _;rw[z];exact y)) (λA it R _=>Walks.strWide R it (tx l) t) (by simp) ⟨UF "str_iterator" (tx l) t,?_,rfl,rfl⟩ Cg I U q
  rw[<- z];exact ay _ rfl
 refine mS (T:="str") (fp:=λit=>[it]) (P:=SignAt<|tx l) d rfl rfl (by decide)
  (λA E Q y=>wpAny_pyIter_ascii J (by show Q (.ref (s.heap.push<|dY w).objs.size) _;rw[z];exact y)) (λA it R _=>Walks.strAscii R it (tx l) t) (by simp) ⟨UF "str_ascii_iterator" (tx l) t,?_,rfl,rfl⟩ Cg I U q
 rw[<- z];exact ay _ rfl
theorem My(I:A.handled=b0)(U:l.length+1<Z8)(B:s.heap.IsTuple a br.toArray)(d:ce (j9 l) br)
  (q:∀g F,Of prog w (λj=>tx [l.getD j 0]) g s.heap.objs.size l.length->(∀b o,s.heap.get? b=bi o->g.get? b=bi o)->Q (.ref s.heap.objs.size) { s with heap:=g,toks:=F }):nz (model prog w) A (call (.type "set") [.ref a]) Q E s:=by
 have z:(s.heap.push<|dY w).objs.size=s.heap.objs.size+1:=cA ..;have D:br.toArray.size=l.length:=by have:=d.length;unfold j9 at this;simpa using this.symm
 have r:a<s.heap.objs.size:=by obtain⟨o,R,_⟩:=B;exact aD R
 have Lx:(s.heap.push<|dY w).IsTuple a br.toArray:=B.at λo e=>ar _ e;have Cg:∀i v,br.toArray[i]?=bi v->∃t,v=aak (tx [l.getD i 0]) t:=by
  intro i v L;have Z:br[i]?=bi v:=by simpa using L
  have G:i<l.length:=by have:=(am.mp Z).1;rw[<- D];simpa using this
  have J:(j9 l)[i]?=bi (.str<|tx [l.getD i 0]):=by unfold j9;rw[ai,aA,ak G];rfl
  obtain⟨u,Y,t,e⟩:=d.get J;rw[Z]at Y;exact{t,(bf Y).trans e}
 rw[<- D]at U q;refine mS Lx.typeIs (by rw[qm];kernel_rfl) (by rw[qm];kernel_rfl) (by decide)
  (λA E Q y=>lU Lx (by show Q (.ref (s.heap.push<|dY w).objs.size) _;rw[z];exact y)) (λA it k e=>Walks.tuple k it a (by rw[e];exact aM<|dB r) br.toArray) (by exact λe=>absurd r<|by simp_all) ⟨⟨{ cls:=.type "tuple_iterator",data:=.fields #[.ref a,.int 0 0] },?_,rfl,rfl⟩,?_⟩ Cg I U q
 .rw[<- z];exact ay _ rfl
 .exact Lx.at λo e=>ar _ e
end
theorem Mz{w ks:fy Str}(W:w.Perm ks)(k:ks.Nodup)(hm:∀x,x∈ks↔∃j,j<l.length/\tx [l.getD j 0]=x)(d:sortedS w=cT) :
  ∃m:fy f7,w=m.map (λc=>tx [c])/\m.Nodup/\m.Pairwise (· <= ·)/\∀c,c∈m↔c∈l:=by
 have all:∀z∈w,tx [z.cps.toList.headD 0]=z:=λz J=>by obtain⟨j,_,e⟩:=(hm z).mp<|W.mem_iff.mp J;subst e;rfl
 have r:w=(w.map λz=>z.cps.toList.headD 0).map λc=>tx [c]:=by
  rw[aN]
  conv=>lhs;rw[<- fO w]
  exact b_ λz J=>(all z J).symm
 refine{w.map λz=>z.cps.toList.headD 0,r,?_,?_,λc=>?_}
 .have Y:=W.nodup_iff.mpr k;rw[r]at Y;exact List.Pairwise.of_map (λc=>tx [c]) (λa b h e=>h<|by rw[e]) Y
 .refine AQ _ ?_;rw[aN];rw[r]at d;exact d
 constructor
 .intro D;obtain⟨z,J,rfl⟩:=aX.mp D;obtain⟨j,O,e⟩:=(hm z).mp<|W.mem_iff.mp J;subst e;rw[aA,ak O];exact dS O
 intro D;obtain⟨j,O,e⟩:=kZ D;refine aX.mpr {tx [c],W.mem_iff.mpr<|(hm _).mpr {j,O,?_},rfl};rw[aA,ak O,e];rfl
def MA(K:ti)(H:Hp)(v:V)(l:fy f7):Prop:=v=.str (tx l)\/∃a,v=.ref a/\fY K H a (j9 l)
def Ih(K:ti)(te:TE):TE:=λσ H Q=>te σ H λv H1=>∃l,MA K H1 v l/\l.length<4000/\(∀m:fy f7,m.Nodup->(∀c∈m,c∈l)->m.length<64) /\
 ∀m:fy f7,m.Nodup->m.Pairwise (· <= ·)->(∀c,c∈m↔c∈l)->∀a H2,H1 a=b0->H2=dX H1 a (.lst<|m.map λc=>V.str<|tx [c])->Q (.ref a) H2
theorem bn.kept2{U:Drawn}(I:bn X ah σ H s)(k:∀b o,s.heap.get? b=bi o->h'.get? b=bi o):bn X ah σ H { s with heap:=h',drawn:=U,toks:=t' }:=
 I.step (ch:=[]) (λ_ z=>nomatch z) (λb o _ _ _ e _=>k b o e) (λb o _ _ _ e _=>{o.slots,k b o e}) (λ_ _ _ _ n=>n) (λb o _ e=>{o,k b o e}) (λ_ _ e=>e) (λ_ _ _ e=>e) (λb Z e=>{#[],by rw[e];simp})
  (λm hm=>let ⟨o,es,ep,ho,r⟩:=hm;⟨o,es,ep,k _ o ho,r⟩) (I.hok.kept k) I.bare
theorem F5{p1 p2 Tw rV:Pos}(Z:X.mg "sorted"=b0)(L:X.mg "set"=b0)(B:QE X e te)(D:X.calm=cT:=by rfl)
  (Wi:Gl X "sorted":=by rfl) (WK:Gl X "set":=by rfl) (W7:qe [e] X.env=(eh,eval e X.env)::qe [] X.env:=by rfl):QE X (.Call (.Name "sorted" p1) [.Call (.Name "set" p2) [e] [] rV] [] Tw) (Ih X.K te):={by
 refine λW s O H Q I h=>dO (rj I Wi Z PyProof.Rows.boot_sorted (ki ?_) (by decide)<|by decide);show nz _ _ (spliced ((eh,eval (.Call (.Name "set" p2) [e] [] rV) X.env)::[])) _ _ s;refine jq (dO<|rj I WK L PyProof.Rows.boot_set (fK ?_ W7 rfl) (by decide)<|by decide);rw[W7];show nz _ _ (spliced ((eh,eval e X.env)::[])) _ _ s;refine jq<|h_ (B.h W s O H _ I h) λu G zz=>?_;obtain⟨v,H1,I1,r,l,Y,U,TR,q⟩:=zz;refine jM ?_;have hh:=I1.ok.hd D;have hb':l.length+1<Z8:=by unfold Z8;lia
 have jC:∀g F,Of X.prog X.w (λj=>tx [l.getD j 0]) g G.heap.objs.size l.length->(∀b o,G.heap.get? b=bi o->g.get? b=bi o) ->
   nz #[2] X.A (spliced []) (λw s₂=>nz #[2] X.A (call (.builtin "sorted") (.ref G.heap.objs.size::w)) (EP X W O Q) X.xe s₂) X.xe { G with heap:=g,toks:=F }:=λg F hM kp=>by
  refine jM ?_;obtain⟨ks,z,nd,mem,len⟩:=hM;have xi:ks.length<64:=by
   obtain⟨m,em,mn,_,mm⟩:∃m:fy f7,ks=m.map (λc=>tx [c])/\m.Nodup/\True/\∀c∈m,c∈l:=by
    have all:∀z∈ks,tx [z.cps.toList.headD 0]=z:=λz J=>by obtain⟨j,_,e⟩:=(mem z).mp J;subst e;rfl
    have em:ks=(ks.map λz=>z.cps.toList.headD 0).map λc=>tx [c]:=by
     rw[aN]
     conv=>lhs;rw[<- fO ks]
     exact b_ λz J=>(all z J).symm
    refine{_,em,?_,trivial,λc D=>?_}
    .have nd':=nd;rw[em]at nd';exact List.Pairwise.of_map (λc=>tx [c]) (λa b h e=>h<|by rw[e]) nd'
    obtain⟨z,J,rfl⟩:=aX.mp D;obtain⟨j,f,e⟩:=(mem z).mp J;subst e;show l.getD j 0∈l;rw[aA,ak f];exact dS f
   rw[em,aj];exact TR m mn mm
  refine C0 z xi hh λg0 g1 d tk' out ss ep k0 k1 gL qS hperm hsrt=>?_;obtain⟨m,em,mn,mp,mm⟩:=Mz hperm nd mem hsrt;have I2:bn X W O H1 { G with heap:=g0,drawn:=d,toks:=tk' }:=I1.kept2 λb o e=>k0 b o<|kp b o e;have hvals:ce (m.map λc=>V.str<|tx [c]) out.toList:=by have e:=nT qS;rw[em,aN]at e;exact e
  refine{.ref g0.objs.size,_,I2.laid k1 (av _) ?_,rfl,q m mn mp mm _ _ (I2.hok.fresh<|av _) rfl};refine{?_,out.toList,ep,hvals,gL};rw[aj];exact aW (dL<|TR m mn λc D=>(mm c).mp D) (by decide)
 rcases Y with rfl|⟨a,rfl,hT⟩
 .obtain⟨t,rfl⟩:=r;exact Ig hh hb' jC
 cases r
 obtain⟨R,rv,k,_⟩:=I1.tuple hT;exact My hh hb' k rv jC}
def XC(K:ti):fy V->Hp->VK->Prop:=λxs H Q=>∃(p:nt) (bs:fy ir),xs=[.ref p]/\rZ K H p (bs.map V.bl)/\Q (.bl<|bs.all id) H
theorem UG(D:X.calm=cT:=by rfl):Od X (.builtin "all") (XC X.K):={by
 intro W s O H G z Q I r h;obtain⟨p,bs,rfl,f,q⟩:=h;obtain⟨u,rfl,w⟩:=oN r
 cases w
 obtain⟨B,rv,pl,d⟩:=I.list f;have t:=I.ok.hd D;have U:=pl.isList;have k:p<s.heap.objs.size:=by obtain⟨o,R,_⟩:=U;exact aD R
 have da:B.toArray.size=bs.length:=by have:=rv.length;simpa using this.symm
 refine call_all_walk (jL U<|{_,_,_,_,_,_,λi=>bs.getD i cT,rfl,Walks.list (by omega) _ p (aM k) B.toArray,⟨{_,ay _ rfl,rfl,rfl},U.at λo e=>ar _ e⟩,?_,λZ F kp=>?_})
 .intro i v s Q E hP hQ;have L:B[i]?=bi v:=by simpa using hP
  have k:i<bs.length:=by have:=(am.mp L).1;rw[<- da];simpa using this
  have J:(bs.map V.bl)[i]?=bi (.bl bs[i]):=by rw[ai,ak k];rfl
  obtain⟨u,Y,w⟩:=rv.get J;rw[L]at Y;obtain rfl:v=.bool bs[i]:=(bf Y).trans w;refine dZ ?_;have e:bs.getD i cT=bs[i]:=by rw[aA,ak k];rfl
  rw[<- e];exact hQ
 .have e:(uP B.toArray.size).all (λi=>bs.getD i cT)=bs.all id:=by
   rw[da]
   conv=>rhs;rw[<- range_getD bs cT]
   rw[tJ];rfl
  rw[e];refine{.bl _,H,I.kept λb o eb=>kp b o (λhm=>?_)<|ar _ eb,rfl,q};exact absurd (aD eb)<|by simp_all}
section
variable{w:qd}
end
section
variable{nm:fy Str}{g:TG}
theorem C1{x0:Str}{p0 U:Pos}{gx:TG}(N5:PG X (.Name x0 p0) gx)(NX:swapsWith #[3] (bi<|.Name x0 p0) U.line X.env=pure cT)(gz:X.calm=cT)(xb:aab scope X.env=pure cl)(f:∀x c,cl.lookup x=bi c->X.env.cells.lookup x=bi c)
  (fN:scope.kind=.function) (rT:∀x∈scope.names,x.2=.local->scope.names.lookup x.1=bi .local) (ja:∀y∈scope.names,y.2≠.cell)
  (DW:∀x,((relabel scope X.env).names.lookup x=bi .cell\/(relabel scope X.env).names.lookup x=bi .free)->∃c,cl.lookup x=bi c)
  (tm:∀(i j:f7),cap[i]?=bi (bi j)->∃x,nm[i]?=bi x/\X.N[j]?=bi x/\vD X scope cl x) (t:cap.length=nm.length)
  (L:PI X tg iter wi) (r:∀C w H0 fp,PG (cu X nm scope cl C w H0 fp) tg g) (J:∀C w H0 fp,HN (cu X nm scope cl C w H0 fp) kw tc)
  (k:∀C w H0 fp,PE (cu X nm scope cl C w H0 fp) mz te) (d:∀x,Z9 iter X.env x=pure x:=by intro _;rfl) :
  PS X (.Assign [.Name x0 p0] #[3] U) (Ht (sf cap wi g tc te) gx):=by
 intro W s O H D I h;rw[exec_Assign_Name_used _ _ _ _ NX]
 suffices main:nz #[2] X.A (comprehension #[3] scope X.env (firstIterPos [⟨tg,iter,kw,0⟩] pos) (newList []) (firstAsync [⟨tg,iter,kw,0⟩]) (firstIter [⟨tg,iter,kw,0⟩] X.env) (bi<|assign (.Name x0 p0) X.env)) (λ_ Y=>SP X W D .next Y) X.xe s from
  aa (q9<|aa<|aa<|dz main (λ_ Y h=>aq<|aq h) λ_ _ z=>z)
 refine ya gz xb f fN rT ja DW tm t L r J k d I h λs4 C D m4 Hn I4 B q=>?_;obtain⟨oC,G,Z,hoC,hdC,hrC⟩:=B.ns;refine dz (N5 _ s4 O _ (.ref D) (.ref D) _ (I4.pins_of (pins':=W++[(C,oC)]) λp F=>?_) rfl q) (λ_ s5 h5=>?_) λ_ _ z=>z
 .rcases bD.mp F with z|z
  .exact I4.pin p (a8 _ z)
  have e:p=(C,oC):=by simpa using z
  subst e;exact{hoC,B.fr,B.nl,B.nf,λv z=>by rw[hdC]at z;cases z}
 obtain⟨R,H',I6,nx⟩:=h5;have pC:=I6.pin (C,oC)<|a8 _<|a8 _<|a_.mpr rfl;have B7:AM X W H' s5 C m4:=⟨{oC,G,Z,pC.1,hdC,hrC},pC.2.1,B.nl,B.nf,B.hi,B.nc,B.np⟩
 exact{m4,B7.ns,λV hs'=>⟨R,H',B7.off (I6.pins_of λp F=>I6.pin p<|a8 _<|cL _ F) hs',nx⟩}
end
def vL{Z:Str}{I U:Pos}{t:TG}{pos:Pos}{nm:fy Str}{g:TG}(N5:QG X (.Name Z I) t)(V:X.calm=cT)
  (W:X.env.cells=vr m X.env.scope.names []) (k:scope.kind=.function) (R:vJ X.env.scope.names scope.names nm cap X.N=cT)
  (L:QI X tg iter wi) (r:∀cl C w H0 fp,QG (cu X nm scope cl C w H0 fp) tg g) (B:∀cl C w H0 fp,WW (cu X nm scope cl C w H0 fp) kw tc)
  (Y:∀cl C w H0 fp,QE (cu X nm scope cl C w H0 fp) mz te) (d:∀x,Z9 iter X.env x=pure x:=by intro _;rfl) (NX:swapsWith #[3] (bi<|.Name Z I) U.line X.env=pure cT:=by first|rfl|kernel_rfl) :
  QS X (.Assign [.Name Z I] #[3] U) (Ht (sf cap wi g tc te) t):=by have F:=QM (λx z=>by rw[W];exact iB z) R;exact{C1 N5.h NX V F.clos F.cl k F.nms F.cell F.has F.cp F.len L.h (λC w H0 fp=>(r _ C w H0 fp).h) (λC w H0 fp=>(B _ C w H0 fp).h) (λC w H0 fp=>(Y _ C w H0 fp).h) d}
open AutoSeq1 (wpAny_loadPart')
theorem Ii(l b:nt)(z r:Array i2)(J L:f7)(t d:hJ nt)(s1 F:Array (hJ i2))(V:z.isEmpty=cT) :
  Meets (Builtin.«tuple.__add__» ⟨[.ref l,.ref b],[]⟩) (λ_ R s=>s.heap.get? l=bi { cls:=.type "tuple",dict:=t,data:=.seq z J,slots:=s1 }/\s.heap.get? b=bi { cls:=.type "tuple",dict:=d,data:=.seq r L,slots:=F }/\R (.ok<|.ret<|.ref b) s):=
 .of_wp λk w A R s h=>by
  obtain⟨B,e2,h⟩:=h;have O:=PyProof.Rows.sub_tuple_tuple
  wp_walk using bJ B,bJ e2
  exact⟨_,rfl,h⟩
def UH(K:ti):R2:=λx y H Q=>∃a b xs L,x=.ref a/\y=.ref b/\fY K H a xs/\fY K H b L/\xs.length+L.length<=sizeLine/\∀p H2,qL H H2->fY K H2 p (xs++L)->Q (.ref p) H2
theorem QO:Yv X (Zs .Add) (UH X.K):={by
 intro W s O H x y v u Q I Y w h;obtain⟨a,b,D,L,rfl,rfl,r,U,R,q⟩:=h
 by_cases J:D=[]
 .subst J
  cases Y
  cases w
  obtain⟨f,B,G,_⟩:=I.tuple r;obtain⟨its2,Z,p2,_⟩:=I.tuple U;obtain⟨⟨c1,d1,d,z⟩,k,hc1,n1,hd1⟩:=id G;obtain⟨⟨c2,d2,t,l2⟩,V,hc2,n2,hd2⟩:=id p2;simp only at hc1 hd1 hc2 hd2;subst hc1 hd1 hc2 hd2;exact tH ⟨_,k,rfl⟩ ⟨_,V,rfl⟩ nC q_ PySem.F.slot_tuple_add PySem.F.entry_tuple_add (PySem.F.args_tuple_add_2 _ _) (Ii a b f.toArray its2.toArray n1 n2 d1 d2 z l2 (by rw[B.nil_iff.mpr rfl];rfl)) {k,V,⟨.ref b,H,I,rfl,q b H (qL.refl H) U⟩}
 exact L9 W s O H _ _ v u Q I Y w ⟨a,b,D,L,rfl,rfl,r,U,J,R,λe=>q a H (qL.refl H) (by simp_all),λ_ p F=>q p _ (cw F _)<|fY.of cv⟩}
inductive W where
 |non|bl (b:ir)|int (i:hG)|str (l:fy f7)|tup (ws:fy W)|loc (n:f7)
inductive DK where
 |i (z:hG)|s (l:fy f7)
deriving DecidableEq
def DK.key:DK->ji
 |.i z=>.inl z
 |.s l=>.inr<|tx l
inductive KX where
 |bo (b:ir)|fl (ks:fy hG)|pr (i:hG) (ks:fy hG)
deriving DecidableEq
noncomputable def KX.w:KX->W
 |.bo b=>.bl b
 |.fl ks=>.tup (ks.map W.int)
 |.pr i ks=>.tup [.int i,.tup<|ks.map W.int]
noncomputable def Ij(ks:fy hG):hG:=reduceHash<|aar<|ks.map hashInt
def KX.hash:KX->hG
 |.bo b=>hashInt (if b then 1 else 0)
 |.fl ks=>Ij ks
 |.pr i ks=>reduceHash<|aar [hashInt i,Ij ks]
inductive al where
 |lst (ws:fy W)
 |ro (ws:fy W)
 |exc (c:Str)
 |dct (kvs:fy (DK×W))
 |tab (P:nt) (pos:Pos) (q:Str)
 |rod (kvs:fy (DK×W))
 |dcx (kvs:fy (KX×W))
 |rox (kvs:fy (KX×W))
 |obj (c:Str) (fs:fy (Str×W))
 |pin (k:ir) (c:nt) (o:Obj) (w:W)
 |gone
noncomputable abbrev j':f7:=1000000
def iW(h:n<=j'):n<=sizeLine:=aW h (by decide)
def QP(h:n<=j'):n<sizeLine:=eO h (by decide)
inductive R(α:Type) where
 |ok (a:α) (st:fy al)
 |ex (c:Str) (st:fy al)
 |bad
end L2
variable{st bx st1:fy L2.al}{f f':L2.W->L2.W->fy L2.al->L2.R L2.W}{kvs:fy (L2.KX×L2.W)}{ws cws:fy L2.W}{F:fy L2.W->fy L2.al->L2.R L2.W}{G:fy L2.W->fy L2.al->L2.R (fy L2.W)}{ck:hJ (f7×fy L2.W)}
namespace L2
open PySem PySem.Spec PyProof.Rows
noncomputable def R.bind:R α->(α->fy al->R β)->R β
 |.ok a st,k=>k a st
 |.ex c st,_=>.ex c st
 |.bad,_=>.bad
@[simp] theorem R.bind_ok{α β:Type}(a:α)(st:fy al)(k:α->fy al->R β):(R.ok a st).bind k=k a st:=rfl
@[simp] theorem R.bind_ex{α β:Type}(c:Str)(st:fy al)(k:α->fy al->R β):(R.ex c st:R α).bind k=.ex c st:=rfl
@[simp] theorem R.bind_bad{α β:Type}(k:α->fy al->R β):(R.bad:R α).bind k=.bad:=rfl
noncomputable abbrev bR:=fy<|hJ W
inductive RS where
 |nx (ρ:bR) (st:fy al)|rt (w:W) (st:fy al)|bk (ρ:bR) (st:fy al)|ct (ρ:bR) (st:fy al)
 |ex (c:Str) (ρ:bR) (st:fy al)|bad
abbrev FE:=bR->fy al->R W
abbrev FT:=bR->fy al->R ir
abbrev FA:=bR->fy al->R (fy W)
abbrev FS:=bR->fy al->RS
section
variable(K:ti)
mutual
def bp(μ:fy nt)(H:Hp):W->V->Prop
 |.non,v=>v=.non
 |.bl b,v=>v=.bl b
 |.int i,v=>v=.int i
 |.str l,v=>v=.str (tx l)
 |.tup ws,v=>∃p vs,v=.ref p/\fY K H p vs/\RelWs μ H ws vs
 |.loc n,v=>∃a,μ[n]?=bi a/\v=.ref a
def RelWs(μ:fy nt)(H:Hp):fy W->fy V->Prop
 |[],vs=>vs=[]
 |w::ws,vs=>∃x xs,vs=x::xs/\bp μ H w x/\RelWs μ H ws xs
end
end
def pre_get(h:μ <+: μ')(e:μ[n]?=bi a):μ'[n]?=bi a:=by obtain⟨t,rfl⟩:=h;rw[bu (am.mp e).1];exact e
section
mutual
theorem bp.mono(h:μ <+: μ')(e:dy K H H'):∀{w:W} {v:V},bp K μ H w v->bp K μ' H' w v
 |.non,_,r=>by unfold bp at r ⊢;exact r
 |.bl _,_,r=>by unfold bp at r ⊢;exact r
 |.int _,_,r=>by unfold bp at r ⊢;exact r
 |.str _,_,r=>by unfold bp at r ⊢;exact r
 |.tup _,_,r=>by unfold bp at r ⊢;obtain⟨p,D,a,b,c⟩:=r;exact{p,D,a,e _ _ b,RelWs.mono h e c}
 |.loc _,_,r=>by unfold bp at r ⊢;obtain⟨a,b,c⟩:=r;exact{a,pre_get h b,c}
theorem RelWs.mono(h:μ <+: μ')(e:dy K H H'):∀{ws:fy W} {vs:fy V},RelWs K μ H ws vs->RelWs K μ' H' ws vs
 |[],_,r=>by unfold RelWs at r ⊢;exact r
 |_::_,_,r=>by unfold RelWs at r ⊢;obtain⟨x,D,a,b,c⟩:=r;exact{x,D,a,bp.mono h e b,RelWs.mono h e c}
end
def RelWs.nilI:RelWs K μ H [] []:=by unfold RelWs;rfl
def RelWs.consI{w:W}{x:V}{xs:fy V}(a:bp K μ H w x)(b:RelWs K μ H ws xs):RelWs K μ H (w::ws) (x::xs):=⟨x,xs,rfl,a,b⟩
def RelWs.nilE(h:RelWs K μ H [] vs):vs=[]:=h
def RelWs.consE{w:W}(h:RelWs K μ H (w::ws) vs):∃x xs,vs=x::xs/\bp K μ H w x/\RelWs K μ H ws xs:=h
theorem RelWs.pr:∀{ws:fy W} {vs:fy V},RelWs K μ H ws vs↔Paired (λw v=>bp K μ H w v) ws vs
 |[],vs=>{λh=>by rw[h.nilE];exact .nil,λh=>by cases h;exact .nilI}
 |w::ws,vs=>{λh=>by obtain⟨x,D,rfl,a,b⟩:=h.consE;exact .cons a<|RelWs.pr.mp b,λh=>by cases h with|cons a b=>exact .consI a<|RelWs.pr.mpr b}
def RelWs.len(h:RelWs K μ H ws vs):ws.length=vs.length:=Paired.length<|RelWs.pr.mp h
theorem RelWs.app:∀{as:fy W} {xs:fy V} {bs:fy W} {L:fy V},RelWs K μ H as xs->RelWs K μ H bs L->RelWs K μ H (as++bs) (xs++L)
 |[],xs,bs,L,a,b=>by rw[a.nilE];exact b
 |w::as,xs,bs,L,a,b=>by obtain⟨x,xs,rfl,c,d⟩:=a.consE;exact .consI c<|RelWs.app d b
theorem RelWs.get:∀{ws:fy W} {vs:fy V} {i:f7} {w:W},RelWs K μ H ws vs->ws[i]?=bi w->∃v,vs[i]?=bi v/\bp K μ H w v
 |[],_,_,_,_,e=>by simp at e
 |x::ws,vs,0,w,h,e=>by obtain⟨y,L,rfl,a,b⟩:=h.consE;simp at e;subst e;exact⟨y,rfl,a⟩
 |x::ws,vs,i+1,w,h,e=>by obtain⟨y,L,rfl,a,b⟩:=h.consE;simpa using RelWs.get b (by trivial)
theorem RelWs.take:∀{ws:fy W} {vs:fy V} (n:f7),RelWs K μ H ws vs->RelWs K μ H (ws.take n) (vs.take n)
 |_,_,0,_=>.nilI
 |[],vs,n+1,h=>by rw[h.nilE];exact .nilI
 |x::ws,vs,n+1,h=>by obtain⟨y,L,rfl,a,b⟩:=h.consE;exact .consI a<|RelWs.take n b
theorem RelWs.drop:∀{ws:fy W} {vs:fy V} (n:f7),RelWs K μ H ws vs->RelWs K μ H (ws.drop n) (vs.drop n)
 |_,_,0,h=>h
 |[],vs,n+1,h=>by rw[h.nilE];exact .nilI
 |x::ws,vs,n+1,h=>by obtain⟨y,L,rfl,a,b⟩:=h.consE;exact RelWs.drop n b
theorem RelWs.setI:∀{ws:fy W} {vs:fy V} (i:f7) {w:W} {v:V},bp K μ H w v->RelWs K μ H ws vs->RelWs K μ H (ws.set i w) (vs.set i v)
 |[],vs,_,_,_,_,h=>by rw[h.nilE];exact .nilI
 |x::ws,vs,0,w,v,r,h=>by obtain⟨y,L,rfl,a,b⟩:=h.consE;exact .consI r b
 |x::ws,vs,i+1,w,v,r,h=>by obtain⟨y,L,rfl,a,b⟩:=h.consE;exact .consI a<|RelWs.setI i r b
def bp.intE{i:hG}{v:V}(h:bp K μ H (.int i) v):v=.int i:=h
def bp.blE{b:ir}{v:V}(h:bp K μ H (.bl b) v):v=.bl b:=h
def bp.nonE{v:V}(h:bp K μ H .non v):v=.non:=by unfold bp at h;exact h
def bp.strE{v:V}(h:bp K μ H (.str l) v):v=.str (tx l):=h
def bp.tupE{v:V}(h:bp K μ H (.tup ws) v):∃p vs,v=.ref p/\fY K H p vs/\RelWs K μ H ws vs:=h
def bp.locE{v:V}(h:bp K μ H (.loc n) v):∃a,μ[n]?=bi a/\v=.ref a:=h
theorem bp.int{i:hG}:bp K μ H (.int i) (.int i):=by unfold bp;rfl
theorem bp.bl{i:ir}:bp K μ H (.bl i) (.bl i):=by unfold bp;rfl
theorem bp.non:bp K μ H .non .non:=by unfold bp;rfl
theorem bp.str:bp K μ H (.str l) (.str<|tx l):=by unfold bp;rfl
def bp.tupI{p:nt}(a:fY K H p vs)(b:RelWs K μ H ws vs):bp K μ H (.tup ws) (.ref p):=⟨p,vs,rfl,a,b⟩
def bp.locI(e:μ[n]?=bi a):bp K μ H (.loc n) (.ref a):=⟨a,e,rfl⟩
end
noncomputable def vM(a:nt)(C:i2):HO:=.ext λh=>∃o vs,h.get? a=bi o/\o.cls=C/\o.data=.fields vs
noncomputable def kR(b:nt)(q:Str):HO:=.ext λh=>∃o vs t,h.get? b=bi o/\o.data=.fields vs/\vs[1]?=bi (.str q t)
def WX(K:ti)(H:Hp)(a:nt)(xs:fy V):Prop:=
 (∃o,H a=bi (.frz o<|.lst xs))\/∃(o:Obj) (br:Array i2) (n:f7),K.lookup a=bi o/\o.cls=.type "list"/\o.dict=b0/\o.data=.seq br n/\br.size<=sizeLine/\ce xs br.toList
theorem WX.sq{xs:fy V}(h:WX K H a xs):rZ K H a xs:=by
 rcases h with⟨o,h⟩|h
 .exact .inl (.inr ⟨o,h⟩)
 exact .inr h
noncomputable def al.isRo:al->ir
 |.ro _=>cT
 |.gone=>cT
 |_=>eh
def DX(a:nt)(es:fy Zx):qk->Prop:=λh=>∃o ep,h.get? a=bi o/\o.ExactDict/\o.data=.dict es.toArray ep
noncomputable abbrev vg(a:nt)(es:fy Zx):HO:=.ext<|DX a es
def qN(K:ti)(μ:fy nt)(H:Hp)(p:KX×W)(e:Zx):Prop:=e.hash=p.1.hash/\(∃v,bp K μ H p.1.w v/\cq v e.key)/\∃v,bp K μ H p.2 v/\cq v e.val
noncomputable def m9(a:nt)(o:Obj):HO:=.ext λh=>h.get? a=bi o
def mH(K:ti)(mg:Str->hJ i2)(μ:fy nt)(H:Hp):al->nt->Prop
 |.lst ws,a=>∃vs,H a=bi (.lst vs)/\RelWs K μ H ws vs
 |.ro ws,a=>∃vs,WX K H a vs/\RelWs K μ H ws vs
 |.exc c,a=>∃C,mg c=bi C/\H a=bi (vM a C)
 |.dct kvs,a=>∃vs,H a=bi (.dK<|(kvs.map λp=>p.1.key).zip vs)/\RelWs K μ H (kvs.map λp=>p.2) vs
 |.rod kvs,a=>∃vs o,H a=bi (.frz o<|.dK<|(kvs.map λp=>p.1.key).zip vs)/\RelWs K μ H (kvs.map λp=>p.2) vs
 |.dcx kvs,a=>∃es,H a=bi (vg a es)/\(a==ZM)=eh/\Paired (qN K μ H) kvs es/\(kvs.map λp=>p.1).Nodup
 |.rox kvs,a=>∃es o,H a=bi (.frz o<|vg a es)/\(a==ZM)=eh/\Paired (qN K μ H) kvs es/\(kvs.map λp=>p.1).Nodup
 |.obj c fs,a=>∃C U vs,mg c=bi (.ref C)/\H a=bi (.ins C U<|(fs.map λp=>p.1).zip vs)/\RelWs K μ H (fs.map λp=>p.2) vs
 |.tab P pos q,a=>a=P/\∃ps,H a=bi (.tbl ps)/\aaw ps.toList/\(aae pos ps.toList=b0\/∃c,aae pos ps.toList=bi (.ref c)/\H c=bi (kR c q))
 |.pin k c o w,a=>a=c/\H a=bi (m9 a o)/\(k=eh->∃fd V,o.data=.func fd/\fd.code=.ref V/\H V=bi (kR V fd.qualname))/\∃v,bp K μ H w v/\(k=cT->∃u,o.data=.cell (bi u)/\cq v u)
 |.gone,_=>True
structure fq(K:ti)(mg:Str->hJ i2)(μ:fy nt)(st:fy al)(H:Hp):Prop where
 nd:∀(i j:f7) (a:nt) (ci cj:al),st[i]?=bi ci->st[j]?=bi cj->ci.isRo=eh->cj.isRo=eh->μ[i]?=bi a->μ[j]?=bi a->i=j
 len:st.length=μ.length
 at':∀(i:f7) (c:al) (a:nt),st[i]?=bi c->μ[i]?=bi a->mH K mg μ H c a
section
theorem qN.mono(h:μ <+: μ')(x:dy K H H'){p:KX×W}{e:Zx}(r:qN K μ H p e):qN K μ' H' p e:=by obtain⟨a,⟨v,b,c⟩,u,d,g⟩:=r;exact{a,{v,b.mono h x,c},u,d.mono h x,g}
theorem mH.keep(h:μ <+: μ')(x:dy K H H'){c:al}(e:∀o,H a=bi o->H' a=bi o)(e2:∀b q,H b=bi (kR b q)->H' b=bi (kR b q))(r:mH K mg μ H c a):mH K mg μ' H' c a:=by
 cases c with
 |lst J=>obtain⟨D,p,y⟩:=r;exact{D,e _ p,y.mono h x}
 |ro J=>
  obtain⟨D,p,y⟩:=r;refine{D,?_,y.mono h x};rcases p with⟨o,p⟩|p
  .exact .inl {o,e _ p}
  exact .inr p
 |exc c=>obtain⟨C,p,y⟩:=r;exact{C,p,e _ y}
 |dct R=>obtain⟨D,p,y⟩:=r;exact{D,e _ p,y.mono h x}
 |rod R=>obtain⟨D,o,p,y⟩:=r;exact{D,o,e _ p,y.mono h x}
 |dcx R=>obtain⟨W,p,d,y,z⟩:=r;exact{W,e _ p,d,Paired.imp' (λ_ _ q=>q.mono h x) y,z}
 |rox R=>obtain⟨W,o,p,d,y,z⟩:=r;exact{W,o,e _ p,d,Paired.imp' (λ_ _ q=>q.mono h x) y,z}
 |obj c fs=>obtain⟨C,U,D,m,p,y⟩:=r;exact{C,U,D,m,e _ p,y.mono h x}
 |tab P Y q=>
  obtain⟨V,Z,p,t,y⟩:=r;refine{V,Z,e _ p,t,?_};rcases y with y|⟨c,y,z⟩
  .exact .inl y
  exact .inr {c,y,e2 _ _ z}
 |pin k c o w=>obtain⟨V,p,g,v,y,z⟩:=r;exact{V,e _ p,λq=>let ⟨fd,cd,q1,q2,q3⟩:=g q;⟨fd,cd,q1,q2,e2 _ _ q3⟩,v,y.mono h x,z}
 |gone=>trivial
theorem mH.ro_ne{c:al}(r:mH K mg μ H c a)(h:c.isRo=eh):∃o,H a=bi o:=by
 cases c with
 |lst J=>obtain⟨D,p,y⟩:=r;exact⟨_,p⟩
 |ro J=>cases h
 |exc c=>obtain⟨C,p,y⟩:=r;exact⟨_,y⟩
 |dct R=>obtain⟨D,p,y⟩:=r;exact⟨_,p⟩
 |rod R=>obtain⟨D,o,p,y⟩:=r;exact⟨_,p⟩
 |dcx R=>obtain⟨W,p,_⟩:=r;exact⟨_,p⟩
 |rox R=>obtain⟨W,o,p,_⟩:=r;exact⟨_,p⟩
 |obj c fs=>obtain⟨C,U,D,m,p,y⟩:=r;exact⟨_,p⟩
 |tab P Y q=>obtain⟨_,Z,p,_⟩:=r;exact⟨_,p⟩
 |pin k c o w=>obtain⟨_,p,_⟩:=r;exact⟨_,p⟩
 |gone=>cases h
theorem fq.same(S:fq K mg μ st H)(e:qL H H'):fq K mg μ st H':={S.nd,S.len,λi c a Z B=>(S.at' i c a Z B).keep (af _) (fY.same e) (e a) λb q h=>e b _ h}
def fq.get(S:fq K mg μ st H){c:al}(h:st[n]?=bi c):∃a,μ[n]?=bi a/\mH K mg μ H c a:=by
 have L:n<μ.length:=by rw[<- S.len];exact(am.mp h).1
 exact{μ[n],ak L,S.at' n c _ h<|ak L}
theorem fq.push(S:fq K mg μ st H){p:nt}{o:HO}{c:al}(W:H p=b0)(D:mH K mg (μ++[p]) (dX H p o) c p):fq K mg (μ++[p]) (st++[c]) (dX H p o):=by
 have O:=cw W o;have Ci:μ <+: μ++[p]:=ag _ _;have I:∀{i:f7} {d:al} {a:nt},i<st.length->(st++[c])[i]?=bi d->(μ++[p])[i]?=bi a->st[i]?=bi d/\μ[i]?=bi a:=λ{i d a} L Z B=>by rw[bu L]at Z;rw[bu (by rw[<- S.len];exact L)]at B;exact⟨Z,B⟩
 have new:∀{i:f7} {d:al} {a:nt},¬ i<st.length->(st++[c])[i]?=bi d->(μ++[p])[i]?=bi a->i=st.length/\d=c/\a=p:=λ{i d a} L Z B=>by
  have U:i=st.length:=by have:=(am.mp Z).1;simp at this;lia
  subst U;simp at Z;rw[S.len,bA<|av _]at B;simp at B;exact{rfl,Z.symm,B.symm}
 refine{λi j a ci cj Z B k r m1 w=>?_,by simp[S.len],λi d a Z B=>?_}
 .by_cases L:i<st.length
  .obtain⟨J,Y⟩:=I L Z m1
   by_cases V:j<st.length
   .obtain⟨y1,y2⟩:=I V B w;exact S.nd i j a ci cj J y1 k r Y y2
   .obtain⟨_,_,rfl⟩:=new V B w;obtain⟨t,z⟩:=(S.at' i ci a J Y).ro_ne k;rw[W]at z;cases z
  .obtain⟨R,_,rfl⟩:=new L Z m1
   by_cases V:j<st.length
   .obtain⟨y1,y2⟩:=I V B w;obtain⟨t,z⟩:=(S.at' j cj a y1 y2).ro_ne r;rw[W]at z;cases z
   .obtain⟨e2,_,_⟩:=new V B w
    lia
 .by_cases L:i<st.length
  .obtain⟨J,Y⟩:=I L Z B;exact(S.at' i d a J Y).keep Ci (fY.same O) (O a) λb q h=>O b _ h
  .obtain⟨_,rfl,rfl⟩:=new L Z B;exact D
theorem fq.setG(S:fq K mg μ st H){c c':al}{o o':HO}(L:st[n]?=bi c)(Al:c.isRo=eh)(hm:μ[n]?=bi a)(I:H a=bi o)(O:∀q u,o≠.frz q u)(z:∀q,o≠kR a q)(J:dy K H (dX H a o'))(Zd:c'.isRo=eh)(V:mH K mg μ (dX H a o') c' a):fq K mg μ (st.set n c') (dX H a o'):=by
 have Y:=(am.mp L).1;have back:∀{i:f7} {d:al},(st.set n c')[i]?=bi d->∃d',st[i]?=bi d'/\(d'=d\/(i=n/\d=c')):=λ{i d} h=>by
  by_cases e:i=n
  .subst e;rw[bt Y]at h;exact{_,L,.inr ⟨rfl,(bf h).symm⟩}
  .rw[cy<|Zw e]at h;exact{d,h,.inl rfl}
 refine{λi j b ci cj Z B k W m1 m2=>?_,by simp[S.len],λi d b Z B=>?_}
 .obtain⟨di,D,y1⟩:=back Z;obtain⟨dj,x2,y2⟩:=back B;refine S.nd i j b di dj D x2 ?_ ?_ m1 m2
  .rcases y1 with rfl|⟨rfl,rfl⟩
   .exact k
   .rw[L]at D;cases D;exact Al
  .rcases y2 with rfl|⟨rfl,rfl⟩
   .exact W
   .rw[L]at x2;cases x2;exact Al
 .by_cases e:i=n
  .subst e;rw[bt Y]at Z
   cases Z
   rw[hm]at B;cases B
   exact V
  .rw[cy<|Zw e]at Z;have r:=S.at' i d b Z B
   by_cases hrd:d.isRo=cT
   .cases d with
    |ro t=>
     obtain⟨w,p,q⟩:=r;refine{w,?_,q.mono (af _) J};rcases p with⟨o2,p⟩|p
     .exact .inl {o2,by rw[bX (by rintro rfl;rw[I]at p;cases p;exact O _ _ rfl)];exact p}
     .exact .inr p
    |lst _=>cases hrd
    |exc _=>cases hrd
    |dct _=>cases hrd
    |rod _=>cases hrd
    |dcx _=>cases hrd
    |rox _=>cases hrd
    |obj _ _=>cases hrd
    |tab _ _ _=>cases hrd
    |pin _ _ _ _=>cases hrd
    |gone=>trivial
   .refine r.keep (af _) J (λo R=>?_) λb' q h=>by rw[bX (by rintro rfl;rw[I]at h;cases h;exact z _ rfl)];exact h
    have U:b≠a:=by rintro rfl;exact e (S.nd i n b d _ Z L (by simpa using hrd) Al B hm)
    rw[bX U];exact R
theorem fq.set(S:fq K mg μ st H){Wj:fy W}{AD:fy V}(D:st[n]?=bi (.lst ws))(hm:μ[n]?=bi a)(I:H a=bi (.lst vs))(Y:RelWs K μ H Wj AD):fq K mg μ (st.set n<|.lst Wj) (dX H a<|.lst AD):=by
 have J:dy K H (dX H a<|.lst AD):=fY.but gP I;have L:=(am.mp D).1;have back:∀{i:f7} {d:al},(st.set n<|.lst Wj)[i]?=bi d->∃d',st[i]?=bi d'/\(d'=d\/(i=n/\d=.lst Wj)):=λ{i d} h=>by
  by_cases e:i=n
  .subst e;rw[bt L]at h;exact{_,D,.inr ⟨rfl,(bf h).symm⟩}
  .rw[cy<|Zw e]at h;exact{d,h,.inl rfl}
 refine{λi j b ci cj Z B k w m1 m2=>?_,by simp[S.len],λi d b Z B=>?_}
 .obtain⟨di,O,y1⟩:=back Z;obtain⟨dj,x2,y2⟩:=back B;refine S.nd i j b di dj O x2 ?_ ?_ m1 m2
  .rcases y1 with rfl|⟨rfl,rfl⟩
   .exact k
   .rw[D]at O;cases O;rfl
  .rcases y2 with rfl|⟨rfl,rfl⟩
   .exact w
   .rw[D]at x2;cases x2;rfl
 .by_cases e:i=n
  .subst e;rw[bt L]at Z
   cases Z
   rw[hm]at B;cases B
   exact{AD,cv,Y.mono (af _) J}
  .rw[cy<|Zw e]at Z;have r:=S.at' i d b Z B
   by_cases Al:d.isRo=cT
   .cases d with
    |ro t=>
     obtain⟨z,p,q⟩:=r;refine{z,?_,q.mono (af _) J};rcases p with⟨o',p⟩|p
     .exact .inl {o',by rw[bX (by rintro rfl;rw[I]at p;cases p)];exact p}
     .exact .inr p
    |lst _=>cases Al
    |exc _=>cases Al
    |dct _=>cases Al
    |rod _=>cases Al
    |dcx _=>cases Al
    |rox _=>cases Al
    |obj _ _=>cases Al
    |tab _ _ _=>cases Al
    |pin _ _ _ _=>cases Al
    |gone=>trivial
   .refine r.keep (af _) J (λo R=>?_) λb' q h=>by rw[bX (by rintro rfl;rw[I]at h;cases h)];exact h
    have U:b≠a:=by rintro rfl;exact e (S.nd i n b d _ Z D (by simpa using Al) rfl B hm)
    rw[bX U];exact R
end
structure Rl(X:Cx)(μ:fy nt)(ρ:bR)(st:fy al)(σ:St)(H:Hp):Prop where
 env:Paired (λ(o:hJ W) (s:hJ V)=>∀w,o=bi w->∃v,s=bi v/\bp X.K μ H w v) ρ σ
 sto:fq X.K X.mg μ st H
theorem qw(h:μ <+: μ')(x:dy K H H'):∀{ρ:bR} {σ:St},Paired (λ(o:hJ W) (s:hJ V)=>∀w,o=bi w->∃v,s=bi v/\bp K μ H w v) ρ σ ->
  Paired (λ(o:hJ W) (s:hJ V)=>∀w,o=bi w->∃v,s=bi v/\bp K μ' H' w v) ρ σ
 |_,_,.nil=>.nil
 |_,_,.cons a t=>.cons (λw e=>let ⟨v,p,q⟩:=a w e;⟨v,p,q.mono h x⟩)<|qw h x t
def Rl.to{ρ:bR}(r:Rl X μ ρ st σ H)(h:μ <+: μ')(x:dy X.K H H')(s:fq X.K X.mg μ' bx H'):Rl X μ' ρ bx σ H':={qw h x r.env,s}
theorem pL:∀{ρ:bR} {σ:St} {i:f7} {w:W},Paired (λ(o:hJ W) (s:hJ V)=>∀w,o=bi w->∃v,s=bi v/\bp K μ H w v) ρ σ->ρ[i]?=bi (bi w)->∃v,σ[i]?=bi (bi v)/\bp K μ H w v
 |_,_,_,_,.nil,e=>by simp at e
 |_,_,0,w,.cons a t,e=>by simp at e;obtain⟨v,p,q⟩:=a w e;exact{v,by simp[p],q}
 |_,_,i+1,w,.cons a t,e=>by simpa using pL t (by trivial)
theorem pM{w:W}{v:V}(r:bp K μ H w v):∀{ρ:bR} {σ:St} (i:f7),Paired (λ(o:hJ W) (s:hJ V)=>∀w,o=bi w->∃v,s=bi v/\bp K μ H w v) ρ σ ->
  Paired (λ(o:hJ W) (s:hJ V)=>∀w,o=bi w->∃v,s=bi v/\bp K μ H w v) (ρ.set i<|bi w) (σ.set i<|bi v)
 |_,_,_,.nil=>.nil
 |_,_,0,.cons a t=>.cons (λL e=>{v,rfl,by cases e;exact r}) t
 |_,_,i+1,.cons a t=>.cons a<|pM r i t
structure uA(X:Cx)(ah:fy (nt×Obj))(σ:St)(c:Str)(H:Hp)(e:i2)(s:n4):Prop where
 inv:bn X ah σ H s
 ex:∃x C t B,e=.ref x/\X.mg c=bi C/\H x=b0/\B.StaysIn s.heap/\B.get? x=b0/\s.heap.FunFrames B X.stack /\
  (s.heap.TracedW B x C (.ref t)\/(∃oe vs,s.heap.get? x=bi oe/\oe.cls=C/\oe.dict=b0/\oe.data=.fields vs/\vs[1]?=bi .none/\vs[0]?=bi (.ref t))\/∃L,X.env.frame=bi L/\s.heap.TracedAtW B x C (.ref t) (w9 L)) /\
  ∀b o,s.heap.get? b=bi o->(H b≠b0\/((∃o0,X.s₀.heap.get? b=bi o0)/\b∉X.fs/\b∉X.ex)\/((∃y,X.env.cells.lookup y=bi b)/\b∉rX X.stack)\/∃p∈X.pn++ah,p.1=b)->B.get? b=bi o
def XS(X:Cx)(c:Str)(μ:fy nt)(ρ:bR)(st:fy al)(H:Hp):Prop:=
 ∀ah μ' R H' e D,μ <+: μ'->dy X.K H H'->Rl X μ' ρ st R H'->uA X ah R c H' e D->X.xe e D
def XE(X:Cx)(c:Str)(μ:fy nt)(st:fy al)(σ:St)(H:Hp):Prop:=
 ∀ah μ' H' e D,μ <+: μ'->dy X.K H H'->fq X.K X.mg μ' st H'->uA X ah σ c H' e D->X.xe e D
theorem XE.mono{c:Str}{L:fy nt}{H1:Hp}(h:XE X c μ st σ H)(p:μ <+: L)(x:dy X.K H H1):XE X c L st σ H1:=λW O H' e D a b=>h W O H' e D (p.trans a)<|x.trans b
theorem XS.mono{c:Str}{L:fy nt}{ρ:bR}{H1:Hp}(h:XS X c μ ρ st H)(p:μ <+: L)(x:dy X.K H H1):XS X c L ρ st H1:=λW O R H' e D a b=>h W O R H' e D (p.trans a)<|x.trans b
theorem XS.toE{c:Str}{ρ:bR}{G3:fy al}(h:XS X c μ ρ st H)(r:Rl X μ ρ G3 σ H):XE X c μ st σ H:=λW O H' e D a b s f=>h W O σ H' e D a b (r.to a b s) f
def RK(X:Cx)(U:fy nt->Hp->α->β->Prop)(μ:fy nt)(σ:St)(H:Hp)(Q:β->Hp->Prop):R α->Prop
 |.ok a bx=>∀μ' b H',μ <+: μ'->dy X.K H H'->fq X.K X.mg μ' bx H'->U μ' H' a b->Q b H'
 |.ex c bx=>XE X c μ bx σ H
 |.bad=>False
theorem RK.mono{U:fy nt->Hp->α->β->Prop}{L:fy nt}{H1:Hp}{Q:β->Hp->Prop}{r:R α}(h:RK X U μ σ H Q r)(p:μ <+: L)(x:dy X.K H H1):RK X U L σ H1 Q r:=by
 cases r with
 |ok a V=>exact λO b H' Z I=>h O b H' (p.trans Z) (x.trans I)
 |ex c V=>exact XE.mono h p x
 |bad=>exact h
def tG(X:Cx)(U:fy nt->Hp->α->β->Prop)(f:bR->fy al->R α)(σ:St)(H:Hp)(Q:β->Hp->Prop):Prop:=
 ∃μ Y st,Rl X μ Y st σ H/\RK X U μ σ H Q (f Y st)
abbrev si(X:Cx):fy nt->Hp->W->V->Prop:=λμ H w v=>bp X.K μ H w v
abbrev XF(X:Cx):fy nt->Hp->fy W->fy V->Prop:=λμ H w v=>RelWs X.K μ H w v
abbrev MB:fy nt->Hp->ir->ir->Prop:=λ_ _ a b=>a=b
abbrev tE(X:Cx)(f:FE):TE:=tG X (si X) f
abbrev tT(X:Cx)(f:FT):TT:=tG X MB f
abbrev UI(X:Cx)(f:FA):TA:=tG X (XF X) f
theorem RK.bind{w z:Type}{U:fy nt->Hp->α->β->Prop}{WB:fy nt->Hp->w->z->Prop}{ρ:bR}{r:R α}{k:α->fy al->R w}{Q:z->Hp->Prop}{T:β->Hp->Prop}
  (h:RK X WB μ σ H Q (r.bind k)) (l:Rl X μ ρ st σ H)
  (O:∀μ' bx x v H',μ <+: μ'->dy X.K H H'->Rl X μ' ρ bx σ H'->U μ' H' x v->RK X WB μ' σ H' Q (k x bx)->T v H'):RK X U μ σ H T r:=by
 cases r with
 |ok a bx=>exact λμ' b H' p x s q=>O μ' bx a b H' p x (l.to p x s) q (RK.mono h p x)
 |ex c bx=>exact h
 |bad=>exact h
def SK(X:Cx)(μ:fy nt)(H:Hp)(D:yL):RS->Prop
 |.nx Y st=>∀μ' R H',μ <+: μ'->dy X.K H H'->Rl X μ' Y st R H'->D.nx R H'
 |.bk Y st=>∀μ' R H',μ <+: μ'->dy X.K H H'->Rl X μ' Y st R H'->D.bk R H'
 |.ct Y st=>∀μ' R H',μ <+: μ'->dy X.K H H'->Rl X μ' Y st R H'->D.ct R H'
 |.rt w st=>∀μ' v H',μ <+: μ'->dy X.K H H'->fq X.K X.mg μ' st H'->bp X.K μ' H' w v->D.rt v H'
 |.ex c Y st=>XS X c μ Y st H
 |.bad=>False
theorem SK.mono{L:fy nt}{H1:Hp}{D:yL}{r:RS}(h:SK X μ H D r)(p:μ <+: L)(x:dy X.K H H1):SK X L H1 D r:=by
 cases r with
 |nx Y V=>exact λO b H' Z I=>h O b H' (p.trans Z) (x.trans I)
 |bk Y V=>exact λO b H' Z I=>h O b H' (p.trans Z) (x.trans I)
 |ct Y V=>exact λO b H' Z I=>h O b H' (p.trans Z) (x.trans I)
 |rt w V=>exact λO b H' Z I=>h O b H' (p.trans Z) (x.trans I)
 |ex c Y V=>exact XS.mono h p x
 |bad=>exact h
def UJ(X:Cx)(g:FS):TS:=λD σ H=>∃μ Y st,Rl X μ Y st σ H/\SK X μ H D (g Y st)
structure SE(X:Cx)(e:ow)(f:FE):Prop where
 h:PE X e (tE X f)
structure ST(X:Cx)(e:ow)(f:FT):Prop where
 h:PT X e (tT X f)
structure SW(X:Cx)(e:ow)(f:FT):Prop where
 h:PW X e (tT X f)
structure SA(X:Cx)(es:fy ow)(f:FA):Prop where
 h:PA X es (UI X f)
structure SS(X:Cx)(s:tf)(g:FS):Prop where
 h:PS X s (UJ X g)
structure SB(X:Cx)(s:fy tf)(g:FS):Prop where
 h:Fy X s (UJ X g)
theorem PE.imp{t t':TE}(h:PE X e t)(i:∀σ H Q,t' σ H Q->t σ H Q):PE X e t':=λW s σ H Q I q=>h W s σ H Q I<|i _ _ _ q
theorem PT.imp{t t':TT}(h:PT X e t)(i:∀σ H Q,t' σ H Q->t σ H Q):PT X e t':=λW s σ H Q I q=>h W s σ H Q I<|i _ _ _ q
theorem PW.imp{t t':TT}(h:PW X e t)(i:∀σ H Q,t' σ H Q->t σ H Q):PW X e t':=λz W s σ H Q I q=>h z W s σ H Q I<|i _ _ _ q
theorem PA.imp{e:fy ow}{t t':TA}(h:PA X e t)(i:∀σ H Q,t' σ H Q->t σ H Q):PA X e t':=λY W s σ H Q I q=>h Y W s σ H Q I<|i _ _ _ q
theorem PS.imp{e:tf}{t t':TS}(h:PS X e t)(i:∀D σ H,t' D σ H->t D σ H):PS X e t':=λW s σ H D I q=>h W s σ H D I<|i _ _ _ q
theorem Fy.imp{e:fy tf}{t t':TS}(h:Fy X e t)(i:∀D σ H,t' D σ H->t D σ H):Fy X e t':=λW s σ H D I q=>h W s σ H D I<|i _ _ _ q
section
variable{a b o:ow}{cN:fy ow}{fa fb fc fe:FE}{ft fu:FT}{fs:FA}
def ac(i:f7):FE:=λY st=>match Y[i]? with
 |some (bi w)=>.ok w st
 |_=>.bad
theorem aE(i:f7){pos:Pos}(d:X.N[i]?=bi x:=by rfl)(B:N8 X.env.scope x:=by first|exact Or.inl rfl|exact Z3 (Or.inl rfl)|exact Z3<|Z3 rfl)(k:(x==("__debug__":Str))=eh:=by decide)
  (U:(x==("__classdict__":Str))=eh:=by decide):SE X (.Name x pos) (ac i):={(pv i d B k U).imp λO H Q h=>by
 obtain⟨t,Y,V,r,h⟩:=h;unfold ac at h
 cases e:Y[i]? with
 |none=>rw[e]at h;exact h.elim
 |some z=>
  cases z with
  |none=>rw[e]at h;exact h.elim
  |some w=>
   rw[e]at h;obtain⟨v,R,e2⟩:=pL r.env e;exact⟨v,R,h t v H (af _) dy.refl r.sto e2⟩}
def eC(w:W):FE:=λ_ st=>.ok w st
abbrev eI(n:hG):FE:=eC<|.int n
theorem WY{w:W}{v:V}(D:PE X e (tC v))(k:∀μ H,bp X.K μ H w v):SE X e (eC w):={D.imp λO H Q h=>by obtain⟨μ,Y,B,r,h⟩:=h;exact h μ v H (af _) dy.refl r.sto<|k _ _}
def bY{i:hG}:SE X (.Constant (.int i) j pos) (eC<|.int i):=WY P3 λ_ _=>.int
def F6{k:ir}:SE X (.Constant (.bool k) j pos) (eC<|.bl k):=WY TW λ_ _=>.bl
def ly(h:x=tx l:=by decide +kernel):SE X (.Constant (.str x) j pos) (eC<|.str l):=WY Ho λ_ _=>by rw[h];exact .str
theorem MC{w:W}(h:∃u v,X.mg x=bi u/\cq v u/\∀μ H,bp X.K μ H w v)(r:Gl X x:=by rfl)(k:(x==("__debug__":Str))=eh:=by decide):SE X (.Name x pos) (eC w):=by obtain⟨u,v,a,b,c⟩:=h;exact WY (Uy ⟨u,a,b⟩ r k) c
def e2(f:W->W->fy al->R W)(fa fb:FE):FE:=λY st=>(fa Y st).bind λx st=>(fb Y st).bind λy st=>f x y st
def Hb(X:Cx)(μ:fy nt)(H:Hp)(Q:VK):R W->Prop
 |.ok w bx=>∀μ' v H',μ <+: μ'->dy X.K H H'->fq X.K X.mg μ' bx H'->bp X.K μ' H' w v->Q v H'
 |_=>False
def qQ:R α->Prop
 |.ex _ _=>False
 |_=>True
def UK(X:Cx)(f:W->W->fy al->R W):R2:=λx y H Q=>∃μ st D z,fq X.K X.mg μ st H/\bp X.K μ H D x/\bp X.K μ H z y/\Hb X μ H Q (f D z st)
structure sj(X:Cx)(g:i2->i2->Sem i2)(f:W->W->fy al->R W):Prop where
 h:mR X g (UK X f)
 n:∀x y st,qQ<|f x y st
theorem rC{Q:VK}{r:R W}(h:RK X (si X) μ σ H Q r)(n:qQ r):Hb X μ H Q r:=by
 cases r with
 |ok a V=>exact h
 |ex c V=>exact n.elim
 |bad=>exact h
theorem D'{Q:VK}(n:∀x y st,qQ<|f x y st)(h:tE X (e2 f fa fb) σ H Q):T8 (UK X f) (tE X fa) (tE X fb) σ H Q:=by obtain⟨t,Y,st,l,h⟩:=h;refine{t,Y,st,l,RK.bind h l λL W x v H1 U D I w Z=>⟨L,Y,W,I,RK.bind Z I λJ r y u H2 k z d R B=>?_⟩};exact{J,r,x,y,d.sto,w.mono k z,R,rC B<|n _ _ _}
theorem gQ{op:Operator}(R:sj X (Zs op) f)(J:SE X a fa)(U:SE X b fb):SE X (.BinOp a op b pos) (e2 f fa fb):={(T9 R.h J.h U.h).imp λ_ _ _ h=>D' R.n h}
theorem Ea(R:sj X (Zu op) f)(J:SE X a fa)(U:SE X b fb)(hm:aac op b=eh:=by first|exact HC _|rfl):SE X (.Compare a [op] [b] pos) (e2 f fa fb):={(L1 R.h J.h U.h hm).imp λ_ _ _ h=>D' R.n h}
def fD(fa:FE):FT:=λY st=>(fa Y st).bind λx st=>match x with
 |.bl k=>.ok k st
 |_=>.bad
theorem A1{Q:ir->Hp->Prop}(h:tT X (fD fa) σ H Q):tE X fa σ H λx H1=>∃k,x=.bl k/\Q k H1:=by
 obtain⟨t,Y,V,l,h⟩:=h;refine{t,Y,V,l,RK.bind h l λL W x v H1 U D I w Z=>?_}
 cases x with
 |bl k=>exact{k,w.blE,Z L k H1 (af _) dy.refl I.sto rfl}
 |_=>exact Z.elim
theorem fJ(R:sj X (Zu op) f)(J:SE X a fa)(U:SE X b fb)(hm:aac op b=eh:=by first|exact HC _|rfl):ST X (.Compare a [op] [b] pos) (fD<|e2 f fa fb):={(L3 R.h J.h U.h hm).imp λO H Q h=>by exact D' R.n<|A1 h}
theorem QQ(h:SE X e fe)(Y:∀z,isTrue e X.env z=(do let v <- z;standAt e.pos;holding [v] (truthy v)):=by intro _;rfl):ST X e (fD fe):={(P4 h.h Y).imp λO H Q h=>A1 h}
def Og(t u:FT):FT:=λY st=>(t Y st).bind λk st=>if k then u Y st else .ok eh st
def Hc(t u:FT):FT:=λY st=>(t Y st).bind λk st=>if k then .ok cT st else u Y st
def TF(t:FT):FT:=λY st=>(t Y st).bind λk st=>.ok (!k) st
def Eb(J:ST X a ft):SW X (.BoolOp .And [a] pos) ft:={LO J.h}
def C2(J:ST X a ft):SW X (.BoolOp .Or [a] pos) ft:={P5 J.h}
theorem C3(J:ST X a ft)(U:SW X (.BoolOp .And (b::cN) pos) fu):SW X (.BoolOp .And (a::b::cN) pos) (Og ft fu):={(P6 J.h U.h).imp λO H Q h=>by
 obtain⟨t,Y,V,l,h⟩:=h;refine{t,Y,V,l,RK.bind h l λL W x v H1 B D I w Z=>?_}
 cases w
 cases x with
 |true=>exact⟨L,Y,W,I,Z⟩
 |false=>exact Z L eh H1 (af _) dy.refl I.sto rfl}
theorem Ec(J:ST X a ft)(U:SW X (.BoolOp .Or (b::cN) pos) fu):SW X (.BoolOp .Or (a::b::cN) pos) (Hc ft fu):={(TX J.h U.h).imp λO H Q h=>by
 obtain⟨t,Y,V,l,h⟩:=h;refine{t,Y,V,l,RK.bind h l λL W x v H1 B D I w Z=>?_}
 cases w
 cases x with
 |false=>exact⟨L,Y,W,I,Z⟩
 |true=>exact Z L cT H1 (af _) dy.refl I.sto rfl}
def Ik(h:SW X e ft):ST X e ft:={h.h.pt}
theorem QR(J:ST X a ft):ST X (.UnaryOp .Not a pos) (TF ft):={(P7 J.h).imp λO H Q h=>by
 obtain⟨t,Y,V,l,h⟩:=h;refine{t,Y,V,l,RK.bind h l λL W x v H1 U D I w Z=>?_}
 cases w
 exact Z L _ H1 (af _) dy.refl I.sto rfl}
def sk(fa fb:FE):FE:=λY st=>(fa Y st).bind λx st=>match x with
 |.bl cT=>fb Y st
 |.bl eh=>.ok (.bl eh) st
 |_=>.bad
def Il(fa fb:FE):FE:=λY st=>(fa Y st).bind λx st=>match x with
 |.bl cT=>.ok (.bl cT) st
 |.bl eh=>fb Y st
 |_=>.bad
def Im(fa:FE):FE:=λY st=>(fa Y st).bind λx st=>match x with
 |.bl k=>.ok (.bl<|!k) st
 |_=>.bad
def Ed{op:BoolOp}(h:SE X a fa):SE X (.BoolOp op [a] pos) fa:={P8 h.h}
theorem Io(J:SE X a fa)(U:SE X (.BoolOp .And (b::cN) pos) fb):SE X (.BoolOp .And (a::b::cN) pos) (sk fa fb):={(P9 J.h U.h).imp λO H Q h=>by
 obtain⟨t,Y,V,l,h⟩:=h;refine{t,Y,V,l,RK.bind h l λL W x v H1 B D I w Z=>?_}
 cases x with
 |bl k=>
  refine{k,w.blE,?_}
  cases k with
  |true=>exact⟨L,Y,W,I,Z⟩
  |false=>exact Z L _ H1 (af _) dy.refl I.sto .bl
 |_=>exact Z.elim}
theorem UL(J:SE X a fa)(U:SE X (.BoolOp .Or (b::cN) pos) fb):SE X (.BoolOp .Or (a::b::cN) pos) (Il fa fb):={(T0 J.h U.h).imp λO H Q h=>by
 obtain⟨t,Y,V,l,h⟩:=h;refine{t,Y,V,l,RK.bind h l λL W x v H1 B D I w Z=>?_}
 cases x with
 |bl k=>
  refine{k,w.blE,?_}
  cases k with
  |false=>exact⟨L,Y,W,I,Z⟩
  |true=>exact Z L _ H1 (af _) dy.refl I.sto .bl
 |_=>exact Z.elim}
theorem UM(J:SE X a fa):SE X (.UnaryOp .Not a pos) (Im fa):={(P_ J.h).imp λO H Q h=>by
 obtain⟨t,Y,V,l,h⟩:=h;refine{t,Y,V,l,RK.bind h l λL W x v H1 U D I w Z=>?_}
 cases x with
 |bl k=>exact{k,w.blE,Z L _ H1 (af _) dy.refl I.sto .bl}
 |_=>exact Z.elim}
def QT(t:FT)(fa fb:FE):FE:=λY st=>(t Y st).bind λk st=>if k then fa Y st else fb Y st
theorem UN(D:ST X c ft)(J:SE X a fa)(U:SE X b fb):SE X (.IfExp c a b pos) (QT ft fa fb):={(Hq D.h J.h U.h).imp λO H Q h=>by
 obtain⟨t,Y,V,l,h⟩:=h;refine{t,Y,V,l,RK.bind h l λL W x v H1 B d I w Z=>?_}
 cases w
 cases x with
 |false=>exact⟨L,Y,W,I,Z⟩
 |true=>exact⟨L,Y,W,I,Z⟩}
noncomputable def W.isNon:W->ir
 |.non=>cT
 |_=>eh
def UO(fa:FE):FE:=λY st=>(fa Y st).bind λx st=>.ok (.bl x.isNon) st
def Oh(fa:FE):FE:=λY st=>(fa Y st).bind λx st=>.ok (.bl<|!x.isNon) st
def aw:FA:=λ_ st=>.ok [] st
def ae(fa:FE)(fs:FA):FA:=λY st=>(fa Y st).bind λx st=>(fs Y st).bind λxs st=>.ok (x::xs) st
theorem ba:SA X [] aw:={vy.imp λO H Q h=>by obtain⟨t,Y,V,l,h⟩:=h;exact h t [] H (af _) dy.refl l.sto .nilI}
theorem aC(J:SE X e fe)(V:SA X es fs)(d:qe (e::es) X.env=(eh,eval e X.env)::qe es X.env:=by rfl):SA X (e::es) (ae fe fs):={(k7 J.h V.h d).imp λO H Q h=>by obtain⟨t,Y,D,l,h⟩:=h;refine{t,Y,D,l,RK.bind h l λL W x v H1 U x1 I z Z=>⟨L,Y,W,I,RK.bind Z I λμ2 r k w H2 p2 x2 l2 R B=>?_⟩};exact B μ2 _ H2 (af _) dy.refl l2.sto<|.consI (z.mono p2 x2) R}
def Ee(B:fy (fy f7)):FA:=λ_ st=>.ok (B.map W.str) st
theorem MD{B:fy Str}(h:CS es B)(hz:B=ls.map tx:=by decide +kernel):SA X es (Ee ls):={(Mv h).imp λO H Q q=>by
 obtain⟨t,Y,V,l,q⟩:=q;refine q t _ H (af _) dy.refl l.sto ?_;rw[hz];clear hz h q
 induction ls with
 |nil=>exact .nilI
 |cons a r U=>exact .consI .str U}
def qW(ws:fy W)(st:fy al):R W:=if ws.length<=j' then .ok (.tup ws) st else .bad
def jW(ws:fy W)(st:fy al):R W:=if ws.length<=j' then .ok (.loc st.length) (st++[.lst ws])else .bad
def eX(fs:FA):FE:=λY st=>(fs Y st).bind λws st=>qW ws st
def dW(fs:FA):FE:=λY st=>(fs Y st).bind λws st=>jW ws st
def fq.newLst(S:fq K mg μ st H){p:nt}(W:H p=b0)(r:RelWs K μ H ws vs):fq K mg (μ++[p]) (st++[.lst ws]) (dX H p<|.lst vs):=
 S.push W ⟨vs,cv,r.mono (ag _ _)<|fY.same<|cw W _⟩
def lz(S:fq K mg μ st H){p:nt}:bp K (μ++[p]) H' (.loc st.length) (.ref p):=.locI (by rw[S.len];simp)
theorem Ip{Q:VK}(S:fq X.K X.mg μ st H)(q:RelWs X.K μ H ws vs)(h:RK X (si X) μ σ H Q (qW ws st)):vs.length<=sizeLine/\∀p H2,H p=b0->H2=dX H p (.tup vs)->Q (.ref p) H2:=by
 unfold qW at h
 by_cases J:ws.length<=j'
 .rw[ax J]at h;refine{by rw[<- q.len];exact iW J,λp H2 W e=>?_};subst e;have x:=fY.same (K:=X.K)<|cw W<|.tup vs;exact h μ _ _ (af _) x (S.same<|cw W _)<|.tupI fY.new<|q.mono (af _) x
 rw[aF J]at h;exact h.elim
theorem pN{σ:St}{Q:VK}(S:fq X.K X.mg μ st H)(q:RelWs X.K μ H ws vs)(h:RK X (si X) μ σ H Q (jW ws st)):vs.length<=sizeLine/\∀p H2,H p=b0->H2=dX H p (.lst vs)->Q (.ref p) H2:=by
 unfold jW at h
 by_cases J:ws.length<=j'
 .rw[ax J]at h;refine{by rw[<- q.len];exact iW J,λp H2 W e=>?_};subst e;exact h (μ++[p]) _ _ (ag _ _) (fY.same<|cw W _) (S.newLst W q)<|lz S
 rw[aF J]at h;exact h.elim
theorem yg{k:f7}(h:SA X es fs):SE X (.Tuple es k pos) (eX fs):={(Mq h.h).imp λO H Q h=>by obtain⟨t,Y,V,l,h⟩:=h;exact⟨t,Y,V,l,RK.bind h l λL W x v H1 U D I w Z=>Ip I.sto w Z⟩}
theorem qX(h:SA X es fs):SE X (.List es pos) (dW fs):={(Mr h.h).imp λO H Q h=>by obtain⟨t,Y,V,l,h⟩:=h;exact⟨t,Y,V,l,RK.bind h l λL W x v H1 U D I w Z=>pN I.sto w Z⟩}
end
section
def mI{Q:VK}{i:hG}(S:fq X.K X.mg μ st H)(h:Hb X μ H Q (.ok (.int i) st)):Q (.int i) H:=h μ _ H (af _) dy.refl S .int
def jD{Q:VK}{i:ir}(S:fq X.K X.mg μ st H)(h:Hb X μ H Q (.ok (.bl i) st)):Q (.bl i) H:=h μ _ H (af _) dy.refl S .bl
def su{Q:VK}{i:fy f7}(S:fq X.K X.mg μ st H)(h:Hb X μ H Q (.ok (.str i) st)):Q (.str<|tx i) H:=h μ _ H (af _) dy.refl S .str
theorem Iq{Q:VK}{r:R W}(h:Hb X μ H Q r):RK X (si X) μ σ H Q r:=by
 cases r with
 |ok a V=>exact h
 |ex c V=>exact h.elim
 |bad=>exact h
noncomputable def F7(C:hG->hG->Prop)[∀i j,Decidable<|C i j](f:hG->hG->hG):W->W->fy al->R W
 |.int i,.int j,st=>if C i j then .ok (.int<|f i j) st else .bad
 |_,_,_=>.bad
theorem A2{C C':hG->hG->Prop}[∀i j,Decidable<|C' i j]{f:hG->hG->hG}(h:mR X g (rI C λi j=>.int<|f i j))(I:∀i j,C' i j->C i j):sj X g (F7 C' f):={h.imp λx y H Q zq=>by
 obtain⟨t,V,D,z,S,Y,w,q⟩:=zq
 cases D with
 |int i=>
  cases z with
  |int j=>
   simp[F7]at q
   by_cases c:C' i j
   .rw[ax c]at q;exact{i,j,Y.intE,w.intE,I i j c,mI S q}
   rw[aF c]at q;exact q.elim
  |_=>exact q.elim
 |_=>cases z<;>exact q.elim,λx y V=>by
 unfold F7
 split
 .split<;>trivial
 trivial}
noncomputable def F8(f:hG->hG->ir):W->W->fy al->R W
 |.int i,.int j,st=>.ok (.bl<|f i j) st
 |_,_,_=>.bad
theorem Ir{f:hG->hG->ir}(h:mR X g (Hz λi j=>.bl<|f i j)):sj X g (F8 f):={h.imp λx y H Q zq=>by
 obtain⟨t,V,D,z,S,Y,w,q⟩:=zq
 cases D with
 |int i=>
  cases z with
  |int j=>exact{i,j,Y.intE,w.intE,jD S q}
  |_=>exact q.elim
 |_=>cases z<;>exact q.elim,λx y V=>by
 unfold F8
 split<;>trivial}
abbrev uV(i j:hG):Prop:=(-(2^64)<i/\i<2^64)\/(-(2^64)<j/\j<2^64)
abbrev tX:=F7 (λ_ _=>True) λi j=>i-j
abbrev XG:=F7 uV λi j=>i*j
abbrev dE:=F7 (λ_ j=>0<j) λi j=>i%j
abbrev pO:=F7 (λ_ j=>0<j/\j<1073741824) λi j=>i/j
abbrev UP:=F7 (λi j=>0<=j/\j<=1000000/\i.natAbs<2^64) λi j=>i^j.toNat
abbrev ml:=F7 (λi j=>0<=j/\j<=1000000/\i.natAbs<2^64) λi j=>i*2^j.toNat
abbrev Iu:=F7 (λ_ j=>0<=j) λi j=>i/2^j.toNat
abbrev A3:=F7 (λ_ _=>True) λi j=>aaI i j
theorem Iv{f:hG->hG->V}(h:mR X g (Hz f)):mR X g (rI (λ_ _=>True) f):=h.imp λ_ _ _ _ zv=>by obtain⟨i,j,a,b,_,q⟩:=zv;exact ⟨i,j,a,b,q⟩
def A4:sj X (Zs .Sub) tX:=A2 (Iv Ql) λ_ _ _=>trivial
theorem UQ:sj X (Zs .Mult) XG:=A2 Qm λ_ _ h=>h
theorem jE:sj X (Zs .Mod) dE:=A2 Qn λ_ _ h=>h
theorem C4:sj X (Zs .FloorDiv) pO:=A2 L0 λ_ _ h=>h
theorem UR:sj X (Zs .Pow) UP:=A2 Qo λ_ _ h=>h
theorem Oi:sj X (Zs .LShift) ml:=A2 HA λ_ _ h=>h
theorem US:sj X (Zs .RShift) Iu:=A2 Qp λ_ _ h=>h
def QU:sj X (Zs .BitAnd) A3:=A2 (Iv Qq) λ_ _ _=>trivial
def dF:W->W->fy al->R W
 |.int i,.int j,st=>.ok (.int<|i+j) st
 |.str a,.str b,st=>if a.length+b.length<=j' then .ok (.str<|a++b) st else .bad
 |.tup a,.tup b,st=>qW (a++b) st
 |.loc n,.loc m,st=>match st[n]?,st[m]? with
  |some (.lst a),bi (.lst b)=>jW (a++b) st
  |_,_=>.bad
 |_,_,_=>.bad
def ME(ws:fy W)(st:fy al):qQ (qW ws st):=by unfold qW;split<;>trivial
def Ef(ws:fy W)(st:fy al):qQ (jW ws st):=by unfold jW;split<;>trivial
theorem oP:sj X (Zs .Add) dF:={λW s O H x y v u Q I rv L zq=>by
 obtain⟨U,V,wx,wy,S,Y,w,q⟩:=zq
 cases wx with
 |int i=>
  cases wy with
  |int j=>exact Qj W s O H x y v u Q I rv L {i,j,Y.intE,w.intE,mI S q}
  |_=>exact q.elim
 |str a=>
  cases wy with
  |str b=>
   simp[dF]at q
   by_cases c:a.length+b.length<=j'
   .rw[ax c]at q;exact CI W s O H x y v u Q I rv L {_,_,Y.strE,w.strE,iW c,by rw[CU];exact su S q}
   rw[aF c]at q;exact q.elim
  |_=>exact q.elim
 |tup a=>
  cases wy with
  |tup b=>
   obtain⟨D,vs1,rfl,Z,k⟩:=Y.tupE;obtain⟨p2,vs2,rfl,B,r⟩:=w.tupE;have q':Hb X U H Q (qW (a++b) V):=q;unfold qW at q'
   by_cases c:(a++b).length<=j'
   .rw[ax c]at q';exact QO.h W s O H _ _ v u Q I rv L {D,p2,vs1,vs2,rfl,rfl,Z,B,by rw[<- k.len,<- r.len,<- aI];exact iW c,λp H2 e t=>q' U _ _ (af _) (fY.same e) (S.same e)<|.tupI t<|(k.app r).mono (af _)<|fY.same e}
   rw[aF c]at q';exact q'.elim
  |_=>exact q.elim
 |loc n=>
  cases wy with
  |loc m=>
   simp[dF]at q
   cases R:V[n]? with
   |none=>rw[R]at q;exact q.elim
   |some c1=>
    cases e2:V[m]? with
    |none=>rw[R,e2]at q;cases c1<;>exact q.elim
    |some c2=>
     cases c1 with
     |lst a=>
      cases c2 with
      |lst b=>
       rw[R,e2]at q;obtain⟨a1,d,vs1,k1,k⟩:=S.get R;obtain⟨a2,g2,vs2,k2,r⟩:=S.get e2;obtain⟨b1,z,rfl⟩:=Y.locE;obtain⟨b2,f2,rfl⟩:=w.locE;rw[d]at z;cases z
       rw[g2]at f2;cases f2
       obtain⟨J,qq⟩:=pN (σ:=O) S (k.app r)<|Iq q;exact Mu W s O H _ _ v u Q I rv L {a1,a2,vs1,vs2,rfl,rfl,k1,k2,by rw[<- aI];exact J,qq}
      |_=>rw[R,e2]at q;exact q.elim
     |_=>rw[R]at q;exact q.elim
  |_=>exact q.elim
 |_=>cases wy<;>exact q.elim,λx y V=>by
 unfold dF
 split
 .trivial
 .split<;>trivial
 .exact ME _ _
 .split
  .exact Ef _ _
  trivial
 trivial}
abbrev A5:=F8 λi j=>decide<|i<j
abbrev F9:=F8 λi j=>decide<|j<i
abbrev UT:=F8 λi j=>decide<|j<=i
def w_lt:sj X (Zu .Lt) A5:=Ir T'
def C5:sj X (Zu .Gt) F9:=Ir Ub
def MF:sj X (Zu .GtE) UT:=Ir Uc
end
mutual
noncomputable def kr:W->W->hJ ir
 |.non,.non=>bi cT
 |.bl a,.bl b=>bi (a==b)
 |.bl a,.int b=>bi ((if a then 1 else 0)==b)
 |.int a,.bl b=>bi (a==(if b then 1 else 0))
 |.int a,.int b=>bi (a==b)
 |.str a,.str b=>bi (a==b)
 |.tup a,.tup b=>eqWs a b
 |.loc _,_=>b0
 |.non,.loc _=>b0
 |.bl _,.loc _=>b0
 |.int _,.loc _=>b0
 |.str _,.loc _=>b0
 |.tup _,.loc _=>b0
 |.non,.bl _=>bi eh
 |.non,.int _=>bi eh
 |.non,.str _=>bi eh
 |.non,.tup _=>bi eh
 |.bl _,.non=>bi eh
 |.bl _,.str _=>bi eh
 |.bl _,.tup _=>bi eh
 |.int _,.non=>bi eh
 |.int _,.str _=>bi eh
 |.int _,.tup _=>bi eh
 |.str _,.non=>bi eh
 |.str _,.bl _=>bi eh
 |.str _,.int _=>bi eh
 |.str _,.tup _=>bi eh
 |.tup _,.non=>bi eh
 |.tup _,.bl _=>bi eh
 |.tup _,.int _=>bi eh
 |.tup _,.str _=>bi eh
noncomputable def eqWs:fy W->fy W->hJ ir
 |[],[]=>bi cT
 |[],_::_=>bi eh
 |_::_,[]=>bi eh
 |x::xs,y::ys=>match kr x y,eqWs xs ys with
  |some a,bi b=>bi (a&&b)
  |_,_=>b0
end
mutual
noncomputable def W.dep:W->f7
 |.tup ws=>depWs ws+1
 |_=>0
noncomputable def depWs:fy W->f7
 |[]=>0
 |w::ws=>max w.dep<|depWs ws
end
theorem rD:∀(xs L:fy W) (b:ir),eqWs xs L=bi b->∃e:f7->ir,(∀j (Z:j<xs.length) (B:j<L.length),kr xs[j] L[j]=bi (e j))/\((uP<|min xs.length L.length).all e&&xs.length==L.length)=b
 |[],[],b,h=>by cases h;exact{λ_=>cT,λj Z=>absurd Z<|fC _,rfl}
 |[],y::L,b,h=>by cases h;exact{λ_=>cT,λj Z=>absurd Z<|fC _,by simp}
 |x::xs,[],b,h=>by cases h;exact{λ_=>cT,λj _ Z=>absurd Z<|fC _,by simp}
 |x::xs,y::L,b,h=>by
  unfold eqWs at h
  cases R:kr x y with
  |none=>rw[R]at h;simp at h
  |some a=>
   cases e2:eqWs xs L with
   |none=>rw[e2]at h;simp at h
   |some c=>
    rw[R,e2]at h;simp at h;obtain⟨e,Y,U⟩:=rD xs L c e2;refine{λj=>match j with|0=>a|j+1=>e j,λj Z B=>?_,?_}
    .grind
    have m:min (x::xs).length (y::L).length=min xs.length L.length+1:=by simp only[cX];lia
    rw[m,jO,<- h,<- U];simp[mP,Bool.and_assoc]
theorem Eg{a b:W}{x:V}{k:ir}(L:a.dep<=0)(w:bp X.K μ H a x)(r:bp X.K μ H b x)(Y:kr a b=bi k):k=cT:=by
 cases a with
 |tup i=>unfold W.dep at L;lia
 |non=>cases w.nonE;cases b<;>first|(unfold kr at Y;cases Y;rfl)|cases r.blE|cases r.intE|cases r.strE|(obtain⟨_,_,z,_⟩:=r.tupE;cases z)|(unfold kr at Y;cases Y)
 |bl i=>cases w.blE;cases b<;>first|(cases r.blE;unfold kr at Y;simp at Y;exact Y)|cases r.nonE|cases r.intE|cases r.strE|(obtain⟨_,_,z,_⟩:=r.tupE;cases z)|(unfold kr at Y;cases Y)
 |int i=>cases w.intE;cases b<;>first|(cases r.intE;unfold kr at Y;simp at Y;exact Y)|cases r.nonE|cases r.blE|cases r.strE|(obtain⟨_,_,z,_⟩:=r.tupE;cases z)|(unfold kr at Y;cases Y)
 |str i=>cases w.strE;cases b<;>first|(have z:=r.strE;injection z with z;rw[HQ.mp z]at Y;unfold kr at Y;simp at Y;exact Y)|cases r.nonE|cases r.blE|cases r.intE|(obtain⟨_,_,z,_⟩:=r.tupE;cases z)|(unfold kr at Y;cases Y)
 |loc i=>cases b<;>(unfold kr at Y;cases Y)
theorem Iw(I:bn X ah σ H s):∀(n:f7) (a b:W) (x:V) (k:ir),a.dep<=n->bp X.K μ H a x->bp X.K μ H b x->kr a b=bi k->k=cT:=by
 intro n
 induction n with
 |zero=>exact λa b x k L ra rb Y=>Eg L ra rb Y
 |succ n J=>
  intro a b x k L ra rb Y
  cases a with
  |tup i=>
   obtain⟨p',AD,rfl,hS',B⟩:=ra.tupE
   cases b with
   |tup z=>
    obtain⟨p,D,e,U,r⟩:=rb.tupE
    cases e
    obtain rfl:=I.tuple_inj U hS';have he':eqWs i z=bi k:=Y;have dn:depWs i<=n:=by unfold W.dep at L;lia
    have key:∀i z D k,depWs i<=n->RelWs X.K μ H i D->RelWs X.K μ H z D->eqWs i z=bi k->k=cT:=by
     intro i
     induction i with
     |nil=>
      intro z D k _ B r Y;have R:=B.nilE;subst R
      cases z with
      |nil=>unfold eqWs at Y;cases Y;rfl
      |cons _ _=>have e2:=r.len;simp at e2
     |cons w i ih2=>
      intro z D k dn B r Y;obtain⟨x,t,rfl,Z,rxs⟩:=B.consE
      cases z with
      |nil=>have e2:=r.len;simp at e2
      |cons y z=>
       obtain⟨x2,xs2,e3,d,rys⟩:=r.consE
       cases e3
       unfold eqWs at Y
       cases R:kr w y with
       |none=>rw[R]at Y;simp at Y
       |some O=>
        cases e2:eqWs i z with
        |none=>rw[R,e2]at Y;simp at Y
        |some k2=>
         rw[R,e2]at Y;simp at Y;unfold depWs at dn;rw[<- Y,J w y x O #[0] Z d R,ih2 z t k2 #[0] rxs rys e2];rfl
    exact key i z _ k dn B r he'
   |non=>cases rb.nonE
   |bl z=>cases rb.blE
   |int z=>cases rb.intE
   |str z=>cases rb.strE
   |loc z=>unfold kr at Y;cases Y
  |_=>exact Eg (av _) ra rb Y
theorem tY:∀{ws:fy W} {j:f7} (h:j<ws.length),ws[j].dep<=depWs ws
 |w::ws,0,_=>Nat.le_max_left _ _
 |w::ws,j+1,h=>aW (tY<|Nat.lt_of_succ_lt_succ h)<|Nat.le_max_right _ _
inductive Sh(s:n4):W->i2->Prop
 |non:Sh s .non .none
 |bl (b:ir):Sh s (.bl b) (.bool b)
 |int (i:hG) (t:Tok):Sh s (.int i) (.int i t)
 |str (l:fy f7) (t:Tok):Sh s (.str l) (.str (tx l) t)
 |tup (ws:fy W) (p:nt) (br:fy i2) (h:IsTup s.heap p br.toArray):Sh s (.tup ws) (.ref p)
 |loc (n:f7) (u:i2):Sh s (.loc n) u
section
theorem uB(I:bn X ah σ H s){a:W}{x:V}(w:bp X.K μ H a x)(L:cq x u):Sh s a u:=by
 cases a with
 |non=>cases w.nonE;cases L;exact .non
 |bl i=>cases w.blE;cases L;exact .bl _
 |int i=>cases w.intE;obtain⟨t,rfl⟩:=L;exact .int _ _
 |str i=>cases w.strE;obtain⟨t,rfl⟩:=L;exact .str _ _
 |tup i=>obtain⟨p,D,rfl,d,_⟩:=w.tupE;cases L;obtain⟨R,_,B,_⟩:=I.tuple d;exact .tup _ _ _ B
 |loc i=>exact .loc _ _
open SeqAt.EqAt in
theorem Eh{a b:W}{k:ir}(J:Sh s a u)(U:Sh s b v)(D:A.units<ZE)(B:b.dep=0\/a.dep=0)(Y:kr a b=bi k):aai A s u v k:=by
 cases J<;>cases U<;>first
  |(unfold kr at Y;cases Y;done)
  |(unfold kr at Y;cases Y;with_reducible first|exact same _|exact bool_none _|exact bool_bool _ _|exact bool_int _ _ _|exact bool_str _ _ _|exact int_none _ _|exact int_bool _ _ _|exact int_int _ _ _ _|exact int_str _ _ _ _|exact str_none _ _|exact str_bool _ _ _|exact str_int _ _ _ _|exact none_bool _|exact none_int _ _|exact none_str _ _)
  |(unfold kr at Y;cases Y;(with_reducible first|refine' bool_tuple _ ?_ D|refine' int_tuple _ _ ?_ D|refine' str_tuple _ _ ?_ D|refine' tuple_none ?_ D|refine' tuple_bool _ ?_ D|refine' tuple_int _ _ ?_ D|refine' tuple_str _ _ ?_ D|refine' none_tuple ?_ D);rotate_left;assumption)
  |(unfold W.dep at B;omega)
  |skip
 rename_i i t z r
 unfold kr at Y;cases Y
 have:=str_str (A:=A) (s:=s) (tx i) t (tx z) r;rw[<- rg]at this;exact this
open SeqAt.RcAt in
theorem MG{a b:W}{k:ir}(J:Sh s a u)(U:Sh s b v)(D:A.units<ZE)(B:b.dep=0\/a.dep=0)(Y:kr a b=bi k):SeqAt.RcAt A s u v k:=by
 cases J<;>cases U<;>first
  |(unfold kr at Y;cases Y;done)
  |(unfold kr at Y;cases Y;with_reducible first|exact none_none|exact bool_none _|exact bool_bool _ _|exact bool_int _ _ _|exact bool_str _ _ _|exact int_none _ _|exact int_bool _ _ _|exact int_int _ _ _ _|exact int_str _ _ _ _|exact str_none _ _|exact str_bool _ _ _|exact str_int _ _ _ _|exact none_bool _|exact none_int _ _|exact none_str _ _)
  |(unfold kr at Y;cases Y;(with_reducible first|refine' bool_tuple _ ?_ D|refine' int_tuple _ _ ?_ D|refine' str_tuple _ _ ?_ D|refine' tuple_none ?_ D|refine' tuple_bool _ ?_ D|refine' tuple_int _ _ ?_ D|refine' tuple_str _ _ ?_ D|refine' none_tuple ?_ D);rotate_left;assumption)
  |(unfold W.dep at B;omega)
  |skip
 rename_i i t z r
 unfold kr at Y;cases Y
 have:=str_str (A:=A) (s:=s) (tx i) t (tx z) r;rw[<- rg]at this;exact this
open SeqAt.RcNeAt in
theorem F_         {a b:W}  {k:ir} (J : Sh s a u) (U : Sh s b v) (D : A.units < ZE) (B : b.dep = 0 \/ a.dep = 0) (Y : kr  a b = bi k) : SeqAt.RcNeAt A s u v (!k) := by
  cases J <;> cases U <;> first
    | (unfold kr  at Y; cases Y; done)
    | (unfold kr  at Y; cases Y; try simp only [Bool.not_true, Bool.not_false]
       with_reducible first | exact none_none | exact bool_none _ | exact bool_bool _ _ | exact bool_int _ _ _ | exact bool_str _ _ _ | exact int_none _ _ | exact int_bool _ _ _ | exact int_int _ _ _ _ | exact int_str _ _ _ _ | exact str_none _ _ | exact str_bool _ _ _ | exact str_int _ _ _ _ | exact none_bool _ | exact none_int _ _ | exact none_str _ _)
    | (unfold kr  at Y; cases Y; try simp only [Bool.not_true, Bool.not_false]
       (with_reducible first | refine' bool_tuple _ ?_ D | refine' int_tuple _ _ ?_ D | refine' str_tuple _ _ ?_ D | refine' tuple_none ?_ D | refine' tuple_bool _ ?_ D | refine' tuple_int _ _ ?_ D | refine' tuple_str _ _ ?_ D | refine' none_tuple ?_ D); rotate_left; assumption)
    | (unfold W.dep at B; omega)
    | skip
  rename_i i t z r
  unfold kr  at Y; cases Y
  have := str_str (A := A) (s := s) (tx i) t (tx z) r;rw [<- rg           ] at this;exact this
def A6{i z:fy W}{AD:fy V}{its':fy i2}{e:f7->ir}{A:xh}(U:∀(a b:W) (A:xh) (x y:V) (u v:i2) (k:ir),a.dep<=m->bp X.K μ H a x->bp X.K μ H b y->cq x u->cq y v->A.units+m<ZE->kr a b=bi k->aai A s u v k)
  (R:RelWs X.K μ H i AD) (r:RelWs X.K μ H z vs) (w':ce AD its') (w:ce vs br) (O:depWs i<=m) (D:A.units+1+m<ZE) (Z:∀j (Z:j<i.length) (B:j<z.length),kr i[j] z[j]=bi (e j)):∀j (j1:j<its'.toArray.size) (j2:j<br.toArray.size),aai A.in1 s its'.toArray[j] br.toArray[j] (e j):=λj j1 j2=>by
 have j1':j<i.length:=by rw[R.len,w'.length];simpa using j1
 have j2':j<z.length:=by rw[r.len,w.length];simpa using j2
 obtain⟨Y,J,d⟩:=R.get<|ak j1';obtain⟨x2,I,t⟩:=r.get<|ak j2';obtain⟨u1,L,v1⟩:=w'.get J;obtain⟨u2,f2,v2⟩:=w.get I;have t1:its'.toArray[j]=u1:=by simpa using (am.mp L).2
 have t2:br.toArray[j]=u2:=by simpa using (am.mp f2).2
 rw[t1,t2];exact(U i[j] z[j] A.in1 Y x2 u1 u2 (e j) (aW (tY j1') O) d t v1 v2 D<|Z j j1' j2')
theorem Iy(I:bn X ah σ H s):∀(n:f7) (a b:W) (A:xh) (x y:V) (u v:i2) (k:ir),a.dep<=n->bp X.K μ H a x->bp X.K μ H b y->cq x u->cq y v->A.units+n<ZE->kr a b=bi k->aai A s u v k:=by
 intro n
 induction n with
 |zero=>exact λa b A x y u v k L ra rb ru rv hu Y=>Eh (uB I ra ru) (uB I rb rv) hu (.inr<|by lia) Y
 |succ m t=>
  intro a b A x y u v k L ra rb ru rv hu Y
  by_cases U:b.dep=0\/a.dep=0
  .exact Eh (uB I ra ru) (uB I rb rv) #[0] U Y
  cases b with
  |tup z=>
   cases a with
   |tup i=>
    obtain⟨p',AD,rfl,hS',r'⟩:=id ra.tupE;cases ru;obtain⟨its',w',ht',_⟩:=I.tuple hS'
    obtain⟨p,D,rfl,d,r⟩:=id rb.tupE;cases rv;obtain⟨O,w,J,_⟩:=I.tuple d
    by_cases hpp:p'=p
    .subst hpp;rw[Iw I (m+1) (.tup i) (.tup z) (.ref p') k L ra rb Y];exact SeqAt.EqAt.same _
    obtain⟨e,Z,B⟩:=rD i z k<|Y;have R:=SeqAt.RcAt.tuples (A:=A) ht' J #[0] (A6 t r' r w' w (by unfold W.dep at L;lia) #[0] Z);rw[show its'.toArray.size=i.length by simp[<- w'.length,<- r'.len],show O.toArray.size=z.length by simp[<- w.length,<- r.len],B]at R;exact SeqAt.EqAt.of_refs hpp R
   |_=>exact(U<|.inr rfl).elim
  |_=>exact(U<|.inl rfl).elim
theorem Iz(I:bn X ah σ H s){a b:W}{x:V}{k:ir}(L:b.dep=0\/a.dep<=n)(ra:bp X.K μ H a x)(rb:bp X.K μ H b y)(ru:cq x u)(rv:cq y v)(hu:A.units+n<ZE)(Y:kr a b=bi k):SeqAt.RcAt A s u v k/\SeqAt.RcNeAt A s u v (!k):=by
 by_cases U:b.dep=0\/a.dep=0
 .exact{MG (uB I ra ru) (uB I rb rv) #[0] U Y,F_ (uB I ra ru) (uB I rb rv) #[0] U Y}
 cases b with
 |tup z=>
  cases a with
  |tup i=>
   obtain⟨p',AD,rfl,hS',r'⟩:=ra.tupE;cases ru;obtain⟨its',w',ht',_⟩:=I.tuple hS'
   obtain⟨p,D,rfl,d,r⟩:=rb.tupE;cases rv;obtain⟨t,w,J,_⟩:=I.tuple d
   obtain⟨e,Z,B⟩:=rD i z k<|Y;have O:depWs i+1<=n:=L.elim (λz=>(U<|.inl z).elim) id;obtain⟨m,rfl⟩:∃m,n=m+1:={n-1,by lia}
   have T:=A6 (A:=A) (Iy I m) r' r w' w #[0] #[0] Z;have R:=SeqAt.RcAt.tuples ht' J #[0] T;have R2:=SeqAt.RcNeAt.tuples ht' J #[0] T;rw[show its'.toArray.size=i.length by simp[<- w'.length,<- r'.len],show t.toArray.size=z.length by simp[<- w.length,<- r.len],B]at R R2;exact⟨R,R2⟩
  |_=>exact(U<|.inr rfl).elim
 |_=>exact(U<|.inl rfl).elim
end
def ik:W->W->fy al->R W:=λx y st=>match kr x y with
 |some k=>if y.dep=0\/x.dep<=64 then .ok (.bl k) st else .bad
 |none=>.bad
theorem mq{k:f7}(V:iy k X.A):sj X (Zu .Eq) ik:={λW s O H x y v u Q I rv L zq=>by
 obtain⟨t,B,D,z,S,Y,w,q⟩:=zq;unfold ik at q
 cases e:kr D z with
 |none=>rw[e]at q;exact q.elim
 |some b=>
  rw[e]at q;simp only at q
  by_cases c:z.dep=0\/D.dep<=64
  .rw[ax c]at q;have:=V.units;exact(Iz I c Y w rv L this e).1 X.prog X.w X.xe _ {.bl b,H,I,rfl,jD S q}
  rw[aF c]at q;exact q.elim,λx y B=>by
 unfold ik
 split
 .split<;>trivial
 trivial}
def uW:W->W->fy al->R W:=λx y st=>match kr x y with
 |some k=>if y.dep=0\/x.dep<=64 then .ok (.bl<|!k) st else .bad
 |none=>.bad
theorem C6{k:f7}(V:iy k X.A):sj X (Zu .NotEq) uW:={λW s O H x y v u Q I rv L zq=>by
 obtain⟨t,B,D,z,S,Y,w,q⟩:=zq;unfold uW at q
 cases e:kr D z with
 |none=>rw[e]at q;exact q.elim
 |some b=>
  rw[e]at q;simp only at q
  by_cases c:z.dep=0\/D.dep<=64
  .rw[ax c]at q;have:=V.units;exact(Iz I c Y w rv L this e).2 X.prog X.w X.xe _ {.bl<|!b,H,I,rfl,jD S q}
  rw[aF c]at q;exact q.elim,λx y B=>by
 unfold uW
 split
 .split<;>trivial
 trivial}
def rE(x:W):fy W->hJ ir
 |[]=>bi eh
 |y::ys=>match kr y x,rE x ys with
  |some a,bi b=>bi (a||b)
  |_,_=>b0
def xj(neg:ir)(x y:W)(st:fy al):R W:=match y with
 |.str l=>(match x with
  |.str [c]=>.ok (.bl<|if neg then !decide (c∈l)else decide (c∈l)) st
  |_=>.bad)
 |.tup L=>(match rE x L with
  |some k=>if depWs L<=63 then .ok (.bl<|if neg then !k else k) st else .bad
  |none=>.bad)
 |.loc n=>(match st[n]? with
  |some (.lst L)=>(match rE x L with
   |some k=>if depWs L<=63 then .ok (.bl<|if neg then !k else k) st else .bad
   |none=>.bad)
  |_=>.bad)
 |_=>.bad
theorem A7{x:W}:∀{L:fy W} {k:ir},rE x L=bi k->(∀(j:f7) w,L[j]?=bi w->∃b,kr w x=bi b)/\(k=cT↔∃(j:f7) (w:W),L[j]?=bi w/\kr w x=bi cT)
 |[],k,h=>by
  cases h
  exact{λj w e=>by simp at e,λz=>(by cases z),λzw=>by obtain⟨j,w,e,_⟩:=zw;exact (by simp at e)}
 |y::L,k,h=>by
  unfold rE at h
  cases R:kr y x with
  |none=>rw[R]at h;simp at h
  |some a=>
   cases e2:rE x L with
   |none=>rw[e2]at h;simp at h
   |some b=>
    rw[R,e2]at h;simp at h;obtain⟨d,t⟩:=A7 e2;refine{λj w e=>?_,λz=>?_,λ⟨j,w,e,f⟩=>?_}
    .cases j with
     |zero=>simp at e;subst e;exact⟨a,R⟩
     |succ j=>exact d j w (by trivial)
    .rw[<- h]at z
     cases a with
     |true=>exact{0,y,rfl,R}
     |false=>
      obtain⟨j,w,p,q⟩:=t.mp (by trivial);exact{j+1,w,by simpa using p,q}
    .rw[<- h]
     cases j with
     |zero=>simp at e;subst e;rw[R]at f;cases f;rfl
     |succ j=>rw[t.mpr {j,w,by simpa using e,f}];simp
theorem nU(I:bn X ah σ H s){wx:W}{x:V}(Y:bp X.K μ H wx x)(rv:cq x v)(n:f7){A:xh}(D:A.units+n<ZE)
  {L:fy W} {vs:fy V} {us:fy i2} {k:ir} (O:depWs L<=n) (rs:RelWs X.K μ H L vs) (mL:ce vs us) (J:rE wx L=bi k):∃e:i2->ir,(∀u,u∈us.toArray->aai A s u v (e u))/\us.toArray.any e=k:=by
 classical
 obtain⟨d,r⟩:=A7 J;have at':∀j u,us[j]?=bi u->∃w b,L[j]?=bi w/\kr w wx=bi b/\aai A s u v b:=λj u e=>by
  have Z:j<L.length:=by rw[rs.len,mL.length];exact((am.mp e).1)
  obtain⟨b,U⟩:=d j L[j]<|ak Z;obtain⟨y,t,B⟩:=rs.get<|ak Z;obtain⟨u',z,v1⟩:=mL.get t;rw[e]at z;cases z
  exact{_,b,ak Z,U,Iy I n L[j] wx A y x u v b (aW (tY Z) O) B Y v1 rv D U}
 refine{λu=>decide (∃(j:f7) (w:W),us[j]?=bi u/\L[j]?=bi w/\kr w wx=bi cT),λu D=>?_,?_}
 .by_cases c:∃(j:f7) (w:W),us[j]?=bi u/\L[j]?=bi w/\kr w wx=bi cT
  .show aai A s u v (decide _);rw[aR c];obtain⟨j,w,R,e2,e3⟩:=c;obtain⟨w',b,z,f2,f3⟩:=at' j u R;rw[e2]at z;cases z
   rw[e3]at f2;cases f2
   exact f3
  .show aai A s u v (decide _);rw[az c];obtain⟨j,Z,e⟩:=List.mem_iff_getElem.mp (show u∈us by simpa using D);have e':us[j]?=bi u:=by rw[ak Z,e]
   obtain⟨w',b,z,f2,f3⟩:=at' j u e'
   cases b with
   |false=>exact f3
   |true=>exact absurd ⟨j,w',e',z,f2⟩ c
 .rw[List.any_toArray]
  cases k with
  |true=>
   obtain⟨j,w,R,e2⟩:=r.mp rfl;have Z:j<us.length:=by rw[<- mL.length,<- rs.len];exact(am.mp R).1
   exact km.mpr {us[j],dS Z,aR ⟨j,w,ak Z,R,e2⟩}
  |false=>
   refine List.any_eq_false.mpr λu _ c=>?_;obtain⟨j,w,_,R,e2⟩:=of_decide_eq_true c;have:=r.mpr ⟨j,w,R,e2⟩
   cases this
theorem MH{k:f7}(V:iy k X.A):sj X (Zu .In) (xj eh):={λW s O H x y v u Q I rv ru zq=>by
 obtain⟨t,B,wx,wy,S,z,Z,q⟩:=zq;have hu:=V.units
 cases wy with
 |str l=>
  simp only[xj]at q
  split at q
  .exact FX W s O H x y v u Q I rv ru {_,_,z.strE,Z.strE,jD S q}
  exact q.elim
 |tup L=>
  simp only[xj]at q
  cases d:rE wx L with
  |none=>rw[d]at q;exact q.elim
  |some kk=>
   rw[d]at q;simp only at q
   by_cases c:depWs L<=63
   .rw[ax c]at q;obtain⟨p,D,rfl,hS,r⟩:=Z.tupE
    cases ru
    obtain⟨br,w,U,_⟩:=I.tuple hS;obtain⟨e,Y,J⟩:=nU (A:=X.A.in1) I z rv 63 (by omega) c r w d;exact SeqAt.in_tupleAt e U Y {.bl _,H,I,rfl,by rw[J];exact jD S q}
   rw[aF c]at q;exact q.elim
 |loc n=>
  simp only[xj]at q
  cases R:B[n]? with
  |none=>rw[R]at q;exact q.elim
  |some cc=>
   rw[R]at q
   cases cc with
   |lst L=>
    simp only at q
    cases d:rE wx L with
    |none=>rw[d]at q;exact q.elim
    |some kk=>
     rw[d]at q;simp only at q
     by_cases c:depWs L<=63
     .rw[ax c]at q;obtain⟨a1,g1,D,k1,r⟩:=S.get R;obtain⟨b1,f1,rfl⟩:=Z.locE;rw[g1]at f1;cases f1
      cases ru
      obtain⟨br,w,U,_⟩:=I.list<|rZ.of k1;obtain⟨e,Y,J⟩:=nU (A:=X.A.in1) I z rv 63 (by omega) c r w d;exact SeqAt.in_listAt e U.isList Y {.bl _,H,I,rfl,by rw[J];exact jD S q}
     rw[aF c]at q;exact q.elim
   |_=>exact q.elim
 |_=>exact q.elim,λx y B=>by
 unfold xj
 repeat' split
 all_goals trivial}
theorem Ei{k:f7}(V:iy k X.A):sj X (Zu .NotIn) (xj cT):={λW s O H x y v u Q I rv ru zq=>by
 obtain⟨t,B,wx,wy,S,z,Z,q⟩:=zq;have hu:=V.units
 cases wy with
 |str l=>
  simp[xj]at q
  split at q
  .exact yY W s O H x y v u Q I rv ru {_,_,z.strE,Z.strE,jD S q}
  exact q.elim
 |tup L=>
  simp only[xj]at q
  cases d:rE wx L with
  |none=>rw[d]at q;exact q.elim
  |some kk=>
   rw[d]at q;simp only at q
   by_cases c:depWs L<=63
   .rw[ax c]at q;obtain⟨p,D,rfl,hS,r⟩:=Z.tupE
    cases ru
    obtain⟨br,w,U,_⟩:=I.tuple hS;obtain⟨e,Y,J⟩:=nU (A:=X.A.in1) I z rv 63 (by omega) c r w d;exact SeqAt.notIn_tupleAt e U Y {.bl _,H,I,rfl,by rw[J];exact jD S q}
   rw[aF c]at q;exact q.elim
 |loc n=>
  simp only[xj]at q
  cases R:B[n]? with
  |none=>rw[R]at q;exact q.elim
  |some cc=>
   rw[R]at q
   cases cc with
   |lst L=>
    simp only at q
    cases d:rE wx L with
    |none=>rw[d]at q;exact q.elim
    |some kk=>
     rw[d]at q;simp only at q
     by_cases c:depWs L<=63
     .rw[ax c]at q;obtain⟨a1,g1,D,k1,r⟩:=S.get R;obtain⟨b1,f1,rfl⟩:=Z.locE;rw[g1]at f1;cases f1
      cases ru
      obtain⟨br,w,U,_⟩:=I.list<|rZ.of k1;obtain⟨e,Y,J⟩:=nU (A:=X.A.in1) I z rv 63 (by omega) c r w d;exact SeqAt.notIn_listAt e U.isList Y {.bl _,H,I,rfl,by rw[J];exact jD S q}
     rw[aF c]at q;exact q.elim
   |_=>exact q.elim
 |_=>exact q.elim,λx y B=>by
 unfold xj
 repeat' split
 all_goals trivial}
section
variable{w:qd}
theorem A8{t sl:nt}{Y:Array i2}{k U:i2}{z L:hJ hG}(B:IsTup s.heap t Y)(d:s.heap.IsSliceOf sl k U .none)(pl:Z5 k z)(V:Z5 U L)
  (Z:HT.sIx Y.size 0 z=0/\HT.sIx Y.size Y.size L=Y.size) (h:Q (.ref t) s):nz (model prog w) A (ZY (.ref t)<|.ref sl) Q E s:=by
 obtain⟨O,r,W,PF⟩:=id d;have R:s.TypeIs (.ref sl) "slice":=⟨O,r,W⟩
 unfold ZY
 try with_reducible refine cD ?_
 refine aa (wpAny_sequenceKey B.typeIs (by decide) ?_);refine aa (bZ B.typeIs d9
  (bF d9 B.typeIs entry_tuple_getitem ?_<|args_tuple_getitem _ _))
 show nz _ _ (aaL (.ref t) >>= _) _ _ s;refine aa<|tupleItemsOf_ B<|aa<|iS R<|aa<|HT.sliceApplied_gen d pl V ?_;have J:(((HT.sIx Y.size 0 z):hG)==0&&(1:hG)==1&&(HT.sIx Y.size Y.size L-HT.sIx Y.size 0 z)==Y.size)=cT:=by simp_all
 show nz _ _ (if (((HT.sIx Y.size 0 z):hG)==0&&(1:hG)==1&&(HT.sIx Y.size Y.size L-HT.sIx Y.size 0 z)==Y.size)=cT then _ else _) _ _ s;rw[ax J];exact aa<|aa<|iS B.typeIs<|aq<|aa<|iM<|aq {_,rfl,aq h}
end
section
variable{a b o:ow}{fa fb fc fe:FE}{fs:FA}
noncomputable def lstOf(st:fy al)(n:f7):hJ (fy W):=match st[n]? with
 |some (.lst ws)=>bi ws
 |some (.ro ws)=>bi ws
 |_=>b0
theorem fq.lstOf(S:fq K mg μ st H)(h:lstOf st n=bi ws):∃a vs,μ[n]?=bi a/\rZ K H a vs/\RelWs K μ H ws vs:=by
 unfold L2.lstOf at h
 cases e:st[n]? with
 |none=>rw[e]at h;cases h
 |some R=>
  rw[e]at h
  cases R with
  |lst B=>cases h;obtain⟨a,g,vs,k,r⟩:=S.get e;exact{a,vs,g,rZ.of k,r}
  |ro B=>cases h;obtain⟨a,g,vs,k,r⟩:=S.get e;exact{a,vs,g,k.sq,r}
  |exc B=>cases h
  |dct B=>cases h
  |rod B=>cases h
  |dcx B=>cases h
  |rox B=>cases h
  |obj _ _=>cases h
  |tab _ _ _=>cases h
  |pin _ _ _ _=>cases h
  |gone=>cases h
noncomputable def sv(o:hJ α)(k:α->R W):R W:=match o with
 |some a=>k a
 |none=>.bad
@[simp] theorem fQ{α:Type}(a:α)(k:α->R W):sv (bi a) k=k a:=rfl
def bd(x y:W)(st:fy al):R W:=match x,y with
 |.tup ws,.int i=>sv (uS ws i) λw=>.ok w st
 |.str l,.int i=>if l.length<=j' then sv (uS l i) (λc=>.ok (.str [c]) st)else .bad
 |.loc n,.int i=>sv (lstOf st n) λws=>sv (uS ws i) λw=>.ok w st
 |_,_=>.bad
theorem Ej{i:hG}{w:W}(r:RelWs K μ H ws vs)(h:uS ws i=bi w):∃v,uS vs i=bi v/\bp K μ H w v:=by
 unfold uS at h ⊢;rw[<- r.len]
 cases e:yP ws.length i with
 |none=>rw[e]at h;cases h
 |some k=>rw[e]at h;exact r.get h
theorem XH:LA X (UK X bd):=λkX slice W s O H x y v u Q I rv L zq d=>by
 obtain⟨t,V,wx,wy,S,Y,Z,q⟩:=zq;refine Qy kX slice W s O H x y v u Q I rv L ?_ d
 cases wy with
 |int i=>
  cases wx with
  |tup J=>
   simp[bd]at q
   cases R:uS J i with
   |none=>rw[R]at q;exact q.elim
   |some w=>
    rw[R]at q;obtain⟨p,D,rfl,U,r⟩:=Y.tupE;obtain⟨z,f,g⟩:=Ej r R;exact .inr (.inl {p,D,i,z,rfl,Z.intE,U,f,q t z H (af _) dy.refl S g})
  |str l=>
   simp[bd]at q
   by_cases c:l.length<=j'
   .rw[ax c]at q
    cases R:uS l i with
    |none=>rw[R]at q;exact q.elim
    |some w=>
     rw[R]at q;exact .inr (.inr {_,i,w,Y.strE,Z.intE,iW c,by exact R,su S q})
   rw[aF c]at q;exact q.elim
  |loc n=>
   simp[bd]at q
   cases B:lstOf V n with
   |none=>rw[B]at q;exact q.elim
   |some J=>
    rw[B]at q
    cases R:uS J i with
    |none=>rw[fQ,R]at q;exact q.elim
    |some w=>
     rw[fQ,R]at q;obtain⟨a,D,g,U,r⟩:=S.lstOf B;obtain⟨b1,k,rfl⟩:=Y.locE;rw[g]at k;cases k
     obtain⟨z,f,g⟩:=Ej r R;exact .inl {_,D,i,z,rfl,Z.intE,U,f,q t z H (af _) dy.refl S g}
  |_=>exact q.elim
 |_=>cases wx<;>exact q.elim
def oQ{o:hJ α}{k:α->R W}(h:∀a,qQ<|k a):qQ (sv o k):=by
 unfold sv
 split
 .exact h _
 trivial
def UU(x y:W)(st:fy al):qQ (bd x y st):=by
 unfold bd
 split
 .exact oQ λ_=>trivial
 .split
  .exact oQ λ_=>trivial
  trivial
 .exact oQ λ_=>oQ λ_=>trivial
 trivial
theorem eY(J:SE X a fa)(U:SE X b fb)(d:D5 b:=by intro _ _;rfl):SE X (.Subscript a b pos) (e2 bd fa fb):={(Uk XH J.h U.h d).imp λ_ _ _ h=>D' UU h}
abbrev FO:=bR->fy al->R (hJ hG)
abbrev XI:fy nt->Hp->hJ hG->hJ hG->Prop:=λ_ _ a b=>a=b
structure SO(X:Cx)(e:hJ ow)(f:FO):Prop where
 h:PO X e (tG X XI f)
def sw:FO:=λ_ st=>.ok b0 st
def kS(fa:FE):FO:=λY st=>(fa Y st).bind λx st=>match x with
 |.int i=>.ok (bi i) st
 |_=>.bad
theorem PO.imp{e:hJ ow}{t t':TO}(h:PO X e t)(i:∀σ H Q,t' σ H Q->t σ H Q):PO X e t':=λW s σ H Q I q=>h W s σ H Q I<|i _ _ _ q
theorem MI:SO X b0 sw:={L7.imp λO H Q h=>by obtain⟨t,Y,V,l,h⟩:=h;exact h t b0 H (af _) dy.refl l.sto rfl}
theorem y7(J:SE X a fa):SO X (bi a) (kS fa):={(L8 J.h).imp λO H Q h=>by
 obtain⟨t,Y,V,l,h⟩:=h;refine{t,Y,V,l,RK.bind h l λL W x v H1 U D I w Z=>?_}
 cases x with
 |int k=>exact{k,w.intE,Z L _ H1 (af _) dy.refl I.sto rfl}
 |_=>exact Z.elim}
noncomputable def mT(xs:fy α)(z L:hJ hG):fy α:=(xs.drop<|HT.sIx xs.length 0 z).take<|HT.sIx xs.length xs.length L-HT.sIx xs.length 0 z
def Hd(x:W)(z L:hJ hG)(st:fy al):R W:=match x with
 |.tup ws=>.ok (.tup<|mT ws z L) st
 |.str l=>if l.length<=j' then .ok (.str<|mT l z L) st else .bad
 |.loc n=>sv (lstOf st n) λws=>.ok (.loc st.length) (st++[.lst<|mT ws z L])
 |_=>.bad
def UV(x:W)(z L:hJ hG)(st:fy al):qQ (Hd x z L st):=by
 unfold Hd sv
 repeat' split
 all_goals trivial
def F'(fa:FE)(O r:FO):FE:=λY st=>(fa Y st).bind λx st=>(O Y st).bind λl st=>(r Y st).bind λh st=>Hd x l h st
theorem XJ:Ui X (λx z L H Q=>∃μ st wx,fq X.K X.mg μ st H/\bp X.K μ H wx x/\Hb X μ H Q (Hd wx z L st)):=by
 intro W s O H x v vl vu z L sl Q I rv d pl pu ⟨μ,st,wx,S,Y,q⟩
 cases wx with
 |tup k=>
  obtain⟨p,D,rfl,V,r⟩:=Y.tupE;have U:=r.len
  by_cases Z:HT.sIx D.length 0 z=0/\HT.sIx D.length D.length L=D.length
  .cases rv
   obtain⟨R,w,B,J⟩:=I.tuple V;have da:R.toArray.size=D.length:=w.length.symm;refine{"tuple",_,d9.lookup,B.typeIs,A8 B d pl pu (by rw[da];exact Z) ⟨.ref p,H,I,rfl,?_⟩};have e:mT k z L=k:=by unfold mT;rw[U,Z.1,Z.2,List.drop_zero,Nat.sub_zero,<- U,gH]
   have q':Hb X μ H Q (.ok (.tup<|mT k z L) st):=q;rw[e]at q';exact q' μ _ H (af _) dy.refl S Y
  refine Qu W s O H _ v vl vu z L sl Q I rv d pl pu {p,D,rfl,V,Z,λp2 hp2=>?_};have x:=fY.same (K:=X.K)<|cw hp2<|.tup<|xo D z L;have rc:RelWs X.K μ H (mT k z L) (xo D z L):=by unfold mT xo;rw[U];exact(r.drop _).take _
  exact q μ _ _ (af _) x (S.same<|cw hp2 _) (.tupI fY.new<|rc.mono (af _) x)
 |str l=>
  simp[Hd]at q
  by_cases c:l.length<=j'
  .rw[ax c]at q;exact QK W s O H _ v vl vu z L sl Q I rv d pl pu {l,Y.strE,iW c,su S q}
  rw[aF c]at q;exact q.elim
 |loc n=>
  simp[Hd]at q
  cases e0:lstOf st n with
  |none=>rw[e0]at q;exact q.elim
  |some k=>
   rw[e0]at q;obtain⟨a,D,g,V,r⟩:=S.lstOf e0;obtain⟨b1,t,rfl⟩:=Y.locE;rw[g]at t;cases t
   refine L' W s O H _ v vl vu z L sl Q I rv d pl pu {_,D,rfl,V,λp2 hp2=>?_};have rc:RelWs X.K μ H (mT k z L) (xo D z L):=by unfold mT xo;rw[r.len];exact(r.drop _).take _
   exact q (μ++[p2]) _ _ (ag _ _) (fY.same<|cw hp2 _) (S.newLst hp2 rc) (lz S)
 |_=>exact q.elim
theorem UW{d L:hJ ow}{fl fh:FO}(J:SE X a fa)(U:SO X d fl)(hh:SO X L fh):SE X (.Subscript a (.Slice d L b0 p2) pos) (F' fa fl fh):={(HG XJ J.h U.h hh.h).imp λO H Q h=>by
 obtain⟨k,Y,V,l,h⟩:=h;refine{k,Y,V,l,RK.bind h l λr W x v H1 p1 x1 I w Z=>⟨r,Y,W,I,RK.bind Z I λμ2 D y u H2 p2 x2 l2 q2 B=>{μ2,Y,D,l2,RK.bind B l2 λμ3 gW z t H3 p3 x3 l3 q3 R=>?_}⟩}
 cases q2;cases q3
 exact⟨μ3,gW,x,l3.sto,(w.mono p2 x2).mono p3 x3,rC R<|UV _ _ _ _⟩}
def Yw(X:Cx)(F:fy W->fy al->R W):fy V->Hp->VK->Prop:=λvs H Q=>∃μ st ws,fq X.K X.mg μ st H/\RelWs X.K μ H ws vs/\Hb X μ H Q (F ws st)
structure oR(X:Cx)(f:i2)(F:fy W->fy al->R W):Prop where
 h:ju X f (Yw X F)
 n:∀ws st,qQ<|F ws st
def aU(F:fy W->fy al->R W)(fs:FA):FE:=λY st=>(fs Y st).bind λws st=>F ws st
theorem Ek{Q:VK}(n:∀ws st,qQ<|F ws st)(h:tE X (aU F fs) σ H Q):Xr (Yw X F) (UI X fs) σ H Q:=by obtain⟨t,Y,st,l,h⟩:=h;exact{t,Y,st,l,RK.bind h l λL W x v H1 U D I w Z=>⟨L,W,x,I.sto,w,rC Z<|n _ _⟩}
theorem dH{id:String}(D:oR X (.builtin id) F)(hm:X.mg x=b0)(B:aaf x=bi (.builtin id))(J:SA X (e::es) fs)(r:Gl X x:=by rfl)(L:x ≠ "__name__":=by decide)(U:(x==("__debug__":Str))=eh:=by decide)
  (Y:qe (e::es) X.env=(eh,eval e X.env)::qe es X.env:=by rfl) (R:(Zt pos<|qe es X.env).any (·.1)=eh:=by rfl):SE X (.Call (.Name x p) (e::es) [] pos) (aU F fs):={(vz D.h r hm B J.h L U Y R).imp λ_ _ _ h=>Ek D.n h}
theorem dG(D:oR X (.type T) F)(hm:X.mg x=b0)(B:aaf x=bi (.type T))(J:SA X (e::es) fs)(r:Gl X x:=by rfl)(L:x ≠ "__name__":=by decide)(U:(x==("__debug__":Str))=eh:=by decide)
  (Y:qe (e::es) X.env=(eh,eval e X.env)::qe es X.env:=by rfl) (R:(Zt pos<|qe es X.env).any (·.1)=eh:=by rfl):SE X (.Call (.Name x p) (e::es) [] pos) (aU F fs):={(FJ D.h r hm B J.h L U Y R).imp λ_ _ _ h=>Ek D.n h}
def RelWs.two{a b:W}(r:RelWs K μ H [a,b] vs):∃x y,vs=[x,y]/\bp K μ H a x/\bp K μ H b y:=by obtain⟨x,D,rfl,Y,t⟩:=r.consE;obtain⟨y,L,rfl,w,z⟩:=t.consE;rw[z.nilE];exact⟨x,y,rfl,Y,w⟩
def RelWs.one{a:W}(r:RelWs K μ H [a] vs):∃x,vs=[x]/\bp K μ H a x:=by obtain⟨x,D,rfl,Y,t⟩:=r.consE;rw[t.nilE];exact⟨x,rfl,Y⟩
def b9(ws:fy W)(st:fy al):R W:=match ws with
 |[.tup xs]=>.ok (.int xs.length) st
 |[.str l]=>if l.length<=j' then .ok (.int l.length) st else .bad
 |[.loc n]=>sv (lstOf st n) λxs=>.ok (.int xs.length) st
 |_=>.bad
theorem i9:oR X (.builtin "len") b9:={λW s O H D z Q I rv zq=>by
 obtain⟨t,V,J,S,r,q⟩:=zq;unfold b9 at q
 split at q
 .obtain⟨x,rfl,Y⟩:=r.one;obtain⟨p,L,rfl,d,B⟩:=Y.tupE;exact r9 W s O H _ z Q I rv {p,L,rfl,.inr d,by rw[<- B.len];exact mI S q}
 .obtain⟨x,rfl,Y⟩:=r.one
  split at q
  .rename_i c
   exact yS W s O H _ z Q I rv {_,by rw[Y.strE],by rw[yX];exact iW c,by exact mI S q}
  exact q.elim
 .obtain⟨x,rfl,Y⟩:=r.one;unfold sv at q
  split at q
  .rename_i L R
   obtain⟨a,D,g,d,B⟩:=S.lstOf R;obtain⟨Z,k,rfl⟩:=Y.locE;rw[g]at k;cases k
   exact r9 W s O H _ z Q I rv {_,D,rfl,.inl d,by rw[<- B.len];exact mI S q}
  exact q.elim
 .exact q.elim,λJ V=>by
 unfold b9 sv
 repeat' split
 all_goals trivial}
noncomputable def xA(ws:fy W)(st:fy al):R W:=match ws with
 |[.int i,.int j]=>.ok (.int<|if j>i then j else i) st
 |_=>.bad
theorem Oj(D:X.calm=cT:=by rfl):oR X (.builtin "max") xA:={λW s O H Z z Q I rv zq=>by
 obtain⟨t,V,J,S,r,q⟩:=zq;unfold xA at q
 split at q
 .obtain⟨x,y,rfl,Y,w⟩:=r.two;exact FF D W s O H _ z Q I rv {_,_,by rw[Y.intE,w.intE],mI S q}
 exact q.elim,λJ V=>by unfold xA;split<;>trivial}
def bU(ws:fy W)(st:fy al):R W:=match ws with
 |[.tup xs]=>.ok (.tup xs) st
 |[.loc n]=>sv (lstOf st n) λxs=>.ok (.tup xs) st
 |_=>.bad
theorem io:oR X (.type "tuple") bU:={λW s O H D z Q I rv zq=>by
 obtain⟨t,V,J,S,r,q⟩:=zq;unfold bU at q
 split at q
 .obtain⟨x,rfl,Y⟩:=r.one;obtain⟨p,L,rfl,d,B⟩:=id Y.tupE;exact AH W s O H _ z Q I rv {p,L,rfl,d,q t _ H (af _) dy.refl S Y}
 .obtain⟨x,rfl,Y⟩:=r.one;unfold sv at q
  split at q
  .rename_i L R
   obtain⟨a,D,g,d,B⟩:=S.lstOf R;obtain⟨Z,k,rfl⟩:=Y.locE;rw[g]at k;cases k
   refine AO W s O H _ z Q I rv {_,D,rfl,d,λl H2 U e=>?_};subst e;have x:=fY.same (K:=X.K)<|cw U<|.tup D;exact q t _ _ (af _) x (S.same<|cw U _)<|.tupI fY.new<|B.mono (af _) x
  exact q.elim
 .exact q.elim,λJ V=>by
 unfold bU sv
 repeat' split
 all_goals trivial}
def uC(ws:fy W)(st:fy al):R W:=match ws with
 |[.tup xs]=>.ok (.loc st.length) (st++[.lst xs])
 |[.loc n]=>sv (lstOf st n) λxs=>.ok (.loc st.length) (st++[.lst xs])
 |_=>.bad
theorem C7:oR X (.type "list") uC:={λW s O H D z Q I rv zq=>by
 obtain⟨t,V,J,S,r,q⟩:=zq;unfold uC at q
 split at q
 .obtain⟨x,rfl,Y⟩:=r.one;obtain⟨p,L,rfl,d,B⟩:=id Y.tupE;refine vE W s O H _ z Q I rv {p,L,rfl,.inr d,λl H2 U e=>?_};subst e;exact q (t++[l]) _ _ (ag _ _) (fY.same<|cw U _) (S.newLst U B)<|lz S
 .obtain⟨x,rfl,Y⟩:=r.one;unfold sv at q
  split at q
  .rename_i L R
   obtain⟨a,D,g,d,B⟩:=S.lstOf R;obtain⟨Z,k,rfl⟩:=Y.locE;rw[g]at k;cases k
   refine vE W s O H _ z Q I rv {_,D,rfl,.inl d,λl H2 U e=>?_};subst e;exact q (t++[l]) _ _ (ag _ _) (fY.same<|cw U _) (S.newLst U B)<|lz S
  exact q.elim
 .exact q.elim,λJ V=>by
 unfold uC sv
 repeat' split
 all_goals trivial}
noncomputable def IA(ws:fy W)(st:fy al):R W:=match ws with
 |[.int i]=>.ok (.int i) st
 |[.bl k]=>.ok (.int<|if k then 1 else 0) st
 |_=>.bad
theorem UX:oR X (.type "int") IA:={λW s O H D z Q I rv zq=>by
 obtain⟨t,V,J,S,r,q⟩:=zq;unfold IA at q
 split at q
 .obtain⟨x,rfl,Y⟩:=r.one;exact xW W s O H _ z Q I rv (.inl {_,by rw[Y.intE],mI S q})
 .obtain⟨x,rfl,Y⟩:=r.one;exact xW W s O H _ z Q I rv (.inr {_,by rw[Y.blE],mI S q})
 exact q.elim,λJ V=>by unfold IA;split<;>trivial}
end
section
variable{a b o:ow}{fa fb fc fe:FE}{fs:FA}{ft:FT}{st1:tf}{sr sa sb:fy tf}{g g':FS}
def aY(g g':FS):FS:=λY st=>match g Y st with
 |.nx I bx=>g' I bx
 |r=>r
def cR:FS:=λY st=>.nx Y st
theorem ie:SB X [] cR:={LP.imp λD O H h=>by obtain⟨t,Y,V,l,h⟩:=h;exact h t O H (af _) dy.refl l}
def cO(Z:SS X st1 g):SB X [st1] g:={LR Z.h}
theorem bz(Z:SS X st1 g)(B:SB X sr g'):SB X (st1::sr) (aY g g'):={(Hr Z.h B.h).imp λD O H h=>by
 obtain⟨t,Y,V,l,h⟩:=h;refine{t,Y,V,l,?_};unfold aY at h
 cases e:g Y V with
 |nx I J=>rw[e]at h;exact λk R H' p x d=>{k,I,J,d,SK.mono h p x}
 |rt w J=>rw[e]at h;exact h
 |bk I J=>rw[e]at h;exact h
 |ct I J=>rw[e]at h;exact h
 |ex c I J=>rw[e]at h;exact h
 |bad=>rw[e]at h;exact h}
def R.stmt(r:R α)(ρ:bR)(k:α->fy al->RS):RS:=match r with
 |.ok a st=>k a st
 |.ex c st=>.ex c ρ st
 |.bad=>.bad
@[simp] theorem R.stmt_ok{α:Type}(a:α)(st:fy al)(ρ:bR)(k:α->fy al->RS):(R.ok a st).stmt ρ k=k a st:=rfl
theorem RK.stmt{U:fy nt->Hp->α->β->Prop}{ρ:bR}{D:yL}{r:R α}{k:α->fy al->RS}{T:β->Hp->Prop}
  (h:SK X μ H D (r.stmt ρ k)) (l:Rl X μ ρ st σ H)
  (O:∀μ' bx x v H',μ <+: μ'->dy X.K H H'->Rl X μ' ρ bx σ H'->U μ' H' x v->SK X μ' H' D (k x bx)->T v H'):RK X U μ σ H T r:=by
 cases r with
 |ok a bx=>exact λμ' b H' p x s q=>O μ' bx a b H' p x (l.to p x s) q (SK.mono h p x)
 |ex c bx=>exact XS.toE h l
 |bad=>exact h
def gy(fe:FE):FS:=λY st=>(fe Y st).stmt Y λ_ st=>.nx Y st
theorem vh(B:SE X e fe)(d:swapsWith e b0 pos.line X.env=pure eh:=by rfl):SS X (.Expr e pos) (gy fe):={(LS B.h d).imp λD O H h=>by obtain⟨t,Y,V,l,h⟩:=h;exact⟨t,Y,V,l,RK.stmt h l λL W x v H1 U J I w Z=>Z L O H1 (af _) dy.refl I⟩}
def db(fe:FE):FS:=λY st=>(fe Y st).stmt Y λw st=>.rt w st
theorem iX(B:SE X e fe):SS X (.Return (bi e) pos) (db fe):={(P' B.h).imp λD O H h=>by obtain⟨t,Y,V,l,h⟩:=h;exact⟨t,Y,V,l,RK.stmt h l λL W x v H1 U J I w Z=>Z L v H1 (af _) dy.refl I.sto w⟩}
def jB(t:FT)(g g':FS):FS:=λY st=>(t Y st).stmt Y λk st=>if k then g Y st else g' Y st
theorem jX(R:ST X c ft)(J:SB X sa g)(U:SB X sb g'):SS X (.If c sa sb pos) (jB ft g g'):={(T3 R.h J.h U.h).imp λD O H h=>by
 obtain⟨t,Y,V,l,h⟩:=h;refine{t,Y,V,l,RK.stmt h l λL W x v H1 B d I w Z=>?_}
 cases w
 cases x with
 |true=>exact⟨L,Y,W,I,Z⟩
 |false=>exact⟨L,Y,W,I,Z⟩}
abbrev FG:=W->bR->hJ bR
abbrev Ol:=fy W->bR->hJ bR
def QV(X:Cx)(f:FG):TG:=λv σ H Q=>∃μ Y st w I,Rl X μ Y st σ H/\bp X.K μ H w v/\f w Y=bi I/\∀R,Rl X μ I st R H->Q R H
def XM(X:Cx)(f:Ol):LU:=λvs σ H Q=>∃μ Y st ws I,Rl X μ Y st σ H/\RelWs X.K μ H ws vs/\f ws Y=bi I/\∀R,Rl X μ I st R H->Q R H
theorem PG.imp{t t':TG}(h:PG X e t)(i:∀v σ H Q,t' v σ H Q->t v σ H Q):PG X e t':=λW s σ H x u Q I r q=>h W s σ H x u Q I r<|i _ _ _ _ q
theorem N9.imp{e:fy ow}{t t':LU}(h:N9 X e t)(i:∀v σ H Q,t' v σ H Q->t v σ H Q):N9 X e t':=λW s σ H x u Q I r q=>h W s σ H x u Q I r<|i _ _ _ _ q
structure SG(X:Cx)(e:ow)(f:FG):Prop where
 h:PG X e (QV X f)
structure WZ(X:Cx)(e:fy ow)(f:Ol):Prop where
 h:N9 X e (XM X f)
def cF(i:f7):FG:=λw Y=>bi<|Y.set i<|bi w
theorem y8(d:X.N.Nodup)(L:X.N[i]?=bi x)(J:Fw X.env.scope x)(z:X.fn x=cT\/X.env.scope.names.lookup x=bi .local:=by first|exact .inl rfl|exact .inr rfl|assumption):SG X (.Name x pos) (cF i):={(LW d L J z).imp λv O H Q h=>by
 obtain⟨t,Y,V,w,I,l,r,e,q⟩:=h
 cases e
 exact q _ ⟨pM r i l.env,l.sto⟩}
def kT:Ol:=λws Y=>match ws with
 |[]=>bi Y
 |_=>b0
def cK(f:FG)(fs:Ol):Ol:=λws Y=>match ws with
 |w::ws=>(f w Y).bind λI=>fs ws I
 |[]=>b0
theorem qx:WZ X [] kT:={LX.imp λD O H Q h=>by
 obtain⟨t,Y,V,J,I,l,r,e,q⟩:=h
 cases J with
 |nil=>cases e;exact{r.nilE,q O l}
 |cons _ _=>cases e}
theorem fE{f:FG}{fs:Ol}(Z:SG X e f)(B:WZ X es fs)(d:(ZU (e::es) X.env).map (·.2)=assign e X.env::(ZU es X.env).map (·.2):=by rfl):WZ X (e::es) (cK f fs):={(Hs Z.h B.h d).imp λD O H Q h=>by
 obtain⟨t,Y,V,J,I,l,r,e,q⟩:=h
 cases J with
 |nil=>cases e
 |cons w J=>
  obtain⟨x,L,rfl,z,U⟩:=r.consE;simp[cK]at e
  cases R:f w Y with
  |none=>rw[R]at e;cases e
  |some ρ1=>
   rw[R]at e;exact⟨x,L,rfl,t,Y,V,w,ρ1,l,z,R,λW k=>⟨t,ρ1,V,J,I,k,U,e,q⟩⟩}
def A9(n:f7)(fs:Ol):FG:=λw Y=>match w with
 |.tup ws=>if ws.length=n then fs ws Y else b0
 |_=>b0
theorem tZ{k:f7}{fs:Ol}(D:X.calm=cT)(h:WZ X es fs)(L:(ZU es X.env).length=n:=by rfl)(z:(ZU es X.env).findIdx? (·.1)=b0:=by rfl):SG X (.Tuple es k pos) (A9 n fs):={(Qa D h.h L z).imp λv O H Q h=>by
 obtain⟨t,Y,V,w,I,l,r,e,q⟩:=h
 cases w with
 |tup J=>
  obtain⟨p,Z,rfl,d,U⟩:=r.tupE;simp only[A9]at e
  by_cases c:J.length=n
  .rw[ax c]at e;exact{p,Z,rfl,d,by rw[<- U.len];exact c,t,Y,V,J,I,l,U,e,q}
  simp_all
 |_=>cases e}
def lA(fe:FE)(f:FG):FS:=λY st=>(fe Y st).stmt Y λw st=>match f w Y with
 |some I=>.nx I st
 |none=>.bad
theorem UY{f:FG}{D:yL}(h:UJ X (lA fe f) D σ H):Ht (tE X fe) (QV X f) D σ H:=by
 obtain⟨t,Y,V,l,h⟩:=h;refine{t,Y,V,l,RK.stmt h l λL W x v H1 U J z w Z=>?_}
 cases R:f x Y with
 |none=>rw[R]at Z;exact Z.elim
 |some I=>rw[R]at Z;exact{L,Y,W,x,I,z,w,R,λk d=>Z L k H1 (af _) dy.refl d}
theorem y9{f:FG}(Y:SE X e fe)(r:SG X tg f)(d:swapsWithSole [tg] e pos.line X.env=pure eh:=by rfl)(z:swappedStores [tg] e X.env=pure b0:=by rfl)(Z:(ZU [tg] X.env).map (·.2)=[assign tg X.env]:=by rfl):SS X (.Assign [tg] e pos) (lA fe f):={(Hu Y.h r.h d z Z).imp λD O H h=>UY h}
def bG(i:f7)(fe:FE):FS:=λY st=>(fe Y st).stmt Y λw st=>.nx (Y.set i<|bi w) st
theorem QW(R:X.N.Nodup)(L:X.N[i]?=bi x)(J:Fw X.env.scope x)(B:SE X e fe)(d:swapsWith e (bi<|.Name x nA) pos.line X.env=pure eh:=by rfl)(z:X.fn x=cT\/X.env.scope.names.lookup x=bi .local:=by first|exact .inl rfl|exact .inr rfl|assumption) :
  SS X (.Assign [.Name x nA] e pos) (bG i fe):={(Qc R L J B.h d z).imp λD O H h=>by obtain⟨t,Y,V,l,h⟩:=h;exact⟨t,Y,V,l,RK.stmt h l λr W x v H1 U k I w Z=>Z r _ H1 (af _) dy.refl {pM w i I.env,I.sto}⟩}
def sy(x i v:W)(st:fy al):hJ (fy al):=match x,i with
 |.loc n,.int k=>(match st[n]? with
  |some (.lst ws)=>(yP ws.length k).map λj=>st.set n (.lst<|ws.set j v)
  |_=>b0)
 |_,_=>b0
def vN(z fi fe:FE)(f:W->W->W->fy al->hJ (fy al)):FS:=λY st=>(fe Y st).stmt Y λv st=>(z Y st).stmt Y λx st=>(fi Y st).stmt Y λi st=>match f x i v st with
 |some bx=>.nx Y bx
 |none=>.bad
def El(X:Cx)(f:W->W->W->fy al->hJ (fy al)):LV:=λo i v H Q=>∃μ st w wi k bx,fq X.K X.mg μ st H/\bp X.K μ H w o/\bp X.K μ H wi i/\bp X.K μ H k v/\f w wi k st=bi bx/\∀H',dy X.K H H'->fq X.K X.mg μ bx H'->Q H'
theorem y_:CB X (El X sy):=λW s O H o i v ov iv u Q I B Z r3 zq=>by
 obtain⟨t,V,wo,wi,wv,U,S,ro,ri,rv,e,q⟩:=zq
 cases wo with
 |loc n=>
  cases wi with
  |int k=>
   simp[sy]at e
   cases R:V[n]? with
   |none=>rw[R]at e;cases e
   |some cc=>
    rw[R]at e
    cases cc with
    |lst J=>
     simp only at e
     cases e2:yP J.length k with
     |none=>rw[e2]at e;cases e
     |some jj=>
      rw[e2]at e
      cases e
      obtain⟨z,d,D,w,r⟩:=S.get R;obtain⟨Y,L,rfl⟩:=ro.locE;rw[d]at L;cases L
      refine FZ W s O H _ i v ov iv u Q I B Z r3 {z,D,k,jj,rfl,ri.intE,w,by rw[<- r.len];exact e2,λH2 eH=>?_};subst eH;exact q _ (fY.but gP w) (S.set R d w<|r.setI jj rv)
    |_=>cases e
  |_=>cases e
 |_=>cases wi<;>cases e
theorem pP{f:W->W->W->fy al->hJ (fy al)}{i:ow}{fi:FE}{fo:FE}(xM:CB X (El X f))(k:SE X e fe)(I:SE X o fo)(L:SE X i fi)
  (J:∀v,assign (.Subscript o i nA) X.env v=(do
   let ov <- holding [v] (eval o X.env)
   let iv <- holding [v,ov] (eval i X.env)
   standAt nA
   holding [v,ov,iv] (setItem ov iv v)
   release [v,ov,iv] []):=by intro _;rfl)
  (d:swapsWithSole [.Subscript o i nA] e pos.line X.env=pure eh:=by rfl) (z:swappedStores [.Subscript o i nA] e X.env=pure b0:=by rfl) (Z:(ZU [.Subscript o i nA] X.env).map (·.2)=[assign (.Subscript o i nA) X.env]:=by rfl) :
  SS X (.Assign [.Subscript o i nA] e pos) (vN fo fi fe f):={(Hu k.h (Qb I.h L.h xM J) d z Z).imp λD O H h=>by
 obtain⟨t,Y,V,l,h⟩:=h;refine{t,Y,V,l,RK.stmt h l λr U v vv H1 p1 x1 l1 w Z=>⟨r,Y,U,l1,RK.stmt Z l1 λμ2 st2 x xv H2 p2 x2 l2 q2 B=>{μ2,Y,st2,l2,RK.stmt B l2 λμ3 gW i iv H3 p3 x3 l3 q3 h3=>?_}⟩}
 cases R:f x i v gW with
 |none=>rw[R]at h3;exact h3.elim
 |some bx=>
  rw[R]at h3;exact⟨μ3,gW,x,i,v,bx,l3.sto,q2.mono p3 x3,q3,(w.mono p2 x2).mono p3 x3,R,λH' xx S'=>h3 μ3 O H' (af _) xx<|l3.to (af _) xx S'⟩}
end
def iC(st:fy al):hJ (f7×fy W)->Prop
 |none=>True
 |some (n,ws)=>lstOf st n=bi ws
noncomputable abbrev Ga:=fy W×hJ (f7×fy W)
abbrev FI:=bR->fy al->R Ga
def za(X:Cx)(J:It)(k:Ga)(μ:fy nt)(H:Hp):Prop:=
 ∀(i:f7) μ' bx H',μ <+: μ'->dy X.K H H'->fq X.K X.mg μ' bx H'->iC bx k.2 ->
  (∀w,k.1[i]?=bi w->J.go i H'/\∀x H'',J.yld i H' x H''->dy X.K H' H''/\fq X.K X.mg μ' bx H''/\bp X.K μ' H'' w x)/\(k.1.length<=i->J.stop i H')
abbrev UZ(X:Cx):fy nt->Hp->Ga->It->Prop:=λμ H k J=>za X J k μ H
structure SI(X:Cx)(tg it:ow)(f:FI):Prop where
 h:PI X tg it (λσ H R=>tG X (UZ X) f σ H R)
theorem PI.imp{it:ow}{t t':TI}(h:PI X tg it t)(i:∀σ H Q,t' σ H Q->t σ H Q):PI X tg it t':=λW s σ H Q I q=>h W s σ H Q I<|i _ _ _ q
open Classical in
def sA(f:FG)(body:FS)(ck:hJ (f7×fy W)):fy W->FS
 |[],ρ,st=>if iC st ck then .nx ρ st else .bad
 |w::ws,ρ,st=>if iC st ck then(match f w ρ with
  |none=>.bad
  |some I=>(match body I st with
   |.nx U r=>sA f body ck ws U r
   |.ct U r=>sA f body ck ws U r
   |.bk U r=>.nx U r
   |.rt w r=>.rt w r
   |.ex c U r=>.ex c U r
   |.bad=>.bad))else .bad
def gE(fi:FI)(f:FG)(body:FS):FS:=λY st=>(fi Y st).stmt Y λk st=>sA f body k.2 k.1 Y st
section
variable{a b o:ow}{fa fb fe:FE}{fs:FA}{ft:FT}{g:FS}{f:FG}{fi:FI}
theorem mU(L:SI X tg iter fi)(hg:SG X tg f)(U:SB X body g)(R:X.calm=cT:=by rfl)(W:PassesOwn #[2] X.A X.env X.xe:=by passes_own)(d:∀x,Z9 iter X.env x=pure x:=by intro _;rfl):SS X (.For tg iter body [] pos) (gE fi f g):={(Qe W R L.h hg.h U.h d).imp λD O H h=>by
 obtain⟨t,Y,V,l,h⟩:=h;refine{t,Y,V,l,RK.stmt h l λr B k J H1 p1 x1 l1 wk Z=>?_};refine{λi m σ' H'=>i<=k.1.length/\m=k.1.length-i/\∃μ' I bx,r <+: μ'/\dy X.K H1 H'/\Rl X μ' I bx σ' H'/\SK X μ' H' D (sA f g k.2 (k.1.drop i) I bx),
  ⟨_,cG _,rfl,r,Y,B,af _,dy.refl,l1,Z⟩,?_}
 rintro i m σ' H' ⟨L,rfl,μ',I,bx,pm,xm,lm,hm⟩
 by_cases hlt:i<k.1.length
 .rw[cx hlt]at hm;unfold sA at hm
  by_cases ck:iC bx k.2
  .rw[ax ck]at hm;obtain⟨go,yld⟩:=(wk i μ' bx H' pm xm lm.sto ck).1 _<|ak hlt
   cases hf:f k.1[i] I with
   |none=>rw[hf]at hm;exact hm.elim
   |some ρ2=>
    rw[hf]at hm;simp only at hm;refine .inr {go,λσ2 H2=>∃μ2 ρ3 st2,μ' <+: μ2/\dy X.K H' H2/\Rl X μ2 ρ3 st2 σ2 H2/\SK X μ2 H2 D (sA f g k.2 (k.1.drop<|i+1) ρ3 st2),λσ2 H2 ⟨μ2,ρ3,st2,z,q2,q3,q4⟩=>
     ⟨_,by omega,hlt,rfl,μ2,ρ3,st2,pm.trans z,xm.trans q2,q3,q4⟩,λx H2 hy=>?_}
    obtain⟨y1,y2,y3⟩:=yld x H2 hy;refine{μ',I,bx,k.1[i],ρ2,lm.to (af _) y1 y2,y3,hf,λσ2 l2=>⟨μ',ρ2,bx,l2,?_⟩}
    cases e:g ρ2 bx with
    |nx ρ3 gW=>rw[e]at hm;exact λμ4 σ4 H4 p4 x4 l4=>{μ4,ρ3,gW,p4,y1.trans x4,l4,SK.mono hm p4<|y1.trans x4}
    |ct ρ3 gW=>rw[e]at hm;exact λμ4 σ4 H4 p4 x4 l4=>{μ4,ρ3,gW,p4,y1.trans x4,l4,SK.mono hm p4<|y1.trans x4}
    |bk ρ3 gW=>rw[e]at hm;exact λμ4 σ4 H4 p4 x4 l4=>hm μ4 σ4 H4 p4 (y1.trans x4) l4
    |rt w gW=>rw[e]at hm;exact λμ4 v4 H4 p4 x4=>hm μ4 v4 H4 p4 (y1.trans x4)
    |ex c ρ3 gW=>rw[e]at hm;exact XS.mono hm (af _) y1
    |bad=>rw[e]at hm;exact hm
  rw[aF ck]at hm;exact hm.elim
 have hi':i=k.1.length:=by lia
 subst hi';rw[g_<|av _]at hm;unfold sA at hm
 by_cases ck:iC bx k.2
 .rw[ax ck]at hm;exact .inl {(wk _ μ' bx H' pm xm lm.sto ck).2<|av _,hm μ' σ' H' (af _) dy.refl lm}
 rw[aF ck]at hm;exact hm.elim}
def gF(t:FT)(body:FS):f7->FS
 |0,_,_=>.bad
 |n+1,ρ,st=>(t ρ st).stmt ρ λk st=>if k then(match body ρ st with
   |.nx U r=>gF t body n U r
   |.ct U r=>gF t body n U r
   |.bk U r=>.nx U r
   |.rt w r=>.rt w r
   |.ex c U r=>.ex c U r
   |.bad=>.bad)else .nx ρ st
open Classical in
def rF(t:FT)(body:FS):FS:=λY st=>if h:∃n,gF t body n Y st≠.bad then gF t body h.choose Y st else .bad
theorem pQ(t:FT)(g:FS):∀(n:f7) (ρ:bR) (st:fy al),gF t g n ρ st≠.bad->gF t g (n+1) ρ st=gF t g n ρ st
 |0,_,_,h=>absurd rfl h
 |n+1,ρ,st,h=>by
  unfold gF at h ⊢
  cases e:t ρ st with
  |ex c W=>rfl
  |bad=>rfl
  |ok k W=>
   rw[e]at h;simp at h ⊢
   cases k with
   |false=>rfl
   |true=>
    cases e2:g ρ W with
    |nx U r=>rw[e2]at h;exact pQ t g n U r h
    |ct U r=>rw[e2]at h;exact pQ t g n U r h
    |_=>rfl
def yh{t:FT}{m:f7}{ρ:bR}(h:gF t g n ρ st≠.bad)(hm:n<=m):gF t g m ρ st=gF t g n ρ st:=by
 induction hm with
 |refl=>rfl
 |@step m _ ih=>rw[pQ t g m ρ st (by rw[ih];exact h),ih]
theorem Gb{t:FT}{ρ:bR}{r:RS}(h:gF t g n ρ st=r)(V:r≠.bad):rF t g ρ st=r:=by
 have J:∃n,gF t g n ρ st≠.bad:={n,by rw[h];exact V}
 unfold rF;rw[tK J];have b:=yh (m:=max J.choose n) (by rw[h];exact V)<|Nat.le_max_right _ _;rw[<- (yh J.choose_spec<|Nat.le_max_left J.choose n),b,h]
theorem A_{t:FT}{D:yL}:∀(n:f7) (σ:St) (H:Hp) (μ:fy nt) (ρ:bR) (st:fy al),Rl X μ ρ st σ H->SK X μ H D (gF t g n ρ st)->Hv (tT X t) (UJ X g) D σ H:=by
 refine λn σ H μ ρ st l h=>{λm R H'=>∃O I J,Rl X O I J R H'/\SK X O H' D (gF t g m I J),⟨n,μ,ρ,st,l,h⟩,?_}
 rintro m R H' ⟨O,I,J,l',V⟩
 cases m with
 |zero=>exact V.elim
 |succ m=>
  refine{O,I,J,l',RK.stmt V l' λL W k v H1 B x1 Y d Z=>?_}
  cases d
  cases k with
  |false=>exact Z L R H1 (af _) dy.refl Y
  |true=>
   refine{λσ2 H2=>∃μ2 U r,Rl X μ2 U r σ2 H2/\SK X μ2 H2 D (gF t g m U r),λσ2 H2 z=>{m,dR m,z},L,I,W,Y,?_}
   cases e:g I W with
   |nx ρ3 gW=>rw[e]at Z;exact λμ4 σ4 H4 p4 x4 l4=>{μ4,ρ3,gW,l4,SK.mono Z p4 x4}
   |ct ρ3 gW=>rw[e]at Z;exact λμ4 σ4 H4 p4 x4 l4=>{μ4,ρ3,gW,l4,SK.mono Z p4 x4}
   |bk ρ3 gW=>rw[e]at Z;exact Z
   |rt w gW=>rw[e]at Z;exact Z
   |ex c ρ3 gW=>rw[e]at Z;exact Z
   |bad=>rw[e]at Z;exact Z
theorem IB{t:FT}(R:ST X c t)(U:SB X body g)(W:PassesOwn #[2] X.A X.env X.xe:=by passes_own):SS X (.While c body [] pos) (rF t g):={(Hw W R.h U.h).imp λD O H h=>by
 obtain⟨r,Y,V,l,h⟩:=h;unfold rF at h
 by_cases J:∃n,gF t g n Y V≠.bad
 .rw[tK J]at h;exact A_ _ O H r Y V l h
 rw[dif_neg J]at h;exact h.elim}
def IC(fe:FE):FI:=λY st=>(fe Y st).bind λx st=>match x with
 |.tup ws=>.ok (ws,b0) st
 |_=>.bad
theorem ID(B:SE X e fe):SI X tg e (IC fe):={(Qd B.h).imp λO H R h=>by
 obtain⟨t,Y,V,l,h⟩:=h;refine{t,Y,V,l,RK.bind h l λL W x v H1 p1 x1 l1 d Z=>?_}
 cases x with
 |tup J=>
  obtain⟨p,D,rfl,hS,r⟩:=d.tupE;refine{p,rfl,⟨D,hS⟩,Z L _ H1 (af _) dy.refl l1.sto λi k bx H' pp xx S _=>⟨λw z=>?_,λU=>{D,xx _ _ hS,by rw[<- r.len];exact U}⟩};obtain⟨v,g1,g2⟩:=(r.mono pp xx).get z;refine⟨{D,v,xx _ _ hS,g1},λy H'' I=>?_⟩;obtain⟨rfl,I⟩:=I;have:=I D<|xx _ _ hS;rw[g1]at this;cases this
  exact{dy.refl,S,g2}
 |_=>exact Z.elim}
def Om(fe:FE):FI:=λY st=>(fe Y st).bind λx st=>match x with
 |.loc n=>(match lstOf st n with
  |some ws=>.ok (ws,bi (n,ws)) st
  |none=>.bad)
 |_=>.bad
theorem QX(k:SE X e fe):SI X tg e (Om fe):={(LY k.h).imp λO H R h=>by
 obtain⟨t,Y,V,l,h⟩:=h;refine{t,Y,V,l,RK.bind h l λL W x v H1 p1 x1 l1 d Z=>?_}
 cases x with
 |loc n=>
  obtain⟨a,J,rfl⟩:=d.locE;simp only at Z
  cases B:lstOf W n with
  |none=>rw[B]at Z;exact Z.elim
  |some ws=>
   rw[B]at Z;obtain⟨a',vs0,g0,hS0,r0⟩:=l1.sto.lstOf B;rw[J]at g0;cases g0
   refine{a,rfl,⟨vs0,hS0⟩,Z L _ H1 (af _) dy.refl l1.sto λi I bx H' pp xx S ck=>?_};obtain⟨a2,D,g2,hS,r⟩:=S.lstOf ck;have:I[n]?=bi a:=pre_get pp J;rw[g2]at this;cases this
   refine{λw z=>?_,λU=>⟨D,hS,by rw[<- r.len];exact U⟩};obtain⟨v,g1,g3⟩:=r.get z;refine⟨⟨D,v,hS,g1⟩,λy H'' hy=>?_⟩;obtain⟨rfl,hy⟩:=hy;have:=hy D hS;rw[g1]at this;cases this
   exact{dy.refl,S,g3}
 |_=>exact Z.elim}
noncomputable def iD(z:hG)(n:f7):fy W:=(uP n).map λ(i:f7)=>W.int<|z+i
def bE(z:hG)(n:f7):(iD z n).length=n:=by simp[iD]
theorem C8{z:hG}:za X (WT z n) (iD z n,b0) μ H:=λi O J H' r t S _=>by
 refine{λw Z=>?_,λU=>by rw[bE]at U;exact U};have L:i<n:=by have:=(am.mp Z).1;rw[bE]at this;exact this
 refine{L,λy H'' W=>?_};obtain⟨rfl,rfl⟩:=W;have e:w=.int (z+i):=by unfold iD at Z;rw[ai,bv L]at Z;exact(bf Z).symm
 subst e;exact{dy.refl,S,.int}
def bq(fs:FA):FI:=λY st=>(fs Y st).bind λws st=>match ws with
 |[.int j]=>if -(2^62)<=j/\j<2^62 then .ok (iD 0 j.toNat,b0) st else .bad
 |_=>.bad
theorem kb(hm:X.mg "range"=b0)(J:SA X [a] fs)(r:Gl X "range":=by rfl)(d:qe [a] X.env=[(eh,eval a X.env)]:=by rfl):SI X tg (.Call (.Name "range" p) [a] [] pos) (bq fs):={(FB r hm J.h d).imp λO H R h=>by
 obtain⟨t,Y,V,l,h⟩:=h;refine{t,Y,V,l,RK.bind h l λL W x v H1 U D I w Z=>?_}
 split at Z
 .obtain⟨y,rfl,k⟩:=w.one
  split at Z
  .rename_i c
   exact{_,by rw[k.intE],c.1,c.2,Z L _ H1 (af _) dy.refl I.sto C8}
  exact Z.elim
 exact Z.elim}
end
mutual
noncomputable def W.und(n:f7):W->ir
 |.loc m=>decide (m<n)
 |.tup ws=>undWs n ws
 |_=>cT
noncomputable def undWs(n:f7):fy W->ir
 |[]=>cT
 |w::ws=>w.und n&&undWs n ws
end
def al.und(n:f7):al->ir
 |.lst ws=>undWs n ws
 |.ro ws=>undWs n ws
 |.exc _=>cT
 |.dct kvs=>undWs n (kvs.map λp=>p.2)
 |.rod kvs=>undWs n (kvs.map λp=>p.2)
 |.dcx kvs=>undWs n (kvs.map λp=>p.2)
 |.rox kvs=>undWs n (kvs.map λp=>p.2)
 |.obj _ fs=>undWs n (fs.map λp=>p.2)
 |.tab _ _ _=>cT
 |.pin _ _ _ w=>w.und n
 |.gone=>cT
section
mutual
theorem bp.und:∀{w:W} {v:V},bp K μ H w v->w.und μ.length=cT
 |.non,_,_=>by simp[W.und]
 |.bl _,_,_=>by simp[W.und]
 |.int _,_,_=>by simp[W.und]
 |.str _,_,_=>by simp[W.und]
 |.tup _,_,r=>by obtain⟨p,D,_,_,c⟩:=r.tupE;unfold W.und;exact RelWs.und c
 |.loc _,_,r=>by obtain⟨a,e,_⟩:=r.locE;unfold W.und;exact aR (am.mp e).1
theorem RelWs.und:∀{ws:fy W} {vs:fy V},RelWs K μ H ws vs->undWs μ.length ws=cT
 |[],_,_=>by unfold undWs;rfl
 |_::_,_,r=>by obtain⟨x,D,_,b,c⟩:=r.consE;unfold undWs;rw[bp.und b,RelWs.und c];rfl
end
mutual
theorem bp.take:∀{w:W} {v:V},bp K μ H w v->w.und n=cT->bp K (μ.take n) H w v
 |.non,_,r,_=>by rw[r.nonE];exact .non
 |.bl _,_,r,_=>by rw[r.blE];exact .bl
 |.int _,_,r,_=>by rw[r.intE];exact .int
 |.str _,_,r,_=>by rw[r.strE];exact .str
 |.tup _,_,r,b=>by obtain⟨p,D,rfl,h,c⟩:=r.tupE;unfold W.und at b;exact .tupI h (RelWs.takeN c b)
 |.loc _,_,r,b=>by obtain⟨a,e,rfl⟩:=r.locE;unfold W.und at b;exact .locI (by rw[cW<|of_decide_eq_true b];exact e)
theorem RelWs.takeN:∀{ws:fy W} {vs:fy V},RelWs K μ H ws vs->undWs n ws=cT->RelWs K (μ.take n) H ws vs
 |[],_,r,_=>by rw[r.nilE];exact .nilI
 |_::_,_,r,b=>by obtain⟨x,D,rfl,I,B⟩:=r.consE;unfold undWs at b;rw[cJ]at b;exact .consI (bp.take I b.1)<|RelWs.takeN B b.2
end
theorem KX.und_w(k:KX)(n:f7):k.w.und n=cT:=by
 have L:∀B:fy hG,undWs n (B.map W.int)=cT:=λB=>by
  induction B with
  |nil=>rfl
  |cons a l U=>show(cT&&undWs n (l.map W.int))=cT;rw[U];rfl
 cases k with
 |bo b=>rfl
 |fl B=>unfold KX.w W.und;exact L B
 |pr i B=>unfold KX.w W.und undWs;rw[show(W.int i).und n=cT from rfl];unfold undWs;rw[show(W.tup<|B.map W.int).und n=cT by exact L B];rfl
theorem vO:∀{kvs:fy (KX×W)} {es:fy Zx},Paired (qN K μ H) kvs es->undWs μ.length (kvs.map λp=>p.2)=cT
 |_,_,.nil=>rfl
 |_,_,.cons r t=>by obtain⟨_,_,v,h,_⟩:=r;show(_&&undWs _ _)=cT;rw[h.und,vO t];rfl
theorem t5:∀{kvs:fy (KX×W)} {es:fy Zx},Paired (qN K μ H) kvs es->undWs n (kvs.map λp=>p.2)=cT->Paired (qN K (μ.take n) H) kvs es
 |_,_,.nil,_=>.nil
 |_,_,.cons r t,b=>by obtain⟨a,⟨u,c,d⟩,v,h,g⟩:=r;have b:(_&&undWs n _)=cT:=b;rw[cJ]at b;exact .cons {a,{u,bp.take c<|KX.und_w _ n,d},v,bp.take h b.1,g}<|t5 t b.2
theorem mH.und{c:al}(r:mH K mg μ H c a):c.und μ.length=cT:=by
 cases c with
 |lst J=>obtain⟨D,_,y⟩:=r;exact y.und
 |ro J=>obtain⟨D,_,y⟩:=r;exact y.und
 |exc c=>rfl
 |dct R=>obtain⟨D,_,y⟩:=r;exact y.und
 |rod R=>obtain⟨D,_,_,y⟩:=r;exact y.und
 |dcx R=>obtain⟨W,_,_,y,_⟩:=r;exact vO y
 |rox R=>obtain⟨W,_,_,_,y,_⟩:=r;exact vO y
 |obj _ fs=>obtain⟨_,_,D,_,_,y⟩:=r;exact y.und
 |tab _ _ _=>rfl
 |pin _ _ _ _=>obtain⟨_,_,_,v,y,_⟩:=r;exact y.und
 |gone=>rfl
theorem mH.take{c:al}(r:mH K mg μ H c a)(b:c.und n=cT):mH K mg (μ.take n) H c a:=by
 cases c with
 |lst J=>obtain⟨D,x,y⟩:=r;exact{D,x,y.takeN b}
 |ro J=>obtain⟨D,x,y⟩:=r;exact{D,x,y.takeN b}
 |exc c=>exact r
 |dct R=>obtain⟨D,x,y⟩:=r;exact{D,x,y.takeN b}
 |rod R=>obtain⟨D,o,x,y⟩:=r;exact{D,o,x,y.takeN b}
 |dcx R=>obtain⟨W,x,d,y,z⟩:=r;exact{W,x,d,t5 y b,z}
 |rox R=>obtain⟨W,o,x,d,y,z⟩:=r;exact{W,o,x,d,t5 y b,z}
 |obj _ fs=>obtain⟨C,U,D,m,x,y⟩:=r;exact{C,U,D,m,x,y.takeN b}
 |tab _ _ _=>exact r
 |pin _ _ _ _=>obtain⟨V,p,g,v,y,z⟩:=r;exact{V,p,g,v,y.take b,z}
 |gone=>trivial
end
theorem iA.ex{w:qd}{o:HO}(x:iA P w H h a o):∃r,h.get? a=bi r:=by
 cases o with
 |lst D=>obtain⟨_,_,_,_,e⟩:=x;exact⟨_,e⟩
 |tup D=>obtain⟨_,_,_,o,e,_⟩:=x;exact⟨_,e⟩
 |dK R=>obtain⟨_,_,_,_,o,_,_,e,_⟩:=x;exact⟨_,e⟩
 |dT R=>obtain⟨_,_,_,_,o,_,_,e,_⟩:=x;exact⟨_,e⟩
 |set S n=>obtain⟨o,_,_,_,e,_⟩:=x;exact⟨_,e⟩
 |ins C U fs=>obtain⟨_,_,_,e,_⟩:=x;exact⟨_,e⟩
 |own y=>obtain⟨_,e⟩:=x;exact⟨_,e⟩
 |xd fs=>obtain⟨_,⟨_,_,_,e,_⟩,_⟩:=x;exact⟨_,e⟩
 |rng z L=>obtain⟨_,_,_,e⟩:=x;exact⟨_,e⟩
 |frz r u=>obtain⟨e,_⟩:=x;exact⟨_,e⟩
 |tbl Z=>exact⟨_,x⟩
 |met f y=>exact⟨_,x⟩
 |ext t=>obtain⟨_,⟨_,e⟩,_⟩:=x;exact⟨_,e⟩
def On(st bx:fy al)(ws:fy W):Prop:=undWs st.length ws=cT/\st.length<=bx.length/\∀(i:f7),i<st.length->bx[i]?=st[i]?\/∃c,bx[i]?=bi c/\c.und st.length=cT
open Classical in
noncomputable def kU(st bx:fy al)(ws:fy W):fy al:=if On st bx ws then bx.take st.length else bx
theorem lB(S:fq K mg μ st H)(S':fq K mg μ' bx H')(p:μ <+: μ')(r:RelWs K μ' H' ws vs) :
  ∃J,μ <+: J/\fq K mg J (kU st bx ws) H'/\RelWs K J H' ws vs:=by
 unfold kU
 by_cases k:On st bx ws
 .rw[ax k];obtain⟨U,W,z⟩:=k;have e:μ'.take st.length=μ:=by obtain⟨t,rfl⟩:=p;rw[S.len,List.take_left]
  refine{μ'.take st.length,by rw[e];exact af _,{λi j a ci cj Z B I V d w=>?_,by rw[bh,bh,S'.len],λi c a Z B=>?_},r.takeN U}
  .have L:i<st.length:=by have:=(am.mp Z).1;rw[bh]at this;lia
   have O:j<st.length:=by have:=(am.mp B).1;rw[bh]at this;lia
   rw[cW L]at Z d;rw[cW O]at B w;exact S'.nd i j a ci cj Z B I V d w
  have L:i<st.length:=by have:=(am.mp Z).1;rw[bh]at this;lia
  rw[cW L]at Z B;refine(S'.at' i c a Z B).take ?_;rcases z i L with q|⟨Y,q,b⟩
  .rw[Z]at q;obtain⟨a0,R,D⟩:=S.get q.symm;have:=D.und;rw[S.len];exact this
  simp_all
 rw[aF k];exact⟨μ',p,S',r⟩
def eL(N:f7)(body:FS)(ws:fy W)(st:fy al):R W:=match body (ws.map bi++rn (N-ws.length) b0) st with
 |.rt w bx=>.ok w (kU st bx [w])
 |.nx _ bx=>.ok .non (kU st bx [])
 |.ex c _ bx=>.ex c (kU st bx [])
 |_=>.bad
def iY(P:Zy)(w:qd):Ha:=λouter H s E e D=>∃x C t B H',e=.ref x/\E C b0 H'/\D.os=s.os/\ZW D.gens/\Un (rX outer) [] H H' s.heap D.heap/\lx P w H' D.heap/\H' x=b0/\Heap.FlyingW B outer x C (.ref t) D.heap /\
 ∀b o,D.heap.get? b=bi o->(H' b≠b0\/((∃r,s.heap.get? b=bi r)/\b∉rX outer))->B.get? b=bi o
def mJ(K:ti)(mg:Str->hJ i2)(n:f7)(F:fy W->fy al->R W):Sp:=λvs H Q E=>vs.length=n/\∃μ ws st,fq K mg μ st H/\RelWs K μ H ws vs/\(match F ws st with
 |.ok w bx=>∀μ' v H',μ <+: μ'->dy K H H'->fq K mg μ' bx H'->bp K μ' H' w v->Q v H'
 |.ex c bx=>∀C μ' H',mg c=bi C->μ <+: μ'->dy K H H'->fq K mg μ' bx H'->E C b0 H'
 |.bad=>False)
def uA.noted{c:Str}{e:i2}{Q:Unit->n4->Prop}{E:i2->n4->Prop}{M:Model}(f:uA X ah σ c H e s)(qS:X.stack=X.env::outer)(uw:X.env.frame=bi X.env.locals)(R:X.A.frames=bi X.stack)
  (h:∀x C t B h',e=.ref x->X.mg c=bi C->H x=b0->Heap.FlyingW B X.stack x C (.ref t) h'->s.heap.UpToSlots h' ->
   (∀b o,s.heap.get? b=bi o->(H b≠b0\/((∃r,X.s₀.heap.get? b=bi r)/\b∉X.fs/\b∉X.ex)\/((∃y,X.env.cells.lookup y=bi b)/\b∉rX X.stack)\/∃p∈X.pn++ah,p.1=b)->B.get? b=bi o)->Q () { s with heap:=h' }) :
  nz M X.A (leaving X.env e) Q E s:=by
 obtain⟨x,C,t,B,rfl,I,J,V,nx,ff,tr,xl⟩:=f.ex;rw[qS]at ff R;rcases tr with tr|⟨oe,D,Y,rfl,_,k,Z,d⟩|⟨L,w,tr⟩
 .refine wpAny_leaving_nextW R ff uw tr V nx λh' w=>?_;obtain⟨U,W,z,k4⟩:=w;exact h x C t B h' rfl I J {U,nx,by rw[qS];exact W,z} k4 xl
 .refine wpAny_leaving_firstW R ff uw Y V nx k Z d λh' w=>?_;obtain⟨U,W,z,k4⟩:=w;exact h x _ t B h' rfl I J {U,nx,by rw[qS];exact W,z} k4 xl
 exact aa (oI w tr<|tL ⟨V,nx,ff,tr⟩ λh' O up=>h x C t B h' rfl I J (by rw[qS];exact O) up xl)
theorem uA.leaves{c:Str}{e:i2}{E:XK}{E':i2->n4->Prop}(f:uA X ah σ c H e s)(qS:X.stack=X.env::X.outer)(uw:X.env.frame=bi X.env.locals)(hA:X.A.frames=bi X.stack)(yK:X.ex=[])
  (hE:∀C,X.mg c=bi C->E C b0 H):nz M X.A (leaving X.env e) (λ_ s''=>iY X.prog X.w X.outer X.H₀ X.s₀ E e s'') E' s:=by
 refine f.noted qS uw hA λx C t B Z Y hC J O up xl=>?_;have I:=f.inv;have un:=I.base;rw[yK]at un;obtain⟨L,f2,f3,f4⟩:=O;rw[qS]at f3;obtain⟨_,_,f3'⟩:=f3;have frames:∀b∈rX X.outer,∀o,s.heap.get? b=bi o->∃sl,Z.get? b=bi { o with slots:=sl }:=λb U o R=>by
  obtain⟨_,W,tR,k⟩:=I.funs.mem U;rw[R]at tR;cases tR
  exact up b o R k
 have kept:∀b o,s.heap.get? b=bi o->(∃o0,X.s₀.heap.get? b=bi o0)->b∉rX X.outer->Z.get? b=bi o:=λb o R d U=>L b o (xl b o R<|.inr<|.inl {d,U,by rw[yK];simp});have keptH:∀b o,s.heap.get? b=bi o->H b≠b0->Z.get? b=bi o:=λb o R d=>L b o<|xl b o R<|.inl d;refine{x,C,t,B,H,Y,hE C hC,I.os,I.bare,{λb o q n U J=>?_,λb o q n U J=>?_,un.free,λb o q J=>?_,un.tups,un.frzs,un.tbls},λb u U=>?_,J,⟨L,f2,f3',f4⟩,λb o R V=>?_}
 .exact kept b o (un.keep b o q n U J) ⟨o,q⟩ U
 .obtain⟨sl,w⟩:=un.slot b o q n U J;obtain⟨sl2,z⟩:=frames b U _ w;exact⟨sl2,z⟩
 .obtain⟨W,w⟩:=un.there b o q J
  by_cases U:b∈rX X.outer
  .obtain⟨sl2,z⟩:=frames b U _ w;exact⟨_,z⟩
  .exact{W,kept b W w ⟨o,q⟩ U}
 .refine(I.hok b u U).stay (λc v hc q=>?_) (λ_ q=>q) λ_ _ q=>q;refine keptH c v q ?_;rcases hc with rfl|hc
  .rw[U];simp
  .rw[hc];simp
 .rcases V with V|⟨⟨o0,d⟩,U⟩
  .cases D:H b with
   |none=>exact absurd D V
   |some u=>
    have lt:=I.hok.lt D;obtain⟨r,DO⟩:∃r,s.heap.get? b=bi r:=by exact(I.hok b u D).ex
    have:=keptH b r DO V;rw[R]at this;cases this
    exact xl b o DO<|.inl V
  .obtain⟨W,w⟩:=un.there b o0 d (by simp);have:=kept b W w ⟨o0,d⟩ U;rw[R]at this;cases this
   exact xl b o w (.inr<|.inl ⟨⟨o0,d⟩,U,by rw[yK];simp⟩)
structure d8(P:Zy)(w:qd)(K:ti)(mg:Str->hJ i2)(base:qk)(k:f7)(x:Str)(n:f7)(F:fy W->fy al->R W):Prop where
 ex:∃(f:nt) (fd:ZS) (ps:fy Str),mg x=bi (.ref f)/\keepIn K (.ref f)=cT/\ps.length=n/\xX K fd ps []/\fj P w K mg base (iY P w) k f fd ps (mJ K mg n F)
theorem d8.mono{w:qd}{k:f7}(h:d8 P w K mg base j x n F)(O:j<=k):d8 P w K mg base k x n F:=by obtain⟨f,Y,Z,a,b,c,d,e⟩:=h.ex;exact{f,Y,Z,a,b,c,d,e.mono O}
def c7(n:f7)(F:fy W->fy al->R W)(fs:FA):FE:=λY st=>(fs Y st).bind λws st=>if ws.length=n then F ws st else .bad
section
theorem Oo{k:f7}{f:nt}{Q:VK}
  (Fn:fj X.prog X.w X.K X.mg X.base (iY X.prog X.w) k f fd ps (mJ X.K X.mg n F)) (L:ps.length=n) (V:iy k X.A) (U:xX X.K fd ps []) (I:bn X ah σ H s) (S:fq X.K X.mg μ st H) (r:RelWs X.K μ H ws vs) (rv:ce vs us) (Y:ws.length=n)
  (h:RK X (si X) μ σ H Q (F ws st)):nz #[2] X.A (call (.ref f) us) (EP X ah σ Q) X.xe s:=by
 have hl':(us++([])).length=ps.length:=by rw[dh,<- rv.length,<- r.len,Y,L]
 cases e:F ws st with
 |bad=>rw[e]at h;exact h.elim
 |ok w bx=>
  rw[e]at h;refine oH (g7 (Fn.run X.A X.stack s H {us,[]} us vs Q (λ_ _ _=>False) V I.env0 (by have:=U s us I.kIn hl';rwa[dh]at this) rv {by rw[<- r.len];exact Y,μ,ws,st,S,r,by rw[e];exact h}) λr D Z=>?_)
  cases r with
  |error e=>obtain⟨_,_,_,_,_,_,z,_⟩:=Z;exact z.elim
  |ok fl=>
   cases fl with
   |ret u=>exact I.after Z
   |next=>exact Zz Z
   |brk=>exact Zz Z
   |cont=>exact Zz Z
 |ex c bx=>
  rw[e]at h;refine oH (g7 (Fn.run X.A X.stack s H {us,[]} us vs (λ_ _=>False) (λC _ H'=>X.mg c=bi C/\∃O,μ <+: O/\dy X.K H H'/\fq X.K X.mg O bx H') V I.env0 (by have:=U s us I.kIn hl';rwa[dh]at this) rv
   ⟨by rw[<- r.len];exact Y,μ,ws,st,S,r,by rw[e];exact λC O H' hC p x S'=>⟨hC,O,p,x,S'⟩⟩) λr D Z=>?_)
  cases r with
  |ok fl=>
   cases fl with
   |ret u=>obtain⟨_,_,_,_,_,_,_,z⟩:=Z;exact z.elim
   |next=>exact Zz Z
   |brk=>exact Zz Z
   |cont=>exact Zz Z
  |error ev=>
   obtain⟨x,C,t,B,H',rfl,⟨hC,O,p,xx,S'⟩,os,bare,un,hok,J,fl,xl⟩:=Z;refine h ah O H' (.ref x) D p xx S' {I.call' os un hok bare λb U=>absurd U (by simp),x,C,t,B,rfl,hC,J,fl.1,fl.2.1,fl.2.2.1,.inl fl.2.2.2,λb o R hrel=>xl b o R ?_};rcases hrel with q|⟨⟨o0,h0⟩,U,hbx⟩|⟨⟨y,hy⟩,U⟩|⟨pp,W,rfl⟩
   .exact .inl q
   .refine .inr {?_,λz=>?_}
    .obtain⟨o',d⟩:=I.base.there b o0 h0 hbx;exact⟨o',d⟩
    rcases aS.mp (I.stkSub b z)with z|z
    .rw[z]at h0;exact absurd (aQ (aD h0) I.ok.above)<|cV _
    exact U z
   .obtain⟨v,ov,hov,_⟩:=I.cell y b hy;exact .inr ⟨⟨_,hov⟩,U⟩
   obtain⟨g1,g2,g3,g4,_⟩:=I.pin pp W;refine .inr ⟨⟨_,g1⟩,λz=>?_⟩;rcases aS.mp (I.stkSub _ z)with z|z
   .exact g3 z
   exact g4 z
variable{fs:FA}
theorem jY{k k':f7}(Fn:d8 X.prog X.w X.K X.mg X.base k x n F)(V:iy k' X.A)(R:k<=k')(J:SA X (e::es) fs)(hg:Gl X x:=by rfl)(xR:(x==("__debug__":Str))=eh:=by decide)
  (d:qe (e::es) X.env=(eh,eval e X.env)::qe es X.env:=by rfl) (lR:(Zt pos<|qe es X.env).any (·.1)=eh:=by rfl):SE X (.Call (.Name x p) (e::es) [] pos) (c7 n F fs):={by
 intro W s O H Q I h;obtain⟨f,fd,ps,hm,hkp,D,U,Fo⟩:=(Fn.mono R).ex;refine dO<|qp I hg hm ?_ xR;obtain⟨t,Y,B,l,h⟩:=h;have h':UI X fs O H λw H1=>∃L st1 ws,Rl X L Y st1 O H1/\RelWs X.K L H1 ws w/\RK X (si X) L O H1 Q (if ws.length=n then F ws st1 else .bad):=
  ⟨t,Y,B,l,RK.bind h l λL st1 x v H1 p1 x1 l1 z Z=>⟨L,st1,x,l1,z,Z⟩⟩
 refine PySem.W.callWith_K I.ok.mod.kin hkp (h_ (J.h pos W s O H _ I h') λus s1 zy=>?_) d lR;obtain⟨w,H1,I1,r,L,st1,ws,l1,r1,q⟩:=zy;refine{I1.kIn,?_}
 by_cases c:ws.length=n
 .rw[ax c]at q;exact Oo Fo D V U I1 l1.sto r1 r c q
 rw[aF c]at q;exact q.elim}
end
theorem MJ{w:qd}{st:tf}{f:nt}{N:fy Str}{k:f7}{g:FS}(F:mf K x cU st f fd)(S:bO N ps (aK st))(J:ps.length=n)
  (tj:∀(gp:i2) (A:xh) (outer:fy Env) (s:n4) (H:Hp) (E:XK),fd.code=gp->iy k (A.deeper<|Z0 cU (aK st) s.heap.objs.size f gp) ->
   SB (nR (iY P w) P w K mg base N cU (aK st) f gp A outer s H E) (eS st) g):fj P w K mg base (iY P w) (k+1) f fd ps (mJ K mg n<|eL N.length g):=by
 obtain⟨oc,od,kV,kH,pm,an,gp,ct,N2,rfl,lk,pI⟩:=F.ex;refine Ug lk pI S (λZ H Q E h=>by rw[J];exact h.1) λA outer s H Z Q E V Hk=>?_;obtain⟨U,t,B,G3,Sr,r,h⟩:=Hk;refine{_,(tj gp A outer s H E rfl V).h,t,B.map bi++rn (N.length-B.length) b0,G3,{?_,Sr},?_}
 .unfold jv;rw[<- r.len];have base:∀B Z m,RelWs K t H B Z->Paired (λo s=>∀w,o=bi w->∃v,s=bi v/\bp K t H w v) (B.map bi++rn m b0) (Z.map bi++rn m b0):=by
   intro B
   induction B with
   |nil=>
    intro Z m r;rw[r.nilE]
    induction m with
    |zero=>exact .nil
    |succ m ih=>exact .cons (λw z=>nomatch z) ih
   |cons w B ih=>
    intro Z m r;obtain⟨y,L,rfl,d,rys⟩:=r.consE;exact .cons (λw' z=>{y,rfl,by cases z;exact d})<|ih L m rys
  exact base B Z _ r
 unfold eL at h
 cases e:g (B.map bi++rn (N.length-B.length) b0) G3 with
 |rt w Y=>
  rw[e]at h;intro O v H' p x S' mL;obtain⟨μ2,p2,S2,r2⟩:=lB Sr S' p<|.consI mL .nilI;obtain⟨_,e2,r3⟩:=r2.one
  cases e2
  exact h μ2 v H' p2 x S2 r3
 |nx I Y=>
  rw[e]at h;intro O R H' p x l';obtain⟨μ2,p2,S2,_⟩:=lB Sr l'.sto p .nilI;exact h μ2 .non H' p2 x S2 .non
 |ex c I Y=>
  rw[e]at h;intro W O R H' ev D p x l' fl;obtain⟨μ2,p2,S2,_⟩:=lB Sr l'.sto p .nilI;exact fl.leaves rfl rfl fl.inv.ok.frames rfl λC hC=>h C μ2 H' hC p2 x S2
 |bk I Y=>rw[e]at h;exact h.elim
 |ct I Y=>rw[e]at h;exact h.elim
 |bad=>rw[e]at h;exact h.elim
def de{w:qd}{st:tf}{f:nt}{N:fy Str}{k:f7}{g:FS}(F:mf K x cU st f fd)(S:bO N ps (aK st))(L:ps.length=n)
  (t:∀(O:i2) (A:xh) (outer:fy Env) (s:n4) (H:Hp) (E:XK),iy k (A.deeper<|Z0 cU (aK st) s.heap.objs.size f O) ->
   SB (nR (iY P w) P w K mg base N cU (aK st) f O A outer s H E) (eS st) g):fj P w K mg base (iY P w) (k+1) f fd ps (mJ K mg n<|eL N.length g):=MJ F S L λO A outer s H E _ V=>t O A outer s H E V
def MK{w:qd}{k:f7}{st:tf}{f:nt}{G:fy W->fy al->R W}
  (F:mf K x x st f fd) (hm:mg x=bi (.ref f)) (L:ps.length=n)
  (U:∀(kV J pm:i2) (z:hJ nt) (O Y:i2) (us:fy i2),us.length=ps.length->aag (fnOf x x (fH st) (eS st) (aK st) .none kV J pm z O Y) ⟨us,[]⟩=pure (ps.zip us))
  (ok:fj P w K mg base (iY P w) k f fd ps (mJ K mg n G)):d8 P w K mg base k x n G:={f,fd,ps,hm,F.kp,L,F.binds U,ok}
section
variable{a b o:ow}{fa fb fe fo:FE}{fs:FA}{id:String}
structure QY(X:Cx)(id:String)(F:W->fy W->fy al->R W):Prop where
 h:LB X id (λx vs H Q=>∃μ st wx ws,fq X.K X.mg μ st H/\bp X.K μ H wx x/\RelWs X.K μ H ws vs/\Hb X μ H Q (F wx ws st))
 n:∀x ws st,qQ<|F x ws st
noncomputable def vP(st:fy al):W->ir
 |.loc n=>(match st[n]? with|some (.lst _)=>cT|_=>eh)
 |_=>eh
noncomputable def Op:W->ir
 |.str _=>cT
 |_=>eh
theorem IE{w:W}{v:V}(S:fq X.K X.mg μ st H)(r:bp X.K μ H w v)(h:vP st w=cT):∃l L,v=.ref l/\H l=bi (.lst L):=by
 cases w with
 |loc n=>
  obtain⟨a,J,rfl⟩:=r.locE;simp[vP]at h
  cases R:st[n]? with
  |none=>rw[R]at h;cases h
  |some z=>
   rw[R]at h
   cases z with
   |lst B=>obtain⟨Z,d,D,U,_⟩:=S.get R;rw[J]at d;cases d;exact⟨_,D,rfl,U⟩
   |_=>cases h
 |_=>cases h
def uX(F:W->fy W->fy al->R W)(fo:FE)(fs:FA):FE:=λY st=>(fo Y st).bind λx st=>if vP st x then(fs Y st).bind λws st=>F x ws st else .bad
def Cv(F:W->fy W->fy al->R W)(fo:FE)(fs:FA):FE:=λY st=>(fo Y st).bind λx st=>if Op x then(fs Y st).bind λws st=>F x ws st else .bad
theorem Gd{F:W->fy W->fy al->R W}(slot:Slot "list" name id)(G_:typeOf (.builtin id)=pure (.type "method_descriptor"))(hm:QY X id F)(I:SE X o fo)(J:SA X (e::es) fs)
  (qh:aaF o name X.env (eval o X.env)=eval o X.env:=by rfl)
  (xi:((Zt f_<|qe (e::es) X.env).all (λx=>!x.1)&&(backToKw f_<|aaA [] X.env).all (λx=>x.1.isSome)
   && decide ((e::es).length+([]:fy Keyword).length+(if ([]:fy Keyword).isEmpty then 0 else 1)<30))=cT:=by rfl)
  (s_:(kh.endLine==f_.line)=cT:=by rfl) (d:qe (e::es) X.env=(eh,eval e X.env)::qe es X.env:=by rfl) (qc:(Zt f_<|qe es X.env).any (·.1)=eh:=by rfl) :
  SE X (.Call (.Attribute o name kh) (e::es) [] f_) (uX F fo fs):={(Uz slot G_ hm.h I.h J.h qh xi s_ d qc).imp λO H Q h=>by
 obtain⟨t,Y,V,l,h⟩:=h;refine{t,Y,V,l,RK.bind h l λL U x v H1 p1 x1 z w Z=>?_}
 by_cases c:vP U x=cT
 .rw[ax c]at Z;exact{IE z.sto w c,L,Y,U,z,RK.bind Z z λμ2 r k D H2 p2 x2 l2 q2 B=>⟨μ2,r,x,k,l2.sto,w.mono p2 x2,q2,rC B<|hm.n _ _ _⟩}
 rw[aF c]at Z;exact Z.elim}
theorem U0{F:W->fy W->fy al->R W}(slot:Slot "str" name id)(G_:typeOf (.builtin id)=pure (.type "method_descriptor"))(hm:QY X id F)(I:SE X o fo)(J:SA X (e::es) fs)
  (qh:aaF o name X.env (eval o X.env)=eval o X.env:=by rfl)
  (xi:((Zt f_<|qe (e::es) X.env).all (λx=>!x.1)&&(backToKw f_<|aaA [] X.env).all (λx=>x.1.isSome)
   && decide ((e::es).length+([]:fy Keyword).length+(if ([]:fy Keyword).isEmpty then 0 else 1)<30))=cT:=by rfl)
  (s_:(kh.endLine==f_.line)=cT:=by rfl) (d:qe (e::es) X.env=(eh,eval e X.env)::qe es X.env:=by rfl) (qc:(Zt f_<|qe es X.env).any (·.1)=eh:=by rfl) :
  SE X (.Call (.Attribute o name kh) (e::es) [] f_) (Cv F fo fs):={(UA slot G_ hm.h I.h J.h qh xi s_ d qc).imp λO H Q h=>by
 obtain⟨t,Y,V,l,h⟩:=h;refine{t,Y,V,l,RK.bind h l λL U x v H1 p1 x1 l1 w Z=>?_}
 cases x with
 |str z=>
  exact⟨{z,w.strE},L,Y,U,l1,RK.bind Z l1 λμ2 r k D H2 p2 x2 l2 q2 B=>{μ2,r,_,k,l2.sto,w.mono p2 x2,q2,rC B<|hm.n _ _ _}⟩
 |_=>exact Z.elim}
def dJ(x:W)(ws:fy W)(st:fy al):R W:=match x,ws with
 |.loc n,[y]=>(match st[n]? with
  |some (.lst zs)=>if zs.length<j' then .ok .non (st.set n<|.lst<|zs++[y])else .bad
  |_=>.bad)
 |_,_=>.bad
theorem t6:QY X "list.append" dJ:={λW s O H x D v z Q I rv rus zq=>by
 obtain⟨t,V,k,J,S,Y,rs,q⟩:=zq;unfold dJ at q
 split at q
 .obtain⟨y1,rfl,w⟩:=rs.one
  split at q
  .rename_i B R
   split at q
   .rename_i c
    obtain⟨Z,d,D,U,r⟩:=S.get R;obtain⟨b1,L,rfl⟩:=Y.locE;rw[d]at L;cases L
    refine CY W s O H _ _ v z Q I rv rus {Z,D,y1,rfl,rfl,U,by rw[<- r.len];exact QP<|dL c,λH2 e=>?_};subst e;exact q t _ _ (af _) (fY.but gP U) (S.set R d U<|r.app<|.consI w .nilI) .non
   exact q.elim
  exact q.elim
 .exact q.elim,λx J V=>by
 unfold dJ
 repeat' split
 all_goals trivial}
def qy(x:W)(ws:fy W)(st:fy al):R W:=match x,ws with
 |.loc n,[.loc m]=>(match st[n]?,st[m]? with
  |some (.lst zs),bi (.lst ys)=>if zs.length+ys.length<=j' then .ok .non (st.set n<|.lst<|zs++ys)else .bad
  |_,_=>.bad)
 |_,_=>.bad
theorem yi:QY X "list.extend" qy:={λW s O H x D v z Q I rv rus zq=>by
 obtain⟨t,V,wx,J,S,Y,rs,q⟩:=zq;unfold qy at q
 split at q
 .obtain⟨y1,rfl,w⟩:=rs.one
  split at q
  .rename_i r L R e2
   split at q
   .rename_i c
    obtain⟨a1,d,vs1,U,B⟩:=S.get R;obtain⟨a2,g2,vs2,k2,Z⟩:=S.get e2;obtain⟨b1,k,rfl⟩:=Y.locE;obtain⟨b2,f2,rfl⟩:=w.locE;rw[d]at k;cases k
    rw[g2]at f2;cases f2
    exact FL W s O H _ _ v z Q I rv rus {a1,a2,vs1,vs2,rfl,rfl,U,k2,by rw[<- B.len,<- Z.len];exact iW c,q t _ _ (af _) (fY.but gP U) (S.set R d U<|B.app Z) .non}
   exact q.elim
  exact q.elim
 .exact q.elim,λx J V=>by
 unfold qy
 repeat' split
 all_goals trivial}
noncomputable def pR:fy W->hJ (fy<|fy f7)
 |[]=>bi []
 |.str l::ws=>(pR ws).map (l :: ·)
 |_=>b0
theorem vQ:∀{ws:fy W} {ls:fy (fy f7)} {vs:fy V},pR ws=bi ls->RelWs K μ H ws vs->vs=ls.map λl=>V.str (tx l)
 |[],ls,vs,h,r=>by cases h;exact r.nilE
 |w::ws,ls,vs,h,r=>by
  obtain⟨x,D,rfl,Y,U⟩:=r.consE
  cases w with
  |str l=>
   simp only[pR]at h
   cases e:pR ws with
   |none=>rw[e]at h;cases h
   |some z=>rw[e]at h;cases h;rw[Y.strE,vQ e U];rfl
  |_=>simp only[pR]at h;cases h
theorem yj(ls:fy (fy f7)):pR (ls.map W.str)=bi ls:=by
 induction ls with
 |nil=>rfl
 |cons a r U=>show(pR<|r.map W.str).map (a :: ·)=_;rw[U];rfl
def jZ(x:W)(ws:fy W)(st:fy al):R W:=match x,ws with
 |.str sep,[.loc n]=>sv (lstOf st n) λB=>sv (pR B) λls=>if (ls.map ZH).sum+ls.length*sep.length<=j' then .ok (.str<|oO sep ls) st else .bad
 |_,_=>.bad
theorem Em:QY X "str.join" jZ:={λW s O H x D v z Q I rv rus zq=>by
 obtain⟨t,V,k,J,S,Y,U,q⟩:=zq;unfold jZ at q
 split at q
 .rename_i sep n
  obtain⟨y1,rfl,w⟩:=U.one
  cases R:lstOf V n with
  |none=>rw[R]at q;exact q.elim
  |some B=>
   rw[R,fQ]at q
   cases e2:pR B with
   |none=>rw[e2]at q;exact q.elim
   |some ls=>
    rw[e2,fQ]at q
    split at q
    .rename_i c
     obtain⟨a,D,g,d,r⟩:=S.lstOf R;obtain⟨Z,L,rfl⟩:=w.locE;rw[g]at L;cases L
     have:=vQ e2 r;subst this;exact Mo W s O H _ _ v z Q I rv rus {sep,_,ls,Y.strE,rfl,d,aW c (by decide),su S q}
    exact q.elim
 .exact q.elim,λx J V=>by
 unfold jZ
 split
 .exact oQ λ_=>oQ λ_=>by split<;>trivial
 trivial}
end
def kc(cap:fy (hJ f7))(ρ:bR):bR:=cap.map λo=>o.bind λj=>(ρ[j]?).join
theorem QZ{ρ:bR}(r:Paired (λ(o:hJ W) (s:hJ V)=>∀w,o=bi w->∃v,s=bi v/\bp X.K μ H w v) ρ σ):∀cap:fy (hJ f7),
  Paired (λ(o:hJ W) (s:hJ V)=>∀w,o=bi w->∃v,s=bi v/\bp X.K μ H w v) (kc cap ρ) (pK cap σ)
 |[]=>.nil
 |o::cap=>by
  refine .cons (λw e=>?_)<|QZ r cap
  cases o with
  |none=>cases e
  |some j=>
   have L:(ρ[j]?).join=bi w:=e;have e2:ρ[j]?=bi (bi w):=by
    cases h:ρ[j]? with
    |none=>rw[h]at L;cases L
    |some z=>rw[h]at L;simp at L;rw[L]
   obtain⟨v,d,I⟩:=pL r e2;exact{v,by show(σ[j]?).join=bi v;rw[d];rfl,I}
open Classical in
def lD(f:FG)(t:FT)(el:FE)(ck:hJ (f7×fy W))(k:bR):fy W->fy W->fy al->R (fy W)
 |[],acc,st=>if iC st ck then .ok acc st else .bad
 |w::ws,acc,st=>if iC st ck then(match f w k with
  |none=>.bad
  |some I=>(match t I st with
   |.ok cT st1=>(match el I st1 with
    |.ok y r=>lD f t el ck k ws (acc++[y]) r
    |_=>.bad)
   |.ok eh st1=>lD f t el ck k ws acc st1
   |_=>.bad))else .bad
def cb(cap:fy (hJ f7))(fi:FI)(f:FG)(t:FT)(el:FE):FE:=λY st=>(fi Y st).bind λk st=>if k.1.length<=j' then(lD f t el k.2 (kc cap Y) k.1 [] st).bind λL st=>jW L st else .bad
def TH(X:Cx)(U:fy nt->Hp->α->β->Prop)(f:bR->fy al->R α)(σ:St)(H:Hp)(Q:β->Hp->Prop):Prop:=
 ∃μ Y st a bx,Rl X μ Y st σ H/\f Y st=.ok a bx/\∀μ' b H',μ <+: μ'->dy X.K H H'->fq X.K X.mg μ' bx H'->U μ' H' a b->Q b H'
def d_:FT:=λ_ st=>.ok cT st
structure ML(X:Cx)(es:fy ow)(f:FT):Prop where
 h:HN X es (tT X f)
theorem HN.imp{e:fy ow}{t t':TT}(h:HN X e t)(i:∀σ H Q,t' σ H Q->t σ H Q):HN X e t':=λW s σ H Q I q=>h W s σ H Q I<|i _ _ _ q
theorem ip:ML X [] d_:={Mj.imp λO H Q h=>by obtain⟨t,Y,V,l,h⟩:=h;exact h t cT H (af _) dy.refl l.sto rfl}
def zb{t:FT}(D:ST X c t):ML X [c] t:={Mk D.h}
theorem C9{fi:FI}{f:FG}{t:FT}{el:FE}{Q:VK}(h:tE X (cb cap fi f t el) σ H Q) :
  sf cap (λσ H R=>tG X (UZ X) fi σ H R) (QV X f) (TH X MB t) (TH X (si X) el) σ H Q:=by
 obtain⟨U,Y,V,l,h⟩:=h;refine{U,Y,V,l,RK.bind h l λr z k J H1 p1 x1 l1 wk Z=>?_}
 by_cases d:k.1.length<=j'
 .rw[ax d]at Z;refine{λi m W H'=>i<=k.1.length/\m=k.1.length-i/\W.length<=i/\∃O acc bx,r <+: O/\dy X.K H1 H'/\Rl X O Y bx σ H'/\RelWs X.K O H' acc W/\RK X (si X) O σ H' Q ((lD f t el k.2 (kc cap Y) (k.1.drop i) acc bx).bind jW),
   ⟨_,cG _,rfl,av _,r,[],z,af _,dy.refl,l1,.nilI,Z⟩,?_}
  rintro i m W H' ⟨L,rfl,hy,O,acc,bx,pm,xm,lm,ra,hm⟩
  by_cases hlt:i<k.1.length
  .rw[cx hlt]at hm;unfold lD at hm
   by_cases ck:iC bx k.2
   .rw[ax ck]at hm;obtain⟨go,yld⟩:=(wk i O bx H' pm xm lm.sto ck).1 _<|ak hlt;refine .inr {go,λx H2 hy2=>?_};obtain⟨y1,y2,y3⟩:=yld x H2 hy2
    cases hf:f k.1[i] (kc cap Y)with
    |none=>rw[hf]at hm;exact hm.elim
    |some ρ2=>
     rw[hf]at hm;simp only at hm;have lb:Rl X O (kc cap Y) bx (pK cap σ) H2:={QZ (lm.to (af _) y1 y2).env cap,y2}
     refine{O,kc cap Y,bx,k.1[i],ρ2,lb,y3,hf,λσ2 l2=>?_}
     cases ht:t ρ2 bx with
     |bad=>rw[ht]at hm;exact hm.elim
     |ex c s=>rw[ht]at hm;exact hm.elim
     |ok kk D=>
      rw[ht]at hm;refine{O,ρ2,bx,kk,D,l2,ht,λμ3 b3 H3 p3 x3 S3 q3=>?_}
      cases q3
      cases kk with
      |false=>
       exact{_,by lia,hlt,rfl,by lia,μ3,acc,D,pm.trans p3,xm.trans<|y1.trans x3,lm.to p3 (y1.trans x3) S3,ra.mono p3<|y1.trans x3,RK.mono hm p3<|y1.trans x3}
      |true=>
       simp only at hm
       cases B:el ρ2 D with
       |bad=>rw[B]at hm;exact hm.elim
       |ex c s=>rw[B]at hm;exact hm.elim
       |ok w gW=>
        rw[B]at hm;refine{μ3,ρ2,D,w,gW,l2.to p3 x3 S3,B,λμ4 b4 H4 p4 x4 S4 q4=>?_};have pp:=p3.trans p4;have xx:=y1.trans<|x3.trans x4;exact{eO hy<|aQ hlt<|iW d,_,by lia,hlt,rfl,by simp;lia,μ4,acc++[w],gW,pm.trans pp,xm.trans xx,lm.to pp xx S4,(ra.mono pp xx).app<|.consI q4 .nilI,RK.mono hm pp xx}
   rw[aF ck]at hm;exact hm.elim
  have hi':i=k.1.length:=by lia
  subst hi';rw[g_<|av _]at hm;unfold lD at hm
  by_cases ck:iC bx k.2
  .rw[ax ck]at hm;obtain⟨z1,z2⟩:=pN lm.sto ra hm;exact .inl {(wk _ O bx H' pm xm lm.sto ck).2<|av _,z1,λp I=>z2 p _ I rfl}
  rw[aF ck]at hm;exact hm.elim
 rw[aF d]at Z;exact Z.elim
section
variable{nm:fy Str}{fi:FI}{f:FG}{t:FT}{el:FE}
theorem W0{X':Cx}{f:FE}(z:X'.K=X.K)(hm:X'.mg=X.mg)(h:SE X' e f):QE X' e (TH X (si X) f):={h.h.imp λO H Q zz=>by obtain⟨U,Y,V,a,J,l,e,q⟩:=zz;exact ⟨U,Y,V,{by rw[z];exact l.env,by rw[z,hm];exact l.sto},by rw[e];exact λk b H' p x S r=>q k b H' p (by simp_all) (by simp_all) (by show bp X.K k H' a b;rw[<- z];exact r)⟩}
theorem W1{X':Cx}{e:fy ow}{f:FT}(z:X'.K=X.K)(hm:X'.mg=X.mg)(h:ML X' e f):WW X' e (TH X MB f):={h.h.imp λO H Q zv=>by obtain⟨U,Y,V,a,J,l,e,q⟩:=zv;exact ⟨U,Y,V,{by rw[z];exact l.env,by rw[z,hm];exact l.sto},by rw[e];exact λk b H' p x S r=>q k b H' p (by simp_all) (by simp_all) r⟩}
theorem W2{X':Cx}(z:X'.K=X.K)(hm:X'.mg=X.mg)(h:SG X' e f):QG X' e (QV X f):={h.h.imp λv O H Q zw=>by obtain⟨U,Y,V,w,I,l,r,e,q⟩:=zw;exact ⟨U,Y,V,w,I,{by rw[z];exact l.env,by rw[z,hm];exact l.sto},by rw[z];exact r,e,λR d=>q R {by rw[<- z];exact d.env,by rw[<- z,<- hm];exact d.sto}⟩}
theorem t7(R:vJ X.env.scope.names scope.names nm cap X.N=cT)(W:X.env.cells=vr m X.env.scope.names [])(L:SI X tg iter fi)(r:∀cl C w H0 fp,SG (cu X nm scope cl C w H0 fp) tg f)(B:∀cl C w H0 fp,ML (cu X nm scope cl C w H0 fp) kw t)
  (Y:∀cl C w H0 fp,SE (cu X nm scope cl C w H0 fp) mz el) (V:X.calm=cT:=by rfl) (k:scope.kind=.function:=by rfl) (d:∀x,Z9 iter X.env x=pure x:=by intro _;rfl) :
  SE X #[3] (cb cap fi f t el):=
 ⟨(QN V W k R ⟨L.h⟩ (λcl C w H0 fp=>W2 rfl rfl (r cl C w H0 fp)) (λcl C w H0 fp=>W1 rfl rfl (B cl C w H0 fp)) (λcl C w H0 fp=>W0 rfl rfl (Y cl C w H0 fp)) d).h.imp λ_ _ _ h=>C9 h⟩
theorem lF{x0:Str}{p0 p1:Pos}(N5:SG X (.Name x0 p0) (cF i))(hB:vJ X.env.scope.names scope.names nm cap X.N=cT)(gX:X.env.cells=vr m X.env.scope.names [])(L:SI X tg iter fi)(z:∀cl C I H0 fp,SG (cu X nm scope cl C I H0 fp) tg f)(J:∀cl C I H0 fp,ML (cu X nm scope cl C I H0 fp) kw t)
  (B:∀cl C I H0 fp,SE (cu X nm scope cl C I H0 fp) mz el) (gz:X.calm=cT:=by rfl) (fN:scope.kind=.function:=by rfl) (d:∀x,Z9 iter X.env x=pure x:=by intro _;rfl)
  (NX:swapsWith #[3] (bi<|.Name x0 p0) p1.line X.env=pure cT:=by first|rfl|kernel_rfl) :
  SS X (.Assign [.Name x0 p0] #[3] p1) (lA (cb cap fi f t el)<|cF i):=
 ⟨(vL ⟨N5.h⟩ gz gX fN hB ⟨L.h⟩ (λcl C I H0 fp=>W2 rfl rfl (z cl C I H0 fp)) (λcl C I H0 fp=>W1 rfl rfl (J cl C I H0 fp)) (λcl C I H0 fp=>W0 rfl rfl (B cl C I H0 fp)) d NX).h.imp λD O H h=>by
  obtain⟨U,Y,V,l,h⟩:=h;have h':tE X (cb cap fi f t el) O H λx H1=>QV X (cF i) x O H1 D.nx:={U,Y,V,l,RK.stmt h l λr W x v H1 p1 x1 k w Z=>⟨r,Y,W,x,Y.set i<|bi x,k,w,rfl,λR l'=>Z r R H1 (af _) dy.refl l'⟩}
  exact C9 h'⟩
end
section
variable{a b o:ow}{fa fb fc fe fo:FE}{fs:FA}
theorem Ge{z:fy V}(Y:∀μ H,RelWs X.K μ H ws z):za X (Xy z) (ws,b0) μ H:=λi O J H' r t S _=>by
 refine{λw Z=>?_,λh=>by show z.length<=i;rw[<- ((Y μ H).len)];exact h};obtain⟨v,d,I⟩:=(Y O H').get Z;refine{(am.mp d).1,λy H'' W=>?_};obtain⟨rfl,W⟩:=W;rw[d]at W;cases W
 exact{dy.refl,S,I}
noncomputable def jk(l:fy f7):fy W:=l.map λc=>.str [c]
theorem yk(l:fy f7)(μ:fy nt)(H:Hp):RelWs X.K μ H (jk l) (j9 l):=by
 induction l with
 |nil=>exact .nilI
 |cons a r U=>exact .consI .str U
def Oq(fe:FE):FI:=λY st=>(fe Y st).bind λx st=>match x with
 |.str l=>.ok (jk l,b0) st
 |_=>.bad
theorem Q0(B:SE X e fe):SI X tg e (Oq fe):={(QH B.h).imp λO H R h=>by
 obtain⟨t,Y,V,l,h⟩:=h;refine{t,Y,V,l,RK.bind h l λL W x v H1 U D I w Z=>?_}
 cases x with
 |str z=>exact{z,w.strE,Z L _ H1 (af _) dy.refl I.sto<|Ge<|yk z}
 |_=>exact Z.elim}
def bV(fe:FE):FI:=λY st=>(fe Y st).bind λx st=>match x with
 |.tup ws=>.ok (ws,b0) st
 |.loc n=>(match lstOf st n with
  |some ws=>.ok (ws,bi (n,ws)) st
  |none=>.bad)
 |.str l=>.ok (jk l,b0) st
 |_=>.bad
theorem jl(B:SE X e fe):SI X tg e (bV fe):={λW s O H Rr I h=>by
 obtain⟨t,Y,V,l,h⟩:=h
 cases R:fe Y V with
 |bad=>simp[bV,R]at h;exact h.elim
 |ex c U=>
  refine(ID B).h W s O H Rr I {t,Y,V,l,?_};simp[bV,IC,R]at h ⊢;exact h
 |ok w U=>
  cases w with
  |tup J=>
   refine(ID B).h W s O H Rr I {t,Y,V,l,?_};simp[bV,IC,R]at h ⊢;exact h
  |loc n=>
   refine(QX B).h W s O H Rr I {t,Y,V,l,?_};simp only[bV,Om,R]at h ⊢;exact h
  |str z=>
   refine(Q0 B).h W s O H Rr I {t,Y,V,l,?_};simp[bV,Oq,R]at h ⊢;exact h
  |_=>simp[bV,R]at h;exact h.elim}
def rG(f f':W->W->fy al->R W)(fa fb fc:FE):FE:=λY st=>(fa Y st).bind λx st=>(fb Y st).bind λy st=>(f x y st).bind λz st=>match z with
 |.bl cT=>(fc Y st).bind λw st=>f' y w st
 |.bl eh=>.ok (.bl eh) st
 |_=>.bad
theorem MM{Q:VK}(n:∀x y st,qQ<|f x y st)(n':∀x y st,qQ<|f' x y st)(h:tE X (rG f f' fa fb fc) σ H Q):HD (UK X f) (UK X f') (tE X fa) (tE X fb) (tE X fc) σ H Q:=by
 obtain⟨U,Y,st,l,h⟩:=h;refine{U,Y,st,l,RK.bind h l λL W x v H1 V O I d Z=>⟨L,Y,W,I,RK.bind Z I λJ r y u H2 p2 x2 l2 R B=>{J,r,x,y,l2.sto,d.mono p2 x2,R,rC (RK.bind B l2 λμ3 gW z t H3 p3 x3 l3 q3 D=>?_)<|n _ _ _}⟩}
 cases z with
 |bl k=>
  refine{k,q3.blE,?_}
  cases k with
  |false=>exact D μ3 _ H3 (af _) dy.refl l3.sto .bl
  |true=>
   exact{μ3,Y,gW,l3,RK.bind D l3 λμ4 Ai w s H4 p4 x4 l4 q4 h4=>⟨μ4,Ai,y,w,l4.sto,(R.mono p3 x3).mono p4 x4,q4,rC h4<|n' _ _ _⟩}
 |_=>exact D.elim
theorem MN{Tz:CmpOp}(R:sj X (Zu op) f)(L:sj X (Zu Tz) f')(J:SE X a fa)(U:SE X b fb)(D:SE X c fc)(hm:lastMarks [op,Tz] [b,c]=eh:=by with_unfolding_all rfl):SE X (.Compare a [op,Tz] [b,c] pos) (rG f f' fa fb fc):={(HE R.h L.h J.h U.h D.h hm).imp λ_ _ _ h=>MM R.n L.n h}
def t8(fa:FE):FE:=λY st=>(fa Y st).bind λx st=>match x with
 |.int i=>.ok (.int (-i)) st
 |_=>.bad
theorem IF(J:SE X a fa):SE X (.UnaryOp .USub a pos) (t8 fa):={(T_ Qr J.h).imp λO H Q h=>by
 obtain⟨t,Y,V,l,h⟩:=h;refine{t,Y,V,l,RK.bind h l λL W x v H1 U D I w Z=>?_}
 cases x with
 |int k=>exact{k,w.intE,Z L _ H1 (af _) dy.refl I.sto .int}
 |_=>exact Z.elim}
noncomputable def IG(x y:W)(st:fy al):R W:=match x,y with
 |.int i,.int j=>.ok (.bl<|decide<|i<=j) st
 |.str [c],.str [d]=>.ok (.bl<|decide<|c<=d) st
 |_,_=>.bad
theorem En:sj X (Zu .LtE) IG:={λW s O H x y v u Q I rv L zq=>by
 obtain⟨t,V,D,z,S,Y,w,q⟩:=zq;unfold IG at q
 split at q
 .exact Ua W s O H x y v u Q I rv L {_,_,Y.intE,w.intE,jD S q}
 .exact FY W s O H x y v u Q I rv L {_,_,Y.strE,w.strE,jD S q}
 exact q.elim,λx y V=>by unfold IG;split<;>trivial}
end
noncomputable def zc(c:f7):fy f7->fy f7
 |[]=>[c]
 |d::r=>if c<d then c::d::r else if c=d then d::r else d::zc c r
def kW(l:fy f7):fy f7:=l.foldr zc []
theorem vR{c x:f7}:∀{l:fy f7},x∈zc c l↔x=c\/x∈l
 |[]=>by simp[zc]
 |d::r=>by
  unfold zc
  split
  .simp
  split
  .simp_all
  simp[vR];constructor
  .rintro(h|h|h)<;>simp[h]
  rintro(h|h|h)<;>simp[h]
theorem Eo{c:f7}:∀{l:fy f7},l.Pairwise (· < ·)->(zc c l).Pairwise (· < ·)
 |[],_=>by simp[zc]
 |d::r,h=>by
  obtain⟨Z,B⟩:=bS.mp h;unfold zc
  split
  .rename_i D
   refine bS.mpr {λx hx=>?_,h};rcases aS.mp hx with rfl|hx
   .exact D
   exact oF D<|Z x hx
  split
  .exact h
  refine bS.mpr {λx hx=>?_,Eo B};rcases vR.mp hx with rfl|hx
  .lia
  exact Z x hx
theorem ke{x:f7}:x∈kW l↔x∈l:=by
 induction l with
 |nil=>simp[kW]
 |cons a r U=>show x∈zc a (kW r)↔_;rw[vR,U];simp
theorem m_(l:fy f7):(kW l).Pairwise (· < ·):=by
 induction l with
 |nil=>exact aaz
 |cons a r U=>exact Eo U
theorem t9:∀{l m:fy f7},l.Pairwise (· < ·)->m.Pairwise (· < ·)->(∀x,x∈l↔x∈m)->l=m
 |[],[],_,_,_=>rfl
 |[],b::m,_,_,h=>by have:=(h b).mpr (by simp);simp at this
 |a::l,[],_,_,h=>by have:=(h a).mp (by simp);simp at this
 |a::l,b::m,h1,h2,h=>by
  obtain⟨U,k⟩:=bS.mp h1;obtain⟨w,t⟩:=bS.mp h2;have e:a=b:=by
   rcases aS.mp ((h a).mp<|by simp)with z|z
   .exact z
   .rcases aS.mp ((h b).mpr<|by simp)with y|y
    .exact y.symm
    .have:=U b y;have:=w a z;omega
  subst e;rw[t9 k t λx=>?_];constructor
  .intro J;rcases aS.mp ((h x).mp<|aJ _ J)with z|z
   .subst z;exact absurd (U x J)<|cV _
   .exact z
  .intro J;rcases aS.mp ((h x).mpr<|aJ _ J)with z|z
   .subst z;exact absurd (w x J)<|cV _
   .exact z
noncomputable def C_(c:fy f7):fy (fy f7)->fy (fy f7)
 |[]=>[c]
 |d::r=>if c<d then c::d::r else d::C_ c r
def jx(l:fy (fy f7)):fy (fy f7):=l.foldr C_ []
theorem t_(c:fy f7):∀l:fy (fy f7),(C_ c l).Perm (c::l)
 |[]=>jQ _
 |d::r=>by
  unfold C_
  split
  .rfl
  exact((t_ c r).cons d).trans (aaG c d r)
theorem gR(l:fy (fy f7)):(jx l).Perm l:=by
 induction l with
 |nil=>exact jQ _
 |cons a r U=>exact(t_ a _).trans (U.cons a)
def MO:fy (fy f7)->Prop:=List.Pairwise λa b=>¬ b<a
theorem Ep(c:fy f7):∀{l:fy (fy f7)},MO l->MO (C_ c l)
 |[],_=>by simp[C_,MO]
 |d::r,h=>by
  obtain⟨Z,B⟩:=bS.mp h;unfold C_
  split
  .rename_i D
   refine bS.mpr {λx hx=>?_,h};rcases aS.mp hx with rfl|hx
   .exact λz=>List.lt_irrefl _<|List.lt_trans z D
   .exact λz=>Z x hx (List.lt_trans z D)
  .rename_i D
   refine bS.mpr {λx hx=>?_,Ep c B};rcases aS.mp ((t_ c r).mem_iff.mp hx)with rfl|hx
   .exact D
   .exact Z x hx
theorem vS(l:fy (fy f7)):MO (jx l):=by
 induction l with
 |nil=>exact aaz
 |cons a r U=>exact Ep a U
theorem zd:∀{l m:fy (fy f7)},MO l->MO m->l.Perm m->l=m
 |[],m,_,_,h=>(List.Perm.nil_eq h)
 |a::l,[],_,_,h=>(by simp_all)
 |a::l,b::m,h1,h2,h=>by
  obtain⟨U,k⟩:=bS.mp h1;obtain⟨w,t⟩:=bS.mp h2;have e:a=b:=by
   rcases aS.mp (h.mem_iff.mp (by simp:a∈a::l))with z|z
   .exact z
   rcases aS.mp (h.mem_iff.mpr (by simp:b∈b::m))with y|y
   .exact y.symm
   exact List.le_antisymm (U b y)<|w a z
  subst e;rw[zd k t (List.perm_cons a |>.mp h)]
theorem vT:∀{B:fy (fy f7)},sortedS (B.map tx)=cT->MO B:=by
 have key:∀B p,risingS (tx p) (B.map tx)=cT->MO (p::B):=by
  intro B
  induction B with
  |nil=>intro p _;simp[MO]
  |cons a r U=>
   intro p h;have V:(!ltCps a p&&risingS (tx a) (r.map tx))=cT:=h;rw[cJ,gr,ltCps_eq,decide_eq_false_iff_not]at V;have u:=U a V.2;refine bS.mpr {λx hx=>?_,u};rcases aS.mp hx with rfl|hx
   .exact V.1
   have:=(bS.mp u).1 x hx;exact List.not_lt.mpr<|List.le_trans (List.not_lt.mp V.1)<|List.not_lt.mp this
 intro B h
 cases B with
 |nil=>exact aaz
 |cons a r=>exact key r a h
section
variable{a b o:ow}{fa fb fc fe fo:FE}{fs:FA}
def qA(ws:fy W)(st:fy al):R W:=match ws with
 |[.loc n]=>sv (lstOf st n) λB=>sv (pR B) λls=>if ls.length<64 then .ok (.loc st.length) (st++[.lst<|(jx ls).map W.str])else .bad
 |_=>.bad
theorem A'(ls:fy (fy f7)):RelWs K μ H (ls.map W.str) (ls.map λl=>V.str<|tx l):=by
 induction ls with
 |nil=>exact .nilI
 |cons a r U=>exact .consI .str U
theorem Ba:oR X (.builtin "sorted") qA:={λW s O H D k Q I rv zq=>by
 obtain⟨t,V,J,S,r,q⟩:=zq;unfold qA at q
 split at q
 .rename_i n
  obtain⟨y,rfl,Z⟩:=r.one
  cases R:lstOf V n with
  |none=>rw[R]at q;exact q.elim
  |some B=>
   rw[R,fQ]at q
   cases e2:pR B with
   |none=>rw[e2]at q;exact q.elim
   |some ls=>
    rw[e2,fQ]at q
    split at q
    .rename_i c
     obtain⟨a,D,g,z,rz⟩:=S.lstOf R;obtain⟨Y,L,rfl⟩:=Z.locE;rw[g]at L;cases L
     have:=vQ e2 rz;subst this;refine xu.h W s O H _ k Q I rv {_,ls,rfl,z,c,λB w d l H2 U eH=>?_};subst eH;have ez:=zd (vT d) (vS ls)<|w.trans (gR ls).symm;subst ez;exact q (t++[l]) _ _ (ag _ _) (fY.same<|cw U _) (S.newLst U<|A' _)<|lz S
    exact q.elim
 .exact q.elim,λJ V=>by
 unfold qA
 split
 .exact oQ λ_=>oQ λ_=>by split<;>trivial
 trivial}
noncomputable def ng:fy W->hJ (fy f7)
 |[]=>bi []
 |.str [c]::ws=>(ng ws).map (c :: ·)
 |_=>b0
theorem sB:∀{ws:fy W} {l:fy f7} {vs:fy V},ng ws=bi l->RelWs K μ H ws vs->vs=j9 l
 |[],l,vs,h,r=>by cases h;exact r.nilE
 |w::ws,l,vs,h,r=>by
  obtain⟨x,D,rfl,Y,U⟩:=r.consE;unfold ng at h
  split at h
  .trivial
  .rename_i c Wj e
   cases e
   cases e2:ng ws with
   |none=>rw[e2]at h;cases h
   |some d=>rw[e2]at h;cases h;rw[Y.strE,sB e2 U];rfl
  cases h
def vU:W->hJ (fy f7)
 |.str l=>bi l
 |.tup ws=>ng ws
 |_=>b0
def sD(fe:FE):FE:=λY st=>(fe Y st).bind λx st=>sv (vU x) λl=>if l.length<4000/\(kW l).length<64 then .ok (.loc st.length) (st++[.lst<|jk<|kW l])else .bad
theorem eU{m:fy f7}(hm:m.Nodup)(h:∀c∈m,c∈l):m.length<=l.length:=by
 induction m generalizing l with
 |nil=>exact cG _
 |cons a r U=>
  obtain⟨Z,B⟩:=bI.mp hm;have J:=h a (by simp);have:=U B λc D=>by have:c≠a:=λz=>Z<|z▸D;exact(List.mem_erase_of_ne this).mpr (h c<|aJ _ D)
  rw[mZ J]at this;have:0<l.length:=oJ J;simp;lia
theorem Gf{p1 p2 Tw rV:Pos}(Z:X.mg "sorted"=b0)(h3:X.mg "set"=b0)(B:SE X e fe)(D:X.calm=cT:=by rfl)
  (Wi:Gl X "sorted":=by rfl) (WK:Gl X "set":=by rfl) (W7:qe [e] X.env=(eh,eval e X.env)::qe [] X.env:=by rfl):SE X (.Call (.Name "sorted" p1) [.Call (.Name "set" p2) [e] [] rV] [] Tw) (sD fe):={(F5 Z h3 {B.h} D Wi WK W7).h.imp λO H Q h=>by
 obtain⟨t,Y,V,l,h⟩:=h;refine{t,Y,V,l,RK.bind h l λL W x v H1 p1 x1 I d Z=>?_}
 cases R:vU x with
 |none=>rw[R]at Z;exact Z.elim
 |some ll=>
  rw[R,fQ]at Z
  split at Z
  .rename_i c
   refine{ll,?_,c.1,λm hm rS=>?_,λm ve om hmem a H2 J eH=>?_}
   .cases x with
    |str z=>cases R;exact .inl d.strE
    |tup k=>obtain⟨p,w,rfl,U,r⟩:=d.tupE;have:=sB R r;subst this;exact .inr ⟨p,rfl,U⟩
    |_=>cases R
   .exact eO (eU hm λc D=>ke.mpr<|rS c D) c.2
   subst eH;have em:m=kW ll:=by refine t9 ((List.Pairwise.and om ve).imp λz=>Nat.lt_of_le_of_ne z.1 z.2) (m_ ll) λx=>?_;rw[hmem,ke]
   subst em;exact Z (L++[a]) _ _ (ag _ _) (fY.same<|cw J _) (I.sto.newLst J<|yk _ _ _)<|lz I.sto
  exact Z.elim}
noncomputable def ze:fy W->hJ (fy ir)
 |[]=>bi []
 |.bl k::ws=>(ze ws).map (k :: ·)
 |_=>b0
theorem Er:∀{ws:fy W} {ls:fy ir} {vs:fy V},ze ws=bi ls->RelWs K μ H ws vs->vs=ls.map V.bl
 |[],ls,vs,h,r=>by cases h;exact r.nilE
 |w::ws,ls,vs,h,r=>by
  obtain⟨x,D,rfl,Y,U⟩:=r.consE
  cases w with
  |bl l=>
   simp only[ze]at h
   cases e:ze ws with
   |none=>rw[e]at h;cases h
   |some z=>rw[e]at h;cases h;rw[Y.blE,Er e U];rfl
  |_=>simp only[ze]at h;cases h
def zf(ws:fy W)(st:fy al):R W:=match ws with
 |[.loc n]=>sv (lstOf st n) λB=>sv (ze B) λls=>.ok (.bl<|ls.all id) st
 |_=>.bad
theorem U1(D:X.calm=cT:=by rfl):oR X (.builtin "all") zf:={λW s O H Z z Q I rv zq=>by
 obtain⟨t,V,J,S,r,q⟩:=zq;unfold zf at q
 split at q
 .rename_i n
  obtain⟨y,rfl,w⟩:=r.one
  cases R:lstOf V n with
  |none=>rw[R]at q;exact q.elim
  |some B=>
   rw[R,fQ]at q
   cases e2:ze B with
   |none=>rw[e2]at q;exact q.elim
   |some k=>
    rw[e2]at q;obtain⟨a,Z,g,d,U⟩:=S.lstOf R;obtain⟨Y,L,rfl⟩:=w.locE;rw[g]at L;cases L
    have:=Er e2 U;subst this;exact(UG D).h W s O H _ z Q I rv {_,k,rfl,d,jD S q}
 .exact q.elim,λJ V=>by
 unfold zf
 split
 .exact oQ λ_=>oQ λ_=>trivial
 trivial}
end
noncomputable def W.ty:W->hJ String
 |.non=>bi "NoneType" | .bl _=>bi "bool" | .int _=>bi "int" | .str _=>bi "str" | .tup _=>bi "tuple" | .loc _=>b0
noncomputable def MP(t T:String):ir:=(t==T)||(t == "bool" && T == "int")
def U2{K:ti}(h:H9 T){w:W}{t:String}(Z:w.ty=bi t):kitOne K (.type t) (.type T)=bi (MP t T):=by
 cases w<;>simp only[W.ty]at Z<;>cases Z<;>(rcases h with rfl|rfl|rfl|rfl<;>rfl)
def Gh(T:String)(fa:FE):FE:=λY st=>(fa Y st).bind λx st=>match x.ty with
 |some t=>.ok (.bl<|MP t T) st
 |none=>.bad
section
variable{a b o:ow}{fa fb fc fe fo:FE}{fs:FA}
theorem Os{xT:Str}(hm:X.mg "isinstance"=b0)(hT:X.mg xT=b0)(hv:aaf xT=bi (.type T))(J:SE X a fa)(d:H9 T:=by first|exact .inl rfl|exact .inr (.inl rfl)|exact .inr (.inr<|.inl rfl)|exact .inr<|.inr<|.inr rfl)
  (hg:Gl X "isinstance":=by rfl) (Ye:Gl X xT:=by rfl) (R:xT ≠ "__name__":=by decide) (hd:(xT==("__debug__":Str))=eh:=by decide)
  (k:qe [a,.Name xT p2] X.env=(eh,eval a X.env)::qe [.Name xT p2] X.env:=by rfl) (PP:qe [.Name xT p2] X.env=(eh,eval (.Name xT p2) X.env)::qe [] X.env:=by rfl) (lR:(Zt pos<|qe [.Name xT p2] X.env).any (·.1)=eh:=by rfl) :
  SE X (.Call (.Name "isinstance" p) [a,.Name xT p2] [] pos) (Gh T fa):=by
 have C:ju X (.builtin "isinstance") (λxs H Q=>∃x μ V w t,xs=[x,.ty T]/\fq X.K X.mg μ V H/\bp X.K μ H w x/\w.ty=bi t/\Q (.bl<|MP t T) H):=by
  intro W s O H xs us Q I r h;obtain⟨x,μ,V,w,t,rfl,S,rx,ht,q⟩:=h;obtain⟨u,u2,rfl,r1,r2⟩:=ce.two r;obtain rfl:u2=.type T:=r2;have e:=U2 (K:=X.K) d ht
  cases w with
  |tup ws=>
   cases ht
   obtain⟨p,U,rfl,hS,_⟩:=rx.tupE
   cases r1
   obtain⟨br,_,D,_⟩:=I.tuple hS;obtain⟨o,Z,B,_⟩:=D;exact ZR PySem.W.kitx_tuple I.kIn ⟨o,Z,B⟩ e (λz=>nomatch z) λtk=>{.bl _,H,I.tok tk,rfl,q}
  |non=>cases ht;cases rx.nonE;exact qr I r1 .non e λtk=>{.bl _,H,I.tok tk,rfl,q}
  |bl b=>cases ht;cases rx.blE;exact qr I r1 (.bl _) e λtk=>{.bl _,H,I.tok tk,rfl,q}
  |int b=>cases ht;cases rx.intE;exact qr I r1 (.int _) e λtk=>{.bl _,H,I.tok tk,rfl,q}
  |str b=>cases ht;cases rx.strE;exact qr I r1 (.str _) e λtk=>{.bl _,H,I.tok tk,rfl,q}
  |loc b=>cases ht
 refine{(vz C hg hm o_ (k7 J.h (k7 (LN Ye hT hv (v:=.ty T) rfl R hd) vy PP) k) (by decide) (by decide) k lR).imp λO H Q h=>?_};obtain⟨μ,Y,V,l,h⟩:=h;refine{μ,Y,V,l,RK.bind h l λL st1 x v H1 p1 x1 l1 q1 Z=>?_}
 cases ht:x.ty with
 |none=>rw[ht]at Z;exact Z.elim
 |some t=>
  rw[ht]at Z;exact{v,L,st1,x,t,rfl,l1.sto,q1,ht,Z L _ H1 (af _) dy.refl l1.sto .bl}
end
abbrev uY:fy i2:=[.type "ValueError",.type "Exception",.type "BaseException",.type "object"]
abbrev yl:String:="ValueError.__new__"
def IH(K:ti)(C:nt):fy i2:=match K.lookup C with
 |some ⟨_,_,.cls cd,_⟩=>cd.mro
 |_=>[]
theorem qB{YU:fy i2}{L:String}(X:K.In h)(q:excIn K C YU L=cT) :
  ∃J N nm z bs hdct sn sub ab col dd k0 k1 k2 k3 k5 W,h.get? C=bi (excClassObj nm z C N bs J hdct sn sub ab col dd k0 k1 k2 k3 k5 L)/\h.Ns N W/\W "__init__"=b0/\OwnTail h YU J/\IH K C=.ref C::J:=by
 unfold excIn at q
 split at q
 .rename_i dd V t R
  split at q
  .rename_i C' J k0 k1 k2 k3 n k5 hm d
   simp at q;obtain⟨⟨⟨⟨⟨rfl,rfl⟩,w⟩,B⟩,Z⟩,U⟩:=q;have r:IH K C'=V.mro:=by unfold IH;rw[R]
   obtain⟨nm,bs,D,Y,z,k,sn,sub,ab,col,I⟩:=V;dsimp only at hm w Z U r;subst hm w;have O:t=#[k0,k1,k2,k3,bi<|.builtin n,k5]:=by obtain⟨l⟩:=t;simp only at d;rw[d]
   subst O;exact{J,Y,nm,z,bs,k,sn,sub,ab,col,dd,k0,k1,k2,k3,k5,_,X _ _ R,.of_isNs<|PySem.W.isNs_of_in X Z,PySem.W.nsMap_none_of_in X Z U,PySem.W.tail_of_in X B,r}
  .cases q
 .cases q
structure U3(K:ti)(mg:Str->hJ i2)(x:Str):Prop where
 ex:∃C,mg x=bi (.ref C)/\excIn K C uY yl=cT
def vV(c:Str):FS:=λY st=>.ex c Y st
theorem Bb{np f_ pos p':Pos}{z:Str}{j:f7}(hC:U3 X.K X.mg x)(gz:X.calm=cT:=by rfl)(hg:Gl X x:=by rfl)(R:(x==("__debug__":Str))=eh:=by decide)
  (k:qe [.Constant (.str z) j p'] X.env=(eh,eval (.Constant (.str z) j p') X.env)::qe [] X.env:=by rfl):SS X (.Raise (bi<|.Call (.Name x np) [.Constant (.str z) j p'] [] f_) b0 pos) (vV x):={by
 intro W s O H D I h;obtain⟨r,Y,d,l,h⟩:=h;obtain⟨C,hm,q⟩:=hC.ex;obtain⟨bm,N,nm,qn,bs,hdct,sn,sub,ab,col,dd,k0,k1,k2,k3,k5,mN,g1,g2,g3,g4,g5⟩:=qB I.kIn q;refine wpAny_Raise_call_subT (nm:=nm) (q:=qn) (N:=N) (bs:=bs) (hdct:=hdct) (sn:=sn) (sub:=sub) (ab:=ab) (col:=col) (dd:=dd) (k0:=k0) (k1:=k1) (k2:=k2) (k3:=k3) (k5:=k5)
  F.excBase_ValueError (g4.hasType F.excBase_ValueError.hasBase) (I.ok.hd gz) rfl g3 (qp I hg hm ⟨rfl,?_⟩ R)
 refine Calls.evalArgs_plain ?_;show nz _ _ (spliced ((eh,eval (.Constant (.str z) j p') X.env)::[])) _ _ s;refine jq (wpAny_Constant_str<|jM<|{rfl,(by show 1<=sizeLine;decide),g1,g2,g4,λh' e J=>?_});have I2:bn X W O H { s with heap:=h',toks:=s.toks+1 }:=I.kept J.keeps;have en:H e=b0:=by
  cases hu:H e with
  |none=>rfl
  |some u=>
   obtain⟨ob,DO⟩:=(I.hok e u hu).ex;have:=J.new;rw[DO]at this;cases this
 obtain⟨t,Lx,ht2,ht3⟩:=J.there;have hin:∀env∈X.stack,∀b,env.frame=bi b->b∈rX X.stack:=λenv k b U=>lV.mpr ⟨env,k,U⟩;refine h W r O H (.ref e) _ (af _) dy.refl l {I2,e,.ref C,t,hideAll s.heap<|rX X.stack,rfl,hm,en,λb o U=>J.keeps b o<|PySem.W.of_hideAll _ U,?_,?_,.inr<|.inl ⟨_,_,Lx,rfl,rfl,rfl,rfl,rfl⟩,λb o U V=>?_}
 .cases hq:(hideAll s.heap<|rX X.stack).get? e with
  |none=>rfl
  |some o=>have z:=PySem.W.of_hideAll _ hq;have y:=J.new;rw[z]at y;cases y
 .exact(PySem.W.funFrames_hide I.stack hin).of_keeps λb o U _=>{o,J.keeps b o U,rfl}
 have old:∀o0,s.heap.get? b=bi o0->s.heap.get? b=bi o:=λo0 h0=>by have B:h'.get? b=bi o:=U;rw[J.keeps b o0 h0]at B;rw[<- B];exact h0
 have jC:∀o0,s.heap.get? b=bi o0->b∉rX X.stack->(hideAll s.heap<|rX X.stack).get? b=bi o:=λo0 h0 L=>PySem.W.hideAll_get _ (old o0 h0) L;rcases V with V|⟨⟨o0,h0⟩,hf,hbx⟩|⟨⟨y,hy⟩,hf⟩|⟨pp,w,rfl⟩
 .cases hu:H b with
  |none=>exact absurd hu V
  |some u=>
   obtain⟨ob,DO⟩:=(I.hok b u hu).ex;exact jC ob DO λz=>by have:=I.stkFree b z;rw[hu]at this;cases this
 .obtain⟨o1,Z⟩:=I.base.there b o0 h0 hbx;refine jC o1 Z λz=>?_;rcases aS.mp (I.stkSub b z)with z|z
  .rw[z]at h0;exact absurd (aQ (aD h0) I.ok.above)<|cV _
  exact hf z
 .obtain⟨v,ov,hov,_⟩:=I.cell y b hy;exact jC ov hov hf
 obtain⟨p1,p2,p3,p4,_⟩:=I.pin pp w;refine jC _ p1 λz=>?_;rcases aS.mp (I.stkSub _ z)with z|z
 .exact p3 z
 exact p4 z}
theorem bn.unbound{v:hJ i2}{m:Str->hJ i2}(I:bn X ah σ H s)(hN:X.N.Nodup)(L:X.N[i]?=bi x)(D:s.heap.Ns X.env.locals m)
  (TC:h'.Ns X.env.locals (λy=>if y=x then v else m y)) (O:Z6 X.env.locals s.heap h'):bn X ah (σ.set i b0) H { s with heap:=h',toks:=t' }:=by
 obtain⟨m0,hn0,Y⟩:=id I.loc;have em:m0=m:=by
  obtain⟨o,t,V,a1,a2,a3,a4⟩:=hn0;obtain⟨o',es',ep',b1,b2,b3,b4⟩:=D;rw[a1]at b1;cases b1
  rw[a2]at b2;cases b2
  funext y;rw[<- a4,<- b4]
 subst em;have cne:=I.cne;refine{I.ok,I.os,I.bare,{λb o e n U J=>?_,λb o e n U J=>?_,I.base.free,λb o e J=>?_,I.base.tups,I.base.frzs,I.base.tbls},{_,TC,λj y w R e2 e3=>?_},λy c e=>?_,I.free,I.freeC,λp W=>?_,λb ob e=>?_,by simpa using I.len}
 .exact(O.2 b<|aM<|aQ (aD e) I.ok.above).trans (I.base.keep b o e n U J)
 .obtain⟨sl,R⟩:=I.base.slot b o e n U J;exact{sl,(O.2 b<|aM<|aQ (aD e) I.ok.above).trans R}
 .obtain⟨o',R⟩:=I.base.there b o e J;exact{o',(O.2 b<|aM<|aQ (aD e) I.ok.above).trans R}
 .by_cases Z:j=i
  .subst Z
   by_cases r:j<σ.length
   .rw[bt r]at e2;cases e2
   .rw[b8<|by simpa using r]at e2;cases e2
  .rw[cy<|Zw Z]at e2;obtain⟨u',B,q⟩:=Y j y w R e2 e3;refine{u',B,?_};rcases q with⟨k,e⟩|⟨k,c,e,z⟩
   .refine .inl {k,?_};have:y≠x:=λe=>Z<|vx hN R<|e▸L;simp[this,e]
   .exact .inr {k,c,e,z.sameBut O<|cne y c e}
 .obtain⟨w',z⟩:=I.cell y c e;exact{w',z.sameBut O<|cne y c e}
 .obtain⟨e,n,ne,nf,d⟩:=I.pin p W;exact{(O.2 p.1 ne).trans e,n,ne,nf,d}
 .refine(I.hok b ob e).stay (λc w' hc q=>(O.2 c ?_).trans q) (λ_ q=>q) λ_ _ q=>q;rintro rfl;rcases hc with rfl|hc
  .rw[I.free]at e;cases e
  .rw[I.free]at hc;cases hc
def uA.lands{c:Str}{e:i2}{Q:Unit->n4->Prop}{E:i2->n4->Prop}{M:Model}(f:uA X ah σ c H e s)(qS:X.stack=X.env::outer)(uw:X.env.frame=bi X.env.locals)(R:X.A.frames=bi X.stack)
  (h:∀x C t B h',e=.ref x->X.mg c=bi C->H x=b0->Heap.FlyingW B X.stack x C (.ref t) h'->s.heap.UpToSlots h' ->
   (∀b o,s.heap.get? b=bi o->(H b≠b0\/((∃o0,X.s₀.heap.get? b=bi o0)/\b∉X.fs/\b∉X.ex)\/((∃y,X.env.cells.lookup y=bi b)/\b∉rX X.stack)\/∃p∈X.pn++ah,p.1=b)->B.get? b=bi o)->Q () { s with heap:=h' }) :
  nz M X.A (noteFrame e X.env) (λ_ s₂=>nz M X.A (setFlight e b0) Q E s₂) E s:=by
 obtain⟨x,C,t,B,rfl,r,J,D,nx,ff,tr,xl⟩:=f.ex;rw[qS]at ff R;rcases tr with tr|⟨oe,w,Y,rfl,_,k,Z,d⟩|⟨L,z,tr⟩
 .exact wpAny_looks_onW R uw ⟨D,nx,ff,tr⟩ λZ I u1=>tL I λV O u2=>h x C t B V rfl r J (by rw[qS];exact O) (u1.trans u2) xl
 .unfold noteFrame;simp only[uw];refine aa<|e_ Y k Z<|wpAny_newEntryW R ff uw Y D nx k (Array.getElem?_eq_some_iff.mp Z).1 d λh' z=>?_;obtain⟨U,W,k3,k4⟩:=z;exact h x _ t B h' rfl r J {U,nx,by rw[qS];exact W,k3} k4 xl
 exact oI z tr (tL ⟨D,nx,ff,tr⟩ λh' O up=>h x C t B h' rfl r J (by rw[qS];exact O) up xl)
theorem bn.landed{B:qk}{x:nt}{C:i2}{t:nt}(I:bn X ah σ H s)(fl:Heap.FlyingW B X.stack x C (.ref t) h')(up:s.heap.UpToSlots h')(qS:X.stack=X.env::X.outer)
  (xl:∀b o,s.heap.get? b=bi o->(H b≠b0\/((∃o0,X.s₀.heap.get? b=bi o0)/\b∉X.fs/\b∉X.ex)\/((∃y,X.env.cells.lookup y=bi b)/\b∉rX X.stack)\/∃p∈X.pn++ah,p.1=b)->B.get? b=bi o) :
  bn X ah σ H { s with heap:=h' }:=by
 obtain⟨f1,f2,f3,f4⟩:=fl;obtain⟨m,L,Y⟩:=id I.loc;have cellK:∀y c,X.env.cells.lookup y=bi c->∀v,s.heap.IsCell c v->h'.IsCell c v:=λy c e v zq=>by
  obtain⟨o,Z,O⟩:=zq
  by_cases hc:c∈rX X.stack
  .obtain⟨sl,q⟩:=up c o Z λD z=>by rw[O]at z;cases z
   exact⟨_,q,O⟩
  .exact{o,f1 c o<|xl c o Z<|.inr<|.inr<|.inl ⟨⟨y,e⟩,hc⟩,O}
 have frames:∀b∈X.fs,∀o,s.heap.get? b=bi o->∃sl,h'.get? b=bi { o with slots:=sl }:=λb U o Z=>by
  obtain⟨_,o',tR,O⟩:=I.funs.mem U;rw[Z]at tR;cases tR
  exact up b o Z O
 have kept:∀b o,s.heap.get? b=bi o->(∃o0,X.s₀.heap.get? b=bi o0)->b∉X.fs->b∉X.ex->h'.get? b=bi o:=λb o Z V U J=>f1 b o<|xl b o Z<|.inr<|.inl ⟨V,U,J⟩;refine{I.ok,I.os,I.bare,{λb o q n U J=>kept b o (I.base.keep b o q n U J) ⟨o,q⟩ U J,λb o q n U J=>?_,I.base.free,λb o q J=>?_,I.base.tups,I.base.frzs,I.base.tbls},{m,up.ns L,λi y v R e2 e3=>?_},λy c e=>?_,I.free,I.freeC,λp W=>?_,λb u U=>?_,I.len}
 .obtain⟨sl,w⟩:=I.base.slot b o q n U J;obtain⟨sl2,q2⟩:=frames b U _ w;exact⟨sl2,q2⟩
 .obtain⟨o',w⟩:=I.base.there b o q J
  by_cases U:b∈X.fs
  .obtain⟨sl2,q2⟩:=frames b U _ w;exact⟨_,q2⟩
  .exact{o',kept b o' w ⟨o,q⟩ U J}
 .obtain⟨u,r,lk⟩:=Y i y v R e2 e3;refine{u,r,?_};rcases lk with lk|⟨k,c,e,z⟩
  .exact .inl lk
  .exact .inr {k,c,e,cellK y c e _ z}
 .obtain⟨v,z⟩:=I.cell y c e;exact{v,cellK y c e v z}
 .obtain⟨e,n,ne,nf,d⟩:=I.pin p W;exact{f1 _ _<|xl _ _ e<|.inr<|.inr<|.inr ⟨p,W,rfl⟩,n,ne,nf,d}
 .refine(I.hok b u U).stay (λc v hc q=>f1 c v<|xl c v q<|.inl ?_) (λ_ q=>q) λ_ _ q=>q;rcases hc with rfl|hc
  .rw[U];simp
  .rw[hc];simp
noncomputable abbrev Cx.trying(X:Cx)(r:fy (nt×Obj))(E:i2->n4->Prop):Cx:={ X with pn:=r,xe:=E }
noncomputable abbrev Cx.within(X:Cx)(v:i2):Cx:={ X with A:=X.A.mark<|bi v,calm:=eh,xe:=λ_ _=>False }
theorem Cx.Ok.trying(k:X.Ok)(r:fy (nt×Obj))(E:i2->n4->Prop):(X.trying r E).Ok:={k.mod,k.kind,k.glob,k.blt,k.above,k.inj,k.has,k.cab,k.hd,k.frames,k.stk,k.exf,k.bs,k.bsz,k.noex,k.exfs,k.funs,k.frf}
theorem Cx.Ok.within(k:X.Ok)(v:i2):(X.within v).Ok:={k.mod,k.kind,k.glob,k.blt,k.above,k.inj,k.has,k.cab,(λz=>by cases z),k.frames,k.stk,k.exf,k.bs,k.bsz,k.noex,k.exfs,k.funs,k.frf}
section
theorem bn.trying(I:bn X ah σ H s)(E:i2->n4->Prop):bn (X.trying (X.pn++ah) E) [] σ H s:={I.ok.trying _ _,I.os,I.bare,I.base,I.loc,I.cell,I.free,I.freeC,λp W=>I.pin p (by simp_all),I.hok,I.len}
theorem bn.tried(ok:X.Ok)(I:bn (X.trying (X.pn++ah) E) pins' σ H s):bn X ah σ H s:={ok,I.os,I.bare,I.base,I.loc,I.cell,I.free,I.freeC,λp W=>I.pin p<|cL _ W,I.hok,I.len}
theorem bn.within(I:bn X ah σ H s)(v:i2):bn (X.within v) ah σ H s:={I.ok.within v,I.os,I.bare,I.base,I.loc,I.cell,I.free,I.freeC,I.pin,I.hok,I.len}
def bn.out(ok:X.Ok)(I:bn (X.within v) ah σ H s):bn X ah σ H s:={ok,I.os,I.bare,I.base,I.loc,I.cell,I.free,I.freeC,I.pin,I.hok,I.len}
theorem bn.adopt{x:nt}{r:HO}(I:bn X ah σ H s)(J:H x=b0)(V:X.s₀.heap.get? x=b0)(w:x≠X.env.locals)(D:∀y c,X.env.cells.lookup y=bi c->c≠x)(W:∀p∈X.pn++ah,p.1≠x)(ok:iA X.prog X.w (dX H x r) s.heap x r):bn X ah σ (dX H x r) s:=by
 have O:=cw J r;refine{I.ok,I.os,I.bare,{I.base.keep,I.base.slot,λb o q n U=>?_,I.base.there,λb L q=>O _ _<|I.base.tups b L q,λb o u q=>O _ _<|I.base.frzs b o u q,λb Z q=>?_},I.loc,I.cell,?_,λy c e=>?_,λp h=>?_,λb u U=>?_,I.len}
 .rw[bX (λz=>by rw[z,V]at q;cases q)];exact I.base.free b o q n U
 .obtain⟨m,e⟩:=I.base.tbls b Z q;exact{m,O _ _ e}
 .rw[bX<|Zw w];exact I.free
 .rw[bX<|D y c e];exact I.freeC y c e
 .obtain⟨a,b,c,d,e⟩:=I.pin p h;exact{a,by rw[bX<|W p h];exact b,c,d,e}
 by_cases e:b=x
 .subst e;rw[cv]at U;cases U;exact ok
 rw[bX e]at U;exact(I.hok b u U).stay (λ_ _ _ q=>q) (λc q=>O _ _ q) λc L q=>O _ _ q
end
theorem vW{g:Array GenState}{d:Drawn}{t:f7}{os:OsState}{e:nt}{w:Obj}{Q:ir->n4->Prop}{nm z YR YN:Str}{N D N':nt}{bs J YM W6:fy i2}{hdct PU:ir}{sn YG:fy Str}{sub Wc:fy i2}{ab YQ:ir}{col Wn:hJ ir}{dd Lr:hJ nt}{k0 k1 k2 k3 k5 V k W j3 R:hJ i2}{L Tn:String}
  (I:h.get? C=bi (excClassObj nm z C N bs J hdct sn sub ab col dd k0 k1 k2 k3 k5 L)) (r:h.get? D=bi (excClassObj YR YN D N' YM W6 PU YG Wc YQ Wn Lr V k W j3 R Tn)) (Y:h.get? e=bi w) (Ls:w.cls=.ref C) (O:W6.contains (.type "BaseException")=cT)
  {b:ir} (U:(Zv C::J).contains (.ref D)=b) (Z:Q b ⟨h,g,d,t,os⟩):nz M A (excMatches (.ref e)<|.ref D) Q E ⟨h,g,d,t,os⟩:=by
 have B:(Zv D::W6).contains (.type "BaseException")=cT:=by rw[l_,O,Bool.or_true]
 have f:=tc_notTuple
 repeat(first|(with_reducible refine fx Y ?_;rw[Ls])|with_reducible refine fx r ?_|(with_reducible refine i6 r ?_;rw[B])|(with_reducible refine i6 I ?_;rw[U])|wp_step)
 cases b<;>(wp_walk;exact Z)
open AutoSeq1 (wpAny_loadPart')
theorem Bc(l:nt)(Y:Array i2)(n:f7)(b:nt)(Au:Array i2)(L:f7)(dd:hJ nt)(sl:Array (hJ i2))(Cu:¬(!Y.isEmpty&&aaE (Y.size+Au.size))=cT)(z:Y.size<=sizeLine)(t:Y.size+Au.size<=sizeLine+1) :
  Meets (Builtin.«list.extend» ⟨[.ref l,.ref b],[]⟩) (λ_ R s=>s.heap.get? l=bi { cls:=.type "list",dict:=b0,data:=.seq Y n,slots:=#[] }/\s.heap.get? b=bi { cls:=.type "tuple",dict:=dd,data:=.seq Au L,slots:=sl }
   /\ R (.ok<|.ret ZJ) { s with heap:=s.heap.update l<|ZP λx=>x++Au,toks:=s.toks }):=
 .of_wp λk w A R s h=>by
  obtain⟨J,U,q⟩:=h
  wp_walk using (kN J rfl (hz:=z)),bJ J,bJ U
  exact⟨_,rfl,q⟩
def II(K:ti):V->fy V->Hp->VK->Prop:=λx vs H Q=>∃l b xs B,x=.ref l/\vs=[.ref b]/\H l=bi (.lst xs)/\fY K H b B/\xs.length+B.length<=sizeLine/\Q .non (dX H l<|.lst<|xs++B)
section
theorem Da:WV X "list.extend" (II X.K):=by
 intro W s O H x Z v w Q I Y rv h;obtain⟨l,b,L,t,rfl,rfl,hH,hB,J,q⟩:=h
 cases Y
 obtain⟨u,rfl,R⟩:=rv.one
 cases R
 obtain⟨z,B,n,r,U,e⟩:=I.lstM hH;obtain⟨its2,V,⟨o,e2,D,n2,k⟩,z2⟩:=I.tuple hB;have hl2:=V.length;have hsz:B.toArray.size+its2.toArray.size<=sizeLine:=by rw[bb,bb];omega
 have hlong:¬ (!B.toArray.isEmpty&&aaE (B.toArray.size+its2.toArray.size))=cT:=by rw[vB hsz,Bool.and_false];exact dN
 obtain⟨cls,dd,data,d⟩:=o;dsimp only at D k;subst D k;refine gY F.slot_list_extend ⟨_,e,rfl⟩ F.entry_list_extend (F.args_list_extend_2 _ _)
  (Bc l B.toArray n b its2.toArray n2 dd d hlong (by rw[bb];omega)<|by omega) ⟨e,e2,?_⟩
 refine{.non,_,I.lset (its':=B++its2) hH e (by simp) (r.append V) ?_,rfl,q};rw[aI];omega
def lG(x:W)(ws:fy W)(st:fy al):R W:=match x,ws with
 |.loc n,[.tup ys]=>(match st[n]? with
  |some (.lst zs)=>if zs.length+ys.length<=j' then .ok .non (st.set n<|.lst<|zs++ys)else .bad
  |_=>.bad)
 |_,_=>qy x ws st
theorem Db:QY X "list.extend" lG:={λW s O H x D v z Q I rv rus zq=>by
 obtain⟨t,V,wx,J,S,Y,rs,q⟩:=zq;unfold lG at q
 split at q
 .obtain⟨y1,rfl,w⟩:=rs.one
  split at q
  .rename_i r R
   split at q
   .rename_i c
    obtain⟨a1,U,vs1,k,B⟩:=S.get R;obtain⟨b1,L,rfl⟩:=Y.locE;rw[U]at L;cases L
    obtain⟨p,vs2,rfl,d,Z⟩:=w.tupE;exact Da W s O H _ _ v z Q I rv rus {a1,p,vs1,vs2,rfl,rfl,k,d,by rw[<- B.len,<- Z.len];exact iW c,q t _ _ (af _) (fY.but gP k) (S.set R U k<|B.app Z) .non}
   exact q.elim
  exact q.elim
 .exact yi.h W s O H x D v z Q I rv rus ⟨t,V,wx,J,S,Y,rs,q⟩,λx J V=>by
 unfold lG
 split
 .repeat' split
  all_goals trivial
 exact(yi (X:=X)).n x J V}
end
section
variable{a b o:ow}{fa fb fe fo:FE}{fs:FA}
def Bd(fa:FE):FE:=λY st=>(fa Y st).bind λx st=>match x with
 |.str l=>if l.length<=j' then .ok (.str l.reverse) st else .bad
 |_=>.bad
theorem Q2{d r:Pos}(J:SE X a fa):SE X (.Subscript a (.Slice b0 b0 (bi<|.UnaryOp .USub (.Constant (.int 1) j r) d) p2) pos) (Bd fa):={(Mm (one:=a) J.h).imp λO H Q h=>by
 obtain⟨t,Y,V,l,h⟩:=h;refine{t,Y,V,l,RK.bind h l λL W x v H1 U D I w Z=>?_}
 cases x with
 |str z=>
  dsimp only at Z
  split at Z
  .rename_i R
   exact{z,w.strE,iW R,Z L _ H1 (af _) dy.refl I.sto .str}
  exact Z.elim
 |_=>exact Z.elim}
def IJ(xs:fy α)(k:f7)(y:α):((xs.toArray.extract 0 k).push y++xs.toArray.extract k).toList=xs.take k++y::xs.drop k:=by simp;exact fL (by simp)
def MQ:V->fy V->Hp->VK->Prop:=λx vs H Q=>∃(l:nt) (xs:fy V) (k:f7) (y:V),x=.ref l/\vs=[.int k,y]/\H l=bi (.lst xs)/\k<=xs.length/\xs.length+1<=sizeLine/\k<1000000/\Q .non (dX H l<|.lst (xs.take k++y::xs.drop k))
theorem Gi:WV X "list.insert" MQ:=by
 intro W s O H x D v w Q I Y rv h;obtain⟨l,L,k,y,rfl,rfl,hH,d,J,AB,q⟩:=h
 cases Y
 obtain⟨u,u2,rfl,B,Z⟩:=ce.two rv;obtain⟨t,rfl⟩:=B;obtain⟨z,R,n,r,U,e⟩:=I.lstM hH;have hfit:¬ (!Builtin.List.listFitsIndex k)=cT:=by unfold Builtin.List.listFitsIndex;simp;lia
 have hsz:R.toArray.size<=sizeLine:=by rw[bb];lia
 obtain⟨q0,hq0⟩:∃q0:hG,q0=k:=⟨_,rfl⟩
 rw[<- hq0]at hfit ⊢;refine gY F.slot_list_insert ⟨_,e,rfl⟩ F.entry_list_insert (F.args_list_insert_3 _ _ _) (AutoSeq1.list_insert_list_int_val_1 l R.toArray n q0 t u2 hfit hsz) {e,⟨.non,_,I.lset hH e ?_ ((r.take k).append<|.cons Z<|r.drop k) ?_,rfl,q⟩}
 .have V:¬ (q0<0):=by lia
  have hm:min q0.toNat R.toArray.size=k:=by rw[bb];lia
  simp only[aF V,hm];apply Array.toList_inj.mp;rw[IJ]
 rw[aI,bh,cX,dv]
 lia
def qC(x:W)(ws:fy W)(st:fy al):R W:=match x,ws with
 |.loc n,[.int k,y]=>(match st[n]? with
  |some (.lst zs)=>if 0<=k/\k.toNat<=zs.length/\zs.length<j'/\k<1000000 then .ok .non (st.set n<|.lst (zs.take k.toNat++y::zs.drop k.toNat))else .bad
  |_=>.bad)
 |_,_=>.bad
theorem ym:QY X "list.insert" qC:={λW s O H x D v z Q I rv rus zq=>by
 obtain⟨t,V,wx,J,S,Y,rs,q⟩:=zq;unfold qC at q
 split at q
 .rename_i n k y
  obtain⟨y1,y2,rfl,ry1,ry2⟩:=rs.two
  split at q
  .rename_i r R
   split at q
   .rename_i cc
    obtain⟨c1,c2,c3,c4⟩:=cc;obtain⟨k,rfl⟩:=jz c1;rw[aO]at c2 q;obtain⟨Z,d,vs1,w,B⟩:=S.get R;obtain⟨b1,L,rfl⟩:=Y.locE;rw[d]at L;cases L
    have U:=B.len;have hL:vs1.length+1<=sizeLine:=by rw[<- U];exact iW c3
    refine Gi W s O H _ _ v z Q I rv rus {Z,vs1,k,y2,rfl,by rw[ry1.intE],w,by lia,hL,by lia,?_};exact q t _ _ (af _) (fY.but gP w) (S.set R d w<|(B.take k).app<|.consI ry2<|B.drop k) .non
   .exact q.elim
  .exact q.elim
 .exact q.elim,λx J V=>by
 unfold qC
 repeat' split
 all_goals trivial}
end
noncomputable def Q3(i:f7):RS->RS
 |.nx Y st=>.nx (Y.set i b0) st
 |.bk Y st=>.bk (Y.set i b0) st
 |.ct Y st=>.ct (Y.set i b0) st
 |.rt w st=>.rt w st
 |_=>.bad
def Q4(g:FS)(z:fy Str)(i:f7)(w:FS):FS:=λY st=>match g Y st with
 |.ex c I bx=>if c∈z then Q3 i (w (I.set i<|bi<|.loc bx.length)<|bx++[.exc c])else .bad
 |r=>r
structure IK(K:ti)(mg:Str->hJ i2)(T:Str)(cs:fy Str):Prop where
 h:∀c∈cs,∃C Ta,mg c=bi (.ref C)/\mg T=bi (.ref Ta)/\excIn K C uY yl=cT/\excIn K Ta uY yl=cT/\(IH K C).contains (.ref Ta)=cT
theorem nV:∀{ρ:bR} {σ:St} (i:f7),Paired (λ(o:hJ W) (s:hJ V)=>∀w,o=bi w->∃v,s=bi v/\bp K μ H w v) ρ σ ->
  Paired (λ(o:hJ W) (s:hJ V)=>∀w,o=bi w->∃v,s=bi v/\bp K μ H w v) (ρ.set i b0) (σ.set i b0)
 |_,_,_,.nil=>.nil
 |_,_,0,.cons a t=>.cons (λw e=>by cases e) t
 |_,_,i+1,.cons a t=>.cons a<|nV i t
def fq.pushE(S:fq K mg μ st H){x:nt}{c:Str}{C:i2}(J:H x=b0)(D:mg c=bi C):fq K mg (μ++[x]) (st++[.exc c]) (dX H x<|vM x C):=
 S.push J ⟨C,D,cv⟩
theorem Q5{PL:fy tf}{b₀:tf}{T n:Str}{g gh:FS}{cs:fy Str}{pos Yn np:Pos}(hC:IK X.K X.mg T cs)(hN:X.N.Nodup)(L:X.N[i]?=bi n)(J:Fw X.env.scope n)
  (U:∀pn E,SB (X.trying pn E) body g) (hs:∀v,SB (X.within v) (b₀::PL) gh) (yK:X.ex=[]:=by rfl) (qS:X.stack=X.env::X.outer:=by rfl) (uw:X.env.frame=bi X.env.locals:=by rfl) (hk:X.env.kindOf n=bi .local:=by rfl) (hg:Gl X T:=by rfl) (hd:(T==("__debug__":Str))=eh:=by decide)
  (hf:X.fn n=cT\/X.env.scope.names.lookup n=bi .local:=by first|exact .inl rfl|exact .inr rfl) :
  SS X (.Try body [.ExceptHandler (bi<|.Name T np) (bi n) (b₀::PL) Yn] [] [] pos) (Q4 g cs i gh):={by
 intro W s O H D I h;obtain⟨μ,Y,d,l,h⟩:=h;refine wpAny_Try_except ?_;refine dz ((U (X.pn++W) _).h [] s O H D (I.trying _) {μ,Y,d,{l.env,l.sto},?_}) (λf s1 q=>?_)<|λ_ _ q=>q
 .unfold Q4 at h
  cases e:g Y d with
  |nx ρ' bx=>rw[e]at h;exact λμ' σ' H' p x r=>h μ' σ' H' p x {r.env,r.sto}
  |bk ρ' bx=>rw[e]at h;exact λμ' σ' H' p x r=>h μ' σ' H' p x {r.env,r.sto}
  |ct ρ' bx=>rw[e]at h;exact λμ' σ' H' p x r=>h μ' σ' H' p x {r.env,r.sto}
  |rt w bx=>rw[e]at h;exact h
  |bad=>rw[e]at h;exact h
  |ex c ρ' bx=>
   rw[e]at h;intro pins' μ' σ' H' ev s' pp xx r f;dsimp only at h
   split at h
   .rename_i R
    obtain⟨Ca,Ta,m1,m2,q1,q2,rS⟩:=hC.h c R;have I0:=f.inv;refine f.lands qS uw I.ok.frames λex C t B h' he hCc hxn fl up xl=>?_;subst he;obtain rfl:C=.ref Ca:=by have:=hCc.symm.trans m1;exact bf this
    have I1:=I0.landed fl up qS xl;have I2:bn X W σ' H' { s' with heap:=h' }:=bn.tried I.ok I1;obtain⟨oe,vs,_,_,_,N1,⟨Ls,_⟩,hdat,_⟩:=fl.2.2.2;have cov2:∀b o,h'.get? b=bi o->(H' b≠b0\/((∃o0,X.s₀.heap.get? b=bi o0)/\b∉X.fs/\b∉X.ex)\/((∃y,X.env.cells.lookup y=bi b)/\b∉rX X.stack)\/∃p∈X.pn++W,p.1=b)->B.get? b=bi o:=by
     intro b o hbo k;have jC:∀o1,s'.heap.get? b=bi o1->(H' b≠b0\/((∃o0,X.s₀.heap.get? b=bi o0)/\b∉X.fs/\b∉X.ex)\/((∃y,X.env.cells.lookup y=bi b)/\b∉rX X.stack)\/∃p∈(X.pn++W)++pins',p.1=b)->B.get? b=bi o:=λo1 Z k=>by have V:=xl b o1 Z k;have h3:=fl.1 b o1 V;rw[h3]at hbo;cases hbo;exact V
     rcases k with k|⟨⟨o0,h0⟩,hbf,hbx⟩|⟨⟨y,hy⟩,hbf⟩|⟨p,hp,rfl⟩
     .cases hu:H' b with
      |none=>exact absurd hu k
      |some u=>obtain⟨ob,DO⟩:=(I0.hok b u hu).ex;exact jC ob DO<|.inl k
     .obtain⟨o1,Z⟩:=I0.base.there b o0 h0 hbx;exact jC o1 Z<|.inr<|.inl ⟨⟨o0,h0⟩,hbf,hbx⟩
     .obtain⟨v,ov,hov,_⟩:=I0.cell y b hy;exact jC ov hov<|.inr<|.inr<|.inl ⟨⟨y,hy⟩,hbf⟩
     .obtain⟨p1,_⟩:=I0.pin p<|cL _ hp;exact jC _ p1<|.inr<|.inr<|.inr {p,cL _ hp,rfl}
    have noB:∀o,B.get? ex=bi o->False:=λo z=>by have:=fl.2.1;rw[z]at this;cases this
    obtain⟨bm,N,nm,qn,bs,hdct,sn,sub,ab,col,dd,k0,k1,k2,k3,k5,mN,g1,g2,g3,g4,g5⟩:=qB I2.kIn q1;obtain⟨W6,N',YR,YN,YM,PU,YG,Wc,YQ,Wn,Lr,j0,j1,j2,j3,j5,mN',g1',g2',g3',g4',g5'⟩:=qB I2.kIn q2;refine wpAny_handleBy_cons (codeAny_handlers_test ?_) (by intro z;cases z);refine qp (X:=X.within<|.ref ex) (I2.within _) hg m2 ?_ hd;refine vW g1 g1' N1 Ls (g4'.hasType F.excBase_ValueError.hasBase) (b:=cT) (by rw[<- g5];exact rS) ?_;refine codeAny_handlers_suite_as ?_;refine lands_againW fl λV fl2 up2=>?_;have I3:bn X W σ' H' { s' with heap:=V }:=I2.landed fl2 up2 qS cov2;obtain⟨oe2,vs2,_,_,_,heo2,⟨hcls2,_⟩,hdat2,_⟩:=fl2.2.2.2;have I4:bn X W σ' (dX H' ex<|vM ex<|.ref Ca) { s' with heap:=V }:=by
     refine I3.adopt hxn ?_ ?_ ?_ ?_ ?_
     .cases h0:X.s₀.heap.get? ex with
      |none=>rfl
      |some o0=>
       exfalso
       by_cases hfs:ex∈X.fs
       .obtain⟨_,o',tR,hd'⟩:=I3.funs.mem hfs;rw[heo2]at tR;cases tR
        exact hd' _ hdat2
       .exact noB _ (cov2 ex oe N1<|.inr<|.inl ⟨⟨o0,h0⟩,hfs,by rw[yK];simp⟩)
     .rintro rfl;obtain⟨m,⟨o,es,ep,a1,a2,_⟩,_⟩:=I3.loc;rw[heo2]at a1;cases a1
      rw[hdat2]at a2;cases a2
     .rintro y c' hy rfl;obtain⟨v,o,a1,a2⟩:=I3.cell y _ hy;rw[heo2]at a1;cases a1
      rw[hdat2]at a2;cases a2
     .rintro p hp rfl;exact noB _<|cov2 p.1 oe N1<|.inr<|.inr<|.inr ⟨p,hp,rfl⟩
     .refine⟨⟨oe2,vs2,heo2,hcls2,hdat2⟩,⟨oe2,heo2⟩,?_⟩;rintro ha hb' ⟨o,vs,z1,z2,z3⟩ keep;exact{o,vs,keep o z1,z2,z3}
    have hxt:dy X.K H' (dX H' ex<|vM ex<|.ref Ca):=fY.same<|cw hxn _;refine rY (X:=X.within<|.ref ex) (I4.within _) hN L J (v:=.ref ex) rfl (λs5 I5=>?_) hf;have S4:fq X.K X.mg (μ'++[ex]) (bx++[.exc c]) (dX H' ex<|vM ex<|.ref Ca):=fq.pushE r.sto hxn m1;have L4:Rl (X.within<|.ref ex) (μ'++[ex]) (ρ'.set i<|bi<|.loc bx.length) (bx++[.exc c]) (σ'.set i<|bi<|.ref ex) (dX H' ex<|vM ex<|.ref Ca):=
     ⟨pM (lz r.sto) i<|qw (ag _ _) hxt r.env,S4⟩
    have pm:μ <+: μ'++[ex]:=pp.trans<|ag _ _;have xm:dy X.K H (dX H' ex<|vM ex<|.ref Ca):=xx.trans hxt;have hp:(X.env.scope.kind==.class||(X.env.scope.kind==.module&&X.env.locals != X.env.globals))=eh:=by rw[I.ok.kind];rfl
    refine dz ((hs<|.ref ex).h W s5 _ _ { nx:=λO H=>D.nx (O.set i b0) H,rt:=D.rt,bk:=λO H=>D.bk (O.set i b0) H,ct:=λO H=>D.ct (O.set i b0) H } I5 {μ'++[ex],_,_,L4,?_}) (λf6 s6 q=>?_)<|λ_ _ z=>z.elim
    .cases e2:gh (ρ'.set i<|bi<|.loc bx.length) (bx++[.exc c])with
     |nx ρ2 st2=>rw[e2]at h;exact λμ3 σ3 H3 p3 x3 r3=>h μ3 (σ3.set i b0) H3 (pm.trans p3) (xm.trans x3) {nV i r3.env,r3.sto}
     |bk ρ2 st2=>rw[e2]at h;exact λμ3 σ3 H3 p3 x3 r3=>h μ3 (σ3.set i b0) H3 (pm.trans p3) (xm.trans x3) {nV i r3.env,r3.sto}
     |ct ρ2 st2=>rw[e2]at h;exact λμ3 σ3 H3 p3 x3 r3=>h μ3 (σ3.set i b0) H3 (pm.trans p3) (xm.trans x3) {nV i r3.env,r3.sto}
     |rt w st2=>rw[e2]at h;exact λμ3 v H3 p3 x3 S3 r3=>h μ3 v H3 (pm.trans p3) (xm.trans x3) S3 r3
     |ex c2 ρ2 st2=>rw[e2]at h;exact h.elim
     |bad=>rw[e2]at h;exact h.elim
    .cases f6 with
     |next=>
      obtain⟨σ6,H6,I6,q⟩:=q;have I6':bn X W σ6 H6 s6:=bn.out I.ok I6;obtain⟨m,hn,hl⟩:=id I6'.loc;exact iN hk hn hp λh7 v hn7 hs7=>{_,H6,I6'.unbound hN L hn hn7 hs7,q}
     |brk=>
      obtain⟨σ6,H6,I6,q⟩:=q;have I6':bn X W σ6 H6 s6:=bn.out I.ok I6;obtain⟨m,hn,hl⟩:=id I6'.loc;exact iN hk hn hp λh7 v hn7 hs7=>{_,H6,I6'.unbound hN L hn hn7 hs7,q}
     |cont=>
      obtain⟨σ6,H6,I6,q⟩:=q;have I6':bn X W σ6 H6 s6:=bn.out I.ok I6;obtain⟨m,hn,hl⟩:=id I6'.loc;exact iN hk hn hp λh7 v hn7 hs7=>{_,H6,I6'.unbound hN L hn hn7 hs7,q}
     |ret u=>
      obtain⟨v6,σ6,H6,I6,rr,q⟩:=q;have I6':bn X W σ6 H6 s6:=bn.out I.ok I6;obtain⟨m,hn,hl⟩:=id I6'.loc;exact iN hk hn hp λh7 v hn7 hs7=>{v6,_,H6,I6'.unbound hN L hn hn7 hs7,rr,q}
   .exact h.elim
 .cases f with
  |next=>
   obtain⟨σ',H',I',q⟩:=q;exact jg {σ',H',bn.tried I.ok I',q}
  |brk=>obtain⟨σ',H',I',q⟩:=q;exact{σ',H',bn.tried I.ok I',q}
  |cont=>obtain⟨σ',H',I',q⟩:=q;exact{σ',H',bn.tried I.ok I',q}
  |ret u=>obtain⟨v,σ',H',I',rr,q⟩:=q;exact⟨v,σ',H',bn.tried I.ok I',rr,q⟩}
section
variable{w:qd}{g:Array GenState}{d:Drawn}{t:f7}{os:OsState}
 {nm q:Str} {C N:nt} {bs bm:fy i2} {hdct:ir} {sn:fy Str} {sub:fy i2} {ab:ir} {col:hJ ir} {dd:hJ nt} {k0 k1 k2 k3 k5:hJ i2} {qf:String} {K:ti}
theorem Q6{R:Result->n4->Prop}(I:h.get? C=bi (excClassObj nm q C N bs bm hdct sn sub ab col dd k0 k1 k2 k3 k5 qf))(T:OwnTail h uY bm)(J:h.get? a=bi o)(D:o.cls=.ref C)(Z:R (.ok<|.ret<|.ref C) ⟨h,g,d,t,os⟩) :
  aaa (model prog w) A (.call (.builtin "getset_descriptor.__get__") ⟨[.builtin "object.__class__",.ref a,.ref C],[]⟩) R ⟨h,g,d,t,os⟩:=by
 have z:(⟨h,g,d,t,os⟩:n4).TypeIs (.builtin "object.__class__") "getset_descriptor":=pw;have B:(Zv C::bm).contains (.type<|".".intercalate ("object.__class__".cutAt '.').dropLast)=cT:=by rw[F.owner_object_class,l_,T.hasType (b:=cT)<|by decide];rfl
 refine kG F.slot_gs_get.plain F.entry_gs_get (F.slot_gs_get.check _ _ _ _ _ _ _ _ z (F.args_gs_get _ _ _) ?_)
 repeat(any_goals (first|assumption|(with_reducible refine fx J ?_;rw[D])|(with_reducible refine i6 I ?_;rw[B])|wp_step))
 refine{Code.quiet_builtin _ (by decide +kernel),dM F.entry_object_class ?_}
 repeat(any_goals (first|assumption|(with_reducible refine fx J ?_;rw[D])|wp_step))
def zg{Q:hJ i2->n4->Prop}{r:hJ i2}(X:K.In h)(f:findIn K (.ref C) x=bi r)(Z:Q r ⟨h,g,d,t,os⟩):nz (model prog w) A (typeLookup (.ref C) x) Q E ⟨h,g,d,t,os⟩:=
 PySem.W.looks_findIn X f A Q E _ (λ_ _ z=>z) Z
theorem IL{r:Tok}{Q:Fin->n4->Prop}(X:K.In h)(Y:findIn K (.ref C) "__class__"=bi (bi<|.builtin "object.__class__"))(I:h.get? C=bi (excClassObj nm q C N bs bm hdct sn sub ab col dd k0 k1 k2 k3 k5 qf))(T:OwnTail h uY bm)(J:h.get? a=bi o)(D:o.cls=.ref C)
  (Z:Q (.done<|.ret<|.ref C) ⟨h,g,d,t,os⟩):nz (model prog w) A (Builtin.«object.__getattribute__» ⟨[.ref a,.str "__class__" r],[]⟩) Q E ⟨h,g,d,t,os⟩:=by
 have z:=pw;have k:=F.slot_gs_get.lookup;have W:=F.slot_gs_set.lookup
 repeat(any_goals (first|assumption|(with_reducible refine fx J ?_;rw[D])|with_reducible refine zg X Y ?_|wp_step))
 refine Q6 I T J D ?_
 repeat(any_goals (first|assumption|wp_step))
theorem IM{Q:Unit->n4->Prop}(I:h.get? C=bi (excClassObj nm q C N bs bm hdct sn sub ab col dd k0 k1 k2 k3 k5 qf))(T:OwnTail h uY bm)(J:h.get? a=bi o)(D:o.cls=.ref C)(Z:Q () ⟨h,g,d,t,os⟩) :
  nz M A (checkBuiltinCall "BaseException.__getattribute__" ⟨[.ref a,v],[]⟩) Q E ⟨h,g,d,t,os⟩:=by
 have B:(Zv C::bm).contains (.type "BaseException")=cT:=by rw[l_,T.hasType (X:="BaseException") (b:=cT)<|by decide];rfl
 have r:=F.args_bexc_ga (.ref a) v;have Y:builtinKind "BaseException.__getattribute__"=bi .slot:=by decide +kernel
 have z:splitId "BaseException.__getattribute__"=bi ("BaseException","__getattribute__"):=by decide +kernel
 simp only[checkBuiltinCall,Y,z];refine aa ?_;unfold isInstance
 repeat(first|(with_reducible refine fx J ?_;rw[D])|(with_reducible refine i6 I ?_;rw[B])|wp_step)
 exact Z
theorem MR{r:Tok}{R:Result->n4->Prop}(X:K.In h)(Y:findIn K (.ref C) "__class__"=bi (bi<|.builtin "object.__class__"))(I:h.get? C=bi (excClassObj nm q C N bs bm hdct sn sub ab col dd k0 k1 k2 k3 k5 qf))(T:OwnTail h uY bm)(J:h.get? a=bi o)(D:o.cls=.ref C)
  (Z:R (.ok<|.ret<|.ref C) ⟨h,g,d,t,os⟩):aaa (model prog w) A (.call (.builtin "BaseException.__getattribute__") ⟨[.ref a,.str "__class__" r],[]⟩) R ⟨h,g,d,t,os⟩:=
 kG F.attrBase_ValueError.ga.plain F.entry_bexc_ga (IM I T J D<|IL X Y I T J D Z)
theorem U4{r:Tok}(X:K.In h)(L:findIn K (.ref C) "__getattribute__"=bi (bi<|.builtin "BaseException.__getattribute__"))(R:findIn K (.ref C) "__getattr__"=bi b0)(Y:findIn K (.ref C) "__class__"=bi (bi<|.builtin "object.__class__"))
  (I:h.get? C=bi (excClassObj nm q C N bs bm hdct sn sub ab col dd k0 k1 k2 k3 k5 qf)) (T:OwnTail h uY bm) (J:h.get? a=bi o) (D:o.cls=.ref C) (Z:Q (.ref C) ⟨h,g,d,t,os⟩) :
  nz (model prog w) A (getAttrBy (.ref a) (.str "__class__" r) eh) Q E ⟨h,g,d,t,os⟩:=by
 have B:=F.attrBase_ValueError.ga.bind (.ref a)
 repeat(any_goals (first|assumption|(with_reducible refine fx J ?_;rw[D])|with_reducible refine zg X L ?_|with_reducible refine zg X R ?_|wp_step))
 refine MR X Y I T J D ?_
 repeat(any_goals (first|assumption|wp_step))
theorem MS{Q:hJ i2->n4->Prop}(X:K.In h)(L:findIn K (.ref C) "__getattribute__"=bi (bi<|.builtin "BaseException.__getattribute__"))(R:findIn K (.ref C) "__getattr__"=bi b0)(Y:findIn K (.ref C) "__class__"=bi (bi<|.builtin "object.__class__"))
  (I:h.get? C=bi (excClassObj nm q C N bs bm hdct sn sub ab col dd k0 k1 k2 k3 k5 qf)) (T:OwnTail h uY bm) (J:h.get? a=bi o) (D:o.cls=.ref C) (Z:Q (bi<|.ref C) ⟨h,g,d,t+1,os⟩) :
  nz (model prog w) A (getAttr? (.ref a) "__class__") Q E ⟨h,g,d,t,os⟩:=by
 unfold getAttr? getAttrBy?
 repeat(any_goals (first|assumption|with_reducible apply U4 X L R Y I T J D|wp_step))
end
structure Ot(K:ti)(C:nt):Prop where
 ga:findIn K (.ref C) "__getattribute__"=bi (bi<|.builtin "BaseException.__getattribute__")
 gt:findIn K (.ref C) "__getattr__"=bi b0
 cl:findIn K (.ref C) "__class__"=bi (bi<|.builtin "object.__class__")
theorem IN{x:nt}(q:excIn K C uY yl=cT)(n:Ot K C):PySem.W.KitX K (.ref x) (.ref C) (λh=>∃o,h.get? x=bi o/\o.cls=.ref C) where
 ty:=λM h X zq A Q E s k z=>by obtain⟨o,Z,B⟩:=zq;refine aa<|wpAny_loadPart (k _ _ Z) ?_;rw[B];exact aq z
 it:=λM h X _ A Q E s k z=>by obtain⟨J,N,V,qn,bs,hdct,sn,sub,ab,col,r,O,U,W,Y,k5,mN,d,_⟩:=qB X q;exact aa (wpAny_loadPart (k _ _ d)<|aq z)
 ne:=λh tp r R m t X htp=>by obtain⟨J,N,V,qn,bs,hdct,sn,sub,ab,col,Lr,O,U,W,Y,k5,mN,d,_⟩:=qB X q;refine Bool.eq_false_iff.mpr λz=>?_;have e:=Value.ref.inj<|oG.mp z;subst e;rw[d]at htp;have L:(ZV "type")=.type "tuple":=eJ Obj.cls<|bf htp;exact absurd L (by decide)
 ca:=λ{prog w A E Q s} X p z=>by obtain⟨o,Z,B⟩:=p;obtain⟨J,N,V,qn,bs,hdct,sn,sub,ab,col,r,O,U,W,Y,k5,mN,d,I,D,g4,g5⟩:=qB X q;exact MS X n.ga n.gt n.cl d g4 Z B z
structure Q7(K:ti)(mg:Str->hJ i2)(T:i2)(f:Str->hJ ir):Prop where
 h:∀c b,f c=bi b->∃C,mg c=bi (.ref C)/\excIn K C uY yl=cT/\Ot K C/\kitOne K (.ref C) T=bi b
theorem Gj{T:V}{Tv:i2}(hT:∀u,cq T u->u=Tv){f:Str->hJ ir}(hI:Q7 X.K X.mg Tv f) :
  ju X (.builtin "isinstance") (λxs H Q=>∃x μ st n c b,xs=[x,T]/\fq X.K X.mg μ st H/\bp X.K μ H (.loc n) x/\st[n]?=bi (.exc c)/\f c=bi b/\Q (.bl b) H):=by
 intro W s O H xs w Q I r h;obtain⟨x,μ,st,n,c,b,rfl,S,Y,L,t,q⟩:=h;obtain⟨u,u2,rfl,k,r2⟩:=ce.two r;obtain rfl:=hT u2 r2;obtain⟨C,hm,R,mj,d⟩:=hI.h c b t;obtain⟨a,J,C',hm',hH⟩:=S.get L;obtain⟨a',ha',rfl⟩:=Y.locE;rw[J]at ha';cases ha'
 rw[hm]at hm';cases hm'
 cases k
 obtain⟨⟨o,D,Z,B,U⟩,_⟩:=I.hok a _ hH;exact ZR (IN R mj) I.kIn ⟨o,Z,B⟩ d (λz=>nomatch z) λtk=>{.bl _,H,I.tok tk,rfl,q}
def Gk(f:Str->hJ ir)(fa:FE):FE:=λY st=>(fa Y st).bind λx st=>match x with
 |.loc n=>(match st[n]? with
  |some (.exc c)=>(match f c with
   |some b=>.ok (.bl b) st
   |none=>.bad)
  |_=>.bad)
 |_=>.bad
section
variable{a:ow}{fa:FE}
theorem Q8{T:V}{f:Str->hJ ir}{t:TE}(h:PE X e t)(L:∀σ H Q,(tE X fa) σ H (λx H1=>∃k μ st n c b,([x,T]:fy V)=[k,T]/\fq X.K X.mg μ st H1/\bp X.K μ H1 (.loc n) k/\st[n]?=bi (.exc c)/\f c=bi b/\Q (.bl b) H1)->t σ H Q):SE X e (Gk f fa):={h.imp λσ H Q z=>by
 refine L σ H Q ?_;obtain⟨μ,Y,st,l,z⟩:=z;refine{μ,Y,st,l,RK.bind z l λr W x v H1 U D I w Z=>?_}
 split at Z
 .rename_i n
  split at Z
  .rename_i c R
   split at Z
   .rename_i b e2
    exact{v,r,W,n,c,b,rfl,I.sto,w,R,e2,Z r _ H1 (af _) dy.refl I.sto .bl}
   exact Z.elim
  exact Z.elim
 exact Z.elim}
theorem U5{t:Str}{Ta:nt}{f:Str->hJ ir}(hm:X.mg "isinstance"=b0)(d:X.mg t=bi (.ref Ta))(O:Q7 X.K X.mg (.ref Ta) f)(J:SE X a fa)(w:Gl X "isinstance":=by rfl)(Ye:Gl X t:=by rfl)(k:(t==("__debug__":Str))=eh:=by decide)
  (Y:qe [a,.Name t p2] X.env=(eh,eval a X.env)::qe [.Name t p2] X.env:=by rfl) (PP:qe [.Name t p2] X.env=(eh,eval (.Name t p2) X.env)::qe [] X.env:=by rfl) (R:(Zt pos<|qe [.Name t p2] X.env).any (·.1)=eh:=by rfl) :
  SE X (.Call (.Name "isinstance" p) [a,.Name t p2] [] pos) (Gk f fa):=
 Q8 (vz (Gj (T:=.ref Ta) (λ_ r=>r) O) w hm o_ (k7 J.h (k7 (D1 Ye d (v:=.ref Ta) rfl k) vy PP) Y) (by decide) (by decide) Y R) λ_ _ _ z=>z
end
section
variable{a:ow}{fa:FE}{k:f7}
end
section
end
section
theorem vX(l:fy α):∀(k:f7) (acc:fy α),aay (λD Y=>D++Y) acc.toArray (rn k l.toArray)=(acc++(rn k l).flatten).toArray
 |0,acc=>by simp
 |k+1,acc=>by
  have e:acc.toArray++l.toArray=(acc++l).toArray:=by simp
  rw[gC,List.foldl_cons,e,vX l k<|acc++l,gC,jN,aG]
theorem Q9(l:fy f7)(n:hG):Txt.mul (tx l) n=tx (rn n.toNat l).flatten:=by
 unfold Txt.mul
 by_cases h:n<1
 .rw[ax h,show n.toNat=0 by lia];rfl
 rw[aF h]
 split
 .rename_i hc
  rw[Bool.or_eq_true,oG,oG]at hc;rcases hc with rfl|hc
  .simp
  have:l=[]:=jA.mp hc;subst this;simp
 have:=vX l n.toNat []
 congr 1
theorem MT:mR X (Zs .Mult) (λx y H Q=>∃(l:fy f7) (k:hG),x=.str (tx l)/\y=.int k/\-(2^62)<=k/\k<2^62/\l.length*k.toNat<=1000000/\Q (.str<|tx (rn k.toNat l).flatten) H):=by
 intro W s O H x y v u Q I Y w h;obtain⟨l,k,rfl,rfl,Z,B,D,q⟩:=h;obtain⟨t,rfl⟩:=Y;obtain⟨U,rfl⟩:=w;refine SB.mul {?_,?_,?_} λL z=>{.str _,H,I.tok _,{L,?_},q}
 .simp;lia
 .intro d J r;have V:(2^63-1)<k*l.length:=by have:=Int.lt_mul_of_ediv_lt #[0] r;rw[Int.mul_comm];exact this
  have R:k*l.length=((l.length*k.toNat:f7)):=by grind
  lia
 .intro d J;rw[yX];unfold Builtin.Str.tooLong;rw[az];have:1000000<=sizeLine:=by decide
  lia
 rw[Q9]
def fM:W->W->fy al->R W
 |.int i,.int j,st=>if uV i j then .ok (.int<|i*j) st else .bad
 |.str l,.int k,st=>if -(2^62)<=k/\k<2^62/\l.length*k.toNat<=j' then .ok (.str (rn k.toNat l).flatten) st else .bad
 |_,_,_=>.bad
theorem rH:sj X (Zs .Mult) fM:={λW s O H x y v u Q I rv L zq=>by
 obtain⟨t,V,D,z,S,Y,w,q⟩:=zq
 cases D with
 |int i=>
  cases z with
  |int j=>
   exact UQ.h W s O H x y v u Q I rv L {t,V,.int i,.int j,S,Y,w,q}
  |_=>exact q.elim
 |str l=>
  cases z with
  |int k=>
   simp only[fM]at q
   split at q
   .rename_i R
    exact MT W s O H x y v u Q I rv L {l,k,Y.strE,w.intE,R.1,R.2.1,R.2.2,su S q}
   exact q.elim
  |_=>exact q.elim
 |_=>cases z<;>exact q.elim,λx y V=>by
 unfold fM
 repeat' split
 all_goals trivial}
end
section
variable{fs:FA}
end
section
variable{w:qd}
theorem vY:∀(l:fy f7) (vs:fy i2),vs.length=l.length->(∀(j:f7) (v:i2),vs[j]?=bi v->∃c u,l[j]?=bi c/\v=.str (tx [c]) u)->StrsAre vs (l.map λc=>tx [c])
 |[],[],_,_=>.nil
 |c::l,v::vs,hl,h=>by
  obtain⟨d,u,e,rfl⟩:=h 0 v rfl
  cases e
  exact .cons _ _ (vY l vs (tM hl) λj v O=>h (j+1) v O)
 |[],_::_,hl,_=>nomatch hl
 |_::_,[],hl,_=>nomatch hl
theorem Be{t:Tok}(TR:l.length<64)(z:A.handled=b0)
  (q:∀(s1:n4) (d:qk) (out:Array i2) (ss:fy Str) (e:f7),(∀b o,s.heap.get? b=bi o->s1.heap.get? b=bi o)->s1.gens=s.gens->s1.drawn=s.drawn->s1.os=s.os->(∀b o,s1.heap.get? b=bi o->d.get? b=bi o)->d.get? s1.heap.objs.size=bi (ZF "list" out e) ->
   StrsAre out.toList ss->ss.Perm (l.map λc=>tx [c])->sortedS ss=cT->Q (.ref s1.heap.objs.size) { s1 with heap:=d }):nz (model prog w) A (call (.builtin "sorted") [.str (tx l) t]) Q E s:=by
 have L:(tx l).cps.size=l.length:=by simp[tx]
 apply mD kind_sorted plain_sorted entry_sorted<|args_sorted1 _;refine aa (aq<|aa<|wpAny_collect_str #[0] _ _ (λs1 R W eg ed eo J=>?_) (by rw[jy];lia));have qS:StrsAre R.toList (l.map λc=>tx [c]):=by refine vY l _ (by rw[d5,J.1,L]) λj v O=>?_;obtain⟨c,u,D,e⟩:=J.2 j v (by simpa using O);exact{c,u,by simpa[tx]using D,e}
 have hvl:R.toList.length<64:=by rw[d5,J.1];exact TR
 refine aa (wpAny_newList ?_ (by rw[jy];lia));have oL:(s1.heap.push<|ZF "list" R.toList.toArray 0).get? s1.heap.objs.size=bi (ZF "list" R.toList.toArray 0):=ay _ rfl;refine aa (cD<|bF slot_list_sort ⟨_,oL,rfl⟩ entry_list_sort (list_sort_treeK strKind_oneLt oL qS.keysOf (λa b r e=>keyKind_strs (by rw[<- e];exact qS)) hvl λV k a2=>{_,rfl,?_})<|args_list_sort _);obtain⟨ss,Z,B,I⟩:=sorted_out_str qS k a2;obtain⟨e,Y⟩:=sortedHeap_at oL;refine aq {_,rfl,q s1 _ _ ss e W eg ed eo (λb o U=>?_) Y Z B I};rw[sortedHeap_old (aM<|aD U) (by rw[cA];exact dB<|aD U)];exact ar _ U
end
section
def kI(ws:fy W)(st:fy al):R W:=match ws with
 |[.str l]=>if l.length<64 then .ok (.loc st.length) (st++[.lst<|(jx<|l.map λc=>[c]).map W.str])else .bad
 |[.loc n]=>qA [.loc n] st
 |_=>.bad
theorem MU(D:X.calm=cT:=by rfl):oR X (.builtin "sorted") kI:={λW s O H Z Y Q I rv zq=>by
 obtain⟨U,B,J,S,r,q⟩:=zq;unfold kI at q
 split at q
 .rename_i l
  split at q
  .rename_i c
   obtain⟨y,rfl,d⟩:=r.one;have:=d.strE;subst this;obtain⟨u,rfl,R⟩:=oN rv;obtain⟨t,rfl⟩:=R;refine Be c (I.ok.hd D) λL g1 out ss e kp eg ed eo k1 gL qS w hsr=>?_;have k:L={ s with heap:=L.heap,toks:=L.toks }:=by cases s;cases eg;cases ed;cases eo;rfl
   generalize L.heap=g0,L.toks=tk at k kp k1 gL ⊢;subst k;have I2:bn X W O H { s with heap:=g0,toks:=tk }:=I.kept2 kp;have uw:=I2.hok.fresh<|av _;have hmap:(ss.map λz=>z.cps.toList).map tx=ss:=by rw[aN];have:(tx∘λz:Str=>z.cps.toList)=id:=funext D8;rw[this,fO]
   have hperm:(ss.map λz=>z.cps.toList).Perm (l.map λc=>[c]):=by have e:=w.map λz:Str=>z.cps.toList;rw[aN]at e;exact e
   have ez:=zd (vT (by rw[hmap];exact hsr)) (vS _)<|hperm.trans (gR _).symm;have hvals:ce ((jx<|l.map λc=>[c]).map λl=>V.str<|tx l) out.toList:=by have e:=nT qS;rw[<- hmap,ez,aN]at e;exact e
   refine{.ref g0.objs.size,_,I2.laid (o:=.lst<|(jx<|l.map λc=>[c]).map λl=>V.str<|tx l) k1 (av _) {?_,out.toList,e,hvals,gL},rfl,?_}
   .rw[aj,(gR _).length_eq,aj];exact aW (dL c) (by decide)
   exact q (U++[g0.objs.size]) _ _ (ag _ _) (fY.same<|cw uw _) (S.newLst uw<|A' _)<|lz S
  exact q.elim
 .exact Ba.h W s O H _ Y Q I rv ⟨U,B,_,S,r,q⟩
 .exact q.elim,λJ B=>by
 unfold kI
 split
 .split<;>trivial
 .exact(Ba (X:=X)).n _ _
 trivial}
end
section
variable{a b:ow}{fs:FA}
end
theorem MV{pos:Pos}{nm:fy Str}{g:TG}(V:X.calm=cT)
  (k:scope.kind=.function) (R:vJ X.env.scope.names scope.names nm cap X.N=cT)
  (L:QI X tg iter wi) (r:∀cl C w H0 fp,QG (cu X nm scope cl C w H0 fp) tg g) (B:∀cl C w H0 fp,WW (cu X nm scope cl C w H0 fp) kw tc)
  (Y:∀cl C w H0 fp,QE (cu X nm scope cl C w H0 fp) mz te) (d:∀x,Z9 iter X.env x=pure x:=by intro _;rfl) :
  QE X #[3] (sf cap wi g tc te):=by refine{λW s O H Q I h=>?_};have F:=QM (λx z=>I.ok.has x<|.inl z) R;exact D6 V F.clos F.cl k F.nms F.cell F.has F.cp F.len L.h (λC w H0 fp=>(r _ C w H0 fp).h) (λC w H0 fp=>(B _ C w H0 fp).h) (λC w H0 fp=>(Y _ C w H0 fp).h) d W s O H Q I h
section
variable{nm:fy Str}{fi:FI}{f:FG}{t:FT}{el:FE}
theorem sE(R:vJ X.env.scope.names scope.names nm cap X.N=cT)(L:SI X tg iter fi)(r:∀cl C w H0 fp,SG (cu X nm scope cl C w H0 fp) tg f)(B:∀cl C w H0 fp,ML (cu X nm scope cl C w H0 fp) kw t)
  (Y:∀cl C w H0 fp,SE (cu X nm scope cl C w H0 fp) mz el) (V:X.calm=cT:=by rfl) (k:scope.kind=.function:=by rfl) (d:∀x,Z9 iter X.env x=pure x:=by intro _;rfl) :
  SE X #[3] (cb cap fi f t el):=
 ⟨(MV V k R ⟨L.h⟩ (λcl C w H0 fp=>W2 rfl rfl (r cl C w H0 fp)) (λcl C w H0 fp=>W1 rfl rfl (B cl C w H0 fp)) (λcl C w H0 fp=>W0 rfl rfl (Y cl C w H0 fp)) d).h.imp λ_ _ _ h=>C9 h⟩
end
theorem bn.turnedL{s:n4}(I:bn X ah σ H s)(k:∀b o,b∉ch->s.heap.get? b=bi o->h'.get? b=bi o)
  (f:∀b∈ch,yM X ah H b):bn X ah σ H { s with heap:=h',toks:=t' }:=by
 have t:∀b u,H b=bi u->b∉ch:=λb u q z=>by rw[(f b z).1]at q;cases q
 refine I.step (λb U=>?_) (λb o _ _ D q _=>k b o D q) (λb o _ _ D q _=>{o.slots,k b o D q}) (λ_ _ _ _ n=>n)
  (λb o D q=>{o,k b o D q}) (λ_ _ q=>q) (λ_ _ _ q=>q) (λb Z q=>{#[],by rw[q];simp}) (λm hm=>?_) (λb u q=>?_) I.bare
 .exact{(f b U).2.2.2.1,(f b U).2.1,(f b U).2.2.2.2.1,(f b U).2.2.2.2.2}
 .obtain⟨o,W,J,R,r⟩:=hm;exact{o,W,J,k _ o (λz=>(f _ z).2.1 rfl) R,r}
 refine(I.hok b u q).stay (λc v D z=>?_) (λ_ z=>z) λ_ _ z=>z;rcases D with y|y
 .rw[y]at z ⊢;exact k b v (t b u q) z
 exact k c v (t c _ y) z
section
variable{w:qd}
variable{z P O i j:nt}{xs ys:Array i2}{x y:i2}
end
open AutoSeq1 (wpAny_loadPart')
section
variable{w:qd}
end
noncomputable def mv:fy W->fy W->fy W
 |x::xs,y::ys=>.tup [x,y]::mv xs ys
 |_,_=>[]
theorem lH:∀{xs L:fy W} {i:f7} {w:W},(mv xs L)[i]?=bi w->∃x y,xs[i]?=bi x/\L[i]?=bi y/\w=.tup [x,y]
 |x::xs,y::L,0,w,h=>by simp[mv]at h;exact{x,y,rfl,rfl,h.symm}
 |x::xs,y::L,i+1,w,h=>by simp[mv]at h;simpa using lH h
 |[],_,i,w,h=>by simp[mv]at h
 |_::_,[],i,w,h=>by simp[mv]at h
theorem nh:∀(xs L:fy W),(mv xs L).length=min xs.length L.length
 |x::xs,y::L=>by simp[mv,nh xs L]
 |[],_=>by simp[mv]
 |_::_,[]=>by simp[mv]
section
variable{a b:ow}{fs:FA}
def rJ(fs:FA):FI:=λY st=>(fs Y st).bind λws st=>match ws with
 |[.tup xs,.tup ys]=>.ok (mv xs ys,b0) st
 |_=>.bad
end
open Builtin.Str (tooLong)
section
variable{w:qd}
end
section
end
section
noncomputable def lI:fy W->hJ (fy hG)
 |[]=>bi []
 |.int z::ws=>(lI ws).map (z :: ·)
 |_=>b0
end
section
theorem RelWs.rep{a:fy W}(r:RelWs K μ H a vs):∀k:f7,RelWs K μ H (rn k a).flatten (rn k vs).flatten
 |0=>.nilI
 |k+1=>r.app<|RelWs.rep r k
def uD:W->W->fy al->R W
 |.int i,.int j,st=>fM (.int i) (.int j) st
 |.str l,.int k,st=>fM (.str l) (.int k) st
 |.loc n,.int k,st=>(match st[n]? with
  |some (.lst ws)=>if -(2^63)<=k/\k<2^63/\ws.length*k.toNat<=j' then jW (rn k.toNat ws).flatten st else .bad
  |_=>.bad)
 |_,_,_=>.bad
theorem Dd:sj X (Zs .Mult) uD:={λW s O H x y v u Q I rv L zq=>by
 obtain⟨t,V,D,wy,S,Y,Z,q⟩:=zq
 cases D with
 |int i=>
  cases wy with
  |int j=>exact rH.h W s O H x y v u Q I rv L {t,V,.int i,.int j,S,Y,Z,q}
  |_=>exact q.elim
 |str l=>
  cases wy with
  |int k=>exact rH.h W s O H x y v u Q I rv L {t,V,.str l,.int k,S,Y,Z,q}
  |_=>exact q.elim
 |loc n=>
  cases wy with
  |int k=>
   simp only[uD]at q
   cases R:V[n]? with
   |none=>rw[R]at q;exact q.elim
   |some c1=>
    cases c1 with
    |lst a=>
     rw[R]at q;dsimp only at q
     split at q
     .rename_i cc
      obtain⟨r,d,vs1,U,B⟩:=S.get R;obtain⟨b1,z,rfl⟩:=Y.locE;rw[d]at z;cases z
      obtain⟨J,qq⟩:=pN (σ:=O) S (B.rep k.toNat)<|Iq q;exact QC W s O H _ _ v u Q I rv L {r,k,vs1,rfl,Z.intE,U,cc.1,cc.2.1,by rw[<- B.len];exact iW cc.2.2,λp w=>qq p _ w rfl}
     exact q.elim
    |_=>rw[R]at q;exact q.elim
  |_=>exact q.elim
 |_=>cases wy<;>exact q.elim,λx y V=>by
 unfold uD
 split
 .exact(rH (X:=X)).n _ _ _
 .exact(rH (X:=X)).n _ _ _
 .split
  .split
   .exact Ef _ _
   trivial
  trivial
 trivial}
end
def De(st:fy al)(l:fy (f7×fy W)):Prop:=∀p∈l,lstOf st p.1=bi p.2
noncomputable abbrev IP:=fy W×fy (f7×fy W)
abbrev Q_:=bR->fy al->R IP
def MW(X:Cx)(J:It)(k:IP)(μ:fy nt)(H:Hp):Prop:=
 ∀(i:f7) μ' bx H',μ <+: μ'->dy X.K H H'->fq X.K X.mg μ' bx H'->De bx k.2 ->
  (∀w,k.1[i]?=bi w->J.go i H'/\∀x H'',J.yld i H' x H''->dy X.K H' H''/\fq X.K X.mg μ' bx H''/\bp X.K μ' H'' w x)/\(k.1.length<=i->J.stop i H')
abbrev Ou(X:Cx):fy nt->Hp->IP->It->Prop:=λμ H k J=>MW X J k μ H
structure Yx(X:Cx)(tg it:ow)(f:Q_):Prop where
 h:PI X tg it (λσ H R=>tG X (Ou X) f σ H R)
open Classical in
def nX(f:FG)(t:FT)(el:FE)(ck:fy (f7×fy W))(k:bR):fy W->fy W->fy al->R (fy W)
 |[],acc,st=>if De st ck then .ok acc st else .bad
 |w::ws,acc,st=>if De st ck then(match f w k with
  |none=>.bad
  |some I=>(match t I st with
   |.ok cT st1=>(match el I st1 with
    |.ok y r=>nX f t el ck k ws (acc++[y]) r
    |_=>.bad)
   |.ok eh st1=>nX f t el ck k ws acc st1
   |_=>.bad))else .bad
def ua(cap:fy (hJ f7))(fi:Q_)(f:FG)(t:FT)(el:FE):FE:=λY st=>(fi Y st).bind λk st=>if k.1.length<=j' then(nX f t el k.2 (kc cap Y) k.1 [] st).bind λL st=>jW L st else .bad
theorem MX{fi:Q_}{f:FG}{t:FT}{el:FE}{Q:VK}(h:tE X (ua cap fi f t el) σ H Q) :
  sf cap (λσ H R=>tG X (Ou X) fi σ H R) (QV X f) (TH X MB t) (TH X (si X) el) σ H Q:=by
 obtain⟨U,Y,V,l,h⟩:=h;refine{U,Y,V,l,RK.bind h l λr z k J H1 p1 x1 l1 wk Z=>?_}
 by_cases d:k.1.length<=j'
 .rw[ax d]at Z;refine{λi m W H'=>i<=k.1.length/\m=k.1.length-i/\W.length<=i/\∃O acc bx,r <+: O/\dy X.K H1 H'/\Rl X O Y bx σ H'/\RelWs X.K O H' acc W/\RK X (si X) O σ H' Q ((nX f t el k.2 (kc cap Y) (k.1.drop i) acc bx).bind jW),
   ⟨_,cG _,rfl,av _,r,[],z,af _,dy.refl,l1,.nilI,Z⟩,?_}
  rintro i m W H' ⟨L,rfl,hy,O,acc,bx,pm,xm,lm,ra,hm⟩
  by_cases hlt:i<k.1.length
  .rw[cx hlt]at hm;unfold nX at hm
   by_cases ck:De bx k.2
   .rw[ax ck]at hm;obtain⟨go,yld⟩:=(wk i O bx H' pm xm lm.sto ck).1 _<|ak hlt;refine .inr {go,λx H2 hy2=>?_};obtain⟨y1,y2,y3⟩:=yld x H2 hy2
    cases hf:f k.1[i] (kc cap Y)with
    |none=>rw[hf]at hm;exact hm.elim
    |some ρ2=>
     rw[hf]at hm;simp only at hm;have lb:Rl X O (kc cap Y) bx (pK cap σ) H2:={QZ (lm.to (af _) y1 y2).env cap,y2}
     refine{O,kc cap Y,bx,k.1[i],ρ2,lb,y3,hf,λσ2 l2=>?_}
     cases ht:t ρ2 bx with
     |bad=>rw[ht]at hm;exact hm.elim
     |ex c s=>rw[ht]at hm;exact hm.elim
     |ok kk D=>
      rw[ht]at hm;refine{O,ρ2,bx,kk,D,l2,ht,λμ3 b3 H3 p3 x3 S3 q3=>?_}
      cases q3
      cases kk with
      |false=>
       exact{_,by lia,hlt,rfl,by lia,μ3,acc,D,pm.trans p3,xm.trans<|y1.trans x3,lm.to p3 (y1.trans x3) S3,ra.mono p3<|y1.trans x3,RK.mono hm p3<|y1.trans x3}
      |true=>
       simp only at hm
       cases B:el ρ2 D with
       |bad=>rw[B]at hm;exact hm.elim
       |ex c s=>rw[B]at hm;exact hm.elim
       |ok w gW=>
        rw[B]at hm;refine{μ3,ρ2,D,w,gW,l2.to p3 x3 S3,B,λμ4 b4 H4 p4 x4 S4 q4=>?_};have pp:=p3.trans p4;have xx:=y1.trans<|x3.trans x4;exact{eO hy<|aQ hlt<|iW d,_,by lia,hlt,rfl,by simp;lia,μ4,acc++[w],gW,pm.trans pp,xm.trans xx,lm.to pp xx S4,(ra.mono pp xx).app<|.consI q4 .nilI,RK.mono hm pp xx}
   rw[aF ck]at hm;exact hm.elim
  have hi':i=k.1.length:=by lia
  subst hi';rw[g_<|av _]at hm;unfold nX at hm
  by_cases ck:De bx k.2
  .rw[ax ck]at hm;obtain⟨z1,z2⟩:=pN lm.sto ra hm;exact .inl {(wk _ O bx H' pm xm lm.sto ck).2<|av _,z1,λp I=>z2 p _ I rfl}
  rw[aF ck]at hm;exact hm.elim
 rw[aF d]at Z;exact Z.elim
section
variable{nm:fy Str}{fi:Q_}{f:FG}{t:FT}{el:FE}
end
section
variable{a b:ow}{fs:FA}
def vZ(fs:FA):Q_:=λY st=>(fs Y st).bind λws st=>match ws with
 |[.loc n,.loc m]=>(match lstOf st n,lstOf st m with
  |some xs,bi ys=>.ok (mv xs ys,[(n,xs),(m,ys)]) st
  |_,_=>.bad)
 |_=>.bad
end
section
end
section
variable{nm:fy Str}{g:TG}{te:Cx->TE}
noncomputable def noB(sn:fy (Str×ZC)):ir:=sn.all λx=>!(x.2==.cell)&&!(x.2==.free)&&(!(x.2==.local)||sn.lookup x.1==bi .local)
end
section
variable{nm:fy Str}{fi:FI}{f:FG}{el:FE}
end
def DK.key_inj{a b:DK}:a.key=b.key↔a=b:=by
 cases a<;>cases b<;>simp[DK.key,HQ]
noncomputable def oS:W->hJ DK
 |.int z=>bi (.i z)
 |.str l=>bi (.s l)
 |_=>b0
theorem vi{w:W}{k:DK}{v:V}(h:oS w=bi k)(r:bp K μ H w v):v=kV k.key:=by
 cases w with
 |int z=>cases h;exact r.intE
 |str l=>cases h;exact r.strE
 |_=>cases h
noncomputable def v7(kvs:fy (DK×W))(k:DK):hJ W:=(kvs.find? λp=>decide<|p.1=k).map λp=>p.2
noncomputable def ub(kvs:fy (DK×W))(k:DK)(v:W):fy (DK×W):=if (kvs.any λp=>decide<|p.1=k)=cT then kvs.map λp=>if p.1=k then(p.1,v)else p else kvs++[(k,v)]
abbrev dV(kvs:fy (DK×W))(vs:fy V):fy (ji×V):=(kvs.map λp=>p.1.key).zip vs
section
theorem IQ:∀{kvs:fy (DK×W)} {vs:fy V} (k:DK),RelWs K μ H (kvs.map λp=>p.2) vs->(∃w v,v7 kvs k=bi w/\qM (dV kvs vs) k.key=bi v/\bp K μ H w v)\/(v7 kvs k=b0/\qM (dV kvs vs) k.key=b0)
 |[],vs,k,r=>.inr ⟨rfl,rfl⟩
 |p::kvs,vs,k,r=>by
  obtain⟨x,D,rfl,a,b⟩:=RelWs.consE r
  by_cases h:p.1=k
  .refine .inl {p.2,x,?_,?_,a}
   .unfold v7;simp[h]
   show qM ((p.1.key,x)::dV kvs D) k.key=bi x;exact r_ (by rw[h])
  have R:v7 (p::kvs) k=v7 kvs k:=by unfold v7;simp[h]
  have e2:qM (dV (p::kvs) (x::D)) k.key=qM (dV kvs D) k.key:=se λz=>h<|DK.key_inj.mp z;rw[R,e2];exact(IQ k b)
theorem IR:∀{kvs:fy (DK×W)} {vs:fy V} (k:DK),RelWs K μ H (kvs.map λp=>p.2) vs->((dV kvs vs).any λkv=>decide<|kv.1=k.key)=(kvs.any λp=>decide<|p.1=k)
 |[],vs,k,r=>rfl
 |p::kvs,vs,k,r=>by
  obtain⟨x,D,rfl,a,b⟩:=RelWs.consE r;show(decide (p.1.key=k.key)||(dV kvs D).any _)=(decide (p.1=k)||kvs.any _)
  rw[IR k b]
  congr 1
  rw[nG];exact DK.key_inj
theorem IS{k:DK}{w:W}{v:V}:∀{kvs:fy (DK×W)} {vs:fy V},RelWs K μ H (kvs.map λp=>p.2) vs->bp K μ H w v->∃us,(dV kvs vs).map (λkv=>if kv.1=k.key then(kv.1,v)else kv)=dV (kvs.map λp=>if p.1=k then(p.1,w)else p) us/\RelWs K μ H ((kvs.map λp=>if p.1=k then(p.1,w)else p).map λp=>p.2) us
 |[],vs,r,mL=>{[],rfl,.nilI}
 |p::kvs,vs,r,mL=>by
  obtain⟨x,D,rfl,a,b⟩:=RelWs.consE r;obtain⟨us,e,q⟩:=IS b mL
  by_cases h:p.1=k
  .refine{v::us,?_,?_}
   .show(if p.1.key=k.key then(p.1.key,v)else(p.1.key,x))::(dV kvs D).map _=_;rw[ax (by rw[h]),e,aZ,ax h];rfl
   rw[aZ,ax h];exact .consI mL q
  refine{x::us,?_,?_}
  .show(if p.1.key=k.key then(p.1.key,v)else(p.1.key,x))::(dV kvs D).map _=_;rw[aF<|λz=>h<|DK.key_inj.mp z,e,aZ,aF h];rfl
  rw[aZ,aF h];exact .consI a q
theorem IT{kvs:fy (DK×W)}{k:DK}{w:W}{v:V}(r:RelWs K μ H (kvs.map λp=>p.2) vs)(J:bp K μ H w v):∃us,pd (dV kvs vs) k.key v=dV (ub kvs k w) us/\RelWs K μ H ((ub kvs k w).map λp=>p.2) us:=by
 unfold pd ub;rw[IR k r]
 by_cases h:(kvs.any λp=>decide<|p.1=k)=cT
 .rw[ax h,ax h];exact IS r J
 rw[aF h,aF h];refine{vs++[v],?_,?_}
 .unfold dV;rw[bT,List.zip_append<|by rw[aj,<- r.len,aj]];rfl
 rw[bT];exact r.app<|.consI J .nilI
def zh{kvs:fy (DK×W)}(r:RelWs K μ H (kvs.map λp=>p.2) vs):(dV kvs vs).length=kvs.length:=by rw[List.length_zip,aj,<- r.len,aj,Nat.min_self]
theorem fY.butD{l:nt}{xs:fy (ji×V)}(e:Ux l H H')(U:H l=bi (.dK xs)):dy K H H':=by
 have W:∀{p:nt} {o:HO},H p=bi o->(∀B,o≠.dK B)->p≠l:=λ{p o} q hn z=>by subst z;rw[U]at q;cases q;exact hn _ rfl
 refine{λp L h=>?_,λb o u h=>e _ _ (W h<|λ_ z=>by cases z) h};rcases h with(h|⟨o,h⟩)|h
 .exact .inl (.inl<|e _ _ (W h<|λ_ z=>by cases z) h)
 .exact .inl (.inr {o,e _ _ (W h<|λ_ z=>by cases z) h})
 exact .inr h
end
def fq.setD(S:fq K mg μ st H){kvs Tu:fy (DK×W)}{xs:fy (ji×V)}{us:fy V}(L:st[n]?=bi (.dct kvs))(hm:μ[n]?=bi a)(J:H a=bi (.dK xs))(Y:RelWs K μ H (Tu.map λp=>p.2) us) :
  fq K mg μ (st.set n<|.dct Tu) (dX H a<|.dK<|dV Tu us):=
 S.setG L rfl hm J (λ_ _ z=>by cases z) (λ_ z=>by cases z) (fY.butD gP J) rfl ⟨us,cv,Y.mono (af _)<|fY.butD gP J⟩
noncomputable def v8(st:fy al):W->hJ (f7×fy (DK×W))
 |.loc n=>(match st[n]? with
  |some (.dct kvs)=>bi (n,kvs)
  |some (.rod kvs)=>bi (n,kvs)
  |_=>b0)
 |_=>b0
noncomputable def Gn(st:fy al):W->hJ (f7×fy (DK×W))
 |.loc n=>(match st[n]? with
  |some (.dct kvs)=>bi (n,kvs)
  |_=>b0)
 |_=>b0
theorem IU(S:fq K mg μ st H){x:W}{v:V}{kvs:fy (DK×W)}(h:v8 st x=bi (n,kvs))(r:bp K μ H x v) :
  ∃a vs,(st[n]?=bi (.dct kvs)\/st[n]?=bi (.rod kvs))/\μ[n]?=bi a/\v=.ref a/\Rd H a (.dK<|dV kvs vs)/\RelWs K μ H (kvs.map λp=>p.2) vs:=by
 cases x with
 |loc m=>
  simp[v8]at h
  cases e:st[m]? with
  |none=>rw[e]at h;cases h
  |some c=>
   rw[e]at h
   cases c with
   |dct z=>
    cases h
    obtain⟨a,g,vs,k,Y⟩:=S.get e;obtain⟨b,f,rfl⟩:=r.locE;rw[g]at f;cases f
    exact{a,vs,.inl e,g,rfl,.inl k,Y}
   |rod z=>
    cases h
    obtain⟨a,g,vs,o,k,Y⟩:=S.get e;obtain⟨b,f,rfl⟩:=r.locE;rw[g]at f;cases f
    exact{a,vs,.inr e,g,rfl,.inr ⟨o,k⟩,Y}
   |_=>cases h
 |_=>cases h
theorem MY(S:fq K mg μ st H){x:W}{v:V}{kvs:fy (DK×W)}(h:Gn st x=bi (n,kvs))(r:bp K μ H x v) :
  ∃a vs,st[n]?=bi (.dct kvs)/\μ[n]?=bi a/\v=.ref a/\H a=bi (.dK<|dV kvs vs)/\RelWs K μ H (kvs.map λp=>p.2) vs:=by
 cases x with
 |loc m=>
  simp[Gn]at h
  cases e:st[m]? with
  |none=>rw[e]at h;cases h
  |some c=>
   rw[e]at h
   cases c with
   |dct z=>
    cases h
    obtain⟨a,g,vs,k,Y⟩:=S.get e;obtain⟨b,f,rfl⟩:=r.locE;rw[g]at f;cases f
    exact⟨a,vs,e,g,rfl,k,Y⟩
   |_=>cases h
 |_=>cases h
def FQ.r{kvs:fy (ji×V)}{k:ji}(e:Rd H a (.dK kvs)):FQ H a (kV k) (qM kvs k):=.inl ⟨kvs,k,e,rfl,rfl⟩
section
variable{a b d o i:ow}{fa fb fc fe fo fi:FE}{fs:FA}
def uZ(x y:W)(st:fy al):R W:=match v8 st x,oS y with
 |some (_,kvs),bi k=>sv (v7 kvs k) λw=>.ok w st
 |_,_=>.bad
theorem IV(V:iy kk X.A)(J:SE X a fa)(U:SE X b fb)(I:QD b:=by intro _ _;rfl):SE X (.Subscript a b pos) (e2 uZ fa fb):={(Mg (Oa V) J.h U.h I).imp λO H Q h=>by
 obtain⟨μ,Y,D,l,h⟩:=h;refine{μ,Y,D,l,RK.bind h l λL st1 x v H1 p1 x1 l1 W Z=>⟨L,Y,st1,l1,RK.bind Z l1 λμ2 st2 y u H2 p2 x2 l2 q2 B=>?_⟩};unfold uZ at B
 cases R:v8 st2 x with
 |none=>rw[R]at B;exact B.elim
 |some nk=>
  cases e2:oS y with
  |none=>rw[R,e2]at B;exact B.elim
  |some k=>
   rw[R,e2]at B;simp only at B;obtain⟨a,t,_,_,rfl,J,r⟩:=IU l2.sto R<|W.mono p2 x2;have:=vi e2 q2;subst this;rcases IQ k r with⟨w,z,g1,g2,g3⟩|⟨g1,g2⟩
   .rw[g1]at B;exact{a,z,rfl,by rw[<- g2];exact FQ.r J,B μ2 z H2 (af _) dy.refl l2.sto g3}
   rw[g1]at B;exact B.elim}
def Bf(x i v:W)(st:fy al):hJ (fy al):=match Gn st x,oS i with
 |some (n,kvs),bi k=>if kvs.length<j' then bi (st.set n<|.dct<|ub kvs k v)else b0
 |_,_=>b0
theorem IW(V:iy kk X.A):CB X (El X Bf):=λW s O H o i v ov iv u Q I w r2 r3 zq=>by
 obtain⟨t,B,wo,wi,wv,Y,S,ro,ri,rv,e,q⟩:=zq;unfold Bf at e
 cases R:Gn B wo with
 |none=>rw[R]at e;cases e
 |some nk=>
  cases e2:oS wi with
  |none=>rw[R,e2]at e;cases e
  |some k=>
   rw[R,e2]at e;simp only at e
   split at e
   .rename_i U
    cases e
    obtain⟨a,Z,L,hm,rfl,J,r⟩:=MY S R ro;have:=vi e2 ri;subst this;obtain rfl:ov=Zv a:=w;obtain⟨z,g1,g2⟩:=IT r rv;refine FU (Oa V) I (Me.k J (by rw[zh r];exact aQ U<|by decide)) r2 r3 λD I'=>{_,I',?_}
    rw[g1];exact q _ (fY.butD gP J)<|S.setD L hm J g2
   cases e
def yn:FE:=λ_ st=>.ok (.loc st.length)<|st++[.dct []]
theorem Df:SE X (.Dict [] [] pos) yn:={HL.imp λO H Q h=>by obtain⟨t,Y,V,l,h⟩:=h;intro p W;have I:qL H (dX H p<|.dK []):=cw W _;exact h (t++[p]) (.ref p) _ (ag _ _) (fY.same I) (l.sto.push W {[],cv,.nilI})<|lz l.sto}
abbrev FP:=bR->fy al->R (fy<|W×W)
def Bh:FP:=λ_ st=>.ok [] st
def iE(W z:FE)(r:FP):FP:=λY st=>(W Y st).bind λk st=>(z Y st).bind λv st=>(r Y st).bind λps st=>.ok ((k,v)::ps) st
abbrev XN(X:Cx):fy nt->Hp->fy (W×W)->fy (V×V)->Prop:=λμ H ws vs=>RelWs X.K μ H (ws.map λp=>p.1) (vs.map λp=>p.1)/\RelWs X.K μ H (ws.map λp=>p.2) (vs.map λp=>p.2)
structure W3(X:Cx)(pos:Pos)(ou:fy (hJ ow))(lQ:fy ow)(f:FP):Prop where
 h:∃D0,Us X pos ou lQ D0/\∀σ H Q,tG X (XN X) f σ H Q->yV D0 σ H Q
theorem IX:W3 X pos [] [] Bh:={[],Mh,λO H Q h=>by obtain⟨t,Y,V,l,h⟩:=h;exact h t [] H (af _) dy.refl l.sto ⟨.nilI,.nilI⟩}
theorem sF{k v:ow}{fk fv:FE}{fr:FP}{ks:fy (hJ ow)}{vs:fy ow}(J:SE X k fk)(z:SE X v fv)(V:W3 X pos ks vs fr):W3 X pos (bi k::ks) (v::vs) (iE fk fv fr):=by obtain⟨D0,Z,B⟩:=V.h;refine{(tE X fk,tE X fv)::D0,HM J.h z.h Z,λO H Q h=>?_};obtain⟨t,Y,D,l,h⟩:=h;refine{t,Y,D,l,RK.bind h l λL W x1 v1 H1 p1 R I w Z=>⟨L,Y,W,I,RK.bind Z I λμ2 r x2 v2 H2 p2 e2 l2 q2 h2'=>B _ _ _ {μ2,Y,r,l2,RK.bind h2' l2 λμ3 gW x3 v3 H3 p3 e3 l3 q3 U=>?_}⟩};exact U μ3 _ H3 (af _) dy.refl l3.sto {.consI (w.mono (p2.trans p3)<|e2.trans e3) q3.1,.consI (q2.mono p3 e3) q3.2}
def keysOf:fy (W×W)->hJ (fy<|DK×W)
 |[]=>bi []
 |(k,v)::r=>match oS k,keysOf r with
  |some k,bi r=>bi ((k,v)::r)
  |_,_=>b0
theorem yo:∀{ps:fy (W×W)} {kvs:fy (DK×W)} {vs:fy (V×V)},keysOf ps=bi kvs->RelWs K μ H (ps.map λp=>p.1) (vs.map λp=>p.1)->RelWs K μ H (ps.map λp=>p.2) (vs.map λp=>p.2) ->
  ∃us,vs=(dV kvs us).map (λkv=>(kV kv.1,kv.2))/\RelWs K μ H (kvs.map λp=>p.2) us
 |[],kvs,vs,h,r1,r2=>by
  cases h
  have:vs=[]:=by simpa using r1.nilE
  subst this;exact{[],rfl,.nilI}
 |(k,v)::r,kvs,vs,h,r1,r2=>by
  unfold keysOf at h
  cases R:oS k with
  |none=>rw[R]at h;cases h
  |some U=>
   cases e2:keysOf r with
   |none=>rw[R,e2]at h;cases h
   |some B=>
    rw[R,e2]at h
    cases h
    cases vs with
    |nil=>obtain⟨_,_,z,_⟩:=r1.consE;cases z
    |cons q vs=>
     obtain⟨x,D,z,Z,I⟩:=r1.consE
     cases z
     obtain⟨x,D,z,O,J⟩:=r2.consE
     cases z
     obtain⟨us,L,Y⟩:=yo e2 I J;refine{q.2::us,?_,.consI O Y};obtain⟨w,t⟩:=q;rw[L,show w=kV U.key from vi R Z];rfl
def jF(acc kvs:fy (DK×W)):fy (DK×W):=kvs.foldl (λacc p=>ub acc p.1 p.2) acc
theorem v9:∀{kvs acc:fy (DK×W)} {vs us:fy V},RelWs K μ H (kvs.map λp=>p.2) vs->RelWs K μ H (acc.map λp=>p.2) us->∃B,nS (dV acc us) (dV kvs vs)=dV (jF acc kvs) B/\RelWs K μ H ((jF acc kvs).map λp=>p.2) B
 |[],acc,vs,us,r1,r2=>⟨us,rfl,r2⟩
 |p::kvs,acc,vs,us,r1,r2=>by obtain⟨x,D,rfl,a,b⟩:=RelWs.consE r1;obtain⟨B,e,q⟩:=IT r2 a;obtain⟨L,e2,t⟩:=v9 b q;refine{L,?_,t};show nS (pd (dV acc us) p.1.key x) (dV kvs D)=_;rw[e,e2];rfl
def Bi(f:FP):FE:=λY st=>(f Y<|st++[.dct []]).bind λps r=>match r[st.length]?,keysOf ps with
 |some (.dct []),bi kvs=>if kvs.length<=15 then .ok (.loc st.length) (r.set st.length<|.dct<|jF [] kvs)else .bad
 |_,_=>.bad
theorem IY{lQ:fy ow}{f:FP}(h:W3 X pos ou lQ f)(xN:ou.all (·.isSome)=cT:=by rfl)(U:ou.length=lQ.length:=by rfl)(w:ou≠[]:=by intro z;cases z)(Yo:ou.length<=15:=by decide) :
  SE X (.Dict ou lQ pos) (Bi f):=by
 obtain⟨D0,Z,B⟩:=h.h;refine{(Mi Z xN U w Yo).imp λO H Q hh=>?_};obtain⟨t,Y,V,l,hh⟩:=hh;intro p W;have I:qL H (dX H p<|.dK []):=cw W _;have S0:fq X.K X.mg (t++[p]) (V++[.dct []]) (dX H p<|.dK []):=l.sto.push W {[],cv,.nilI};have l0:=l.to (ag _ _) (fY.same I) S0;refine B O _ _ {t++[p],Y,V++[.dct []],l0,RK.bind (RK.mono hh (ag _ _)<|fY.same I) l0 λμ2 r ps D H2 p2 e2 l2 q2 h2'=>?_};have hm:μ2[V.length]?=bi p:=L2.pre_get p2 (by rw[l.sto.len];simp)
 split at h2'
 .rename_i L ec ek
  split at h2'
  .rename_i hle
   obtain⟨J,f1,f2⟩:=yo ek q2.1 q2.2;have R:H2 p=bi (.dK []):=by
    obtain⟨a,g,vs0,k,_⟩:=l2.sto.get ec;rw[hm]at g;cases g
    exact k
   obtain⟨zs,g1,g2⟩:=v9 (acc:=[]) f2 .nilI;refine{R,dV L J,f1,by rw[zh f2];exact hle,?_};rw[show nS ([]) (dV L J)=_ from g1];exact h2' μ2 (.ref p) _ (af _) (fY.butD gP R) (l2.sto.setD ec hm R g2)<|.locI hm
  exact h2'.elim
 exact h2'.elim
end
def zi(h:qk)(mg:Str->hJ i2):Prop:=∃J o,mg "__builtins__"=bi (.ref J)/\J≠aaB/\h.get? J=bi o/\o.cls=.type "module"/\o.dict=bi aaB/\o.data=.plain
structure Ov(ts:fy nt)(H:Hp):Prop where
 all:∀b,H b=b0\/(∃o xs,H b=bi (.frz o<|.lst xs))\/(b∈ts/\H b=bi (.tbl #[]))
 tab:∀T∈ts,H T=bi (.tbl #[])
theorem Go{P:Zy}{w:qd}{mb:Str->hJ i2}{CX:Ha}{k:f7}{fa:nt}{fd:ZS}{sp:Sp}{W:n4}{vs:fy i2}{ts:fy nt}
  (KX:K.In W.heap) (Yq:W.heap.Ns wh mg) (U:W.heap.Ns aaB mb) (Zf:∀x:Str,x ≠ "__name__"->mb x=aaf x) (Yh:W.heap.NoLimit) (Z:W.gens=#[])
  (J:W.heap.get? a=bi { cls:=.type "list",data:=.seq vs.toArray }) (L:aaj vs ns) (I:ns.length<=sizeLine) (Y:iy k callerA)
  (B:∀T∈ts,W.heap.get? T=bi { cls:=.none,data:=.fields #[] }) (Yi:∀T∈ts,K.lookup T=b0) (LI:∀T∈ts,isCodeTable W.heap T)
  (Y':zi W.heap mg) (F:∀base:qk,K.In base->base.Ns wh mg->zi base mg->fj P w K mg base CX k fa fd [x] sp) (Wb:∀(s:n4) (u:i2),BindsTo s fd ⟨[u],[]⟩ [(x,u)])
  (Hk:∀H:Hp,Ov ts H->rZ K H a (ns.map V.int)->sp [.ref a] H (λv _=>v=.bl cT) λ_ _ _=>False)
  (Zh:∀H e D,CX [] H W (λ_ _ _=>False) e D->False) :
  aaa (model P w) callerA (.call (.ref fa) ⟨[.ref a],[]⟩) (λr D=>r=.ok (.ret<|.bool cT)/\OldK W.heap D.heap/\D.os=W.os/\ZW D.gens) W:=by
 have rv:=x9 L;have hta:∀T∈ts,T≠a:=λT hT z=>by simp_all
 have core:∀H:Hp,Ov ts H->rZ K H a (ns.map V.int)->lx P w H W.heap->(∀b,H b≠b0->b=a\/b∈ts)->(H a≠b0->K.lookup a=b0) ->
   aaa (model P w) callerA (.call (.ref fa) ⟨[.ref a],[]⟩) (λr D=>r=.ok (.ret<|.bool cT)/\OldK W.heap D.heap/\D.os=W.os/\ZW D.gens) W:=by
  intro H hO hS hok hA hK;have base_of:∀{b:nt} {o:Obj},W.heap.get? b=bi o->H b=b0->(xn W.heap H).get? b=bi o:=Hm;have noA:∀{b:nt} {o:Obj} {es:Array Zx} {ep:f7},W.heap.get? b=bi o->o.data=.dict es ep->H b=b0:=λ{b o es ep} e d=>by
   cases q:H b with
   |none=>rfl
   |some u=>
    rcases hA b (by rw[q];simp)with e'|e'
    .subst e';rw[J]at e;cases e
     have d':Data.seq vs.toArray _=Data.dict es ep:=d
     cases d'
    .rw[B b e']at e;cases e
     cases d
  have nsK:∀{b:nt} {m:Str->hJ i2},W.heap.Ns b m->(xn W.heap H).Ns b m:=λ{b m} ⟨o,es,ep,e,d,r⟩=>{o,es,ep,base_of e<|noA e d,d,r}
  have hKb:K.In (xn W.heap H):=λb o e=>base_of (KX b o e) (by
   cases q:H b with
   |none=>rfl
   |some u=>
    rcases hA b (by rw[q];simp)with e'|e'
    .subst e';rw[hK (by rw[q];simp)]at e;cases e
    .rw[Yi b e']at e;cases e)
  have hbk':zi (xn W.heap H) mg:=by
   obtain⟨bm,o,b1,b2,b3,b4,b5,b6⟩:=Y';refine{bm,o,b1,b2,base_of b3 ?_,b4,b5,b6}
   cases q:H bm with
   |none=>rfl
   |some u=>
    rcases hA bm (by rw[q];simp)with e'|e'
    .subst e';rw[J]at b3;cases b3;exact absurd b4 (by simp)
    .rw[B bm e']at b3;cases b3;cases b4
  have hM:Mod K mg (xn W.heap H):={hKb,nsK Yq,{mb,nsK U,Zf},let ⟨mc,h1,h2⟩:=Yh;⟨mc,nsK h1,h2⟩}
  have e0:CJ P w K mg (xn W.heap H) callerA [] W H:={rfl,hM,λb o e=>LK e,Nat.le_of_eq<|Fv _ _,trivial,λb U=>absurd (show b∈([])from U) (by simp),hok,.of_eq Z}
  refine g7 ((F _ hKb (nsK Yq) hbk').run callerA [] W H {[.ref a],[]} [.ref a] [.ref a] _ _ Y e0 (Wb W<|.ref a) (.cons rfl .nil)<|Hk H hO hS) λr D h=>?_
  cases r with
  |error e=>exact(Zh H e D h).elim
  |ok fl=>
   cases fl with
   |next=>exact Zz h
   |brk=>exact Zz h
   |cont=>exact Zz h
   |ret u=>
    obtain⟨v,H',os,bare,un,hok',r',q⟩:=h;subst q;obtain rfl:u=aam cT:=r';have was:∀b o,W.heap.get? b=bi o->asItWas W.heap D.heap b o/\∃o',D.heap.get? b=bi o':=λb o e=>by
     cases q:H b with
     |none=>
      have:=un.keep b o e q (by intro z;exact absurd (show b∈([])from z)<|by simp) (by simp);exact{.inl this,_,this}
     |some u=>
      rcases hO.all b with z|⟨ob,t,z⟩|⟨hbt,z⟩
      .rw[q]at z;cases z
      .have z2:=un.frzs b ob _ z;obtain⟨R,_⟩:=hok b _ z;obtain⟨e2,_⟩:=hok' b _ z2;rw[e]at R;cases R
       exact{.inl e2,_,e2}
      .obtain⟨qT,z2⟩:=un.tbls b _ z;have e2:=hok' b _ z2;rw[B b hbt]at e
       cases e
       exact{.inr<|.inl {LI b hbt,rfl,#[],qT,rfl,e2},_,e2}
    exact{rfl,{λb o e=>(was b o e).1,λb o e=>(was b o e).2},os,bare}
 open Classical in
 cases O:K.lookup a with
 |some o=>
  have e:=KX a o O;rw[J]at e
  cases e
  refine core (λb=>if b∈ts then bi (.tbl #[])else b0) {λb=>?_,λT hT=>ax hT} (.inr {_,vs.toArray,_,O,rfl,rfl,rfl,by rw[bb,L.length];exact I,by simpa using rv}) (λb u z=>?_) (λb z=>?_)<|λz=>?_
  .by_cases U:b∈ts
   .exact .inr (.inr {U,ax U})
   .exact .inl (aF U)
  .by_cases U:b∈ts
   .have z':=(ax U).symm.trans z
    cases z'
    exact B b U
   .have z':=(aF U).symm.trans z
    cases z'
  .by_cases U:b∈ts
   .exact .inr U
   .exact absurd (aF U) z
  .exact absurd (aF<|λq=>hta a q rfl) z
 |none=>
  refine core (λb=>if b=a then bi (.frz { cls:=.type "list",data:=.seq vs.toArray } (.lst<|ns.map V.int))else if b∈ts then bi (.tbl #[])else b0) {λb=>?_,λT hT=>(aF<|hta T hT).trans<|ax hT} (.inl<|.inr ⟨{ cls:=.type "list",data:=.seq vs.toArray },ax rfl⟩) (λb u z=>?_) (λb z=>?_)<|λ_=>O
  .by_cases U:b=a
   .exact .inr (.inl {_,_,ax U})
   .by_cases hb2:b∈ts
    .exact .inr (.inr {hb2,(aF U).trans<|ax hb2})
    .exact .inl ((aF U).trans<|aF hb2)
  .by_cases U:b=a
   .have z':=(ax U).symm.trans z
    cases z'
    subst U;exact{J,by rw[aj];exact I,vs,_,rv,J}
   .by_cases hb2:b∈ts
    .have z':=((aF U).trans<|ax hb2).symm.trans z
     cases z'
     exact B b hb2
    .have z':=((aF U).trans<|aF hb2).symm.trans z
     cases z'
  .by_cases U:b=a
   .exact .inl U
   .by_cases hb2:b∈ts
    .exact .inr hb2
    .exact absurd ((aF U).trans<|aF hb2) z
def IZ(tc:fy al)(F:fy W->fy al->R W):Prop:=∀ns:fy hG,ns.length<=63->∃bx,F [.loc 0] (.ro (ns.map W.int)::tc)=.ok (.bl cT) bx
noncomputable def v_(L:fy (nt×Pos×Str)):fy al:=L.map λt=>.tab t.1 t.2.1 t.2.2
theorem walkT{l:PySem.W.OpenLaw}{k:f7}{q:Zy}{Fq:fy Str}{XP:(Str->hJ i2)->qk->Prop}{d:DefRec}{K:Params->ti}{x:Str}{G:fy W->fy al->R W}(L:fy (nt×Pos×Str))(hL:(L.map λt=>t.1).Nodup)(J:l.most=bi 63)(Yp:d.params.defaults=[])(I:iy k callerA)
  (hY:∀(w:qd) (h:qk),YP w h->(K w.params).In h) (hT:∀(w:qd) (h:qk),YP w h->∀T∈L.map (λt=>t.1),h.get? T=bi { cls:=.none,data:=.fields #[] })
  (Yi:∀(w:qd),∀T∈L.map (λt=>t.1),(K w.params).lookup T=b0) (LI:∀(w:qd),∀T∈L.map (λt=>t.1),∃c,ZT (K w.params) c T=cT)
  (F:∀(w:qd) (mg:Str->hJ i2) (fa:nt) (h:qk),(K w.params).In h->h.Ns wh mg->mg d.name=bi (.ref fa) ->
   ∃fd:ZS,(∀(s:n4) (u:i2),BindsTo s fd ⟨[u],[]⟩ [(x,u)])/\∀base:qk,(K w.params).In base->base.Ns wh mg->zi base mg->fj l.prog w (K w.params) mg base (iY l.prog w) k fa fd [x] (mJ (K w.params) mg 1 G))
  (ok:IZ (v_ L) G):PySem.W.WalkO q Fq XP YP l.row.toRowW d [] (λf vs=>PySem.call f vs):=by
 refine Att.attach_call J Yp λw s₀ s₁ mg mb fa o pm cd kH a vs ns G' Y O hd pI hmg hobj hints da hg=>?_;have KX:=hY w _ Y;obtain⟨fd,U,hF⟩:=F w mg fa _ KX G'.T.g hmg;refine Go KX G'.T.g G'.T.b G'.T.builtins G'.T.nolimit hg hobj hints (aW da<|by decide) I (hT w _ Y) (Yi w) (λT hT'=>?_) G'.T.bmain hF U (λH hO hS=>?_) λH e Z z=>?_
 .obtain⟨c,D⟩:=LI w T hT';obtain⟨o,vs,_,_,_,_,_,_,_,B,e2,e3,e4,_⟩:=PySem.W.codeHd_of_K KX D;exact⟨c,o,vs,B,e2,e3,e4⟩
 .obtain⟨bx,e⟩:=ok ns da;have Al:WX (K w.params) H a (ns.map V.int):=by
   rcases hS with(z|⟨o,z⟩)|z
   .rcases hO.all a with y|⟨o,xs,y⟩|⟨_,y⟩
    .simp_all
    .rw[z]at y;cases y
    rw[z]at y;cases y
   .exact .inl ⟨o,z⟩
   exact .inr z
  have hri:∀μ:fy nt,RelWs (K w.params) μ H (ns.map W.int) (ns.map V.int):=λμ=>by
   clear hS Al e da hints
   induction ns with
   |nil=>exact .nilI
   |cons n r ih=>exact .consI .int ih
  refine{rfl,a::L.map (λt=>t.1),[.loc 0],.ro (ns.map W.int)::v_ L,{λi j b ci cj c1 c2 r1 r2 m1 m2=>?_,by simp[v_],λi c b c1 c2=>?_},.consI (.locI rfl) .nilI,?_}
  .cases i with
   |zero=>cases c1;cases r1
   |succ i=>
    cases j with
    |zero=>cases c2;cases r2
    |succ j=>
     simp only[nH]at m1 m2;rw[(List.getElem?_inj (am.mp m1).1 hL).mp<|m1.trans m2.symm]
  .cases i with
   |zero=>cases c1;cases c2;exact{_,Al,hri _}
   |succ i=>
    simp only[nH]at c1 c2;unfold v_ at c1;rw[ai]at c1 c2
    cases B:L[i]? with
    |none=>rw[B]at c1;cases c1
    |some t=>
     rw[B]at c1 c2
     cases c1;cases c2
     exact{rfl,#[],hO.tab _<|aX.mpr {t,aV B,rfl},trivial,.inl rfl}
  rw[e];exact λμ' v H' _ _ _ rv=>rv.blE
 obtain⟨_,_,_,_,_,_,z,_⟩:=z;exact z
section
end
def XO(K:ti)(fd:ZS)(P:nt):Prop:=∃c,fd.code=.ref c/\ZT K c P=cT/\K.lookup P=b0
def zj{a b:hG}{t u:Tok}{c:i2}(l:fy i2)(h:aaw l):aaw (l++[.int a t,.int b u,c]):=by
 fun_induction aaw l with
 |case1=>exact trivial
 |case2 _ _ _ _ _ cN U=>exact U h
 |case3=>exact h.elim
section
abbrev xB(H:Hp)(P V:nt)(q:Str)(ps:Array i2)(pos:Pos):Hp:=dX (dX H V<|kR V q) P<|.tbl<|ps++#[w9 pos.line,w9 pos.col,.ref V]
def zk{P V:nt}{q:Str}{ps:Array i2}(J:b≠P)(L:b≠V):xB H P V q ps pos b=H b:=by show dX (dX H V _) P _ b=_;rw[bX J,bX L]
def I_{P V:nt}{q:Str}{ps:Array i2}:xB H P V q ps pos P=bi (.tbl<|ps++#[w9 pos.line,w9 pos.col,.ref V]):=cv
def zl{P V:nt}{q:Str}{ps:Array i2}(h:P≠V):xB H P V q ps pos V=bi (kR V q):=by show dX (dX H V _) P _ V=_;rw[bX<|Zw h,cv]
theorem fY.butT{l:nt}{xs:Array i2}(e:Ux l H H')(U:H l=bi (.tbl xs)):dy K H H':=by
 have W:∀{p:nt} {o:HO},H p=bi o->(∀B,o≠.tbl B)->p≠l:=λ{p o} q hn z=>by subst z;rw[U]at q;cases q;exact hn _ rfl
 refine{λp L h=>?_,λb o u h=>e _ _ (W h<|λ_ z=>by cases z) h};rcases h with(h|⟨o,h⟩)|h
 .exact .inl (.inl<|e _ _ (W h<|λ_ z=>by cases z) h)
 .exact .inl (.inr {o,e _ _ (W h<|λ_ z=>by cases z) h})
 exact .inr h
theorem sH{l:fy α}{x:α}(h:l[i]?=bi x):l.set i x=l:=by
 refine gq λj=>?_
 by_cases e:i=j
 .subst e;rw[bt (am.mp h).1,h]
 .rw[cy e]
theorem fq.tabbed{P V:nt}{q:Str}{ps:Array i2}(S:fq K mg μ st H)(L:st[i]?=bi (.tab P pos q))(Y:H P=bi (.tbl ps))(U:H V=b0)(B:aaw ps.toList)(D:aae pos ps.toList=b0) :
  fq K mg μ st (xB H P V q ps pos)/\dy K H (xB H P V q ps pos):=by
 have d:qL H (dX H V<|kR V q):=cw U _;have W:P≠V:=λz=>by rw[z,U]at Y;cases Y
 have t:=d _ _ Y;have J:dy K (dX H V<|kR V q) (xB H P V q ps pos):=fY.butT gP t;obtain⟨a,hm,w,_⟩:=S.get L;subst w;have:=(S.same d).setG (c':=.tab a pos q) L rfl hm t (λ_ _ z=>by cases z) (λ_ z=>by cases z) J rfl {rfl,_,cv,?_,.inr ⟨V,?_,?_⟩}
 .rw[sH L]at this;exact{this,(fY.same d).trans J}
 .rw[Array.toList_append];exact zj _ B
 .rw[Array.toList_append];exact codeAmong_snoc _ B D
 exact zl W
end
section
theorem bn.tabbed{t':f7}{P V:nt}{q:Str}{ps:Array i2}(I:bn X ah σ H s)(Y:H P=bi (.tbl ps))(TQ:s.heap.objs.size<=V)(J:∀b o,b≠P->s.heap.get? b=bi o->h'.get? b=bi o)
  (To:h'.CodeRec (.ref V) q) (W9:h'.get? P=bi { cls:=.none,data:=.fields (ps++#[w9 pos.line,w9 pos.col,.ref V]) }):bn X ah σ (xB H P V q ps pos) { s with heap:=h',toks:=t' }:=by
 have pI:=I.hok.fresh TQ;have w:P≠V:=λz=>by rw[z,pI]at Y;cases Y
 have notP:∀b,H b=b0->b≠P:=λb n z=>by rw[z,Y]at n;cases n
 have old:∀b o,s.heap.get? b=bi o->b≠V:=λb o e=>aM<|aQ (aD e) TQ;have keepH:∀b u,H b=bi u->b≠P->xB H P V q ps pos b=bi u:=λb u e n=>by rw[zk n (λz=>by rw[z,pI]at e;cases e)];exact e
 have Hcd:xB H P V q ps pos V=bi (kR V q):=zl w;refine I.call' (ch:=[]) rfl {λb o e n U hx'=>J b o (notP b n) e,λb o e n U hx'=>{o.slots,J b o (notP b n) e},λb o e n hx'=>?_,λb o e hx'=>?_,λb L e=>?_,λb o u e=>?_,λb ps' e=>?_} (λb u e=>?_) I.bare λb U=>absurd U (by simp)
 .rw[zk (notP b n)<|old b o e];exact n
 .by_cases U:b=P
  .subst U;exact⟨_,W9⟩
  .exact{o,J b o U e}
 .exact keepH b _ e λz=>by rw[z,Y]at e;cases e
 .exact keepH b _ e λz=>by rw[z,Y]at e;cases e
 .by_cases U:b=P
  .subst U;rw[Y]at e;cases e
   exact⟨_,I_⟩
  .exact{#[],by rw[keepH b _ e U];simp}
 .by_cases U:b=P
  .subst U;rw[I_]at e;cases e
   exact W9
  .by_cases hb2:b=V
   .subst hb2;rw[Hcd]at e;cases e
    obtain⟨c2,oc,D,t,e2,hoc,O,d⟩:=To
    cases e2
    refine⟨⟨oc,D,t,hoc,O,d⟩,⟨oc,hoc⟩,λZ B p k=>?_⟩;obtain⟨o,D,t,R,r⟩:=p;exact{o,D,t,k o R,r}
   .rw[zk U hb2]at e;refine(I.hok b u e).stay (λc v hc W=>J c v (λz=>?_) W) (λc W=>keepH c _ W λz=>by rw[z,Y]at W;cases W) λc L W=>keepH c _ W λz=>by rw[z,Y]at W;cases W
    rcases hc with rfl|hc
    .exact U z
    .rw[z,Y]at hc;cases hc
end
def Bj(st:fy al)(j:f7)(P:nt)(pos:Pos)(q:Str):Prop:=st[j]?=bi (.tab P pos q)
section
variable{en dn q:Str}{pr:ZG}{p1 p3 p4 Li X7:Pos}{c P:nt}
end
noncomputable def Bm(o:Obj):f7:=match o.data with
 |.dict _ ep=>ep
 |_=>0
section
variable{o f:ow}{fo fk fd fe:FE}
end
section
variable{y:Str}{a b:ow}{fs:FA}
end
inductive DefIn(K:ti)(x:Str)(st:tf):Prop
 |mk {ad:nt} {od an:hJ nt} {sl:Array (hJ i2)} {oc kV dc pm cd ct:i2} (a:ZA K wh x=bi (bi<|.ref ad))
   (l:K.lookup ad=bi ⟨oc,od,.func<|fnOf x x (fH st) (eS st) (aK st) .none kV dc pm an cd ct,sl⟩) (c:codeIn K cd x=cT) (k:keepIn K (.ref ad)=cT):DefIn K x st
theorem DefIn.fn{st:tf}(d:DefIn K x st)(X:K.In h)(G:h.Ns wh mg):∃f fd,mf K x x st f fd/\mg x=bi (.ref f):=by obtain⟨a,l,c,k⟩:=d;exact{_,_,CN l c k,mg_of X G a}
def U6{l:fy i2}(h:l.length=n+1):∃a t,l=a::t/\t.length=n:=by
 cases l with
 |nil=>cases h
 |cons a t=>exact{a,t,rfl,tM h}
def XQ{l:fy i2}(h:l.length=1):∃a,l=[a]:=jS.mp h
def TJ{l:fy i2}(h:l.length=2):∃a b,l=[a,b]:=by obtain⟨a,t,rfl,k⟩:=U6 h;obtain⟨b,rfl⟩:=XQ k;exact⟨a,b,rfl⟩
def XR{l:fy i2}(h:l.length=3):∃a b c,l=[a,b,c]:=by obtain⟨a,t,rfl,k⟩:=U6 h;obtain⟨b,c,rfl⟩:=TJ k;exact⟨a,b,c,rfl⟩
def XT{l:fy i2}(h:l.length=4):∃a b c d,l=[a,b,c,d]:=by obtain⟨a,t,rfl,k⟩:=U6 h;obtain⟨b,c,d,rfl⟩:=XR k;exact⟨a,b,c,d,rfl⟩
def Yy{l:fy i2}(h:l.length=5):∃a b c d e,l=[a,b,c,d,e]:=by obtain⟨a,t,rfl,k⟩:=U6 h;obtain⟨b,c,d,e,rfl⟩:=XT k;exact⟨a,b,c,d,e,rfl⟩
def Y6{l:fy i2}(h:l.length=6):∃a b c d e f,l=[a,b,c,d,e,f]:=by obtain⟨a,t,rfl,k⟩:=U6 h;obtain⟨b,c,d,e,f,rfl⟩:=Yy k;exact⟨a,b,c,d,e,f,rfl⟩
section
variable{P:Zy}{w:qd}{K:ti}{mg:Str->hJ i2}{base:qk}{k n:f7}{x:Str}{st:tf}{f:nt}{fd:ZS}{ps:fy Str}{G:fy W->fy al->R W}
theorem Ra{h:qk}(d:DefIn K x st)(X:K.In h)(Gs:h.Ns wh mg)(ok:∀{f:nt} {fd:ZS},mf K x x st f fd->fj P w K mg base (iY P w) k f fd ps (mJ K mg n G))(L:ps.length=n:=by rfl)
  (U:∀(kV J pm:i2) (z:hJ nt) (O Y:i2) (us:fy i2),us.length=ps.length->aag (fnOf x x (fH st) (eS st) (aK st) .none kV J pm z O Y) ⟨us,[]⟩=pure (ps.zip us):=by(intro _ _ _ _ _ _ _ q;first|(obtain⟨_,rfl⟩:=XQ q;rfl)|(obtain⟨_,_,rfl⟩:=TJ q;rfl)|(obtain⟨_,_,_,rfl⟩:=XR q;rfl)|(obtain⟨_,_,_,_,rfl⟩:=XT q;rfl)|(obtain⟨_,_,_,_,_,rfl⟩:=Yy q;rfl)|(obtain⟨_,_,_,_,_,_,rfl⟩:=Y6 q;rfl))):d8 P w K mg base k x n G:=let ⟨_,_,F,m⟩:=d.fn X Gs;MK F m L U (ok F)
end
noncomputable def TK:fy Str->ir
 |[]=>cT
 |x::r=>!(r.any λy=>y==x)&&TK r
theorem zm:∀{l:fy Str},TK l=cT->l.Nodup
 |[],_=>.nil
 |x::r,h=>by simp[TK]at h;exact bI.mpr {λm=>h.1 x m rfl,zm h.2}
section
variable{fe:FE}{sp:ZB}
def pF{N:fy Str}(a:sp.kind=.function:=by rfl)(b:sp.isCoroutine=eh:=by rfl)(c:sp.isGenerator=eh:=by rfl)(d:N.Nodup:=by decide +kernel)(f:N.take ps.length=ps:=by rfl)(g:∀x∈ps,sp.names.lookup x=bi .local\/sp.names.lookup x=bi .cell:=by decide +kernel)(h:∀y∈sp.names,y.2≠.free:=by decide +kernel):bO N ps sp:=⟨a,b,c,d,f,g,h⟩
theorem sS(i:f7){nA:Pos}(sc:bO X.N ps sp)(Y:SE X e fe)(L:X.N[i]?=bi x:=by rfl)(J:Fw X.env.scope x:=by first|exact .inl rfl|exact .inr rfl)(d:swapsWith e (bi<|.Name x nA) pos.line X.env=pure eh:=by rfl)(O:X.fn x=cT\/X.env.scope.names.lookup x=bi .local:=by first|exact .inl rfl|exact .inr rfl|assumption) :
  SS X (.Assign [.Name x nA] e pos) (bG i fe):=QW sc.nd L J Y d O
theorem sG(i:f7)(sc:bO X.N ps sp)(L:X.N[i]?=bi x:=by rfl)(J:Fw X.env.scope x:=by first|exact .inl rfl|exact .inr rfl)(O:X.fn x=cT\/X.env.scope.names.lookup x=bi .local:=by first|exact .inl rfl|exact .inr rfl|assumption):SG X (.Name x pos) (cF i):=y8 sc.nd L J O
theorem sC{nm:fy Str}{cl:fy (Str×nt)}{C s0 H0 fp}(i:f7)(d:nm.Nodup:=by decide +kernel)(L:nm[i]?=bi x:=by rfl)(J:Fw (cu X nm scope cl C s0 H0 fp).env.scope x:=by first|exact .inl rfl|exact .inr rfl)(O:(cu X nm scope cl C s0 H0 fp).fn x=cT\/(cu X nm scope cl C s0 H0 fp).env.scope.names.lookup x=bi .local:=by first|exact .inl rfl|exact .inr rfl|assumption) :
  SG (cu X nm scope cl C s0 H0 fp) (.Name x pos) (cF i):=y8 d L J O
theorem Y7{nm:fy Str}{cl:fy (Str×nt)}{C s0 H0 fp}(i:f7)(d:TK nm=cT:=by first|rfl|kernel_rfl)(L:nm[i]?=bi x:=by rfl)(J:Fw (cu X nm scope cl C s0 H0 fp).env.scope x:=by first|exact .inl rfl|exact .inr rfl)(O:(cu X nm scope cl C s0 H0 fp).fn x=cT\/(cu X nm scope cl C s0 H0 fp).env.scope.names.lookup x=bi .local:=by first|exact .inl rfl|exact .inr rfl|assumption) :
  SG (cu X nm scope cl C s0 H0 fp) (.Name x pos) (cF i):=y8 (zm d) L J O
end
noncomputable def MZ:ow->fy Str
 |.Name x _=>[x]
 |.Tuple es _ _=>es.filterMap λe=>match e with
  |.Name x _=>bi x
  |_=>b0
 |_=>[]
noncomputable def Rb(N:fy Str):fy Str->fy (hJ f7)->fy Str
 |_,[]=>[]
 |ts,bi j::r=>N.getD j "" :: Rb N ts r
 |ts,b0::r=>ts.headD "" :: Rb N ts.tail r
abbrev Ow(X:Cx)(tg:ow)(cap:fy (hJ f7)):fy Str:=Rb X.N (MZ tg) cap
section
variable{fi:FI}{f:FG}{t:FT}{el:FE}
def Es(W:X.env.cells=vr m X.env.scope.names [])(L:SI X tg iter fi)(r:∀cl C w H0 fp,SG (cu X (Ow X tg cap) scope cl C w H0 fp) tg f)(B:∀cl C w H0 fp,ML (cu X (Ow X tg cap) scope cl C w H0 fp) kw t)
  (Y:∀cl C w H0 fp,SE (cu X (Ow X tg cap) scope cl C w H0 fp) mz el) (R:vJ X.env.scope.names scope.names (Ow X tg cap) cap X.N=cT:=by first|rfl|kernel_rfl) (V:X.calm=cT:=by rfl) (k:scope.kind=.function:=by rfl) (d:∀x,Z9 iter X.env x=pure x:=by intro _;rfl) :
  SE X #[3] (cb cap fi f t el):=t7 R W L r B Y V k d
def uE{Z:Str}{I U:Pos}(N5:SG X (.Name Z I) (cF i))(W:X.env.cells=vr m X.env.scope.names [])(L:SI X tg iter fi)(r:∀cl C w H0 fp,SG (cu X (Ow X tg cap) scope cl C w H0 fp) tg f)(B:∀cl C w H0 fp,ML (cu X (Ow X tg cap) scope cl C w H0 fp) kw t)
  (Y:∀cl C w H0 fp,SE (cu X (Ow X tg cap) scope cl C w H0 fp) mz el) (R:vJ X.env.scope.names scope.names (Ow X tg cap) cap X.N=cT:=by first|rfl|kernel_rfl) (NX:swapsWith #[3] (bi<|.Name Z I) U.line X.env=pure cT:=by first|rfl|kernel_rfl) (V:X.calm=cT:=by rfl) (k:scope.kind=.function:=by rfl) (d:∀x,Z9 iter X.env x=pure x:=by intro _;rfl) :
  SS X (.Assign [.Name Z I] #[3] U) (lA (cb cap fi f t el)<|cF i):=lF N5 R W L r B Y V k d NX
end
end L2
variable{t:L2.FT}{ρ:L2.bR}{fa fb fe el:L2.FE}{fi:L2.FI}
namespace HT
open PySem PyProof.Rows
section
open PySem.SeqAt
open PySem.AutoSeq1 (wpAny_loadPart')
open PySem.MeetsSeq PySem.MeetsSeq2 PySem.MeetsSeq3
end
end HT
namespace L2
open PySem PySem.Spec PyProof.Rows
section
end
end L2
namespace PK
open PySem
section
variable{w:qd}{K1 K2:Type}[DecidableEq K1][DecidableEq K2](knd:KeyKind prog w K1)(hk:aap prog w K2)
def Is(h:qk)(k:K1×K2)(a:nt):Prop:=∃o v b n,h.get? a=bi o/\o.cls=.type "tuple"/\o.data=.seq #[v,.ref b] n/\knd.is k.1 v=cT/\hk.is h k.2 b
noncomputable def hash(k:K1×K2):hG:=reduceHash<|aar [knd.hash k.1,hk.hash k.2]
variable{knd hk}
theorem Is.typeIs{k:K1×K2}(x:Is knd hk s.heap k a):s.TypeIs (.ref a) "tuple":=let ⟨o,_,_,_,ho,hc,_⟩:=x;⟨o,ho,hc⟩
theorem Is.inj{x y:K1×K2}(J:Is knd hk h x a)(W:Is knd hk h y a):x=y:=by obtain⟨o,v,b,n,R,_,k,Z,B⟩:=J;obtain⟨z,I,V,Y,L,_,r,O,d⟩:=W;obtain rfl:o=z:=bf<|R.symm.trans L;rw[k]at r;injection r with e _;simp at e;obtain⟨rfl,rfl⟩:=e;exact Prod.ext (knd.inj _ _ _ Z O)<|hk.inj B d
theorem Is.keeps{k:K1×K2}{d:nt}{es ep}(x:Is knd hk h k a)(R:h.get? d=bi o)(I:o.data=.dict es ep)(O:Z6 d h h'):Is knd hk h' k a:=by
 obtain⟨W,v,b,n,L,D,r,Z,B⟩:=x;have z:a≠d:=by grind
 exact{W,v,b,n,(O.2 a z).trans L,D,r,Z,hk.keeps B R I O}
theorem pyHash{k:K1×K2}{Q:hG->n4->Prop}(r:A.units<ZE)(V:hk.room A.in1)(J:Is knd hk s.heap k a)(h:Q (hash knd hk k) { s with toks:=s.toks+(1+hk.draws k.2+1) }) :
  nz (model prog w) A (PySem.pyHash<|.ref a) Q E s:=by
 have z:=J.typeIs;obtain⟨o,v,b,n,R,_,O,Z,B⟩:=J
 first|refine aa (wpAny_cRoomFor_or (.inr r) ?_)|skip
 refine aa<|hW z F.slot_tuple_hash.lookup<|aa<|hW z F.slot_tuple_hash.lookup<|aa<|wpAny_callSpecialIfBoundUnlessNone?_slot z F.slot_tuple_hash<|bF F.slot_tuple_hash z F.entry_tuple_hash ?_<|F.args_tuple_hash_1 _;show nz _ _ (aaL (.ref a) >>= _) _ _ s;refine aa<|ma R O<|aa ?_;rw[<- me];refine gI _
  (λcN c Y=>(cN=[v,.ref b]/\c.toList=[]/\Y=s)\/(cN=[.ref b]/\c.toList=[knd.hash k.1]/\Y={ s with toks:=s.toks+1 })\/(cN=[]/\c.toList=[knd.hash k.1,hk.hash k.2]/\Y={ s with toks:=s.toks+1+hk.draws k.2 }))
  _ ?_ ?_ _ _ (.inl ⟨rfl,rfl,rfl⟩)
 .rintro x cN c Y (⟨e,D,rfl⟩|⟨e,D,rfl⟩|⟨e,_⟩)
  .injection e with e1 e2;subst e1;subst e2;refine aa (knd.pyHash Z ?_)
   first
    |exact aq (.inr<|.inl {rfl,by simp[D],rfl})
    |exact aa (aq<|aq<|.inr<|.inl {rfl,by simp,rfl})
  .injection e with e1 e2;subst e1;subst e2;refine aa (hk.pyHash V B ?_)
   first
    |exact aq (.inr<|.inr {rfl,by simp[D],rfl})
    |exact aa (aq<|aq<|.inr<|.inr {rfl,by simp,rfl})
  cases e
 rintro c Y (⟨e,_⟩|⟨e,_⟩|⟨_,D,rfl⟩)
 .cases e
 .cases e
 show nz _ _ (retInt<|aar c.toList) _ _ _;rw[D];refine wpAny_ret_mkInt ?_;show nz _ _ (if (decide (-2^63<=aar [knd.hash k.1,hk.hash k.2])&&decide (aar [knd.hash k.1,hk.hash k.2]<2^63))=cT then _ else _) Q E _;unfold hash reduceHash at h
 by_cases V:(decide (-2^63<=aar [knd.hash k.1,hk.hash k.2])&&decide (aar [knd.hash k.1,hk.hash k.2]<2^63))=cT
 .rw[ax V];rw[ax V]at h;exact aq (by simpa[Nat.add_assoc]using h)
 rw[aF V];rw[aF V]at h;exact aa (iM<|aq<|by simpa[Nat.add_assoc]using h)
theorem M0{x y:K1×K2}{P:Fin->n4->Prop}(V:hk.room A)(J:Is knd hk s.heap x a)(W:Is knd hk s.heap y b)(h:P (.done<|.ret<|.bool<|decide<|x=y) s) :
  nz (model prog w) A (Builtin.«tuple.__eq__» ⟨[.ref a,.ref b],[]⟩) P E s:=by
 have hTb:=W.typeIs;obtain⟨oa,v,c,na,hoa,_,hda,Z,B⟩:=J;obtain⟨R,u,d,nb,DO,_,xR,U,I⟩:=W;show nz _ _ (isInstance (.ref b) (.type "tuple") >>= _) _ _ s;refine aa<|eQ hTb j7<|aa<|ma hoa hda<|aa<|ma DO xR<|aa ?_;refine gI _
  (λcN r D=>r.1=b0/\D=s/\((cN=[(v,u),(.ref c,.ref d)])\/(cN=[(.ref c,.ref d)]/\x.1=y.1)\/(cN=[]/\x=y)))
  _ ?_ ?_ _ _ ⟨rfl,rfl,.inl rfl⟩
 .rintro⟨p,q⟩ cN r D ⟨hr0,rfl,e|⟨e,Y⟩|⟨e,_⟩⟩
  .injection e with e1 e2;injection e1 with e3 e4;subst e3;subst e4;refine aa<|knd.eqBool Z U ?_
   by_cases z:x.1=y.1
   .rw[aR z];exact aq {rfl,rfl,.inr<|.inl ⟨by first|rfl|trivial,z⟩}
   rw[az z];have O:decide (x=y)=eh:=az λe=>z (by rw[e]);rw[O]at h;exact aa<|aq<|aq<|aq h
  .injection e with e1 e2;injection e1 with e3 e4;subst e3;subst e4;refine aa<|hk.eqBool V B I ?_
   by_cases z:x.2=y.2
   .rw[aR z];exact aq {rfl,rfl,.inr<|.inr ⟨by first|rfl|trivial,Prod.ext Y z⟩}
   rw[az z];have O:decide (x=y)=eh:=az λe=>z (by rw[e]);rw[O]at h;exact aa<|aq<|aq<|aq h
  cases e
 rintro⟨k,L⟩ D ⟨hr0,rfl,e|⟨e,_⟩|⟨_,e⟩⟩
 .cases e
 .cases e
 subst hr0;refine aq ?_;rw[aR e]at h;exact h
theorem eqBool{x y:K1×K2}{Q:ir->n4->Prop}(D:A.units<ZE)(V:hk.room A.in1)(J:Is knd hk s.heap x a)(W:Is knd hk s.heap y b)(h:Q (decide<|x=y) s) :
  nz (model prog w) A (PySem.eqBool (.ref a)<|.ref b) Q E s:=by
 unfold PySem.eqBool
 try with_reducible refine cD ?_
 by_cases z:(Zv a==Zv b)=cT
 .rw[ax z];have e:a=b:=by have:=qK z;injection this
  subst e;obtain rfl:=J.inj W;exact aa (iM<|aq<|by simp_all)
 rw[aF z];exact aa (wpAny_richCompare_same_room J.typeIs W.typeIs F.slot_tuple_eq
  (bF F.slot_tuple_eq J.typeIs F.entry_tuple_eq (M0 V J W ⟨_,rfl,(λe=>nomatch e),dZ h⟩)<|F.args_tuple_eq_2 _ _) D)
theorem quiet{k:K1×K2}{Q:ir->n4->Prop}(d:∀{b:nt} {Q:ir->n4->Prop},hk.is s.heap k.2 b->Q cT s->nz (model prog w) A (eqIsQuiet 7<|.ref b) Q E s)(J:Is knd hk s.heap k a)(h:Q cT s):nz (model prog w) A (eqIsQuiet 8<|.ref a) Q E s:=by
 have z:=J.typeIs;obtain⟨o,v,b,n,R,_,O,Z,B⟩:=J;unfold eqIsQuiet;refine aa<|hW z F.slot_tuple_eq.lookup<|aa<|eQ z j7<|aa<|d3 R O<|aa ?_;rw[<- me];refine gI _ (λcN r D=>r.1=b0/\D=s/\(cN=[v,.ref b]\/cN=[.ref b]\/cN=[])) _ ?_ ?_ _ _ {rfl,rfl,.inl rfl}
 .rintro x cN r D ⟨V,rfl,e|e|e⟩
  .injection e with e1 e2;subst e1;rw[eqIsQuiet_byValue _<|knd.byValue _ _ Z];exact aq {rfl,rfl,.inr<|.inl<|by omega}
  .injection e with e1 e2;subst e1;exact aa (d B<|aq {rfl,rfl,.inr<|.inr<|by omega})
  cases e
 rintro⟨I,L⟩ D ⟨V,rfl,_⟩;subst V;exact aq h
end
theorem Gp{w:qd}{K:Type}[DecidableEq K]{knd:KeyKind prog w K}(f:f7){ks:fy K}{Q:ir->n4->Prop}(O:IsTupleKey knd s.heap ks a)(h:Q cT s):nz (model prog w) A (eqIsQuiet (f+1)<|.ref a) Q E s:=by
 have z:=O.typeIs;obtain⟨o,Y,n,R,_,k,L⟩:=O;unfold eqIsQuiet;refine aa<|hW z F.slot_tuple_eq.lookup<|aa<|eQ z j7<|aa<|d3 R k<|aa ?_;rw[<- me];refine gI _ (λcN r D=>r.1=b0/\D=s/\∀v∈cN,carriedByValue v=cT) _ ?_ ?_ _ _ {rfl,rfl,L.byValue}
 .rintro v cN r D ⟨V,rfl,W⟩;rw[eqIsQuiet_byValue _<|W v a9];exact aq {rfl,rfl,λu d=>W u<|aJ _ d}
 rintro⟨B,Z⟩ D ⟨V,rfl,_⟩;subst V;exact aq h
def kind{w:qd}{K1 K:Type}[DecidableEq K1][DecidableEq K](knd:KeyKind prog w K1)(Y:KeyKind prog w K):aap prog w (K1×fy K) where
 is:=Is knd (tupleKind Y)
 hash:=hash knd (tupleKind Y)
 draws:=λk=>1+(k.2.length+1)+1
 room:=λA=>A.units+1<ZE
 inj:=λJ W=>J.inj W
 keeps:=λx R I d=>x.keeps R I d
 pyHash:=λD O h=>pyHash (Nat.lt_of_succ_lt D) D O h
 eqBool:=λD J W h=>eqBool (Nat.lt_of_succ_lt D) D J W h
 quiet:=λO h=>quiet (λU Z=>Gp 6 U Z) O h
section
variable{w:qd}{K:Type}[DecidableEq K]{knd:aap prog w K}
end
end PK
namespace L2
open PySem PySem.Spec PyProof.Rows
section
variable{w:qd}{es:fy Zx}
def Ox(ok:lx P w H h)(e:H a=bi (vg a es)):DX a es h:=(ok a _ e).1
theorem Ja(d:DX a es h):iA P w H h a (vg a es):=by refine{d,?_,λZ B ⟨o,J,e,x,y⟩ k=>⟨o,J,k o e,x,y⟩};obtain⟨o,J,e,_⟩:=d;exact⟨o,e⟩
theorem Jb(ok:lx P w H h)(e:H a=bi (.dK [])):DX a [] h/\(a==ZM)=eh:=by
 obtain⟨_,k,D,U,r⟩:=HJ ok e
 cases U
 obtain⟨o,W,J,Z,B,Y,_,O,_⟩:=r;refine⟨{o,J,Z,B,?_},k⟩;rw[Y];have:W.toList=[]:=by
  cases I:W.toList with
  |nil=>rfl
  |cons x l=>rw[I]at O;cases O
 rw[show W=[].toArray from by apply Array.ext';rw[this]]
theorem Et(d:DX a es h)(q:Str):vg a es≠kR a q:=λz=>by
 injection z with z;have:=congrFun z h;have c:=this▸d;obtain⟨o,J,e,_,y⟩:=d;obtain⟨W,D,t,L,r,_⟩:=c;rw[e]at L;cases L
 rw[y]at r;cases r
end
section
variable{K:Type}[DecidableEq K]{knd:aap X.prog X.w K}{xs:fy (K×nt×i2)}{k:K}
noncomputable abbrev Bn(knd:aap X.prog X.w K)(xs:fy (K×nt×i2)):fy Zx:=xs.map<|entryOfKey knd
theorem Jc(d:DX a (Bn knd xs) s.heap)(DP:∀x∈xs,knd.is s.heap x.1 x.2.1)(L:(xs.map (·.1)).Nodup):s.heap.DictOfH knd a xs:=by obtain⟨o,J,Z,B,Y⟩:=d;exact{o,_,J,Z,B,Y,by simp,DP,L}
theorem M1{L:fy (K×nt×i2)}(d:h'.DictOfH knd a L):DX a (Bn knd L) h':=by obtain⟨o,W,J,Z,B,Y,O,_⟩:=d;refine{o,J,Z,B,?_};rw[Y,show W=(Bn knd L).toArray from by apply Array.ext';rw[O]]
structure XD(knd:aap X.prog X.w K)(H:Hp)(s:n4)(a:nt)(xs:fy (K×nt×i2)):Prop where
 d:DX a (Bn knd xs) s.heap
 is:∀x∈xs,knd.is s.heap x.1 x.2.1
 nd:(xs.map (·.1)).Nodup
 sm:(a==ZM)=eh
 z:xs.length<=sizeLine
 mu:P0 (H a)
def M3(Y:knd.room A.in1)(I:bn X ah σ H s)(x:XD knd H s a xs)(O:knd.is s.heap k b)(h:∀D,bn X ah σ H D->Q (.bool<|!(atKey xs k).isSome) D):nz #[2] A (Zu .NotIn (.ref b)<|.ref a) Q E s:=
 wpAny_notIn_heap Y O x.sm (Jc x.d x.is x.nd) (h _<|I.tok _)
theorem U7{Q:Unit->n4->Prop}(Y:knd.room A.in1)(I:bn X ah σ H s)(x:XD knd H s a xs)(J:knd.is s.heap k b)(h:∀D,bn X ah σ (dX H a<|vg a<|Bn knd<|storedH xs k b v) D->Q () D):nz #[2] A (setItem (.ref a) (.ref b) v) Q E s:=by refine wpAny_setItem_heap (hsz:=x.z) Y J (Jc x.d x.is x.nd) λV r O=>h _ ?_;have d:=M1 r;exact vf I x.mu O (let ⟨q,_,hq,_⟩:=d;⟨q,hq⟩)<|Ja d
end
theorem wc:∀{ws:fy W} {l:fy hG},lI ws=bi l->ws=l.map W.int
 |[],l,h=>by cases h;rfl
 |w::ws,l,h=>by
  cases w with
  |int z=>
   unfold lI at h
   cases e:lI ws with
   |none=>rw[e]at h;cases h
   |some r=>
    rw[e]at h
    cases h
    rw[wc e];rfl
  |_=>unfold lI at h;cases h
def u5:W->hJ KX
 |.bl b=>bi (.bo b)
 |.tup ws=>(match lI ws,ws with
  |some ks,_=>bi (.fl ks)
  |none,[.int i,.tup vs]=>(lI vs).map (KX.pr i)
  |_,_=>b0)
 |_=>b0
theorem Dg{w:W}{k:KX}(h:u5 w=bi k):w=k.w:=by
 cases w with
 |bl b=>cases h;rfl
 |tup J=>
  simp[u5]at h
  cases e:lI J with
  |some B=>rw[e]at h;cases h;show _=W.tup _;rw[wc e]
  |none=>
   rw[e]at h
   split at h
   .trivial
   .rename_i i D e2
    cases O:lI D with
    |none=>rw[O]at h;cases h
    |some B=>rw[O]at h;cases h;show _=W.tup [_,.tup _];rw[wc O]
   cases h
 |_=>cases h
structure HV(X:Cx)(K:Type)[DecidableEq K] where
 knd:aap X.prog X.w K
 em:K->KX
 inj:∀{a b:K},em a=em b->a=b
 hash:∀k,(em k).hash=knd.hash k
 is:∀{ah:fy (nt×Obj)} {σ:St} {H:Hp} {s:n4} {μ:fy nt} {k:K} {v:V} {u:i2},bn X ah σ H s->bp X.K μ H (em k).w v->cq v u->∃b,u=.ref b/\knd.is s.heap k b
 room:∀{A:xh},A.units+2<ZE->knd.room A.in1
theorem items_int{w:qd}:∀{ks:fy hG} {br:fy i2},ce (ks.map V.int) br->ItemsAre (intKind P w) ks br
 |[],_,r=>by cases r;exact .nil
 |k::ks,_,r=>by
  cases r with
  |cons h t=>
   obtain⟨q,rfl⟩:=h;exact .cons (by simp[intKind,Value.isInt])<|items_int t
theorem Jd:∀{ks:fy hG} {vs:fy V},RelWs K μ H (ks.map W.int) vs->vs=ks.map V.int
 |[],vs,r=>r.nilE
 |k::ks,vs,r=>by obtain⟨x,D,rfl,a,b⟩:=r.consE;rw[a.intE,Jd b];rfl
theorem Je{ks:fy hG}{v:V}(I:bn X ah σ H s)(r:bp X.K μ H (.tup<|ks.map W.int) v)(L:cq v u):∃b,u=.ref b/\IsTupleKey (intKind X.prog X.w) s.heap ks b:=by
 obtain⟨p,Z,rfl,d,q⟩:=r.tupE
 cases L
 rw[Jd q]at d;obtain⟨B,r,⟨o,R,D,n,k⟩,_⟩:=I.tuple d;exact{p,rfl,o,B.toArray,n,R,D,k,items_int r}
def U8(X:Cx):HV X (fy hG) where
 knd:=tupleKind (intKind X.prog X.w)
 em:=KX.fl
 inj:=λh=>by injection h
 hash:=λk=>rfl
 is:=λI r L=>Je I r L
 room:=λ{A} h=>by show A.units+1<ZE;omega
def U9(X:Cx):HV X (hG×fy hG) where
 knd:=PK.kind (intKind X.prog X.w) (intKind X.prog X.w)
 em:=λk=>.pr k.1 k.2
 inj:=λ{a b} h=>by injection h with h1 h2;exact Prod.ext h1 h2
 hash:=λk=>rfl
 is:=λ{ah σ H s μ k v u} I r ru=>by
  obtain⟨p,vs,rfl,V,q⟩:=bp.tupE r
  cases ru
  obtain⟨x,xs,rfl,a,b⟩:=q.consE;obtain⟨y,L,rfl,c,d⟩:=b.consE;have:=d.nilE;subst this
  cases a.intE
  obtain⟨br,z,⟨o,R,D,n,O⟩,_⟩:=I.tuple V;obtain⟨Y,us,rfl,B,Z⟩:∃Y us,br=Y::us/\cq (.int k.1) Y/\ce [y] us:=by cases z with|cons h t=>exact⟨_,_,rfl,h,t⟩
  obtain⟨w,rfl,J⟩:∃w,us=[w]/\cq y w:=by
   cases Z with
   |cons h t=>cases t;exact⟨_,rfl,h⟩
  obtain⟨b,rfl,U⟩:=Je I c J;obtain⟨t,rfl⟩:=B;exact{p,rfl,o,_,b,n,R,D,O,by simp[intKind,Value.isInt],U}
 room:=λ{A} h=>by show A.units+1+1<ZE;omega
noncomputable def mw(kvs:fy (KX×W))(k:KX):hJ W:=(kvs.find? λp=>decide<|p.1=k).map λp=>p.2
def we(kvs:fy (KX×W))(k:KX)(v:W):fy (KX×W):=if (mw kvs k).isSome=cT then kvs.map λp=>if p.1=k then(p.1,v)else p else kvs++[(k,v)]
section
variable{K:Type}[DecidableEq K](G:HV X K)
def Vw(μ:fy nt)(H:Hp):fy (KX×W)->fy (K×nt×i2)->Prop:=Paired λp x=>p.1=G.em x.1/\bp X.K μ H p.1.w (.ref x.2.1)/\∃v,bp X.K μ H p.2 v/\cq v x.2.2
theorem wf{v:V}(h:cq v (.ref b)):v=.ref b:=by
 cases v with
 |ref a=>cases h;rfl
 |non=>cases h
 |bl _=>cases h
 |ty _=>cases h
 |int _=>obtain⟨_,h⟩:=h;cases h
 |str _=>obtain⟨_,h⟩:=h;cases h
 |byt _=>obtain⟨_,h⟩:=h;cases h
 |flt _=>obtain⟨_,h⟩:=h;cases h
theorem zn(I:bn X ah σ H s):∀{kvs:fy (KX×W)} {es:fy Zx},Paired (qN X.K μ H) kvs es->(∀p∈kvs,∃k,p.1=G.em k)->∃xs,es=Bn G.knd xs/\Vw G μ H kvs xs/\∀x∈xs,G.knd.is s.heap x.1 x.2.1
 |_,_,.nil,_=>{[],rfl,.nil,λx hx=>by cases hx}
 |_,_,.cons (a:=p) (b:=e) r t,hk=>by
  obtain⟨xs,R,Z,DP⟩:=zn I t λp w=>hk p<|aJ _ w;obtain⟨k,NW⟩:=hk p<|a9 ..;obtain⟨V,⟨v,Y,rv⟩,u,z,J⟩:=r;obtain⟨b,U,L⟩:=G.is I (by rw[<- NW];exact Y) rv;have O:v=.ref b:=wf (by simp_all);subst O;refine{(k,b,e.val)::xs,?_,.cons ⟨NW,Y,u,z,J⟩ Z,λx hx=>?_}
  .congr 1
   obtain⟨D,d,O⟩:=e;simp only at V U;subst U;rw[V,NW,G.hash];rfl
  .rcases aS.mp hx with rfl|hx
   .exact L
   .exact DP x hx
variable{G}
theorem zo:∀{kvs:fy (KX×W)} {xs:fy (K×nt×i2)} (k:K),Vw G μ H kvs xs->(∃w p v,mw kvs (G.em k)=bi w/\atKey xs k=bi p/\bp X.K μ H w v/\cq v p.2)\/(mw kvs (G.em k)=b0/\atKey xs k=b0)
 |_,_,k,.nil=>.inr ⟨rfl,rfl⟩
 |_,_,k,.cons (a:=p) (b:=x) (l₁:=kvs) (l₂:=xs) ⟨h1,_,v,h3,h4⟩ t=>by
  by_cases e:x.1=k
  .refine .inl {p.2,x.2,v,?_,?_,h3,h4}
   .unfold mw;simp[h1,e]
   unfold atKey;simp[e]
  have e2:p.1≠G.em k:=λz=>e<|G.inj<|h1.symm.trans z;have Z:mw (p::kvs) (G.em k)=mw kvs (G.em k):=by unfold mw;simp[e2]
  have O:atKey (x::xs) k=atKey xs k:=by unfold atKey;simp[e]
  rw[Z,O];exact zo k t
theorem uc:∀{kvs:fy (KX×W)} {xs:fy (K×nt×i2)},Vw G μ H kvs xs->kvs.map (λp=>p.1)=(xs.map (·.1)).map G.em
 |_,_,.nil=>rfl
 |_,_,.cons ⟨h1,_⟩ t=>by simp only[aZ];rw[h1,uc t]
theorem yp:∀{kvs:fy (KX×W)} {xs:fy (K×nt×i2)},Vw G μ H kvs xs->Paired (qN X.K μ H) kvs (Bn G.knd xs)
 |_,_,.nil=>.nil
 |_,_,.cons ⟨h1,h2,h3⟩ t=>.cons {by rw[h1,G.hash];rfl,⟨_,h2,rfl⟩,h3}<|yp t
theorem Bo{k:K}{w:W}{v:V}(J:bp X.K μ H w v)(L:cq v u):∀{kvs:fy (KX×W)} {xs:fy (K×nt×i2)},Vw G μ H kvs xs->Vw G μ H (kvs.map λp=>if p.1=G.em k then(p.1,w)else p) (xs.map<|putAt k u)
 |_,_,.nil=>.nil
 |_,_,.cons (b:=x) ⟨h1,h2,h3⟩ t=>by
  refine .cons ?_<|Bo J L t
  by_cases e:x.1=k
  .simp;rw[ax<|by rw[h1,e]];unfold putAt;rw[ax e];exact⟨h1,h2,v,J,L⟩
  simp;rw[aF λz=>e<|G.inj<|h1.symm.trans z];unfold putAt;rw[aF e];exact⟨h1,h2,h3⟩
theorem Jf{k:K}{w:W}{v:V}{xs:fy (K×nt×i2)}(Z:Vw G μ H kvs xs)(r:bp X.K μ H (G.em k).w (.ref b))(J:bp X.K μ H w v)(L:cq v u):Vw G μ H (we kvs (G.em k) w) (storedH xs k b u):=by
 unfold we storedH;rcases zo k Z with⟨Y,p,I,R,e2,_⟩|⟨R,e2⟩
 .rw[R,e2];exact Bo J L Z
 rw[R,e2];exact Paired.snoc Z ⟨rfl,r,v,J,L⟩
end
noncomputable def KX.tag:KX->f7
 |.bo _=>0
 |.fl _=>1
 |.pr _ _=>2
noncomputable def Eu(kvs:fy (KX×W))(k:KX):ir:=decide (k.tag≠0)&&kvs.all λp=>p.1.tag==k.tag
noncomputable def j4(st:fy al):W->hJ (f7×fy (KX×W))
 |.loc n=>(match st[n]? with
  |some (.dcx kvs)=>bi (n,kvs)
  |some (.dct [])=>bi (n,[])
  |_=>b0)
 |_=>b0
section
structure Dc(X:Cx)(μ:fy nt)(H:Hp)(s:n4)(st:fy al)(n:f7)(kvs:fy (KX×W))(a:nt)(es:fy Zx):Prop where
 m:μ[n]?=bi a
 c:∃c,st[n]?=bi c/\c.isRo=eh
 o:∃o,H a=bi o/\(∀q u,o≠.frz q u)/\∀q,o≠kR a q
 d:DX a es s.heap
 sm:(a==ZM)=eh
 p:Paired (qN X.K μ H) kvs es
 nd:(kvs.map λp=>p.1).Nodup
 mu:P0 (H a)
 sq:∀es',dy X.K H<|dX H a<|vg a es'
theorem fY.butE{l:nt}(e:Ux l H H')(U:H l=bi (.ext φ)):dy K H H':=by
 have W:∀{p:nt} {o:HO},H p=bi o->(∀B,o≠.ext B)->p≠l:=λ{p o} q hn z=>by subst z;rw[U]at q;cases q;exact hn _ rfl
 refine{λp L h=>?_,λb o u h=>e _ _ (W h<|λ_ z=>by cases z) h};rcases h with(h|⟨o,h⟩)|h
 .exact .inl (.inl<|e _ _ (W h<|λ_ z=>by cases z) h)
 .exact .inl (.inr {o,e _ _ (W h<|λ_ z=>by cases z) h})
 exact .inr h
theorem wg(I:bn X ah σ H s)(S:fq X.K X.mg μ st H){x:W}{v:V}(h:j4 st x=bi (n,kvs))(r:bp X.K μ H x v):∃a es,v=.ref a/\Dc X μ H s st n kvs a es:=by
 cases x with
 |loc m=>
  simp[j4]at h
  cases e:st[m]? with
  |none=>rw[e]at h;cases h
  |some c=>
   rw[e]at h
   cases c with
   |dcx z=>
    cases h
    obtain⟨a,g,es,k,O,p,w⟩:=S.get e;obtain⟨b,f,rfl⟩:=r.locE;rw[g]at f;cases f
    have d:=Ox I.hok k;exact{a,es,rfl,g,⟨_,e,rfl⟩,{_,k,(λ_ _ z=>by cases z),Et d},d,O,p,w,by rw[k];trivial,λZ=>fY.butE gP k}
   |dct z=>
    cases z with
    |cons _ _=>cases h
    |nil=>
     cases h
     obtain⟨a,g,D,k,Y⟩:=S.get e;obtain⟨b,f,rfl⟩:=r.locE;rw[g]at f;cases f
     have k:H a=bi (.dK []):=k;obtain⟨d,O⟩:=Jb I.hok k;exact{a,[],rfl,g,⟨_,e,rfl⟩,{_,k,(λ_ _ z=>by cases z),λ_ z=>by cases z},d,O,.nil,gG,by rw[k];trivial,λZ=>fY.butD gP k}
   |_=>cases h
 |_=>cases h
theorem Ev{K:Type}[DecidableEq K](G:HV X K){es:fy Zx}(I:bn X ah σ H s)(D:Dc X μ H s st n kvs a es)(O:∀p∈kvs,∃k,p.1=G.em k)(U:kvs.length<=sizeLine):∃xs,XD G.knd H s a xs/\Vw G μ H kvs xs:=by
 obtain⟨xs,e,Z,DP⟩:=zn G I D.p O;have L:(xs.map (·.1)).Nodup:=by have:=D.nd;rw[uc Z]at this;exact(jT.mp this).imp λh e=>h<|eJ _ e
 exact{xs,{by rw[<- e];exact D.d,DP,L,D.sm,by rw[<- Paired.length Z];exact U,D.mu},Z}
theorem Bp{k:KX}(h:Eu kvs k=cT):(∃ks,k=.fl ks/\∀p∈kvs,∃q,p.1=(U8 X).em q)\/∃i ks,k=.pr i ks/\∀p∈kvs,∃q,p.1=(U9 X).em q:=by
 unfold Eu at h;rw[cJ,bC]at h;obtain⟨V,Z⟩:=h
 cases k with
 |bo b=>simp[KX.tag]at V
 |fl ks=>
  refine .inl {ks,rfl,λp W=>?_};have:=Z p W
  cases e:p.1 with
  |fl q=>exact⟨q,rfl⟩
  |bo _=>rw[e]at this;simp[KX.tag]at this
  |pr _ _=>rw[e]at this;simp[KX.tag]at this
 |pr i ks=>
  refine .inr {i,ks,rfl,λp W=>?_};have:=Z p W
  cases e:p.1 with
  |pr j q=>exact{(j,q),rfl}
  |bo _=>rw[e]at this;simp[KX.tag]at this
  |fl _=>rw[e]at this;simp[KX.tag]at this
def Gq(kvs:fy (KX×W))(k:KX):ir:=Eu kvs k&&decide (kvs.length<j')
theorem Oy{Pr:Prop}{es:fy Zx}{k:KX}{v:V}(I:bn X ah σ H s)(D:Dc X μ H s st n kvs a es)(h:Gq kvs k=cT)(r:bp X.K μ H k.w v)(L:cq v u)
  (z:∀(K:Type) [DecidableEq K] (G:HV X K) (q:K) (b:nt) (xs:fy (K×nt×i2)),k=G.em q->v=.ref b->u=.ref b->G.knd.is s.heap q b->XD G.knd H s a xs->Vw G μ H kvs xs->Pr):Pr:=by
 unfold Gq at h;rw[cJ,fU]at h;have Y:=iW<|dL h.2;rcases Bp (X:=X) h.1 with⟨B,rfl,O⟩|⟨i,B,rfl,O⟩
 .obtain⟨xs,d,Z⟩:=Ev (U8 X) I D O Y;obtain⟨b,rfl,U⟩:=(U8 X).is I r L;exact z _ (U8 X) B b xs rfl (wf L) rfl U d Z
 obtain⟨xs,d,Z⟩:=Ev (U9 X) I D O Y;obtain⟨b,rfl,U⟩:=(U9 X).is (k:=(i,B)) I r L;exact z _ (U9 X) (i,B) b xs rfl (wf L) rfl U d Z
def Dh(neg:ir)(x y:W)(st:fy al):R W:=match j4 st y,u5 x with
 |some (_,kvs),bi k=>if Gq kvs k=cT then .ok (.bl<|if neg then !(mw kvs k).isSome else(mw kvs k).isSome) st else .bad
 |_,_=>.bad
def Jg(neg:ir)(x y:W)(st:fy al):qQ (Dh neg x y st):=by
 unfold Dh
 split
 .split<;>trivial
 trivial
theorem yq{K:Type}[DecidableEq K]{G:HV X K}{xs:fy (K×nt×i2)}(k:K)(Z:Vw G μ H kvs xs):(atKey xs k).isSome=(mw kvs<|G.em k).isSome:=by rcases zo k Z with⟨w,p,v,R,e2,_⟩|⟨R,e2⟩<;>rw[R,e2]<;>rfl
theorem Jh(V:iy kk X.A):sj X (Zu .NotIn) (Dh cT):={λW s O H x y v u Q I rv ru zq=>by
 obtain⟨r,B,wx,wy,S,Z,w,q⟩:=zq;unfold Dh at q
 cases e:j4 B wy with
 |none=>rw[e]at q;exact q.elim
 |some nk=>
  obtain⟨n,R⟩:=nk
  cases ek:u5 wx with
  |none=>rw[e,ek]at q;exact q.elim
  |some k=>
   rw[e,ek]at q;simp only at q
   by_cases J:Gq R k=cT
   .rw[ax J]at q;obtain⟨a,es,rfl,D⟩:=wg I S e w;obtain rfl:u=Zv a:=ru;have:=Dg ek;subst this;refine Oy I D J Z rv λK inst G z b L d _ U DP xd vw=>?_;subst U;refine M3 (G.room (by have:=V.units;lia)) I xd DP λY I'=>?_;rw[yq z vw,<- d];exact{.bl _,H,I',rfl,jD S q}
   rw[aF J]at q;exact q.elim,Jg cT}
end
theorem Gr{k:KX}(h:mw kvs k=b0):k∉kvs.map λp=>p.1:=λz=>by obtain⟨p,W,e⟩:=aX.mp z;unfold mw at h;rw[Option.map_eq_none_iff,List.find?_eq_none]at h;exact h p W<|aR e
theorem M4(k:KX)(v:W)(h:(kvs.map λp=>p.1).Nodup):((we kvs k v).map λp=>p.1).Nodup:=by
 unfold we
 by_cases z:(mw kvs k).isSome=cT
 .rw[ax z,aN];have:((λp:KX×W=>p.1)∘λp:KX×W=>if p.1=k then(p.1,v)else p)=λp=>p.1:=by
   funext p
   show(if p.1=k then(p.1,v)else p).1=p.1
   split<;>rfl
  rw[this];exact h
 .rw[aF z,bT,iw];have L:mw kvs k=b0:=by simp_all
  refine{h,by simp,λa J b U=>?_};have:b=k:=by simpa using U
  subst this;exact λe=>Gr L<|e▸J
def wj(x i v:W)(st:fy al):hJ (fy al):=match j4 st x,u5 i with
 |some (n,kvs),bi k=>if Gq kvs k=cT then bi (st.set n<|.dcx<|we kvs k v)else b0
 |_,_=>b0
section
theorem Dc.put{K:Type}[DecidableEq K]{G:HV X K}{es:fy Zx}(D:Dc X μ H s st n kvs a es)(S:fq X.K X.mg μ st H)
  {xs:fy (K×nt×i2)} {z:K} {b:nt} {k:W} {v:V} {u:i2} (w:Vw G μ H kvs xs) (Y:bp X.K μ H (G.em z).w (.ref b)) (rv:bp X.K μ H k v) (L:cq v u) :
  fq X.K X.mg μ (st.set n<|.dcx<|we kvs (G.em z) k) (dX H a<|vg a<|Bn G.knd<|storedH xs z b u):=by obtain⟨c,R,Al⟩:=D.c;obtain⟨o,Z,O,r⟩:=D.o;exact S.setG R Al D.m Z O r (D.sq _) rfl {_,cv,D.sm,Paired.imp' (λ_ _ q=>q.mono (af _)<|D.sq _)<|yp<|Jf w Y rv L,M4 _ _ D.nd}
theorem Ji(V:iy kk X.A):CB X (El X wj):=λW s O H o i v ov iv u Q I w r2 r3 zq=>by
 obtain⟨r,B,wo,wi,wv,Z,S,ro,ri,rv,e,q⟩:=zq;unfold wj at e
 cases R:j4 B wo with
 |none=>rw[R]at e;cases e
 |some nk=>
  cases e2:u5 wi with
  |none=>rw[R,e2]at e;cases e
  |some k=>
   rw[R,e2]at e;simp only at e
   split at e
   .rename_i J
    cases e
    obtain⟨a,es,rfl,D⟩:=wg I S R ro;obtain rfl:ov=Zv a:=w;have:=Dg e2;subst this;refine Oy I D J ri r2 λK inst G z b L d hv U DP xd vw=>?_;subst d;subst hv;subst U;exact U7 (G.room (by have:=V.units;omega)) I xd DP λY I'=>{_,I',q _ (D.sq _)<|D.put S vw ri rv r3}
   cases e
end
end L2
namespace PK
open PySem
section
variable{w:qd}
end
end PK
namespace L2
open PySem PySem.Spec PyProof.Rows
section
variable{w:qd}{K:Type}[DecidableEq K]{knd:KeyKind prog w K}{es:fy Zx}{k:K}{key dflt:i2}
end
section
end
section
variable{w:qd}{es:fy Zx}
end
section
end
open AutoSeq1 (wpAny_loadPart')
section
variable{w:qd}
end
section
end
section
variable{a:ow}{fs:FA}
end
section
end
section
end
section
end
section
end
theorem zp{w:qd}(e:h.get? a=bi o):iA P w H h a (m9 a o):={e,⟨o,e⟩,λZ B p k=>k o p}
def Gu{u:hJ i2}(e:h.get? a=bi o)(k:o.data=.cell u)(q:Str):m9 a o≠kR a q:=λz=>by
 have:=congrFun (HO.ext.inj z) h;obtain⟨W,D,_,R,e2,_⟩:=(cast this e)
 rw[e]at R;cases R;rw[k]at e2;cases e2
def drp(H:Hp)(c:nt):Hp:=λb=>if b=c then b0 else H b
def mV{c:nt}(h:b≠c):drp H c b=H b:=by unfold drp;rw[aF h]
def sI{c:nt}:drp H c c=b0:=by unfold drp;rw[ax rfl]
section
variable{w:qd}
theorem dy.drp{c:nt}(U:H c=bi (.ext φ)):dy K H (drp H c):=by
 have W:∀{p:nt} {o:HO},H p=bi o->(∀z,o≠.ext z)->p≠c:=λ{p o} q hn z=>by subst z;rw[U]at q;cases q;exact hn _ rfl
 refine{λp L h=>?_,λb o u h=>by rw[mV<|W h<|λ_ z=>by cases z];exact h};rcases h with(h|⟨o,h⟩)|h
 .exact .inl (.inl (by rw[mV<|W h<|λ_ z=>by cases z];exact h))
 .exact .inl (.inr {o,by rw[mV<|W h<|λ_ z=>by cases z];exact h})
 exact .inr h
theorem lx.drp{c:nt}(Z:lx P w H h)(Y:H c=bi (.ext φ)):lx P w (drp H c) h:=λb u e=>by
 by_cases U:b=c
 .subst U;rw[sI]at e;cases e
 rw[mV U]at e;refine(Z b u e).stay (λ_ _ _ q=>q) (λx q=>?_) λx D q=>?_
 .rw[mV (by rintro rfl;rw[Y]at q;cases q)];exact q
 rw[mV (by rintro rfl;rw[Y]at q;cases q)];exact q
theorem lx.put{c:nt}(Z:lx P w H h)(D:H c=b0)(e:h.get? c=bi o):lx P w (dX H c<|m9 c o) h:=λb u q=>by
 by_cases U:b=c
 .subst U;rw[cv]at q;cases q;exact zp e
 rw[bX U]at q;refine(Z b u q).stay (λ_ _ _ z=>z) (λx z=>?_) λx L z=>?_
 .rw[bX (by rintro rfl;rw[D]at z;cases z)];exact z
 rw[bX (by rintro rfl;rw[D]at z;cases z)];exact z
theorem nY{l:fy α}{x d:α}(e:(l.set j x)[i]?=bi d):(i=j/\d=x/\j<l.length)\/(i≠j/\l[i]?=bi d):=by
 by_cases q:j=i
 .subst q;have U:j<l.length:=by have:=(am.mp e).1;simpa using this
  rw[bt U]at e;exact .inl {rfl,(bf e).symm,U}
 .rw[cy q]at e;exact .inr {Zw q,e}
theorem fq.hide{k:ir}{c:nt}{x:W}{u:hJ i2}(S:fq K mg μ st H)(V:st[j]?=bi (.pin k c o x))(e:h.get? c=bi o)(O:o.data=.cell u):fq K mg μ (st.set j .gone) (L2.drp H c):=by
 obtain⟨a,hm,rfl,D,_⟩:=S.get V;have xt:dy K H (L2.drp H a):=dy.drp D;refine{λi i' b ci cj Z B I L m1 m2=>?_,by simp[S.len],λi d b Z B=>?_}
 .rcases nY Z with⟨rfl,rfl,_⟩|⟨_,Z⟩
  .cases I
  rcases nY B with⟨rfl,rfl,_⟩|⟨_,B⟩
  .cases L
  exact S.nd i i' b ci cj Z B I L m1 m2
 rcases nY Z with⟨rfl,rfl,_⟩|⟨hij,Z⟩
 .trivial
 have r:=S.at' i d b Z B
 by_cases hrd:d.isRo=cT
 .cases d with
  |ro Y=>
   obtain⟨J,p,q⟩:=r;refine{J,?_,q.mono (af _) xt};rcases p with⟨o2,p⟩|p
   .exact .inl {o2,xt.z _ _ _ p}
   exact .inr p
  |gone=>trivial
  |lst _=>cases hrd
  |exc _=>cases hrd
  |dct _=>cases hrd
  |rod _=>cases hrd
  |dcx _=>cases hrd
  |rox _=>cases hrd
  |obj _ _=>cases hrd
  |tab _ _ _=>cases hrd
  |pin _ _ _ _=>cases hrd
 have U:b≠a:=by rintro rfl;exact hij (S.nd i j b d _ Z V (by simpa using hrd) rfl B hm)
 refine r.keep (af _) xt (λo' R=>by rw[mV U];exact R) λb' q z=>?_;rw[mV (by rintro rfl;rw[D]at z;exact Gu e O _<|bf z)];exact z
theorem fq.take'{c:nt}{x:W}{v:V}(S:fq K mg μ st H)(U:st[j]?=bi .gone)(hm:μ[j]?=bi c)(D:H c=b0)(Y:bp K μ H x v)(k:∃u,o.data=.cell (bi u)/\cq v u):fq K mg μ (st.set j<|.pin cT c o x) (dX H c<|m9 c o):=by
 have O:qL H (dX H c<|m9 c o):=cw D _;refine{λi i' b ci cj Z B I r m1 m2=>?_,by simp[S.len],λi d b Z B=>?_}
 .rcases nY Z with⟨y1,y2,_⟩|⟨L,J⟩
  .rcases nY B with⟨z1,_,_⟩|⟨hi2,g2⟩
   .rw[y1,z1]
   rw[y1,hm]at m1;cases m1
   obtain⟨R,z⟩:=(S.at' i' cj c g2 m2).ro_ne r;rw[D]at z;cases z
  rcases nY B with⟨z1,_,_⟩|⟨_,g2⟩
  .rw[z1,hm]at m2;cases m2
   obtain⟨R,z⟩:=(S.at' i ci c J m1).ro_ne I;rw[D]at z;cases z
  exact S.nd i i' b ci cj J g2 I r m1 m2
 rcases nY Z with⟨rfl,rfl,_⟩|⟨_,Z⟩
 .rw[hm]at B;cases B
  exact{rfl,cv,(λz=>by cases z),v,Y.mono (af _)<|fY.same O,λ_=>k}
 exact(S.same O).at' i d b Z B
noncomputable abbrev kx:=f7×nt×Obj×W
def uF:fy f7->fy al->hJ (fy kx×fy al)
 |[],st=>bi ([],st)
 |j::js,st=>match st[j]? with
  |some (.pin cT c o x)=>(match uF js (st.set j .gone)with
   |some (l,bx)=>bi ((j,c,o,x)::l,bx)
   |none=>b0)
  |_=>b0
def pS:fy kx->Hp->Hp
 |[],H=>H
 |x::l,H=>pS l<|drp H x.2.1
theorem ni:∀{l:fy kx} {H:Hp} {b:nt},(∀x∈l,x.2.1≠b)->pS l H b=H b
 |[],_,_,_=>rfl
 |x::l,H,b,n=>by show pS l (drp H x.2.1) b=_;rw[ni λy W=>n y<|aJ _ W,mV<|Zw<|n x a9]
theorem zq{l:fy kx}(h:∃x∈l,x.2.1=b):pS l H b=b0:=by
 induction l generalizing H with
 |nil=>obtain⟨y,W,_⟩:=h;exact absurd W (by simp)
 |cons x l U=>
  unfold pS
  by_cases q:∃z∈l,z.2.1=b
  .exact U q
  rw[ni λz J L=>q ⟨z,J,L⟩];obtain⟨y,W,e⟩:=h;rcases aS.mp W with r|r
  .rw[<- e,r];exact sI
  exact absurd ⟨y,r,e⟩ q
def Bq(K:ti)(μ:fy nt)(H:Hp)(h:qk)(x:kx):Prop:=μ[x.1]?=bi x.2.1/\h.get? x.2.1=bi x.2.2.1/\∃u v,x.2.2.1.data=.cell (bi u)/\cq v u/\bp K μ H x.2.2.2 v
theorem Br:∀{js:fy f7} {st bx:fy al} {H:Hp} {l:fy kx},fq K mg μ st H->lx P w H h->uF js st=bi (l,bx) ->
  fq K mg μ bx (pS l H)/\lx P w (pS l H) h/\dy K H (pS l H)/\(∀x∈l,Bq K μ (pS l H) h x/\H x.2.1=bi (m9 x.2.1 x.2.2.1))/\(l.map λx=>x.2.1).Nodup
 |[],st,bx,H,l,S,hok,e=>by cases e;exact{S,hok,dy.refl,λ_ z=>absurd z (by simp),gG}
 |j::js,st,bx,H,l,S,hok,e=>by
  unfold uF at e
  split at e
  .rename_i c o x O
   split at e
   .rename_i I W Z
    cases e
    obtain⟨a,hm,rfl,D,_,v,Y,g⟩:=S.get O;obtain⟨u,r,L⟩:=g rfl;obtain⟨ge,_⟩:=hok _ _ D;have J:dy K H (L2.drp H a):=dy.drp D;obtain⟨B,V,k,r4,r5⟩:=Br (S.hide O ge r) (hok.drp D) Z;refine{B,V,J.trans k,λy hy=>?_,bI.mpr ⟨λz=>?_,r5⟩}
    .rcases aS.mp hy with rfl|hy
     .exact⟨{hm,ge,u,v,r,L,Y.mono (af _)<|J.trans k},D⟩
     obtain⟨d,R⟩:=r4 y hy;refine{d,?_}
     by_cases U:y.2.1=a
     .rw[U,sI]at R;cases R
     rw[mV U]at R;exact R
    obtain⟨y,hy,e2⟩:=aX.mp z;have:=(r4 y hy).2;rw[show y.2.1=a from e2,sI]at this;cases this
   cases e
  cases e
def Di:fy kx->fy al->hJ (fy al)
 |[],st=>bi st
 |(j,c,o,x)::l,st=>match st[j]? with
  |some .gone=>Di l (st.set j<|.pin cT c o x)
  |_=>b0
def u6:fy kx->Hp->Hp
 |[],H=>H
 |x::l,H=>u6 l<|dX H x.2.1<|m9 x.2.1 x.2.2.1
theorem jG:∀{l:fy kx} {H:Hp} {b:nt},(∀x∈l,x.2.1≠b)->u6 l H b=H b
 |[],_,_,_=>rfl
 |x::l,H,b,n=>by show u6 l (dX H x.2.1 _) b=_;rw[jG λy W=>n y<|aJ _ W,bX<|Zw<|n x a9]
theorem Ew:∀{l:fy kx} {st bx:fy al} {H:Hp},fq K mg μ st H->lx P w H h->(∀x∈l,Bq K μ H h x/\H x.2.1=b0)->(l.map λx=>x.2.1).Nodup->Di l st=bi bx ->
  fq K mg μ bx (u6 l H)/\lx P w (u6 l H) h/\dy K H (u6 l H)
 |[],st,bx,H,S,hok,_,_,e=>by cases e;exact{S,hok,dy.refl}
 |(j,c,o,x)::l,st,bx,H,S,hok,ha,nd,e=>by
  unfold Di at e
  split at e
  .rename_i Z
   obtain⟨⟨m,g,u,v,d,R,Y⟩,L⟩:=ha _ a9;have O:qL H (dX H c<|m9 c o):=cw L _;have D:dy K H (dX H c<|m9 c o):=fY.same O;have ha':∀y∈l,Bq K μ (dX H c<|m9 c o) h y/\dX H c (m9 c o) y.2.1=b0:=λy W=>by obtain⟨⟨k,g',r,I,U,ru',rx'⟩,TC⟩:=ha y<|aJ _ W;refine⟨{k,g',r,I,U,ru',rx'.mono (af _) D},?_⟩;rw[bX λz=>(bI.mp nd).1<|aX.mpr ⟨y,W,z⟩];exact TC
   obtain⟨B,V,J⟩:=Ew (S.take' Z m L Y ⟨u,d,R⟩) (hok.put L g) ha' (bI.mp nd).2 e;exact{B,V,D.trans J}
  cases e
def fR:fy kx->fy al:=λl=>l.map λx=>.pin cT x.2.1 x.2.2.1 x.2.2.2
theorem Bs:∀{l:fy kx} {st:fy al} {μ:fy nt} {H:Hp},fq K mg μ st H->lx P w H h->(∀x∈l,H x.2.1=b0/\h.get? x.2.1=bi x.2.2.1/\∃u v,x.2.2.1.data=.cell (bi u)/\cq v u/\bp K μ H x.2.2.2 v)->(l.map λx=>x.2.1).Nodup ->
  fq K mg (μ++l.map λx=>x.2.1) (st++fR l) (u6 l H)/\lx P w (u6 l H) h/\dy K H (u6 l H)
 |[],st,μ,H,S,hok,_,_=>by simp[fR];exact{S,hok,dy.refl}
 |(j,c,o,x)::l,st,μ,H,S,hok,ha,nd=>by
  obtain⟨L,g,u,v,d,R,Y⟩:=ha _ a9;have O:qL H (dX H c<|m9 c o):=cw L _;have D:dy K H (dX H c<|m9 c o):=fY.same O;have S1:fq K mg (μ++[c]) (st++[.pin cT c o x]) (dX H c<|m9 c o):=S.push L {rfl,cv,(λz=>by cases z),v,Y.mono (ag _ _) D,λ_=>⟨u,d,R⟩};obtain⟨B,Z,J⟩:=Bs S1 (hok.put L g) (λy W=>by obtain⟨TC,k,r,I,U,ru',V⟩:=ha y<|aJ _ W;refine{?_,k,r,I,U,ru',V.mono (ag _ _) D};rw[bX λz=>(bI.mp nd).1<|aX.mpr ⟨y,W,z⟩];exact TC) (bI.mp nd).2
  rw[aG,aG]at B;exact{B,Z,D.trans J}
end
section
theorem Gv{P c:nt}{q:Str}{pr:ZG}{d:f7}{ps:Array i2}(uQ:X.env.code=.ref c)(WO:ZT X.K c P=cT)(hB:zi X.base X.mg)
  (pH:aab sc X.env=pure cl) (I:bn X ah σ H s) (hP:H P=bi (.tbl ps)) (B:aaw ps.toList) (X6:aae pos ps.toList=b0\/∃V,aae pos ps.toList=bi (.ref V)/\H V=bi (kR V q))
  (h:∀f V kH Y h' t H',((aae pos ps.toList=b0/\H V=b0/\H'=xB H P V q ps pos)\/H'=H)->H' f=b0->H' V=bi (kR V q) ->
   bn X ah σ (dX H' f<|m9 f<|ZZ name q pr body sc cl kH ((X.mg "__name__").getD .none) V Y) { s with heap:=h',toks:=t }->Q (.ref f) { s with heap:=h',toks:=t }) :
  nz #[2] X.A (makeFunction name q pr (.stmts body) sc X.env [] [] [] pos d) Q E s:=by
 have hPo:=I.hok P _ hP;have hgs:=I.mod.glob.keeps I.bk;have hgP:wh≠P:=λz=>by obtain⟨o,W,Z,e,k,_⟩:=hgs;rw[z,hPo]at e;cases e;cases k
 obtain⟨bm,R,D,b2,b4,b5,b6,b7⟩:=hB;have b4':=I.bk _ _ b4;have hbP:bm≠P:=λz=>by rw[z,hPo]at b4';cases b4';cases b5
 have b3:bm≠wh:=λz=>by obtain⟨o,W,Z,e,k,_⟩:=hgs;rw[z,e]at b4';cases b4';rw[b7]at k;cases k
 have U:s.heap.BuiltinsAt X.mg P:=⟨bm,R,D,b2,b3,hbP,b4',b5,b6,b7⟩
 have CH:=PySem.W.codeHd_of_K I.kIn WO;rcases X6 with L|⟨V,hhit,hH⟩
 .refine PySem.W.makeFunction_K pH I.ok.glob hgs uQ CH hPo B L hgP U λV Y kH h' r J TQ w To W9=>?_;have hcdn:=I.hok.fresh TQ;have hPc:P≠V:=λz=>by rw[z,hcdn]at hP;cases hP
  have I1:=I.tabbed (t':=r) hP TQ (J) To W9;have I2:=bn.laid (t':=r) (o:=m9 h'.objs.size<|ZZ name q pr body sc cl kH ((X.mg "__name__").getD .none) V Y) I1 (λb u e=>ar _ e) (av _)<|zp<|ay _ rfl;exact h _ V kH Y _ r _ (.inl ⟨L,hcdn,rfl⟩) (I1.hok.fresh<|av _) (zl hPc) I2
 refine PySem.W.makeFunction_hit pH I.ok.glob hgs uQ CH hPo B hhit U λY kH h' r O hsz=>?_;have I1:=I.kept (t':=r) O;have I2:=bn.laid (t':=r) (o:=m9 h'.objs.size<|ZZ name q pr body sc cl kH ((X.mg "__name__").getD .none) V Y) I1 (λb u e=>ar _ e) (av _)<|zp<|ay _ rfl;exact h _ V kH Y _ r _ (.inr rfl) (I1.hok.fresh<|av _) hH I2
end
def Rc(name q:Str)(pr:ZG)(body:fy tf)(sc:ZB)(xs:fy Str)(o:Obj):Prop:=∃cl J z V Y,cl.map (·.1)=xs/\(cl.map (·.2)).Nodup/\o=ZZ name q pr body sc cl J z V Y
def XU(X:Cx)(name q:Str)(pr:ZG)(body:fy tf)(sc:ZB)(o:Obj):Prop:=∃J V Y,o=ZZ name q pr body sc (dq X.env sc.names []) J ((X.mg "__name__").getD .none) V Y
section
variable{q:Str}{pr:ZG}{cN:fy tf}{P c:nt}{xs:fy Str}{g:nt->Obj->FS}
def M5(X:Cx)(name q:Str)(pr:ZG)(body:fy tf)(sc:ZB)(xs:fy Str)(j:f7)(P:nt)(pos:Pos)(i:f7):TS:=λD σ H=>∃μ ρ st,Rl X μ ρ st σ H/\Bj st j P pos q /\
 ∀f o H',XU X name q pr body sc o->Rc name q pr body sc xs o->dy X.K H H'->fq X.K X.mg (μ++[f]) (st++[.pin eh f o .non]) H'->D.nx (σ.set i<|bi<|.ref f) H'
theorem M6(uQ:X.env.code=.ref c)(WO:ZT X.K c P=cT)(hB:zi X.base X.mg)(gX:X.env.cells=vr m X.env.scope.names [])(uw:∀x∈sc.names,x.2=.free->X.env.scope.names.lookup x.1=bi .cell)
  (PH:(dq X.env sc.names []).map (·.1)=xs) (ve:xs.Nodup) (R:qualnameIn X.env name name=q) (hN:X.N.Nodup) (L:X.N[i]?=bi name) (J:Fw X.env.scope name) (k:X.fn name=cT\/X.env.scope.names.lookup name=bi .local)
  (NY:pr.defaults=[]:=by rfl) (X_:pr.kw_defaults=[]:=by rfl) (r:annTrees pr b0 X.env=[]:=by rfl) :
  PS X (.FunctionDef name pr body [] b0 [] sc b0 name pos) (M5 X name q pr body sc xs j P pos i):=λW s O H D I h=>by
 obtain⟨U,Y,V,l,e4,h⟩:=h;obtain⟨aP,hP0,eP,ps,hP,B,X6⟩:=l.sto.get e4;subst eP;have has:∀x∈sc.names,x.2=.free->∃c,X.env.cells.lookup x.1=bi c:=λx J k=>by rw[gX];exact iB<|uw x J k
 refine PySem.W.nestDef_K NY X_ r ?_;rw[R];refine Gv uQ WO hB (Oe has) I hP B X6 λf cd kH ct h' t H' hH Hl pI I2=>rY I2 hN L J (v:=.ref f) rfl (λZ I3=>?_) k;have ok:XU X name q pr body sc (ZZ name q pr body sc (dq X.env sc.names []) kH ((X.mg "__name__").getD .none) cd ct):=⟨kH,cd,ct,rfl⟩
 have nd2:((dq X.env sc.names []).map (·.2)).Nodup:=by
  have nd1:((dq X.env sc.names []).map (·.1)).Nodup:=by rw[PH];exact ve
  have gen:∀l:fy (Str×nt),(∀y∈l,X.env.cells.lookup y.1=bi y.2)->(l.map (·.1)).Nodup->(l.map (·.2)).Nodup:=by
   intro l
   induction l with
   |nil=>intro _ _;exact gG
   |cons y l ih=>
    intro a b;rw[aZ,bI]at b ⊢;refine{λz=>b.1 ?_,ih (λy w=>a y<|aJ _ w) b.2};obtain⟨y',hy',e⟩:=aX.mp z;have:=I.ok.inj _ _ _ (a y a9) (by rw[<- e];exact a y'<|aJ _ hy');rw[this];exact aX.mpr ⟨y',hy',rfl⟩
  exact gen _ (qu sc.names [] has<|by simp) nd1
 have hS':fq X.K X.mg U V H'/\dy X.K H H':=by
  rcases hH with⟨g1,g2,rfl⟩|rfl
  .exact l.sto.tabbed e4 hP g2 B g1
  exact{l.sto,dy.refl}
 obtain⟨S',X'⟩:=hS';have d:qL H' (dX H' f<|m9 f<|ZZ name q pr body sc (dq X.env sc.names []) kH ((X.mg "__name__").getD .none) cd ct):=cw Hl _;refine{_,_,I3,h f _ _ ok ⟨_,kH,_,cd,ct,PH,nd2,rfl⟩ (X'.trans<|fY.same d)<|S'.push Hl ⟨rfl,cv,λ_=>{_,cd,rfl,rfl,?_},.non,.non,λz=>by cases z⟩};rw[bX (by rintro rfl;rw[Hl]at pI;cases pI)];exact pI
end
noncomputable abbrev Gw(q:Str)(sc:ZB)(L f:nt)(V:i2)(cl:fy (Str×nt)):Env:=PySem.W.envX q sc L f V cl
def ud(CX:Ha)(P:Zy)(w:qd)(K:ti)(mg:Str->hJ i2)(base:qk)(N:fy Str)(cU:Str)(scope:ZB)(f:nt)(V:i2)(cl:fy (Str×nt))(A:xh)(outer:fy Env)(s:n4)(H:Hp)(E:XK):Cx where
 prog:=P
 w:=w
 K:=K
 mg:=mg
 base:=base
 A:=A.deeper (Gw cU scope s.heap.objs.size f V cl)
 N:=N
 s₀:=s
 H₀:=H
 env:=Gw cU scope s.heap.objs.size f V cl
 outer:=outer
 stack:=Gw cU scope s.heap.objs.size f V cl::outer
 ex:=[]
 calm:=cT
 fn:=λ_=>eh
 pn:=[]
 xe:=λe D=>nz (model P w) (A.deeper<|Gw cU scope s.heap.objs.size f V cl) (leaving (Gw cU scope s.heap.objs.size f V cl) e) (λ_ O=>CX outer H s E e O) (λL O=>CX outer H s E L O) D
theorem ue:∀{l:fy (Str×α)} {x:Str} {a:α},(l.map (·.1)).Nodup->(x,a)∈l->l.lookup x=bi a
 |[],_,_,_,h=>absurd h (by simp)
 |(y,b)::l,x,a,nd,h=>by
  rw[aZ,bI]at nd;rcases aS.mp h with e|h2
  .cases e;simp
  have:(x==y)=eh:=by rw[bj];intro z;exact nd.1<|aX.mpr ⟨_,h2,z⟩
  rw[iT,this];exact ue nd.2 h2
theorem rL{R:α->β->Prop}:∀{l:fy α} {m:fy β} {i:f7} {a:α},Paired R l m->l[i]?=bi a->∃b,m[i]?=bi b/\R a b
 |_,_,_,_,.nil,e=>by simp at e
 |_,_,0,_,.cons r _,e=>by simp at e;subst e;exact⟨_,rfl,r⟩
 |_,_,i+1,_,.cons _ t,e=>by simpa using rL t (by trivial)
theorem Ex:∀{l:fy (Str×nt)} {x y:Str} {c:nt},(l.map (·.2)).Nodup->(x,c)∈l->(y,c)∈l->x=y
 |[],_,_,_,_,h,_=>absurd h (by simp)
 |(z,b)::l,x,y,c,nd,h1,h2=>by
  rw[aZ,bI]at nd;rcases aS.mp h1 with e|h1
  .grind
  rcases aS.mp h2 with e2|h2
  .grind
  exact Ex nd.2 h1 h2
section
variable{w:qd}
noncomputable def jn(o:Obj):fy (Str×nt):=match o.data with
 |.func fd=>fd.closure
 |_=>[]
structure rM(P:Zy)(w:qd)(K:ti)(mg:Str->hJ i2)(base:qk)(k n m:f7)(ok:Obj->Prop)(F:fy W->fy al->R W):Prop where
 run:∀(A:xh) (outer:fy Env) (s:n4) (H:Hp) (f:nt) (o:Obj) (fd:ZS) (us Cf:fy i2) (vs vq:fy V) (Q:VK) (E:XK),iy k A->CJ P w K mg base A outer s H->s.heap.get? f=bi o->ok o->o.data=.func fd->s.heap.CodeRec fd.code fd.qualname ->
  ce vs us->ce vq Cf->us.length=n->Paired (λ(y:Str×nt) (u:i2)=>s.heap.IsCell y.2 (bi u)/\H y.2=b0) (jn o) Cf->mJ K mg (n+m) F (vs++vq) H Q E ->
  aaa (model P w) A (.call (.ref f) ⟨us,[]⟩) (CR (iY P w) outer P w H s Q E) s
theorem rM.mono{k:f7}{ok:Obj->Prop}(h:rM P w K mg base j n m ok F)(O:j<=k):rM P w K mg base k n m ok F:=
 ⟨λA r s H f o Y z Cf D Z Q E V=>h.run A r s H f o Y z Cf D Z Q E<|V.mono O⟩
end
noncomputable def nj(c:nt):al->ir
 |.pin cT a _ _=>a==c
 |_=>eh
open Classical in
def uG(ok:Obj->Prop)(F:fy W->fy al->R W)(m:f7)(ws:fy W)(st:fy al):R W:=match st[m]? with
 |some (.pin eh _ o _)=>if ok o then(match uF ((jn o).map λy=>(st.findIdx?<|nj y.2).getD 0) st with
   |some (l,st1)=>if (l.map λx=>x.2.1)=(jn o).map (·.2)then(match F (ws++l.map λx=>x.2.2.2) st1 with
     |.ok w r=>(match Di l r with
      |some L=>.ok w L
      |none=>.bad)
     |_=>.bad)else .bad
   |none=>.bad)else .bad
 |_=>.bad
def uf(i n:f7)(ok:Obj->Prop)(F:fy W->fy al->R W)(fs:FA):FE:=λρ st=>match ρ[i]? with
 |some (bi<|.loc m)=>(match st[m]? with
  |some (.pin eh _ _ _)=>(fs ρ st).bind λws st1=>if ws.length=n then uG ok F m ws st1 else .bad
  |_=>.bad)
 |_=>.bad
theorem nn{l:fy kx}(h:H b=b0):pS l H b=b0:=by
 by_cases q:∃x∈l,x.2.1=b
 .exact zq q
 rw[ni λx J e=>q ⟨x,J,e⟩];exact h
theorem Bt:∀{l:fy kx},(∀x∈l,Bq K μ H h x)->∃Z Cf,ce Z Cf/\RelWs K μ H (l.map λx=>x.2.2.2) Z/\Paired (λ(x:kx) (u:i2)=>h.IsCell x.2.1<|bi u) l Cf
 |[],_=>{[],[],.nil,.nilI,.nil}
 |x::l,ha=>by obtain⟨Z,Cf,a,b,c⟩:=Bt λy W=>ha y<|aJ _ W;obtain⟨_,g,u,v,d,L,Y⟩:=ha x a9;exact{v::Z,u::Cf,.cons L a,.consI Y b,.cons ⟨_,g,d⟩ c}
theorem yr{R:nt->α->Prop}:∀{l:fy kx} {cl:fy (Str×nt)} {m:fy α},(l.map λx=>x.2.1)=cl.map (·.2)->Paired (λ(x:kx) u=>R x.2.1 u) l m->Paired (λ(y:Str×nt) u=>R y.2 u) cl m
 |[],[],_,_,.nil=>.nil
 |[],_::_,_,e,_=>by simp at e
 |_::_,[],_,e,_=>by simp at e
 |x::l,y::cl,_,e,.cons r t=>by simp at e;exact .cons (by simp_all)<|yr e.2 t
theorem Bu{R T:α->β->Prop}:∀{l:fy α} {m:fy β},Paired R l m->(∀a∈l,∀b,T a b)->Paired (λa b=>R a b/\T a b) l m
 |_,_,.nil,_=>.nil
 |_,_,.cons r t,h=>.cons {r,h _ a9 _}<|Bu t λa J=>h a<|aJ _ J
section
variable{fs:FA}
theorem M7(i:f7){k k':f7}{ok:Obj->Prop}(Nk:rM X.prog X.w X.K X.mg X.base k n m ok F)(hm:∀o,ok o->(jn o).length=m)(V:iy k' X.A)(hk:k<=k')(ha:SA X (e::es) fs)
  (hN:X.N[i]?=bi x:=by rfl) (hv:N8 X.env.scope x:=by first|exact Or.inl rfl|exact Z3 (Or.inl rfl)|exact Z3<|Z3 rfl) (xR:(x==("__debug__":Str))=eh:=by decide)
  (pI:(x==("__classdict__":Str))=eh:=by decide) (he:qe (e::es) X.env=(eh,eval e X.env)::qe es X.env:=by rfl) (lR:(Zt pos<|qe es X.env).any (·.1)=eh:=by rfl) :
  SE X (.Call (.Name x p) (e::es) [] pos) (uf i n ok F fs):=⟨by
 intro W s O H Q I h;obtain⟨μ,Y,D,l,h⟩:=h;unfold uf at h
 split at h
 .rename_i mm w
  split at h
  .rename_i f0 o0 w0 e2
   obtain⟨v,hσ,rx⟩:=pL l.env w;obtain⟨f,hmu,rfl⟩:=rx.locE;obtain⟨a0,hmu0,ea,hH0,hf0,_⟩:=l.sto.get e2;rw[hmu]at hmu0;cases hmu0
   refine dO<|h_ ((pv i hN hv xR pI) W s O H (λv H1=>v=.ref f/\H1=H) I ⟨_,hσ,rfl,rfl⟩) λu s1 oy=>?_;obtain⟨v1,H1,I1,ru,rfl,rfl⟩:=oy;obtain rfl:u=Zv f:=ru;have fnAt:∀{H2:Hp} {B:qk} {o:Obj},lx X.prog X.w H2 B->H2 f=bi (m9 f o)->(∃fd cd,o.data=.func fd/\fd.code=.ref cd/\H2 cd=bi (kR cd fd.qualname))->PySem.W.FnAt f B:=λ{H2 B o} hok q r=>by
    obtain⟨g,_⟩:=hok _ _ q;obtain⟨fd,_,d,_⟩:=r;obtain⟨c1,c2,c3,c4⟩:=o
    cases d
    exact⟨c1,c2,fd,c4,g⟩
   have h':UI X fs O H1 λvs H2=>∃L st1 ws,Rl X L Y st1 O H2/\μ <+: L/\RelWs X.K L H2 ws vs/\RK X (si X) L O H2 Q (if ws.length=n then uG ok F mm ws st1 else .bad):=
    ⟨μ,Y,D,l,RK.bind h l λL st1 x v H1 p1 x1 l1 q1 Z=>⟨L,st1,x,l1,p1,q1,Z⟩⟩
   refine PySem.W.callWith_F (q:=f) (fnAt I1.hok hH0<|hf0 rfl) (h_ (ha.h pos W s1 O H1 _ I1 h') λus s2 zx=>?_) he lR;obtain⟨vs,H2,I2,r,L,st1,ws,l1,p1,r1,q⟩:=zx
   by_cases c:ws.length=n
   .rw[ax c]at q;unfold uG at q
    split at q
    .rename_i f1 o1 w1 e3
     obtain⟨a1,hmu1,ea1,hH1,hf1,_⟩:=l1.sto.get e3;rw[pre_get p1 hmu]at hmu1;cases hmu1
     have Hl:=hf1 rfl;refine{fnAt I2.hok hH1 Hl,?_};obtain⟨go,_⟩:=I2.hok _ _ hH1;obtain⟨fd,cd,hd,uQ,hHc⟩:=Hl;obtain⟨⟨oc,vsc,tc,hoc,hdc,hvc⟩,_⟩:=I2.hok _ _ hHc
     by_cases hok:ok o1
     .rw[ax hok]at q
      split at q
      .rename_i lv st2 e4
       by_cases had:(lv.map λx=>x.2.1)=(jn o1).map (·.2)
       .rw[ax had]at q
        split at q
        .rename_i wv gW e5
         split at q
         .rename_i Ai e6
          obtain⟨S1,hok1,x1,la,nd⟩:=Br l1.sto I2.hok e4;have inH:∀y∈lv,H2 y.2.1≠b0:=λy hy=>by rw[(la y hy).2];simp
          have out:∀{b:nt},H2 b=b0->∀y∈lv,y.2.1≠b:=λ{b} n y hy z=>inH y hy (by rw[z];exact n);have outT:∀{b:nt} {u:HO},H2 b=bi u->(∀φ,u≠.ext φ)->∀y∈lv,y.2.1≠b:=λ{b u} n ne y hy z=>by have:=(la y hy).2;rw[z,n]at this;cases this;exact ne _ rfl
          obtain⟨vq,Cf,rc,rwc,pc⟩:=Bt λy hy=>(la y hy).1;have e0:=I2.env0;have e0':CJ X.prog X.w X.K X.mg X.base X.A X.stack s2 (pS lv H2):={e0.frames,e0.mod,λb o q=>{(e0.bs b o q).1,nn (e0.bs b o q).2},e0.bsz,e0.funs,λb U=>nn<|e0.frf b U,hok1,e0.bare}
          have pH:Paired (λ(y:Str×nt) (u:i2)=>s2.heap.IsCell y.2 (bi u)/\pS lv H2 y.2=b0) (jn o1) Cf:=
           yr (R:=λa u=>s2.heap.IsCell a (bi u)/\pS lv H2 a=b0) had (Bu pc λy hy _=>zq ⟨y,hy,rfl⟩)
          have da:(ws++lv.map λx=>x.2.2.2).length=n+m:=by rw[aI,c,aj];have:=eJ ZH had;rw[aj,aj,hm o1 hok]at this;rw[this]
          have rall:RelWs X.K L (pS lv H2) (ws++lv.map λx=>x.2.2.2) (vs++vq):=(RelWs.pr.mpr<|Paired.imp' (λ_ _ z=>z.mono (af _) x1)<|RelWs.pr.mp r1).app rwc;refine oH (g7 ((Nk.mono hk).run X.A X.stack s2 (pS lv H2) f o1 fd us Cf vs vq (λv H'=>∃μ',L <+: μ'/\dy X.K (pS lv H2) H'/\fq X.K X.mg μ' gW H'/\bp X.K μ' H' wv v) (λ_ _ _=>False) V e0' go hok hd ⟨cd,oc,vsc,tc,uQ,hoc,hdc,hvc⟩ r rc (by rw[<- r.length,<- r1.len,c]) pH
           ⟨by rw[<- rall.len];exact da,L,_,st2,S1,rall,by rw[e5];exact λμ' v H' a b c d=>⟨μ',a,b,c,d⟩⟩) λrr s' hq=>?_)
          cases rr with
          |error ev=>obtain⟨_,_,_,_,_,_,z,_⟩:=hq;exact z.elim
          |ok fl=>
           cases fl with
           |next=>exact Zz hq
           |brk=>exact Zz hq
           |cont=>exact Zz hq
           |ret u=>
            obtain⟨v,H',os,bare,un,hok',rv,μ',pm,xm,Sm,rm⟩:=hq;have hla:∀y∈lv,Bq X.K μ' H' s'.heap y/\H' y.2.1=b0:=λy hy=>by obtain⟨⟨g1,g2,u1,v1,g3,g4,g5⟩,_⟩:=la y hy;have hn:pS lv H2 y.2.1=b0:=zq ⟨y,hy,rfl⟩;exact⟨{pre_get pm g1,un.keep _ _ g2 hn (λz=>inH y hy<|I2.stkFree _ z) (by simp),u1,v1,g3,g4,g5.mono pm xm},un.free _ _ g2 hn<|by simp⟩
            obtain⟨Sp,hokp,xp⟩:=Ew Sm hok' hla nd e6;have un':Un (rX X.stack) [] H2 (u6 lv H') s2.heap s'.heap:=by
             refine{λb o q n U J=>un.keep b o q (nn n) U J,λb o q n U J=>un.slot b o q (nn n) U J,λb o q n J=>?_,un.there,λb xs q=>?_,λb o u q=>?_,λb ps q=>?_}
             .rw[jG<|out n];exact un.free b o q (nn n) J
             .have ot:=outT q (λ_ z=>by cases z);rw[jG ot];exact un.tups b xs (by rw[ni ot];exact q)
             .have ot:=outT q (λ_ z=>by cases z);rw[jG ot];exact un.frzs b o u (by rw[ni ot];exact q)
             .have ot:=outT q (λ_ z=>by cases z);rw[jG ot];exact un.tbls b ps (by rw[ni ot];exact q)
            have I3:bn X W O (u6 lv H') s':=I2.call' os un' hokp bare λb U=>absurd U (by simp);exact{v,_,I3,rv,q μ' v _ pm (x1.trans<|xm.trans xp) Sp<|rm.mono (af _) xp}
         .exact q.elim
        .exact q.elim
       .rw[aF had]at q;exact q.elim
      .exact q.elim
     .rw[aF hok]at q;exact q.elim
    .exact q.elim
   .rw[aF c]at q;exact q.elim
  .exact h.elim
 .exact h.elim⟩
end
open Classical in
noncomputable def yt(ok:α->Prop)(f:α->R W):R W:=if h:∃r,∀a,ok a->f a=r then h.choose else .bad
theorem Jj{ok:α->Prop}{f:α->R W}{r:R W}(z:α)(V:ok z)(h:∀a,ok a->f a=r):yt ok f=r:=by
 have e:∃r,∀a,ok a->f a=r:=⟨r,h⟩
 unfold yt;rw[tK e,<- e.choose_spec z V,h z V]
def k_:fy (Str×nt)->fy Obj->fy W->fy kx
 |y::cl,o::os,w::ws=>(0,y.2,o,w)::k_ cl os ws
 |_,_,_=>[]
def wm:fy f7->bR->hJ (fy W)
 |[],_=>bi []
 |i::is,ρ=>match ρ[i]? with
  |some (bi w)=>(match wm is ρ with
   |some ws=>bi (w::ws)
   |none=>b0)
  |_=>b0
theorem Jk{ok:α->Prop}{f:α->R W}(a:α)(h:ok a):yt ok f=f a\/yt ok f=.bad:=by
 unfold yt
 by_cases e:∃r,∀a,ok a->f a=r
 .rw[tK e];exact .inl (e.choose_spec a h).symm
 .rw[dif_neg e];exact .inr rfl
section
theorem Jl(I:bn X ah σ H s)(l:Rl X μ ρ st σ H):∀{cl:fy (Str×nt)} {is:fy f7} {cws:fy W},(∀y∈cl,X.env.cells.lookup y.1=bi y.2/\X.env.scope.names.lookup y.1=bi .cell)->Paired (λ(i:f7) (y:Str×nt)=>X.N[i]?=bi y.1) is cl->wm is ρ=bi cws ->
  ∃os:fy Obj,os.length=cl.length/\((k_ cl os cws).map λx=>x.2.1)=cl.map (·.2)/\∀x∈k_ cl os cws,H x.2.1=b0/\s.heap.get? x.2.1=bi x.2.2.1/\∃u v,x.2.2.1.data=.cell (bi u)/\cq v u/\bp X.K μ H x.2.2.2 v
 |[],[],cws,_,.nil,e=>{[],rfl,rfl,λ_ h=>absurd h<|by simp[k_]}
 |y::cl,i::is,cws,ha,.cons hi t,e=>by
  unfold wm at e
  split at e
  .rename_i w R
   split at e
   .rename_i J e2
    cases e
    obtain⟨os,d,z,V⟩:=Jl I l (λy B=>ha y<|aJ _ B) t e2;obtain⟨v,hσ,Y⟩:=pL l.env R;obtain⟨D,O⟩:=ha y a9;obtain⟨mm,Yq,hlk⟩:=id I.loc;obtain⟨u,L,lk⟩:=hlk i y.1 v hi hσ<|.inr<|.inl O;obtain⟨o,Z,k⟩:s.heap.IsCell y.2 (bi u):=by
     rcases lk with⟨kl,_⟩|⟨_,r,hc1,U⟩
     .have:X.env.scope.names.lookup y.1=bi .local:=kl;rw[O]at this;cases this
     simp_all
    refine{o::os,by simp[d],by simp[k_,z],λx hx=>?_};rcases aS.mp hx with rfl|hx
    .exact{I.freeC _ _ D,Z,u,v,k,L,Y}
    exact V x hx
   cases e
  cases e
variable{fs:FA}
end
theorem uH:∀{ns:fy (Str×ZC)} {z:fy (Str×nt)} {y:Str×nt},y∈dq env ns z->y∈z\/∃x∈ns,x.1=y.1/\x.2=.free
 |[],z,y,h=>.inl h
 |(n,k)::r,z,y,h=>by
  unfold dq at h;rcases uH h with h|⟨x,J,e⟩
  .by_cases O:(k==ZL)=cT
   .rw[ax O]at h;rcases aS.mp h with rfl|h
    .exact .inr {(n,k),a9,rfl,qK O}
    .exact .inl h
   .rw[aF O]at h;exact .inl h
  .exact .inr {x,aJ _ J,e}
def M8{q:Str}{pr:ZG}{xs:fy Str}(h:xs.length=m)(o:Obj)(ok:Rc name q pr body sc xs o):(jn o).length=m:=by obtain⟨Z,k,z,V,Y,J,_,rfl⟩:=ok;rw[<- h,<- J,aj];rfl
noncomputable def XV(a b:fy (Str×ZC)):ir:=b.all λx=>!(x.2==.free)||a.lookup x.1==bi .cell
theorem Dj{a b:fy (Str×ZC)}(h:XV a b=cT):∀x∈b,x.2=.free->a.lookup x.1=bi .cell:=λx J e=>by have:=bC.mp h x J;rw[e]at this;simpa using this
abbrev Yz(name q:Str)(st:tf)(xs:fy Str):Obj->Prop:=Rc name q (fH st) (eS st) (aK st) xs
section
variable{q:Str}{st:tf}{cN:fy tf}{P c:nt}{xs:fy Str}{g:nt->Obj->FS}
variable{fs:FA}
end
section
variable{a:ow}
end
end L2
namespace L2
open PySem PySem.Spec PyProof.Rows PySem.W
section
end
end L2
namespace L2
open PySem PySem.Spec PyProof.Rows
section
end
noncomputable abbrev lO(n:f7):hJ W:=bi<|.loc n
noncomputable abbrev iO(z:hG):hJ W:=bi<|.int z
section
end
section
end
section
variable{q:Str}{pr:ZG}{N4 Li:Pos}{P:nt}{xs:fy Str}{G9:tf}
theorem M9{is:fy f7}{Q:VK}(I:bn X [] σ H s)(l:Rl X μ ρ st σ H)
  (Ys:PS X G9 (M5 X name q pr body sc xs j P pos i)) (Z:Bj st j P pos q) (D:wm is (ρ.set i<|bi<|.loc st.length)=bi cws)
  (gX:X.env.cells=vr m X.env.scope.names []) (uw:∀x∈sc.names,x.2=.free->X.env.scope.names.lookup x.1=bi .cell) (ve:((dq X.env sc.names []).map (·.1)).Nodup) (DP:Paired (λ(i:f7) (y:Str×nt)=>X.N[i]?=bi y.1) is (dq X.env sc.names []))
  (X9:∀y∈dq X.env sc.names [],X.env.scope.names.lookup y.1=bi .cell) (Hl:∀x,X.fn x=cT)
  (hN:X.N[i]?=bi name) (hv:N8 X.env.scope name) (xR:(name==("__debug__":Str))=eh) (pI:(name==("__classdict__":Str))=eh)
  (hQ:∀f o os H',Rc name q pr body sc xs o->os.length=(jn o).length->dy X.K H H'->fq X.K X.mg (μ++[f]++(k_ (jn o) os cws).map λx=>x.2.1) (st++[.pin eh f o .non]++fR (k_ (jn o) os cws)) H'->Q (.ref f) H') :
  nz #[2] X.A (execs [G9,.Return (bi<|.Name name Li) N4] X.env) (λfl Y=>∃f H',fl=.ret (.ref f)/\Y.os=X.s₀.os/\ZW Y.gens/\Un X.fs X.ex X.H₀ H' X.s₀.heap Y.heap/\lx X.prog X.w H' Y.heap/\Q (.ref f) H') X.xe s:=by
 refine iR<|h_ (Ys [] s σ H { nx:=λσ2 H2=>∃f o,σ2=σ.set i (bi<|.ref f)/\XU X name q pr body sc o/\Rc name q pr body sc xs o/\dy X.K H H2/\fq X.K X.mg (μ++[f]) (st++[.pin eh f o .non]) H2,rt:=λ_ _=>False } I {μ,ρ,st,l,Z,λf o H' on ok x S=>⟨f,o,rfl,on,ok,x,S⟩}) λfl k d=>?_
 cases fl with
 |ret u=>obtain⟨_,_,_,_,_,z⟩:=d;exact z.elim
 |brk=>obtain⟨_,_,_,z⟩:=d;exact z.elim
 |cont=>obtain⟨_,_,_,z⟩:=d;exact z.elim
 |next=>
  obtain⟨σ2,H2,I2,f,o,rfl,on,ok,x2,S2⟩:=d;have hil:i<σ.length:=by rw[I.len];exact(am.mp hN).1
  refine iR (wpAny_Return_some<|h_ ((pv i hN hv xR pI) [] k _ H2 (λv H1=>v=.ref f/\H1=H2) I2 {_,by rw[bt hil],rfl,rfl}) λu r oq=>?_);obtain⟨v1,H1,I3,ru,rfl,rfl⟩:=oq;obtain rfl:u=Zv f:=ru;have l2:Rl X (μ++[f]) (ρ.set i<|bi<|.loc st.length) (st++[.pin eh f o .non]) (σ.set i<|bi<|.ref f) H1:={pM (.locI (by rw[l.sto.len];simp)) i<|qw (ag _ _) x2 l.env,S2}
  have has:∀x∈sc.names,x.2=.free->∃c,X.env.cells.lookup x.1=bi c:=λx J O=>by rw[gX];exact iB<|uw x J O
  have hcl':∀y∈dq X.env sc.names [],X.env.cells.lookup y.1=bi y.2:=qu sc.names [] has (by simp);obtain⟨os,ol,oa,ol2⟩:=Jl I3 l2 (λy W=>{hcl' y W,X9 y W}) DP D;obtain⟨kH,cd,ct,rfl⟩:=on;have hclo:jn (ZZ name q pr body sc (dq X.env sc.names []) kH ((X.mg "__name__").getD .none) cd ct)=dq X.env sc.names []:=rfl;have ndc:((k_ (dq X.env sc.names []) os cws).map λx=>x.2.1).Nodup:=by
   rw[oa];have gen:∀l:fy (Str×nt),(∀y∈l,X.env.cells.lookup y.1=bi y.2)->(l.map (·.1)).Nodup->(l.map (·.2)).Nodup:=by
    intro l
    induction l with
    |nil=>intro _ _;exact gG
    |cons y l V=>
     intro a b;rw[aZ,bI]at b ⊢;refine{λz=>b.1 ?_,V (λy W=>a y<|aJ _ W) b.2};obtain⟨y',hy',e⟩:=aX.mp z;have:=I.ok.inj _ _ _ (a y a9) (by rw[<- e];exact a y'<|aJ _ hy');rw[this];exact aX.mpr ⟨y',hy',rfl⟩
   exact gen _ hcl' ve
  obtain⟨S4,hok4,x4⟩:=Bs l2.sto I3.hok ol2 ndc;have w:=hQ f _ os _ ok (by exact ol) (x2.trans x4) (by exact S4);generalize k_ (dq X.env sc.names []) os cws=L at *;have isCell:∀y∈L,∃z,X.env.cells.lookup z=bi y.2.1:=λy W=>by
   have:y.2.1∈(dq X.env sc.names []).map (·.2):=by rw[<- oa];exact aX.mpr ⟨y,W,rfl⟩
   obtain⟨z,R,e⟩:=aX.mp this;exact{z.1,by rw[<- e];exact hcl' z R}
  have big:∀y∈L,X.s₀.heap.objs.size<=y.2.1:=λy W=>by obtain⟨z,R⟩:=isCell y W;exact I3.ok.cab z _ (Hl z) R
  have inL:∀{b:nt} {u:HO},H1 b=bi u->∀y∈L,y.2.1≠b:=λ{b u} e y W z=>by have:=(ol2 y W).1;rw[z,e]at this;cases this
  have un:=I3.base;refine{f,u6 L H1,rfl,I3.os,I3.bare,{un.keep,un.slot,λb o' U B J=>?_,un.there,λb xs' U=>?_,λb o' u' U=>?_,λb ps U=>?_},hok4,w}
  .rw[jG λy W z=>?_]
   .exact un.free b o' U B J
   .have:=aD U;rw[<- z]at this;exact absurd (aQ this<|big y W)<|cV _
  .have t:=un.tups b xs' U;rw[jG<|inL t];exact t
  .have t:=un.frzs b o' u' U;rw[jG<|inL t];exact t
  .obtain⟨qT,t⟩:=un.tbls b ps U;exact{qT,by rw[jG<|inL t];exact t}
end
def W4(K:ti)(mg:Str->hJ i2)(n:f7)(vp:Obj->Prop)(F:fy W->fy al->R (fy W)):Sp:=λvs H Q E=>vs.length=n/\∃μ ws st,fq K mg μ st H/\RelWs K μ H ws vs/\(match F ws st with
 |.ok cws bx=>∀μ' f o os H0 H',μ <+: μ'->dy K H H0->fq K mg μ' bx H0->dy K H0 H'->vp o->os.length=(jn o).length->fq K mg (μ'++[f]++(k_ (jn o) os cws).map λx=>x.2.1) (bx++[.pin eh f o .non]++fR (k_ (jn o) os cws)) H'->Q (.ref f) H'
 |_=>False)
open Classical in
def Jm(N:f7)(g:FS)(is:fy f7)(i j:f7)(P:nt)(pos:Pos)(q:Str):fy W->fy al->R (fy W):=λws st=>match g (ws.map bi++rn (N-ws.length) b0) st with
 |.nx ρ bx=>if Bj bx j P pos q then(match wm is (ρ.set i<|bi<|.loc bx.length)with
  |some cws=>.ok cws bx
  |none=>.bad)else .bad
 |_=>.bad
theorem Re{w:qd}{st:tf}{f:nt}{N:fy Str}{k m:f7}{g:FS}{q:Str}{G9 s1:tf}{N4 Li:Pos}{Pt:nt}{xs:fy Str}{is:fy f7}
  (F:mf K x cU st f fd) (S:bO N ps (aK st)) (J:ps.length=n) (Zm:eS st=[s1,G9,.Return (bi<|.Name name Li) N4])
  (tj:∀(gp:i2) (A:xh) (outer:fy Env) (s:n4) (H:Hp) (E:XK),fd.code=gp->iy k (A.deeper<|Z0 cU (aK st) s.heap.objs.size f gp) ->
   SS (nR (iY P w) P w K mg base N cU (aK st) f gp A outer s H E) s1 g/\PS (nR (iY P w) P w K mg base N cU (aK st) f gp A outer s H E) G9 (M5 (nR (iY P w) P w K mg base N cU (aK st) f gp A outer s H E) name q (fH G9) (eS G9) (aK G9) xs j Pt pos i) /\
   (∃m,(nR (iY P w) P w K mg base N cU (aK st) f gp A outer s H E).env.cells=vr m (aK st).names [])/\((dq (nR (iY P w) P w K mg base N cU (aK st) f gp A outer s H E).env (aK G9).names []).map (·.1))=xs/\Paired (λ(i:f7) (y:Str×nt)=>N[i]?=bi y.1) is (dq (nR (iY P w) P w K mg base N cU (aK st) f gp A outer s H E).env (aK G9).names []))
  (uw:XV (aK st).names (aK G9).names=cT) (PH:TK xs=cT) (hN:N[i]?=bi name) (hv:N8 (aK st) name) (xR:(name==("__debug__":Str))=eh:=by decide) (Yf:(name==("__classdict__":Str))=eh:=by decide) :
  fj P w K mg base (iY P w) (k+1) f fd ps (W4 K mg n (Yz name q G9 xs)<|Jm N.length g is i j Pt pos q):=by
 obtain⟨oc,od,kV,kH,pm,an,gp,ct,N2,rfl,lk,pI⟩:=F.ex;refine{λZ H Q E h=>by rw[J];exact h.1,λA outer s H args us Z Q E V e0 U r Hk=>?_};have Y:Z.length=ps.length:=by rw[J];exact Hk.1
 have KX:=e0.mod.kin.keeps λb o e=>(e0.bs b o e).1;have fN:∀y∈ps.zip us,(aK st).names.lookup y.1=bi .local\/((aK st).names.lookup y.1=bi .cell/\((vr (s.heap.objs.size+1) (aK st).names []).lookup y.1).isSome=cT):=λzq hy=>by
  obtain⟨n,v⟩:=zq;rcases S.par n (hV hy).1 with q|q
  .exact .inl q
  exact .inr {q,PySem.W.cellsFrom_some _ _ _<|.inl q}
 refine j6 V.depth (KX _ _ lk) rfl S.co S.gen rfl (PySem.W.codeRec_of KX pI) (U _ _ _ _<|lX S.kind fN λenv B s1' x=>?_);subst B;refine{(e0.mod.nolimit.keeps λb o e=>(e0.bs b o e).1).keeps x.toInCall.keep,tF ?_};have I:bn (nR (iY P w) P w K mg base N cU (aK st) f gp A outer s H E) [] (jv N Z) H s1':=x6 S V.hd e0 Y r x;obtain⟨b1,b2,⟨m,b3⟩,b4,b5⟩:=tj gp A outer s H E rfl (V.deeper _);obtain⟨_,O,ws,G3,Sr,rws,h⟩:=Hk;unfold Jm at h
 cases e:g (ws.map bi++rn (N.length-ws.length) b0) G3 with
 |nx ρ1 st1=>
  rw[e]at h;simp only at h
  by_cases ht:Bj st1 j Pt pos q
  .rw[ax ht]at h
   cases ec:wm is (ρ1.set i<|bi<|.loc st1.length)with
   |none=>rw[ec]at h;exact h.elim
   |some cws=>
    rw[ec]at h;have l0:Rl (nR (iY P w) P w K mg base N cU (aK st) f gp A outer s H E) O (ws.map bi++rn (N.length-ws.length) b0) G3 (jv N Z) H:=by
     refine{?_,Sr};unfold jv;rw[<- rws.len];have base:∀ws Z m,RelWs K O H ws Z->Paired (λo s=>∀w,o=bi w->∃v,s=bi v/\bp K O H w v) (ws.map bi++rn m b0) (Z.map bi++rn m b0):=by
      intro ws
      induction ws with
      |nil=>
       intro Z m r;rw[r.nilE]
       induction m with
       |zero=>exact .nil
       |succ m ih=>exact .cons (λw z=>nomatch z) ih
      |cons w ws ih=>
       intro Z m r;obtain⟨y,W,rfl,ry,rys⟩:=r.consE;exact .cons (λw' z=>{y,rfl,by cases z;exact ry})<|ih W m rys
     exact base ws Z _ rws
    have key:nz (model P w) (nR (iY P w) P w K mg base N cU (aK st) f gp A outer s H E).A (execs [s1,G9,.Return (bi<|.Name name Li) N4] (nR (iY P w) P w K mg base N cU (aK st) f gp A outer s H E).env) (λfl D=>∃f' H',fl=.ret (.ref f')/\D.os=s.os/\ZW D.gens/\Un (rX outer) [] H H' s.heap D.heap/\lx P w H' D.heap/\Q (.ref f') H') (nR (iY P w) P w K mg base N cU (aK st) f gp A outer s H E).xe s1':=by
     refine iR (h_ (b1.h [] s1' (jv N Z) H { nx:=λσ1 H1=>∃L,O <+: L/\dy K H H1/\Rl (nR (iY P w) P w K mg base N cU (aK st) f gp A outer s H E) L ρ1 st1 σ1 H1,rt:=λ_ _=>False } I {O,_,G3,l0,by rw[e];exact λμ' σ' H' p x l=>⟨μ',p,x,l⟩}) λfl s2 d=>?_)
     cases fl with
     |ret u=>obtain⟨_,_,_,_,_,z⟩:=d;exact z.elim
     |brk=>obtain⟨_,_,_,z⟩:=d;exact z.elim
     |cont=>obtain⟨_,_,_,z⟩:=d;exact z.elim
     |next=>
      obtain⟨σ1,H1,I1,L,p1,x1,l1⟩:=d;exact M9 I1 l1 b2 ht ec b3 (Dj uw) (by rw[b4];exact zm PH) b5 (λy hy=>by
       rcases uH hy with z|⟨z,hz,R,e2⟩
       .exact absurd z (by simp)
       rw[<- R];exact Dj uw z hz e2) (λ_=>rfl) hN hv xR Yf λf' o os H' ok Y x S=>h L f' o os H1 H' p1 x1 l1.sto x ok Y S
    rw[<- Zm]at key;refine dz key (λfl D d=>?_) λe D d=>d;obtain⟨f',H',rfl,a1,a2,a3,a4,a5⟩:=d;exact{.ref f',H',a1,a2,a3,a4,rfl,a5}
  rw[aF ht]at h;exact h.elim
 |rt _ _=>rw[e]at h;exact h.elim
 |bk _ _=>rw[e]at h;exact h.elim
 |ct _ _=>rw[e]at h;exact h.elim
 |ex _ _ _=>rw[e]at h;exact h.elim
 |bad=>rw[e]at h;exact h.elim
structure Bv(P:Zy)(w:qd)(K:ti)(mg:Str->hJ i2)(base:qk)(k:f7)(x:Str)(n:f7)(vp:Obj->Prop)(G:fy W->fy al->R (fy W)):Prop where
 ex:∃(f:nt) (fd:ZS) (ps:fy Str),mg x=bi (.ref f)/\keepIn K (.ref f)=cT/\ps.length=n/\xX K fd ps []/\fj P w K mg base (iY P w) k f fd ps (W4 K mg n vp G)
theorem Bv.mono{w:qd}{k:f7}(h:Bv P w K mg base j x n vp G)(O:j<=k):Bv P w K mg base k x n vp G:=by obtain⟨f,Y,Z,a,b,c,d,e⟩:=h.ex;exact{f,Y,Z,a,b,c,d,e.mono O}
section
variable{cs:fy ow}{rV:Pos}{y:Str}{fs:FA}
def U_(X:Cx)(fs:FA)(m:f7)(vp:Obj->Prop)(G:fy W->fy al->R (fy W)):TE:=λσ H Q=>UI X fs σ H λvs H1=>∃L ws st1,fq X.K X.mg L st1 H1/\RelWs X.K L H1 ws vs/\ws.length=m/\(match G ws st1 with
 |.ok cws bx=>∀μ' f o os H0 H',L <+: μ'->dy X.K H1 H0->fq X.K X.mg μ' bx H0->dy X.K H0 H'->vp o->os.length=(jn o).length->fq X.K X.mg (μ'++[f]++(k_ (jn o) os cws).map λx=>x.2.1) (bx++[.pin eh f o .non]++fR (k_ (jn o) os cws)) H'->Q (.ref f) H'
 |_=>False)
theorem Rf{k k':f7}(Fn:Bv X.prog X.w X.K X.mg X.base k y m vp G)(V:iy k' X.A)(d:k<=k')(J:SA X (c::cs) fs)(hg:Gl X y)(xR:(y==("__debug__":Str))=eh)
  (B:qe (c::cs) X.env=(eh,eval c X.env)::qe cs X.env) (lR:(Zt rV<|qe cs X.env).any (·.1)=eh):PE X (.Call (.Name y p2) (c::cs) [] rV) (U_ X fs m vp G):=by
 intro W s O H Q I h;obtain⟨f,fd,ps,hm,hkp,R,U,Fo⟩:=(Fn.mono d).ex;refine dO<|qp I hg hm ?_ xR;refine PySem.W.callWith_K I.ok.mod.kin hkp (h_ (J.h rV W s O H _ I h) λus s1 zy=>?_) B lR;obtain⟨Z,H1,I1,r,L,ws,w,S1,r1,Y,q⟩:=zy;refine{I1.kIn,?_};have hl':(us++([])).length=ps.length:=by rw[dh,<- r.length,<- r1.len,Y,R]
 refine oH (g7 (Fo.run X.A X.stack s1 H1 {us,[]} us Z Q (λ_ _ _=>False) V I1.env0 (by have:=U s1 us I1.kIn hl';rwa[dh]at this) r {by rw[<- r1.len];exact Y,L,ws,w,S1,r1,q}) λr D hq=>?_)
 cases r with
 |error e=>obtain⟨_,_,_,_,_,_,z,_⟩:=hq;exact z.elim
 |ok fl=>
  cases fl with
  |ret u=>exact I1.after hq
  |next=>exact Zz hq
  |brk=>exact Zz hq
  |cont=>exact Zz hq
def Ey(F:fy W->fy al->R W)(fa:FE)(m:f7)(vp:Obj->Prop)(G:fy W->fy al->R (fy W))(fs:FA)(fb:FE):FE:=λρ st=>(fa ρ st).bind λk st1=>(fs ρ st1).bind λLH r=>if LH.length=m then(match G LH r with
  |.ok cws L=>yt (λp:nt×Obj×fy Obj=>vp p.2.1/\p.2.2.length=(jn p.2.1).length) (λp=>match fb ρ (L++[.pin eh p.1 p.2.1 .non]++fR (k_ (jn p.2.1) p.2.2 cws))with
   |.ok z Ai=>(match F [k,.loc L.length,z] Ai with
    |.ok w Cw=>.ok w (kU L Cw [w])
    |_=>.bad)
   |_=>.bad)
  |_=>.bad)else .bad
variable{ea eb:ow}
theorem Rg{k k2 k':f7}(Fn:d8 X.prog X.w X.K X.mg X.base k x 3 F)(Fc:Bv X.prog X.w X.K X.mg X.base k2 y m vp G)(V:iy k' X.A)(hk:k<=k')(AB:k2<=k')(J:SE X ea fa)(d:SA X (c::cs) fs)(U:SE X eb fb)
  (hg:Gl X x:=by rfl) (WK:Gl X y:=by rfl) (xR:(x==("__debug__":Str))=eh:=by decide) (Yj:(y==("__debug__":Str))=eh:=by decide)
  (PP:qe (c::cs) X.env=(eh,eval c X.env)::qe cs X.env:=by rfl) (Yc:(Zt rV<|qe cs X.env).any (·.1)=eh:=by rfl)
  (he:qe [ea,.Call (.Name y p2) (c::cs) [] rV,eb] X.env=(eh,eval ea X.env)::qe [.Call (.Name y p2) (c::cs) [] rV,eb] X.env:=by rfl) (lR:(Zt pos<|qe [.Call (.Name y p2) (c::cs) [] rV,eb] X.env).any (·.1)=eh:=by rfl)
  (Zc:qe [.Call (.Name y p2) (c::cs) [] rV,eb] X.env=(eh,eval (.Call (.Name y p2) (c::cs) [] rV) X.env)::qe [eb] X.env:=by rfl) (Zi:qe [eb] X.env=(eh,eval eb X.env)::qe [] X.env:=by rfl) :
  SE X (.Call (.Name x p) [ea,.Call (.Name y p2) (c::cs) [] rV,eb] [] pos) (Ey F fa m vp G fs fb):={by
 intro z s O H Q I h;obtain⟨f,fd,ps,hm,hkp,hn,hbi,Fo⟩:=(Fn.mono hk).ex;refine dO<|qp I hg hm ?_ xR;obtain⟨μ,Y,D,l,h⟩:=h;have h':D2 (tE X fa) (D2 (U_ X fs m vp G)<|D2 (tE X fb) Uf) O H λvs H1=>∃(gW Ai:fy al) (μ3 μ4:fy nt) (H0:Hp) (ws:fy W),fq X.K X.mg μ3 gW H0/\μ3 <+: μ4/\fq X.K X.mg μ4 Ai H1/\RelWs X.K μ4 H1 ws vs/\ws.length=3/\RK X (si X) μ3 O H1 Q (match F ws Ai with
   |.ok w Cw=>.ok w (kU gW Cw [w])
   |_=>.bad):=by
  refine{μ,Y,D,l,RK.bind h l λR st1 wa va H1 p1 x1 l1 q1 Z=>⟨R,Y,st1,l1,RK.bind Z l1 λμ2 st2 LH vcas H2 p2 x2 l2 q2 B=>?_⟩}
  by_cases cl:LH.length=m
  .rw[ax cl]at B;refine{μ2,LH,st2,l2.sto,q2,cl,?_}
   cases eG:G LH st2 with
   |ok cws gW=>
    rw[eG]at B;simp only at B ⊢;intro μ3 fA o os H0 H3 p3 x3 S0 x4 ok L S3;rcases Jk (ok:=λp:nt×Obj×fy Obj=>vp p.2.1/\p.2.2.length=(jn p.2.1).length) (fA,o,os) ⟨ok,L⟩with hp|hp
    .rw[hp]at B;have p30:μ3 <+: μ3++[fA]++(k_ (jn o) os cws).map λx=>x.2.1:=by rw[aG];exact ag _ _
     refine{_,Y,_,l2.to (p3.trans p30) (x3.trans x4) S3,?_}
     cases e4:fb Y (gW++[.pin eh fA o .non]++fR (k_ (jn o) os cws))with
     |ok wb Ai=>
      rw[e4]at B;intro μ4 vb H4 p4 x5 S4 rb;have pm:=p30.trans p4;refine{gW,Ai,μ3,μ4,H0,[wa,.loc gW.length,wb],S0,pm,S4,.consI (q1.mono (p2.trans<|p3.trans pm)<|x2.trans<|x3.trans<|x4.trans x5)<|.consI ?_<|.consI rb .nilI,rfl,B.mono p3<|x3.trans<|x4.trans x5};refine .locI ?_;rw[S0.len];refine pre_get p4 ?_;rw[aG,bA<|av _,oK];rfl
     |ex _ _=>rw[e4]at B;exact B.elim
     |bad=>rw[e4]at B;exact B.elim
    rw[hp]at B;exact B.elim
   |ex _ _=>rw[eG]at B;exact B.elim
   |bad=>rw[eG]at B;exact B.elim
  rw[aF cl]at B;exact B.elim
 refine PySem.W.callWith_K I.ok.mod.kin hkp (h_ ((k7 J.h (k7 (Rf Fc V AB d WK Yj PP Yc) (k7 U.h (vy) Zi) Zc) he) pos z s O H _ I h') λus s1 zz=>?_) he lR;obtain⟨vs,H1,I1,r,gW,Ai,μ3,μ4,H0,ws,S0,p34,S4,r4,hl3,q⟩:=zz;refine{I1.kIn,?_};refine Oo Fo hn V hbi I1 S4 r4 r hl3 ?_
 cases eF:F ws Ai with
 |ok w Cw=>
  rw[eF]at q;intro μ5 v H5 p5 x5 S5 r5;obtain⟨μ6,p6,S6,r6⟩:=lB S0 S5 (p34.trans p5)<|.consI r5 .nilI;obtain⟨_,e6,r7⟩:=r6.one
  cases e6
  exact q μ6 v H5 p6 x5 S6 r7
 |ex _ _=>rw[eF]at q;exact q.elim
 |bad=>rw[eF]at q;exact q.elim}
end
open AutoSeq1 (wpAny_loadPart')
def Gx(a b c:i2):checkTypeCall "zip" ⟨[a,b,c],[]⟩=pure ():=by kernel_rfl
def Jn(a b c:i2):checkBuiltinCall "zip.__new__" ⟨[.type "zip",a,b,c],[]⟩=pure ():=by kernel_rfl
theorem Gy(a b c d:i2):argsOk "object.__init__" ⟨[a,b,c,d],[]⟩:=by unfold argsOk;rw[signature?_of (n:=['_','_','t','i','n','i','_','_']) rfl F.owner_object];kernel_rfl
section
variable{w:qd}
variable{n c:nt}{k:f7}{xs ys zs:Array i2}{x y t:i2}
end
section
variable{w:qd}
end
noncomputable def lJ:fy W->fy W->fy W->fy W
 |x::xs,y::ys,z::zs=>.tup [x,y,z]::lJ xs ys zs
 |_,_,_=>[]
theorem ug:∀{xs L B:fy W} {i:f7} {w:W},(lJ xs L B)[i]?=bi w->∃x y z,xs[i]?=bi x/\L[i]?=bi y/\B[i]?=bi z/\w=.tup [x,y,z]
 |x::xs,y::L,z::B,0,w,h=>by simp[lJ]at h;exact{x,y,z,rfl,rfl,rfl,h.symm}
 |x::xs,y::L,z::B,i+1,w,h=>by simp[lJ]at h;simpa using ug h
 |[],_,_,i,w,h=>by simp[lJ]at h
 |_::_,[],_,i,w,h=>by simp[lJ]at h
 |_::_,_::_,[],i,w,h=>by simp[lJ]at h
theorem uh:∀(xs L B:fy W),(lJ xs L B).length=min xs.length (min L.length B.length)
 |x::xs,y::L,z::B=>by simp[lJ,uh xs L B]
 |[],_,_=>by simp[lJ]
 |_::_,[],_=>by simp[lJ]
 |_::_,_::_,[]=>by simp[lJ]
section
variable{a b:ow}{fs:FA}
def wn(fs:FA):FI:=λρ st=>(fs ρ st).bind λws st=>match ws with
 |[.loc n,.tup ys,.tup zs]=>(match lstOf st n with
  |some xs=>.ok (lJ xs ys zs,bi (n,xs)) st
  |none=>.bad)
 |_=>.bad
end
section
variable{w:qd}{d it:nt}{es:Array Zx}
theorem Jo(O:(d==ZM)=eh)(R:s.heap.get? d=bi o)(D:o.ExactDict)(k:o.data=.dict es ep)
  (U:Q (.ref s.heap.objs.size) { s with heap:=s.heap.push { cls:=.type "dict_keyiterator",data:=.fields #[.ref d,.int 0 0,.int es.size 0,.int ep 0] } }) :
  nz (model prog w) A (ZX<|.ref d) Q E s:=by
 have T:s.TypeIs (.ref d) "dict":={o,R,D.1}
 refine mO T F.slot_dict_iter<|bF F.slot_dict_iter T F.entry_dict_iter ?_<|F.args_dict_iter_1 _;refine aa<|aa<|py T<|aq ?_;show nz _ _ (Builtin.Dict.showsAll d >>= _) _ _ s;unfold Builtin.Dict.showsAll;rw[aF (by rw[O];exact dN)];refine aa<|aq<|aa<|wpAny_dictEntries R k<|aa<|wpAny_dictEpoch R k<|aa<|bQ<|aq {_,rfl,"dict_keyiterator",_,{_,ay _ rfl,rfl},kO.lookup,?_};simpa[w9]using U
theorem zr{Q:hJ i2->n4->Prop}(z:s.heap.IsKeyIter it d i es.size ep)(R:s.heap.get? d=bi o)(k:o.data=.dict es ep)
  (r:∀e,es[i]?=bi e->∀g,g.IsKeyIter it d (i+1) es.size ep->Z6 it s.heap g->Q (bi e.key) { s with heap:=g })
  (L:es[i]?=b0->A.handled=b0/\∀g,Heap.ExtBut it s.heap g->Q b0 { s with heap:=g }):nz (model prog w) A (ZD<|.ref it) Q E s:=by
 obtain⟨p,W,Z,O⟩:=id z;have T:=z.typeIs;refine aa<|jb<|bZ T kO<|bF kO T F.entry_dict_keyiterator_next ?_<|F.args_dict_keyiterator_next_1 _;refine aa<|aq<|aa<|aa<|aa<|gO T<|aq<|aa<|jR W O<|aa<|aq<|aa<|wpAny_dictEntries R k ?_;rw[aF<|by simp];refine aa<|aq<|aa<|wpAny_dictEpoch R k ?_;rw[aF<|by simp];refine aq ?_;simp only[show ¬ ((i:hG)<0)from by lia,nD,aO]
 cases e:es[i]? with
 |some x=>
  refine aa<|aa<|gO T<|aq<|aa<|pA T ?_;show nz _ _ (setField (.ref it) 1 (w9<|(i:hG)+1) >>= _) _ _ s;refine aa (lY W O (by simp) ?_);have V:(s.heap.update it (Obj.mapFields (·.setIfInBounds 1 (w9<|(i:hG)+1)))).IsKeyIter it d (i+1) es.size ep:=
   ⟨_,cZ _ W<|pj<|jr O _,(Obj.cls_mapFields ..).trans Z,by rw[jr O];simp[w9]⟩
  exact aa (cD<|aa<|pA V.typeIs<|aq<|aq {_,rfl,aq<|r x e _ V<|d6 ..})
 |none=>
  obtain⟨I,U⟩:=L e;refine aa<|aa<|gO T<|aq ?_;show nz _ _ (setField (.ref it) 0 .none >>= _) _ _ s;refine aa (lY W O (by simp)<|aa<|aa (m:=firstArgMember _ _)<|mM (a:=ZJ) (by rfl)<|bQ ?_<|by size_fits);refine aa<|re ?_;rw[show A.in1.handled=b0 from I];refine aa<|aq<|wpAny_throw ?_;exact aa<|eQ (T:="StopIteration") (b:=cT) {_,ay _ rfl,rfl} lZ<|aq<|U _<|((d6 ..).extBut.push _).push _
end
theorem bn.freezeX(I:bn X ah σ H s)(r:H a=bi (.ext φ))(R:s.heap.get? a=bi o):bn X ah σ (dX H a<|.frz o<|.ext φ) s:=by
 have k:∀b u,H b=bi u->(∀z,u≠.ext z)->dX H a (.frz o<|.ext φ) b=bi u:=λb u e n=>by rw[bX (λz=>by rw[z,r]at e;cases e;exact n _ rfl)];exact e
 have:bn X ah σ (dX H a<|.frz o<|.ext φ) { s with heap:=s.heap,toks:=s.toks }:=by
  refine I.un {λb o e n U J=>e,λb o e n U J=>{o.slots,e},λb o e n J=>?_,λb o e J=>⟨o,e⟩,λb D e=>k b _ e λ_ z=>(by cases z),λb o u e=>k b _ e λ_ z=>(by cases z),λb Z e=>⟨#[],by rw[k b _ e λ_ z=>(by cases z)];simp⟩} λb u e=>?_
  .rw[bX (λz=>by rw[z,r]at n;cases n)];exact n
  by_cases U:b=a
  .subst U;rw[cv]at e;cases e
   exact{R,I.hok b _ r}
  rw[bX U]at e;exact(I.hok b u e).stay (λ_ _ _ q=>q) (λc q=>k c _ q λ_ z=>(by cases z)) λc D q=>k c _ q λ_ z=>(by cases z)
 exact this
def Rh(a:nt)(o:Obj)(es:fy Zx):It where
 go:=λi H=>H a=bi (.frz o<|vg a es)/\∃e b,es[i]?=bi e/\e.key=.ref b
 yld:=λi H x H'=>H'=H/\∃e b,es[i]?=bi e/\e.key=.ref b/\x=.ref b
 stop:=λi H=>H a=bi (.frz o<|vg a es)/\es.length<=i
theorem zt{es:fy Zx}(I:bn X ah σ H s)(J:H a=bi (.frz o<|vg a es)):s.heap.get? a=bi o/\o.ExactDict/\o.data=.dict es.toArray (Bm o):=by
 obtain⟨e,d,_⟩:=(I.hok a _ J)
 obtain⟨W,w,L,x,y⟩:=d;rw[e]at L;cases L
 refine{e,x,?_};have:Bm o=w:=by unfold Bm;rw[y]
 rw[this];exact y
theorem Dk{w:qd}(a it:nt)(o:Obj)(es:fy Zx):CC P w K tg (Rh a o es) [it] it (λi h=>h.IsKeyIter it a i es.length<|Bm o) where
 mem:=by simp
 obj:=λi h V b U=>by
  have e:b=it:=by simpa using U
  subst e;obtain⟨o,e,c,d⟩:=V;exact{o,e,λv z=>by rw[d]at z;cases z}
 keep:=λi h h' V k=>V.at λo e=>k it (by simp) o e
 item:=by
  intro X hP hw hK D i W s O H E I hf V hg;obtain⟨r,e,b,Y,U⟩:=hg;obtain⟨Z,J,hd⟩:=zt I r;obtain⟨f0,f1,f2,f3,f4,f5⟩:=hf it (by simp);have st1:s.heap.IsKeyIter it a i es.toArray.size (Bm o):=by simpa using V
  refine zr st1 Z hd (λe' he' g bx sb=>?_) λB=>absurd B (by simp[Y]);have R:e'=e:=by simp_all
  subst R;have I1:bn X W O H { s with heap:=g }:=I.turned (sb.extBut) f0 f1 f3 f4 f5;have st2:g.IsKeyIter it a (i+1) es.length (Bm o):=by simpa using bx
  obtain⟨o2,e2,c2,d2⟩:=id st2;exact{e'.key,rfl,AG e2 c2 d2 (by decide) ⟨.ref b,H,I1,by rw[U];rfl,⟨rfl,_,b,Y,U,rfl⟩,st2,λb U=>(hf b U).1⟩}
 done:=by
  intro X hP hw hK D i W s O H E I hf V hg;obtain⟨r,L⟩:=hg;obtain⟨Z,J,hd⟩:=zt I r;obtain⟨f0,f1,f2,f3,f4,f5⟩:=hf it (by simp);have st1:s.heap.IsKeyIter it a i es.toArray.size (Bm o):=by simpa using V
  exact zr st1 Z hd (λe' he'=>absurd he'<|by simp[b8 L]) λ_=>{I.ok.hd D,λg eb=>⟨rfl,I.turned (eb) f0 f1 f3 f4 f5⟩}
 self:=λ_ _ _ _ _ V h=>wpAny_pyIter_keyiter V h
noncomputable def Dl(kvs:fy (KX×W)):ir:=kvs.all λp=>decide<|p.1.tag≠0
theorem M_{k:KX}{v:V}(B:k.tag≠0)(r:bp K μ H k.w v)(L:cq v u):∃b,v=.ref b/\u=.ref b:=by
 cases k with
 |bo _=>exact absurd rfl B
 |fl z=>obtain⟨p,D,rfl,_⟩:=r.tupE;exact⟨p,rfl,L⟩
 |pr i z=>obtain⟨p,D,rfl,_⟩:=r.tupE;exact⟨p,rfl,L⟩
theorem Paired.at1{r:α->β->Prop}:∀{as:fy α} {bs:fy β},Paired r as bs->∀{i:f7} {a:α},as[i]?=bi a->∃b,bs[i]?=bi b/\r a b
 |_,_,.nil,i,a,h=>by simp at h
 |_,_,.cons h t,0,a,e=>by simp at e;subst e;exact⟨_,rfl,h⟩
 |_,_,.cons h t,i+1,a,e=>by simpa using Paired.at1 t (by trivial)
noncomputable def uI(st:fy al):W->hJ (f7×fy (KX×W))
 |.loc n=>(match st[n]? with
  |some (.rox kvs)=>bi (n,kvs)
  |_=>b0)
 |_=>b0
def pe(neg:ir)(x y:W)(st:fy al):R W:=match uI st y with
 |some (_,kvs)=>(match u5 x with
  |some k=>if Gq kvs k=cT then .ok (.bl<|if neg then !(mw kvs k).isSome else(mw kvs k).isSome) st else .bad
  |none=>.bad)
 |none=>Dh neg x y st
def Ri(neg:ir)(x y:W)(st:fy al):qQ (pe neg x y st):=by
 unfold pe
 split
 .split
  .split<;>trivial
  trivial
 exact Jg neg x y st
section
theorem Jp(I:bn X ah σ H s)(S:fq X.K X.mg μ st H){x:W}{v:V}(h:uI st x=bi (n,kvs))(r:bp X.K μ H x v) :
  ∃a es,v=.ref a/\DX a es s.heap/\(a==ZM)=eh/\Paired (qN X.K μ H) kvs es/\(kvs.map λp=>p.1).Nodup:=by
 cases x with
 |loc m=>
  simp[uI]at h
  cases e:st[m]? with
  |none=>rw[e]at h;cases h
  |some c=>
   rw[e]at h
   cases c with
   |rox z=>
    cases h
    obtain⟨a,g,es,o,k,O,p,Y⟩:=S.get e;obtain⟨b,f,rfl⟩:=r.locE;rw[g]at f;cases f
    obtain⟨R,e2,w⟩:=zt I k;exact{a,es,rfl,⟨o,_,R,e2,w⟩,O,p,Y}
   |_=>cases h
 |_=>cases h
theorem Rj{Pr:Prop}{es:fy Zx}{k:KX}{v:V}(I:bn X ah σ H s)(d:DX a es s.heap)(p:Paired (qN X.K μ H) kvs es)(Y:(kvs.map λp=>p.1).Nodup)(h:Gq kvs k=cT)(r:bp X.K μ H k.w v)(R:cq v u)
  (z:∀(K:Type) [DecidableEq K] (G:HV X K) (q:K) (b:nt) (xs:fy (K×nt×i2)),k=G.em q->u=.ref b->G.knd.is s.heap q b->s.heap.DictOfH G.knd a xs->Vw G μ H kvs xs->Pr):Pr:=by
 unfold Gq at h;rw[cJ]at h;have go:∀K [DecidableEq K] (G:HV X K) q,k=G.em q->(∀p∈kvs,∃k,p.1=G.em k)->Pr:=λK _ G q O W=>by
  obtain⟨xs,e,Z,DP⟩:=zn G I p W;have L:(xs.map (·.1)).Nodup:=by have:=Y;rw[uc Z]at this;exact(jT.mp this).imp λh e=>h<|eJ _ e
  subst O;obtain⟨b,rfl,U⟩:=G.is I r R;exact z K G q b xs rfl rfl U (Jc (by simp_all) DP L) Z
 rcases Bp (X:=X) h.1 with⟨B,rfl,O⟩|⟨i,B,rfl,O⟩
 .exact go _ (U8 X) B rfl O
 exact go _ (U9 X) (i,B) rfl O
theorem nq(V:iy kk X.A):sj X (Zu .NotIn) (pe cT):={λW s O H x y v u Q I rv ru zq=>by
 obtain⟨r,B,wx,wy,S,Y,Z,q⟩:=zq
 cases e:uI B wy with
 |none=>
  have:pe cT wx wy B=Dh cT wx wy B:=by unfold pe;rw[e]
  rw[this]at q;exact(Jh V).h W s O H x y v u Q I rv ru ⟨r,B,wx,wy,S,Y,Z,q⟩
 |some nk=>
  obtain⟨n,L⟩:=nk;unfold pe at q;rw[e]at q
  cases ek:u5 wx with
  |none=>rw[ek]at q;exact q.elim
  |some k=>
   rw[ek]at q;simp only at q
   by_cases J:Gq L k=cT
   .rw[ax J]at q;obtain⟨a,es,rfl,d,w,p,nd⟩:=Jp I S e Z;obtain rfl:u=Zv a:=ru;have:=Dg ek;subst this;refine Rj I d p nd J Y rv λK inst G z b D R U DP xd vw=>?_;subst U;refine wpAny_notIn_heap (G.room (by have:=V.units;omega)) DP w xd ?_;rw[yq z vw,<- R];exact{.bl _,H,I.tok _,rfl,jD S q}
   rw[aF J]at q;exact q.elim,Ri cT}
end
open AutoSeq1 (wpAny_loadPart')
theorem ui:fillsNumberSlot (.type "tuple") "mul"=pure eh:=
 PySem.fillsNumberSlot_seq F.slot_tuple_mul.lookup rfl F.slot_tuple_rmul.lookup rfl
theorem zu:seqRepeat? (.type "tuple")=pure (bi<|.builtin "tuple.__mul__"):=by unfold seqRepeat?;rw[PySem.seqSlot_of (name:="__mul__") F.slot_tuple_mul.lookup rfl,PySem.seqSlot_of (name:="__rmul__") F.slot_tuple_rmul.lookup rfl];rfl
theorem Dm(a:hG)(t:Tok)(l:nt)(Y:Array i2)(n:f7)(z:hJ nt)(sl:Array (hJ i2)) :
  Meets (Builtin.«int.__rmul__» ⟨[.int a t,.ref l],[]⟩) (λ_ R s=>s.heap.get? l=bi { cls:=.type "tuple",dict:=z,data:=.seq Y n,slots:=sl }/\R (.ok<|.ret Value.notImplemented) s):=
 .of_wp λk w A R s h=>by obtain⟨W,g,d,r,O⟩:=s;obtain⟨U,h⟩:=h;wp_walk;exact⟨_,rfl,h⟩
theorem Gz(l:nt)(bP:Array i2)(n:f7)(dc:hJ nt)(sl:Array (hJ i2))(k:hG)(t:Tok)(V:bP.isEmpty=eh)(Z:2<=k)(hz:bP.size*k.toNat<=sizeLine) :
  Meets (Builtin.«tuple.__mul__» ⟨[.ref l,.int k t],[]⟩) (λ_ R s=>s.heap.get? l=bi { cls:=.type "tuple",dict:=dc,data:=.seq bP n,slots:=sl } /\
   R (.ok<|.ret<|.ref s.heap.objs.size) { s with heap:=s.heap.push { cls:=.type "tuple",data:=.seq ((rn k.toNat bP).foldl (·++·) #[]) } }):=
 .of_wp λprog w A R s h=>by
  obtain⟨W,g,d,r,J⟩:=s;obtain⟨U,h⟩:=h;have I:1<=bP.size:=by
   rcases Nat.eq_zero_or_pos bP.size with z|z
   .have:bP=#[]:=kj z;rw[this]at V;cases V
   .exact z
  have kz:(bP.size:hG)*k<=sizeLine:=by have:((bP.size*k.toNat:f7):hG)<=((sizeLine:f7):hG):=Int.ofNat_le.mpr hz;rw[hX,Int.toNat_of_nonneg #[0]]at this;exact this
  have kl:k<=sizeLine:=Int.le_trans (by have:=Int.mul_le_mul_of_nonneg_right (Int.ofNat_le.mpr I) (show(0:hG)<=k by lia);simpa using this) kz;have O:((sizeLine:f7):hG)<2^60-1:=by decide
  have B:¬ ((decide (k < -2^63)||decide (k≥2^63))=cT):=by simp;lia
  have c2:¬ ((bP.isEmpty||k==1)=cT):=by rw[V];simp;lia
  have c3:¬ ((decide (k<=0)||bP.isEmpty)=cT):=by rw[V];simp;lia
  have c4:¬ ((bP.size:hG)*k>(2^63-1)/8):=by
   lia
  have c5:¬ (Builtin.Tuple.tupleTooMany ((bP.size:hG)*k)=cT):=by unfold Builtin.Tuple.tupleTooMany;simp;lia
  have c6:¬ ((aay (λD Y=>D++Y) #[] (rn k.toNat bP)).size>sizeLine):=by
   have e:=qt bP.toList k.toNat []
   have L:(aay (λD Y=>D++Y) #[] (rn k.toNat bP))=(rn k.toNat bP.toList).flatten.toArray:=e;rw[L,bb,yU,d5,gZ]
   lia
  wp_walk using bJ U
  rw[aF B]
  wp_walk using bJ U
  rw[aF c2];rw[aF c3];rw[aF c4]
  wp_walk using bJ U
  exact⟨_,rfl,h⟩
section
def U'(K:ti):R2:=λx y H Q=>∃a k xs,x=.ref a/\y=.int k/\fY K H a xs/\xs≠[]/\2<=k/\xs.length*k.toNat<=sizeLine/\∀p,H p=b0->Q (.ref p) (dX H p<|.tup (rn k.toNat xs).flatten)
theorem Na:mR X (Zs .Mult) (U' X.K):=by
 intro W s O H x y v u Q I z w h;obtain⟨l,k,L,rfl,rfl,hH,V,Z,J,q⟩:=h
 cases z
 obtain⟨t,rfl⟩:=w;obtain⟨B,r,p,_⟩:=I.tuple hH;obtain⟨⟨c,dc,dt,sl⟩,e,D,n,R⟩:=id p;obtain rfl:c=.type "tuple":=D;obtain rfl:dt=.seq B.toArray n:=R;have hE:B.toArray.isEmpty=eh:=by
  cases B with
  |nil=>cases r;exact absurd rfl V
  |cons _ _=>rfl
 have U:B.toArray.size*k.toNat<=sizeLine:=by rw[bb,<- r.length];exact J
 refine mB (by decide) ⟨_,e,rfl⟩ (λY=>oE Y k t) ui F.fills_int_mul kK zu F.slot_int_index.lookup
  (gY kK (oE s k t) F.entry_int_rmul (F.args_int_rmul_2 _ _) (Dm k t l B.toArray n dc sl)
   ⟨e,rfl,⟨_,e,rfl⟩,gY F.slot_tuple_mul ⟨_,e,rfl⟩ F.entry_tuple_mul (F.args_tuple_mul_2 _ _) (Gz l B.toArray n dc sl k t hE Z U) ⟨e,?_⟩⟩)
 have hnew:aay (λd x2=>d++x2) #[] (rn k.toNat B.toArray)=(rn k.toNat B).flatten.toArray:=by
  have:=qt B k.toNat []
  exact this
 rw[hnew];exact{.ref _,_,I.laid (o:=.tup (rn k.toNat L).flatten) (λc o q=>ar _ q) (av _) {by rw[yU,gZ];exact J,_,r.rep k.toNat,⟨_,ay _ rfl,rfl,_,rfl⟩},rfl,q _ I.fresh}
def yu(x y:W)(st:fy al):R W:=match x,y with
 |.tup ws,.int k=>if ws≠[]/\2<=k/\ws.length*k.toNat<=j' then .ok (.tup (rn k.toNat ws).flatten) st else .bad
 |x,y=>uD x y st
theorem Rk:sj X (Zs .Mult) yu:={λW s O H x y v u Q I rv L zq=>by
 obtain⟨U,V,wx,wy,S,Y,d,q⟩:=zq;have other:yu wx wy V=uD wx wy V->nz #[2] X.A (Zs .Mult v u) (λr D=>∃x' H',bn X W O H' D/\cq x' r/\Q x' H') X.xe s:=λe=>by rw[e]at q;exact Dd.h W s O H x y v u Q I rv L ⟨U,V,wx,wy,S,Y,d,q⟩
 cases wx with
 |tup J=>
  cases wy with
  |int k=>
   have q':Hb X U H Q (if J≠[]/\2<=k/\J.length*k.toNat<=j' then .ok (.tup (rn k.toNat J).flatten) V else .bad):=q
   by_cases c:J≠[]/\2<=k/\J.length*k.toNat<=j'
   .rw[ax c]at q';obtain⟨R,vs1,rfl,Z,B⟩:=Y.tupE;refine Na W s O H _ _ v u Q I rv L {R,k,vs1,rfl,d.intE,Z,λz=>?_,c.2.1,by rw[<- B.len];exact iW c.2.2,λp w=>?_}
    .have:=B.len;rw[z]at this;exact c.1<|gN this
    have e:=cw w<|.tup (rn k.toNat vs1).flatten;exact q' U _ _ (af _) (fY.same e) (S.same e)<|.tupI (fY.of cv)<|(B.rep k.toNat).mono (af _)<|fY.same e
   rw[aF c]at q';exact q'.elim
  |_=>exact other rfl
 |_=>exact other rfl,λx y V=>by
 unfold yu
 split
 .split<;>trivial
 exact Dd (X:=X) |>.n _ _ _}
end
section
variable{q:Str}{st:tf}{P c:nt}{xs:fy Str}
theorem Jq(z:X.env.code=.ref c)(WO:ZT X.K c P=cT)(R:zi X.base X.mg)(W:X.env.cells=vr m X.env.scope.names [])(d:X.N.Nodup)
  (Wh:st=.FunctionDef name (fH st) (eS st) [] b0 [] (aK st) b0 name pos:=by rfl)
  (w:XV X.env.scope.names (aK st).names=cT:=by first|rfl|kernel_rfl) (PH:(dq X.env (aK st).names []).map (·.1)=xs:=by rfl) (k:TK xs=cT:=by first|rfl|kernel_rfl) (Z:qualnameIn X.env name name=q:=by rfl)
  (L:X.N[i]?=bi name:=by rfl) (J:Fw X.env.scope name:=by first|exact Or.inl rfl|exact Z3 rfl) (O:X.fn name=cT\/X.env.scope.names.lookup name=bi .local:=by exact .inl rfl)
  (NY:(fH st).defaults=[]:=by rfl) (X_:(fH st).kw_defaults=[]:=by rfl) (r:annTrees (fH st) b0 X.env=[]:=by rfl) :
  PS X st (M5 X name q (fH st) (eS st) (aK st) xs j P pos i):=by rw[Wh];exact(M6 (j:=j) (pos:=pos) (body:=eS st) z WO R W (Dj w) PH (zm k) Z d L J O NY X_ r)
end
section
variable{w:qd}{k:f7}{st:tf}{f:nt}
def Rm(F:mf K x x st f fd)(hm:mg x=bi (.ref f))(ok:fj P w K mg base (iY P w) k f fd ps (W4 K mg n vp G))(L:ps.length=n:=by rfl)
  (U:∀(kV J pm:i2) (z:hJ nt) (O Y:i2) (us:fy i2),us.length=ps.length->aag (fnOf x x (fH st) (eS st) (aK st) .none kV J pm z O Y) ⟨us,[]⟩=pure (ps.zip us):=by(intro _ _ _ _ _ _ _ q;first|(obtain⟨_,rfl⟩:=XQ q;rfl)|(obtain⟨_,_,rfl⟩:=TJ q;rfl)|(obtain⟨_,_,_,rfl⟩:=XR q;rfl)|(obtain⟨_,_,_,_,rfl⟩:=XT q;rfl))):Bv P w K mg base k x n vp G:={f,fd,ps,hm,F.kp,L,F.binds U,ok}
end
section
variable{nm:fy Str}{fi:Q_}{f:FG}
theorem Bw{x0:Str}{p0 p1:Pos}(N5:SG X (.Name x0 p0) (cF i))(hB:vJ X.env.scope.names scope.names nm cap X.N=cT)(gX:X.env.cells=vr m X.env.scope.names [])(L:Yx X tg iter fi)(z:∀cl C I H0 fp,SG (cu X nm scope cl C I H0 fp) tg f)(J:∀cl C I H0 fp,ML (cu X nm scope cl C I H0 fp) kw t)
  (B:∀cl C I H0 fp,SE (cu X nm scope cl C I H0 fp) mz el) (gz:X.calm=cT:=by rfl) (fN:scope.kind=.function:=by rfl) (d:∀x,Z9 iter X.env x=pure x:=by intro _;rfl)
  (NX:swapsWith #[3] (bi<|.Name x0 p0) p1.line X.env=pure cT:=by first|rfl|kernel_rfl) :
  SS X (.Assign [.Name x0 p0] #[3] p1) (lA (ua cap fi f t el)<|cF i):=
 ⟨(vL ⟨N5.h⟩ gz gX fN hB ⟨L.h⟩ (λcl C I H0 fp=>W2 rfl rfl (z cl C I H0 fp)) (λcl C I H0 fp=>W1 rfl rfl (J cl C I H0 fp)) (λcl C I H0 fp=>W0 rfl rfl (B cl C I H0 fp)) d NX).h.imp λD O H h=>by
  obtain⟨U,Y,V,l,h⟩:=h;have h':tE X (ua cap fi f t el) O H λx H1=>QV X (cF i) x O H1 D.nx:={U,Y,V,l,RK.stmt h l λr W x v H1 p1 x1 k w Z=>⟨r,Y,W,x,Y.set i<|bi x,k,w,rfl,λR l'=>Z r R H1 (af _) dy.refl l'⟩}
  exact MX h'⟩
end
theorem wp{f g:Str×i2->PUnit->Sem (ForInStep PUnit)}:∀{l:fy (Str×i2)},(∀x∈l,∀u,f x u=g x u)->∀u:PUnit,forIn l u f=forIn l u g
 |[],_,_=>rfl
 |x::l,h,u=>by
  rw[oY,oY,h x a9 u]
  congr 1
  funext r
  cases r with
  |done b=>rfl
  |yield b=>exact wp (λy W=>h y<|aJ _ W) b
theorem Dn{e L:Env}(Z:L.scope=e.scope)(B:L.locals=e.locals)(Y:L.globals=e.globals)(O:L.cells.lookup x=e.cells.lookup x):aas e x v=aas L x v:=by obtain⟨a,b,c,d,w,R,z,r,q5⟩:=e;obtain⟨a',b',W,U,k,V,J,I,D⟩:=L;simp only at Z B Y O;subst Z B Y;simp only[aas,Z2,localSet,Env.kindOf,Env.blockKind,O]
section
theorem GA{scope:ZB}{z:nt}{cl:fy (Str×nt)}{binds:fy (Str×i2)}{r:hJ nt}{d:i2}{w:nt}{Q:Env->n4->Prop}(O:scope.kind=.function)
  (k:∀x∈binds,scope.names.lookup x.1=bi .local\/(scope.names.lookup x.1=bi .cell/\((vr (s.heap.objs.size+1) scope.names []).lookup x.1).isSome=cT))
  (Z:∀x∈binds,cl.lookup x.1=b0)
  (U:∀Y,InCallC s s.heap.objs.size (bindL (λx=>scope.names.lookup x) binds λ_=>b0) (vr (s.heap.objs.size+1) scope.names []) (bindC (λx=>scope.names.lookup x) binds λ_=>b0) Y ->
   Q (newEnv scope s.heap.objs.size z (vr (s.heap.objs.size+1) scope.names []++cl) cU r d b0 w) Y) :
  nz M A (aaH scope z cl binds cU r d b0 w) Q E s:=by
 simp only[aaH,Option.isSome_none,Bool.false_eq_true,nD];refine aa (wpAny_alloc<|aa<|wpAny_layCells _ (λV kind W=>by cases R:kind==aao<;>simp) _ _ _ _ ?_);have ok:=cellsFrom_ok scope.names (s.heap.push { cls:=.type "frame",data:=.dict #[] }) (s.heap.objs.size+1) [] {λ_ _ hm=>(nomatch hm),aaz} (by simp);rw[cA]at ok;rw[show({ s with heap:=s.heap.push { cls:=.type "frame",data:=.dict #[] } }:n4).heap.objs.size=s.heap.objs.size+1 from cA ..,i8 _ _ cl];refine aa ?_;rw[wp (g:=λx _=>(do aas (newEnv scope s.heap.objs.size z (vr (s.heap.objs.size+1) scope.names []) cU r d b0 w) x.1 x.2;pure (.yield ⟨⟩)))<|λx J u=>?_]
 .exact wpAny_bindParams (s₀:=s) (env:=newEnv scope s.heap.objs.size z (vr (s.heap.objs.size+1) scope.names []) cU r d b0 w)
   _ (λ_ _ _=>rfl) O binds (λ_=>b0) (λ_=>b0) _ _
   ⟨⟨⟨_,_,rfl⟩,(Heap.Ns.new s.heap<|.type "frame").keeps<|kL _ _,λb o e=>kL _ _ b o<|ar _ e,av _⟩,
    λn c D=>(ok.empty n c<|PySem.mem_of_lookup D).1,ok.apart,λn c hm=>(ok.empty n c hm).2⟩
   k λY x=>aq<|U Y x
 obtain⟨y,v⟩:=x
 congr 1
 refine Dn rfl rfl rfl ?_;show(vr (s.heap.objs.size+1) scope.names []).lookup y=(vr (s.heap.objs.size+1) scope.names []++cl).lookup y;rw[dP,Z _ J]
 cases(vr (s.heap.objs.size+1) scope.names []).lookup y<;>rfl
end
structure zv(N ps xs:fy Str)(sc:ZB):Prop where
 kind:sc.kind=.function
 co:sc.isCoroutine=eh
 gen:sc.isGenerator=eh
 nd:N.Nodup
 pre:N.take ps.length=ps
 mid:(N.drop ps.length).take xs.length=xs
 par:∀x∈ps,sc.names.lookup x=bi .local\/sc.names.lookup x=bi .cell
 sep:∀y∈sc.names,y.2=.cell->y.1∉xs
 apx:∀x∈ps,x∉xs
 fre:∀y∈sc.names,y.2=.free->y.1∈xs
 xfr:∀x∈xs,sc.names.lookup x=bi .free
section
variable{w:qd}
theorem GB{CX:Ha}{N xs:fy Str}{f:nt}{cd:i2}{s1:n4}{E:XK}{Cf:fy i2}{vq:fy V}
  (S:zv N ps xs scope) (d:A.handled=b0) (e0:CJ P w K mg base A outer s H) (U:vs.length=ps.length) (r:ce vs us) (rc:ce vq Cf) (J:cl.map (·.1)=xs) (R:(cl.map (·.2)).Nodup)
  (D:Paired (λ(y:Str×nt) (u:i2)=>s.heap.IsCell y.2 (bi u)/\H y.2=b0) cl Cf)
  (x:InCallC s s.heap.objs.size (bindL (λx=>scope.names.lookup x) (ps.zip us) λ_=>b0) (vr (s.heap.objs.size+1) scope.names []) (bindC (λx=>scope.names.lookup x) (ps.zip us) λ_=>b0) s1) :
  bn (ud CX P w K mg base N cU scope f cd (vr (s.heap.objs.size+1) scope.names []++cl) A outer s H E) [] (jv N<|vs++vq) H s1:=by
 have lR:ps.length<=N.length:=by have:=eJ ZH S.pre;rw[bh]at this;lia
 have hxl:xs.length<=N.length-ps.length:=by have:=eJ ZH S.mid;rw[bh,dv]at this;lia
 have pH:vq.length=xs.length:=by rw[rc.length,<- D.length,<- J,aj]
 have ndx:xs.Nodup:=by rw[<- S.mid];exact(S.nd.sublist<|List.drop_sublist _ _).sublist (iu _ _)
 have ndP:ps.Nodup:=by rw[<- S.pre];exact S.nd.sublist<|iu _ _
 obtain⟨h₁,tk,rfl,O⟩:=x.done;have ownx:∀y c,(vr (s.heap.objs.size+1) scope.names []).lookup y=bi c->y∉xs/\s.heap.objs.size<c:=λy c e=>by
  have hm:=PySem.mem_of_lookup e;refine{?_,x.above y c hm};rcases kq _ _ _ hm with q|q
  .exact S.sep _ q rfl
  .cases q
 have both:∀y c,(vr (s.heap.objs.size+1) scope.names []++cl).lookup y=bi c->(vr (s.heap.objs.size+1) scope.names []).lookup y=bi c\/cl.lookup y=bi c:=λy c e=>by
  rw[dP]at e
  cases h:(vr (s.heap.objs.size+1) scope.names []).lookup y with
  |none=>rw[h]at e;exact .inr e
  |some b=>rw[h]at e;exact .inl e
 have first:∀y c,(vr (s.heap.objs.size+1) scope.names []).lookup y=bi c->(vr (s.heap.objs.size+1) scope.names []++cl).lookup y=bi c:=λy c e=>by rw[dP,e];rfl
 have second:∀y c,y∈xs->cl.lookup y=bi c->(vr (s.heap.objs.size+1) scope.names []++cl).lookup y=bi c:=λy c hy e=>by
  rw[dP]
  cases h:(vr (s.heap.objs.size+1) scope.names []).lookup y with
  |none=>exact e
  |some b=>exact absurd hy (ownx y b h).1
 have look:∀y∈xs,∃c,cl.lookup y=bi c:=λy hx'=>by rw[<- J]at hx';obtain⟨z,Y,rfl⟩:=aX.mp hx';exact{z.2,ue (by rw[J];exact ndx) Y}
 have Z2:∀y c,cl.lookup y=bi c->∃u,s.heap.IsCell c (bi u)/\H c=b0:=λy c e=>by have hm:=PySem.mem_of_lookup e;obtain⟨i,L⟩:=fg hm;obtain⟨u,_,q⟩:=rL D L;exact⟨u,q⟩
 have low:∀y c,cl.lookup y=bi c->c<s.heap.objs.size:=λy c e=>by obtain⟨u,q,_⟩:=Z2 y c e;exact q.lt
 have noA:∀b:nt,b∉(ud CX P w K mg base N cU scope f cd (vr (s.heap.objs.size+1) scope.names []++cl) A outer s H E).ex:=λb z=>absurd (show b∈([]:fy nt)from z) (by simp);refine⟨{e0.mod,S.kind,rfl,rfl,av _,λy z c Z B=>?_,λy hy=>?_,λy c z _=>?_,λ_=>d,Around.frames_deeper e0.frames,.inr ⟨rfl,rfl⟩,λb z=>absurd z<|noA b,e0.bs,e0.bsz,λb _ _=>noA b,λb z=>absurd z<|noA b,e0.funs,e0.frf},
  rfl,e0.bare,Un.kept O,⟨_,x.toInCall.ns,λi y v Z B h3=>?_⟩,λy c h=>?_,e0.hok.fresh<|av _,λy c h=>?_,λp W=>absurd (show p∈([]:fy (nt×Obj))from W) (by simp),e0.hok.kept O,?_⟩
 .rcases both y c Z with q1|q1<;>rcases both z c B with q2|q2
  .exact tD x.apart (PySem.mem_of_lookup q1) (PySem.mem_of_lookup q2)
  .exact absurd (low z c q2) (g8.mpr<|dL (ownx y c q1).2)
  .exact absurd (low y c q1) (g8.mpr<|dL (ownx z c q2).2)
  .exact Ex R (PySem.mem_of_lookup q1) (PySem.mem_of_lookup q2)
 .rcases hy with hy|hy
  .obtain⟨c,e⟩:=iB (n:=s.heap.objs.size+1) hy;exact{c,first y c e}
  .have hin:=S.fre _ (PySem.mem_of_lookup hy) rfl;obtain⟨c,e⟩:=look y hin;exact{c,second y c hin e}
 .cases z
 .have L:i<(vs++vq).length:=by
   unfold jv at B
   by_cases L:i<(vs++vq).length
   .exact L
   .rw[bA<|by simpa using L]at B;rw[dQ]at B
    split at B<;>cases B
  have I:(vs++vq)[i]?=bi v:=by
   unfold jv at B;rw[bu (by simpa using L),ai]at B
   cases e:(vs++vq)[i]? with
   |none=>rw[e]at B;cases B
   |some a=>rw[e]at B;cases B;rfl
  obtain⟨u,hu,rv⟩:=(r.append rc).get I;refine{u,rv,?_}
  by_cases hip:i<ps.length
  .have W:ps[i]?=bi y:=by rw[<- S.pre,cW hip];exact Z
   have hu':us[i]?=bi u:=by rw[bu (by rw[<- r.length,U];exact hip)]at hu;exact hu
   rcases S.par y (aV W)with k|k
   .exact .inl {k,tV ndP W hu' k}
   .obtain⟨c,e⟩:=iB (n:=s.heap.objs.size+1) k;refine .inr {.inl k,c,first y c e,?_};have q:=x.cell y c e;rw[tW ndP W hu' (by rw[k];decide)]at q;exact q
  .have hx':xs[i-ps.length]?=bi y:=by rw[<- S.mid,cW (by rw[aI,U,pH]at L;lia),List.getElem?_drop];rw[show ps.length+(i-ps.length)=i by lia];exact Z
   have hu':Cf[i-ps.length]?=bi u:=by rw[bA (by rw[<- r.length,U];lia),<- r.length,U]at hu;exact hu
   rw[<- J,ai]at hx';obtain⟨yc,ey,e2⟩:=be.mp hx';obtain⟨u',eu,q1,q2⟩:=rL D ey;rw[hu']at eu;cases eu
   have hin:y∈xs:=by rw[<- J,<- e2];exact aX.mpr {yc,aV ey,rfl}
   refine .inr {.inr<|S.xfr y hin,yc.2,second y _ hin ?_,q1.keeps O};exact ue (l:=cl) (by rw[J];exact ndx) (by rw[<- e2];exact aV ey)
 .rcases both y c h with q|q
  .exact{_,x.cell y c q}
  .obtain⟨u,q1,_⟩:=Z2 y c q;exact{_,q1.keeps O}
 .rcases both y c h with q|q
  .exact e0.hok.fresh (dL (ownx y c q).2)
  .obtain⟨u,_,q1⟩:=Z2 y c q;exact q1
 .unfold jv;show _=N.length;rw[aI,aj,cY,aI,U,pH];omega
theorem Jr{pr:ZG}{N xs:fy Str}{k:f7}{g:FS}(S:zv N ps xs scope)(hn:ps.length=n)(hm:xs.length=m)
  (U:∀(cl:fy (Str×nt)) (kH pm:i2) (cd:nt) (ct:i2) (us:fy i2),us.length=ps.length->aag (PySem.W.fnX name cU pr body scope cl .none .none kH pm b0 (.ref cd) ct) ⟨us,[]⟩=pure (ps.zip us))
  (tj:∀(f:nt) (cd:i2) (cl:fy (Str×nt)) (A:xh) (outer:fy Env) (s:n4) (H:Hp) (E:XK),iy k (A.deeper<|Gw cU scope s.heap.objs.size f cd cl) ->
   SB (ud (iY P w) P w K mg base N cU scope f cd cl A outer s H E) body g):rM P w K mg base (k+1) n m (Rc name cU pr body scope xs) (eL N.length g):={λA outer s H f o fd us Cf vs vq Q E Y e0 ho ok hd pI r rc hul D Hk=>by
 obtain⟨cl,kH,pm,cd,ct,O,ve,rfl⟩:=ok
 cases hd
 have L:vs.length=ps.length:=by rw[r.length,hul,hn]
 refine j6 Y.depth ho rfl S.co S.gen rfl pI (BindsTo.of_eq (U cl kH pm cd ct us #[0]) _ _ _ _<|GA (scope:=scope) (cl:=cl) S.kind (λy hy=>?_) (λy hy=>?_) λs1 x=>{(e0.mod.nolimit.keeps λb o e=>(e0.bs b o e).1).keeps x.toInCall.keep,tF ?_})
 .rcases S.par _ (hV hy).1 with k|k
  .exact .inl k
  obtain⟨c,e⟩:=iB k;exact .inr {k,by rw[e];rfl}
 .cases e:cl.lookup y.1 with
  |none=>rfl
  |some c=>
   exact absurd (by rw[<- O];exact aX.mpr {_,PySem.mem_of_lookup e,rfl})<|S.apx _ (hV hy).1
 have I:bn (ud (iY P w) P w K mg base N cU scope f (.ref cd) (vr (s.heap.objs.size+1) scope.names []++cl) A outer s H E) [] (jv N<|vs++vq) H s1:=GB S Y.hd e0 L r rc O ve D x;obtain⟨hl2,μ,ws,G3,Sr,rw0,h⟩:=Hk;have hq:UJ (ud (iY P w) P w K mg base N cU scope f (.ref cd) (vr (s.heap.objs.size+1) scope.names []++cl) A outer s H E) g { nx:=λ_ H'=>Q .non H',rt:=Q } (jv N<|vs++vq) H:=by
  refine{μ,ws.map bi++rn (N.length-ws.length) b0,G3,{?_,Sr},?_}
  .unfold jv;rw[<- rw0.len];have base:∀ws vs m,RelWs K μ H ws vs->Paired (λo s=>∀w,o=bi w->∃v,s=bi v/\bp K μ H w v) (ws.map bi++rn m b0) (vs.map bi++rn m b0):=by
    intro ws
    induction ws with
    |nil=>
     intro vs m r;rw[r.nilE]
     induction m with
     |zero=>exact .nil
     |succ m ih=>exact .cons (λw z=>nomatch z) ih
    |cons w ws ih=>
     intro vs m r;obtain⟨y,R,rfl,ry,rys⟩:=r.consE;exact .cons (λw' z=>{y,rfl,by cases z;exact ry})<|ih R m rys
   exact base ws _ _ rw0
  unfold eL at h
  cases e:g (ws.map bi++rn (N.length-ws.length) b0) G3 with
  |rt w bx=>
   rw[e]at h;intro μ' v H' p x S' mL;obtain⟨μ2,p2,S2,r2⟩:=lB Sr S' p<|.consI mL .nilI;obtain⟨_,e2,r3⟩:=r2.one
   cases e2
   exact h μ2 v H' p2 x S2 r3
  |nx B bx=>
   rw[e]at h;intro μ' σ' H' p x l';obtain⟨μ2,p2,S2,_⟩:=lB Sr l'.sto p .nilI;exact h μ2 .non H' p2 x S2 .non
  |ex c B bx=>
   rw[e]at h;intro W μ' σ' H' ev Z p x l' fl;obtain⟨μ2,p2,S2,_⟩:=lB Sr l'.sto p .nilI;exact fl.leaves rfl rfl fl.inv.ok.frames rfl λC hC=>h C μ2 H' hC p2 x S2
  |bk B bx=>rw[e]at h;exact h.elim
  |ct B bx=>rw[e]at h;exact h.elim
  |bad=>rw[e]at h;exact h.elim
 refine dz ((tj f (.ref cd) (vr (s.heap.objs.size+1) scope.names []++cl) A outer s H E<|Y.deeper _).h [] _ (jv N<|vs++vq) H _ I hq) (λfl Z d=>?_) λe Z d=>d;have jC:∀{σ':St} {H':Hp} {v:V} {u:i2},bn (ud (iY P w) P w K mg base N cU scope f (.ref cd) (vr (s.heap.objs.size+1) scope.names []++cl) A outer s H E) [] σ' H' Z->cq v u->Q v H'->CE outer P w H s Q u Z:=
  λ{σ' H' v u} J rv q=>{v,H',J.os,J.bare,J.base,J.hok,rv,q}
 cases fl with
 |ret u=>
  obtain⟨v,σ',H',J,rv,q⟩:=d;exact jC J rv q
 |next=>
  obtain⟨σ',H',J,q⟩:=d;exact jC (v:=V.non) J rfl q
 |brk=>
  obtain⟨_,_,_,q⟩:=d;exact Zz q
 |cont=>
  obtain⟨_,_,_,q⟩:=d;exact Zz q}
end
section
variable{nm:fy Str}{f:FG}
end
section
end
end L2
namespace L2
open PySem PyProof.Rows
section
variable{w:qd}{Zn:Array Keyed}
end
end L2
namespace L2
open PySem PySem.Spec PyProof.Rows
section
end
section
variable{w:qd}{d it:nt}{es:Array Zx}
theorem Nb(z:A.handled=b0)(I:nt)(W:d≠I):Walks prog w A I [I,d] [I] es.size (λi v=>∃e,es[i]?=bi e/\v=e.key) (λi h=>h.IsKeyIter I d i es.size ep/\∃o,h.get? d=bi o/\o.data=.dict es ep) where
 sub:=λb U=>by simp at U;simp[U]
 frame:=λ_ _ _ V O=>{V.1.at λo e=>O I (by simp) o e,by obtain⟨o,Z,B⟩:=V.2;exact⟨o,O d (by simp) o Z,B⟩}
 item:=λi s Q E L V J=>by obtain⟨pG,o,R,k⟩:=V;refine zr pG R k (λe Y g r sb=>?_) λD=>absurd D (by simp;omega);exact J e.key g s.toks ⟨e,Y,rfl⟩ {r,o,sb.extBut d o W R,k} λb o U e=>sb.extBut b o (λh=>U<|by simp[h]) e
 done:=λs Q E V J=>by obtain⟨pG,o,R,k⟩:=V;refine zr pG R k (λe Y=>absurd Y<|by simp) λ_=>{z,λg eb=>J g s.toks λb o U e=>eb b o (λh=>U<|by simp[h]) e}
 self:=λ_ _ _ _ V J=>wpAny_pyIter_keyiter V.1 J
theorem Va(l:fy Zx)(O:(d==ZM)=eh):PySem.W.KdlSrc prog w "dict" d d l.length (λi v=>∃e,l[i]?=bi e/\v=e.key) (DX d l) where
 type:=λs zv=>by obtain⟨o,J,e,c,_⟩:=zv;exact {o,e,c.1}
 there:=λh zw=>by obtain⟨o,J,e,_⟩:=zw;exact {aD e,aD e}
 keep:=λh V ⟨o,J,e,c⟩ k=>{o,J,k d (.inl rfl) o e,c}
 notList:=by decide
 notTuple:=by decide
 hint:=λA E s Q ⟨o,J,e,c,_⟩ h=>PySem.W.kdl_hint_dict {o,e,c.1} h
 iter:=λA s I zq=>by obtain⟨o,J,e,c,r⟩:=zq;have W:=Nb (prog:=prog) (w:=w) (es:=l.toArray) (ep:=J) I s.heap.objs.size<|aM<|aD e;simp at W;refine{_,_,λE Q q=>Jo O e c r (by omega),W,?_,o,ar _ e,r};exact{_,ay _ rfl,rfl,rfl}
end
section
def pT(ws:fy W)(st:fy al):R W:=match ws with
 |[x]=>sv (j4 st x) λp=>if p.2.length<=1000000 then .ok (.loc st.length) (st++[.lst<|p.2.map λq=>q.1.w])else .bad
 |_=>.bad
theorem Bx:∀{kvs:fy (KX×W)} {es:fy Zx},Paired (qN K μ H) kvs es->∃vs,RelWs K μ H (kvs.map λq=>q.1.w) vs/\ce vs (es.map λe=>e.key)
 |_,_,.nil=>{[],.nilI,.nil}
 |_,_,.cons r t=>by obtain⟨vs,Z,B⟩:=Bx t;obtain⟨_,⟨v,a,b⟩,_⟩:=r;exact{v::vs,.consI a Z,.cons b B}
theorem Ez(V:iy kk X.A):oR X (.type "list") pT:={λW s O H Z us Q I rv zq=>by
 obtain⟨k,B,J,S,r,q⟩:=zq;unfold pT at q
 split at q
 .rename_i x
  obtain⟨y,rfl,w⟩:=r.one
  cases e:j4 B x with
  |none=>rw[e]at q;exact q.elim
  |some p=>
   rw[e,fQ]at q
   split at q
   .rename_i U
    obtain⟨a,L,rfl,D⟩:=wg I S e w;obtain⟨u,rfl,ru⟩:=oN rv;obtain rfl:u=Zv a:=ru;have hle:=D.p.length;refine PySem.W.kdl_call (Va L D.sm) V.hd D.d (aW (by rw[<- hle];exact U)<|by decide) λh' tk acc c d z hacc=>?_;obtain⟨zs,z1,z2⟩:=Bx D.p;have ea:acc.toList=L.map λe=>e.key:=by
     refine gq λi=>?_;rw[ai]
     cases Y:L[i]? with
     |none=>exact b8 (by rw[d5,hacc.1];exact List.getElem?_eq_none_iff.mp Y)
     |some e'=>
      have hi':i<acc.size:=by rw[hacc.1];exact((am.mp Y).1)
      have:acc[i]?=bi acc[i]:=gb hi';obtain⟨e2,g1,g2⟩:=hacc.2 i _ this;rw[Y]at g1;cases g1
      rw[fX,this,g2];rfl
    have uw:=I.hok.fresh<|av _;refine{.ref s.heap.objs.size,_,I.laid d (av _) ?_,rfl,q (k++[s.heap.objs.size]) _ _ (ag _ _) (fY.same<|cw uw _) (S.newLst uw z1)<|lz S};refine{?_,acc.toList,c,by rw[ea];exact z2,by rw[z]};have R:=z2.length;rw[aj,<- hle]at R;rw[R];exact aW U (by decide)
   exact q.elim
 .exact q.elim,λJ B=>by
 unfold pT
 split
 .exact oQ λ_=>by split<;>trivial
 trivial}
end
section
end
def zw:typeLookup (.type "list") "keys"=pure b0:=by rw[typeLookup_type,builtinLookup_eq_fast];kernel_rfl
theorem GC{prog:Zy}{w:qd}{E:i2->n4->Prop}{xs:Array i2}{k:f7}{Q:hJ i2->n4->Prop}
  (J:s.heap.get? a=bi { cls:=.type "list",dict:=b0,data:=.seq xs k,slots:=#[] }) (R:A.handled=b0)
  (h:∀h' r,(∀b o,s.heap.get? b=bi o->h'.get? b=bi o)->Q b0 { s with heap:=h',toks:=r }) :
  nz (model prog w) A (getAttr? (.ref a) "keys") Q E s:=by
 obtain⟨W,g,d,r,O⟩:=s;have z:∀tk',(⟨W,g,d,tk',O⟩:n4).TypeIs (.ref a) "list":=λ_=>⟨_,J,rfl⟩
 have L:=sub_AttributeError;have V:=F.slot_list_getattribute.lookup;have B:=F.slot_list_getattribute.bind<|.ref a;have I:=am_list_getattr_none
 repeat(any_goals (first|assumption|exact z _|((with_reducible show nz _ _ (call (Value.builtin "list.__getattribute__") _ _) _ _ _);refine gY F.slot_list_getattribute (z _) am_entry_list_getattribute (F.args_list_getattribute_2 _ _) (meets_getattribute_miss_list a xs k #[] "keys" _ zw (by decide +kernel) (by decide +kernel)) {J,R,λh' tk' e U=>?_})|wp_step))
 obtain⟨Z,D,Y⟩:=U.there;unfold getattributeRaised
 repeat(any_goals (first|assumption|wp_step))
 exact h _ _ U.keeps
def uj:plainId "dict.update.loop"=cT:=by decide +kernel
def yv:entryFor table "dict.update.loop"=bi Builtin.«dict.update.loop»:=entryFor_of_fast (by kernel_rfl)
section
variable{w:qd}{R:Result->n4->Prop}{K:Type}[DecidableEq K]{knd:KeyKind prog w K}
theorem Js(hh:A.handled=b0){dA it l:nt}{ps:fy (K×i2)}{YW:i2}(Z:dA≠it)(B:dA≠l)(h3:l≠it)(tq:br.length=ps.length)(hz:2*ps.length<=sizeLine) :
  ∀(n i:f7) (s:n4) (kvs:fy (K×i2)),br.length-i=n->i<=br.length->kvs.length<=i->s.heap.IsListIter it l i->s.heap.IsList l br.toArray->s.heap.DictOf knd dA kvs ->
   (∀(j:f7) (x:i2),br[j]?=bi x->∃p key k v,x=.ref p/\p≠it/\p≠dA/\(∃o m,s.heap.get? p=bi o/\o.cls=.type "tuple"/\o.data=.seq #[key,v] m)/\ps[j]?=bi (k,v)/\knd.is k key=cT) ->
   (∀Y,Y.heap.DictOf knd dA ((ps.drop i).foldl (λa p=>stored a p.1 p.2) kvs)->Y.gens=s.gens->Y.drawn=s.drawn->Y.os=s.os->(∀b o,b≠dA->b≠it->s.heap.get? b=bi o->Y.heap.get? b=bi o)->R (.ok<|.ret YW) Y) ->
   aaa (model prog w) A (.builtin "dict.update.loop" ⟨[.ref dA,.ref it,w9 i,YW],[]⟩) R s:=by
 intro n
 induction n with
 |zero=>
  refine λi s kvs z L d V sl sd W hR=>dM yv (aa<|pi hh V sl (by simp;lia) λh' eb=>aa<|aq<|aq<|hR _ ?_ rfl rfl rfl λb o _ b2 e=>eb b o b2 e);rw[g_ #[0]];obtain⟨o,es,ep,I,r⟩:=sd;exact{o,es,ep,eb _ _ Z I,r}
 |succ n ih=>
  intro i s kvs z L d V sl sd W hR;have hlt:i<br.length:=by lia
  obtain⟨p,key,k,v,J,p1,p2,⟨o,m,I,D,hd⟩,hq,hkey⟩:=W i _<|ak hlt;refine dM yv ?_;rw[Around.under_plainId uj _];show nz _ A.in1 (ZD (.ref it) >>= _) _ _ s;refine aa (oA V sl (x:=.ref p) (by simp[hlt,J]) λh' bx sb=>?_);have tR:=sb.extBut _ _ p1 I;refine aa<|cD<|aa<|wpAny_tryCatch<|aa<|iS ⟨o,tR,D⟩<|aa<|d3 tR hd<|aq ?_;have sd':h'.DictOf knd dA kvs:=by obtain⟨o,es,ep,I,r⟩:=sd;exact{o,es,ep,sb.extBut _ _ Z I,r}
  refine cD<|wpAny_dictSet_pairs hkey sd' (λg sd2 sb2=>?_) #[0];have kl:(stored kvs k v).length<=i+1:=by
   unfold stored
   split
   .simp;lia
   simp;lia
  refine aq {ib uj _,ih (i+1) _ (stored kvs k v) #[0] hlt kl (bx.extBut sb2.extBut<|Zw Z) ((sl.extBut sb.extBut h3).extBut sb2.extBut<|Zw B) sd2 (λj x hj=>?_) λY q1 q2 q3 q4 q5=>?_}
  .obtain⟨p',key',k',v',O,e2,e3,⟨o',m',e4,e5,e6⟩,e7⟩:=W j x hj;exact{p',key',k',v',O,e2,e3,{o',m',sb2.extBut _ _ e3<|sb.extBut _ _ e2 e4,e5,e6},e7}
  refine hR Y ?_ q2 q3 q4 λb o b1 b2 e=>q5 b o b1 b2<|sb2.extBut _ _ b1<|sb.extBut _ _ b2 e;have:ps.drop i=(k,v)::ps.drop (i+1):=by
   have U:i<ps.length:=by lia
   rw[cx U];rw[ak U]at hq;rw[bf hq]
  rw[this];exact q1
end
def Do:mroOf (.type "dict")=pure [.type "dict",.type "object"]:=by kernel_rfl
def Rn:typeLookup (.type "dict") "__new__"=pure (bi<|.builtin "dict.__new__"):=by kernel_rfl
def Jt:isSubtype (.type "dict") (.type "dict")=pure cT:=by kernel_rfl
theorem GD:TypeCalled "dict" "dict.__new__" "dict.__init__":=
 ⟨by decide +kernel,by decide +kernel,⟨_,_,Do⟩,madeBy_type Do Rn (by decide +kernel),by decide +kernel,Jt,F.slot_dict_init⟩
def Nc(a:i2):checkTypeCall "dict" ⟨[a],[]⟩=pure ():=by kernel_rfl
def Dp(a:i2):checkBuiltinCall "dict.__new__" ⟨[.type "dict",a],[]⟩=pure ():=by kernel_rfl
def Ju:entryFor table "dict.__new__"=bi Builtin.«dict.__new__»:=entryFor_of_tree rfl
def Jv:plainId "dict.__new__"=cT:=by decide +kernel
section
variable{w:qd}
def Nd(a:i2)(h:Q₁ (.ref s.heap.objs.size) { s with heap:=s.heap.push { cls:=.type "dict",data:=.dict #[] } }) :
  aaa (model prog w) A (.call (.builtin "dict.__new__") ⟨[.type "dict",a],[]⟩) (wants Q₁ E) s:=by
 refine oZ<|aa<|mM (Dp a)<|aq {ib Jv _,dM Ju ?_};have r:=Jt;have hm:=Do
 wp_walk
 exact h
variable{K:Type}[DecidableEq K]{knd:KeyKind prog w K}
theorem Dq{l:nt}{ps:fy (K×i2)}{Q:i2->n4->Prop}(I:A.handled=b0)(U:s.heap.get? l=bi { cls:=.type "list",dict:=b0,data:=.seq br.toArray n,slots:=#[] })(tq:br.length=ps.length)(hz:2*ps.length<=sizeLine)
  (W:∀(j:f7) (x:i2),br[j]?=bi x->∃p key k v,x=.ref p/\(∃o m,s.heap.get? p=bi o/\o.cls=.type "tuple"/\o.data=.seq #[key,v] m)/\ps[j]?=bi (k,v)/\knd.is k key=cT)
  (hQ:∀g r,g.DictOf knd s.heap.objs.size (ps.foldl (λa p=>stored a p.1 p.2) [])->(∀b o,s.heap.get? b=bi o->g.get? b=bi o)->Q (.ref s.heap.objs.size) { s with heap:=g,toks:=r }) :
  nz (model prog w) A (call (.type "dict") [.ref l]) Q E s:=by
 refine callType_codes GD (Nc _) F.entry_dict_init (Nd _ (Q₁:=λobj L=>obj=.ref s.heap.objs.size/\L={ s with heap:=s.heap.push { cls:=.type "dict",data:=.dict #[] } }) ⟨rfl,rfl⟩) λobj L Z=>?_;obtain⟨rfl,rfl⟩:=Z;have J:aad { s with heap:=s.heap.push { cls:=.type "dict",data:=.dict #[] } } (.ref s.heap.objs.size) "dict":={_,ay _ rfl,rfl}
 refine{J,F.args_dict_init_2 _ _,?_};have hl1:(s.heap.push { cls:=.type "dict",data:=.dict #[] }).get? l=bi { cls:=.type "list",dict:=b0,data:=.seq br.toArray n,slots:=#[] }:=ar _ U;refine aa<|aa<|py J<|aq<|aa<|iS ⟨_,hl1,rfl⟩<|aa<|GC hl1 I λV r B=>?_;have up:∀b o,s.heap.get? b=bi o->V.get? b=bi o:=λb o e=>B b o<|ar _ e;have hD:=B _ _<|ay _ rfl;have hdl:s.heap.objs.size<V.objs.size:=aD hD;have lt:∀b o,s.heap.get? b=bi o->b≠s.heap.objs.size/\b≠V.objs.size:=λb o e=>{aM<|aD e,aM<|oF (aD e) hdl}
 have hl2:Heap.IsList V l br.toArray:={_,up _ _ U,rfl,n,rfl}
 refine aa<|iM<|aa<|jL hl2<|aq {ib uj _,?_};have p2:∀b o,V.get? b=bi o->(V.push { cls:=.type "list_iterator",data:=.fields #[.ref l,.int 0 0] }).get? b=bi o:=λb o e=>ar _ e;refine Js (knd:=knd) (show A.in1.handled=b0 from I) (aM hdl) (Zw (lt _ _ U).1) (lt _ _ U).2 tq hz br.length 0 _ [] rfl (cG _) (av _) {_,ay _ rfl,rfl,rfl} (hl2.at λo e=>p2 _ o e) ?_ (λj x O=>?_) λD d z q3 q4 q5=>{rfl,?_}
 .exact{_,#[],0,p2 _ _ hD,⟨rfl,rfl,rfl⟩,rfl,λe Y=>(by simp at Y),.nil,gG}
 .obtain⟨p,key,k,v,R,⟨o,m,e4,e5,e6⟩,e7⟩:=W j x O;exact{p,key,k,v,R,(lt _ _ e4).2,(lt _ _ e4).1,{o,m,p2 _ _<|up _ _ e4,e5,e6},e7}
 .obtain⟨g',gn,dr,tk',os'⟩:=D;simp only at d z q3 q4 q5;subst z q3 q4;exact hQ g' tk' d λb o e=>q5 b o (lt _ _ e).1 (lt _ _ e).2<|p2 _ _<|up _ _ e
end
def mW:fy W->hJ (fy<|DK×W)
 |[]=>bi []
 |.tup [k,v]::r=>match oS k,mW r with
  |some k,bi r=>bi ((k,v)::r)
  |_,_=>b0
 |_=>b0
def By{x:W}{r:fy W}{kvs:fy (DK×W)}(h:mW (x::r)=bi kvs):∃k v U B,x=.tup [k,v]/\oS k=bi U/\mW r=bi B/\kvs=(U,v)::B:=by
 unfold mW at h
 split at h
 .rename_i Y;cases Y
 .rename_i k v D Y
  cases Y
  cases R:oS k with
  |none=>rw[R]at h;cases h
  |some U=>
   cases e2:mW r with
   |none=>rw[R,e2]at h;cases h
   |some B=>rw[R,e2]at h;cases h;exact⟨k,v,U,B,rfl,R,rfl,rfl⟩
 .cases h
def Jw(kvs:fy (DK×W))(k:DK)(v:W):(ub kvs k v).length<=kvs.length+1:=by
 unfold ub
 split
 .simp
 simp
theorem wq:∀(kvs acc:fy (DK×W)),(jF acc kvs).length<=acc.length+kvs.length
 |[],acc=>av _
 |p::kvs,acc=>by have:=wq kvs<|ub acc p.1 p.2;have:=Jw acc p.1 p.2;show(jF (ub acc p.1 p.2) kvs).length<=_;simp;lia
def GE:aaf "dict"=bi (.type "dict"):=rfl
section
theorem Bz(I:bn X ah σ H s):∀{L:fy W} {kvs:fy (DK×W)} {vs:fy V} {br:fy i2},mW L=bi kvs->RelWs X.K μ H L vs->ce vs br ->
  ∃(us:fy V) (ps:fy (ji×i2)),RelWs X.K μ H (kvs.map λp=>p.2) us/\KV (dV kvs us) ps/\br.length=ps.length /\
   ∀(j:f7) (x:i2),br[j]?=bi x->∃p key k v,x=.ref p/\(∃o m,s.heap.get? p=bi o/\o.cls=.type "tuple"/\o.data=.seq #[key,v] m)/\ps[j]?=bi (k,v)/\(gA X.prog X.w).is k key=cT
 |[],kvs,vs,br,h,r,hv=>by
  cases h
  have e:=r.nilE;subst e
  cases hv
  exact{[],[],.nilI,.nil,rfl,λj x h=>by simp at h}
 |y::L,kvs,vs,br,h,r,hv=>by
  obtain⟨k,w,k',z,rfl,ek,er,rfl⟩:=By h;obtain⟨x,D,rfl,Y,rxs⟩:=r.consE
  cases hv with
  |cons J PH=>
  rename_i u br
  obtain⟨us,ps,a1,a2,a3,a4⟩:=Bz I er rxs PH;obtain⟨p,B,rfl,d,rz⟩:=id Y.tupE;obtain⟨z1,z2,rfl,rk,rz2⟩:=rz.consE;obtain⟨z3,rfl,mL⟩:=rz2.one;obtain⟨its2,hv2,hT,_⟩:=I.tuple d
  cases hv2 with
  |cons U g2=>
  cases g2 with
  |cons g2 g3=>
  cases g3
  rename_i Z v1
  have:=vi ek rk;subst this;obtain⟨o,R,e2,m,e3⟩:=hT;refine{z3::us,(k'.key,v1)::ps,.consI mL a1,.cons ⟨rfl,g2⟩ a2,by simp[a3],λj x O=>?_}
  cases j with
  |zero=>
   cases O
   obtain rfl:u=Zv p:=J;exact{p,Z,k'.key,v1,rfl,⟨o,m,R,e2,e3⟩,rfl,AJ U}
  |succ j=>exact a4 j x O
def uk(ws:fy W)(st:fy al):R W:=match ws with
 |[.loc n]=>(match st[n]? with
  |some (.lst ys)=>sv (mW ys) λkvs=>if kvs.length<=1000 then .ok (.loc st.length) (st++[.dct<|jF [] kvs])else .bad
  |_=>.bad)
 |_=>.bad
theorem Nf(V:iy kk X.A):oR X (.type "dict") uk:={λW s O H D us Q I rv zq=>by
 obtain⟨U,B,w,S,r,q⟩:=zq;unfold uk at q
 split at q
 .obtain⟨x,rfl,Y⟩:=r.one
  split at q
  .rename_i L e0
   unfold sv at q
   split at q
   .rename_i R ek
    simp only at q
    split at q
    .obtain⟨a,g,D,k,rr⟩:=S.get e0;obtain⟨b1,f1,rfl⟩:=Y.locE;rw[g]at f1;cases f1
     obtain⟨J,br,n,hv,z⟩:=(I.hok a _ k)
     obtain⟨us',ps,a1,a2,a3,a4⟩:=Bz I ek rr hv;obtain⟨u,rfl,ru⟩:=oN rv;obtain rfl:u=Zv a:=ru;obtain⟨zs,g1,g2⟩:=v9 (acc:=[]) a1 .nilI;have da:ps.length=R.length:=by rw[<- a2.length];exact zh a1
     have hml:(jF [] R).length<=1000:=aW (wq R []) (by simp_all);have Z:H s.heap.objs.size=b0:=I.hok.fresh<|av _;refine Dq V.hd z a3 (by rw[jy];lia) a4 λg tk gd kp=>?_;have hKV:=KV.merge a2 .nil;have e2:nS ([]) (dV R us')=dV (jF [] R) zs:=g1;rw[e2]at hKV;refine{.ref s.heap.objs.size,dX H s.heap.objs.size<|.dK<|dV (jF [] R) zs,I.laid kp (av _) (CP (by rw[zh g2];exact aW hml<|by decide) (bj.mpr<|Zw<|aM I.big) hKV gd),rfl,?_};have d:qL H (dX H s.heap.objs.size<|.dK<|dV (jF [] R) zs):=cw Z _;exact q (U++[s.heap.objs.size]) (.ref s.heap.objs.size) _ (ag _ _) (fY.same d) (S.push Z {zs,cv,g2.mono (ag _ _)<|fY.same d})<|lz S
    exact q.elim
   exact q.elim
  exact q.elim
 .exact q.elim,λw B=>by
 unfold uk
 split
 .split
  .exact oQ λ_=>by split<;>trivial
  trivial
 trivial}
end
theorem bn.freezeE{kvs:fy (ji×V)}(I:bn X ah σ H s)(r:H a=bi (.dK kvs))(R:s.heap.get? a=bi o)(dd:DX a [] s.heap):bn X ah σ (dX H a<|.frz o<|vg a []) s:=by
 have k:∀b u,H b=bi u->(∀z,u≠.dK z)->dX H a (.frz o<|vg a []) b=bi u:=λb u e n=>by rw[bX (λz=>by rw[z,r]at e;cases e;exact n _ rfl)];exact e
 have:bn X ah σ (dX H a<|.frz o<|vg a []) { s with heap:=s.heap,toks:=s.toks }:=by
  refine I.un {λb o e n U J=>e,λb o e n U J=>{o.slots,e},λb o e n J=>?_,λb o e J=>⟨o,e⟩,λb D e=>k b _ e λ_ z=>(by cases z),λb o u e=>k b _ e λ_ z=>(by cases z),λb Z e=>⟨#[],by rw[k b _ e λ_ z=>(by cases z)];simp⟩} λb u e=>?_
  .rw[bX (λz=>by rw[z,r]at n;cases n)];exact n
  by_cases U:b=a
  .subst U;rw[cv]at e;cases e
   exact{R,Ja dd}
  rw[bX U]at e;exact(I.hok b u e).stay (λ_ _ _ q=>q) (λc q=>k c _ q λ_ z=>(by cases z)) λc D q=>k c _ q λ_ z=>(by cases z)
 exact this
def Ro(te:TE):TI:=λσ H R=>te σ H λx H1=>∃a es,x=.ref a/\((a==ZM)=eh/\((H1 a=bi (vg a es)/\∀o h,DX a es h->R (Rh a o es) (dX H1 a<|.frz o<|vg a es))\/(∃o,H1 a=bi (.frz o<|vg a es)/\R (Rh a o es) H1))\/H1 a=bi (.dK [])/\es=[]/\∀o h,(a==ZM)=eh->DX a [] h->R (Rh a o []) (dX H1 a<|.frz o<|vg a []))
theorem Jx(Y:PE X iter te):PI X tg iter (Ro te):=λW s O H R I h=>by
 refine h_ (Y W s O H _ I h) λu L V=>?_;obtain⟨x,H1,I1,z,a,w,rfl,D⟩:=V;obtain rfl:u=Zv a:=z;have walk:∀o H2,(a==ZM)=eh->bn X W O H2 L->H2 a=bi (.frz o<|vg a w)->R (Rh a o w) H2->nz #[2] X.A (ZX<|.ref a) (WS X W O tg R) X.xe L:=λo H2 d I2 r q=>by
  obtain⟨Z,J,k⟩:=zt I2 r;refine Jo d Z J k ?_;have k1:∀b o',L.heap.get? b=bi o'->(L.heap.push { cls:=.type "dict_keyiterator",data:=.fields #[.ref a,.int 0 0,.int w.toArray.size 0,.int (Bm o) 0] }).get? b=bi o':=λb o' e=>ar _ e;refine{L.heap.objs.size,[L.heap.objs.size],_,Rh a o w,H2,rfl,I2.kept k1,Dk a _ o w,?_,λb U=>?_,q}
  .exact{_,ay _ rfl,rfl,by simp}
  have e:b=L.heap.objs.size:=by simpa using U
  subst e;exact I2.fpOk (av _) I2.fresh
 rcases D with⟨d,⟨r,q⟩|⟨o,r,q⟩⟩|⟨r,Y,q⟩
 .have dd:=Ox I1.hok r;obtain⟨o,B,Z,_⟩:=id dd;exact walk o _ d (I1.freezeX r Z) cv<|q o _ dd
 .exact walk o H1 d I1 r q
 subst Y;obtain⟨dd,d⟩:=Jb I1.hok r;obtain⟨o,B,Z,_⟩:=id dd;exact walk o _ d (I1.freezeE r Z dd) cv<|q o _ d dd
noncomputable def Dr(st:fy al):W->hJ (f7×fy (KX×W))
 |.loc n=>(match st[n]? with
  |some (.dcx kvs)=>bi (n,kvs)
  |some (.rox kvs)=>bi (n,kvs)
  |some (.dct [])=>bi (n,[])
  |_=>b0)
 |_=>b0
def iq(fe:FE):FI:=λρ st=>(fe ρ st).bind λx st=>match Dr st x with
 |some (n,kvs)=>if Dl kvs=cT then .ok (kvs.map<|λp=>p.1.w,b0) (st.set n<|.rox kvs)else .bad
 |none=>.bad
theorem wt(d:SE X iter fe):SI X tg iter (iq fe):={λW s O H R I h=>(Jx d.h) W s O H R I (by
 obtain⟨μ,Y,V,l,h⟩:=h;refine{μ,Y,V,l,RK.bind h l λr st1 x v H1 p1 x1 l1 q1 Z=>?_}
 cases e:Dr st1 x with
 |none=>rw[e]at Z;exact Z.elim
 |some nk=>
  obtain⟨n,kvs⟩:=nk;rw[e]at Z;simp only at Z
  by_cases hT:Dl kvs=cT
  .rw[ax hT]at Z;have wk:∀a es o H2,H2 a=bi (.frz o<|vg a es)->Paired (qN X.K r H2) kvs es->za X (Rh a o es) (kvs.map<|λp=>p.1.w,b0) r H2:=λa es o H2 hz pr i μ' bx H' pm xm S _=>by
    have hz':=xm.z _ _ _ hz;refine{λw hw=>?_,λL=>⟨hz',by rw[<- (Paired.length pr)];simpa using L⟩};rw[ai]at hw;obtain⟨p,D,rfl⟩:=be.mp hw;obtain⟨en,hen,_,⟨v1,r1,r2⟩,_⟩:=Paired.at1 pr D;have tg0:p.1.tag≠0:=by have:=bC.mp hT p<|aV D;simpa using this
    obtain⟨b,rfl,U⟩:=M_ tg0 r1 r2;refine⟨⟨hz',en,b,hen,U⟩,λx H'' hy=>?_⟩;obtain⟨rfl,e2,b2,PP,hb2,rfl⟩:=hy;rw[hen]at PP;cases PP
    rw[U]at hb2;cases hb2
    exact{dy.refl,S,r1.mono pm xm}
   cases x with
   |loc m=>
    simp[Dr]at e
    cases B:st1[m]? with
    |none=>rw[B]at e;cases e
    |some c=>
     rw[B]at e
     cases c with
     |dcx z=>
      cases e
      obtain⟨a,g,es,k,hd,p,nd⟩:=l1.sto.get B;obtain⟨b,f,rfl⟩:=q1.locE;rw[g]at f;cases f
      refine{a,es,rfl,.inl ⟨hd,.inl {k,λo hp0 dd=>?_}⟩};have J:dy X.K H1 (dX H1 a<|.frz o<|vg a es):=fY.butE gP k;have pr:=Paired.imp' (λ_ _ q=>qN.mono (af _) J q) p;have S2:fq X.K X.mg r (st1.set n<|.rox kvs) (dX H1 a<|.frz o<|vg a es):=l1.sto.setG B rfl g k (λ_ _ z=>by cases z) (Et dd) J rfl ⟨es,o,cv,hd,pr,nd⟩;exact Z r _ _ (af _) J S2 (wk a es o _ cv pr)
     |rox z=>
      cases e
      obtain⟨a,g,es,o,k,hd,p,nd⟩:=l1.sto.get B;obtain⟨b,f,rfl⟩:=q1.locE;rw[g]at f;cases f
      refine{a,es,rfl,.inl ⟨hd,.inr {o,k,?_}⟩};rw[sH B]at Z;exact Z r _ H1 (af _) dy.refl l1.sto (wk a es o H1 k p)
     |dct z=>
      cases z with
      |cons _ _=>cases e
      |nil=>
       cases e
       obtain⟨a,g,vs,k,rr⟩:=l1.sto.get B;obtain⟨b,f,rfl⟩:=q1.locE;rw[g]at f;cases f
       refine{a,[],rfl,.inr ⟨k,rfl,λo hp0 hd dd=>?_⟩};have J:dy X.K H1 (dX H1 a<|.frz o<|vg a []):=fY.butD gP k;have S2:fq X.K X.mg r (st1.set n<|.rox []) (dX H1 a<|.frz o<|vg a []):=l1.sto.setG B rfl g k (λ_ _ z=>by cases z) (λ_ z=>by cases z) J rfl {[],o,cv,hd,.nil,gG};exact Z r _ _ (af _) J S2 (wk a [] o _ cv .nil)
     |_=>cases e
   |_=>cases e
  rw[aF hT]at Z;exact Z.elim)}
open AutoSeq1 (wpAny_loadPart')
def nZ(c:ir)(h:qk)(n a:nt)(k:f7):Prop:=bif c then h.IsListIter n a k else h.IsTupleIter n a k
def n6(c:ir)(h:qk)(a:nt)(xs:Array i2):Prop:=bif c then h.IsList a xs else h.IsTuple a xs
section
variable{c:ir}{n d:nt}{k:f7}{xs:Array i2}
theorem nZ.at(q:nZ c h n a k)(e:∀o,h.get? n=bi o->h'.get? n=bi o):nZ c h' n a k:=by
 cases c
 .exact Heap.IsTupleIter.at q e
 exact Heap.IsListIter.at q e
theorem n6.at(q:n6 c h a xs)(e:∀o,h.get? a=bi o->h'.get? a=bi o):n6 c h' a xs:=by
 cases c
 .exact Heap.IsTuple.at q e
 exact Heap.IsList.at q e
theorem nZ.extBut(q:nZ c h n a k)(e:Heap.ExtBut d h h')(L:n≠d):nZ c h' n a k:=q.at λo=>e _ o L
theorem n6.extBut(q:n6 c h a xs)(e:Heap.ExtBut d h h')(L:a≠d):n6 c h' a xs:=q.at λo=>e _ o L
theorem nZ.ex(q:nZ c h n a k):∃o,h.get? n=bi o/\∀v,o.data≠.cell v:=by
 cases c
 .obtain⟨o,e,_,d⟩:h.IsTupleIter n a k:=q;exact{o,e,λv z=>by rw[d]at z;cases z}
 obtain⟨o,e,_,d⟩:h.IsListIter n a k:=q;exact{o,e,λv z=>by rw[d]at z;cases z}
theorem n6.lt(q:n6 c h a xs):a<h.objs.size:=by
 cases c
 .obtain⟨_,e,_⟩:h.IsTuple a xs:=q;exact aD e
 obtain⟨_,e,_⟩:h.IsList a xs:=q;exact aD e
noncomputable abbrev zx(c:ir)(t:nt):Obj:={ cls:=.type<|bif c then "list_iterator" else "tuple_iterator",data:=.fields #[.ref t,.int 0 0] }
def nZ.new(e:h.get? n=bi (zx c a)):nZ c h n a 0:=by
 cases c
 .exact⟨_,e,rfl,rfl⟩
 exact⟨_,e,rfl,rfl⟩
end
section
variable{w:qd}{c:ir}
def Ng{it l:nt}{xs:Array i2}{x:i2}(h:nZ c s.heap it l i)(d:n6 c s.heap l xs)(J:xs[i]?=bi x)
  (U:∀g,nZ c g it l (i+1)->Z6 it s.heap g->Q x { s with heap:=g }):nz (model prog w) A (ZQ<|.ref it) Q E s:=by
 cases c
 .exact xw h d J U
 exact wpAny_nextOf_list_item h d J U
def Rp{it l:nt}{xs:Array i2}(I:A.handled=b0)(h:nZ c s.heap it l i)(d:n6 c s.heap l xs)(J:xs[i]?=b0)
  (U:∀g e,Heap.ExtBut it s.heap g->(∃o,g.get? e=bi o/\o.cls=.type "StopIteration")->E (.ref e) { s with heap:=g }):nz (model prog w) A (ZQ<|.ref it) Q E s:=by
 cases c
 .exact yZ I h d J U
 exact wpAny_nextOf_list_end I h d J U
def Rq{l:nt}{xs:Array i2}(d:n6 c s.heap l xs)(U:Q (.ref s.heap.objs.size) { s with heap:=s.heap.push (zx c l) }):nz (model prog w) A (ZX<|.ref l) Q E s:=by
 cases c
 .exact lU d U
 exact jL d U
abbrev pU(n m:f7):fy i2:=(uP m).map λj=>.ref<|n+j
structure ZN(os:fy (ir×nt))(h:qk)(n k:f7)(f:i2):Prop where
 z:IsZip h (n+os.length+2) (n+os.length) (n+os.length+1) f
 P:h.get? (n+os.length)=bi { cls:=.type "tuple",data:=.seq (pU n os.length).toArray }
 O:∃vs:Array i2,vs.size=os.length/\h.get? (n+os.length+1)=bi { cls:=.type "tuple",data:=.seq vs }
 i:∀j o,os[j]?=bi o->nZ o.1 h (n+j) o.2 k
abbrev u7(n m d:f7):Prop:=d<n\/d=n+m\/n+m+2<d
def u7.zz{d:f7}(h:u7 n m d):d≠n+m+2:=by omega
def u7.oo{d:f7}(h:u7 n m d):d≠n+m+1:=by omega
def u7.it{d:f7}(h:u7 n m d)(O:j<m):d≠n+j:=by omega
def BA(c:f7)(O:j<m):n+j≠n+m+c:=by omega
variable{k:f7}{xs:f7->Array i2}
theorem Nh{Q:Fin->n4->Prop}(hh:A.handled=b0)(W:0<os.length)(h9:os.length<9)(q:ZN os s.heap n k .none)(r:∀j o,os[j]?=bi o->o.2<n/\n6 o.1 s.heap o.2 (xs j))
  (hQ:∀g vs,vs.size=os.length->(∀j,j<os.length->(xs j)[k]?=vs[j]? )->ZN os g n (k+1) (w9 s.heap.objs.size)->g.get? s.heap.objs.size=bi { cls:=.type "tuple",data:=.seq vs } ->
   (∀d o,u7 n os.length d->s.heap.get? d=bi o->g.get? d=bi o)->Q (.done<|.ret<|.ref s.heap.objs.size) { s with heap:=g })
  (hE:∀g e j,j<os.length->(xs j)[k]?=b0->(∀d o,u7 n os.length d->s.heap.get? d=bi o->g.get? d=bi o)->(∃o,g.get? e=bi o/\o.cls=.type "StopIteration")->E (.ref e) { s with heap:=g }) :
  nz (model prog w) A (Builtin.«zip.__next__» ⟨[.ref<|n+os.length+2],[]⟩) Q E s:=by
 obtain⟨qz,qP,⟨v0,hv0,qO⟩,qi⟩:=q;generalize hm:os.length=m at *;show nz _ _ (field (.ref<|n+m+2) 2 >>= _) _ _ _;refine aa<|e_ qz rfl (x:=.bool eh) rfl ?_;refine aa<|e_ qz rfl (x:=.ref<|n+m) rfl (aa<|d3 qP rfl ?_);have Y:((pU n m).toArray.isEmpty)=eh:=by cases m with
  |zero=>exact absurd W (cV _)
  |succ m=>simp[pU]
 dsimp only;rw[Y];refine aa ?_;refine aa<|e_ qz rfl (x:=.none) rfl (aq ?_);refine aa<|iM<|aa<|e_ qz rfl (x:=.ref<|n+m+1) rfl ?_;refine aa (cP qz (by simp) λg1 z1 L=>?_);refine aa ?_;have hS:9<sizeLine:=by decide
 refine gI _ (λcN b D=>∃j vs g,cN=((pU n m).zipIdx).drop j/\j<=m/\b=_/\D={ s with heap:=g }/\vs.size=m/\(∀i,i<j->(xs i)[k]?=vs[i]?) /\
  IsZip g (n+m+2) (n+m) (n+m+1) .ellipsis/\g.get? (n+m+1)=bi { cls:=.type "tuple",data:=.seq vs }/\(∀(i:f7) o,os[i]?=bi o->(i<j->nZ o.1 g (n+i) o.2 (k+1))/\(j<=i->nZ o.1 g (n+i) o.2 k)) /\
  g.objs.size=s.heap.objs.size/\∀d o,u7 n m d->s.heap.get? d=bi o->g.get? d=bi o) _ ?_ ?_ _ _ {0,v0,g1,rfl,cG _,rfl,rfl,hv0,λi h=>absurd h<|fC _,z1,L.extBut _ _ (aM<|dR _) qO,λi o e=>{λh=>absurd h<|fC _,λ_=>(qi i o e).extBut L.extBut<|BA 2<|hm▸(am.mp e).1},L.1,λd o h e=>L.extBut _ _ h.zz e}
 .rintro x cN b D ⟨j,vs,g,R,U,rfl,rfl,hv,J,z2,O2,I2,sz,kp⟩;have jm:j<m:=nI λh=>by rw[g9<|by simpa[pU]using h]at R;cases R
  rw[cx<|by simpa[pU]using jm]at R;obtain⟨rfl,rfl⟩:=rh R;obtain⟨o,I⟩:∃o,os[j]?=bi o:={os[j]'(hm▸jm),ak<|hm▸jm}
  obtain⟨ao,qo⟩:=r j o I;have ij:nZ o.1 g (n+j) o.2 k:=(I2 j o I).2<|av _;have qg:=qo.at (h':=g) λo' e=>kp _ o' (.inl ao) e;simp only[pU,List.getElem_zipIdx,gJ,List.getElem_range,lr];refine aa<|wpAny_onRaise<|aa ?_
  cases O:(xs j)[k]? with
  |none=>
   refine Rp hh ij qg O λg2 e s2 ye=>?_;have z3:IsZip g2 (n+m+2) (n+m) (n+m+1) .ellipsis:=s2 _ _ (BA 2 jm).symm z2;obtain⟨oe,Z,B⟩:=ye;have nez:e≠n+m+2:=λq=>by subst q;rw[z3]at Z;cases Z;simp at B
   exact cP z3 (by simp) λg3 _ s3=>hE g3 e j jm O (λd o h q=>s3.extBut _ _ h.zz<|s2 _ _ (h.it jm)<|kp d o h q) {oe,s3.extBut _ _ nez Z,B}
  |some x=>
   refine Ng ij qg O λg2 k2 s2=>aq ?_;have O3:=s2.extBut _ _ (BA 1 jm).symm O2;refine aa (d3 O3 rfl (aa<|kN O3 rfl (aa<|wpAny_letGo<|aq ?_) #[0] (by simp;lia)));have s3:=d6 g2 (n+m+1) (ZP (·.setIfInBounds j x));generalize z:g2.update (n+m+1) (ZP (·.setIfInBounds j x))=g3 at s3;have O4:g3.get? (n+m+1)=bi { cls:=.type "tuple",data:=.seq (vs.setIfInBounds j x) }:=by rw[<- z,cZ _ O3 rfl];simp[ZP]
   refine{j+1,vs.setIfInBounds j x,g3,rfl,jm,rfl,rfl,by simpa using hv,λi h=>?_,s3.extBut _ _ (eV<|dR _)<|s2.extBut _ _ (BA 2 jm).symm z2,O4,λi o' e=>?_,by rw[s3.1,s2.1,sz],λd o h q=>s3.extBut _ _ h.oo<|s2.extBut _ _ (h.it jm)<|kp d o h q}
   .grind
   .have im:=hm▸(am.mp e).1;have V:∀{k':f7},i≠j->nZ o'.1 g (n+i) o'.2 k'->nZ o'.1 g3 (n+i) o'.2 k':=λh' q=>(q.extBut s2.extBut<|λh=>h'<|Nat.add_left_cancel h).extBut s3.extBut<|BA 1 im;refine{λh=>?_,λh=>V (eV h)<|(I2 i o' e).2<|Nat.le_of_succ_le h}
    by_cases h':i=j
    .subst h';rw[I]at e;cases e;exact k2.extBut s3.extBut (BA 1 jm)
    .grind
 .rintro b D ⟨j,vs,g,R,U,rfl,rfl,hv,J,z2,O2,I2,sz,kp⟩;have jm:j=m:=oX U (by simpa[pU]using List.drop_eq_nil_iff.mp R.symm);subst jm;refine aa (d3 O2 rfl (aa<|l5 ?_ (by simp;lia)));have zlt:n+j+2<g.objs.size:=aD z2;refine aa ?_;have z3:IsZip (g.push { cls:=.type "tuple",data:=.seq vs.toList.toArray }) (n+j+2) (n+j) (n+j+1) .ellipsis:=ar _ z2;refine aa (cP z3 (by simp) λg3 z3 s3=>?_);refine cP z3 (by simp) λg4 z4 s4=>?_;have up:∀d o,d≠n+j+2->g.get? d=bi o->g4.get? d=bi o:=λd o c1 e=>s4.extBut _ _ c1<|s3.extBut _ _ c1<|ar _ e;have T4:g4.get? g.objs.size=bi { cls:=.type "tuple",data:=.seq vs }:=s4.extBut _ _ (eV zlt) (s3.extBut _ _ (eV zlt)<|by simpa using ay g (o:={ cls:=.type "tuple",data:=.seq vs.toList.toArray }) rfl);rw[sz]at z4 T4;refine aq ?_;rw[sz];refine hQ g4 vs hv J {by rw[hm];exact z4,by rw[hm];exact up _ _ (aM #[0])<|kp _ _ (.inr<|.inl rfl) qP,{vs,by rw[hm];exact hv,by rw[hm];exact up _ _ (aM #[0]) O2},λi o e=>?_} T4 λd o h q=>up d o h.zz<|kp d o h q;have im:=hm▸(am.mp e).1;exact((I2 i o e).1 im).at λo' e'=>up _ o' (BA 2 im) e'
theorem Oz{Q:hJ i2->n4->Prop}(I:A.handled=b0)(V:0<os.length)(L:os.length<9)(q:ZN os s.heap n k .none)(J:∀j o,os[j]?=bi o->o.2<n/\n6 o.1 s.heap o.2 (xs j))
  (U:∀g vs,vs.size=os.length->(∀j,j<os.length->(xs j)[k]?=vs[j]? )->ZN os g n (k+1) (w9 s.heap.objs.size)->g.get? s.heap.objs.size=bi { cls:=.type "tuple",data:=.seq vs } ->
   (∀d o,u7 n os.length d->s.heap.get? d=bi o->g.get? d=bi o)->Q (bi<|.ref s.heap.objs.size) { s with heap:=g })
  (W:∀g j,j<os.length->(xs j)[k]?=b0->(∀d o,u7 n os.length d->s.heap.get? d=bi o->g.get? d=bi o)->Q b0 { s with heap:=g }) :
  nz (model prog w) A (ZD<|.ref<|n+os.length+2) Q E s:=by
 have T:s.TypeIs (.ref<|n+os.length+2) "zip":={_,q.z,rfl}
 refine aa (jb (bZ T F.slot_zip_next (bF F.slot_zip_next T F.entry_zip_next
   (Nh I V L q J (λg vs Z O Y r D=>{_,rfl,aq<|U g vs Z O Y r D}) λg e j Z O Y B=>?_) (F.args_zip_next_1 _))))
 obtain⟨o,R,z⟩:=B;exact aa<|eQ ⟨o,R,z⟩ lZ<|aq<|W _ j Z O Y
theorem Rs     (os : fy (ir × nt)) (Z : os.length < 9) : Meets (Builtin.«zip.__new__» ⟨.type "zip" :: os.map (λo => .ref o.2), []⟩) (λ_ R s => (∀ o ∈ os, ∃ xs, n6   o.1 s.heap o.2 xs) /\
      ∀ g, ZN os g s.heap.objs.size 0 .none -> (∀ d o, s.heap.get? d = bi o -> g.get? d = bi o) -> R (.ok<|.ret<|.ref<|s.heap.objs.size + os.length + 2) { s with heap := g }) :=
  .of_wp λprog w A R s h => by
    obtain ⟨W, g, d, z, oss⟩ := s;obtain ⟨I, h⟩ := h;have V := sub_zip
    wp_walk
    generalize hm : os.length = m at *;have hS : 9 < sizeLine := by decide
    have p : ∀ {h : qk} {c : nt} {o u : Obj}, h.get? c = bi o -> (h.push u).get? c = bi o := λe => ar                     _ e;refine gI               _ (λcN   b D => ∃ j f, cN   = (os.map λo => Zv o.2).drop j /\ j <= m /\ b = (pU   W.objs.size j).toArray /\ D = ⟨f, g, d, z, oss⟩ /\ f.objs.size = W.objs.size + j /\
      (∀ (i : f7) o, i < j -> os[i]? = bi o -> f.get? (W.objs.size + i) = bi (zx      o.1 o.2)) /\ ∀ d o, W.get? d = bi o -> f.get? d = bi o) _ ?_ ?_ _ _ {0, W, rfl, cG          _, rfl, rfl, rfl, λi o h => absurd h (fC              _), λd o e => e}
    · rintro x cN   b D ⟨j, f, B, O, rfl, rfl, sz, L, Y⟩
      have jm : j < m := nI               λh => by rw [g9                     (by simpa [hm] using h)] at B; cases B
      rw [cx                        (by simpa [hm] using jm)] at B;obtain ⟨rfl, rfl⟩ := rh            B;have ho : os[j]? = bi (os[j]'(hm ▸ jm)) := ak                       (hm ▸ jm);obtain ⟨xs, J⟩ := I _ (dS               (hm ▸ jm));rw [gJ              ];refine aa         (cD            (Rq     (J.at λo e => Y _ o e) (aq         ⟨j + 1, _, rfl, jm, ?_, rfl, by rw [cA            ]; exact eJ       (· + 1) sz, λi o h e => ?_, λd o e => p (Y d o e)⟩)))
      · simp [pU  , fB             , sz]
      · by_cases h' : i = j
        · subst h'; rw [ho] at e; cases e; rw [<- sz]; exact ay                  _ rfl
        · exact p<|L i o (Nat.lt_of_le_of_ne (Nat.le_of_lt_succ h) h') e
    · rintro b D ⟨j, f, B, O, rfl, rfl, sz, L, Y⟩
      have jm : j = m := oX              O (by simpa [hm] using List.drop_eq_nil_iff.mp B.symm);subst jm;refine aq         (aa         (l5             (aa         (l5             ?_ (by simp [pU  ]; lia))) (by simp [pU  ]; lia)));refine aa         ?_;unfold Builtin.SmallTypes.newRecord;refine bQ                (aq         {_, rfl, ?_}) (by show 5 <= sizeLine + 2; lia);have l : ∀ {h : qk} {u : Obj} {c : f7}, u.isFreed = eh -> h.objs.size = c -> (h.push u).objs.size = c + 1 /\ (h.push u).get? c = bi u := λr e => by subst e; exact {cA             .., ay                  _ r}
      obtain ⟨n1, P1⟩ := l (u := { cls := .type "tuple", data := .seq (pU   W.objs.size j).toArray.toList.toArray }) rfl sz;obtain ⟨U, O1⟩ := l (u := { cls := .type "tuple", data := .seq ((pU   W.objs.size j).toArray.toList.map λ_ => ZJ).toArray }) rfl n1;have Z1 := (l (u := { cls := .type "zip", data := .fields (Builtin.SmallTypes.ownedTupleFields ++ [aam eh, .ref f.objs.size, .ref (f.push { cls := .type "tuple", data := .seq (pU   W.objs.size j).toArray.toList.toArray }).objs.size]).toArray }) rfl U).2;have e := h _ {by rw [hm]; refine Eq.trans Z1 ?_; rw [n1, sz]; rfl, by rw [hm]; exact p<|p P1, {((pU   W.objs.size j).toArray.toList.map λ_ => ZJ).toArray, by simp [pU  , hm], by rw [hm]; exact p O1}, λi o e => .new (p<|p<|p<|L i o (hm ▸ (am.mp                        e).1) e)} λd o e => p (p<|p<|Y d o e);rw [show aan ⟨W, g, d, z, oss⟩ = W from rfl, <- U] at e;exact e
theorem Ni(I:os.length<9)(B:checkTypeCall "zip" ⟨os.map<|λo=>.ref o.2,[]⟩=pure ())(Z:checkBuiltinCall "zip.__new__" ⟨.type "zip" :: os.map (λo=>.ref o.2),[]⟩=pure ())
  (Y:∀r,argsOk "object.__init__" ⟨r::os.map (λo=>.ref o.2),[]⟩) (J:∀o∈os,∃xs,n6 o.1 s.heap o.2 xs)
  (q:∀g,ZN os g s.heap.objs.size 0 .none->(∀d o,s.heap.get? d=bi o->g.get? d=bi o)->Q (.ref<|s.heap.objs.size+os.length+2) { s with heap:=g }) :
  nz (model prog w) A (call (.type "zip")<|os.map λo=>.ref o.2) Q E s:=
 callType_new F.called_zip (by decide) B Z Y F.entry_zip_new (Rs os I) ⟨J,λg z k=>⟨{_,z.z,rfl},q g z k⟩⟩
end
abbrev LC(K:ti)(H:Hp)(o:ir×nt)(xs:fy V):Prop:=bif o.1 then rZ K H o.2 xs else fY K H o.2 xs
def Vb(K:ti)(os:fy (ir×nt)):It:=
  ⟨λi H=>∃(xs:f7->fy V) (x:f7->V),∀j o,os[j]?=bi o->LC K H o (xs j)/\(xs j)[i]?=bi (x j),
   λi H v H'=>∃p,H p=b0/\v=.ref p/\∀(xs:f7->fy V) (x:f7->V),(∀j o,os[j]?=bi o->LC K H o (xs j)/\(xs j)[i]?=bi (x j))->H'=dX H p (.tup<|(uP os.length).map x),
   λi H=>∃xs:f7->fy V,(∀j o,os[j]?=bi o->LC K H o (xs j))/\∃j,j<os.length/\(xs j).length<=i⟩
theorem bn.sq1(I:bn X ah σ H s){o:ir×nt}{xs:fy V}(h:LC X.K H o xs):∃br,ce xs br/\n6 o.1 s.heap o.2 br.toArray:=by
 obtain⟨c,a⟩:=o
 cases c
 .obtain⟨br,r,p,_⟩:=I.tuple h;exact⟨br,r,p⟩
 obtain⟨br,r,p,_⟩:=I.list h;exact{br,r,p.isList}
theorem bn.sqs(I:bn X ah σ H s){xs:f7->fy V}(h:∀j o,os[j]?=bi o->LC X.K H o (xs j)) :
  ∃br:f7->fy i2,∀j o,os[j]?=bi o->ce (xs j) (br j)/\n6 o.1 s.heap o.2 (br j).toArray:=by
 refine nJ (r:=λj i=>∀o,os[j]?=bi o->ce (xs j) i/\n6 o.1 s.heap o.2 i.toArray) λj=>?_
 cases e:os[j]? with
 |none=>exact{[],λo h=>by cases h}
 |some o=>
  obtain⟨i,a,b⟩:=I.sq1<|h j o e;exact{i,λ_ q=>by cases q;exact⟨a,b⟩}
theorem bn.sq_inj(I:bn X ah σ H s){o:ir×nt}{xs L:fy V}(h:LC X.K H o xs)(g:LC X.K H o L):xs=L:=by
 obtain⟨c,a⟩:=o
 cases c
 .exact I.tuple_inj h g
 exact I.list_inj h g
theorem ce.of_get:∀{xs:fy V} {us:fy i2},xs.length=us.length->(∀(i:f7) x,xs[i]?=bi x->∃u,us[i]?=bi u/\cq x u)->ce xs us
 |[],[],_,_=>.nil
 |x::xs,u::us,h,g=>.cons (by obtain⟨v,e,r⟩:=g 0 x rfl;cases e;exact r)<|ce.of_get (tM h) λi x e=>g (i+1) x e
noncomputable def Rt(n m:f7):fy nt:=(n+m+2)::(n+m)::(n+m+1)::(uP m).map (n+·)
theorem pV{d:f7}:d∈Rt n m↔n<=d/\d<=n+m+2:=by
 simp[Rt];constructor
 .rintro(h|h|h|⟨j,h,V⟩)<;>lia
 intro h
 by_cases V:d<n+m
 .exact .inr (.inr<|.inr {d-n,by lia,by lia})
 lia
theorem Ru{d:f7}(h:n<=d/\d<=n+m+2)(g:¬ d<n+m):d=n+m\/d=n+m+1\/d=n+m+2:=by lia
def EA{d:f7}(h:d∉Rt n m):u7 n m d:=by rw[pV]at h;omega
theorem Nj{w:qd}(h0:0<os.length)(h9:os.length<9)(z:∀(j:f7) (o:ir×nt),os[j]?=bi o->o.2<n) :
  CC P w K (.Tuple DN kk pos) (Vb K os) (Rt n os.length) (n+os.length+2) (λk h=>ZN os h n k .none) where
 mem:=by simp[Rt]
 obj:=λk h B d hd=>by
  have hd:=pV.mp hd;obtain⟨v,_,hO⟩:=B.O
  by_cases hj:d<n+os.length
  .have:=(B.i (d-n) _<|ak<|Nat.sub_lt_left_of_lt_add hd.1 hj).ex;rwa[Nat.add_sub_cancel' hd.1]at this
  .have:=Ru hd hj;rcases this with rfl|rfl|rfl
   .exact{_,B.P,λv q=>by cases q}
   .exact{_,hO,λv q=>by cases q}
   .exact{_,B.z,λv q=>by cases q}
 keep:=λk h h' B kp=>by
  obtain⟨v,hv,hO⟩:=B.O;exact{kp _ (pV.mpr #[0]) _ B.z,kp _ (pV.mpr #[0]) _ B.P,{v,hv,kp _ (pV.mpr #[0]) _ hO},
   λj o e=>(B.i j o e).at λo' e'=>kp _ (pV.mpr (by have:=(am.mp e).1;lia)) _ e'}
 item:=by
  intro X hP hw hK hc' k W s O H E I hf B hg;subst hP hw hK;obtain⟨xs,x,hg⟩:=hg;obtain⟨br,L⟩:=I.sqs λj o e=>(hg j o e).1;have gt:∀j,j<os.length->∃u,(br j)[k]?=bi u/\cq (x j) u:=λj hj=>(L j _<|ak hj).1.get (hg j _<|ak hj).2;refine Oz (I.ok.hd hc') h0 h9 B (λj o e=>{z j o e,(L j o e).2}) (λg ⟨us⟩ hv J a1 a5 kp=>{_,rfl,?_}) λg j hj D kp=>by obtain⟨u,hu,_⟩:=gt j hj;simp[hu]at D
  refine wpAny_letOwnedTupleGo_zip a1.z λg2 b1 s2=>?_;have uw:H s.heap.objs.size=b0:=I.hok.fresh<|av _;have hv:us.length=os.length:=hv;have V:ce ((uP os.length).map x) us:=ce.of_get (by simp[hv]) λj y hy=>by
   have hj:j<os.length:=by simpa using (am.mp hy).1
   obtain⟨u,hu,r⟩:=gt j hj;have e:=J j hj;simp[hj]at hy;subst hy;exact{u,by simpa[hu]using e.symm,r}
  have I1:bn X W O (dX H s.heap.objs.size<|.tup<|(uP os.length).map x) { s with heap:=s.heap.push { cls:=.type "tuple",data:=.seq us.toArray },toks:=s.toks }:=I.laid (λc o q=>ar _ q) (av _)
   ⟨by simp;exact aW (dL h9) (by decide),us,V,{_,ay _ rfl,rfl,_,rfl}⟩
  have fp:∀d∈Rt n os.length,yM X W (dX H s.heap.objs.size<|.tup<|(uP os.length).map x) d:=λd U=>by obtain⟨f0,f⟩:=hf d U;have:d<s.heap.objs.size:=eO (pV.mp U).2<|aD B.z;exact{by rw[bX<|aM this];exact f0,f}
  obtain⟨v,hv',hO⟩:=a1.O;refine{.ref s.heap.objs.size,_,bn.turnedL (s:={ s with heap:=s.heap.push { cls:=.type "tuple",data:=.seq us.toArray },toks:=s.toks }) I1 (λd o U q=>?_) fp,rfl,{_,uw,rfl,λxs' x' e=>?_},
   ⟨b1,s2.extBut _ _ (aM #[0]) a1.P,⟨v,hv',s2.extBut _ _ (aM #[0]) hO⟩,λj o e=>(a1.i j o e).extBut s2.extBut<|BA 2 (am.mp e).1⟩,λd U=>(fp d U).1}
  .have hz:=EA U;refine s2.extBut d o hz.zz ?_
   by_cases hb':d=s.heap.objs.size
   .subst hb';have R:=ay s.heap (o:={ cls:=.type "tuple",data:=.seq us.toArray }) rfl;have q':=q;rw[R]at q';cases q'
    exact a5
   .exact kp d o hz (by have q':(s.heap.push { cls:=.type "tuple",data:=.seq us.toArray }).get? d=bi o:=q;rwa[Heap.get?_push_ne _ _ _ hb']at q')
  .congr 2
   refine b_ λj hj=>?_;have R:=ak<|bN.mp hj;have:=I.sq_inj (e j _ R).1 (hg j _ R).1;have e2:=(e j _ R).2;rw[this,(hg j _ R).2]at e2;exact bf e2
 done:=by
  intro X hP hw hK hc' k W s O H E I hf B hg;subst hP hw hK;obtain⟨xs,hg,j0,hj0,Y⟩:=hg;obtain⟨br,L⟩:=I.sqs hg;refine Oz (I.ok.hd hc') h0 h9 B (λj o e=>{z j o e,(L j o e).2}) (λg Z hv J a1 a5 kp=>?_) λg j hj D kp=>{rfl,I.turnedL (λd o U q=>kp d o (EA U) q) hf}
  have e:=J j0 hj0;have:=(L j0 _<|ak hj0).1.length;rw[Array.getElem?_eq_none (by simp;lia),gb<|hv▸hj0]at e
  cases e
 self:=λA k s Q E B h=>wpAny_pyIter_zip B.z h
theorem ce.refs:∀{os:fy (ir×nt)} {us:fy i2},ce (os.map λo=>V.ref o.2) us->us=os.map λo=>Zv o.2
 |[],_,h=>by cases h;rfl
 |o::os,_,h=>by cases h with|cons a b=>cases a;rw[ce.refs b];rfl
def XW(K:ti)(m:f7)(Z:TA):TI:=λσ H R=>Z σ H λvs H1=>∃os:fy (ir×nt),os.length=m/\vs=os.map (λo=>V.ref o.2)/\(∃xs:f7->fy V,∀j o,os[j]?=bi o->LC K H1 o (xs j))/\R (Vb K os) H1
theorem zy{m:f7}{a:ow}{as:fy ow}{ta:TA}{p pos tp:Pos}{DN:fy ow}{kk:f7}(h0:0<m)(h9:m<9)(c1:∀l:fy i2,l.length=m->checkTypeCall "zip" ⟨l,[]⟩=pure ()/\checkBuiltinCall "zip.__new__" ⟨.type "zip" :: l,[]⟩=pure ()/\∀ob,argsOk "object.__init__" ⟨ob::l,[]⟩)
  (hm:X.mg "zip"=b0) (r:QA X (a::as) ta) (hg:Gl X "zip":=by rfl) (d:qe (a::as) X.env=(eh,eval a X.env)::qe as X.env:=by rfl)
  (oq:(Zt pos<|qe as X.env).any (·.1)=eh:=by rfl):QI X (.Tuple DN kk tp) (.Call (.Name "zip" p) (a::as) [] pos) (XW X.K m ta):={by
 refine λW s O H R I h=>Call_<|rj I hg hm boot_zip<|fK (h_ (r.h pos W s O H _ I h) λus k zx=>?_) d oq;obtain⟨w,H1,I1,V,z⟩:=zx;obtain⟨os,rfl,rfl,⟨Y,J⟩,q⟩:=z;rw[V.refs];obtain⟨br,L⟩:=I1.sqs J;obtain⟨B,e2,e3⟩:=c1 (os.map λo=>Zv o.2) (by simp);have lt:∀(j:f7) o,os[j]?=bi o->o.2<k.heap.objs.size:=λj o e=>n6.lt (L j o e).2;refine Ni h9 B e2 e3 (λo Z=>by obtain⟨j,hj⟩:=fg Z;exact{_,(L j o hj).2}) λg B kp=>wpAny_pyIter_zip B.z {_,Rt k.heap.objs.size os.length,_,_,H1,rfl,I1.kept kp,Nj h0 h9 lt,B,λc U=>?_,q};have D:=(pV.mp U).1;exact I1.fpOk D<|I1.hok.fresh D}
theorem RelWs.maps{w:f7->W}{v:f7->V}:∀l:fy f7,(∀j∈l,bp K μ H (w j)<|v j)->RelWs K μ H (l.map w) (l.map v)
 |[],_=>.nilI
 |j::l,h=>.consI (h j<|by simp) (RelWs.maps l λi L=>h i<|by simp[L])
theorem Jy(S:fq X.K X.mg μ st H){xs:f7->fy V}{ws:f7->fy W}(R:∀j o,os[j]?=bi o->LC X.K H o (xs j)/\RelWs X.K μ H (ws j) (xs j)) :
  (∀w:f7->W,(∀j,j<os.length->(ws j)[i]?=bi (w j))->(Vb X.K os).go i H/\∀x H',(Vb X.K os).yld i H x H'->dy X.K H H'/\fq X.K X.mg μ st H'/\bp X.K μ H' (.tup<|(uP os.length).map w) x) /\
   ((∃j,j<os.length/\(ws j).length<=i)->(Vb X.K os).stop i H):=by
 refine{λw Z=>?_,λzy=>by obtain⟨j,O,U⟩:=zy;exact ⟨xs,λj o e=>(R j o e).1,j,O,by rw[<- (R j _<|ak O).2.len];exact U⟩};obtain⟨v,B⟩:=nJ (r:=λj v=>∀o,os[j]?=bi o->(xs j)[i]?=bi v/\bp X.K μ H (w j) v) λj=>by
  cases e:os[j]? with
  |none=>exact{.non,λo h=>by cases h}
  |some o=>
   obtain⟨v,a,b⟩:=(R j o e).2.get<|Z j (am.mp e).1;exact{v,λ_ _=>⟨a,b⟩}
 have k:∀j o,os[j]?=bi o->LC X.K H o (xs j)/\(xs j)[i]?=bi (v j):=λj o e=>{(R j o e).1,(B j o e).1}
 refine⟨⟨xs,v,k⟩,λz H'' J=>?_⟩;obtain⟨q,L,rfl,d⟩:=J;have e:=d xs v k;subst e;have ex:=fY.same (K:=X.K)<|cw L<|.tup<|(uP os.length).map v;exact{ex,S.same<|cw L _,.tupI fY.new<|RelWs.maps _ λj O=>(B j _<|ak<|bN.mp O).2.mono (af _) ex}
theorem EB{a b:α}{P:f7->α->Prop}(V:P 0 a)(Z:P 1 b):∀(j:f7) o,[a,b][j]?=bi o->P j o
 |0,_,rfl=>V
 |1,_,rfl=>Z
theorem OA{a b c:α}{P:f7->α->Prop}(V:P 0 a)(Z:P 1 b)(B:P 2 c):∀(j:f7) o,[a,b,c][j]?=bi o->P j o
 |0,_,rfl=>V
 |1,_,rfl=>Z
 |2,_,rfl=>B
theorem fq.at(S:fq K mg μ st H){t:nt}(f:μ[n]?=bi t)(e:L2.lstOf st n=bi ws):∃vs,rZ K H t vs/\RelWs K μ H ws vs:=by
 obtain⟨a,vs,g,h,r⟩:=S.lstOf e;rw[f]at g;cases g
 exact⟨vs,h,r⟩
section
variable{a b:ow}{fs:FA}{tp:Pos}
theorem Nl(hm:X.mg "zip"=b0)(I:SA X [a,b] fs)(hg:Gl X "zip":=by rfl)(d:qe [a,b] X.env=(eh,eval a X.env)::qe [b] X.env:=by rfl)(lR:(Zt pos<|qe [b] X.env).any (·.1)=eh:=by rfl) :
  SI X (.Tuple DN kk tp) (.Call (.Name "zip" p) [a,b] [] pos) (rJ fs):=⟨(zy (m:=2) (by decide) (by decide) (λ|[a,b],_=>{F.typeCall_zip_2 _ _,F.newCall_zip_2 _ _,λob=>F.args_object_init_3 ob _ _}) hm {I.h} hg d lR).h.imp λO H R h=>by
 obtain⟨μ,Y,V,l,h⟩:=h;refine{μ,Y,V,l,RK.bind h l λL st1 x v H1 p1 x1 l1 B Z=>?_}
 split at Z
 .rename_i zs ws
  obtain⟨y,W,rfl,ry,r1⟩:=B.consE;obtain⟨w,rfl,mL⟩:=r1.one;obtain⟨t,D,rfl,hS,r⟩:=ry.tupE;obtain⟨t',AD,rfl,hS',r'⟩:=mL.tupE;refine⟨[(eh,t),(eh,t')],rfl,rfl,⟨([D,AD].getD · []),EB hS hS'⟩,Z L _ H1 (af _) dy.refl l1.sto λi μ' bx H' pp xx S _=>?_⟩;have k:=Jy S (xs:=([D,AD].getD · [])) (ws:=([zs,ws].getD · [])) (i:=i)<|EB (a:=(eh,t)) (b:=(eh,t')) {xx _ _ hS,r.mono pp xx} {xx _ _ hS',r'.mono pp xx};refine{λw z=>?_,λU=>k.2 ?_}
  .obtain⟨x,y,J,hy,rfl⟩:=lH z;exact k.1 ([x,y].getD · .non) λ|0,_=>J|1,_=>hy
  rw[nh]at U;rcases tN zs.length ws.length with h|h
  .exact{0,Nat.zero_lt_two,by rwa[hZ h]at U}
  exact{1,Nat.one_lt_two,by rwa[nK h]at U}
 exact Z.elim⟩
theorem EC(hm:X.mg "zip"=b0)(I:SA X [a,b] fs)(hg:Gl X "zip":=by rfl)(d:qe [a,b] X.env=(eh,eval a X.env)::qe [b] X.env:=by rfl)(lR:(Zt pos<|qe [b] X.env).any (·.1)=eh:=by rfl) :
  Yx X (.Tuple DN kk tp) (.Call (.Name "zip" p) [a,b] [] pos) (vZ fs):=⟨(zy (m:=2) (by decide) (by decide) (λ|[a,b],_=>{F.typeCall_zip_2 _ _,F.newCall_zip_2 _ _,λob=>F.args_object_init_3 ob _ _}) hm {I.h} hg d lR).h.imp λO H R h=>by
 obtain⟨μ,Y,V,l,h⟩:=h;refine{μ,Y,V,l,RK.bind h l λL st1 x v H1 p1 x1 l1 q1 Z=>?_}
 split at Z
 .rename_i n m
  split at Z
  .rename_i zs ws B e2
   obtain⟨y,W,rfl,ry,r1⟩:=q1.consE;obtain⟨w,rfl,mL⟩:=r1.one;obtain⟨t,f1,rfl⟩:=ry.locE;obtain⟨t',f2,rfl⟩:=mL.locE;obtain⟨D,hS,r⟩:=l1.sto.at f1 B;obtain⟨AD,hS',r'⟩:=l1.sto.at f2 e2;refine⟨[(cT,t),(cT,t')],rfl,rfl,⟨([D,AD].getD · []),EB hS hS'⟩,Z L _ H1 (af _) dy.refl l1.sto λi μ' bx H' pp xx S ck=>?_⟩;obtain⟨us,hS,r⟩:=S.at (pre_get pp f1) (ck (n,zs)<|by simp)
   obtain⟨us',hS',r'⟩:=S.at (pre_get pp f2) (ck (m,ws)<|by simp)
   have k:=Jy S (xs:=([us,us'].getD · [])) (ws:=([zs,ws].getD · [])) (i:=i)<|EB (a:=(cT,t)) (b:=(cT,t')) ⟨hS,r⟩ ⟨hS',r'⟩;refine{λw z=>?_,λU=>k.2 ?_}
   .obtain⟨x,y,J,hy,rfl⟩:=lH z;exact k.1 ([x,y].getD · .non) λ|0,_=>J|1,_=>hy
   rw[nh]at U;rcases tN zs.length ws.length with h|h
   .exact{0,Nat.zero_lt_two,by rwa[hZ h]at U}
   exact{1,Nat.one_lt_two,by rwa[nK h]at U}
  exact Z.elim
 exact Z.elim⟩
theorem Nm(hm:X.mg "zip"=b0)(I:SA X [a,b,c] fs)(hg:Gl X "zip":=by rfl)(d:qe [a,b,c] X.env=(eh,eval a X.env)::qe [b,c] X.env:=by rfl)(lR:(Zt pos<|qe [b,c] X.env).any (·.1)=eh:=by rfl) :
  SI X (.Tuple DN kk tp) (.Call (.Name "zip" p) [a,b,c] [] pos) (wn fs):=⟨(zy (m:=3) (by decide) (by decide) (λ|[a,b,c],_=>{Gx _ _ _,Jn _ _ _,λob=>Gy ob _ _ _}) hm {I.h} hg d lR).h.imp λO H R h=>by
 obtain⟨μ,Y,V,l,h⟩:=h;refine{μ,Y,V,l,RK.bind h l λL st1 x v H1 p1 x1 l1 q1 Z=>?_}
 split at Z
 .rename_i n ws us
  obtain⟨y,W,rfl,ry,r1⟩:=q1.consE;obtain⟨y2,ys2,rfl,ry2,r2⟩:=r1.consE;obtain⟨y3,rfl,ry3⟩:=r2.one;obtain⟨t1,f1,rfl⟩:=ry.locE;obtain⟨t,D,rfl,hS,r⟩:=ry2.tupE;obtain⟨t',AD,rfl,hS',r'⟩:=ry3.tupE
  cases B:lstOf st1 n with
  |none=>rw[B]at Z;exact Z.elim
  |some xs=>
   rw[B]at Z;obtain⟨vs0,hS0,r0⟩:=l1.sto.at f1 B;refine⟨[(cT,t1),(eh,t),(eh,t')],rfl,rfl,⟨([vs0,D,AD].getD · []),OA hS0 hS hS'⟩,Z L _ H1 (af _) dy.refl l1.sto λi μ' bx H' pp xx S ck=>?_⟩;obtain⟨u0,hS0,r0⟩:=S.at (pre_get pp f1) ck;have k:=Jy S (xs:=([u0,D,AD].getD · [])) (ws:=([xs,ws,us].getD · [])) (i:=i)<|OA (a:=(cT,t1)) (b:=(eh,t)) (c:=(eh,t')) ⟨hS0,r0⟩ {xx _ _ hS,r.mono pp xx} {xx _ _ hS',r'.mono pp xx};refine{λw hw=>?_,λU=>k.2<|Classical.byContradiction λno=>?_}
   .obtain⟨x,y,z,J,hy,hz,rfl⟩:=ug hw;exact k.1 ([x,y,z].getD · .non) λ|0,_=>J|1,_=>hy|2,_=>hz
   have g:∀j,j<3->i<([xs,ws,us].getD j []).length:=λj hj=>nI λh=>no ⟨j,hj,h⟩;rw[uh]at U;exact absurd (Nat.lt_min.mpr {g 0 (by decide),Nat.lt_min.mpr ⟨g 1 (by decide),g 2<|by decide⟩})<|Nat.not_lt_of_le U
 exact Z.elim⟩
end
section
end
section
variable{a o kX:ow}{c f m:Str}{fl:fy Str}{fo:FE}{fs:FA}
end
section
variable{w:qd}{k:f7}{c q m:Str}{st:tf}{G:fy W->fy al->R W}
end
def zA(st x:fy al)(k:f7):(st++x)[st.length+k]?=x[k]?:=by rw[bA<|by omega];congr 1;omega
def sJ(st x:fy al):(st++x)[st.length]?=x[0]?:=zA st x 0
def BB(st x:fy al)(k:f7)(c:al):(st++x).set (st.length+k) c=st++x.set k c:=by simp
def iP(st x:fy al)(c:al):(st++x).set st.length c=st++x.set 0 c:=BB st x 0 c
def a7{x:fy al}{c:al}(h:st[n]?=bi c):(st++x)[n]?=bi c:=by rw[bu (am.mp h).1];exact h
def Ds(st:fy al)(ws:fy W):kU st st ws=st:=by unfold kU;split<;>simp
def ul{x:fy al}{ws:fy W}(h:undWs st.length ws=cT):kU st (st++x) ws=st:=by unfold kU;rw[ax {h,by simp,λi L=>.inl<|bu L}];simp
def yw(h:undWs st.length ws=eh):kU st bx ws=bx:=by unfold kU;rw[aF λk=>by have:=k.1;rw[h]at this;cases this]
def sK{body:FS}{w:W}(h:body (ws.map bi++rn (N-ws.length) b0) st=.rt w bx):eL N body ws st=.ok w (kU st bx [w]):=by unfold eL;rw[h]
def qD{body:FS}{w:W}(h:body (ws.map bi++rn (N-ws.length) b0) st=.rt w st):eL N body ws st=.ok w st:=by rw[sK h,Ds]
def BC{body:FS}{x:fy al}{w:W}(h:body (ws.map bi++rn (N-ws.length) b0) st=.rt w (st++x))(D:undWs st.length [w]=cT):eL N body ws st=.ok w st:=by rw[sK h,ul D]
def Jz{body:FS}{x:fy al}{k:f7}(h:body (ws.map bi++rn (N-ws.length) b0) st=.rt (.loc<|st.length+k) (st++x)):eL N body ws st=.ok (.loc<|st.length+k) (st++x):=by rw[sK h,yw<|by simp[undWs,W.und]]
def JA{g g':FS}{I:bR}(h:g ρ st=.nx I bx):aY g g' ρ st=g' I bx:=by unfold aY;rw[h]
def zB{f:FG}{body:FS}{k:Ga}(h:fi ρ st=.ok k bx):gE fi f body ρ st=sA f body k.2 k.1 ρ bx:=by unfold gE;rw[h];rfl
theorem wu{f:FG}{body:FS}(I:f7->bR->fy al->Prop):∀{ws:fy W} {ρ:bR} {st:fy al} (J:f7),I J ρ st->(∀i ρ st,I i ρ st->iC st ck) ->
  (∀i w ρ st,ws[i]?=bi w->I (J+i) ρ st->∃z U st2,f w ρ=bi z/\body z st=.nx U st2/\I (J+i+1) U st2) ->
  ∃U st2,sA f body ck ws ρ st=.nx U st2/\I (J+ws.length) U st2
 |[],ρ,st,J,h0,hc,hs=>{ρ,st,by unfold sA;rw[ax<|hc _ _ _ h0],h0}
 |w::ws,ρ,st,J,h0,hc,hs=>by
  obtain⟨z,U,st2,R,e2,Z⟩:=hs 0 w ρ st rfl h0;obtain⟨r,L,O,Y⟩:=wu I (J+1) Z hc λi w ρ st V D=>by obtain⟨a,b,c,d,e,g⟩:=hs (i+1) w ρ st (by trivial) (by rw[show J+(i+1)=J+1+i by lia];exact D);exact{a,b,c,d,e,by rw[show J+1+i+1=J+(i+1)+1 by lia];exact g}
  refine{r,L,?_,by rw[cX,show J+(ws.length+1)=J+1+ws.length by lia];exact Y};unfold sA;rw[ax<|hc _ _ _ h0,R];simp[e2];exact O
theorem GF{g:FS}(I:f7->bR->fy al->Prop):∀(n:f7) {ρ:bR} {st:fy al},I n ρ st ->
  (∀n ρ st,I n ρ st->t ρ st=.ok eh st\/(t ρ st=.ok cT st/\∃U st2 m,g ρ st=.nx U st2/\m<n/\I m U st2)) ->
  ∃m U st2,rF t g ρ st=.nx U st2/\I m U st2/\t U st2=.ok eh st2:=by
 intro n ρ st h d;have key:∀k n ρ st,n<k->I n ρ st->∃m U st2,gF t g k ρ st=.nx U st2/\I m U st2/\t U st2=.ok eh st2:=by
  intro k
  induction k with
  |zero=>intro n _ _ h;exact absurd h (fC _)
  |succ k J=>
   intro n ρ st O D;rcases d n ρ st D with e|⟨e,U,st2,m,e2,hm,B⟩
   .exact{n,ρ,st,by unfold gF;rw[e];rfl,D,e}
   obtain⟨z,r,L,w,Y⟩:=J m U st2 #[0] B;exact{z,r,L,by unfold gF;rw[e];simp[e2];exact w,Y}
 obtain⟨m,U,st2,e,B⟩:=key (n+1) n ρ st (dR n) h;exact{m,U,st2,Gb e (by simp),B}
section
variable{ρ':bR}{st2 gW Ai:fy al}{fo fi:FE}{fs:FA}{u:FT}{x y z w v:W}{xs zs:fy W}{a b k:ir}{g g':FS}
def ef(h:ρ[i]?=bi (bi w)):ac i ρ st=.ok w st:=by unfold ac;rw[h]
def cn:eC w ρ st=.ok w st:=rfl
def bw(Z:fa ρ st=.ok x st1)(B:fb ρ st1=.ok y st2)(Y:f x y st2=.ok z gW):e2 f fa fb ρ st=.ok z gW:=by unfold e2;rw[Z];simp;rw[B];exact Y
def a6:aw ρ st=.ok [] st:=rfl
def au(Z:fa ρ st=.ok x st1)(B:fs ρ st1=.ok xs st2):ae fa fs ρ st=.ok (x::xs) st2:=by unfold ae;rw[Z];simp;rw[B];rfl
def Rv:Ee ls ρ st=.ok (ls.map W.str) st:=rfl
def iF(Z:fs ρ st=.ok ws st1)(B:ws.length<=j'):eX fs ρ st=.ok (.tup ws) st1:=by unfold eX;rw[Z];simp only[R.bind_ok,qW];rw[ax B]
def ww(Z:fs ρ st=.ok ws st1)(B:ws.length<=j'):dW fs ρ st=.ok (.loc st1.length) (st1++[.lst ws]):=by unfold dW;rw[Z];simp only[R.bind_ok,jW];rw[ax B]
def bc(Z:fs ρ st=.ok ws st1)(B:F ws st1=.ok w st2):aU F fs ρ st=.ok w st2:=by unfold aU;rw[Z];exact B
def cC(Z:fs ρ st=.ok ws st1)(B:F ws st1=.ok w st2)(L:ws.length=n):c7 n F fs ρ st=.ok w st2:=by unfold c7;rw[Z];simp;rw[ax L];exact B
def c_(h:fa ρ st=.ok (.bl k) st1):fD fa ρ st=.ok k st1:=by unfold fD;rw[h];rfl
def ED(Z:t ρ st=.ok cT st1)(B:u ρ st1=.ok k st2):Og t u ρ st=.ok k st2:=by unfold Og;rw[Z];exact B
def EE(Z:t ρ st=.ok eh st1):Og t u ρ st=.ok eh st1:=by unfold Og;rw[Z];rfl
def EF(Z:t ρ st=.ok eh st1)(B:u ρ st1=.ok k st2):Hc t u ρ st=.ok k st2:=by unfold Hc;rw[Z];exact B
def EG(Z:t ρ st=.ok cT st1):Hc t u ρ st=.ok cT st1:=by unfold Hc;rw[Z];rfl
def yx(Z:t ρ st=.ok a st1)(B:(!a)=k):TF t ρ st=.ok k st1:=by unfold TF;rw[Z,<- B];rfl
def qE(Z:fa ρ st=.ok (.bl cT) st1)(B:fb ρ st1=.ok w st2):sk fa fb ρ st=.ok w st2:=by unfold sk;rw[Z];exact B
def zC(Z:fa ρ st=.ok (.bl eh) st1):sk fa fb ρ st=.ok (.bl eh) st1:=by unfold sk;rw[Z];rfl
def Dt(Z:fa ρ st=.ok (.bl eh) st1)(B:fb ρ st1=.ok w st2):Il fa fb ρ st=.ok w st2:=by unfold Il;rw[Z];exact B
def Du(Z:fa ρ st=.ok (.bl cT) st1):Il fa fb ρ st=.ok (.bl cT) st1:=by unfold Il;rw[Z];rfl
def JB(Z:fa ρ st=.ok (.bl a) st1)(B:(!a)=k):Im fa ρ st=.ok (.bl k) st1:=by unfold Im;rw[Z,<- B];rfl
def Vc(Z:t ρ st=.ok cT st1)(B:fa ρ st1=.ok w st2):QT t fa fb ρ st=.ok w st2:=by unfold QT;rw[Z];exact B
def Vd(Z:t ρ st=.ok eh st1)(B:fb ρ st1=.ok w st2):QT t fa fb ρ st=.ok w st2:=by unfold QT;rw[Z];exact B
def rN{F:W->fy W->fy al->R W}(Z:fo ρ st=.ok x st1)(U:vP st1 x=cT)(B:fs ρ st1=.ok ws st2)(Y:F x ws st2=.ok w gW):uX F fo fs ρ st=.ok w gW:=by unfold uX;rw[Z];simp;rw[ax U,B];exact Y
def zD{F:W->fy W->fy al->R W}(Z:fo ρ st=.ok x st1)(U:Op x=cT)(B:fs ρ st1=.ok ws st2)(Y:F x ws st2=.ok w gW):Cv F fo fs ρ st=.ok w gW:=by unfold Cv;rw[Z];simp;rw[ax U,B];exact Y
def gB(h:st[n]?=bi (.lst ws)):vP st (.loc n)=cT:=by simp only[vP,h]
def yy{q:hG}(h:fa ρ st=.ok (.int q) st1):t8 fa ρ st=.ok (.int (-q)) st1:=by unfold t8;rw[h];rfl
def EH{c:String}(h:fa ρ st=.ok x st1)(J:x.ty=bi c)(O:MP c T=k):Gh T fa ρ st=.ok (.bl k) st1:=by unfold Gh;rw[h];simp[J,O]
def Ve(h:fa ρ st=.ok x st1)(O:x.isNon=k):UO fa ρ st=.ok (.bl k) st1:=by unfold UO;rw[h,<- O];rfl
def Rw(h:fa ρ st=.ok x st1)(O:(!x.isNon)=k):Oh fa ρ st=.ok (.bl k) st1:=by unfold Oh;rw[h,<- O];rfl
def Nn:sw ρ st=.ok b0 st:=rfl
def BD{q:hG}(h:fa ρ st=.ok (.int q) st1):kS fa ρ st=.ok (bi q) st1:=by unfold kS;rw[h];rfl
def GG{O r:FO}{l h:hJ hG}(Z:fa ρ st=.ok x st1)(B:O ρ st1=.ok l st2)(Y:r ρ st2=.ok h gW)(V:Hd x l h gW=.ok w Ai):F' fa O r ρ st=.ok w Ai:=by unfold F';rw[Z];simp;rw[B];simp;rw[Y];exact V
def bB(h:fe ρ st=.ok w st1):bG i fe ρ st=.nx (ρ.set i<|bi w) st1:=by unfold bG;rw[h];rfl
def iZ(h:fe ρ st=.ok w st1):gy fe ρ st=.nx ρ st1:=by unfold gy;rw[h];rfl
def BE(h:fe ρ st=.ok w st1):db fe ρ st=.rt w st1:=by unfold db;rw[h];rfl
def uJ{f:W->W->W->fy al->hJ (fy al)}(Z:fe ρ st=.ok v st1)(B:fo ρ st1=.ok x st2)(Y:fi ρ st2=.ok y gW)(O:f x y v gW=bi Ai):vN fo fi fe f ρ st=.nx ρ Ai:=by unfold vN;rw[Z];simp;rw[B];simp;rw[Y];simp;rw[O]
def wz{r:RS}(Z:t ρ st=.ok cT st1)(B:g ρ st1=r):jB t g g' ρ st=r:=by unfold jB;rw[Z];exact B
def wA{r:RS}(Z:t ρ st=.ok eh st1)(B:g' ρ st1=r):jB t g g' ρ st=r:=by unfold jB;rw[Z];exact B
def Dv:cR ρ st=.nx ρ st:=rfl
def OB{r:RS}(h:g ρ st=.nx ρ' st1)(B:g' ρ' st1=r):aY g g' ρ st=r:=by rw[JA h];exact B
def JC(h:g ρ st=.rt w st1):aY g g' ρ st=.rt w st1:=by unfold aY;rw[h]
def eN{p q:hG}:dF (.int p) (.int q) st=.ok (.int<|p+q) st:=rfl
def Dw{p q:fy f7}(h:p.length+q.length<=j'):dF (.str p) (.str q) st=.ok (.str<|p++q) st:=by simp only[dF];rw[ax h]
def wB(Z:st[n]?=bi (.lst ws))(B:st[m]?=bi (.lst xs))(h:(ws++xs).length<=j'):dF (.loc n) (.loc m) st=.ok (.loc st.length) (st++[.lst<|ws++xs]):=by unfold dF;simp only[Z,B,jW];rw[ax h]
def kg{C:hG->hG->Prop}[∀i j,Decidable<|C i j]{f:hG->hG->hG}{p q:hG}(h:C p q):F7 C f (.int p) (.int q) st=.ok (.int<|f p q) st:=by simp only[F7];rw[ax h]
def jH{p q:hG}(h:uV p q):fM (.int p) (.int q) st=.ok (.int<|p*q) st:=by simp only[fM];rw[ax h]
def lK{f:hG->hG->ir}{p q:hG}(h:f p q=k):F8 f (.int p) (.int q) st=.ok (.bl k) st:=by rw[<- h];rfl
def JD{p q:hG}(h:decide (p<=q)=k):IG (.int p) (.int q) st=.ok (.bl k) st:=by rw[<- h];rfl
def kA{p q:hG}(h:(p==q)=k):ik (.int p) (.int q) st=.ok (.bl k) st:=by rw[<- h];rfl
def Vf{p q:hG}(h:(!(p==q))=k):uW (.int p) (.int q) st=.ok (.bl k) st:=by rw[<- h];rfl
def Vg{p q:fy f7}(h:(p==q)=k):ik (.str p) (.str q) st=.ok (.bl k) st:=by rw[<- h];rfl
def jI{q:hG}(h:uS ws q=bi w):bd (.tup ws) (.int q) st=.ok w st:=by unfold bd;simp[h]
def kv(h:ρ[i]?=bi (bi w):=by rfl):ac i ρ st=.ok w st:=ef h
def ox{q:hG}(h:uS ws q=bi w:=by rfl):bd (.tup ws) (.int q) st=.ok w st:=jI h
def kn(h:ρ[i]?=bi (bi w):=by rfl):ae (ac i) aw ρ st=.ok [w] st:=au (ef h) a6
def EI{q:hG}{c:f7}(U:l.length<=j')(h:uS l q=bi c):bd (.str l) (.int q) st=.ok (.str [c]) st:=by unfold bd;simp only[h,fQ];rw[ax U]
def kB{q:hG}(U:lstOf st n=bi ws)(h:uS ws q=bi w):bd (.loc n) (.int q) st=.ok w st:=by unfold bd;simp[U,h]
def kJ:b9 [.tup ws] st=.ok (.int ws.length) st:=rfl
def jo(h:l.length<=j'):b9 [.str l] st=.ok (.int l.length) st:=by unfold b9;simp only;rw[ax h]
def jp(U:lstOf st n=bi ws):b9 [.loc n] st=.ok (.int ws.length) st:=by unfold b9;simp[U]
def aL(h:st[n]?=bi (.lst ws)):lstOf st n=bi ws:=by unfold lstOf;rw[h]
def vj(h:st[n]?=bi (.ro ws)):lstOf st n=bi ws:=by unfold lstOf;rw[h]
def JE(h:st[n]?=bi (.lst ws))(U:ws.length<j'):dJ (.loc n) [y] st=.ok .non (st.set n<|.lst<|ws++[y]):=by unfold dJ;simp only[h];rw[ax U]
def Rx{q:hG}(h:st[n]?=bi (.lst ws))(L:yP ws.length q=bi j):sy (.loc n) (.int q) v st=bi (st.set n<|.lst<|ws.set j v):=by unfold sy;simp only[h,L];rfl
def rO{sep:fy f7}{ls:fy (fy f7)}(h:lstOf st n=bi (ls.map W.str))(U:(ls.map ZH).sum+ls.length*sep.length<=j'):jZ (.str sep) [.loc n] st=.ok (.str<|oO sep ls) st:=by unfold jZ;simp only[h,fQ,yj];rw[ax U]
def OC{l h:hJ hG}(U:lstOf st n=bi ws):Hd (.loc n) l h st=.ok (.loc st.length) (st++[.lst<|mT ws l h]):=by unfold Hd;simp[U]
def EJ{l h:hJ hG}{z:fy f7}(U:z.length<=j'):Hd (.str z) l h st=.ok (.str<|mT z l h) st:=by unfold Hd;simp only;rw[ax U]
def Vh{l h:hJ hG}:Hd (.tup ws) l h st=.ok (.tup<|mT ws l h) st:=rfl
def sL(h:fe ρ st=.ok (.tup ws) st1):bV fe ρ st=.ok (ws,b0) st1:=by unfold bV;rw[h];rfl
def gm(h:fe ρ st=.ok (.loc n) st1)(U:lstOf st1 n=bi ws):bV fe ρ st=.ok (ws,bi (n,ws)) st1:=by unfold bV;rw[h];simp[U]
def cS{q:hG}(h:fs ρ st=.ok [.int q] st1)(Z:-(2^62)<=q/\q<2^62):bq fs ρ st=.ok (iD 0 q.toNat,b0) st1:=by unfold bq;rw[h];simp only[R.bind_ok];rw[ax Z]
def df{l:fy α}{q:f7}{x:α}(h:l[q]?=bi x):uS l (q:hG)=bi x:=by have Z:=(am.mp h).1;unfold uS yP;rw[ax #[0],ax #[0]];simpa using h
def ia(P:RS->Prop)(r:RS):Prop:=P r
def LF(I:bR->fy al->Prop):RS->Prop:=λr=>∃ρ st,r=.nx ρ st/\I ρ st
def zE(I:W->fy al->Prop):RS->Prop:=λr=>∃w st,r=.rt w st/\I w st
variable{P:RS->Prop}{cN:FS}
def fZ{r R:RS}(h:r=R)(B:P R):ia P r:=by rw[h];exact B
def aH(h:g ρ st=.nx ρ' st1)(B:ia P (g' ρ' st1)):ia P (aY g g' ρ st):=by rw[JA h];exact B
def iG(Z:t ρ st=.ok cT st1)(B:ia P (g ρ st1)):ia P (jB t g g' ρ st):=by rw[wz Z rfl];exact B
def iH(Z:t ρ st=.ok eh st1)(B:ia P (g' ρ st1)):ia P (jB t g g' ρ st):=by rw[wA Z rfl];exact B
def dC(Z:t ρ st=.ok cT st1)(B:ia P (aY g cN ρ st1)):ia P (aY (jB t g g') cN ρ st):=by unfold aY at B ⊢;rw[wz Z rfl];exact B
def cM(Z:t ρ st=.ok eh st1)(B:ia P (aY g' cN ρ st1)):ia P (aY (jB t g g') cN ρ st):=by unfold aY at B ⊢;rw[wA Z rfl];exact B
theorem iQ{h:FS}(B:ia P (aY g (aY g' h) ρ st)):ia P (aY (aY g g') h ρ st):=by
 unfold aY at B ⊢
 cases e:g ρ st<;>simp[e]at B ⊢ <;> exact B
def eA(B:ia P (cN ρ st)):ia P (aY cR cN ρ st):=B
def cH(h:fe ρ st=.ok w st1)(B:P (.rt w st1)):ia P (db fe ρ st):=by rw[BE h];exact B
def dg(h:fe ρ st=.ok w st1)(B:P (.rt w st1)):ia P (aY (db fe) cN ρ st):=by rw[JC<|BE h];exact B
theorem fw{fi:FI}{f:FG}{body:FS}{k:Ga}(I:f7->bR->fy al->Prop)(h:fi ρ st=.ok k st1)(V:I 0 ρ st1)(D:∀i ρ st,I i ρ st->iC st k.2)
  (d:∀i w ρ st,k.1[i]?=bi w->I i ρ st->∃ρ',f w ρ=bi ρ'/\ia (LF<|I<|i+1) (body ρ' st)) (Y:∀ρ st,I k.1.length ρ st->ia P (cN ρ st)):ia P (aY (gE fi f body) cN ρ st):=by
 obtain⟨U,r,e,B⟩:=wu I 0 V D λi w ρ st Z O=>by rw[lr]at O ⊢;obtain⟨ρ',R,U,r,e2,B⟩:=d i w ρ st Z O;exact⟨ρ',U,r,R,e2,B⟩
 rw[lr]at B;exact aH (by rw[zB h];exact e)<|Y _ _ B
theorem GH{body:FS}(I:f7->bR->fy al->Prop)(n:f7)(V:I n ρ st)
  (d:∀n ρ st,I n ρ st->t ρ st=.ok eh st\/(t ρ st=.ok cT st/\ia (LF λU st2=>∃m,m<n/\I m U st2) (body ρ st))) (Y:∀m ρ st,I m ρ st->t ρ st=.ok eh st->ia P (cN ρ st)):ia P (aY (rF t body) cN ρ st):=by
 obtain⟨m,U,st2,e,B,D⟩:=GF I n V λn ρ st O=>by
  rcases d n ρ st O with e|⟨e,U,st2,e2,m,hm,B⟩
  .exact .inl e
  exact .inr ⟨e,U,st2,m,e2,hm,B⟩
 exact aH e<|Y _ _ _ B D
theorem zF{body:FS}{Q:W->Prop}(h:ia (zE λw bx=>(∃x,bx=st++x)/\undWs st.length [w]=cT/\Q w) (body (ws.map bi++rn (N-ws.length) b0) st)):∃w,Q w/\eL N body ws st=.ok w st:=by obtain⟨w,bx,e,⟨x,rfl⟩,D,q⟩:=h;exact{w,q,BC e D}
theorem f9{N:f7}{body:FS}(h:ia (zE λL bx=>L=w/\∃x,bx=st++x) (body (ws.map bi++rn (N-ws.length) b0) st))(D:undWs st.length [w]=cT):eL N body ws st=.ok w st:=by obtain⟨w,bx,e,rfl,x,rfl⟩:=h;exact BC e D
theorem sM{N:f7}{body:FS}{Q:f7->fy al->Prop}(h:ia (zE λw bx=>∃j x,w=.loc (st.length+j)/\bx=st++x/\Q j x) (body (ws.map bi++rn (N-ws.length) b0) st)):∃j x,Q j x/\eL N body ws st=.ok (.loc<|st.length+j) (st++x):=by obtain⟨w,bx,e,j,x,rfl,rfl,q⟩:=h;exact{j,x,q,Jz e}
def dD{d:hG}(h:(iD d q)[i]?=bi w):i<q/\w=.int (d+i):=by unfold iD at h;obtain⟨Z,B⟩:=am.mp h;simp at Z;exact{Z,by rw[<- B];simp}
def qF{l:fy α}(h:q<=l.length):mT l b0 (bi (q:hG))=l.take q:=by unfold mT;rw[HT.sIx_none,HT.sIx_nat,hZ h];simp
def zG{l:fy α}(h:q<=l.length):mT l (bi (q:hG)) b0=l.drop q:=by unfold mT;rw[HT.sIx_none,HT.sIx_nat,hZ h];rw[fL<|by simp]
theorem n9{q:hG}{n:f7}(h:0<n):∃m:f7,m<n/\q%(n:hG)=m:=by have V:0<=q%n:=kP _ #[0];have Z:q%n<n:=Int.emod_lt_of_pos _ #[0];exact{(q%n).toNat,by lia,by lia}
end
section
variable{u:FT}{a b k:ir}{P:RS->Prop}{g g' cN:FS}{w:W}
def Dx(Z:t ρ st=.ok a st)(B:u ρ st=.ok b st):Og t u ρ st=.ok (a&&b) st:=by cases a;exact EE Z;exact ED Z B
def wC(Z:t ρ st=.ok a st)(B:u ρ st=.ok b st):Hc t u ρ st=.ok (a||b) st:=by cases a;exact EF Z B;exact EG Z
def Ry(Z:t ρ st=.ok a st):TF t ρ st=.ok (!a) st:=yx Z rfl
theorem um{N:f7}{body:FS}(h:ia (zE λL bx=>L=w/\bx=st) (body (ws.map bi++rn (N-ws.length) b0) st)):eL N body ws st=.ok w st:=by obtain⟨w,bx,e,rfl,rfl⟩:=h;exact qD e
end
end L2
open L2
local macro_rules | `(tactic| walk_at "ev1") => `(tactic| first
 | (with_reducible apply ef) <;> rfl
 | (with_reducible apply jI) <;> rfl
 | with_reducible first
  | exact cn | exact a6 | exact Rv | exact Nn | exact eN | exact kJ | exact Dv | exact Vh
  | apply bw | apply au | apply iF | apply ww | apply bc | apply cC | apply c_ | apply yx | apply JB
  | apply rN | apply zD | apply yy | apply EH | apply Ve | apply Rw | apply BD | apply GG | apply bB | apply iZ | apply BE | apply uJ
  | apply kg | apply jH | apply lK | apply JD | apply kA | apply Vf | apply Vg | apply Dw
 | decide
 | (show ZH _ <= j'; exact aB rfl)
 | (show @Eq f7 _ _; exact rfl)
 | (show @Eq ir _ _; exact rfl)
 | (show @Eq (hJ String) _ _; exact rfl)
 | (show @Eq _ _ _; with_reducible assumption))
local macro_rules | `(tactic| walk_at "evs") => `(tactic| repeat' walk_at "ev1")
local macro_rules | `(tactic| walk_at "tst") => `(tactic| first
 | (walk_at "evs"; done)
 | (apply EE; (focus walk_at "tst"); done)
 | (apply ED; (focus walk_at "tst"); (focus walk_at "tst"); done)
 | (apply EG; (focus walk_at "tst"); done)
 | (apply EF; (focus walk_at "tst"); (focus walk_at "tst"); done))
local macro_rules | `(tactic| walk_at "go1") => `(tactic| first
 | apply eA
 | (apply dg; (focus (walk_at "evs"; done)))
 | (apply cH; (focus (walk_at "evs"; done)))
 | (apply dC; (focus walk_at "tst"))
 | (apply cM; (focus walk_at "tst"))
 | (apply iG; (focus walk_at "tst"))
 | (apply iH; (focus walk_at "tst"))
 | (apply aH; (focus (walk_at "evs"; done))))
local macro_rules | `(tactic| walk_at "go") => `(tactic| repeat walk_at "go1")
local macro_rules | `(tactic| walk_at "tb") => `(tactic| repeat' (first | with_reducible apply Dx | with_reducible apply wC | with_reducible apply Ry | walk_at "ev1"))
local macro_rules | `(tactic| walk_at "len") => `(tactic| (simp only [aI, cX, fz]; show _ <= 1000000; omega))
namespace L2
open PySem PySem.Spec PyProof.Rows
section
variable{ρ' ρ2:bR}{st2:fy al}{fs:FA}{g gh cN:FS}{w:W}{c:Str}{cs:fy Str}{P:RS->Prop}{b:ir}
def Y8(c:Str)(I:fy al->Prop):RS->Prop:=λr=>∃ρ st,r=.ex c ρ st/\I st
theorem zH{N:f7}{body:FS}(h:ia (Y8 c λbx=>∃x,bx=st++x) (body (ws.map bi++rn (N-ws.length) b0) st)):eL N body ws st=.ex c st:=by obtain⟨Y,bx,e,x,rfl⟩:=h;unfold eL;rw[e];simp[ul (ws:=[]) rfl]
theorem JF{body:FS}(h:ia (LF λ_ bx=>∃x,bx=st++x) (body (ws.map bi++rn (N-ws.length) b0) st)):eL N body ws st=.ok .non st:=by obtain⟨Y,bx,e,x,rfl⟩:=h;unfold eL;rw[e];simp[ul (ws:=[]) rfl]
def GI(h:P (.ex c ρ st)):ia P (vV c ρ st):=h
def xC(h:P (.ex c ρ st)):ia P (aY (vV c) cN ρ st):=h
def BF(Z:fs ρ st=.ok ws st1)(B:F ws st1=.ex c st2)(L:ws.length=n):c7 n F fs ρ st=.ex c st2:=by unfold c7;rw[Z];simp;rw[ax L];exact B
def GJ(h:fe ρ st=.ex c st1):gy fe ρ st=.ex c ρ st1:=by unfold gy;rw[h];rfl
def JG(h:fe ρ st=.ex c st1):db fe ρ st=.ex c ρ st1:=by unfold db;rw[h];rfl
def Dy(h:g ρ st=.ex c ρ' st1)(B:P (.ex c ρ' st1)):ia P (aY g cN ρ st):=by unfold aY;rw[h];exact B
def Vi{f:Str->hJ ir}(h:fa ρ st=.ok (.loc n) st1)(D:st1[n]?=bi (.exc c))(O:f c=bi b):Gk f fa ρ st=.ok (.bl b) st1:=by unfold Gk;rw[h];simp[D,O]
def EK{p q:ir}(h:(p==q)=b):ik (.bl p) (.bl q) st=.ok (.bl b) st:=by rw[<- h];rfl
theorem JH{B:fy W}{k:f7}{y:W}(h:st[n]?=bi (.lst B))(O:k<=B.length)(U:B.length<j')(AB:k<1000000):qC (.loc n) [.int k,y] st=.ok .non (st.set n<|.lst (B.take k++y::B.drop k)):=by unfold qC;simp only[h,aO];rw[ax {by lia,O,U,by lia}]
theorem gT(I:bR->fy al->Prop)(h:ia (LF I) (g ρ st))(B:∀ρ st,I ρ st->ia P (cN ρ st)):ia P (aY g cN ρ st):=by obtain⟨z,J,e,L⟩:=h;exact aH e<|B _ _ L
end
section
variable{f:FG}
theorem BG{k:bR}(D:iC st ck)(T:W->ir)(Y:W->W):∀(ws acc:fy W),(∀w∈ws,∃I,f w k=bi I/\t I st=.ok (T w) st/\(T w=cT->el I st=.ok (Y w) st)) ->
  lD f t el ck k ws acc st=.ok (acc++(ws.filter T).map Y) st
 |[],acc,_=>by unfold lD;rw[ax D];simp
 |w::ws,acc,h=>by
  obtain⟨I,R,e2,O⟩:=h w (by simp);have U:=λacc=>BG D T Y ws acc λL d=>h L (by simp[d]);unfold lD;rw[ax D,R];simp[e2]
  cases z:T w with
  |true=>
   simp[O z];rw[U];simp[z]
  |false=>
   simp only;rw[U];simp[z]
def zI(T:W->ir)(Y:W->W)(h:fi ρ st=.ok (ws,ck) st1)(U:ws.length<=j')(D:iC st1 ck)
  (d:∀w∈ws,∃I,f w (kc cap ρ)=bi I/\t I st1=.ok (T w) st1/\(T w=cT->el I st1=.ok (Y w) st1)):cb cap fi f t el ρ st=.ok (.loc st1.length) (st1++[.lst<|(ws.filter T).map Y]):=by unfold cb;rw[h];simp;rw[ax U,BG D T Y ws [] d];simp only[R.bind_ok,jh,jW];rw[ax];rw[aj];exact aW (eK _ _) U
def vk(Y:W->W)(h:fi ρ st=.ok (ws,ck) st1)(U:ws.length<=j')(D:iC st1 ck)
  (d:∀w∈ws,∃I,f w (kc cap ρ)=bi I/\el I st1=.ok (Y w) st1):cb cap fi f d_ el ρ st=.ok (.loc st1.length) (st1++[.lst<|ws.map Y]):=by
 have:=zI (λ_=>cT) Y h U D λw Z=>by obtain⟨I,R,e2⟩:=d w Z;exact{I,R,rfl,λ_=>e2}
 rw[List.filter_eq_self.mpr<|λ_ _=>rfl]at this;exact this
def yz{z:hG}{w:W}(h:w∈iD z q):∃i:f7,i<q/\w=.int (z+i):=by obtain⟨i,L,rfl⟩:=aX.mp h;exact{i,bN.mp L,rfl}
def gu(h:lstOf st n=bi ws):bU [.loc n] st=.ok (.tup ws) st:=by unfold bU;simp[h]
def Rz{xs:fy W}(h:(ws++xs).length<=j'):dF (.tup ws) (.tup xs) st=.ok (.tup<|ws++xs) st:=by simp only[dF,qW];rw[ax h]
def Vj{p q:hG}:xA [.int p,.int q] st=.ok (.int<|if q>p then q else p) st:=rfl
def JI{l:fy α}(O:j<=l.length)(L:i<=j):mT l (bi (i:hG)) (bi (j:hG))=(l.drop i).take (j-i):=by unfold mT;rw[HT.sIx_nat,HT.sIx_nat,hZ O,hZ #[0]]
end
def uK:f7->fy kx->fy kx
 |_,[]=>[]
 |n,(_,c,o,w)::l=>(n,c,o,w)::uK (n+1) l
def yA(l:fy kx):fy al:=l.map λ_=>.gone
def EL(a b:fy α)(x y:α):(a++x::b).set a.length y=a++y::b:=by simp
def EM(a b:fy α)(x:α):(a++x::b)[a.length]?=bi x:=by rw[bA<|av _,oK];rfl
theorem wD:∀(l:fy kx) (a b:fy al),uF (Z4 a.length l.length) (a++(fR l++b))=bi (uK a.length l,a++(yA l++b))
 |[],a,b=>rfl
 |(j,c,o,w)::l,a,b=>by show uF (Z4 a.length<|l.length+1) (a++(.pin cT c o w::(fR l++b)))=_;rw[List.range'_succ];unfold uF;rw[EM,EL];have U:=wD l (a++[.gone]) b;rw[aI,aG,aG]at U;have U:uF (Z4 (a.length+1) l.length) (a++(.gone::(fR l++b)))=bi (uK (a.length+1) l,a++(.gone::(yA l++b))):=U;simp only[U];rfl
theorem yB:∀(l:fy kx) (a b:fy al),Di (uK a.length l) (a++(yA l++b))=bi (a++(fR l++b))
 |[],a,b=>rfl
 |(j,c,o,w)::l,a,b=>by show Di ((a.length,c,o,w)::uK (a.length+1) l) (a++(.gone::(yA l++b)))=_;unfold Di;rw[EM,EL];have U:=yB l (a++[.pin cT c o w]) b;rw[aI,aG,aG]at U;exact U
theorem uo(f:nt×Obj×W->α):∀(n:f7) (l:fy kx),((uK n l).map λx=>f x.2)=l.map λx=>f x.2
 |_,[]=>rfl
 |n,(j,c,o,w)::l=>by show f (c,o,w)::_=f (c,o,w)::_;rw[uo f (n+1) l]
def bM(st:fy al):Prop:=∀d∈st,∀c,nj c d=eh
theorem yC:∀(l:fy kx) (a b:fy al),(∀d∈a,∀x∈l,nj x.2.1 d=eh)->(l.map λx=>x.2.1).Nodup->(l.map λx=>(((a++(fR l++b))).findIdx?<|nj x.2.1).getD 0)=Z4 a.length l.length
 |[],a,b,_,_=>rfl
 |(j,c,o,w)::l,a,b,hn,nd=>by
  rw[aZ,bI]at nd;show((a++(.pin cT c o w::(fR l++b))).findIdx?<|nj c).getD 0::(l.map λx=>((a++(.pin cT c o w::(fR l++b))).findIdx?<|nj x.2.1).getD 0)=Z4 a.length (l.length+1);have Z:(a++(.pin cT c o w::(fR l++b))).findIdx? (nj c)=bi a.length:=by rw[List.findIdx?_append,mC.mpr λx J=>by simp[hn x J (j,c,o,w) a9]];rw[List.findIdx?_cons,show nj c (.pin cT c o w)=cT from ko _];simp
  rw[Z];have U:=yC l (a++[.pin cT c o w]) b (λd hd x J=>by
   rcases bD.mp hd with hd|hd
   .exact hn d hd x (aJ _ J)
   .rw[a_.mp hd];show(c==x.2.1)=eh;rw[bj];intro z;exact nd.1<|aX.mpr {x,J,z.symm}) nd.2
  rw[aI,aG]at U;have U:(l.map λx=>((a++(.pin cT c o w::(fR l++b))).findIdx?<|nj x.2.1).getD 0)=Z4 (a.length+1) l.length:=U;rw[U];rfl
def GK{x:fy al}(h:undWs st.length ws=cT):kU st (st++x) ws=st:=by unfold kU;rw[ax {h,by simp,λi L=>.inl<|by rw[bu L]}];simp
theorem RA{C:fy (Str×nt)}{os:fy Obj}{cws:fy W}(Z:os.length=C.length)(B:cws.length=C.length):((k_ C os cws).map λx=>x.2.1)=C.map (·.2):=by
 induction C generalizing os cws with
 |nil=>cases os with
  |nil=>cases cws with
   |nil=>rfl
   |cons w J=>simp at B
  |cons o os=>simp at Z
 |cons y C U=>cases os with
  |nil=>simp at Z
  |cons o os=>cases cws with
   |nil=>simp at B
   |cons w J=>
    show y.2::((k_ C os J).map λx=>x.2.1)=y.2::C.map (·.2);rw[U (by simpa using Z)<|by simpa using B]
theorem RB{C:fy (Str×nt)}{os:fy Obj}{cws:fy W}(Z:os.length=C.length)(B:cws.length=C.length):((k_ C os cws).map λx=>x.2.2.2)=cws:=by
 induction C generalizing os cws with
 |nil=>cases os with
  |nil=>cases cws with
   |nil=>rfl
   |cons w J=>simp at B
  |cons o os=>simp at Z
 |cons y C U=>cases os with
  |nil=>simp at Z
  |cons o os=>cases cws with
   |nil=>simp at B
   |cons w J=>
    show w::((k_ C os J).map λx=>x.2.2.2)=w::J;rw[U (by simpa using Z)<|by simpa using B]
def RC(name q:Str)(pr:ZG)(body:fy tf)(sc:ZB)(xs:fy Str):∃o,Rc name q pr body sc xs o:=by
 refine{_,xs.zip<|uP xs.length,.none,.none,0,.none,?_,?_,rfl}
 .exact List.map_fst_zip (by simp)
 rw[List.map_snd_zip<|by simp];exact List.nodup_range
def No{ok:Obj->Prop}{fs:FA}{f:nt}{B v:W}(L:ρ[i]?=bi (bi<|.loc m))(hm:st[m]?=bi (.pin eh f o B))(J:fs ρ st=.ok ws st1)(U:ws.length=n)(h:uG ok F m ws st1=.ok v st1) :
  uf i n ok F fs ρ st=.ok v st1:=by unfold uf;rw[L];simp only;rw[hm];rw[J];simp;rw[ax U,h]
theorem JJ{ok:Obj->Prop}{a b:fy al}{l:fy kx}{f:nt}{B v:W}(hm:(a++(fR l++b))[m]?=bi (.pin eh f o B))(Z:ok o)(D:(jn o).map (·.2)=l.map λx=>x.2.1)(Y:(l.map λx=>x.2.1).Nodup)(L:bM a)
  (z:F (ws++l.map λx=>x.2.2.2) (a++(yA l++b))=.ok v (a++(yA l++b))):uG ok F m ws (a++(fR l++b))=.ok v (a++(fR l++b)):=by
 have R:((jn o).map λy=>((a++(fR l++b)).findIdx?<|nj y.2).getD 0)=Z4 a.length l.length:=by
  rw[<- yC l a b (λd k x _=>L d k _) Y];have:∀(g:nt->f7),(jn o).map (λy=>g y.2)=l.map λx=>g x.2.1:=λg=>by have:=eJ (List.map g) D;rw[aN,aN]at this;exact this
  exact this λc=>((a++(fR l++b)).findIdx?<|nj c).getD 0
 unfold uG;rw[hm];simp only;rw[ax Z,R,wD];simp only;have e2:((uK a.length l).map λx=>x.2.1)=l.map λx=>x.2.1:=uo (λy=>y.1) _ _;have O:((uK a.length l).map λx=>x.2.2.2)=l.map λx=>x.2.2.2:=uo (λy=>y.2.2) _ _;rw[ax (by rw[e2,D]),O,z];simp[yB]
theorem RD{fs:FA}{st1 st2 L:fy al}{k w:W}{LH:fy W}(J:fa ρ st=.ok k st1)(d:fs ρ st1=.ok LH st2)(U:LH.length=m)(Y:G LH st2=.ok cws L)(Z:∃o,vp o)(D:undWs L.length [w]=cT)
  (h:∀f o os,vp o->os.length=(jn o).length->∃z x,fb ρ (L++[.pin eh f o .non]++fR (k_ (jn o) os cws))=.ok z (L++[.pin eh f o .non]++fR (k_ (jn o) os cws))/\F [k,.loc L.length,z] (L++[.pin eh f o .non]++fR (k_ (jn o) os cws))=.ok w (L++x)) :
  Ey F fa m vp G fs fb ρ st=.ok w L:=by obtain⟨r,V⟩:=Z;unfold Ey;rw[J];simp only[R.bind_ok];rw[d];simp only[R.bind_ok];rw[ax U,Y];refine Jj (0,r,rn (jn r).length { cls:=.none,data:=.cell b0 }) {V,by simp} λp I=>?_;obtain⟨z,x,B,e2⟩:=h p.1 p.2.1 p.2.2 I.1 I.2;simp only[B,e2];rw[GK D]
def RE{g:FS}{is:fy f7}{P:nt}{q:Str}(h:g (ws.map bi++rn (N-ws.length) b0) st=.nx ρ bx)(B:Bj bx j P pos q)(D:wm is (ρ.set i<|bi<|.loc bx.length)=bi cws):Jm N g is i j P pos q ws st=.ok cws bx:=by unfold Jm;rw[h];simp only;rw[ax B,D]
section
def fV{f:FG}{cap:fy (hJ f7)}(vs:fy W)(h:fi ρ st=.ok (ws,ck) st1)(U:ws.length<=j')(D:iC st1 ck)(r:vs.length=ws.length)
  (d:∀(i:f7) (w:W),ws[i]?=bi w->∃v I,vs[i]?=bi v/\f w (kc cap ρ)=bi I/\el I st1=.ok v st1):cb cap fi f d_ el ρ st=.ok (.loc st1.length) (st1++[.lst vs]):=by
 let Y:W->W:=λw=>match f w (kc cap ρ)with
  |some I=>(match el I st1 with
   |.ok v _=>v
   |_=>.non)
  |none=>.non
 have J:∀(i:f7) (w v:W),ws[i]?=bi w->vs[i]?=bi v->Y w=v:=λi w v z k=>by
  obtain⟨V,I,R,e2,O⟩:=d i w z;rw[k]at R;cases R
  show(match f w (kc cap ρ)with|some I=>(match el I st1 with|.ok v _=>v|_=>.non)|none=>.non)=v;rw[e2];simp only[O]
 rw[vk Y h U D λw z=>by obtain⟨i,L⟩:=fg z;obtain⟨v,I,R,e2,O⟩:=d i w L;exact{I,e2,by rw[J i w v L R];exact O}]
 congr 3
 congr 1
 refine List.ext_getElem (by rw[aj,r]) λi Z B=>?_;rw[gJ];exact J i _ _ (ak (by rw[aj]at Z;exact Z))<|ak B
def RF{fs:FA}{xs L B:fy W}(h:fs ρ st=.ok [.loc n,.tup L,.tup B] st1)(Z:lstOf st1 n=bi xs):wn fs ρ st=.ok (lJ xs L B,bi (n,xs)) st1:=by unfold wn;rw[h];simp[Z]
theorem Np(h:fe ρ st=.ok (.loc n) st1)(h1:st1[n]?=bi (.dcx kvs)\/st1[n]?=bi (.rox kvs))(B:Dl kvs=cT):iq fe ρ st=.ok (kvs.map<|λp=>p.1.w,b0) (st1.set n<|.rox kvs):=by
 have e:Dr st1 (.loc n)=bi (n,kvs):=by rcases h1 with h1|h1<;>simp[Dr,h1]
 unfold iq;rw[h];simp only[R.bind_ok,e];rw[ax B]
def Nq(h:fe ρ st=.ok (.loc n) st1)(Z:st1[n]?=bi (.rox kvs))(B:Dl kvs=cT):iq fe ρ st=.ok (kvs.map<|λp=>p.1.w,b0) st1:=by rw[Np h (.inr Z) B,sH Z]
theorem OD{neg:ir}{x:W}{k:KX}(h:st[n]?=bi (.rox kvs))(O:u5 x=bi k)(ok:Gq kvs k=cT):pe neg x (.loc n) st=.ok (.bl<|if neg then !(mw kvs k).isSome else(mw kvs k).isSome) st:=by
 have e:uI st (.loc n)=bi (n,kvs):=by simp[uI,h]
 unfold pe;rw[e];simp only[O];rw[ax ok]
theorem RG{ws:fy W}{k:f7}(V:ws≠[])(O:2<=k)(U:ws.length*k<=1000000):yu (.tup ws) (.int k) st=.ok (.tup (rn k ws).flatten) st:=by show(if ws≠[]/\2<=(k:hG)/\ws.length*(k:hG).toNat<=j' then R.ok (W.tup (rn (k:hG).toNat ws).flatten) st else .bad)=_;rw[ax {V,by lia,by rw[aO];exact U},aO]
theorem EN:∀l:fy ir,ze (l.map W.bl)=bi l
 |[]=>rfl
 |b::l=>by simp[ze,EN l]
def OE{l:fy ir}(h:lstOf st n=bi (l.map W.bl)):zf [.loc n] st=.ok (.bl<|l.all id) st:=by unfold zf;simp[h,EN]
def JK{y v:W}{k:KX}(I:j4 st (.loc n)=bi (n,kvs))(O:u5 y=bi k)(ok:Gq kvs k=cT):wj (.loc n) y v st=bi (st.set n<|.dcx<|we kvs k v):=by unfold wj;simp only[I,O];rw[ax ok]
def Nr{L:fy W}{kvs:fy (DK×W)}(h:st[n]?=bi (.lst L))(I:mW L=bi kvs)(U:kvs.length<=1000):uk [.loc n] st=.ok (.loc st.length) (st++[.dct<|jF [] kvs]):=by unfold uk;simp only[h,I,fQ];rw[ax U]
end
end L2
namespace P
open PySem L2
open PyProof.Rows (boot_sorted boot_set boot_ord boot_all boot_enumerate boot_int boot_str boot_bool boot_list boot_tuple boot_isinstance boot_max boot_min boot_zip)
noncomputable def kC(i:f7):tf:=PySem.Challenge.pw_trunksay_k36_looker_wrong.main.body.getD i<|.Pass {0,0,0,0}
abbrev RH:tf:=kC 4
noncomputable abbrev Dz:fy Str:=["letters"]
noncomputable abbrev Vk:fy Str:=["letters"]
def Vl:bO Dz Vk (aK RH):=pF
abbrev RI:tf:=kC 5
noncomputable abbrev JL:fy Str:=["exponent","power","each"]
noncomputable abbrev Vm:fy Str:=["exponent"]
def OF:bO JL Vm (aK RI):=pF
abbrev RJ:tf:=kC 7
noncomputable abbrev wE:fy Str:=["rooms","names"]
noncomputable abbrev Vn:fy Str:=["rooms","names"]
def Vo:bO wE Vn (aK RJ):=pF
abbrev RL:tf:=kC 8
noncomputable abbrev xD:fy Str:=["names","own","numbers","name","further","number"]
noncomputable abbrev Vp:fy Str:=["names","own"]
def OG:bO xD Vp (aK RL):=pF
abbrev RM:tf:=kC 9
noncomputable abbrev zJ:fy Str:=["machine","names"]
noncomputable abbrev Vq:fy Str:=["machine","names"]
def Vr:bO zJ Vq (aK RM):=pF
abbrev RN:tf:=kC 11
noncomputable abbrev RO:fy Str:=["word","truths"]
noncomputable abbrev Vs:fy Str:=["word","truths"]
def Vt:bO RO Vs (aK RN):=pF
abbrev DA:tf:=kC 12
noncomputable abbrev wF:fy Str:=["machines","names","tables","lead"]
noncomputable abbrev Vu:fy Str:=["machines","names"]
def JM:bO wF Vu (aK DA):=pF
abbrev RP:tf:=kC 13
noncomputable abbrev DB:fy Str:=["machines","row"]
noncomputable abbrev Vv:fy Str:=["machines","row"]
def Vx:bO DB Vv (aK RP):=pF
abbrev RQ:tf:=kC 17
noncomputable abbrev xE:fy Str:=["rows","names"]
noncomputable abbrev Vy:fy Str:=["rows","names"]
def Vz:bO xE Vy (aK RQ):=pF
abbrev RR:tf:=kC 18
noncomputable abbrev GL:fy Str:=["machine","number"]
noncomputable abbrev VA:fy Str:=["machine","number"]
def VB:bO GL VA (aK RR):=pF
abbrev JN:tf:=kC 19
noncomputable abbrev BH:fy Str:=["machines","row"]
noncomputable abbrev OH:fy Str:=["machines","row"]
def RT:bO BH OH (aK JN):=pF
abbrev JO:tf:=kC 20
noncomputable abbrev JP:fy Str:=["rows","lead","letters","left","right","letter"]
noncomputable abbrev OI:fy Str:=["rows","lead","letters"]
def zK:bO JP OI (aK JO):=pF
abbrev JQ:tf:=kC 21
noncomputable abbrev GM:fy Str:=["word","parts","made","row"]
noncomputable abbrev OJ:fy Str:=["word","parts","made","row"]
def RU:bO GM OJ (aK JQ):=pF
abbrev JR:tf:=kC 22
noncomputable abbrev Nt:fy Str:=["word","parts","made","rows","machines","names","known","row"]
noncomputable abbrev OK:fy Str:=["word","parts","made","rows"]
def JS:bO Nt OK (aK JR):=pF
abbrev JT:tf:=kC 24
noncomputable abbrev BI:fy Str:=["_law_script","_law_k"]
noncomputable abbrev OL:fy Str:=["_law_script","_law_k"]
def RV:bO BI OL (aK JT):=pF
abbrev JU:tf:=kC 25
noncomputable abbrev zL:fy Str:=["_law_cell_here","_law_k","_law_salt","_law_first"]
noncomputable abbrev OM:fy Str:=["_law_cell_here","_law_k","_law_salt"]
def JV:bO zL OM (aK JU):=pF
abbrev JW:tf:=kC 26
noncomputable abbrev zM:fy Str:=["_law_cell_here","_law_many","_law_salt","_law_found","_law_rest","_law_k"]
noncomputable abbrev ON:fy Str:=["_law_cell_here","_law_many","_law_salt"]
def JX:bO zM ON (aK JW):=pF
abbrev JY:tf:=kC 27
noncomputable abbrev BJ:fy Str:=["_law_cell_here","_law_many","_law_salt","_law_rest","_law_found","_law_d","_law_at"]
noncomputable abbrev OO:fy Str:=["_law_cell_here","_law_many","_law_salt"]
def JZ:bO BJ OO (aK JY):=pF
abbrev J0:tf:=kC 28
noncomputable abbrev zN:fy Str:=["_law_pool_here","_law_number"]
noncomputable abbrev OP:fy Str:=["_law_pool_here","_law_number"]
def RW:bO zN OP (aK J0):=pF
abbrev J1:tf:=kC 29
noncomputable abbrev wG:fy Str:=["_law_names_here","_law_many","_law_top","_law_draws_here","_law_good","_law_table","_law_at","_law_letter_here","_law_rows","_law_l"]
noncomputable abbrev OQ:fy Str:=["_law_names_here","_law_many","_law_top","_law_draws_here"]
def J2:bO wG OQ (aK J1):=pF
abbrev J3:tf:=kC 30
noncomputable abbrev xF:fy Str:=["_law_names_here","_law_marks_here","_law_found","_law_name"]
noncomputable abbrev OR:fy Str:=["_law_names_here","_law_marks_here"]
def J4:bO xF OR (aK J3):=pF
abbrev J5:tf:=kC 31
noncomputable abbrev DC:fy Str:=["_law_script","_law_most","_law_size","_law_pool_here","_law_found","_law_k","_law_names_here","_law_many","_law_top","_law_draws_here"]
noncomputable abbrev OS:fy Str:=["_law_script","_law_most"]
def J6:bO DC OS (aK J5):=pF
abbrev J7:tf:=kC 32
noncomputable abbrev zO:fy Str:=["_law_text"]
noncomputable abbrev OT:fy Str:=["_law_text"]
def RX:bO zO OT (aK J7):=pF
abbrev J8:tf:=kC 33
noncomputable abbrev sN:fy Str:=["_law_parts","_law_names_here","_law_rows","_law_homes","_law_count","_law_many","_law_places","_law_table","_law_number","_law_marks_here","_law_letters","_law_lefts","_law_l","_law_line","_law_r","_law_one","_law_two_here","_law_led","_law_k","_law_room","_law_twin"]
noncomputable abbrev OU:fy Str:=["_law_parts","_law_names_here","_law_rows","_law_homes","_law_count"]
def J9:bO sN OU (aK J8):=pF
abbrev J_:tf:=kC 34
noncomputable abbrev BK:fy Str:=["_law_word","_law_parts","_law_names_here","_law_shift","_law_twice","_law_count","_law_many","_law_homes","_law_rows","_law_goods","_law_k","_law_row","_law_truths","_law_truth","_law_table"]
noncomputable abbrev OV:fy Str:=["_law_word","_law_parts","_law_names_here","_law_shift","_law_twice"]
def jJ:bO BK OV (aK J_):=pF
abbrev Ka:tf:=kC 35
noncomputable abbrev u8:fy Str:=["_law_machines","_law_names_here","_law_met","_law_at","_law_number","_law_letters","_law_k","_law_one","_law_two_here","_law_led","_law_j","_law_table"]
noncomputable abbrev OW:fy Str:=["_law_machines","_law_names_here"]
def Kb:bO u8 OW (aK Ka):=pF
abbrev Kc:tf:=kC 36
noncomputable abbrev zP:fy Str:=["_law_machines","_law_names_here","_law_rows","_law_known","_law_row","_law_number","_law_marks_here","_law_letters","_law_one","_law_two_here","_law_led","_law_k","_law_table"]
noncomputable abbrev OX:fy Str:=["_law_machines","_law_names_here","_law_rows"]
def lL:bO zP OX (aK Kc):=pF
abbrev Kd:tf:=kC 37
noncomputable abbrev xG:fy Str:=["_law_word","_law_parts","_law_made_here","_law_rows","_law_machines","_law_row","_law_k","_law_truths","_law_due"]
noncomputable abbrev OY:fy Str:=["_law_word","_law_parts","_law_made_here","_law_rows"]
def Ke:bO xG OY (aK Kd):=pF
abbrev Kf:tf:=kC 38
noncomputable abbrev zQ:fy Str:=["_law_machine_here","_law_names_here","_law_good","_law_table"]
noncomputable abbrev OZ:fy Str:=["_law_machine_here"]
def zR:bO zQ OZ (aK Kf):=pF
abbrev Kg:tf:=kC 39
noncomputable abbrev u9:fy Str:=["_law_made_here","_law_picks","_law_names_here","_law_good","_law_table","_law_many","_law_rows","_law_line","_law_at"]
noncomputable abbrev O0:fy Str:=["_law_made_here","_law_picks"]
def pW:bO u9 O0 (aK Kg):=pF
abbrev Kh:tf:=kC 40
noncomputable abbrev xH:fy Str:=["_law_made_here","_law_room","_law_names_here","_law_good","_law_table"]
noncomputable abbrev O5:fy Str:=["_law_made_here","_law_room"]
def Ki:bO xH O5 (aK Kh):=pF
abbrev Kj:tf:=kC 41
noncomputable abbrev zS:fy Str:=["_law_word","_law_parts","_law_made_here","_law_rows","e"]
noncomputable abbrev O6:fy Str:=["_law_word","_law_parts","_law_made_here","_law_rows"]
def Kk:bO zS O6 (aK Kj):=pF
abbrev Kl:tf:=kC 42
noncomputable abbrev wH:fy Str:=["_law_made_here","_law_letter_here","_law_names_here","_law_table","_law_number"]
noncomputable abbrev O7:fy Str:=["_law_made_here","_law_letter_here"]
def Km:bO wH O7 (aK Kl):=pF
abbrev Kn:tf:=kC 43
noncomputable abbrev zT:fy Str:=["_law_size","_law_pool_here","_law_names_here","_law_most","_law_count","_law_one","_law_rows","_law_found","_law_more","_law_made_here"]
noncomputable abbrev O8:fy Str:=["_law_size","_law_pool_here"]
def Ko:bO zT O8 (aK Kn):=pF
abbrev Kp:tf:=kC 44
noncomputable abbrev zU:fy Str:=["_law_script","_law_word","_law_spoilt","_law_size","_law_parts","_law_names_here","_law_wide","_law_made_here","_law_rows"]
noncomputable abbrev O9:fy Str:=["_law_script","_law_word","_law_spoilt","_law_size"]
def Kq:bO zU O9 (aK Kp):=pF
abbrev sO:tf:=kC 45
noncomputable abbrev VC:fy Str:=["_law_script","_law_size","_law_spoilt","_law_word","_law_parts","_law_names_here","_law_made_here","_law_rows","_law_met","_law_row","_law_at","_law_gone","_law_found"]
noncomputable abbrev Kr:fy Str:=["_law_script"]
def ii:bO VC Kr (aK sO):=pF
structure Bl(mg:Str->hJ i2):Prop where
 all:mg "all"=ZO
 bool:mg "bool"=ZO
 dict:mg "dict"=ZO
 int:mg "int"=ZO
 isinstance:mg "isinstance"=ZO
 len:mg "len"=ZO
 list:mg "list"=ZO
 max:mg "max"=ZO
 range:mg "range"=ZO
 set:mg "set"=ZO
 sorted:mg "sorted"=ZO
 tuple:mg "tuple"=ZO
 zip:mg "zip"=ZO
noncomputable def sP:W:=.int 13
noncomputable def sQ:W:=.int 40000
structure Gc(K:ti)(mg:Str->hJ i2):Prop where
 MOST_NAMES:∃u v,mg "MOST_NAMES"=bi u/\cq v u/\∀μ H,bp K μ H sP v
 MOST_LOOKS:∃u v,mg "MOST_LOOKS"=bi u/\cq v u/\∀μ H,bp K μ H sQ v
noncomputable abbrev uL:fy Str:=["TooGreat"]
noncomputable def kt:Str->hJ ir:=λc=>if c="TooGreat" then bi cT else b0
structure Qt(K:ti)(mg:Str->hJ i2):Prop where
 TooGreat:U3 K mg "TooGreat"
 isi_TrunkError:∃Ta,mg "TrunkError"=bi (.ref Ta)/\Q7 K mg (.ref Ta) kt
 catch_TooGreat:IK K mg "TooGreat" uL
noncomputable def tabL:fy (nt×Pos×Str):=[(81,{44,4,45,99},"side_by_side.<locals>.lead")]
section
variable{w:qd}{f:nt}
local macro_rules | `(tactic| walk_at "w1") => `(tactic| first | exact aE _ | refine aC ?_ ?_ | exact bY | exact ba | refine bz ?_ ?_ | refine eY ?_ ?_ | refine cO ?_ | refine sS _ ‹_› ?_ | refine gQ (by first | exact oP | exact A4 | exact rH | exact Dd | exact Rk | exact jE | exact C4 | exact UR | exact Oi | exact US | exact QU) ?_ ?_ | refine jY ‹_› ‹_› (by omega) ?_ | refine Rg ‹_› ‹_› ‹_› (by omega) (by omega) ?_ ?_ ?_ | refine iX ?_ | refine yg ?_ | exact sG _ ‹_› | refine dH i9 ‹Bl _›.len dU ?_ | refine dH Oj ‹Bl _›.max boot_max ?_ | refine dH MU ‹Bl _›.sorted boot_sorted ?_ | refine dH U1 ‹Bl _›.all boot_all ?_ | refine fJ (by first | exact mq ‹_› | exact C6 ‹_› | exact MH ‹_› | exact Ei ‹_› | exact nq ‹_› | exact w_lt | exact En | exact C5 | exact MF) ?_ ?_ | refine Ea (by first | exact mq ‹_› | exact C6 ‹_› | exact MH ‹_› | exact Ei ‹_› | exact nq ‹_› | exact w_lt | exact En | exact C5 | exact MF) ?_ ?_ | refine MN (by first | exact mq ‹_› | exact C6 ‹_› | exact MH ‹_› | exact Ei ‹_› | exact nq ‹_› | exact w_lt | exact En | exact C5 | exact MF) (by first | exact mq ‹_› | exact C6 ‹_› | exact MH ‹_› | exact Ei ‹_› | exact nq ‹_› | exact w_lt | exact En | exact C5 | exact MF) ?_ ?_ ?_ | refine jX ?_ ?_ ?_ | exact ie | refine mU ?_ ?_ ?_ | refine fE ?_ ?_ | exact qx | refine tZ rfl ?_ | refine vh ?_ | refine IV ‹_› ?_ ?_ | refine qX ?_ | exact F6 | exact ly | refine dG UX ‹Bl _›.int boot_int ?_ | refine dG io ‹Bl _›.tuple d4 ?_ | refine dG C7 ‹Bl _›.list nL ?_ | refine dG (Nf ‹_›) ‹Bl _›.dict GE ?_ | refine Gd PySem.F.slot_list_append PySem.F.type_list_append t6 ?_ ?_ | refine Gd PySem.F.slot_list_extend PySem.F.type_list_extend Db ?_ ?_ | refine U0 PySem.F.slot_str_join PySem.F.type_str_join Em ?_ ?_ | refine Gd PySem.F.slot_list_insert PySem.F.type_list_insert ym ?_ ?_ | refine kb ‹Bl _›.range ?_ | refine Nl ‹Bl _›.zip ?_ | refine EC ‹Bl _›.zip ?_ | refine Es rfl ?_ (λ_ _ _ _ _ => ?_) (λ_ _ _ _ _ => ?_) (λ_ _ _ _ _ => ?_) | refine uE (sG _ ‹_›) rfl ?_ (λ_ _ _ _ _ => ?_) (λ_ _ _ _ _ => ?_) (λ_ _ _ _ _ => ?_) | refine Es (m := 0) rfl ?_ (λ_ _ _ _ _ => ?_) (λ_ _ _ _ _ => ?_) (λ_ _ _ _ _ => ?_) | refine uE (sG _ ‹_›) (m := 0) rfl ?_ (λ_ _ _ _ _ => ?_) (λ_ _ _ _ _ => ?_) (λ_ _ _ _ _ => ?_) | exact Y7 _ | exact ip | refine zb ?_ | refine wt ?_ | refine jl ?_ | refine QR ?_ | refine Ik (C3 ?_ ?_) | refine Ik (Ec ?_ ?_) | refine C3 ?_ ?_ | refine Ec ?_ ?_ | refine Eb ?_ | refine C2 ?_ | refine QQ ?_ | refine UM ?_ | refine IF ?_ | refine UN ?_ ?_ ?_ | refine Io ?_ ?_ | refine UL ?_ ?_ | refine Ed ?_ | refine y7 ?_ | exact MI | refine UW ?_ ?_ ?_ | refine pP (IW ‹_›) ?_ ?_ ?_ | refine pP (Ji ‹_›) ?_ ?_ ?_ | refine pP y_ ?_ ?_ ?_ | refine IB ?_ ?_ | refine y9 ?_ ?_ | exact Df | refine IY ?_ | refine sF ?_ ?_ ?_ | exact IX | refine Q2 ?_ | exact MC ‹Gc _ _›.MOST_NAMES | exact MC ‹Gc _ _›.MOST_LOOKS | refine Os ‹Bl _›.isinstance ‹Bl _›.bool boot_bool ?_)
local macro_rules | `(tactic| walk_at "w") => `(tactic| repeat' walk_at "w1")
def XX:FS:=(db<|Cv jZ (eC<|.str [])<|ae (sD<|ac 0) aw)
def Nu:fy W->fy al->R W:=eL 1 XX
theorem VD(F:mf K "in_order" "in_order" RH f fd)(B:Bl mg) :fj P w K mg base (iY P w) 1 f fd Vk (mJ K mg 1 Nu):=
 de F Vl rfl λO A r s H E V=>(cO<|iX<|U0 PySem.F.slot_str_join PySem.F.type_str_join Em ly<|aC (Gf B.sorted B.set<|aE 0) ba)
def XY:FS:=(aY (bG 1<|eI 1)<|aY (gE (bq<|ae (ac 0) aw) (cF 2)<|bG 1<|e2 fM (ac 1)<|eI 2)<|db<|ac 1)
def GN:fy W->fy al->R W:=eL 3 XY
theorem VE(F:mf K "two_to" "two_to" RI f fd)(B:Bl mg) :fj P w K mg base (iY P w) 1 f fd Vm (mJ K mg 1 GN):=
 de F OF rfl λO A r s H E V=>by have z:=OF;walk_at "w"
def XZ:FS:=(db<|e2 fM (e2 fM (ac 0)<|ac 0)<|c7 1 GN<|ae (aU b9<|ae (ac 1) aw) aw)
def Nv:fy W->fy al->R W:=eL 2 XZ
theorem VF(F:mf K "entries_many" "entries_many" RJ f fd)(B:Bl mg)(N0:d8 P w K mg base 1 "two_to" 1 GN):fj P w K mg base (iY P w) 2 f fd Vn (mJ K mg 2 Nv):=
 de F Vo rfl λO A r s H E V=>by walk_at "w"
def VG:FS:=(aY (bG 2<|dW<|ae (eI 0) aw)<|aY (gE (bV<|ac 0) (cF 3)<|aY (bG 4<|dW aw)<|aY (gE (bV<|ac 2) (cF 5)<|jB (fD<|e2 (xj eh) (ac 3)<|ac 1) (gy<|uX lG (ac 4)<|ae (dW<|ae (e2 fM (ac 5)<|eI 2)<|ae (e2 dF (e2 fM (ac 5)<|eI 2)<|eI 1) aw) aw)<|gy<|uX lG (ac 4)<|ae (dW<|ae (ac 5)<|ae (ac 5) aw) aw)<|bG 2<|ac 4)<|db<|ac 2)
def Ks:fy W->fy al->R W:=eL 6 VG
theorem VH(F:mf K "own_numbers" "own_numbers" RL f fd)  :fj P w K mg base (iY P w) 1 f fd Vp (mJ K mg 2 Ks):=
 de F OG rfl λO A r s H E V=>by have z:=OG;walk_at "w"
def X0:FS:=(db<|aU bU<|ae (cb [b0,bi 0] (bV<|c7 2 Ks<|ae (ac 1)<|ae (e2 bd (ac 0)<|eI 0) aw) (cF 0) d_<|e2 bd (e2 bd (ac 1)<|eI 2)<|ac 0) aw)
def Kt:fy W->fy al->R W:=eL 2 X0
theorem VI(F:mf K "table_over" "table_over" RM f fd)(B:Bl mg)(WE:d8 P w K mg base 1 "own_numbers" 2 Ks):fj P w K mg base (iY P w) 2 f fd Vq (mJ K mg 2 Kt):=
 de F Vr rfl λO A r s H E V=>by walk_at "w"
def X1:FS:=(aY (jB (fD<|e2 ik (ac 0)<|eC<|.str [115,97,109,101]) (db<|e2 bd (ac 1)<|eI 0) cR)<|aY (jB (fD<|e2 ik (ac 0)<|eC<|.str [110,111,116]) (db<|Im<|e2 bd (ac 1)<|eI 0) cR)<|aY (jB (fD<|e2 ik (ac 0)<|eC<|.str [97,110,100]) (db<|sk (e2 bd (ac 1)<|eI 0)<|e2 bd (ac 1)<|eI 1) cR)<|aY (jB (fD<|e2 ik (ac 0)<|eC<|.str [111,114]) (db<|Il (e2 bd (ac 1)<|eI 0)<|e2 bd (ac 1)<|eI 1) cR)<|db<|e2 uW (e2 bd (ac 1)<|eI 0)<|e2 bd (ac 1)<|eI 1)
def Nw:fy W->fy al->R W:=eL 2 X1
theorem VJ(F:mf K "says" "says" RN f fd)  :fj P w K mg base (iY P w) 1 f fd Vs (mJ K mg 2 Nw):=
 de F Vt rfl λO A r s H E V=>by walk_at "w"
abbrev eZ:tf:=(eS DA).getD 1<|.Pass {0,0,0,0}
abbrev bK:Obj->Prop:=Yz "lead" "side_by_side.<locals>.lead" eZ ["tables"]
def pf:zv ["letter","left","right","tables"] ["letter","left","right"] ["tables"] (aK eZ):={rfl,rfl,rfl,by decide +kernel,rfl,rfl,by decide +kernel,by decide +kernel,by decide +kernel,by decide +kernel,by decide +kernel}
def n_:FS:=(db<|aU bU<|ae (cb [b0,b0,b0,bi 0] (wn<|ae (ac 3)<|ae (ac 1)<|ae (ac 2) aw) (A9 3<|cK (cF 0)<|cK (cF 1)<|cK (cF 2) kT) d_<|e2 bd (e2 bd (e2 bd (ac 0)<|ac 3)<|ac 1)<|ac 2) aw)
def du:fy W->fy al->R W:=eL 4 n_
theorem nr(B:Bl mg) :rM P w K mg base 1 3 1 bK du:=
 Jr pf rfl rfl (λ_ _ _ _ _ z U=>match z,U with|[_,_,_],_=>rfl) λf d Z A r s H E V=>(cO<|iX<|dG io B.tuple d4<|aC (sE (nm:=["table","one","other","letter"]) rfl (Nm B.zip<|aC (aE 3)<|aC (aE 1)<|aC (aE 2) ba) (λ_ _ _ _ _=>(tZ rfl (fE (sC 0)<|fE (sC 1)<|fE (sC 2) qx))) (λ_ _ _ _ _=>ip) (λ_ _ _ _ _=>(eY (eY (eY (aE 0)<|aE 3)<|aE 1)<|aE 2))) ba)
def VL:FS:=(aY (gE (iq<|ac 0) (cF 3)<|gE (iq<|ac 0) (cF 4)<|gE (bq<|ae (ac 2) aw) (cF 5)<|jB (fD<|e2 (pe cT) (uf 1 3 bK du<|ae (ac 5)<|ae (ac 3)<|ae (ac 4) aw)<|ac 0) (db<|eC<|.bl eh) cR)<|db<|eC<|.bl cT)
def EO:fy W->fy al->R W:=eL 6 VL
theorem RY(F:mf K "closed" "closed" JO f fd)(B:Bl mg)(z:rM P w K mg base 1 3 1 bK du) :fj P w K mg base (iY P w) 2 f fd OI (mJ K mg 3 EO):=
 de F zK rfl λO A r s H E V=>(bz (mU (wt<|aE 0) (sG 3 zK)<|cO<|mU (wt<|aE 0) (sG 4 zK)<|cO<|mU (kb B.range<|aC (aE 2) ba) (sG 5 zK)<|cO<|jX (fJ (nq V) (M7 1 z (M8 rfl) V (by omega)<|aC (aE 5)<|aC (aE 3)<|aC (aE 4) ba)<|aE 0) (cO<|iX F6) ie)<|cO<|iX F6)
def X2:FS:=(bG 2<|cb [b0,bi 1] (bV<|ac 0) (cF 0) d_<|c7 2 Kt<|ae (ac 0)<|ae (ac 1) aw)
def iI:fy W->fy al->R (fy W):=Jm 4 X2 [2] 3 1 81 {44,4,45,99} "side_by_side.<locals>.lead"
theorem VM(F:mf K "side_by_side" "side_by_side" DA f fd)(Tc:XO K fd 81)(Bk:zi base mg) (Tx:d8 P w K mg base 2 "table_over" 2 Kt):fj P w K mg base (iY P w) 3 f fd Vu (W4 K mg 2 bK iI):=
 Tc.elim λk z=>Re (m:=0) F JM rfl rfl (λO A r s H E U V=>{(sS 2 JM<|t7 (nm:=["machine","names"]) rfl rfl (jl<|aE 0) (λ_ _ _ _ _=>(sC 0)) (λ_ _ _ _ _=>ip) (λ_ _ _ _ _=>(jY Tx V #[0] (aC (aE 0)<|aC (aE 1) ba)))),Jq (U.symm.trans z.1) z.2.1 Bk rfl JM.nd,⟨_,rfl⟩,rfl,.cons rfl (.nil)}) rfl rfl rfl (by first|exact Or.inl rfl|exact Z3<|Or.inl rfl)
def X3:FS:=(db<|cb [b0,b0] (rJ<|ae (ac 0)<|ae (ac 1) aw) (A9 2<|cK (cF 0)<|cK (cF 1) kT) d_<|e2 bd (e2 bd (ac 0)<|eI 1)<|ac 1)
def Nx:fy W->fy al->R W:=eL 2 X3
theorem VN(F:mf K "goods_of" "goods_of" RP f fd)(B:Bl mg) :fj P w K mg base (iY P w) 1 f fd Vv (mJ K mg 2 Nx):=
 de F Vx rfl λO A r s H E V=>by walk_at "w"
def X4:FS:=(aY (jB (fD<|e2 F9 (aU b9<|ae (ac 1) aw)<|eC sP) (vV "TooGreat") cR)<|jB (fD<|e2 F9 (c7 2 Nv<|ae (aU b9<|ae (ac 0) aw)<|ae (ac 1) aw)<|eC sQ) (vV "TooGreat") cR)
def Ny:fy W->fy al->R W:=eL 2 X4
theorem VO(F:mf K "check_looks" "check_looks" RQ f fd)(B:Bl mg)(G:Gc K mg)(C:Qt K mg)(Tj:d8 P w K mg base 2 "entries_many" 2 Nv):fj P w K mg base (iY P w) 3 f fd Vy (mJ K mg 2 Ny):=
 de F Vz rfl λO A r s H E V=>(bz (jX (fJ C5 (dH i9 B.len dU<|aC (aE 1) ba)<|MC G.MOST_NAMES) (cO<|Bb C.TooGreat) ie)<|cO<|jX (fJ C5 (jY Tj V (by omega)<|aC (dH i9 B.len dU<|aC (aE 0) ba)<|aC (aE 1) ba)<|MC G.MOST_LOOKS) (cO<|Bb C.TooGreat) ie)
def VP:FS:=(db<|rG IG A5 (eI 0) (ac 1)<|aU b9<|ae (e2 bd (ac 0)<|eI 1) aw)
def Ku:fy W->fy al->R W:=eL 2 VP
theorem VQ(F:mf K "is_room" "is_room" RR f fd)(B:Bl mg) :fj P w K mg base (iY P w) 1 f fd VA (mJ K mg 2 Ku):=
 de F VB rfl λO A r s H E V=>by walk_at "w"
def O_:FS:=(db<|aU zf<|ae (cb [b0,b0] (rJ<|ae (ac 0)<|ae (ac 1) aw) (A9 2<|cK (cF 0)<|cK (cF 1) kT) d_<|c7 2 Ku<|ae (ac 0)<|ae (ac 1) aw) aw)
def BL:fy W->fy al->R W:=eL 2 O_
theorem RZ(F:mf K "all_rooms" "all_rooms" JN f fd)(B:Bl mg)(WH:d8 P w K mg base 1 "is_room" 2 Ku):fj P w K mg base (iY P w) 2 f fd OH (mJ K mg 2 BL):=
 de F RT rfl λO A r s H E V=>by walk_at "w"
def Kv:FS:=(db<|e2 ik (e2 bd (e2 bd (ac 2)<|eI 1)<|e2 bd (ac 3)<|t8<|eI 1)<|c7 2 Nw<|ae (ac 0)<|ae (c7 2 Nx<|ae (ac 1)<|ae (ac 3) aw) aw)
def yD:fy W->fy al->R W:=eL 4 Kv
theorem R0(F:mf K "says_so" "says_so" JQ f fd) (Ww:d8 P w K mg base 1 "goods_of" 2 Nx)(WD:d8 P w K mg base 1 "says" 2 Nw):fj P w K mg base (iY P w) 2 f fd OJ (mJ K mg 4 yD):=
 de F RU rfl λO A r s H E V=>by walk_at "w"
def Kw:FS:=(aY (bG 4<|e2 dF (ac 1)<|eX<|ae (ac 2) aw)<|aY (bG 5<|c7 1 Nu<|ae (Cv jZ (eC<|.str [])<|ae (cb [b0] (bV<|ac 4) (cF 0) d_<|e2 bd (ac 0)<|eI 0) aw) aw)<|aY (gy<|c7 2 Ny<|ae (ac 3)<|ae (ac 5) aw)<|aY (bG 6 yn)<|aY (gE (bV<|ac 3) (cF 7)<|vN (ac 6) (ac 7) (eC<|.bl cT) wj)<|aY (jB (TF<|fD<|aU zf<|ae (cb [b0,bi 4] (iq<|ac 6) (cF 0) d_<|c7 2 BL<|ae (ac 1)<|ae (ac 0) aw) aw) (db<|eC<|.bl eh) cR)<|aY (jB (fD<|e2 (pe cT) (e2 yu (eX<|ae (eI 0) aw)<|aU b9<|ae (ac 4) aw)<|ac 6) (db<|eC<|.bl eh) cR)<|aY (jB (TF<|fD<|aU zf<|ae (cb [b0,bi 0,bi 1,bi 2] (iq<|ac 6) (cF 0) d_<|c7 4 yD<|ae (ac 1)<|ae (ac 2)<|ae (ac 3)<|ae (ac 0) aw) aw) (db<|eC<|.bl eh) cR)<|db<|Ey EO (ac 6) 2 bK iI (ae (ac 4)<|ae (ac 5) aw)<|c7 1 GN<|ae (aU b9<|ae (ac 5) aw) aw)
def EQ:fy W->fy al->R W:=eL 8 Kw
theorem R1(F:mf K "shown" "shown" JR f fd)(B:Bl mg)(YH:d8 P w K mg base 2 "all_rooms" 2 BL)(WL:d8 P w K mg base 3 "check_looks" 2 Ny)(YK:d8 P w K mg base 2 "closed" 3 EO)(WG:d8 P w K mg base 1 "in_order" 1 Nu)(YD:d8 P w K mg base 2 "says_so" 4 yD)(Wl:Bv P w K mg base 3 "side_by_side" 2 bK iI)(N0:d8 P w K mg base 1 "two_to" 1 GN):fj P w K mg base (iY P w) 4 f fd OK (mJ K mg 4 EQ):=
 de F JS rfl λO A r s H E V=>by have z:=JS;walk_at "w"
def VR:FS:=(aY (jB (fD<|e2 ik (aU b9<|ae (ac 0) aw)<|eI 0) (db<|eI 0) cR)<|db<|e2 bd (ac 0)<|e2 dE (ac 1)<|aU b9<|ae (ac 0) aw)
def oT:fy W->fy al->R W:=eL 2 VR
theorem R3(F:mf K "_law_cell" "_law_cell" JT f fd)(B:Bl mg) :fj P w K mg base (iY P w) 1 f fd OL (mJ K mg 2 oT):=
 de F RV rfl λO A r s H E V=>by walk_at "w"
def VS:FS:=(aY (bG 3<|e2 dE (e2 fM (e2 dF (e2 dF (e2 dF (ac 0)<|e2 fM (e2 fM (eI 7)<|ac 1)<|ac 1)<|e2 fM (eI 13)<|ac 1)<|ac 2)<|eI 69621)<|eI 2147483647)<|db<|e2 dE (e2 fM (e2 dE (e2 dF (e2 dF (e2 fM (ac 3)<|e2 dF (e2 pO (ac 3)<|eI 1009)<|eI 3)<|e2 fM (eI 31)<|ac 1)<|ac 2)<|eI 2147483629)<|eI 48271)<|eI 1000000007)
def BM:fy W->fy al->R W:=eL 4 VS
theorem R4(F:mf K "_law_mixed" "_law_mixed" JU f fd)  :fj P w K mg base (iY P w) 1 f fd OM (mJ K mg 3 BM):=
 de F JV rfl λO A r s H E V=>by have z:=JV;walk_at "w"
def O':FS:=(aY (bG 3<|dW aw)<|aY (bG 4<|eI 0)<|aY (jB (fD<|e2 UT (ac 0)<|e2 UP (eI 10)<|eI 18) (bG 4<|ac 0) cR)<|aY (gE (bq<|ae (ac 1) aw) (cF 5)<|jB (fD<|e2 F9 (ac 4)<|eI 0) (aY (gy<|uX dJ (ac 3)<|ae (e2 dE (ac 4)<|eI 64) aw)<|bG 4<|e2 pO (ac 4)<|eI 64)<|gy<|uX dJ (ac 3)<|ae (c7 3 BM<|ae (ac 0)<|ae (ac 5)<|ae (ac 2) aw) aw)<|db<|ac 3)
def qY:fy W->fy al->R W:=eL 6 O'
theorem R5(F:mf K "_law_draws" "_law_draws" JW f fd)(B:Bl mg)(YX:d8 P w K mg base 1 "_law_mixed" 3 BM):fj P w K mg base (iY P w) 2 f fd ON (mJ K mg 3 qY):=
 de F JX rfl λO A r s H E V=>by have z:=JX;walk_at "w"
def Pa:FS:=(aY (bG 3<|eC<|.str [65,66,67,68,69,70,71,72,73,74,75,76,77,78,79,80,81,82,83,84,85,86,87,88,89,90,97,98,99,100,101,102,103,104,105,106,107,108,109,110,111,112,113,114,115,116,117,118,119,120,121,122])<|aY (bG 4<|eC<|.str [])<|aY (gE (bV<|c7 3 qY<|ae (ac 0)<|ae (ac 1)<|ae (ac 2) aw) (cF 5)<|aY (bG 6<|e2 dE (ac 5)<|aU b9<|ae (ac 3) aw)<|aY (bG 4<|e2 dF (ac 4)<|e2 bd (ac 3)<|ac 6)<|bG 3<|e2 dF (F' (ac 3) sw<|kS<|ac 6)<|F' (ac 3) (kS<|e2 dF (ac 6)<|eI 1) sw)<|db<|ac 4)
def uM:fy W->fy al->R W:=eL 7 Pa
theorem R6(F:mf K "_law_pool" "_law_pool" JY f fd)(B:Bl mg)(k:d8 P w K mg base 2 "_law_draws" 3 qY):fj P w K mg base (iY P w) 3 f fd OO (mJ K mg 3 uM):=
 de F JZ rfl λO A r s H E V=>by have z:=JZ;walk_at "w"
def VT:FS:=(db<|Cv jZ (eC<|.str [])<|ae (aU kI<|ae (cb [b0,bi 0,bi 1] (bq<|ae (aU b9<|ae (ac 0) aw) aw) (cF 0) (fD<|e2 ik (e2 A3 (e2 Iu (ac 2)<|ac 0)<|eI 1)<|eI 1)<|e2 bd (ac 1)<|ac 0) aw) aw)
def nu:fy W->fy al->R W:=eL 2 VT
theorem R7(F:mf K "_law_marks" "_law_marks" J0 f fd)(B:Bl mg) :fj P w K mg base (iY P w) 1 f fd OP (mJ K mg 2 nu):=
 de F RW rfl λO A r s H E V=>by walk_at "w"
def Pc:FS:=(aY (bG 4<|aU bU<|ae (cb [b0,bi 3] (bq<|ae (ac 1) aw) (cF 0) d_<|e2 ik (e2 dE (e2 bd (ac 1)<|ac 0)<|eI 2)<|eI 1) aw)<|aY (bG 5<|dW aw)<|aY (bG 6<|ac 1)<|aY (gE (bq<|ae (e2 ml (eI 1)<|aU b9<|ae (ac 0) aw) aw) (cF 7)<|aY (bG 8<|dW aw)<|aY (gE (bq<|ae (ac 1) aw) (cF 9)<|aY (gy<|uX dJ (ac 8)<|ae (aU bU<|ae (cb [b0,bi 2,bi 3,bi 6] (bq<|ae (ac 1) aw) (cF 0) d_<|e2 dE (e2 bd (ac 2)<|e2 dF (ac 3)<|ac 0)<|ac 1) aw) aw)<|bG 6<|e2 dF (ac 6)<|ac 1)<|gy<|uX dJ (ac 5)<|ae (aU bU<|ae (ac 8) aw) aw)<|db<|eX<|ae (ac 0)<|ae (ac 4)<|ae (aU bU<|ae (ac 5) aw) aw)
def BN:fy W->fy al->R W:=eL 10 Pc
theorem R8(F:mf K "_law_machine" "_law_machine" J1 f fd)(B:Bl mg) :fj P w K mg base (iY P w) 1 f fd OQ (mJ K mg 4 BN):=
 de F J2 rfl λO A r s H E V=>by have z:=J2;walk_at "w"
def VU:FS:=(aY (bG 2<|eI 0)<|aY (gE (bV<|ac 0) (cF 3)<|bG 2<|e2 dF (e2 fM (eI 2)<|ac 2)<|aU IA<|ae (e2 (xj eh) (ac 3)<|ac 1) aw)<|db<|ac 2)
def nv:fy W->fy al->R W:=eL 4 VU
theorem R9(F:mf K "_law_letter" "_law_letter" J3 f fd)(B:Bl mg) :fj P w K mg base (iY P w) 1 f fd OR (mJ K mg 2 nv):=
 de F J4 rfl λO A r s H E V=>by have z:=J4;walk_at "w"
def Pd:FS:=(aY (bG 2<|c7 3 qY<|ae (c7 2 oT<|ae (ac 0)<|ae (eI 0) aw)<|ae (eI 6)<|ae (eI 100003) aw)<|aY (bG 3<|c7 3 uM<|ae (c7 2 oT<|ae (ac 0)<|ae (eI 1) aw)<|ae (eI 3)<|ae (eI 200017) aw)<|aY (bG 4<|dW aw)<|aY (gE (bq<|ae (eI 2) aw) (cF 5)<|aY (bG 6<|c7 2 nu<|ae (ac 3)<|ae (e2 bd (dW<|ae (eI 0)<|ae (eI 1)<|ae (eI 2)<|ae (eI 4)<|ae (eI 3)<|ae (eI 5)<|ae (eI 6) aw)<|e2 dE (e2 bd (ac 2)<|ac 5)<|eI 7) aw)<|aY (bG 7<|e2 dF (eI 1)<|e2 dE (e2 bd (ac 2)<|e2 dF (eI 2)<|ac 5)<|e2 bd (ac 1)<|aU b9<|ae (ac 6) aw)<|aY (bG 8<|ac 7)<|aY (jB (fD<|e2 ik (e2 dE (e2 bd (ac 2)<|e2 dF (eI 4)<|ac 5)<|eI 3)<|eI 1) (bG 8<|aU xA<|ae (eI 1)<|ae (e2 tX (ac 7)<|eI 1) aw) cR)<|aY (bG 9<|c7 3 qY<|ae (c7 2 oT<|ae (ac 0)<|ae (e2 dF (eI 2)<|ac 5) aw)<|ae (e2 dF (ac 7)<|e2 ml (e2 fM (ac 7)<|ac 7)<|aU b9<|ae (ac 6) aw)<|ae (e2 dF (eI 300007)<|e2 fM (eI 100003)<|ac 5) aw)<|gy<|uX dJ (ac 4)<|ae (c7 4 BN<|ae (ac 6)<|ae (ac 7)<|ae (ac 8)<|ae (ac 9) aw) aw)<|db<|ac 4)
def ER:fy W->fy al->R W:=eL 10 Pd
theorem R_(F:mf K "_law_two" "_law_two" J5 f fd)(B:Bl mg)(I:d8 P w K mg base 1 "_law_cell" 2 oT)(k:d8 P w K mg base 2 "_law_draws" 3 qY)(YC:d8 P w K mg base 1 "_law_machine" 4 BN)(L:d8 P w K mg base 1 "_law_marks" 2 nu)(d:d8 P w K mg base 3 "_law_pool" 3 uM):fj P w K mg base (iY P w) 4 f fd OS (mJ K mg 2 ER):=
 de F J6 rfl λO A r s H E V=>by have z:=J6;walk_at "w"
def VW:FS:=(db<|Cv jZ (eC<|.str [])<|ae (cb [b0,bi 0] (bV<|eC<|.str [65,66,67,68,69,70,71,72,73,74,75,76,77,78,79,80,81,82,83,84,85,86,87,88,89,90,97,98,99,100,101,102,103,104,105,106,107,108,109,110,111,112,113,114,115,116,117,118,119,120,121,122]) (cF 0) (fD<|e2 (xj eh) (ac 0)<|ac 1)<|ac 0) aw)
def wI:fy W->fy al->R W:=eL 1 VW
theorem Sa(F:mf K "_law_names" "_law_names" J7 f fd)  :fj P w K mg base (iY P w) 1 f fd OT (mJ K mg 1 wI):=
 de F RX rfl λO A r s H E V=>by walk_at "w"
def Pe:FS:=(aY (bG 5<|aU b9<|ae (ac 3) aw)<|aY (bG 6<|aU uk<|ae (cb [b0,bi 3] (bq<|ae (ac 5) aw) (cF 0) d_<|eX<|ae (e2 bd (ac 1)<|ac 0)<|ae (ac 0) aw) aw)<|aY (bG 7<|dW aw)<|aY (gE (bq<|ae (e2 ml (eI 1)<|aU b9<|ae (ac 1) aw) aw) (cF 8)<|aY (bG 9<|c7 2 nu<|ae (Bd<|ac 1)<|ae (ac 8) aw)<|aY (lA (cb [b0,bi 9] (bV<|ac 0) (cF 0) d_<|c7 2 nv<|ae (e2 bd (ac 0)<|eI 0)<|ae (ac 1) aw)<|cF 10)<|aY (bG 11<|dW aw)<|aY (gE (bq<|ae (ac 5) aw) (cF 12)<|aY (bG 13<|dW aw)<|aY (gE (bq<|ae (ac 5) aw) (cF 14)<|aY (bG 15<|e2 bd (ac 2)<|e2 uZ (ac 6)<|ac 12)<|aY (bG 16<|e2 bd (ac 2)<|e2 uZ (ac 6)<|ac 14)<|aY (bG 17<|eI 0)<|aY (gE (bq<|ae (aU b9<|ae (ac 0) aw) aw) (cF 18)<|aY (bG 19<|e2 bd (e2 bd (e2 bd (e2 bd (e2 bd (ac 0)<|ac 18)<|eI 2)<|e2 bd (ac 10)<|ac 18)<|e2 bd (ac 15)<|ac 18)<|e2 bd (ac 16)<|ac 18)<|bG 17<|e2 dF (e2 fM (ac 17)<|aU b9<|ae (e2 bd (e2 bd (ac 0)<|ac 18)<|eI 1) aw)<|ac 19)<|aY (bG 20<|e2 dE (e2 dF (e2 dF (ac 12)<|ac 14)<|ac 8)<|e2 pO (ac 5)<|ac 4)<|gy<|uX dJ (ac 13)<|ae (e2 bd (ac 3)<|e2 dF (ac 17)<|e2 fM (ac 4)<|ac 20) aw)<|gy<|uX dJ (ac 11)<|ae (aU bU<|ae (ac 13) aw) aw)<|gy<|uX dJ (ac 7)<|ae (aU bU<|ae (ac 11) aw) aw)<|db<|aU bU<|ae (ac 7) aw)
def ES:fy W->fy al->R W:=eL 21 Pe
theorem Sb(F:mf K "_law_made_table" "_law_made_table" J8 f fd)(B:Bl mg)(J:d8 P w K mg base 1 "_law_letter" 2 nv)(L:d8 P w K mg base 1 "_law_marks" 2 nu):fj P w K mg base (iY P w) 2 f fd OU (mJ K mg 5 ES):=
 de F J9 rfl λO A r s H E V=>by have z:=J9;walk_at "w"
def Pf:FS:=(aY (bG 5<|aU b9<|ae (e2 bd (e2 bd (ac 1)<|eI 0)<|eI 1) aw)<|aY (jB (fD<|e2 ik (aU b9<|ae (ac 1) aw)<|eI 2) (bG 5<|e2 fM (ac 5)<|aU b9<|ae (e2 bd (e2 bd (ac 1)<|eI 1)<|eI 1) aw) cR)<|aY (bG 6<|e2 fM (ac 5)<|e2 dF (eI 1)<|ac 4)<|aY (bG 7<|e2 dF (dW<|ae (eI 0) aw)<|cb [b0,bi 3,bi 6] (bq<|ae (e2 tX (ac 6)<|eI 1) aw) (cF 0) d_<|e2 dF (eI 1)<|e2 dE (e2 dF (ac 0)<|ac 1)<|e2 tX (ac 2)<|eI 1)<|aY (bG 8<|dW aw)<|aY (bG 9 yn)<|aY (gE (bq<|ae (ac 6) aw) (cF 10)<|aY (bG 11<|dW<|ae (e2 dE (ac 10)<|ac 5) aw)<|aY (jB (fD<|e2 ik (aU b9<|ae (ac 1) aw)<|eI 2) (bG 11<|dW<|ae (e2 pO (e2 dE (ac 10)<|ac 5)<|aU b9<|ae (e2 bd (e2 bd (ac 1)<|eI 1)<|eI 1) aw)<|ae (e2 dE (e2 dE (ac 10)<|ac 5)<|aU b9<|ae (e2 bd (e2 bd (ac 1)<|eI 1)<|eI 1) aw) aw) cR)<|aY (lA (ua [b0,b0] (vZ<|ae (ac 1)<|ae (ac 11) aw) (A9 2<|cK (cF 0)<|cK (cF 1) kT) d_<|e2 bd (e2 bd (ac 0)<|eI 1)<|ac 1)<|cF 12)<|aY (bG 13<|e2 uW (e2 bd (ac 12)<|eI 0)<|e2 ik (ac 0)<|eC<|.str [110,111,116])<|aY (jB (Hc (fD<|e2 ik (ac 0)<|eC<|.str [97,110,100])<|fD<|e2 ik (ac 0)<|eC<|.str [111,114]) (bG 13<|QT (fD<|e2 ik (ac 0)<|eC<|.str [97,110,100]) (sk (e2 bd (ac 12)<|eI 0)<|e2 bd (ac 12)<|eI 1)<|Il (e2 bd (ac 12)<|eI 0)<|e2 bd (ac 12)<|eI 1) cR)<|aY (vN (ac 9) (e2 bd (ac 7)<|ac 10) (ac 13) Bf)<|gy<|uX dJ (ac 8)<|ae (aU bU<|ae (e2 dF (ac 11)<|dW<|ae (e2 bd (ac 7)<|ac 10) aw) aw) aw)<|aY (bG 14<|c7 5 ES<|ae (ac 1)<|ae (ac 2)<|ae (ac 8)<|ae (ac 7)<|ae (ac 5) aw)<|db<|eX<|ae (eX<|ae (ac 2)<|ae (aU bU<|ae (cb [b0,bi 9] (bq<|ae (ac 6) aw) (cF 0) d_<|e2 uZ (ac 1)<|ac 0) aw)<|ae (ac 14) aw)<|ae (ac 8) aw)
def ET:fy W->fy al->R W:=eL 15 Pf
theorem Sc(F:mf K "_law_made" "_law_made" J_ f fd)(B:Bl mg)(WC:d8 P w K mg base 2 "_law_made_table" 5 ES):fj P w K mg base (iY P w) 3 f fd OV (mJ K mg 5 ET):=
 de F jJ rfl λO A r s H E V=>(bz (sS 5 jJ<|dH i9 B.len dU<|aC (eY (eY (aE 1) bY) bY) ba)<|bz (jX (fJ (mq V) (dH i9 B.len dU<|aC (aE 1) ba) bY) (cO<|sS 5 jJ<|gQ rH (aE 5)<|dH i9 B.len dU<|aC (eY (eY (aE 1) bY) bY) ba) ie)<|bz (sS 6 jJ<|gQ rH (aE 5)<|gQ oP bY<|aE 4)<|bz (sS 7 jJ<|gQ oP (qX<|aC bY ba)<|t7 (nm:=["_law_k","_law_shift","_law_many"]) rfl rfl (kb B.range<|aC (gQ A4 (aE 6) bY) ba) (λ_ _ _ _ _=>(sC 0)) (λ_ _ _ _ _=>ip) (λ_ _ _ _ _=>(gQ oP bY<|gQ jE (gQ oP (aE 0)<|aE 1)<|gQ A4 (aE 2) bY)))<|bz (sS 8 jJ<|qX ba)<|bz (sS 9 jJ Df)<|bz (mU (kb B.range<|aC (aE 6) ba) (sG 10 jJ)<|bz (sS 11 jJ<|qX<|aC (gQ jE (aE 10)<|aE 5) ba)<|bz (jX (fJ (mq V) (dH i9 B.len dU<|aC (aE 1) ba) bY) (cO<|sS 11 jJ<|qX<|aC (gQ C4 (gQ jE (aE 10)<|aE 5)<|dH i9 B.len dU<|aC (eY (eY (aE 1) bY) bY) ba)<|aC (gQ jE (gQ jE (aE 10)<|aE 5)<|dH i9 B.len dU<|aC (eY (eY (aE 1) bY) bY) ba) ba) ie)<|bz (Bw (sG 12 jJ) (nm:=["_law_part","_law_room"]) rfl rfl (EC B.zip<|aC (aE 1)<|aC (aE 11) ba) (λ_ _ _ _ _=>(tZ rfl (fE (sC 0)<|fE (sC 1) qx))) (λ_ _ _ _ _=>ip) (λ_ _ _ _ _=>(eY (eY (aE 0) bY)<|aE 1)))<|bz (sS 13 jJ<|Ea (C6 V) (eY (aE 12) bY)<|Ea (mq V) (aE 0) ly)<|bz (jX (Ik<|Ec (fJ (mq V) (aE 0) ly)<|C2<|fJ (mq V) (aE 0) ly) (cO<|sS 13 jJ<|UN (fJ (mq V) (aE 0) ly) (Io (eY (aE 12) bY)<|Ed<|eY (aE 12) bY)<|UL (eY (aE 12) bY)<|Ed<|eY (aE 12) bY) ie)<|bz (pP (IW V) (aE 13) (aE 9)<|eY (aE 7)<|aE 10)<|cO<|vh<|Gd PySem.F.slot_list_append PySem.F.type_list_append t6 (aE 8)<|aC (dG io B.tuple d4<|aC (gQ oP (aE 11)<|qX<|aC (eY (aE 7)<|aE 10) ba) ba) ba)<|bz (sS 14 jJ<|jY WC V #[0] (aC (aE 1)<|aC (aE 2)<|aC (aE 8)<|aC (aE 7)<|aC (aE 5) ba))<|cO<|iX<|yg<|aC (yg<|aC (aE 2)<|aC (dG io B.tuple d4<|aC (t7 (nm:=["_law_room","_law_goods"]) rfl rfl (kb B.range<|aC (aE 6) ba) (λ_ _ _ _ _=>(sC 0)) (λ_ _ _ _ _=>ip) (λ_ _ _ _ _=>(IV V (aE 1)<|aE 0))) ba)<|aC (aE 14) ba)<|aC (aE 8) ba)
def Pg:FS:=(aY (bG 2<|dW<|ae (aU bU<|ae (cb [b0] (bV<|ac 0) (cF 0) d_<|eI 0) aw) aw)<|aY (bG 3<|eI 0)<|aY (rF (fD<|e2 A5 (ac 3)<|aU b9<|ae (ac 2) aw)<|aY (gE (bq<|ae (e2 ml (eI 1)<|aU b9<|ae (ac 1) aw) aw) (cF 4)<|aY (lA (cb [b0,bi 1,bi 4] (bV<|ac 0) (cF 0) d_<|c7 2 nv<|ae (e2 bd (ac 0)<|eI 0)<|ae (c7 2 nu<|ae (ac 1)<|ae (ac 2) aw) aw)<|cF 5)<|gE (bq<|ae (e2 dF (ac 3)<|eI 1) aw) (cF 6)<|gE (bV<|eX<|ae (eX<|ae (e2 bd (ac 2)<|ac 3)<|ae (e2 bd (ac 2)<|ac 6) aw)<|ae (eX<|ae (e2 bd (ac 2)<|ac 6)<|ae (e2 bd (ac 2)<|ac 3) aw) aw) (A9 2<|cK (cF 7)<|cK (cF 8) kT)<|aY (bG 9<|dW aw)<|aY (gE (bq<|ae (aU b9<|ae (ac 0) aw) aw) (cF 10)<|aY (bG 11<|e2 bd (e2 bd (e2 bd (ac 0)<|ac 10)<|eI 2)<|e2 bd (ac 5)<|ac 10)<|gy<|uX dJ (ac 9)<|ae (e2 bd (e2 bd (ac 11)<|e2 bd (ac 7)<|ac 10)<|e2 bd (ac 8)<|ac 10) aw)<|jB (fD<|e2 (xj cT) (aU bU<|ae (ac 9) aw)<|ac 2) (gy<|uX dJ (ac 2)<|ae (aU bU<|ae (ac 9) aw) aw) cR)<|bG 3<|e2 dF (ac 3)<|eI 1)<|db<|ac 2)
def BO:fy W->fy al->R W:=eL 12 Pg
theorem Sd(F:mf K "_law_met_rows" "_law_met_rows" Ka f fd)(B:Bl mg)(J:d8 P w K mg base 1 "_law_letter" 2 nv)(L:d8 P w K mg base 1 "_law_marks" 2 nu):fj P w K mg base (iY P w) 2 f fd OW (mJ K mg 2 BO):=
 de F Kb rfl λO A r s H E V=>by have z:=Kb;walk_at "w"
def Ph:FS:=(aY (bG 3 yn)<|aY (gE (bV<|ac 2) (cF 4)<|vN (ac 3) (ac 4) (eC<|.bl cT) wj)<|aY (gE (bq<|ae (e2 ml (eI 1)<|aU b9<|ae (ac 1) aw) aw) (cF 5)<|aY (bG 6<|c7 2 nu<|ae (ac 1)<|ae (ac 5) aw)<|aY (lA (cb [b0,bi 6] (bV<|ac 0) (cF 0) d_<|c7 2 nv<|ae (e2 bd (ac 0)<|eI 0)<|ae (ac 1) aw)<|cF 7)<|gE (bV<|aU pT<|ae (ac 3) aw) (cF 8)<|gE (bV<|aU pT<|ae (ac 3) aw) (cF 9)<|aY (bG 10<|dW aw)<|aY (gE (bq<|ae (aU b9<|ae (ac 0) aw) aw) (cF 11)<|aY (bG 12<|e2 bd (e2 bd (e2 bd (ac 0)<|ac 11)<|eI 2)<|e2 bd (ac 7)<|ac 11)<|gy<|uX dJ (ac 10)<|ae (e2 bd (e2 bd (ac 12)<|e2 bd (ac 8)<|ac 11)<|e2 bd (ac 9)<|ac 11) aw)<|jB (fD<|e2 (pe cT) (aU bU<|ae (ac 10) aw)<|ac 3) (db<|eC<|.bl eh) cR)<|db<|eC<|.bl cT)
def EU:fy W->fy al->R W:=eL 13 Ph
theorem Se(F:mf K "_law_shuts" "_law_shuts" Kc f fd)(B:Bl mg)(J:d8 P w K mg base 1 "_law_letter" 2 nv)(L:d8 P w K mg base 1 "_law_marks" 2 nu):fj P w K mg base (iY P w) 2 f fd OX (mJ K mg 3 EU):=
 de F lL rfl λO A r s H E V=>(bz (sS 3 lL Df)<|bz (mU (jl<|aE 2) (sG 4 lL)<|cO<|pP (Ji V) F6 (aE 3)<|aE 4)<|bz (mU (kb B.range<|aC (gQ Oi bY<|dH i9 B.len dU<|aC (aE 1) ba) ba) (sG 5 lL)<|bz (sS 6 lL<|jY L V (by omega)<|aC (aE 1)<|aC (aE 5) ba)<|bz (lF (sG 7 lL) (nm:=["_law_machine_here","_law_marks_here"]) rfl rfl (jl<|aE 0) (λ_ _ _ _ _=>(sC 0)) (λ_ _ _ _ _=>ip) (λ_ _ _ _ _=>(jY J V (by omega)<|aC (eY (aE 0) bY)<|aC (aE 1) ba)))<|cO<|mU (jl<|dG (Ez V) B.list nL<|aC (aE 3) ba) (sG 8 lL)<|cO<|mU (jl<|dG (Ez V) B.list nL<|aC (aE 3) ba) (sG 9 lL)<|bz (sS 10 lL<|qX ba)<|bz (mU (kb B.range<|aC (dH i9 B.len dU<|aC (aE 0) ba) ba) (sG 11 lL)<|bz (sS 12 lL<|eY (eY (eY (aE 0)<|aE 11) bY)<|eY (aE 7)<|aE 11)<|cO<|vh<|Gd PySem.F.slot_list_append PySem.F.type_list_append t6 (aE 10)<|aC (eY (eY (aE 12)<|eY (aE 8)<|aE 11)<|eY (aE 9)<|aE 11) ba)<|cO<|jX (fJ (nq V) (dG io B.tuple d4<|aC (aE 10) ba)<|aE 3) (cO<|iX F6) ie)<|cO<|iX F6)
def Pi:FS:=(aY (bG 4<|e2 dF (ac 1)<|dW<|ae (ac 2) aw)<|aY (gE (bV<|ac 3) (cF 5)<|aY (gE (bq<|ae (aU b9<|ae (ac 5) aw) aw) (cF 6)<|jB (Hc (fD<|e2 A5 (e2 bd (ac 5)<|ac 6)<|eI 0)<|fD<|e2 UT (e2 bd (ac 5)<|ac 6)<|aU b9<|ae (e2 bd (e2 bd (ac 4)<|ac 6)<|eI 1) aw) (db<|eC<|.bl eh) cR)<|aY (lA (cb [b0,bi 5,bi 4] (bq<|ae (aU b9<|ae (ac 5) aw) aw) (cF 0) d_<|e2 bd (e2 bd (e2 bd (ac 2)<|ac 0)<|eI 1)<|e2 bd (ac 1)<|ac 0)<|cF 7)<|aY (bG 8<|e2 uW (e2 bd (ac 7)<|eI 0)<|e2 ik (ac 0)<|eC<|.str [110,111,116])<|aY (jB (fD<|e2 ik (ac 0)<|eC<|.str [97,110,100]) (bG 8<|sk (e2 bd (ac 7)<|eI 0)<|e2 bd (ac 7)<|eI 1) cR)<|aY (jB (fD<|e2 ik (ac 0)<|eC<|.str [111,114]) (bG 8<|Il (e2 bd (ac 7)<|eI 0)<|e2 bd (ac 7)<|eI 1) cR)<|jB (fD<|e2 uW (e2 bd (ac 7)<|t8<|eI 1)<|ac 8) (db<|eC<|.bl eh) cR)<|aY (jB (fD<|e2 (xj cT) (aU bU<|ae (cb [b0] (bV<|ac 4) (cF 0) d_<|eI 0) aw)<|ac 3) (db<|eC<|.bl eh) cR)<|db<|c7 3 EU<|ae (ac 4)<|ae (c7 1 wI<|ae (Cv jZ (eC<|.str [])<|ae (cb [b0] (bV<|ac 4) (cF 0) d_<|e2 bd (ac 0)<|eI 0) aw) aw)<|ae (ac 3) aw)
def EV:fy W->fy al->R W:=eL 9 Pi
theorem Sf(F:mf K "_law_looked" "_law_looked" Kd f fd)(B:Bl mg)(Fs:d8 P w K mg base 1 "_law_names" 1 wI)(YE:d8 P w K mg base 2 "_law_shuts" 3 EU):fj P w K mg base (iY P w) 3 f fd OY (mJ K mg 4 EV):=
 de F Ke rfl λO A r s H E V=>by have z:=Ke;walk_at "w"
def VX:FS:=(aY (lA (ac 0)<|A9 3<|cK (cF 1)<|cK (cF 2)<|cK (cF 3) kT)<|aY (jB (fD<|e2 ik (aU b9<|ae (ac 2) aw)<|eI 1) (db<|ac 0) cR)<|db<|eX<|ae (ac 1)<|ae (ac 2)<|ae (aU bU<|ae (cb [b0] (bV<|ac 3) (cF 0) d_<|aU bU<|ae (cb [b0] (bV<|ac 0) (cF 0) d_<|aU bU<|ae (cb [b0] (bV<|ac 0) (cF 0) d_<|aU xA<|ae (eI 1)<|ae (ac 0) aw) aw) aw) aw) aw)
def yE:fy W->fy al->R W:=eL 4 VX
theorem Sg(F:mf K "_law_unled" "_law_unled" Kf f fd)(B:Bl mg) :fj P w K mg base (iY P w) 1 f fd OZ (mJ K mg 1 yE):=
 de F zR rfl λO A r s H E V=>(bz (y9 (aE 0)<|tZ rfl (fE (sG 1 zR)<|fE (sG 2 zR)<|fE (sG 3 zR) qx))<|bz (jX (fJ (mq V) (dH i9 B.len dU<|aC (aE 2) ba) bY) (cO<|iX<|aE 0) ie)<|cO<|iX<|yg<|aC (aE 1)<|aC (aE 2)<|aC (dG io B.tuple d4<|aC (t7 (m:=0) (nm:=["_law_rows"]) rfl rfl (jl<|aE 3) (λ_ _ _ _ _=>(sC 0)) (λ_ _ _ _ _=>ip) (λ_ _ _ _ _=>(dG io B.tuple d4<|aC (sE (nm:=["_law_row"]) rfl (jl<|aE 0) (λ_ _ _ _ _=>(sC 0)) (λ_ _ _ _ _=>ip) (λ_ _ _ _ _=>(dG io B.tuple d4<|aC (sE (nm:=["_law_room"]) rfl (jl<|aE 0) (λ_ _ _ _ _=>(sC 0)) (λ_ _ _ _ _=>ip) (λ_ _ _ _ _=>(dH Oj B.max boot_max<|aC bY<|aC (aE 0) ba))) ba))) ba))) ba) ba)
def Pj:FS:=(aY (lA (ac 0)<|A9 3<|cK (cF 2)<|cK (cF 3)<|cK (cF 4) kT)<|aY (bG 5<|aU b9<|ae (ac 3) aw)<|aY (jB (fD<|e2 ik (ac 5)<|eI 1) (db<|ac 0) cR)<|aY (lA (cb [b0] (bV<|ac 4) (cF 0) d_<|cb [b0] (bV<|ac 0) (cF 0) d_<|aU uC<|ae (ac 0) aw)<|cF 6)<|aY (bG 7<|e2 bd (e2 bd (ac 6)<|e2 dE (e2 bd (ac 1)<|eI 0)<|aU b9<|ae (ac 6) aw)<|e2 dE (e2 bd (ac 1)<|eI 1)<|ac 5)<|aY (bG 8<|e2 dE (e2 bd (ac 1)<|eI 2)<|ac 5)<|aY (vN (ac 7) (ac 8) (e2 dE (e2 dF (e2 dF (e2 bd (ac 7)<|ac 8)<|eI 1)<|e2 dE (e2 bd (ac 1)<|eI 3)<|e2 tX (ac 5)<|eI 1)<|ac 5) sy)<|db<|eX<|ae (ac 2)<|ae (ac 3)<|ae (aU bU<|ae (cb [b0] (bV<|ac 6) (cF 0) d_<|aU bU<|ae (cb [b0] (bV<|ac 0) (cF 0) d_<|aU bU<|ae (ac 0) aw) aw) aw) aw)
def EW:fy W->fy al->R W:=eL 9 Pj
theorem Si(F:mf K "_law_led_else" "_law_led_else" Kg f fd)(B:Bl mg) :fj P w K mg base (iY P w) 1 f fd O0 (mJ K mg 2 EW):=
 de F pW rfl λO A r s H E V=>(bz (y9 (aE 0)<|tZ rfl (fE (sG 2 pW)<|fE (sG 3 pW)<|fE (sG 4 pW) qx))<|bz (sS 5 pW<|dH i9 B.len dU<|aC (aE 3) ba)<|bz (jX (fJ (mq V) (aE 5) bY) (cO<|iX<|aE 0) ie)<|bz (lF (sG 6 pW) (m:=0) (nm:=["_law_lefts"]) rfl rfl (jl<|aE 4) (λ_ _ _ _ _=>(sC 0)) (λ_ _ _ _ _=>ip) (λ_ _ _ _ _=>(sE (nm:=["_law_row"]) rfl (jl<|aE 0) (λ_ _ _ _ _=>(sC 0)) (λ_ _ _ _ _=>ip) (λ_ _ _ _ _=>(dG C7 B.list nL<|aC (aE 0) ba)))))<|bz (sS 7 pW<|eY (eY (aE 6)<|gQ jE (eY (aE 1) bY)<|dH i9 B.len dU<|aC (aE 6) ba)<|gQ jE (eY (aE 1) bY)<|aE 5)<|bz (sS 8 pW<|gQ jE (eY (aE 1) bY)<|aE 5)<|bz (pP y_ (gQ jE (gQ oP (gQ oP (eY (aE 7)<|aE 8) bY)<|gQ jE (eY (aE 1) bY)<|gQ A4 (aE 5) bY)<|aE 5) (aE 7)<|aE 8)<|cO<|iX<|yg<|aC (aE 2)<|aC (aE 3)<|aC (dG io B.tuple d4<|aC (t7 (m:=0) (nm:=["_law_lefts"]) (cap:=[b0]) rfl rfl (jl<|aE 6) (λ_ _ _ _ _=>(sC 0)) (λ_ _ _ _ _=>ip) (λ_ _ _ _ _=>(dG io B.tuple d4<|aC (sE (nm:=["_law_row"]) (cap:=[b0]) rfl (jl<|aE 0) (λ_ _ _ _ _=>(sC 0)) (λ_ _ _ _ _=>ip) (λ_ _ _ _ _=>(dG io B.tuple d4<|aC (aE 0) ba))) ba))) ba) ba)
def VY:FS:=(aY (lA (ac 0)<|A9 3<|cK (cF 2)<|cK (cF 3)<|cK (cF 4) kT)<|db<|eX<|ae (ac 2)<|ae (aU bU<|ae (cb [b0,bi 3,bi 1] (bq<|ae (aU b9<|ae (ac 3) aw) aw) (cF 0) d_<|e2 uW (e2 bd (ac 1)<|ac 0)<|e2 ik (ac 0)<|ac 2) aw)<|ae (ac 4) aw)
def EX:fy W->fy al->R W:=eL 5 VY
theorem Sj(F:mf K "_law_turned" "_law_turned" Kh f fd)(B:Bl mg) :fj P w K mg base (iY P w) 1 f fd O5 (mJ K mg 2 EX):=
 de F Ki rfl λO A r s H E V=>by have z:=Ki;walk_at "w"
def VZ:FS:=(Q4 (db<|c7 4 EQ<|ae (ac 0)<|ae (aU bU<|ae (ac 1) aw)<|ae (ac 2)<|ae (aU bU<|ae (ac 3) aw) aw) uL 4<|db<|eX<|ae (eC<|.str [114,101,102,117,115,101,100])<|ae (Gk kt<|ac 4) aw)
def wJ:fy W->fy al->R W:=eL 5 VZ
theorem Sk(F:mf K "_law_asked" "_law_asked" Kj f fd)(B:Bl mg)(C:Qt K mg)(Wu:d8 P w K mg base 4 "shown" 4 EQ):fj P w K mg base (iY P w) 5 f fd O6 (mJ K mg 4 wJ):=
 de F Kk rfl λO A r s H E V=>(cO<|Q5 C.catch_TooGreat Kk.nd rfl (Or.inl rfl) (λ_ _=>(cO<|iX<|jY Wu V (by omega)<|aC (aE 0)<|aC (dG io B.tuple d4<|aC (aE 1) ba)<|aC (aE 2)<|aC (dG io B.tuple d4<|aC (aE 3) ba) ba)) (λ_=>(cO<|iX<|yg<|aC ly<|aC (C.isi_TrunkError.elim λ_ h=>U5 B.isinstance h.1 h.2<|aE 4) ba)))
def Pk:FS:=(aY (bG 2<|Cv jZ (eC<|.str [])<|ae (cb [b0,bi 1] (bV<|e2 bd (ac 0)<|eI 0) (cF 0) (fD<|e2 uW (ac 0)<|ac 1)<|ac 0) aw)<|aY (bG 3<|dW aw)<|aY (gE (bq<|ae (e2 ml (eI 1)<|aU b9<|ae (ac 2) aw) aw) (cF 4)<|gy<|uX dJ (ac 3)<|ae (e2 bd (e2 bd (ac 0)<|eI 2)<|c7 2 nv<|ae (e2 bd (ac 0)<|eI 0)<|ae (c7 2 nu<|ae (Bd<|ac 2)<|ae (ac 4) aw) aw) aw)<|db<|eX<|ae (ac 2)<|ae (e2 bd (ac 0)<|eI 1)<|ae (aU bU<|ae (ac 3) aw) aw)
def EY:fy W->fy al->R W:=eL 5 Pk
theorem Sl(F:mf K "_law_without" "_law_without" Kl f fd)(B:Bl mg)(J:d8 P w K mg base 1 "_law_letter" 2 nv)(L:d8 P w K mg base 1 "_law_marks" 2 nu):fj P w K mg base (iY P w) 2 f fd O7 (mJ K mg 2 EY):=
 de F Km rfl λO A r s H E V=>by have z:=Km;walk_at "w"
def Pl:FS:=(aY (jB (fD<|e2 ik (e2 dE (e2 bd (ac 0)<|eI 1)<|eI 2)<|eI 1) (aY (bG 2<|Cv jZ (eC<|.str [])<|ae (aU kI<|ae (F' (ac 1) sw<|kS<|e2 dE (e2 bd (ac 0)<|eI 5)<|eI 4) aw) aw)<|aY (bG 3<|e2 bd (dW<|ae (eI 200)<|ae (eI 141)<|ae (eI 100)<|ae (eI 70) aw)<|aU b9<|ae (ac 2) aw)<|aY (bG 4<|e2 dF (ac 3)<|e2 dE (e2 bd (ac 0)<|eI 2)<|eI 2)<|aY (bG 5<|eX<|ae (ac 2)<|ae (eX<|ae (eC<|.bl cT) aw)<|ae (aU bU<|ae (cb [b0] (bq<|ae (e2 ml (eI 1)<|aU b9<|ae (ac 2) aw) aw) (cF 0) d_<|eX<|ae (eX<|ae (eI 0) aw) aw) aw) aw)<|aY (bG 6<|e2 uD (dW<|ae (eX<|ae (eI 0)<|ae (eI 0) aw) aw)<|ac 4)<|aY (jB (fD<|e2 F9 (e2 dE (e2 bd (ac 0)<|eI 3)<|eI 3)<|eI 0) (vN (ac 6) (e2 fM (e2 tX (ac 4)<|eI 1)<|e2 tX (e2 dE (e2 bd (ac 0)<|eI 3)<|eI 3)<|eI 1) (e2 bd (dW<|ae (eX<|ae (eI 1)<|ae (eI 0) aw)<|ae (eX<|ae (eI 0)<|ae (t8<|eI 1) aw)<|ae (eX<|ae (eI 0)<|ae (eI 1) aw)<|ae (eX<|ae (t8<|eI 1)<|ae (eI 0) aw) aw)<|e2 dE (e2 bd (ac 0)<|eI 4)<|eI 4) sy) cR)<|aY (bG 7<|c7 4 wJ<|ae (eC<|.str [115,97,109,101])<|ae (dW<|ae (ac 5) aw)<|ae (ac 5)<|ae (ac 6) aw)<|aY (jB (fD<|e2 F9 (ac 4)<|ac 3) (db<|e2 ik (ac 7)<|eX<|ae (eC<|.str [114,101,102,117,115,101,100])<|ae (eC<|.bl cT) aw) cR)<|db<|sk (Gh "bool" (ac 7))<|e2 ik (ac 7)<|e2 ik (e2 dE (e2 bd (ac 0)<|eI 3)<|eI 3)<|eI 0) cR)<|aY (bG 4<|e2 dF (eI 13)<|e2 dE (e2 bd (ac 0)<|eI 2)<|eI 2)<|aY (bG 2<|Cv jZ (eC<|.str [])<|ae (aU kI<|ae (F' (ac 1) sw<|kS<|eI 7) aw) aw)<|aY (bG 8<|Cv jZ (eC<|.str [])<|ae (aU kI<|ae (F' (ac 1) (kS<|eI 7)<|kS<|ac 4) aw) aw)<|aY (bG 5<|eX<|ae (ac 2)<|ae (eX<|ae (eC<|.bl cT) aw)<|ae (aU bU<|ae (cb [b0] (bq<|ae (e2 ml (eI 1)<|aU b9<|ae (ac 2) aw) aw) (cF 0) d_<|eX<|ae (eX<|ae (eI 0) aw) aw) aw) aw)<|aY (bG 9<|eX<|ae (ac 8)<|ae (eX<|ae (eC<|.bl cT) aw)<|ae (aU bU<|ae (cb [b0] (bq<|ae (e2 ml (eI 1)<|aU b9<|ae (ac 8) aw) aw) (cF 0) d_<|eX<|ae (eX<|ae (eI 0) aw) aw) aw) aw)<|aY (bG 7<|c7 4 wJ<|ae (eC<|.str [115,97,109,101])<|ae (dW<|ae (ac 5) aw)<|ae (ac 9)<|ae (dW aw) aw)<|aY (jB (fD<|e2 ik (ac 4)<|eI 14) (db<|e2 ik (ac 7)<|eX<|ae (eC<|.str [114,101,102,117,115,101,100])<|ae (eC<|.bl cT) aw) cR)<|db<|sk (Gh "bool" (ac 7))<|Im<|ac 7)
def EZ:fy W->fy al->R W:=eL 10 Pl
theorem Sn(F:mf K "_law_great" "_law_great" Kn f fd)(B:Bl mg)(Cq:d8 P w K mg base 5 "_law_asked" 4 wJ):fj P w K mg base (iY P w) 6 f fd O8 (mJ K mg 2 EZ):=
 de F Ko rfl λO A r s H E V=>by have z:=Ko;walk_at "w"
def Pm:FS:=(aY (bG 4<|c7 2 ER<|ae (ac 0)<|ae (dW<|ae (eI 3)<|ae (eI 3)<|ae (eI 3) aw) aw)<|aY (jB (Hc (fD<|e2 ik (ac 1)<|eC<|.str [115,97,109,101])<|fD<|e2 ik (ac 1)<|eC<|.str [110,111,116]) (bG 4<|F' (ac 4) sw<|kS<|eI 1) cR)<|aY (jB (fD<|e2 ik (ac 2)<|eI 3) (lA (cb [b0] (bV<|ac 4) (cF 0) d_<|c7 1 yE<|ae (ac 0) aw)<|cF 4) cR)<|aY (bG 5<|c7 1 wI<|ae (Cv jZ (eC<|.str [])<|ae (cb [b0] (bV<|ac 4) (cF 0) d_<|e2 bd (ac 0)<|eI 0) aw) aw)<|aY (bG 6<|ac 5)<|aY (jB (fD<|e2 ik (e2 dE (e2 bd (ac 3)<|eI 12)<|eI 4)<|eI 1) (bG 6<|c7 1 wI<|ae (e2 dF (ac 5)<|e2 bd (c7 3 uM<|ae (c7 2 oT<|ae (ac 0)<|ae (eI 1) aw)<|ae (eI 4)<|ae (eI 200017) aw)<|eI 3) aw) cR)<|aY (lA (c7 5 ET<|ae (ac 1)<|ae (ac 4)<|ae (ac 6)<|ae (e2 bd (ac 3)<|eI 2)<|ae (e2 dE (e2 bd (ac 3)<|eI 3)<|eI 2) aw)<|A9 2<|cK (cF 7)<|cK (cF 8) kT)<|aY (jB (Og (fD<|e2 ik (e2 dE (e2 bd (ac 3)<|eI 12)<|eI 4)<|eI 2)<|fD<|e2 F9 (aU b9<|ae (ac 5) aw)<|eI 0) (bG 7<|c7 2 EY<|ae (ac 7)<|ae (e2 bd (ac 5)<|e2 dE (e2 bd (ac 3)<|eI 13)<|aU b9<|ae (ac 5) aw) aw) cR)<|db<|eX<|ae (ac 4)<|ae (ac 6)<|ae (ac 7)<|ae (ac 8) aw)
def E0:fy W->fy al->R W:=eL 9 Pm
theorem So(F:mf K "_law_begun" "_law_begun" Kp f fd)(B:Bl mg)(I:d8 P w K mg base 1 "_law_cell" 2 oT)(YV:d8 P w K mg base 3 "_law_made" 5 ET)(Fs:d8 P w K mg base 1 "_law_names" 1 wI)(d:d8 P w K mg base 3 "_law_pool" 3 uM)(YI:d8 P w K mg base 4 "_law_two" 2 ER)(YT:d8 P w K mg base 1 "_law_unled" 1 yE)(PJ:d8 P w K mg base 2 "_law_without" 2 EY):fj P w K mg base (iY P w) 5 f fd O9 (mJ K mg 4 E0):=
 de F Kq rfl λO A r s H E V=>by have z:=Kq;walk_at "w"
def Pn:FS:=(aY (bG 1<|c7 3 qY<|ae (c7 2 oT<|ae (ac 0)<|ae (eI 4) aw)<|ae (eI 14)<|ae (eI 500009) aw)<|aY (jB (fD<|e2 ik (e2 dE (e2 pO (e2 bd (ac 1)<|eI 0)<|eI 8)<|eI 8)<|eI 5) (db<|c7 2 EZ<|ae (ac 1)<|ae (c7 3 uM<|ae (c7 2 oT<|ae (ac 0)<|ae (eI 1) aw)<|ae (eI 14)<|ae (eI 200017) aw) aw) cR)<|aY (bG 2<|e2 dE (e2 bd (ac 1)<|eI 0)<|eI 8)<|aY (bG 3<|e2 bd (dW<|Ee [[115,97,109,101],[110,111,116],[97,110,100],[111,114]])<|e2 dE (e2 bd (ac 1)<|eI 1)<|eI 4)<|aY (lA (c7 4 E0<|ae (ac 0)<|ae (ac 3)<|ae (ac 2)<|ae (ac 1) aw)<|A9 4<|cK (cF 4)<|cK (cF 5)<|cK (cF 6)<|cK (cF 7) kT)<|aY (bG 8<|c7 2 BO<|ae (e2 dF (ac 4)<|dW<|ae (ac 6) aw)<|ae (ac 5) aw)<|aY (jB (Hc (fD<|e2 ik (ac 2)<|eI 1)<|fD<|e2 ik (ac 2)<|eI 2) (aY (bG 9<|aU uC<|ae (e2 bd (ac 7)<|e2 dE (e2 bd (ac 1)<|eI 4)<|aU b9<|ae (ac 7) aw) aw)<|aY (bG 10<|e2 dE (e2 bd (ac 1)<|eI 5)<|aU b9<|ae (ac 9) aw)<|aY (vN (ac 9) (ac 10) (t8<|eI 1) sy)<|aY (jB (fD<|e2 ik (ac 2)<|eI 1) (vN (ac 9) (ac 10) (aU b9<|ae (e2 bd (e2 bd (e2 dF (ac 4)<|dW<|ae (ac 6) aw)<|ac 10)<|eI 1) aw) sy) cR)<|gy<|uX qC (ac 7)<|ae (e2 dE (e2 bd (ac 1)<|eI 6)<|e2 dF (aU b9<|ae (ac 7) aw)<|eI 1)<|ae (aU bU<|ae (ac 9) aw) aw) cR)<|aY (jB (fD<|e2 ik (ac 2)<|eI 3) (lA (cb [b0,bi 8] (bV<|ac 7) (cF 0) (fD<|e2 uW (ac 0)<|e2 bd (ac 1)<|eI 0)<|ac 0)<|cF 7) cR)<|aY (jB (Og (fD<|e2 ik (ac 2)<|eI 4)<|fD<|e2 F9 (aU b9<|ae (ac 8) aw)<|eI 1) (aY (bG 11<|e2 bd (ac 8)<|e2 dF (eI 1)<|e2 dE (e2 bd (ac 1)<|eI 7)<|e2 tX (aU b9<|ae (ac 8) aw)<|eI 1)<|lA (cb [b0,bi 11] (bV<|ac 7) (cF 0) (fD<|e2 uW (ac 0)<|ac 1)<|ac 0)<|cF 7) cR)<|aY (jB (fD<|e2 ik (ac 2)<|eI 5) (bG 6<|c7 2 EX<|ae (ac 6)<|ae (e2 bd (e2 bd (ac 7)<|e2 dE (e2 bd (ac 1)<|eI 8)<|aU b9<|ae (ac 7) aw)<|t8<|eI 1) aw) cR)<|aY (jB (fD<|e2 ik (ac 2)<|eI 6) (bG 6<|c7 2 EW<|ae (ac 6)<|ae (F' (ac 1) (kS<|eI 8)<|kS<|eI 12) aw) cR)<|aY (jB (fD<|e2 ik (ac 2)<|eI 7) (bG 3<|e2 uZ (Bi<|iE (eC<|.str [115,97,109,101]) (eC<|.str [110,111,116])<|iE (eC<|.str [110,111,116]) (eC<|.str [115,97,109,101])<|iE (eC<|.str [97,110,100]) (eC<|.str [111,114])<|iE (eC<|.str [111,114]) (eC<|.str [97,110,100]) Bh)<|ac 3) cR)<|aY (bG 12<|c7 4 wJ<|ae (ac 3)<|ae (ac 4)<|ae (ac 6)<|ae (ac 7) aw)<|db<|sk (Gh "bool" (ac 12))<|e2 ik (ac 12)<|c7 4 EV<|ae (ac 3)<|ae (ac 4)<|ae (ac 6)<|ae (ac 7) aw)
def f_q35:fy W->fy al->R W:=eL 13 Pn
theorem Sq(F:mf K "law" "law" sO f fd)(B:Bl mg)(Cq:d8 P w K mg base 5 "_law_asked" 4 wJ)(Ly:d8 P w K mg base 5 "_law_begun" 4 E0)(I:d8 P w K mg base 1 "_law_cell" 2 oT)(k:d8 P w K mg base 2 "_law_draws" 3 qY)(Lg:d8 P w K mg base 6 "_law_great" 2 EZ)(WM:d8 P w K mg base 1 "_law_led_else" 2 EW)(WF:d8 P w K mg base 3 "_law_looked" 4 EV)(WI:d8 P w K mg base 2 "_law_met_rows" 2 BO)(d:d8 P w K mg base 3 "_law_pool" 3 uM)(Ll:d8 P w K mg base 1 "_law_turned" 2 EX):fj P w K mg base (iY P w) 7 f fd Kr (mJ K mg 1 f_q35):=
 de F ii rfl λO A r s H E V=>(bz (sS 1 ii<|jY k V #[0] (aC (jY I V #[0] (aC (aE 0)<|aC bY ba))<|aC bY<|aC bY ba))<|bz (jX (fJ (mq V) (gQ jE (gQ C4 (eY (aE 1) bY) bY) bY) bY) (cO<|iX<|jY Lg V #[0] (aC (aE 1)<|aC (jY d V #[0] (aC (jY I V #[0] (aC (aE 0)<|aC bY ba))<|aC bY<|aC bY ba)) ba)) ie)<|bz (sS 2 ii<|gQ jE (eY (aE 1) bY) bY)<|bz (sS 3 ii<|eY (qX<|MD<|.cons<|.cons<|.cons<|.cons .nil)<|gQ jE (eY (aE 1) bY) bY)<|bz (y9 (jY Ly V #[0] (aC (aE 0)<|aC (aE 3)<|aC (aE 2)<|aC (aE 1) ba))<|tZ rfl (fE (sG 4 ii)<|fE (sG 5 ii)<|fE (sG 6 ii)<|fE (sG 7 ii) qx))<|bz (sS 8 ii<|jY WI V #[0] (aC (gQ oP (aE 4)<|qX<|aC (aE 6) ba)<|aC (aE 5) ba))<|bz (jX (Ik<|Ec (fJ (mq V) (aE 2) bY)<|C2<|fJ (mq V) (aE 2) bY) (bz (sS 9 ii<|dG C7 B.list nL<|aC (eY (aE 7)<|gQ jE (eY (aE 1) bY)<|dH i9 B.len dU<|aC (aE 7) ba) ba)<|bz (sS 10 ii<|gQ jE (eY (aE 1) bY)<|dH i9 B.len dU<|aC (aE 9) ba)<|bz (pP y_ (IF bY) (aE 9)<|aE 10)<|bz (jX (fJ (mq V) (aE 2) bY) (cO<|pP y_ (dH i9 B.len dU<|aC (eY (eY (gQ oP (aE 4)<|qX<|aC (aE 6) ba)<|aE 10) bY) ba) (aE 9)<|aE 10) ie)<|cO<|vh<|Gd PySem.F.slot_list_insert PySem.F.type_list_insert ym (aE 7)<|aC (gQ jE (eY (aE 1) bY)<|gQ oP (dH i9 B.len dU<|aC (aE 7) ba) bY)<|aC (dG io B.tuple d4<|aC (aE 9) ba) ba) ie)<|bz (jX (fJ (mq V) (aE 2) bY) (cO<|lF (sG 7 ii) (nm:=["_law_row","_law_met"]) rfl rfl (jl<|aE 7) (λ_ _ _ _ _=>(sC 0)) (λ_ _ _ _ _=>(zb<|fJ (C6 V) (aE 0)<|eY (aE 1) bY)) (λ_ _ _ _ _=>(aE 0))) ie)<|bz (jX (Ik<|C3 (fJ (mq V) (aE 2) bY)<|Eb<|fJ C5 (dH i9 B.len dU<|aC (aE 8) ba) bY) (bz (sS 11 ii<|eY (aE 8)<|gQ oP bY<|gQ jE (eY (aE 1) bY)<|gQ A4 (dH i9 B.len dU<|aC (aE 8) ba) bY)<|cO<|lF (sG 7 ii) (nm:=["_law_row","_law_gone"]) rfl rfl (jl<|aE 7) (λ_ _ _ _ _=>(sC 0)) (λ_ _ _ _ _=>(zb<|fJ (C6 V) (aE 0)<|aE 1)) (λ_ _ _ _ _=>(aE 0))) ie)<|bz (jX (fJ (mq V) (aE 2) bY) (cO<|sS 6 ii<|jY Ll V #[0] (aC (aE 6)<|aC (eY (eY (aE 7)<|gQ jE (eY (aE 1) bY)<|dH i9 B.len dU<|aC (aE 7) ba)<|IF bY) ba)) ie)<|bz (jX (fJ (mq V) (aE 2) bY) (cO<|sS 6 ii<|jY WM V #[0] (aC (aE 6)<|aC (UW (aE 1) (y7 bY)<|y7 bY) ba)) ie)<|bz (jX (fJ (mq V) (aE 2) bY) (cO<|sS 3 ii<|IV V (IY<|sF ly ly<|sF ly ly<|sF ly ly<|sF ly ly IX)<|aE 3) ie)<|bz (sS 12 ii<|jY Cq V #[0] (aC (aE 3)<|aC (aE 4)<|aC (aE 6)<|aC (aE 7) ba))<|cO<|iX<|Io (Os B.isinstance B.bool boot_bool<|aE 12)<|Ed<|Ea (mq V) (aE 12)<|jY WF V #[0] (aC (aE 3)<|aC (aE 4)<|aC (aE 6)<|aC (aE 7) ba))
end
theorem Ss(ns:fy α)(U:0<ns.length)(k:hG):∃c∈ns,uS ns (k%((ns.length:f7):hG))=bi c:=by have V:0<=k%ns.length:=kP _ #[0];have Z:k%ns.length<ns.length:=Int.emod_lt_of_pos _ #[0];obtain⟨m,hm⟩:=jz V;rw[hm]at Z ⊢;exact{ns[m],dS _,df<|by simp}
theorem qG(h:st[n]?=bi (.ro<|ns.map W.int))(k:hG):∃c,oT [.loc n,.int k] st=.ok (.int c) st:=by
 by_cases L:ns=[]
 .subst L;refine{0,?_};apply qD;apply JC;apply wz
  ·(repeat' (first|with_reducible exact jp (vj h)|walk_at "ev1"))
  rfl
 have U:=i7.mpr L;obtain⟨c,D,e⟩:=Ss (ns.map W.int) (by simp_all) k;obtain⟨c,_,rfl⟩:=aX.mp D;refine{c,?_};apply qD;apply OB
 .apply wA
  ·(repeat' (first|with_reducible exact jp (vj h)|walk_at "ev1"))
   rw[bj,aj];lia
  rfl
 ·(repeat' (first|with_reducible exact jp (vj h)|with_reducible exact kB (vj h) e|walk_at "ev1"))
  rw[aj];lia
def Kx(c k s:hG)(O:-(2^64)<k/\k<2^64)(st:fy al):∃r,0<=r/\BM [.int c,.int k,.int s] st=.ok (.int r) st:=by
 refine{(((c+7*k*k+13*k+s)*69621%2147483647*((c+7*k*k+13*k+s)*69621%2147483647/1009+3)+31*k+s)%2147483629*48271)%1000000007,kP _ (by decide),?_};apply qD;apply OB
 ·(walk_at "evs")<;>first|exact .inl (by decide)|exact .inr (by decide)|exact .inr O
 ·(walk_at "evs")<;>first|exact .inl (by decide)|exact .inr (by decide)|exact .inl (by omega)
theorem sR(c s:hG)(m:f7)(hm:m<=1000)(st:fy al):∃ds:fy hG,ds.length=m/\(∀d∈ds,0<=d)/\qY [.int c,.int m,.int s] st=.ok (.loc st.length) (st++[.lst<|ds.map W.int]):=by
 suffices I:ia (zE λw J=>∃j x,w=.loc (st.length+j)/\J=st++x/\j=0/\∃ds:fy hG,x=[.lst<|ds.map W.int]/\ds.length=m/\∀d∈ds,0<=d) (O' ([W.int c,.int m,.int s].map bi++rn (6-3) b0) st) by
  obtain⟨j,x,⟨rfl,ds,rfl,Z,B⟩,e⟩:=sM I;exact⟨ds,Z,B,e⟩
 apply aH
 ·(walk_at "evs")
 apply aH
 ·(walk_at "evs")
 have main:∀U:hG,ia (zE λw J=>∃j x,w=.loc (st.length+j)/\J=st++x/\j=0/\∃ds:fy hG,x=[.lst<|ds.map W.int]/\ds.length=m/\∀d∈ds,0<=d)
   (aY (gE (bq<|ae (ac 1) aw) (cF 5)<|jB (fD<|e2 F9 (ac 4)<|eI 0) (aY (gy<|uX dJ (ac 3)<|ae (e2 dE (ac 4)<|eI 64) aw)<|bG 4<|e2 pO (ac 4)<|eI 64)<|gy<|uX dJ (ac 3)<|ae (c7 3 BM<|ae (ac 0)<|ae (ac 5)<|ae (ac 2) aw) aw) (db<|ac 3)
   [bi<|.int c,bi<|.int m,bi<|.int s,bi<|.loc st.length,bi<|.int U,b0] (st++[.lst []])):=by
  intro U;refine fw (λi Y J=>∃(r:hG) (o:hJ W) (ds:fy hG),Y=[bi<|.int c,bi<|.int m,bi<|.int s,bi<|.loc st.length,bi<|.int r,o]/\J=st++[.lst<|ds.map W.int]/\ds.length=i/\∀d∈ds,0<=d) (cS rfl #[0])
   ⟨U,b0,[],rfl,rfl,rfl,by simp⟩ (λ_ _ _ _=>trivial) ?_ ?_
  .rintro i w Y J z ⟨r,o,ds,rfl,rfl,k,h⟩;obtain⟨L,rfl⟩:=dD z;refine{_,rfl,?_};have O:(st++[al.lst<|ds.map W.int])[st.length]?=bi (.lst<|ds.map W.int):=by rw[sJ];rfl
   have hsh:(ds.map W.int).length<j':=by rw[aj,k];show i<1000000;lia
   by_cases V:0<r
   .apply iG
    ·(walk_at "evs");simpa using V
    apply aH
    ·(repeat' (first|with_reducible exact gB O|with_reducible exact JE O hsh|walk_at "ev1"))
    rw[iP];apply fZ
    ·(walk_at "evs")
    .refine{_,_,rfl,r/64,_,ds++[r%64],rfl,by simp,by simp[k],λd hd'=>?_};rcases bD.mp hd' with hd'|hd'
     .exact h d hd'
     .rw[a_.mp hd'];exact kP _ (by decide)
   .obtain⟨q,R,e⟩:=Kx c (0+i) s #[0] (st++[al.lst<|ds.map W.int]);apply iH
    ·(walk_at "evs");simpa using V
    apply fZ
    ·(repeat' (first|with_reducible exact gB O|with_reducible exact JE O hsh|with_reducible exact e|walk_at "ev1"))
    .refine{_,_,rfl,r,_,ds++[q],rfl,by rw[iP];simp,by simp[k],λd hd'=>?_};rcases bD.mp hd' with hd'|hd'
     .exact h d hd'
     .rw[a_.mp hd'];exact R
  .rintro Y J ⟨r,o,ds,rfl,rfl,k,h⟩;apply cH
   ·(walk_at "evs")
   .exact{_,_,rfl,0,_,rfl,rfl,rfl,ds,rfl,by rw[k];simpa using bE 0 m,h}
 by_cases D:10^18<=c
 .apply aH
  .apply wz
   ·(walk_at "evs")<;>simpa using D
   ·(walk_at "evs")
  .exact main c
 .apply aH
  .apply wA
   ·(walk_at "evs")<;>simpa using D
   ·(walk_at "evs")
  .exact main 0
noncomputable abbrev LL:fy f7:=[65,66,67,68,69,70,71,72,73,74,75,76,77,78,79,80,81,82,83,84,85,86,87,88,89,90,97,98,99,100,101,102,103,104,105,106,107,108,109,110,111,112,113,114,115,116,117,118,119,120,121,122]
theorem zV(c s:hG)(m:f7)(hm:m<=52)(st:fy al):∃l:fy f7,l.length=m/\l.Nodup/\(∀d∈l,d∈LL)/\uM [.int c,.int m,.int s] st=.ok (.str l) st:=by
 suffices I:ia (zE λw U=>(∃x,U=st++x)/\undWs st.length [w]=cT/\∃l:fy f7,w=.str l/\l.length=m/\l.Nodup/\∀d∈l,d∈LL) (Pa ([W.int c,.int m,.int s].map bi++rn (7-3) b0) st) by
  obtain⟨w,⟨l,rfl,Z,B,D⟩,e⟩:=zF I;exact⟨l,Z,B,D,e⟩
 obtain⟨ds,Z,B,e⟩:=sR c s m #[0] st;apply aH
 ·(walk_at "evs")
 apply aH
 ·(walk_at "evs")
 have ja:lstOf (st++[al.lst<|ds.map W.int]) st.length=bi (ds.map W.int):=aL (by rw[sJ];rfl);refine fw (λi Y U=>∃(r f:fy f7) (o o2:hJ W),Y=[bi<|.int c,bi<|.int m,bi<|.int s,bi<|.str r,bi<|.str f,o,o2]/\U=st++[.lst<|ds.map W.int]/\f.length=i/\r.length+i=52/\(f++r).Perm LL) (gm (by trivial) ja)
  ⟨LL,[],b0,b0,rfl,rfl,rfl,rfl,.refl _⟩ (λi Y U h=>?_) ?_ ?_
 .obtain⟨r,f,o,o2,rfl,rfl,_⟩:=h;exact ja
 .rintro i w Y U z ⟨r,f,o,o2,rfl,rfl,O,V,hfl⟩;obtain⟨d,k,rfl⟩:∃d,ds[i]?=bi d/\w=.int d:=by simp only[ai,be]at z;obtain⟨d,Z,rfl⟩:=z;exact⟨d,Z,rfl⟩
  have L:i<m:=by rw[<- Z];exact(am.mp k).1
  obtain⟨q,R,eq⟩:=n9 (q:=d) (n:=r.length) #[0];have hL:r.length<=j':=by show _<=1000000;lia
  have hat:uS r (d%(r.length:hG))=bi r[q]:=by rw[eq];exact df (by simp[R])
  refine{_,rfl,?_};apply aH
  ·(repeat' (first|with_reducible exact jo hL|walk_at "ev1"))
   show 0<(r.length:hG);lia
  apply aH
  .have J:f.length+[r[q]].length<=j':=by show _+1<=1000000;lia
   (repeat' (first|with_reducible exact EI hL hat|with_reducible exact Dw J|walk_at "ev1"))
  apply fZ
  ·(repeat' (first|with_reducible exact EJ hL|walk_at "ev1"))
   rw[eq,qF #[0],show((q:hG)+1)=((q+1:f7):hG)from rfl,zG #[0],bh,dv]
   lia
  .refine{_,_,rfl,_,_,_,_,rfl,rfl,by simp[O],?_,?_}
   .rw[eq,qF #[0],show((q:hG)+1)=((q+1:f7):hG)from rfl,zG #[0],aI,bh,dv]
    lia
   .rw[eq,qF #[0],show((q:hG)+1)=((q+1:f7):hG)from rfl,zG #[0]];refine List.Perm.trans ?_ hfl;rw[aG];refine pq f ?_;have e:r=r.take q++r[q]::r.drop (q+1):=by rw[<- cx R,pB]
    have e2:(r[q]::(r.take q++r.drop (q+1))).Perm r:=(List.perm_middle.symm).trans (by rw[<- e]);exact e2
 .rintro Y U ⟨r,f,o,o2,rfl,rfl,O,V,hfl⟩;apply cH
  ·(walk_at "evs")
  .exact{_,_,rfl,⟨_,rfl⟩,rfl,f,rfl,by rw[O];simpa using Z,(iw.mp<|hfl.nodup_iff.mpr<|by decide).1,λd k=>hfl.mem_iff.mp<|cL _ k}
theorem gU{s:fy al}{p:f7}{c:al}(h:st <+: s)(W:st.length<=p):st <+: s.set p c:=by obtain⟨x,rfl⟩:=h;rw[show p=st.length+(p-st.length) by lia,BB];exact ag _ _
def je{s y:fy al}(h:st <+: s):st <+: s++y:=h.trans<|ag _ _
theorem pre_get{s:fy al}{c:al}(h:st <+: s)(e:st[i]?=bi c):s[i]?=bi c:=by obtain⟨x,rfl⟩:=h;exact a7 e
def i3{s:fy al}{p:f7}{c d:al}(h:s[p]?=bi d):(s.set p c)[p]?=bi c:=by rw[bt (am.mp h).1]
def pX{s:fy al}{p:f7}{c:al}(h:p≠q):(s.set p c)[q]?=s[q]?:=cy h
def DD{s:fy al}{p:f7}{c:al}(h:s[p]?=bi c):p<s.length:=(am.mp h).1
def aT{s:fy al}{c:al}:(s++[c])[s.length]?=bi c:=by rw[sJ];rfl
noncomputable def tQ(l:fy hG):fy W:=l.map W.int
def ku{s:fy al}{p i:f7}{d:hG}(h:s[p]?=bi (.lst<|tQ ds))(e:ds[i]?=bi d):bd (.loc p) (.int i) s=.ok (.int d) s:=kB (aL h) (df (by rw[tQ,ai,e];rfl))
def Ky(h:lstOf st n=bi (ls.map W.str))(U:ls.length<64):kI [.loc n] st=.ok (.loc st.length) (st++[.lst<|(jx ls).map W.str]):=by show qA [.loc n] st=_;unfold qA;simp only[h,fQ,yj];rw[ax U]
theorem wK{a b:fy (fy f7)}(h:a.Perm b):(a.map ZH).sum=(b.map ZH).sum:=by grind
theorem sT(l:fy f7):(((l.map λc=>[c])).map ZH).sum=l.length:=by
 induction l with
 |nil=>rfl
 |cons a r U=>simp only[aZ,List.sum_cons,cX,fz];lia
def mx(l:fy f7):fy f7:=oO []<|jx<|l.map λc=>[c]
def vm(l:fy f7):(mx l).length=l.length:=by unfold mx;rw[j_,List.length_flatten,wK<|gR _,sT]
theorem pY(l:fy f7):(mx l).Perm l:=by
 unfold mx;rw[j_];have h:(jx<|l.map λc=>[c]).flatten.Perm (l.map λc=>[c]).flatten:=(gR _).flatten;refine h.trans<|.of_eq ?_
 induction l with
 |nil=>rfl
 |cons a r U=>
  simp[U<|(gR _).flatten]
theorem Nz{s1:fy al}(h:fe ρ st=.ok (.loc n) s1)(D:lstOf s1 n=bi ((l.map λc=>[c]).map W.str))(U:l.length<64) :
  Cv jZ (eC<|.str []) (ae (aU kI<|ae fe aw) aw) ρ st=.ok (.str<|mx l) (s1++[.lst<|(jx<|l.map λc=>[c]).map W.str]):=by have z:lstOf (s1++[al.lst<|(jx<|l.map λc=>[c]).map W.str]) s1.length=bi ((jx<|l.map λc=>[c]).map W.str):=aL aT;have O:=rO (sep:=[]) z (by rw[wK<|gR _,sT];show _<=1000000;simp;lia);exact zD cn rfl (au (bc (au h a6)<|Ky D<|by simp_all) a6) O
section
variable{fs:FA}
theorem NA(V:β->W)(Pb:f7->β->Prop)(k:fs ρ st=.ok [.int n] st)(J:n<=100000)(h:∀i:f7,i<n->∃b,Pb i b/\el ((kc cap ρ).set 0<|bi<|.int i) st=.ok (V b) st) :
  ∃r:fy β,r.length=n/\(∀i b,r[i]?=bi b->Pb i b)/\cb cap (bq fs) (cF 0) d_ el ρ st=.ok (.loc st.length) (st++[.lst<|r.map V]):=by
 let f:Fin n->β:=λi=>Classical.choose<|h i i.2
 have O:∀i:Fin n,Pb i (f i)/\el ((kc cap ρ).set 0<|bi<|.int i) st=.ok (V<|f i) st:=λi=>Classical.choose_spec (h i i.2)
 let Y:W->W:=λw=>match w with
  |.int z=>if hz:z.toNat<n then V (f {z.toNat,hz})else .non
  |_=>.non
 have I:bq fs ρ st=.ok (iD 0 n,b0) st:=by have:=cS k #[0];exact this
 have D:=vk (f:=cF 0) Y I (by rw[bE];show _<=1000000;lia) trivial λw d=>by obtain⟨i,L,rfl⟩:=yz d;refine{_,rfl,?_};rw[show(0+i)=(i:hG) by lia];show _=R.ok (if hz:(i:hG).toNat<n then V (f {(i:hG).toNat,hz})else .non) st;rw[tK<|show(i:hG).toNat<n by lia];exact(O ⟨i,L⟩).2
 refine{List.ofFn f,by simp,λi b U=>?_,?_}
 .obtain⟨Z,B⟩:=am.mp U;rw[List.getElem_ofFn]at B;rw[<- B];exact(O {i,by simpa using Z}).1
 .rw[D];have e:(iD 0 n).map Y=(List.ofFn f).map V:=by
   refine List.ext_getElem (by simp[bE]) λi Z B=>?_;have L:i<n:=by simpa[bE]using Z
   rw[gJ,gJ,List.getElem_ofFn];unfold iD;rw[gJ,List.getElem_range,show(0+i)=(i:hG) by lia];show(if hz:(i:hG).toNat<n then V (f {(i:hG).toNat,hz})else .non)=_;rw[tK<|show(i:hG).toNat<n by lia]
  rw[e]
theorem DE(V:β->W)(Pb:f7->β->Prop)(Y:fs ρ st=.ok [.int n] st)(L:n<=100000)(h:∀i:f7,i<n->∃b,Pb i b/\el ((kc cap ρ).set 0<|bi<|.int i) st=.ok (V b) st) :
  ∃r:fy β,r.length=n/\(∀i b,r[i]?=bi b->Pb i b)/\aU bU (ae (cb cap (bq fs) (cF 0) d_ el) aw) ρ st=.ok (.tup<|r.map V) (st++[.lst<|r.map V]):=by obtain⟨r,Z,B,e⟩:=NA V Pb Y L h;exact{r,Z,B,bc (au e a6)<|gu<|aL aT}
end
structure Mc where
 nm:fy f7
 gd:fy ir
 tb:fy (fy<|fy f7)
noncomputable def bW(r:fy f7):W:=.tup<|r.map λk=>W.int (k:f7)
def fm(t:fy (fy f7)):W:=.tup<|t.map bW
def Mc.w(M:Mc):W:=.tup [.str M.nm,.tup<|M.gd.map W.bl,.tup<|M.tb.map fm]
def TL(n:f7)(t:fy (fy f7)):Prop:=t.length=n/\∀r∈t,r.length=n/\∀k∈r,k<n
structure yF(M:Mc)(n:f7):Prop where
 gd:M.gd.length=n
 tb:M.tb.length=2^M.nm.length
 t:∀t∈M.tb,TL n t
theorem E1(r:fy f7)(n:f7):(bW r).und n=cT:=by
 unfold bW W.und
 induction r with
 |nil=>rfl
 |cons x r U=>simp only[aZ,undWs,U];rfl
theorem NB(t:fy (fy f7))(n:f7):(fm t).und n=cT:=by
 unfold fm W.und
 induction t with
 |nil=>rfl
 |cons x r U=>simp[undWs,U];exact E1 x n
theorem wL(t:fy (fy<|fy f7))(n:f7):undWs n (t.map fm)=cT:=by
 induction t with
 |nil=>rfl
 |cons x r U=>simp[undWs,U];exact NB x n
theorem NC(t:fy ir)(n:f7):undWs n (t.map W.bl)=cT:=by
 induction t with
 |nil=>rfl
 |cons x r U=>simp only[aZ,undWs,U];rfl
def rP(M:Mc)(n:f7):M.w.und n=cT:=by unfold Mc.w;simp[W.und,undWs,wL,NC]
theorem vF{c:f7}(h:c<=100):ml (.int 1) (.int c) st=.ok (.int ((2^c:f7):hG)) st:=by have:=kg (C:=λi j=>0<=j/\j<=1000000/\i.natAbs<2^64) (f:=λi j=>i*2^j.toNat) (p:=1) (q:=c) (st:=st) {by lia,by lia,by decide};rw[show ml (.int 1) (.int c) st=_ from this];simp
def lM{s:fy al}{p:f7}{y:W}(h:s[p]?=bi (.lst ws))(U:ws.length<1000000):dJ (.loc p) [y] s=.ok .non (s.set p<|.lst<|ws++[y]):=JE h U
def Su(h:q<n):yP n (q:hG)=bi q:=by unfold yP;rw[ax #[0],ax #[0]];simp
def zW{s:fy al}{p:f7}{v:W}(h:s[p]?=bi (.lst ws))(Z:q<ws.length):sy (.loc p) (.int q) v s=bi (s.set p<|.lst<|ws.set q v):=Rx h<|Su Z
def Kz{s:fy al}:uC [.tup ws] s=.ok (.loc s.length) (s++[.lst ws]):=rfl
def E2{l:fy α}{x y:α}(h:y∈l.set i x):y∈l\/y=x:=mE h
noncomputable def nW(l:fy f7):fy W:=l.map λk=>W.int (k:f7)
def wM{s:fy al}{p:f7}{l:fy f7}{k:f7}(h:s[p]?=bi (.lst<|nW l))(e:l[i]?=bi k):bd (.loc p) (.int i) s=.ok (.int k) s:=kB (aL h) (df (by rw[nW,ai,e];rfl))
theorem wN{s:fy al}{k:f7}(e:l[i]?=bi k):bd (bW l) (.int i) s=.ok (.int k) s:=jI (df<|by simp_all)
theorem zX{s:fy al}{t:fy (fy f7)}{r:fy f7}(e:t[i]?=bi r):bd (fm t) (.int i) s=.ok (bW r) s:=jI (df<|by simp_all)
def oU{f:FG}{I:bR}{w:W}(h:fe ρ st=.ok w st1)(B:f w ρ=bi I):lA fe f ρ st=.nx I st1:=by unfold lA;rw[h];simp;rw[B]
theorem DF(nm:fy f7)(n kC dl:f7)(ds:fy hG)(st:fy al)(mj:nm.length<=6)(R:1<=n)(Zr:n<=9)(Lx:1<=kC)(YF:kC<=n)(hd:st[dl]?=bi (.lst<|tQ ds))(PF:n+2^nm.length*(n*n)<=ds.length) :
  ∃M:Mc,M.nm=nm/\yF M n/\BN [.str nm,.int n,.int kC,.loc dl] st=.ok M.w st:=by
 suffices hh:ia (zE λw bx=>(∃x,bx=st++x)/\undWs st.length [w]=cT/\∃M:Mc,w=M.w/\M.nm=nm/\yF M n) (Pc ([W.str nm,.int n,.int kC,.loc dl].map bi++rn (10-4) b0) st) by
  obtain⟨w,⟨M,rfl,Z,B⟩,e⟩:=zF hh;exact⟨M,Z,B,e⟩
 have da:∀s:fy al,b9 [.str nm] s=.ok (.int nm.length) s:=λs=>jo (by show _<=1000000;lia);have p2:2^nm.length<=64:=cf #[0] mj;obtain⟨N,hN⟩:∃N,N=2^nm.length:=⟨_,rfl⟩
 have sh:∀s:fy al,ml (.int 1) (.int nm.length) s=.ok (.int N) s:=λs=>by rw[hN];exact vF #[0]
 rw[<- hN]at p2 PF;have hdn:n<=ds.length:=by lia
 obtain⟨gd,hgl,_,eg⟩:=DE (cap:=[b0,bi 3]) (ρ:=[bi<|.str nm,bi<|.int n,bi<|.int kC,bi<|.loc dl,b0,b0,b0,b0,b0,b0]) (st:=st) (fs:=ae (ac 1) aw) (n:=n)
  (el:=e2 ik (e2 dE (e2 bd (ac 1)<|ac 0)<|eI 2)<|eI 1) W.bl (λ_ _=>True) kn #[0] λq hq=>by
   obtain⟨d,hdd⟩:∃d,ds[q]?=bi d:={_,ak #[0]}
   exact{_,trivial,bw (bw (bw kv kv<|ku hd hdd) cn<|kg<|by decide) cn<|kA rfl}
 apply aH
 .exact bB eg
 generalize Cu:st++[al.lst<|gd.map W.bl]=s0;have hst0:st <+: s0:=by rw[<- Cu];exact ag _ _
 apply aH
 ·(walk_at "evs")
 apply aH
 ·(walk_at "evs")
 refine fw (λi Y s=>∃(tb:fy (fy<|fy f7)) (a:f7) (o7 o8 o9:hJ W),Y=[bi<|.str nm,bi<|.int n,bi<|.int kC,bi<|.loc dl,bi<|.tup<|gd.map W.bl,bi<|.loc s0.length,bi<|.int a,o7,o8,o9]/\s0 <+: s/\s[s0.length]?=bi (.lst<|tb.map fm)/\tb.length=i/\(∀t∈tb,TL n t)/\a+(N-i)*(n*n)<=ds.length)
  (cS (q:=(N:hG)) (st1:=s0++[al.lst []]) (au (bw cn (bc kn<|da _)<|sh _) a6) #[0])
  ⟨[],n,b0,b0,b0,rfl,ag _ _,aT,rfl,by simp,by simpa using PF⟩ (λ_ _ _ _=>trivial) ?_ ?_
 .rintro i w Y s hw ⟨tb,a,o7,o8,o9,rfl,I,D,U,ht,hal⟩;obtain⟨L,rfl⟩:=dD hw;rw[aO]at L;refine{_,rfl,?_};rw[show N-i=(N-(i+1))+1 by lia,Nat.succ_mul]at hal;apply aH
  ·(walk_at "evs")
  refine fw (λj Y z=>∃(rows:fy (fy f7)) (a:f7) (o9:hJ W),Y=[bi<|.str nm,bi<|.int n,bi<|.int kC,bi<|.loc dl,bi<|.tup<|gd.map W.bl,bi<|.loc s0.length,bi<|.int a,bi<|.int<|0+(i:hG),bi<|.loc s.length,o9]/\s <+: z/\z[s.length]?=bi (.lst<|rows.map bW)/\rows.length=j/\(∀r∈rows,r.length=n/\∀k∈r,k<n)/\a+((N-(i+1))*(n*n)+(n-j)*n)<=ds.length)
   (cS (q:=(n:hG)) (st1:=s++[al.lst []]) (by(walk_at "evs")) #[0]) ⟨[],a,_,rfl,ag _ _,aT,rfl,by simp,by simpa using hal⟩ (λ_ _ _ _=>trivial) ?_ ?_
  .rintro j w Y z hw ⟨rows,a,o9,rfl,hz,hcz,mi,V,hal⟩;obtain⟨hj,rfl⟩:=dD hw;rw[aO]at hj;refine{_,rfl,?_};rw[show n-j=(n-(j+1))+1 by lia,Nat.succ_mul]at hal;have pt:(0:hG)<(kC:hG):=by lia
   obtain⟨r,hrn,hrb,er⟩:=DE (cap:=[b0,bi 2,bi 3,bi 6]) (ρ:=[bi<|.str nm,bi<|.int n,bi<|.int kC,bi<|.loc dl,bi<|.tup<|gd.map W.bl,bi<|.loc s0.length,bi<|.int a,bi<|.int<|0+(i:hG),bi<|.loc s.length,bi<|.int<|0+(j:hG)]) (st:=z) (fs:=ae (ac 1) aw) (n:=n)
    (el:=e2 dE (e2 bd (ac 2)<|e2 dF (ac 3)<|ac 0)<|ac 1) (λk:f7=>W.int (k:f7)) (λ_ k=>k<n) kn #[0] λq hq=>by
     obtain⟨d,hdd⟩:∃d,ds[a+q]?=bi d:={_,ak #[0]}
     obtain⟨k,O,ek⟩:=n9 (q:=d) (n:=kC) #[0];refine{k,by lia,?_};rw[<- ek];exact bw (bw kv (bw kv kv eN)<|ku (pre_get (hst0.trans<|I.trans hz) hd) hdd) kv<|kg pt
   have ap:=lM (y:=bW r) (pre_get (s:=z++[.lst (r.map λk:f7=>W.int k)]) (ag _ _) hcz) (by rw[aj];lia);apply aH
   .exact iZ (rN kv (gB hcz) (au er a6) ap)
   apply fZ
   .exact bB (bw kv kv eN)
   .refine{_,_,rfl,rows++[r],a+n,_,rfl,gU (je hz)<|av _,?_,by simp[mi],?_,by lia}
    .rw[i3<|pre_get (ag _ _) hcz];simp
    .intro x J;rcases bD.mp J with y|y
     .exact V x y
     .simp at y;subst y;refine{hrn,λk O=>?_};obtain⟨q,hq⟩:=fg O;exact hrb q k hq
  .rintro Y z ⟨rows,a,o9,rfl,hz,hcz,mi,V,hal⟩;have mi:rows.length=n:=by rw[mi];simp[bE]
   have hcp:=pre_get hz D;have ap:=lM (y:=fm rows) hcp (by rw[aj,U];omega);apply fZ
   .exact iZ (rN kv (gB hcp) (au (bc kn<|gu<|aL hcz) a6) ap)
   .refine{_,_,rfl,tb++[rows],a,_,_,_,rfl,gU (I.trans hz)<|av _,?_,by simp[U],?_,by omega}
    .rw[i3 hcp];simp
    .intro x J;rcases bD.mp J with y|y
     .exact ht x y
     .simp at y;subst y;exact⟨mi,V⟩
 .rintro Y s ⟨tb,a,o7,o8,o9,rfl,I,D,U,ht,hal⟩;have U:tb.length=N:=by rw[U];simp[bE]
  obtain⟨x,rfl⟩:=hst0.trans I;apply cH
  .exact iF (au kv<|au kv<|au (bc kn<|gu<|aL D) a6) (aB rfl)
  .exact{_,_,rfl,⟨_,rfl⟩,by simp only[undWs,jc];exact rP ⟨nm,gd,tb⟩ _,⟨nm,gd,tb⟩,rfl,rfl,hgl,by rw[U,hN],ht}
noncomputable def Tr(own:fy f7):fy f7->f7->f7
 |[],_=>0
 |c::r,q=>if c∈own then 2*Tr own r (q/2)+q%2 else Tr own r (q/2)
def Th(own p:fy f7)(q:f7):f7:=Tr own p.reverse q
def E3(own p:fy f7)(c q:f7):Th own (p++[c]) q=if c∈own then 2*Th own p (q/2)+q%2 else Th own p (q/2):=by unfold Th;rw[List.reverse_append];rfl
theorem GO(m:f7)(g:f7->f7):(uP<|2*m).map g=(uP m).flatMap λk=>[g<|2*k,g<|2*k+1]:=by
 induction m with
 |zero=>rfl
 |succ m U=>
  rw[show 2*(m+1)=2*m+1+1 by lia,fB,fB,fB,bT,bT,U];simp
noncomputable def GP(own:fy f7)(c k:f7):fy f7:=if c∈own then[2*k,2*k+1]else[k,k]
def qR(own p:fy f7):fy f7:=(uP<|2^p.length).map<|Th own p
theorem GQ(own p:fy f7)(c:f7):qR own (p++[c])=(qR own p).flatMap (GP own c):=by
 unfold qR;rw[aI,fW,lu,gZ,GO,List.flatMap_map]
 congr 1
 funext k
 rw[E3,E3];unfold GP;rw[show 2*k/2=k by lia,show(2*k+1)/2=k by lia,show 2*k%2=0 by lia,show(2*k+1)%2=1 by lia]
 split<;>rfl
def BP(own p:fy f7):(qR own p).length=2^p.length:=by simp[qR]
theorem BQ{own:fy f7}{c:f7}:∀l:fy f7,(l.flatMap<|GP own c).length=2*l.length
 |[]=>rfl
 |a::l=>by
  rw[List.flatMap_cons,aI,BQ l];have:(GP own c a).length=2:=by unfold GP;split<;>rfl
  simp;lia
theorem Po(own:fy f7):∀(r:fy f7) (q:f7),Tr own r q<2^(r.filter<|λc=>decide<|c∈own).length
 |[],_=>by simp[Tr]
 |c::r,q=>by
  have U:=Po own r<|q/2;unfold Tr
  by_cases h:c∈own
  .rw[ax h,nM (by simpa using h),cX,lu];lia
  .rw[aF h,nN<|by simpa using h];exact U
theorem yG{own p:fy f7}(W:p.Nodup)(q:f7):Th own p q<2^own.length:=by refine aQ (Po own p.reverse q) (cf (by omega)<|eU (List.Pairwise.filter _<|pD.mpr<|List.Pairwise.imp (λh=>h.symm) W) λc D=>?_);have:=(d7.mp D).2;simpa using this
def Sv{r L:fy W}(h:st[n]?=bi (.lst r))(B:st[m]?=bi (.lst L))(U:r.length+L.length<=1000000):lG (.loc n) [.loc m] st=.ok .non (st.set n<|.lst<|r++L):=by show qy (.loc n) [.loc m] st=_;unfold qy;simp only[h,B];rw[ax U]
def E4{c:f7}:xj eh (.str [c]) (.str l) st=.ok (.bl<|decide<|c∈l) st:=rfl
def E5{k:f7}(h:k<=13):2^k<=8192:=aW (cf #[0] h) (by decide)
def zY(h:fe ρ st=.ok (.str l) st1):bV fe ρ st=.ok (jk l,b0) st1:=by unfold bV;rw[h];rfl
def BR{w:W}(h:(jk l)[i]?=bi w):∃c,l[i]?=bi c/\w=.str [c]:=by simp[jk]at h;obtain⟨c,Z,rfl⟩:=h;exact⟨c,Z,rfl⟩
def uq(l:fy f7):(jk l).length=l.length:=by simp[jk]
def nw{l:fy α}{c:α}(h:l[i]?=bi c):l.take (i+1)=l.take i++[c]:=by rw[List.take_succ,h];rfl
theorem Sw(d own:fy f7)(J:d.length<=13)(st:fy al):∃j x,x[j]?=bi (.lst<|nW<|qR own d)/\Ks [.str d,.str own] st=.ok (.loc<|st.length+j) (st++x):=by
 suffices hh:ia (zE λw U=>∃j x,w=.loc (st.length+j)/\U=st++x/\x[j]?=bi (.lst<|nW<|qR own d)) (VG ([W.str d,.str own].map bi++rn (6-2) b0) st) by
  exact sM hh
 apply aH
 ·(walk_at "evs")
 refine fw (λi Y s=>∃(p:f7) (o3 o4 o5:hJ W),Y=[bi<|.str d,bi<|.str own,bi<|.loc p,o3,o4,o5]/\st <+: s/\st.length<=p/\s[p]?=bi (.lst<|nW<|qR own<|d.take i))
  (zY kv) ⟨st.length,b0,b0,b0,rfl,ag _ _,av _,aT⟩ (λ_ _ _ _=>trivial) ?_ ?_
 .rintro i w Y s V ⟨p,o3,o4,o5,rfl,I,lR,D⟩;obtain⟨c,hci,rfl⟩:=BR V;refine{_,rfl,?_};have da:(qR own<|d.take i).length<=8192:=by rw[BP];exact E5 (by rw[bh];lia)
  generalize hnu:qR own (d.take i)=l at D da;apply aH
  ·(walk_at "evs")
  have tq:=DD D;refine fw (λj Y z=>∃o5,Y=[bi<|.str d,bi<|.str own,bi<|.loc p,bi<|.str [c],bi<|.loc s.length,o5]/\s <+: z/\z[s.length]?=bi (.lst<|nW<|(l.take j).flatMap<|GP own c))
   (gm kv<|aL<|a7 D) ⟨_,rfl,ag _ _,aT⟩ (λj Y z h=>?_) ?_ ?_
  .obtain⟨_,_,r,_⟩:=h;exact aL<|pre_get r D
  .rintro j w Y z V ⟨o5,rfl,r,hcz⟩;obtain⟨k,O,rfl⟩:∃k,l[j]?=bi k/\w=.int k:=by simp[nW]at V;obtain⟨k,Z,rfl⟩:=V;exact⟨k,Z,rfl⟩
   refine{_,rfl,?_};have hfl:(nW<|(l.take j).flatMap<|GP own c).length<=20000:=by simp only[nW,aj,BQ,bh];lia
   have ext:∀L:fy f7,L=GP own c k->L.length=2->lG (.loc s.length) [.loc z.length] (z++[al.lst<|nW L])=.ok .non ((z++[al.lst<|nW L]).set s.length<|.lst<|nW<|(l.take<|j+1).flatMap<|GP own c):=λL e B=>by rw[Sv (a7 hcz) aT (by rw[show(nW L).length=2 by simp[nW,B]];lia),nw O,List.flatMap_append,show List.flatMap (GP own c) [k]=GP own c k by simp,<- e];simp[nW]
   have cm:uV k 2:=.inr (by decide)
   by_cases h:c∈own
   .have t1:=aR h;have R:=ext [2*k,2*k+1] (by unfold GP;rw[ax h]) rfl;have e2:dW (ae (e2 fM (ac 5)<|eI 2)<|ae (e2 dF (e2 fM (ac 5)<|eI 2)<|eI 1) aw) [bi<|.str d,bi<|.str own,bi<|.loc p,bi<|.str [c],bi<|.loc s.length,bi<|.int k] z=.ok (.loc z.length) (z++[al.lst [.int<|k*2,.int<|k*2+1]]):=
     ww (au (bw kv cn<|jH cm)<|au (bw (bw kv cn<|jH cm) cn eN) a6) (aB rfl)
    rw[show[W.int<|k*2,.int<|k*2+1]=nW [2*k,2*k+1] by simp[nW,Int.mul_comm]]at e2;apply iG
    .exact c_ (bw kv kv<|by rw[E4,t1])
    apply fZ
    .exact iZ (rN kv (gB hcz) (au e2 a6) R)
    .exact{_,_,rfl,_,rfl,gU (je r)<|av _,i3<|a7 hcz}
   .have t1:=az h;have R:=ext [k,k] (by unfold GP;rw[aF h]) rfl;apply iH
    .exact c_ (bw kv kv<|by rw[E4,t1])
    apply fZ
    .exact iZ (rN kv (gB hcz) (au (ww (au kv kn)<|aB rfl) a6) R)
    .exact{_,_,rfl,_,rfl,gU (je r)<|av _,i3<|a7 hcz}
  .rintro Y z ⟨o5,rfl,r,hcz⟩;rw[show(nW l,bi (p,nW l)).fst.length=l.length by simp[nW],gH]at hcz;apply fZ
   ·(walk_at "evs")
   .refine{_,_,rfl,s.length,_,_,_,rfl,I.trans r,by lia,?_};rw[nw hci,GQ,hnu];exact hcz
 .rintro Y s ⟨p,o3,o4,o5,rfl,⟨x,rfl⟩,lR,D⟩;rw[show(jk d,b0).fst.length=d.length from uq d,gH]at D;apply cH
  ·(walk_at "evs")
  .refine{_,_,rfl,p-st.length,x,by rw[show st.length+(p-st.length)=p by lia],rfl,?_};rw[bA lR]at D;exact D
def ND(m:f7):aaI (m:hG) 1=((m%2:f7):hG):=by show((((m:hG).toNat &&& 1:f7)):hG)=_;rw[aO,Nat.and_one_is_mod]
theorem KA(k:f7)(O:k<=1000)(st:fy al):GN [.int k] st=.ok (.int (2^k:f7)) st:=by
 refine f9 ?_ rfl;apply aH
 .rfl
 refine fw (λi Y s=>∃z:hJ W,Y=[bi<|.int k,bi<|.int (2^i:f7),z]/\s=st) (cS kn<|by omega) ⟨b0,rfl,rfl⟩ (λ_ _ _ _=>trivial) ?_ ?_
 .rintro i w Y s Z ⟨B,rfl,rfl⟩;exact{_,rfl,fZ (bB<|bw kv cn<|jH<|.inr<|by decide)<|⟨_,_,rfl,_,by rw[show((2^i:f7))*2=((2^(i+1)):hG) by rfl];rfl,rfl⟩}
 rintro Y s ⟨z,rfl,rfl⟩;apply cH
 .rfl
 refine{_,_,rfl,?_,[],by simp};rw[show(iD 0 (k:hG).toNat,b0).fst.length=k by simp[bE]]
theorem NE(n:f7)(d:fy f7)(L:n<=1000)(U:d.length<=60)(st:fy al):Nv [.int n,.str d] st=.ok (.int (n*n*2^d.length:f7)) st:=by have w:b9 [.str d] st=.ok (.int d.length) st:=jo (by show _<=1000000;lia);have k:=cB L L;have z:uV n n:=.inl {by lia,by lia};have r:uV (n*n) ((2^d.length)):=.inl #[0];refine f9 ?_ rfl;exact cH (bw (bw kv kv<|jH z) (cC (au (bc kn w) a6) (KA _ #[0] st) rfl)<|jH r) ({_,_,rfl,by simp,[],by simp})
def BS(M:Mc)(d:fy f7):Mc:={d,M.gd,(qR M.nm d).map λk=>M.tb.getD k []}
theorem NF(M:Mc)(d:fy f7)(Y:d.length<=13)(U:∀k∈qR M.nm d,k<M.tb.length)(st:fy al):Kt [M.w,.str d] st=.ok (.tup<|(BS M d).tb.map fm) st:=by
 obtain⟨j,x,J,W⟩:=Sw d M.nm Y st;have R:bd M.w (.int 0) st=.ok (.str M.nm) st:=rfl;have I:bd M.w (.int 2) (st++x)=.ok (.tup<|M.tb.map fm) (st++x):=rfl;have D:(st++x)[st.length+j]?=bi (.lst<|nW<|qR M.nm d):=by rw[zA];exact J
 have L:=vk (cap:=[b0,bi 0]) (ρ:=[bi M.w,bi<|.str d]) (f:=cF 0) (el:=e2 bd (e2 bd (ac 1)<|eI 2)<|ac 0) (λw=>match w with|.int z=>fm (M.tb.getD z.toNat [])|_=>.non)
  (gm (fe:=c7 2 Ks<|ae (ac 1)<|ae (e2 bd (ac 0)<|eI 0) aw) (cC (au kv<|au (bw kv cn R) a6) W rfl)<|aL D) (by simp[nW,BP];exact aW (E5 Y)<|by decide) (aL D) λw Z=>by
   obtain⟨k,O,rfl⟩:=aX.mp Z;have r:M.tb[k]?=bi (M.tb.getD k []):=by rw[aA,ak<|U k O];rfl
   exact{_,rfl,bw (bw kv cn I) kv<|jI<|df (by rw[ai,r];rfl)}
 rw[show(nW<|qR M.nm d).map (λw=>match w with|.int z=>fm (M.tb.getD z.toNat [])|_=>.non)=(BS M d).tb.map fm by
  unfold nW BS;rw[aN,aN];refine b_ λk _=>?_;show fm (M.tb.getD (k:hG).toNat [])=_;rfl]at L
 refine f9 ?_ (by simp[undWs];exact wL _ _);exact cH (bc (au L a6)<|gu<|aL aT) ({_,_,rfl,rfl,_,by rw[aG]})
noncomputable def hU(m:fy f7)(l:fy f7):f7:=l.foldl (λa c=>2*a+if c∈m then 1 else 0) 0
def yH(m l:fy f7)(c:f7):hU m (l++[c])=2*hU m l+if c∈m then 1 else 0:=by unfold hU;rw[List.foldl_append];rfl
theorem zZ(m:fy f7)(l:fy f7):hU m l<2^l.length:=by
 have key:∀(l:fy f7) (a k),a<2^k->l.foldl (λa c=>2*a+if c∈m then 1 else 0) a<2^(k+l.length):=by
  intro l
  induction l with
  |nil=>intro a k h;simpa using h
  |cons c r U=>
   intro a k h;have:=U (2*a+if c∈m then 1 else 0) (k+1) (by split<;>lia);rw[cX,show k+(r.length+1)=k+1+r.length by lia];exact this
 have:=key l 0 0 (by simp);simpa[hU]using this
theorem og(d m:fy f7)(st:fy al):nv [.str d,.str m] st=.ok (.int (hU m d:f7)) st:=by
 refine f9 ?_ rfl;apply aH
 .rfl
 refine fw (λi Y s=>∃z:hJ W,Y=[bi<|.str d,bi<|.str m,bi<|.int<|hU m<|d.take i,z]/\s=st) (zY kv) ⟨b0,rfl,rfl⟩ (λ_ _ _ _=>trivial) ?_ ?_
 .rintro i w Y s Z ⟨z,rfl,rfl⟩;obtain⟨c,D,rfl⟩:=BR Z;refine{_,rfl,?_};have e:=yH m (d.take i) c;rw[<- nw D]at e;have r:IA [.bl<|decide<|c∈m] s=.ok (.int<|(if c∈m then 1 else 0:f7)) s:=by
   by_cases h:c∈m
   .rw[aR h,ax h];rfl
   rw[az h,aF h];rfl
  exact fZ (bB<|bw (bw cn kv<|jH<|.inl<|by decide) (bc (au (bw kv kv E4) a6) r) eN) ({_,_,rfl,_,by rw[e];rfl,rfl})
 rintro Y s ⟨z,rfl,rfl⟩;apply cH
 .rfl
 exact{_,_,rfl,by rw[show(jk d,b0).fst.length=d.length from uq d,gH],[],by simp}
theorem ur(l:fy f7):oO [] (l.map λc=>[c])=l:=by
 rw[j_]
 induction l with
 |nil=>rfl
 |cons a r U=>simp only[aZ,jN,U];rfl
theorem KB(l:fy f7):(((l.map λc=>[c])).map ZH).sum=l.length:=by
 induction l with
 |nil=>rfl
 |cons a r U=>simp only[aZ,List.sum_cons,cX,U,fz];omega
theorem KC{cap:fy (hJ f7)}(T:f7->ir)(h:fe ρ st=.ok (.str l) st1)(U:l.length<=10000)(V:0<cap.length)
  (B:∀c∈l,t ((kc cap ρ).set 0<|bi<|.str [c]) st1=.ok (T c) st1) :
  ∃x,Cv jZ (eC<|.str []) (ae (cb cap (bV fe) (cF 0) t<|ac 0) aw) ρ st=.ok (.str<|l.filter T) (st1++x):=by
 have L:=zI (f:=cF 0) (λw=>match w with|.str [c]=>T c|_=>eh) id (zY h) (by rw[uq];show _<=1000000;lia) trivial λw Z=>by obtain⟨c,D,rfl⟩:=aX.mp Z;exact{_,rfl,B c D,λ_=>ef (by rw[bt (by simp[kc];exact V)];rfl)}
 have e:((jk l).filter (λw=>match w with|.str [c]=>T c|_=>eh)).map id=((l.filter T).map λc=>[c]).map W.str:=by rw[fO];unfold jk;rw[pb,aN];rfl
 rw[e]at L;have O:=rO (sep:=[]) (st:=st1++[.lst<|((l.filter T).map λc=>[c]).map W.str]) (aL aT) (by
  rw[KB];have:=eK T l;show _<=1000000;simp;lia)
 rw[ur]at O;exact{_,zD cn rfl (au L a6) O}
noncomputable def Sx:W->f7
 |.int i=>i.toNat
 |_=>0
def NG:A3 (.int (m:f7)) (.int 1) st=.ok (.int ((m%2:f7):hG)) st:=by rw[<- ND];exact kg trivial
def Sy{a c:f7}:Iu (.int (a:f7)) (.int (c:f7)) st=.ok (.int ((a/2^c:f7):hG)) st:=rfl
theorem KD{l:fy f7}(U:l.length<4000)(h:∀c∈l,c∈LL)(st:fy al):Nu [.str l] st=.ok (.str<|kW l) st:=by
 have d:(kW l).length<64:=by
  have:(kW l).length<=LL.length:=eU ((m_ l).imp aM) λc D=>h c<|ke.mp D;have e:LL.length=52:=by decide
  lia
 have B:sD (ac 0) [bi<|.str l] st=.ok (.loc st.length) (st++[.lst<|jk<|kW l]):=by unfold sD;rw[ef rfl];simp only[R.bind_ok,vU,fQ];rw[ax ⟨U,d⟩]
 have O:=rO (sep:=[]) (st:=st++[.lst<|jk<|kW l]) (aL (by rw[aT];rw[aN];rfl)) (by
  rw[sT];show _<=1000000;simp;lia)
 rw[ur]at O;refine f9 ?_ rfl;exact cH (zD cn rfl (au B a6) O)<|⟨_,_,rfl,rfl,_,rfl⟩
def Pp{fs:FA}{xs L:fy W}(h:fs ρ st=.ok [.tup xs,.tup L] st1):rJ fs ρ st=.ok (mv xs L,b0) st1:=by unfold rJ;rw[h];rfl
theorem BU{P:RS->Prop}{f:FG}{body:FS}{k:Ga}(I:f7->bR->fy al->Prop)(h:fi ρ st=.ok k st1)(V:I 0 ρ st1)(D:∀i ρ st,I i ρ st->iC st k.2)
  (d:∀i w ρ st,k.1[i]?=bi w->I i ρ st->∃z,f w ρ=bi z/\ia (LF<|I<|i+1) (body z st)) (Y:∀ρ st,I k.1.length ρ st->P (.nx ρ st)):ia P (gE fi f body ρ st):=by
 obtain⟨U,r,e,B⟩:=wu I 0 V D λi w ρ st Z O=>by rw[lr]at O ⊢;obtain⟨z,R,U,r,e2,B⟩:=d i w ρ st Z O;exact⟨z,U,r,R,e2,B⟩
 rw[lr]at B;rw[zB h,e];exact Y _ _ B
def GR{z:FE}{st2 L Ai Cw:fy al}{x y w v:W}(Z:fa ρ st=.ok x st1)(B:fb ρ st1=.ok y st2)(Y:f x y st2=.ok (.bl cT) L)(O:z ρ L=.ok w Ai)(k:f' y w Ai=.ok v Cw):rG f f' fa fb z ρ st=.ok v Cw:=by unfold rG;rw[Z];simp;rw[B];simp;rw[Y];simp;rw[O];exact k
theorem sU:∀l:fy hG,lI (l.map W.int)=bi l
 |[]=>rfl
 |z::l=>by simp[lI,sU l]
def KF(r:fy f7):bW r=.tup ((r.map λk:f7=>(k:hG)).map W.int):=by rw[aN];rfl
theorem GS(p:KX×W)(l:fy (KX×W))(k:KX):mw (p::l) k=if p.1=k then bi p.2 else mw l k:=by
 unfold mw;rw[List.find?_cons]
 by_cases h:p.1=k
 .rw[ax h,aR h];rfl
 rw[aF h,az h]
noncomputable def xI(ks:fy (fy f7))(r:fy f7):fy (fy f7):=if r∈ks then ks else ks++[r]
theorem sV{ks:fy (fy f7)}{r a:fy f7}:a∈xI ks r↔a∈ks\/a=r:=by
 unfold xI
 split
 .rename_i h
  exact{.inl,λz=>z.elim id λe=>e▸h}
 .simp
theorem cE{l:fy α}(d:α)(h:i<l.length):l[i]?=bi (l.getD i d):=by simp_all
noncomputable def gM(Ms:fy Mc)(i:f7):Mc:=Ms.getD i {[],[],[]}
def sW{Ms:fy Mc}(h:i<Ms.length):Ms[i]?=bi (gM Ms i):=cE _ h
def lN{Ms:fy Mc}{i:f7}(h:i<Ms.length):gM Ms i∈Ms:=aV<|sW h
def Pq(M:Mc)(nm:fy f7)(q a b:f7):f7:=((M.tb.getD (Th M.nm nm q) []).getD a []).getD b 0
def led(Ms:fy Mc)(nm:fy f7)(q:f7)(l r:fy f7):fy f7:=(uP Ms.length).map λi=>Pq (gM Ms i) nm q (l.getD i 0)<|r.getD i 0
def iJ(Ms:fy Mc)(r:fy f7):Prop:=r.length=Ms.length/\∀i,i<Ms.length->r.getD i 0<(gM Ms i).gd.length
def rQ(Ms:fy Mc):Prop:=∀M∈Ms,yF M M.gd.length
def wO{M:Mc}{k a b:f7}(D:yF M n)(O:k<2^M.nm.length)(J:a<n)(U:b<n):∃t rw,M.tb[k]?=bi t/\M.tb.getD k []=t/\t[a]?=bi rw/\t.getD a []=rw/\rw[b]?=bi (((M.tb.getD k []).getD a []).getD b 0)/\((M.tb.getD k []).getD a []).getD b 0<n:=by have Z:=cE [] (show k<M.tb.length by rw[D.tb];exact O);have r:=D.t _<|aV Z;have B:=cE [] (show a<(M.tb.getD k []).length by rw[r.1];exact J);have L:=r.2 _<|aV B;have Y:=cE 0 (show b<((M.tb.getD k []).getD a []).length by rw[L.1];exact U);exact{_,_,Z,rfl,B,rfl,Y,L.2 _<|aV Y}
abbrev BV(nm:fy f7)(M:Mc):W:=.tup<|(BS M nm).tb.map fm
def Sz{M:Mc}(Z:q<2^nm.length)(s:fy al):bd (BV nm M) (.int q) s=.ok (fm<|M.tb.getD (Th M.nm nm q) []) s:=by refine jI<|df ?_;unfold BS qR;rw[aN,aN,ai,bv Z];rfl
theorem NH{Ms:fy Mc}(qZ:rQ Ms)(mj:nm.Nodup)(d:q<2^nm.length){r:fy f7}(U:iJ Ms l)(V:iJ Ms r)(h9:Ms.length<=1000){p:f7}{s:fy al}(I:s[p]?=bi (.lst<|Ms.map<|BV nm)) :
  du [.int q,bW l,bW r,.loc p] s=.ok (bW<|led Ms nm q l r) s:=by
 refine f9 ?_ (by simp[undWs];exact E1 _ _);have D:(lJ (Ms.map<|BV nm) (l.map λk=>W.int (k:f7))<|r.map λk=>W.int (k:f7)).length=Ms.length:=by rw[uh,aj,aj,aj,U.1,V.1];lia
 have Y:=fV (cap:=[b0,b0,b0,bi 0]) (fi:=wn<|ae (ac 3)<|ae (ac 1)<|ae (ac 2) aw) (f:=A9 3<|cK (cF 0)<|cK (cF 1)<|cK (cF 2) kT) (el:=e2 bd (e2 bd (e2 bd (ac 0)<|ac 3)<|ac 1)<|ac 2) (ρ:=[iO q,bi<|bW l,bi<|bW r,lO p])
  ((led Ms nm q l r).map λk=>W.int (k:f7)) (RF (au kv<|au kv kn)<|aL I) (by show _<=1000000;lia) (aL I) (by rw[D];simp[led]) λi w Z=>by
   obtain⟨x,y,z,J,B,R,rfl⟩:=ug Z;have L:i<Ms.length:=by rw[<- D];exact(am.mp Z).1
   rw[ai,sW L]at J;cases J
   rw[ai,cE 0 (by rw[U.1];exact L)]at B;cases B
   rw[ai,cE 0 (by rw[V.1];exact L)]at R;cases R
   obtain⟨t,mL,_,e2,O,e4,e5,_⟩:=wO (qZ _<|lN L) (yG mj q) (U.2 i L)<|V.2 i L;have ix:=Sz (M:=gM Ms i) d s;rw[e2]at ix e5;rw[e4]at e5;have v:Pq (gM Ms i) nm q (l.getD i 0) (r.getD i 0)=mL.getD (r.getD i 0) 0:=by unfold Pq;rw[e2,e4]
   refine{_,_,?_,rfl,bw (bw (bw kv kv ix) kv<|zX O) kv<|wN e5};rw[<- v];unfold led;rw[aN,ai,bv L];rfl
 exact cH (bc (au Y a6)<|gu<|aL aT)<|⟨_,_,rfl,rfl,_,rfl⟩
theorem NI{M:Mc}(D:yF M n)(z:nm.Nodup):∀k∈qR M.nm nm,k<M.tb.length:=λk O=>by obtain⟨q,_,rfl⟩:=aX.mp O;rw[D.tb];exact yG z q
noncomputable abbrev SC:al:=.tab 81 {44,4,45,99} "side_by_side.<locals>.lead"
theorem NJ{Ms:fy Mc}{nm:fy f7}(W:rQ Ms)(z:nm.Nodup)(Wy:nm.length<=13)(I:Ms.length<=1000)(B:st[1]?=bi SC) :
  iI [.tup<|Ms.map Mc.w,.str nm] st=.ok [.loc st.length] (st++[.lst<|Ms.map<|BV nm]):=by
 have Y:=fV (cap:=[b0,bi 1]) (fi:=bV<|ac 0) (f:=cF 0) (el:=c7 2 Kt<|ae (ac 0)<|ae (ac 1) aw) (ρ:=[bi<|.tup<|Ms.map Mc.w,bi<|.str nm,b0,b0])
  (Ms.map<|BV nm) rfl (by rw[aj];show _<=1000000;omega) trivial (by simp) λi w Z=>by rw[ai,be]at Z;obtain⟨M,D,rfl⟩:=Z;exact{_,_,by rw[ai,D];rfl,rfl,cC (au kv kn) (NF M nm Wy (NI (W M<|aV D) z) st) rfl}
 exact RE (bB Y) (a7 B) rfl
noncomputable def wd:f7->fy f7
 |0=>[115,97,109,101]
 |1=>[110,111,116]
 |2=>[97,110,100]
 |_=>[111,114]
noncomputable def rR(k:f7)(g:fy ir):ir:=if k=0 then g.getD 0 eh else if k=1 then !g.getD 0 eh else if k=2 then g.getD 0 eh&&g.getD 1 eh else g.getD 0 eh||g.getD 1 eh
def uN{s:fy al}{p i:f7}{l:fy ir}(h:s[p]?=bi (.lst<|l.map W.bl))(L:i<l.length):bd (.loc p) (.int i) s=.ok (.bl<|l.getD i eh) s:=kB (aL h) (df (by rw[ai,cE eh L];rfl))
theorem E6{k:f7}(O:k<4){g:fy ir}(Z:1<=g.length)(B:2<=k->2<=g.length){p:f7}{s:fy al}(h:s[p]?=bi (.lst<|g.map W.bl)):Nw [.str<|wd k,.loc p] s=.ok (.bl<|rR k g) s:=by
 have J:=uN h (i:=0) #[0];refine um ?_;obtain rfl|rfl|rfl|rfl:k=0\/k=1\/k=2\/k=3:=by lia
 .apply dC
  .rfl
  apply dg
  .trivial
  exact⟨_,_,rfl,rfl,rfl⟩
 .apply cM
  .rfl
  apply dC
  .rfl
  exact dg (JB (bw kv cn J) rfl)<|⟨_,_,rfl,rfl,rfl⟩
 .have z:=uN h (i:=1) #[0];apply cM
  .rfl
  apply eA;apply cM
  .rfl
  apply dC
  .trivial
  apply dg
  .show _=R.ok (W.bl<|g.getD 0 eh&&g.getD 1 eh) s;generalize g.getD 0 eh=a at J
   cases a
   .exact zC (bw kv cn J)
   exact qE (bw kv cn J)<|bw kv cn z
  exact⟨_,_,rfl,rfl,rfl⟩
 have z:=uN h (i:=1) #[0];apply cM
 .trivial
 apply eA;apply cM
 .exact c_ (bw kv cn rfl)
 apply dg
 .show _=R.ok (W.bl (g.getD 0 eh||g.getD 1 eh)) s;generalize g.getD 0 eh=a at J
  cases a
  .exact Dt (bw kv cn J) (bw kv cn z)
  exact Du<|bw kv cn J
 exact⟨_,_,rfl,rfl,rfl⟩
def mX(ps:fy Mc)(r:fy f7):fy ir:=(uP ps.length).map λi=>(gM ps i).gd.getD (r.getD i 0) eh
theorem lH:∀{xs L:fy W} {i:f7} {w:W},(mv xs L)[i]?=bi w->∃x y,xs[i]?=bi x/\L[i]?=bi y/\w=.tup [x,y]:=by
 intro xs
 induction xs with
 |nil=>intro L i w h;cases L<;>simp[mv]at h
 |cons x xs U=>
  intro L i w h
  cases L with
  |nil=>simp[mv]at h
  |cons y L=>
   cases i with
   |zero=>simp[mv]at h;exact{x,y,rfl,rfl,h.symm}
   |succ i=>simp[mv]at h;simpa using U (by omega)
def pZ(M:Mc)(s:fy al):bd M.w (.int 1) s=.ok (.tup<|M.gd.map W.bl) s:=rfl
theorem BW{ps:fy Mc}{r:fy f7}(U:ps.length<=r.length)(I:ps.length<=1000)(V:∀i,i<ps.length->r.getD i 0<(gM ps i).gd.length)(st:fy al) :
  Nx [.tup<|ps.map Mc.w,bW r] st=.ok (.loc st.length) (st++[.lst<|(mX ps r).map W.bl]):=by
 have D:(mv (ps.map Mc.w)<|r.map λk=>W.int (k:f7)).length=ps.length:=by rw[nh,aj,aj];lia
 have Y:=fV (cap:=[b0,b0]) (fi:=rJ<|ae (ac 0)<|ae (ac 1) aw) (f:=A9 2<|cK (cF 0)<|cK (cF 1) kT) (el:=e2 bd (e2 bd (ac 0)<|eI 1)<|ac 1) (ρ:=[bi<|.tup<|ps.map Mc.w,bi<|bW r]) (st:=st)
  ((mX ps r).map W.bl) (Pp<|au kv kn) (by show _<=1000000;lia) trivial (by rw[D];simp[mX]) λi w Z=>by
   obtain⟨x,y,J,B,rfl⟩:=lH Z;have L:i<ps.length:=by rw[<- D];exact(am.mp Z).1
   rw[ai,sW L]at J;cases J
   rw[ai,cE 0 #[0]]at B;cases B
   refine{_,_,?_,rfl,bw (bw kv cn<|pZ _ _) kv<|jI<|df (by rw[ai,cE eh<|V i L];rfl)};unfold mX;rw[aN,ai,bv L];rfl
 obtain⟨j,x,⟨rfl,rfl⟩,e⟩:=sM (N:=2) (ws:=[.tup<|ps.map Mc.w,bW r]) (Q:=λj x=>j=0/\x=[.lst<|(mX ps r).map W.bl])<|cH Y {_,_,rfl,0,_,rfl,rfl,rfl,rfl};exact e
theorem E7{r:fy f7}(h:r.length=n+1)(s:fy al):bd (bW r) (.int (-1)) s=.ok (.int (r.getD n 0:f7)) s:=by
 refine jI ?_;have U:(r.map λk=>W.int (k:f7)).length=n+1:=by rw[aj,h]
 unfold uS;rw[U,show yP (n+1) (-1)=bi n by unfold yP;rw[aF #[0]];simp;lia];show(r.map λk=>W.int (k:f7))[n]?=_;rw[ai,cE 0 #[0]];rfl
def DG{ps:fy Mc}{M:Mc}(h:i<ps.length):gM (ps++[M]) i=gM ps i:=by unfold gM;rw[aA,aA,bu h]
def z5{ps:fy Mc}{M:Mc}:gM (ps++[M]) ps.length=M:=by unfold gM;rw[aA,bA<|av _,oK];rfl
theorem X5{k:f7}(O:k<4){ps:fy Mc}{M:Mc}{r:fy f7}(Z:1<=ps.length)(B:2<=k->2<=ps.length)(I:ps.length<=1000)(V:iJ (ps++[M]) r)(d:M.gd.getD (r.getD ps.length 0) eh=rR k (mX ps r))(st:fy al) :
  yD [.str<|wd k,.tup<|ps.map Mc.w,M.w,bW r] st=.ok (.bl cT) st:=by
 have U:r.length=ps.length+1:=by rw[V.1];simp
 have J:=BW (ps:=ps) (r:=r) #[0] I (λi L=>by have:=V.2 i (by simp;lia);rwa[DG L]at this) st;have D:(mX ps r).length=ps.length:=by simp[mX]
 have w:=E6 O (g:=mX ps r) #[0] (λz=>by have:=B z;lia) (s:=st++[.lst<|(mX ps r).map W.bl]) aT;have Y:r.getD ps.length 0<M.gd.length:=by have:=V.2 ps.length (by simp);rwa[z5]at this
 have R:bd (.tup<|M.gd.map W.bl) (.int (r.getD ps.length 0:f7)) st=.ok (.bl<|rR k<|mX ps r) st:=jI (df (by rw[ai,cE eh Y,d];rfl));refine f9 (N:=4) (ws:=[.str<|wd k,.tup<|ps.map Mc.w,M.w,bW r]) (body:=Kv) ?_ rfl;apply cH
 .exact bw (bw (bw kv cn<|pZ _ _) (bw kv (yy cn)<|E7 U _) R) (cC (au kv<|au (cC (au kv kn) J rfl) a6) w rfl) (EK (b:=cT)<|ko _)
 .exact⟨_,_,rfl,rfl,_,rfl⟩
def cQ{a b:fy al}(h:bM a)(B:bM b):bM (a++b):=λd k=>by
 rcases bD.mp k with z|z
 .exact h d z
 exact B d z
def np1{c:al}(h:∀a,nj a c=eh):bM [c]:=λd k a=>by rw[a_.mp k];exact h a
def lh(ws:fy W):bM [.lst ws]:=np1 λ_=>rfl
noncomputable def fF(Ms:fy Mc):fy f7:=(Ms.map Mc.nm).flatten
def wP(l:fy (fy f7)):(l.map ZH).sum=l.flatten.length:=by simp
def mul_zero(n:f7):W.tup (rn n [W.int 0]).flatten=bW (rn n 0):=by
 congr 1
 induction n with
 |zero=>rfl
 |succ n U=>rw[gC,jN,U];rfl
section
variable{f:FG}
theorem yI{ck:fy (f7×fy W)}{k:bR}(D:De st ck):∀(ws vs acc:fy W),vs.length=ws.length->(∀(i:f7) (w:W),ws[i]?=bi w->∃v I,vs[i]?=bi v/\f w k=bi I/\el I st=.ok v st) ->
  nX f d_ el ck k ws acc st=.ok (acc++vs) st
 |[],vs,acc,hl,_=>by have:vs=[]:=jA.mp hl;subst this;unfold nX;rw[ax D];simp
 |w::ws,[],acc,hl,h=>by simp at hl
 |w::ws,v::vs,acc,hl,h=>by
  obtain⟨V,I,L,R,O⟩:=h 0 w rfl
  cases L
  unfold nX;rw[ax D,R];simp[d_,O];rw[λacc=>yI D ws vs acc (by simp_all) λi Y d=>by simpa using h (i+1) Y (by trivial)];simp
def KG{fi:Q_}{ck:fy (f7×fy W)}(vs:fy W)(h:fi ρ st=.ok (ws,ck) st1)(U:ws.length<=j')(D:De st1 ck)(B:vs.length=ws.length)
  (d:∀(i:f7) (w:W),ws[i]?=bi w->∃v I,vs[i]?=bi v/\f w (kc cap ρ)=bi I/\el I st1=.ok v st1):ua cap fi f d_ el ρ st=.ok (.loc st1.length) (st1++[.lst vs]):=by unfold ua;rw[h];simp only[R.bind_ok];rw[ax U,yI D ws vs [] B d];simp only[R.bind_ok,jh,jW];rw[ax (by rw[B];exact U)]
def SD{fs:FA}{xs L:fy W}(h:fs ρ st=.ok [.loc n,.loc m] st1)(Z:lstOf st1 n=bi xs)(B:lstOf st1 m=bi L):vZ fs ρ st=.ok (mv xs L,[(n,xs),(m,L)]) st1:=by unfold vZ;rw[h];simp[Z,B]
def KH(h:fa ρ st=.ok (.str l) st1)(U:l.length<=j'):Bd fa ρ st=.ok (.str l.reverse) st1:=by unfold Bd;rw[h];simp only[R.bind_ok];rw[ax U]
end
noncomputable def eD(z:fy f7)(d:f7):fy f7:=((uP z.length).filter λk=>decide<|d/2^k%2=1).map λk=>z.getD k 0
theorem p_(z:fy f7)(I:z.length<=50)(d:f7)(st:fy al):nu [.str z,.int (d:f7)] st=.ok (.str<|mx<|eD z d) st:=by
 have Y:z.length<=j':=by show _<=1000000;lia
 have D:cb [b0,bi 0,bi 1] (bq<|ae (aU b9<|ae (ac 0) aw) aw) (cF 0) (fD<|e2 ik (e2 A3 (e2 Iu (ac 2)<|ac 0)<|eI 1)<|eI 1) (e2 bd (ac 1)<|ac 0) [bi<|.str z,iO d] st=.ok (.loc st.length) (st++[.lst<|((eD z d).map λc=>[c]).map W.str]):=by
  have:=zI (f:=cF 0) (t:=fD<|e2 ik (e2 A3 (e2 Iu (ac 2)<|ac 0)<|eI 1)<|eI 1) (el:=e2 bd (ac 1)<|ac 0) (cap:=[b0,bi 0,bi 1]) (ws:=iD 0 z.length) (ck:=b0) (λw=>decide<|d/2^Sx w%2=1) (λw=>.str [z.getD (Sx w) 0])
   (by
    have:=cS (fs:=ae (aU b9<|ae (ac 0) aw) aw) (ρ:=[bi<|.str z,iO d]) (st:=st) (au (bc kn<|jo Y) a6) #[0];exact this) (by rw[bE];lia) trivial ?_
  .rw[this]
   congr 4
   unfold iD eD;rw[pb,aN,aN,aN];have e:((λw=>decide<|d/2^Sx w%2=1)∘λi:f7=>W.int<|0+i)=λk=>decide (d/2^k%2=1):=by
    funext k
    show decide (d/2^(0+(k:hG)).toNat%2=1)=_;rw[show(0+(k:hG)).toNat=k by lia]
   rw[e];refine b_ λk _=>?_;show W.str [z.getD (0+(k:hG)).toNat 0]=_;rw[show(0+(k:hG)).toNat=k by lia];rfl
  intro w Z;obtain⟨i,L,rfl⟩:=yz Z;rw[show(0+i)=(i:hG) by lia];refine{[iO i,bi<|.str z,iO d],rfl,?_,λ_=>?_}
  .refine c_ (bw (bw (bw kv kv Sy) cn NG) cn<|kA ?_);show((((d/2^i%2:f7)):hG)==1)=decide (d/2^(i:hG).toNat%2=1);rw[aO]
   by_cases h:d/2^i%2=1
   .rw[h];rfl
   .grind
  exact bw kv kv<|EI Y<|df<|cE 0 L
 refine f9 ?_ rfl;apply cH
 .exact Nz D (aL aT) (by
   unfold eD;rw[aj];refine eO (eK _ _) ?_;rw[jU];lia)
 exact{_,_,rfl,rfl,_,by rw[aG]}
theorem wQ{z:fy f7}(D:z.Nodup){d:f7}(L:i<z.length):z.getD i 0∈mx (eD z d)↔d/2^i%2=1:=by
 rw[(pY _).mem_iff];unfold eD;rw[aX];constructor
 .rintro⟨k,O,e⟩;obtain⟨Z,B⟩:=d7.mp O;have w:=bN.mp Z;have r:k=i:=by have R:=cE 0 w;rw[e,<- (cE 0 L)]at R;exact(List.getElem?_inj w D).mp R
  rw[<- r];simpa using B
 .exact λh=>{i,d7.mpr {bN.mpr L,by simpa using h},rfl}
theorem DH{a b:f7}:([a]<[b])↔a<b:=by
 constructor
 .intro h
  cases h with
  |rel h=>exact h
  |cons h=>cases h
 exact .rel
theorem SF{a b:f7}(h:b≠a):(mx [a,b]).Pairwise (· < ·):=by
 show(oO []<|if [a]<[b]then[[a],[b]]else[[b],[a]]).Pairwise (· < ·)
 by_cases z:a<b
 .rw[ax<|DH.mpr z];show[a,b].Pairwise (· < ·);simp[z]
 rw[aF<|λq=>z<|DH.mp q];show[b,a].Pairwise (· < ·);simp;omega
theorem t9{d:fy f7}(h:l.Pairwise (· < ·))(h':d.Pairwise (· < ·))(hm:∀a,a∈l↔a∈d):l=d:=by have Y:∀{l:fy f7},l.Pairwise (· < ·)->l.Nodup:=λh=>h.imp aM;exact List.Perm.eq_of_pairwise (λa b _ _ Z B=>absurd (oF Z B)<|cV _) h h'<|(List.perm_ext_iff_of_nodup (Y h)<|Y h').mpr hm
noncomputable def BX(l:fy f7):fy f7:=LL.filter λc=>decide<|c∈l
theorem wR(l:fy f7)(st:fy al):wI [.str l] st=.ok (.str<|BX l) st:=by obtain⟨x,e⟩:=KC (cap:=[b0,bi 0]) (ρ:=[bi<|.str l]) (fe:=eC<|.str LL) (t:=fD<|e2 (xj eh) (ac 0)<|ac 1) (λc=>decide<|c∈l) cn (by decide) (by simp) λc _=>c_<|bw kv kv E4;refine f9 ?_ rfl;exact cH e ⟨_,_,rfl,rfl,_,rfl⟩
def V0:LL.Pairwise (· < ·):=by decide
def qH(l:fy f7):(BX l).Pairwise (· < ·):=V0.filter _
def jK{c:f7}:c∈BX l↔c∈LL/\c∈l:=by unfold BX;simp
theorem NK(own m:fy f7):∀(p:fy f7) (q:f7),(∀i,i<p.length->(p.getD i 0∈m↔q/2^(p.length-1-i)%2=1))->Th own p q=hU m (p.filter λc=>decide<|c∈own):=by
 have key:∀r q,(∀i,i<r.length->(r.getD i 0∈m↔q/2^i%2=1))->Tr own r q=hU m ((r.reverse).filter λc=>decide<|c∈own):=by
  intro r
  induction r with
  |nil=>intro q _;rfl
  |cons c r U=>
   intro q h;have V:=h 0 (by simp);have w:=U (q/2) λi L=>by have:=h (i+1) (by simp;lia);rw[Nat.div_div_eq_div_mul,gZ,<- lu];simpa using this
   rw[List.reverse_cons,List.filter_append];unfold Tr
   by_cases D:c∈own
   .rw[ax D,nM (by simpa using D),List.filter_nil,yH,<- w]
    congr 1
    have V:c∈m↔q%2=1:=by simpa using V
    by_cases hm:c∈m
    .rw[ax hm];exact V.mp hm
    .rw[aF hm];have:¬ q%2=1:=λz=>hm (V.mpr z)
     lia
   .rw[aF D,nN (by simpa using D),List.filter_nil,dh,<- w]
 intro p q h;have:=key p.reverse q λi L=>by
  have Z:i<p.length:=by simpa using L
  have I:=h (p.length-1-i) #[0];rw[show p.length-1-(p.length-1-i)=i by lia]at I;rw[<- I,aA,pE Z,aA]
 rw[List.reverse_reverse]at this;exact this
def Sub(own nm:fy f7):Prop:=own.Pairwise (· < ·)/\∀c∈own,c∈nm
theorem Sub.filter{own:fy f7}(h:Sub own nm)(D:nm.Pairwise (· < ·)):(nm.filter λc=>decide<|c∈own)=own:=
 t9 (D.filter _) h.1 λa=>by simp;exact h.2 a
def Ps{own m:fy f7}(h:Sub own nm)(D:nm.Pairwise (· < ·))(hm:∀i,i<nm.length->(nm.getD i 0∈m↔q/2^(nm.length-1-i)%2=1)):hU m own=Th own nm q:=by rw[NK own m nm q hm,h.filter D]
noncomputable def nb(f:f7->ir):f7->f7
 |0=>0
 |n+1=>nb f n+if f n then 2^n else 0
theorem KI(f:f7->ir):∀n,nb f n<2^n
 |0=>by simp[nb]
 |n+1=>by
  have:=KI f n;unfold nb;rw[lu]
  split<;>omega
theorem DI(f:f7->ir):∀n i,i<n->(nb f n/2^i%2=1↔f i=cT)
 |0,i,h=>by lia
 |n+1,i,h=>by
  unfold nb
  by_cases e:i=n
  .subst e;have U:=KI f i
   by_cases O:f i=cT
   .rw[ax O,Nat.add_div_right _<|Nat.two_pow_pos i,nO U];simp[O]
   rw[aF O,jP,nO U];simp[O]
  have L:i<n:=by lia
  rw[<- DI f n i L]
  split
  .rw[show 2^n=2^(n-i-1)*2*2^i by rw[<- lu,<- Nat.pow_add];congr 1;lia,Nat.add_mul_div_right _ _<|Nat.two_pow_pos i,Nat.add_mul_mod_self_right]
  rfl
def uO{s:fy al}{p:f7}{c:al}(h:bM s)(D:∀a,nj a c=eh):bM (s.set p c):=λd k a=>by
 rcases mE k with z|z
 .exact h d z a
 rw[z];exact D a
structure Pu(M:Mc):Prop where
 ok:yF M M.gd.length
 lo:1<=M.gd.length
 hi:M.gd.length<=3
 nl:M.nm.length<=2
 up:M.nm.Pairwise (· < ·)
 ll:∀c∈M.nm,c∈LL
def mK(a b c k:f7)(l:fy f7)(h:([0,1,2].filter λj=>decide<|k/2^j%2=1)=l):eD [a,b,c] k=l.map λj=>[a,b,c].getD j 0:=by rw[<- h];rfl
theorem V1{a b c:f7}(D:[a,b,c].Nodup)(U:∀d∈[a,b,c],d∈LL){k:f7}(O:k∈[0,1,2,4,3,5,6]):(mx<|eD [a,b,c] k).length<=2/\(mx<|eD [a,b,c] k).Pairwise (· < ·)/\∀d∈mx (eD [a,b,c] k),d∈LL:=by
 have z:b≠a:=by simp at D;exact Zw D.1.1
 have w:c≠a:=by simp at D;exact Zw D.1.2
 have r:c≠b:=by simp at D;exact Zw D.2
 have W:∀d∈mx (eD [a,b,c] k),d∈LL:=λd I=>by obtain⟨i,L,rfl⟩:=aX.mp<|(pY _).mem_iff.mp I;exact U _<|aV<|cE 0<|bN.mp (d7.mp L).1
 refine{?_,?_,W}
 .rw[vm];simp at O;rcases O with rfl|rfl|rfl|rfl|rfl|rfl|rfl
  .rw[mK a b c 0 []<|by decide];exact aB rfl
  .rw[mK a b c 1 [0]<|by decide];exact aB rfl
  .rw[mK a b c 2 [1]<|by decide];exact aB rfl
  .rw[mK a b c 4 [2]<|by decide];exact aB rfl
  .rw[mK a b c 3 [0,1]<|by decide];exact aB rfl
  .rw[mK a b c 5 [0,2]<|by decide];exact aB rfl
  rw[mK a b c 6 [1,2]<|by decide];exact aB rfl
 simp at O;rcases O with rfl|rfl|rfl|rfl|rfl|rfl|rfl
 .rw[mK a b c 0 []<|by decide];exact .nil
 .rw[mK a b c 1 [0]<|by decide];exact(by simp:[a].Pairwise (· < ·))
 .rw[mK a b c 2 [1]<|by decide];exact(by simp:[b].Pairwise (· < ·))
 .rw[mK a b c 4 [2]<|by decide];exact(by simp:[c].Pairwise (· < ·))
 .rw[mK a b c 3 [0,1]<|by decide];exact SF z
 .rw[mK a b c 5 [0,2]<|by decide];exact SF w
 rw[mK a b c 6 [1,2]<|by decide];exact SF r
theorem SH{a c:f7}{st:fy al}(J:a<1000)(h:c<=100):ml (.int a) (.int c) st=.ok (.int ((a*2^c:f7):hG)) st:=by have:=kg (C:=λi j=>0<=j/\j<=1000000/\i.natAbs<2^64) (f:=λi j=>i*2^j.toNat) (p:=a) (q:=c) (st:=st) {by lia,by lia,by lia};rw[show ml (.int a) (.int c) st=_ from this];simp
theorem SJ{n0 L:f7}{st:fy al}(h0:st[n0]?=bi (.ro<|ns.map W.int))(hL:st[L]?=bi (.lst [.int 3,.int 3,.int 3]))(np:bM st) :
  ∃(j:f7) (x:fy al) (A B:Mc),Pu A/\Pu B/\bM (st++x)/\x[j]?=bi (.lst [A.w,B.w])/\ER [.loc n0,.loc L] st=.ok (.loc<|st.length+j) (st++x):=by
 suffices hh:ia (zE λw bx=>∃j x,w=.loc (st.length+j)/\bx=st++x/\∃A B:Mc,Pu A/\Pu B/\bM (st++x)/\x[j]?=bi (.lst [A.w,B.w])) (Pd ([W.loc n0,.loc L].map bi++rn (10-2) b0) st) by
  obtain⟨j,x,⟨A,B,a,b,c,d⟩,e⟩:=sM hh;exact⟨j,x,A,B,a,b,c,d,e⟩
 obtain⟨c0,e0⟩:=qG h0 0;obtain⟨ds,hdl,G8,ed⟩:=sR c0 100003 6 #[0] st;apply aH
 .exact bB (cC (au (cC (au kv<|au cn a6) e0 rfl)<|au cn<|au cn a6) ed rfl)
 generalize Cu:st++[al.lst<|ds.map W.int]=s0;have k0:st <+: s0:=by rw[<- Cu];exact ag _ _
 have np0:bM s0:=by rw[<- Cu];exact cQ np<|lh _
 have NY:s0[st.length]?=bi (.lst<|tQ ds):=by rw[<- Cu];exact aT
 obtain⟨c1,r⟩:=qG (pre_get k0 h0) 1;obtain⟨pl,lR,hpn,hpL,ep⟩:=zV c1 200017 3 #[0] s0;obtain⟨a,b,c,rfl⟩:∃a b c,pl=[a,b,c]:=by
  match pl,lR with
  |[a,b,c],_=>exact⟨a,b,c,rfl⟩
 apply aH
 .exact bB (cC (au (cC (au kv<|au cn a6) r rfl)<|au cn<|au cn a6) ep rfl)
 apply aH
 ·(walk_at "evs")
 refine fw (λi Y s=>∃(Ms:fy Mc) (o5 o6 o7 o8 o9:hJ W),Y=[lO n0,lO L,lO st.length,bi<|.str [a,b,c],lO s0.length,o5,o6,o7,o8,o9]/\s0 <+: s/\s[s0.length]?=bi (.lst<|Ms.map Mc.w)/\Ms.length=i/\(∀M∈Ms,Pu M)/\bM s)
  (cS (q:=2) (st1:=s0++[al.lst []]) (au cn a6) #[0]) ⟨[],b0,b0,b0,b0,b0,rfl,ag _ _,aT,rfl,by simp,cQ np0<|lh _⟩ (λ_ _ _ _=>trivial) ?_ ?_
 .rintro i w Y s V ⟨Ms,o5,o6,o7,o8,o9,rfl,I,D,U,hM,nps⟩;obtain⟨O,rfl⟩:=dD V;have hi2:i<2:=O;refine{_,rfl,?_};rw[show(0:hG)+(i:hG)=(i:hG) by lia];have hdq:∀q,q<6->∃d:hG,ds[q]?=bi d:=λq hq=>{_,ak #[0]}
  obtain⟨d0,hd0i⟩:=hdq i #[0];obtain⟨d1,hd1i⟩:=hdq (2+i) #[0];obtain⟨d2,hd2i⟩:=hdq (4+i) #[0];obtain⟨q7,hq7,eq7⟩:=n9 (q:=d0) (n:=7) #[0];generalize oy:s++[al.lst [.int 0,.int 1,.int 2,.int 4,.int 3,.int 5,.int 6]]=s1;have k1:s <+: s1:=by rw[<- oy];exact ag _ _
  have np1':bM s1:=by rw[<- oy];exact cQ nps<|lh _
  have hd1:s1[st.length]?=bi (.lst<|tQ ds):=pre_get (I.trans k1) NY;obtain⟨kk',hkk,ekk⟩:∃apply:f7,apply∈[0,1,2,4,3,5,6]/\bd (.loc s.length) (.int (q7:f7)) s1=.ok (.int (apply:f7)) s1:=by refine{[0,1,2,4,3,5,6].getD q7 0,aV (cE 0<|by simpa using hq7),?_};refine wM (l:=[0,1,2,4,3,5,6]) (by rw[<- oy];exact aT) (cE 0<|by simpa using hq7)
  obtain⟨xO,hnu,hnL⟩:=V1 hpn hpL hkk;have em:=p_ [a,b,c] (by simp) kk' s1;generalize mj:mx (eD [a,b,c] kk')=nm at xO hnu hnL em;have el:dW (ae (eI 0)<|ae (eI 1)<|ae (eI 2)<|ae (eI 4)<|ae (eI 3)<|ae (eI 5)<|ae (eI 6) aw) [lO n0,lO L,lO st.length,bi<|.str [a,b,c],lO s0.length,iO (i:hG),o6,o7,o8,o9] s=.ok (.loc s.length) s1:=by rw[<- oy];rfl
  apply aH
  .refine bB (cC (au kv<|au (bw el (bw (bw kv kv<|ku hd1 hd0i) cn<|kg<|by decide) ?_) a6) em rfl);show bd (.loc s.length) (.int<|d0%((7:f7):hG)) s1=_;rw[eq7];exact ekk
  have ln:∀s,b9 [.str nm] s=.ok (.int nm.length) s:=λs=>jo (by show _<=1000000;lia);have e3:bd (.loc L) (.int nm.length) s1=.ok (.int 3) s1:=by
   refine kB (aL<|pre_get (k0.trans<|I.trans k1) hL)<|df ?_;obtain z|z|z:nm.length=0\/nm.length=1\/nm.length=2:=by lia
   all_goals rw[z];rfl
  obtain⟨n1,hn1,en1⟩:=n9 (q:=d1) (n:=3) #[0];have en1:d1%3=(n1:hG):=en1;apply aH
  .exact bB (bw cn (bw (bw kv (bw cn kv eN)<|ku (i:=2+i) hd1 hd1i) (bw kv (bc kn<|ln _) e3)<|kg<|by decide) eN)
  rw[en1,show(1:hG)+(n1:hG)=((1+n1:f7):hG) by lia];generalize J:1+n1=n;apply aH
  .exact bB kv
  have cN:∀kC:f7,1<=kC->kC<=n->ia (LF λY Z=>∃(Ms:fy Mc) (o5 o6 o7 o8 o9:hJ W),Y=[lO n0,lO L,lO st.length,bi<|.str [a,b,c],lO s0.length,o5,o6,o7,o8,o9]/\s0 <+: Z/\Z[s0.length]?=bi (.lst<|Ms.map Mc.w)/\Ms.length=i+1/\(∀M∈Ms,Pu M)/\bM Z)
    (aY (bG 9<|c7 3 qY<|ae (c7 2 oT<|ae (ac 0)<|ae (e2 dF (eI 2)<|ac 5) aw)<|ae (e2 dF (ac 7)<|e2 ml (e2 fM (ac 7)<|ac 7)<|aU b9<|ae (ac 6) aw)<|ae (e2 dF (eI 300007)<|e2 fM (eI 100003)<|ac 5) aw) (gy<|uX dJ (ac 4)<|ae (c7 4 BN<|ae (ac 6)<|ae (ac 7)<|ae (ac 8)<|ae (ac 9) aw) aw)
     [lO n0,lO L,lO st.length,bi<|.str [a,b,c],lO s0.length,iO (i:hG),bi<|.str nm,iO (n:f7),iO (kC:f7),o9] s1):=λkC Lx YF=>by
   obtain⟨c2,e2'⟩:=qG (pre_get (k0.trans<|I.trans k1) h0)<|2+i;have p4:2^nm.length<=4:=cf #[0] xO;have hnn:n*n<=9:=cB (show n<=3 by lia) (show n<=3 by lia);have hnp:n*n*2^nm.length<=36:=cB hnn p4;obtain⟨es,hel,hep,ee⟩:=sR c2 (300007+100003*(i:hG)) (n+n*n*2^nm.length) #[0] s1;have cm1:uV (n:hG) (n:hG):=.inl {by lia,by lia};have cm2:uV (100003:hG) (i:hG):=.inl (by decide);have sh:=SH (a:=n*n) (c:=nm.length) (st:=s1) #[0] #[0];rw[hX n n]at sh;rw[gj]at ee;apply aH
   .exact bB (cC (au (cC (au kv<|au (bw cn kv eN) a6) e2' rfl)<|au (bw kv (bw (bw kv kv<|jH cm1) (bc kn<|ln _) sh) eN)<|au (bw cn (bw cn kv<|jH cm2) eN) a6) ee rfl)
   generalize oq:s1++[al.lst<|es.map W.int]=s2;have k2:s1 <+: s2:=by rw[<- oq];exact ag _ _
   have np2:bM s2:=by rw[<- oq];exact cQ np1'<|lh _
   obtain⟨M,hMn,hMo,eM⟩:=DF nm n kC s1.length es s2 #[0] #[0] #[0] Lx YF (by rw[<- oq];exact aT) (by rw[hel,gZ<|2^nm.length];exact av _);have hc2:=pre_get (k1.trans k2) D;have ap:=lM (y:=M.w) hc2 (by rw[aj];omega);apply fZ
   .exact iZ (rN kv (gB hc2) (au (cC (au kv<|au kv<|au kv kn) eM rfl) a6) ap)
   .refine{_,_,rfl,Ms++[M],_,_,_,_,_,rfl,gU (I.trans<|k1.trans k2)<|av _,by rw[i3 hc2];simp,by simp[U],λM' hM'=>?_,uO np2 λ_=>rfl};rcases bD.mp hM' with z|z
    .exact hM M' z
    .rw[a_.mp z];exact{by rw[hMo.gd];exact hMo,by rw[hMo.gd];omega,by rw[hMo.gd];omega,by rw[hMn];exact xO,by rw[hMn];exact hnu,by rw[hMn];exact hnL}
  by_cases k:d2%3=1
  .apply aH
   .apply wz
    .exact c_ (bw (bw (bw kv (bw cn kv eN)<|ku (i:=4+i) hd1 hd2i) cn<|kg<|by decide) cn<|kA (by rw[k];rfl))
    .exact bB (bc (au cn<|au (bw kv cn<|kg trivial) a6) (show xA [.int 1,.int<|(n:hG)-1] s1=.ok (.int ((max 1 (n-1):f7):hG)) s1 from by
      show R.ok (W.int<|if (1:hG)<(n:hG)-1 then(n:hG)-1 else 1) s1=_;rw[show(if (1:hG)<(n:hG)-1 then(n:hG)-1 else 1)=((max 1 (n-1):f7):hG) by split<;>omega]))
   exact cN _ (by omega) (by omega)
  .apply aH
   .apply wA
    .exact c_ (bw (bw (bw kv (bw cn kv eN)<|ku (i:=4+i) hd1 hd2i) cn<|kg<|by decide) cn<|kA<|bj.mpr k)
    .exact Dv
   exact cN n (by omega) (by omega)
 .rintro Y s ⟨Ms,o5,o6,o7,o8,o9,rfl,I,D,U,hM,nps⟩;have U:Ms.length=2:=U;obtain⟨A,B,rfl⟩:∃A B,Ms=[A,B]:=by
   match Ms,U with
   |[A,B],_=>exact⟨A,B,rfl⟩
  obtain⟨x,rfl⟩:=k0.trans I;have hle:st.length<=s0.length:=k0.length_le;apply cH
  .exact ef rfl
  .refine{_,_,rfl,s0.length-st.length,x,by rw[show st.length+(s0.length-st.length)=s0.length by omega],rfl,A,B,hM A (by simp),hM B (by simp),nps,?_};rw[bA hle]at D;exact D
structure my(ps:fy Mc):Prop where
 ln:ps.length=1\/ps.length=2
 ok:∀M∈ps,Pu M
def gn(ps:fy Mc)(i:f7):f7:=(gM ps i).gd.length
def nB(ps:fy Mc):f7:=if ps.length=2 then gn ps 1 else 1
def cnt(ps:fy Mc):f7:=gn ps 0*nB ps
def mh(ps:fy Mc)(k:f7):fy f7:=if ps.length=2 then[k%cnt ps/nB ps,k%cnt ps%nB ps]else[k%cnt ps]
def GT(ps:fy Mc)(r:fy f7):f7:=if ps.length=2 then r.getD 0 0*nB ps+r.getD 1 0 else r.getD 0 0
theorem my.gn{ps:fy Mc}(h:my ps){i:f7}(L:i<ps.length):1<=gn ps i/\gn ps i<=3:={(h.ok _<|lN L).lo,(h.ok _<|lN L).hi}
theorem my.nB{ps:fy Mc}(h:my ps):1<=nB ps/\nB ps<=3:=by
 unfold P.nB
 split
 .exact h.gn #[0]
 lia
theorem my.ms{ps:fy Mc}(h:my ps):rQ ps:=λM D=>(h.ok M D).ok
theorem my.cnt{ps:fy Mc}(h:my ps):1<=cnt ps/\cnt ps<=9:=by have Z:=h.gn (i:=0) (by have:=h.ln;lia);have B:=h.nB;exact{cB Z.1 B.1,cB Z.2 B.2}
def oh{ps:fy Mc}(h:my ps)(k:f7):(mh ps k).length=ps.length:=by unfold mh;rcases h.ln with z|z<;>rw[z]<;>simp
theorem Pv{P:f7->Prop}(h:i<2)(V:P 0)(Z:P 1):P i:=by grind
theorem wS{ps:fy Mc}(h:my ps)(k:f7):iJ ps (mh ps k):=by
 refine{oh h k,λi L=>?_};have D:=h.cnt;have hm:k%cnt ps<gn ps 0*nB ps:=jt _ #[0];have U:=h.nB;rcases h.ln with z|z
 .have:i=0:=by lia
  subst this;have e:nB ps=1:=by unfold P.nB;rw[aF #[0]]
  rw[e,mQ]at hm;unfold mh;rw[aF #[0]];exact hm
 unfold mh;rw[ax z];have e:nB ps=gn ps 1:=by unfold P.nB;rw[ax z]
 refine Pv (P:=λi=>[k%cnt ps/nB ps,k%cnt ps%nB ps].getD i 0<gn ps i) #[0] ?_ ?_
 .exact Nat.div_lt_of_lt_mul (by rw[gZ];exact hm)
 rw[<- e];exact jt _ #[0]
theorem SL{r:fy f7}(h:r.length=1):r=[r.getD 0 0]:=by
 match r,h with
 |[x],_=>rfl
theorem SM{r:fy f7}(h:r.length=2):r=[r.getD 0 0,r.getD 1 0]:=by
 match r,h with
 |[x,y],_=>rfl
theorem NL{ps:fy Mc}(h:my ps){r:fy f7}(V:iJ ps r):GT ps r<cnt ps/\∀t,mh ps (GT ps r+cnt ps*t)=r:=by
 have d:=V.2 0 (by have:=h.ln;lia);rcases h.ln with z|z
 .have e:nB ps=1:=by unfold P.nB;rw[aF #[0]]
  have w:GT ps r=r.getD 0 0:=by unfold GT;rw[aF #[0]]
  have Y:cnt ps=gn ps 0:=by unfold P.cnt;rw[e,mQ]
  have U:GT ps r<cnt ps:=by rw[w,Y];exact d
  refine{U,λt=>?_};unfold mh;rw[aF #[0],gc,iU U,w];exact(SL<|by rw[V.1,z]).symm
 have e:nB ps=gn ps 1:=by unfold P.nB;rw[ax z]
 have w:GT ps r=r.getD 0 0*nB ps+r.getD 1 0:=by unfold GT;rw[ax z]
 have O:r.getD 1 0<nB ps:=by rw[e];exact(V.2 1 #[0])
 have U:GT ps r<cnt ps:=by
  unfold P.cnt;have:(r.getD 0 0+1)*nB ps<=gn ps 0*nB ps:=Nat.mul_le_mul_right _ d;rw[Nat.add_mul]at this
  lia
 refine{U,λt=>?_};unfold mh;rw[ax z,gc,iU U,w,gZ,Nat.mul_add_div #[0],nO O,Nat.mul_add_mod,iU O];exact(SM<|by rw[V.1,z]).symm
noncomputable def hm(m s k:f7):f7:=if k=0 then 0 else 1+(k-1+s)%(m-1)
noncomputable def pl(m s x:f7):f7:=if x=0 then 0 else 1+(x-1+((m-1)-s%(m-1)))%(m-1)
theorem V2{s k:f7}(h:k<m):hm m s k<m:=by
 unfold hm
 split
 .lia
 have:=jt (k-1+s) (show m-1>0 by lia);lia
theorem E8{s k:f7}(h:k<m):pl m s k<m:=by
 unfold pl
 split
 .lia
 have:=jt (k-1+((m-1)-s%(m-1))) (show m-1>0 by lia);lia
theorem BY{M a s:f7}(J:a<M):((a+(M-s%M))%M+s)%M=a/\((a+s)%M+(M-s%M))%M=a:=by
 have d:=jt s (show M>0 by lia);have e:=(Nat.mod_add_div s M).symm;constructor
 .rw[Nat.mod_add_mod,show a+(M-s%M)+s=a+M*(s/M+1) by rw[Nat.mul_add];lia,gc,iU J]
 rw[Nat.mod_add_mod,show a+s+(M-s%M)=a+M*(s/M+1) by rw[Nat.mul_add,mQ];lia,gc,iU J]
theorem Pw{s x:f7}(h:x<m):hm m s (pl m s x)=x:=by
 unfold pl
 by_cases z:x=0
 .rw[ax z];subst z;rfl
 rw[aF z];unfold hm;rw[aF #[0],show 1+(x-1+((m-1)-s%(m-1)))%(m-1)-1=(x-1+((m-1)-s%(m-1)))%(m-1) by lia,(BY #[0]).1];lia
theorem Px{s x:f7}(h:x<m):pl m s (hm m s x)=x:=by
 unfold hm
 by_cases z:x=0
 .rw[ax z];subst z;rfl
 rw[aF z];unfold pl;rw[aF #[0],show 1+(x-1+s)%(m-1)-1=(x-1+s)%(m-1) by lia,(BY #[0]).2];lia
theorem z7{m s n:f7}(h:n<=m):((uP n).map<|hm m s).Nodup:=by refine jT.mpr<|List.Pairwise.imp_of_mem ?_ List.nodup_range;intro a b J U W e;have J:=bN.mp J;have U:=bN.mp U;exact W (by rw[<- Px (show a<m by lia),e,Px #[0]])
section
variable(ps:fy Mc)(nm:fy f7)(tw s k:f7)
def kD:f7:=cnt ps*(1+tw)
def mY(i:f7):fy f7:=mh ps i++[hm (kD ps tw) s i]
def NM(i:f7):ir:=rR k<|mX ps<|mh ps i
def V3(q l r:f7):f7:=GT ps (led ps nm q (mh ps<|pl (kD ps tw) s l)<|mh ps<|pl (kD ps tw) s r)+cnt ps*((l+r+q)%(1+tw))
def z8(q l r:f7):f7:=hm (kD ps tw) s<|V3 ps nm tw s q l r
def KJ:fy (fy<|fy f7):=(uP<|2^nm.length).map λq=>(uP<|kD ps tw).map λl=>(uP<|kD ps tw).map λr=>z8 ps nm tw s q l r
def Md:Mc:={nm,(uP<|kD ps tw).map λx=>NM ps k<|pl (kD ps tw) s x,KJ ps nm tw s}
def oV:fy (fy f7):=(uP<|kD ps tw).map<|mY ps tw s
end
section
variable{ps:fy Mc}{tw s k:f7}
theorem E9(h:my ps)(z:nm.Nodup){r:fy f7}(U:iJ ps l)(V:iJ ps r):iJ ps (led ps nm q l r):=by refine{by simp[led],λi L=>?_};obtain⟨t,J,_,_,_,_,_,e⟩:=wO (h.ms _<|lN L) (yG z q) (U.2 i L)<|V.2 i L;unfold led;rw[aA,ai,bv L];exact e
theorem KL(h:my ps)(z:nm.Nodup)(q l r:f7):V3 ps nm tw s q l r<kD ps tw:=by
 have e:=(NL h<|E9 h z (q:=q) (wS h<|pl (kD ps tw) s l)<|wS h<|pl (kD ps tw) s r).1;have:(l+r+q)%(1+tw)<1+tw:=jt _ #[0];have B:cnt ps*((l+r+q)%(1+tw))<=cnt ps*tw:=Nat.mul_le_mul_left _ #[0];have Y:kD ps tw=cnt ps+cnt ps*tw:=by unfold kD;rw[Nat.mul_add,mQ]
 unfold V3
 lia
theorem z9(h:my ps):1<=kD ps tw:=cB h.cnt.1 (show 1<=1+tw by lia)
theorem z_(h:my ps)(B:tw<=1):kD ps tw<=18:=cB h.cnt.2 (show 1+tw<=2 by lia)
theorem V4(h:my ps)(z:nm.Nodup):yF (Md ps nm tw s k) (kD ps tw):=by refine{by simp[Md],by simp[Md,KJ],λt B=>?_};obtain⟨q,_,rfl⟩:=aX.mp B;refine{by simp,λr V=>?_};obtain⟨l,_,rfl⟩:=aX.mp V;refine{by simp,λx J=>?_};obtain⟨r,_,rfl⟩:=aX.mp J;exact V2<|KL h z q l r
def V5:(Md ps nm tw s k).gd.length=kD ps tw:=by simp[Md]
def DJ{f:f7->α}(d:α)(h:i<n):((uP n).map f).getD i d=f i:=by rw[aA,ai,bv h];rfl
def BZ{x:f7}(h:i<l.length):(l++[x]).getD i 0=l.getD i 0:=by rw[aA,aA,bu h]
end
noncomputable def dI(f:α->f7)(g:α->W)(l:fy α):fy (DK×W):=l.map λa=>(DK.i (f a:f7),g a)
section
variable{f:α->f7}{g:α->W}{l:fy α}
theorem KM(q:f7)(a:α):decide ((DK.i (f a:f7))=DK.i (q:f7))=decide (f a=q):=by grind
def SN(q:f7):v7 (dI f g l) (.i q)=(l.find? λa=>decide<|f a=q).map g:=by unfold v7 dI;rw[List.find?_map];simp only[mP,KM,Option.map_map]
theorem Py{a:α}(h:(l.map f).Nodup)(J:a∈l):v7 (dI f g l) (.i (f a:f7))=bi (g a):=by
 rw[SN]
 induction l with
 |nil=>cases J
 |cons b l U=>
  simp only[aZ,bI]at h;rw[List.find?_cons];rcases aS.mp J with rfl|ha'
  .simp
  .have:f b≠f a:=λz=>h.1<|z▸aX.mpr ⟨a,ha',rfl⟩;rw[show decide (f b=f a)=eh from az this];exact U h.2 ha'
theorem KN{a:α}(h:f a∉l.map f):ub (dI f g l) (.i (f a:f7)) (g a)=dI f g (l++[a]):=by
 unfold ub;rw[aF]
 .unfold dI;rw[bT];rfl
 intro z;unfold dI at z;rw[List.any_map,km]at z;obtain⟨x,J,e⟩:=z;simp only[mP,KM,fU]at e;exact h<|aX.mpr ⟨x,J,e⟩
def KO:(dI f g l).length=l.length:=by simp[dI]
end
section
variable{kvs:fy (DK×W)}
def Aa(h:st[n]?=bi (.dct kvs)):v8 st (.loc n)=bi (n,kvs):=by simp[v8,h]
def SQ(h:st[n]?=bi (.dct kvs)):Gn st (.loc n)=bi (n,kvs):=by simp[Gn,h]
def Pz{w:W}(h:v8 st (.loc n)=bi (n,kvs))(U:v7 kvs (.i q)=bi w):uZ (.loc n) (.int q) st=.ok w st:=by simp[uZ,h,oS,U]
def SR{q:f7}{v:W}(h:st[n]?=bi (.dct kvs))(U:kvs.length<j'):Bf (.loc n) (.int q) v st=bi (st.set n<|.dct<|ub kvs (.i q) v):=by simp only[Bf,SQ h,oS];rw[ax U]
end
theorem B0{f:α->f7}{g:α->W}:∀(l acc:fy α),((acc++l).map f).Nodup->jF (dI f g acc) (dI f g l)=dI f g (acc++l)
 |[],acc,_=>by rw[dh];rfl
 |a::l,acc,h=>by show jF (ub (dI f g acc) (.i (f a:f7))<|g a) (dI f g l)=_;rw[KN,B0 l (acc++[a]) (by rw[aG];exact h),aG];rfl;intro z;rw[bT,aZ,iw]at h;exact h.2.2 _ z _ (by simp) rfl
theorem B1{f:α->f7}{g:α->W}:∀l:fy α,mW (l.map λa=>.tup [.int (f a:f7),g a])=bi (dI f g l)
 |[]=>rfl
 |a::l=>by simp[mW,B1 l];rfl
def u_(ps:fy Mc)(r:fy f7):f7->f7
 |0=>0
 |j+1=>u_ ps r j*gn ps j+r.getD j 0
def KP{ps:fy Mc}(h:my ps)(r:fy f7):u_ ps r ps.length=GT ps r:=by
 unfold GT nB;rcases h.ln with z|z
 .rw[z];simp[u_]
 rw[z];simp[u_]
def sX{s:fy al}{p:f7}{f:f7->f7}(h:s[p]?=bi (.lst<|nW<|(uP n).map f))(L:i<n):bd (.loc p) (.int i) s=.ok (.int (f i:f7)) s:=wM h (by rw[ai,bv L];rfl)
def ut{s:fy al}{p:f7}{ps:fy Mc}(h:s[p]?=bi (.lst<|ps.map Mc.w))(L:i<ps.length):bd (.loc p) (.int i) s=.ok (gM ps i).w s:=kB (aL h) (df (by rw[ai,sW L];rfl))
def uu{s:fy al}(L:i<l.length):bd (bW l) (.int i) s=.ok (.int (l.getD i 0:f7)) s:=wN<|cE 0 L
section
variable{ps:fy Mc}{tw sh:f7}
def iK(f:f7->α)(i:f7):(uP<|i+1).map f=(uP i).map f++[f i]:=by rw[fB,bT];rfl
theorem GU(h:my ps)(ht:tw<=1)(Lu:nm.length<=5)(om:nm.Pairwise (· < ·))(rS:∀M∈ps,∀c∈M.nm,c∈nm){pp pr ph:f7}(cp:st[pp]?=bi (.lst<|ps.map Mc.w))(cr:st[pr]?=bi (.lst<|(oV ps tw sh).map bW))(ch:st[ph]?=bi (.lst<|nW<|(uP<|kD ps tw).map<|hm (kD ps tw) sh)) :
  ES [.loc pp,.str nm,.loc pr,.loc ph,.int (cnt ps:f7)] st=.ok (.tup<|(KJ ps nm tw sh).map fm) st:=by
 obtain⟨m,hm'⟩:∃m,m=kD ps tw:=⟨_,rfl⟩
 have hm1:1<=m:=by rw[hm'];exact z9 h
 have hm18:m<=18:=by rw[hm'];exact z_ h ht
 have ve:nm.Nodup:=om.imp λz=>aM z;have lR:ps.length<=2:=by have:=h.ln;lia
 have hp32:2^nm.length<=32:=cf #[0] Lu;have hcn:=h.cnt;rw[<- hm']at ch;obtain⟨N,hN⟩:∃N,N=2^nm.length:=⟨_,rfl⟩
 have shN:∀s:fy al,ml (.int 1) (.int nm.length) s=.ok (.int (N:f7)) s:=λs=>by rw[hN];exact vF #[0]
 rw[<- hN]at hp32;refine f9 (N:=21) (ws:=[.loc pp,.str nm,.loc pr,.loc ph,.int (cnt ps:f7)]) (body:=Pe) ?_ (by simp only[undWs,jc,W.und];exact wL _ _);have lnh:∀s,st <+: s->b9 [.loc ph] s=.ok (.int (m:f7)) s:=λs O=>by rw[jp<|aL<|pre_get O ch];simp[nW]
 apply aH
 .exact bB (bc kn<|lnh st<|af _)
 have ec:=fV (cap:=[b0,bi 3]) (fi:=bq<|ae (ac 5) aw) (f:=cF 0) (el:=eX<|ae (e2 bd (ac 1)<|ac 0)<|ae (ac 0) aw) (ρ:=[lO pp,bi<|.str nm,lO pr,lO ph,iO (cnt ps:f7),iO (m:f7),b0,b0,b0,b0,b0,b0,b0,b0,b0,b0,b0,b0,b0,b0,b0]) (st:=st) (st1:=st)
  ((uP m).map λi=>W.tup [.int (hm m sh i:f7),.int (i:f7)]) (cS (q:=(m:hG)) kn #[0]) (by rw[bE];show _<=1000000;lia) trivial (by simp[bE]) λi w hw=>by obtain⟨L,rfl⟩:=dD hw;rw[aO]at L;rw[cI];exact{_,_,by rw[ai,bv L];rfl,rfl,iF (au (bw kv kv<|sX ch L) kn)<|aB rfl}
 have ed:=Nr (st:=st++[.lst<|(uP m).map λi=>W.tup [.int (hm m sh i:f7),.int (i:f7)]]) (n:=st.length) (kvs:=dI (hm m sh) (λi=>W.int (i:f7))<|uP m) aT (B1 _) (by rw[KO];simp;lia);rw[show jF [] (dI (hm m sh) (λi=>W.int (i:f7))<|uP m)=dI (hm m sh) (λi=>W.int (i:f7)) (uP m)from B0 (uP m) [] (z7<|av m)]at ed;apply aH
 .exact bB (bc (au ec a6) ed)
 generalize oy:st++[al.lst<|(uP m).map λi=>W.tup [.int (hm m sh i:f7),.int (i:f7)]]=s1;generalize Cu:s1++[al.dct<|dI (hm m sh) (λi=>W.int (i:f7))<|uP m]=s0;have k0:st <+: s0:=by rw[<- Cu,<- oy];exact(ag _ _).trans (ag _ _)
 have NY:s0[s1.length]?=bi (.dct<|dI (hm m sh) (λi=>W.int (i:f7))<|uP m):=by rw[<- Cu];exact aT
 have plc:∀s,s0 <+: s->∀x,x<m->uZ (.loc s1.length) (.int (x:f7)) s=.ok (.int (pl m sh x:f7)) s:=λs O x J=>by have:=Py (f:=hm m sh) (g:=λi=>W.int (i:f7)) (l:=uP m) (a:=pl m sh x) (z7<|av m)<|bN.mpr<|E8 J;rw[Pw J]at this;exact Pz (Aa<|pre_get O NY) this
 have rws:∀s,s0 <+: s->∀i,i<m->bd (.loc pr) (.int (i:f7)) s=.ok (bW<|mY ps tw sh i) s:=λs O i L=>by refine kB (aL<|pre_get (k0.trans O) cr)<|df ?_;unfold oV;rw[aN,ai,bv (by rw[<- hm'];exact L)];rfl
 apply aH
 ·(walk_at "evs")
 have ln:∀s,b9 [.str nm] s=.ok (.int nm.length) s:=λs=>jo (by show _<=1000000;lia);refine fw (λi Y s=>∃(o8 o9 o10 o11 o12 AC Hj Hi Hg Hf CA Cz Cy:hJ W),Y=[lO pp,bi<|.str nm,lO pr,lO ph,iO (cnt ps:f7),iO (m:f7),lO s1.length,lO s0.length,o8,o9,o10,o11,o12,AC,Hj,Hi,Hg,Hf,CA,Cz,Cy]/\s0 <+: s/\s[s0.length]?=bi (.lst<|((uP i).map λq=>(uP m).map λl=>(uP m).map λr=>z8 ps nm tw sh q l r).map fm))
  (cS (q:=(N:hG)) (st1:=s0++[al.lst []]) (au (bw cn (bc kn<|ln _)<|shN _) a6) #[0]) ⟨b0,b0,b0,b0,b0,b0,b0,b0,b0,b0,b0,b0,b0,rfl,ag _ _,aT⟩ (λ_ _ _ _=>trivial) ?_ ?_
 .rintro q w Y s hw ⟨o8,o9,o10,o11,o12,AC,Hj,Hi,Hg,Hf,CA,Cz,Cy,rfl,k,D⟩;obtain⟨hq,rfl⟩:=dD hw;rw[aO]at hq;refine{_,rfl,?_};rw[cI];have em:=p_ nm.reverse (by rw[i4];lia) q s;generalize hmk:mx (eD nm.reverse q)=mk at em;have hbit:∀i,i<nm.length->(nm.getD i 0∈mk↔q/2^(nm.length-1-i)%2=1):=λi L=>by have hrev:nm.reverse.Nodup:=pD.mpr<|ve.imp λh=>h.symm;have:=wQ hrev (d:=q) (i:=nm.length-1-i) (by rw[i4];lia);rw[hmk]at this;rw[<- this,aA,aA,pE #[0],show nm.length-1-(nm.length-1-i)=i by lia]
  have hlet:∀M∈ps,hU mk M.nm=Th M.nm nm q:=λM hM=>Ps {(h.ok M hM).up,rS M hM} om hbit;apply aH
  .exact bB (cC (au (KH kv (by show _<=1000000;lia)) kn) em rfl)
  have cps:=pre_get (k0.trans k) cp;have el:=fV (cap:=[b0,bi 9]) (fi:=bV<|ac 0) (f:=cF 0) (el:=c7 2 nv<|ae (e2 bd (ac 0)<|eI 0)<|ae (ac 1) aw) (ρ:=[lO pp,bi<|.str nm,lO pr,lO ph,iO (cnt ps:f7),iO (m:f7),lO s1.length,lO s0.length,iO (q:hG),bi<|.str mk,o10,o11,o12,AC,Hj,Hi,Hg,Hf,CA,Cz,Cy]) (st:=s) (st1:=s)
   (nW<|ps.map λM=>Th M.nm nm q) (gm kv<|aL cps) (by rw[aj];show _<=1000000;lia) (aL cps) (by simp[nW]) λi w hw=>by rw[ai,be]at hw;obtain⟨M,hM,rfl⟩:=hw;refine{_,_,?_,rfl,cC (au (bw kv cn rfl) kn) (og M.nm mk s) rfl};rw[hlet M<|aV hM];unfold nW;rw[aN,ai,hM];rfl
  apply aH
  .exact oU el rfl
  generalize oq:s++[al.lst<|nW<|ps.map λM=>Th M.nm nm q]=s2;have k2:s <+: s2:=by rw[<- oq];exact ag _ _
  have hlt2:s2[s.length]?=bi (.lst<|nW<|ps.map λM=>Th M.nm nm q):=by rw[<- oq];exact aT
  apply aH
  ·(walk_at "evs")
  refine fw (λi Y z=>∃(o12 AC Hj Hi Hg Hf CA Cz Cy:hJ W),Y=[lO pp,bi<|.str nm,lO pr,lO ph,iO (cnt ps:f7),iO (m:f7),lO s1.length,lO s0.length,iO (q:hG),bi<|.str mk,lO s.length,lO s2.length,o12,AC,Hj,Hi,Hg,Hf,CA,Cz,Cy]/\s2 <+: z/\z[s2.length]?=bi (.lst<|((uP i).map λl=>(uP m).map λr=>z8 ps nm tw sh q l r).map bW))
   (cS (q:=(m:hG)) (st1:=s2++[al.lst []]) kn #[0]) ⟨_,_,_,_,_,_,_,_,_,rfl,ag _ _,aT⟩ (λ_ _ _ _=>trivial) ?_ ?_
  .rintro l w Y z hw ⟨o12,AC,Hj,Hi,Hg,Hf,CA,Cz,Cy,rfl,hz,hcz⟩;obtain⟨I,rfl⟩:=dD hw;rw[aO]at I;refine{_,rfl,?_};rw[cI];apply aH
   ·(walk_at "evs")
   refine fw (λi Y y=>∃(Hj Hi Hg Hf CA Cz Cy:hJ W),Y=[lO pp,bi<|.str nm,lO pr,lO ph,iO (cnt ps:f7),iO (m:f7),lO s1.length,lO s0.length,iO (q:hG),bi<|.str mk,lO s.length,lO s2.length,iO (l:hG),lO z.length,Hj,Hi,Hg,Hf,CA,Cz,Cy]/\z <+: y/\y[z.length]?=bi (.lst<|nW<|(uP i).map λr=>z8 ps nm tw sh q l r))
    (cS (q:=(m:hG)) (st1:=z++[al.lst []]) kn #[0]) ⟨_,_,_,_,_,_,_,rfl,ag _ _,aT⟩ (λ_ _ _ _=>trivial) ?_ ?_
   .rintro r w Y y hw ⟨Hj,Hi,Hg,Hf,CA,Cz,Cy,rfl,hy,hcy⟩;obtain⟨V,rfl⟩:=dD hw;rw[aO]at V;refine{_,rfl,?_};rw[cI];have ky:s0 <+: y:=k.trans<|k2.trans<|hz.trans hy;have cpy:=pre_get (k0.trans ky) cp;have clt:=pre_get (hz.trans hy) hlt2;apply aH
    .exact bB (bw kv (bw kv kv<|plc y ky l I)<|rws y ky _<|E8 I)
    apply aH
    .exact bB (bw kv (bw kv kv<|plc y ky r V)<|rws y ky _<|E8 V)
    apply aH
    .exact bB cn
    have hL:=wS h<|pl m sh l;have hR:=wS h<|pl m sh r;have hld:=E9 h ve (q:=q) hL hR;refine fw (λi Y y'=>∃(CA Cz Cy:hJ W),Y=[lO pp,bi<|.str nm,lO pr,lO ph,iO (cnt ps:f7),iO (m:f7),lO s1.length,lO s0.length,iO (q:hG),bi<|.str mk,lO s.length,lO s2.length,iO (l:hG),lO z.length,iO (r:hG),bi<|bW<|mY ps tw sh<|pl m sh l,bi<|bW<|mY ps tw sh<|pl m sh r,iO (u_ ps (led ps nm q (mh ps<|pl m sh l)<|mh ps<|pl m sh r) i:f7),CA,Cz,Cy]/\y'=y/\u_ ps (led ps nm q (mh ps<|pl m sh l)<|mh ps<|pl m sh r) i<=100)
     (cS (q:=(ps.length:hG)) (st1:=y) (au (bc kn<|by rw[jp<|aL cpy,aj]) a6) #[0]) ⟨_,_,_,rfl,rfl,cG _⟩ (λ_ _ _ _=>trivial) ?_ ?_
    .rintro i w Y y' hw ⟨CA,Cz,Cy,rfl,rfl,hle⟩;obtain⟨L,rfl⟩:=dD hw;rw[aO]at L;refine{_,rfl,?_};rw[cI];obtain⟨t,mL,B,e2,e3,e4,e5,e6⟩:=wO (h.ms _<|lN L) (yG ve q) (hL.2 i L)<|hR.2 i L;have i0:bd (.tup<|(gM ps i).tb.map fm) (.int (Th (gM ps i).nm nm q:f7)) y'=.ok (fm t) y':=jI (df (by rw[ai,B];rfl));have il:bd (.loc s.length) (.int (i:hG)) y'=.ok (.int (Th (gM ps i).nm nm q:f7)) y':=wM clt (by rw[ai,sW L];rfl);have r1:bd (bW<|mY ps tw sh<|pl m sh l) (.int (i:hG)) y'=.ok (.int ((mh ps<|pl m sh l).getD i 0:f7)) y':=by rw[uu (by unfold mY;simp[oh h];omega)];unfold mY;rw[BZ (by rw[oh h];exact L)]
     have r2:bd (bW<|mY ps tw sh<|pl m sh r) (.int (i:hG)) y'=.ok (.int ((mh ps<|pl m sh r).getD i 0:f7)) y':=by rw[uu (by unfold mY;simp[oh h];omega)];unfold mY;rw[BZ (by rw[oh h];exact L)]
     have hv:(led ps nm q (mh ps<|pl m sh l)<|mh ps<|pl m sh r).getD i 0=(((gM ps i).tb.getD (Th (gM ps i).nm nm q) []).getD ((mh ps<|pl m sh l).getD i 0) []).getD ((mh ps<|pl m sh r).getD i 0) 0:=by unfold led;rw[DJ 0 L];rfl
     have ig:=ut cpy L;have lg:b9 [.tup<|(gM ps i).gd.map W.bl] y'=.ok (.int (gn ps i:f7)) y':=by rw[kJ,aj];rfl
     have hgn:=h.gn L;have hve:(led ps nm q (mh ps<|pl m sh l)<|mh ps<|pl m sh r).getD i 0<gn ps i:=hld.2 i L;have cm:uV ((u_ ps (led ps nm q (mh ps<|pl m sh l)<|mh ps<|pl m sh r) i:f7):hG) (gn ps i:hG):=.inr {by lia,by omega};apply aH
     .exact bB (bw (bw (bw (bw (bw kv kv ig) cn rfl) (bw kv kv il) i0) (bw kv kv r1)<|zX e3) (bw kv kv r2)<|wN e5)
     rw[<- hv];apply fZ
     .exact bB (bw (bw kv (bc (au (bw (bw kv kv ig) cn<|pZ _ _) a6) lg)<|jH cm) kv eN)
     .refine{_,_,rfl,_,_,_,by rw[<- hX,<- gj];rfl,rfl,?_};show u_ ps _ i*gn ps i+_<=100;have hi2:i<2:=by lia
      have U:u_ ps (led ps nm q (mh ps<|pl m sh l)<|mh ps<|pl m sh r) i<=3:=by
       refine Pv (P:=λi=>i<=ps.length->u_ ps (led ps nm q (mh ps<|pl m sh l)<|mh ps<|pl m sh r) i<=3) hi2 (λ_=>cG _) (λZ=>?_) #[0];have z0:=hld.2 0 (by omega);have z1:=h.gn (i:=0) (by omega);have B:∀R:fy f7,u_ ps R 1=R.getD 0 0:=λR=>by simp[u_]
       rw[B];unfold P.gn at z1;omega
      have:=cB U hgn.2
      lia
    .rintro Y y' ⟨CA,Cz,Cy,rfl,rfl,hle⟩;rw[aO,bE,KP h];have fd:pO (.int (m:f7)) (.int (cnt ps:f7)) y'=.ok (.int ((1+tw:f7):hG)) y':=by
      have e:(m:hG)/(cnt ps:hG)=((1+tw:f7):hG):=by rw[hm'];unfold kD;rw[<- Int.natCast_ediv,Nat.mul_div_cancel_left _<|by omega]
      rw[<- e];exact kg (by omega)
     have Hh:=KL (s:=sh) (tw:=tw) h ve q l r;have twi:(((l:hG)+(r:hG)+(q:hG))%((1+tw:f7):hG))=(((l+r+q)%(1+tw):f7):hG):=by simp only[Int.natCast_emod,gj]
     have hto':GT ps (led ps nm q (mh ps<|pl m sh l)<|mh ps<|pl m sh r)+cnt ps*((l+r+q)%(1+tw))=V3 ps nm tw sh q l r:=by unfold V3;rw[<- hm']
     have p0:(0:hG)<((1+tw:f7):hG):=by omega
     apply aH
     .exact bB (bw (bw (bw kv kv eN) kv eN) (bw kv kv fd)<|kg p0)
     rw[twi];have cm:uV (cnt ps:hG) (((l+r+q)%(1+tw):f7):hG):=.inl {by lia,by omega};have hix:bd (.loc ph) (.int<|(GT ps (led ps nm q (mh ps<|pl m sh l)<|mh ps<|pl m sh r):f7)+(cnt ps:hG)*(((l+r+q)%(1+tw):f7):hG)) y'=.ok (.int (z8 ps nm tw sh q l r:f7)) y':=by rw[<- hX,<- gj,hto',sX (pre_get (k0.trans ky) ch) (by rw[hm'];exact Hh)];unfold z8;rw[<- hm']
     have ap:=lM (y:=W.int (z8 ps nm tw sh q l r:f7)) hcy (by simp[nW];omega);apply fZ
     .exact iZ (rN kv (gB hcy) (au (bw kv (bw kv (bw kv kv<|jH cm) eN) hix) a6) ap)
     .refine{_,_,rfl,_,_,_,_,_,_,_,rfl,gU hy<|av _,?_};rw[i3 hcy,iK];simp[nW]
   .rintro Y y ⟨Hj,Hi,Hg,Hf,CA,Cz,Cy,rfl,hy,hcy⟩;rw[aO,bE]at hcy;have hcp:=pre_get hy hcz;have ap:=lM (y:=bW<|(uP m).map λr=>z8 ps nm tw sh q l r) hcp (by simp;omega);apply fZ
    .exact iZ (rN kv (gB hcp) (au (bc kn<|gu<|aL hcy) a6) ap)
    .refine{_,_,rfl,_,_,_,_,_,_,_,_,_,rfl,gU (hz.trans hy)<|av _,?_};rw[i3 hcp,iK];simp
  .rintro Y z ⟨o12,AC,Hj,Hi,Hg,Hf,CA,Cz,Cy,rfl,hz,hcz⟩;rw[aO,bE]at hcz;have hcp:=pre_get (k2.trans hz) D;have ap:=lM (y:=fm<|(uP m).map λl=>(uP m).map λr=>z8 ps nm tw sh q l r) hcp (by simp;omega);apply fZ
   .exact iZ (rN kv (gB hcp) (au (bc kn<|gu<|aL hcz) a6) ap)
   .refine{_,_,rfl,_,_,_,_,_,_,_,_,_,_,_,_,_,rfl,gU (k.trans<|k2.trans hz)<|av _,?_};rw[i3 hcp,iK];simp
 .rintro Y s ⟨o8,o9,o10,o11,o12,AC,Hj,Hi,Hg,Hf,CA,Cz,Cy,rfl,k,D⟩;rw[aO,bE]at D;obtain⟨x,rfl⟩:=k0.trans k;apply cH
  .exact bc kn (gu<|aL D)
  .exact{_,_,rfl,by unfold KJ;rw[<- hm',<- hN],_,rfl}
end
theorem B2{body:FS}{Q:W->fy al->Prop}(h:ia (zE λw bx=>∃x,bx=st++x/\undWs st.length [w]=eh/\Q w x) (body (ws.map bi++rn (N-ws.length) b0) st)):∃w x,Q w x/\eL N body ws st=.ok w (st++x):=by obtain⟨w,bx,e,x,rfl,D,q⟩:=h;exact{w,x,q,by rw[sK e,yw D]}
theorem wT{k j:f7}(O:k<4)(Z:j<4)(s:fy al):ik (.str<|wd k) (.str<|wd j) s=.ok (.bl<|decide<|k=j) s:=by
 obtain rfl|rfl|rfl|rfl:k=0\/k=1\/k=2\/k=3:=by lia
 all_goals
  obtain rfl|rfl|rfl|rfl:j=0\/j=1\/j=2\/j=3:=by lia
  all_goals rfl
def E_(a b:ir)(s:fy al):uW (.bl a) (.bl b) s=.ok (.bl<|a != b) s:=rfl
section
variable{k:f7}{g:fy ir}{s:fy al}{p:f7}
theorem V6(O:k<4)(Z:1<=g.length)(D:ρ[0]?=bi (bi<|.str<|wd k))(W':ρ[12]?=bi (lO p))(h:s[p]?=bi (.lst<|g.map W.bl)) :
  ∃b,(k<2->b=rR k g)/\e2 uW (e2 bd (ac 12)<|eI 0) (e2 ik (ac 0)<|eC<|.str [110,111,116]) ρ s=.ok (.bl b) s:=by
 refine{g.getD 0 eh != decide (k=1),λz=>?_,bw (bw (ef W') cn<|uN (i:=0) h #[0]) (bw (ef D) cn<|wT (j:=1) O #[0] s)<|E_ _ _ _};obtain rfl|rfl:k=0\/k=1:=by lia
 .simp[rR]
 simp[rR]
theorem PB(O:k<4)(D:ρ[0]?=bi (bi<|.str<|wd k)):Hc (fD<|e2 ik (ac 0)<|eC<|.str [97,110,100]) (fD<|e2 ik (ac 0)<|eC<|.str [111,114]) ρ s=.ok (decide<|2<=k) s:=by
 have:=wC (t:=fD<|e2 ik (ac 0)<|eC<|.str [97,110,100]) (u:=fD<|e2 ik (ac 0)<|eC<|.str [111,114]) (c_<|bw (ef D) cn<|wT (j:=2) O (by omega) s) (c_<|bw (ef D) cn<|wT (j:=3) O (by omega) s);rw[this];obtain rfl|rfl|rfl|rfl:k=0\/k=1\/k=2\/k=3:=by omega
 all_goals rfl
theorem V7(O:k<4)(B:2<=k)(r:2<=g.length)(D:ρ[0]?=bi (bi<|.str<|wd k))(W':ρ[12]?=bi (lO p))(h:s[p]?=bi (.lst<|g.map W.bl)) :
  QT (fD<|e2 ik (ac 0)<|eC<|.str [97,110,100]) (sk (e2 bd (ac 12)<|eI 0)<|e2 bd (ac 12)<|eI 1) (Il (e2 bd (ac 12)<|eI 0)<|e2 bd (ac 12)<|eI 1) ρ s=.ok (.bl<|rR k g) s:=by
 have t:=c_<|bw (ef D) cn<|wT (j:=2) O #[0] s;have J:=bw (ef W') cn<|uN (i:=0) h #[0];have z:=bw (ef W') cn<|uN (i:=1) h #[0];obtain rfl|rfl:k=2\/k=3:=by lia
 .refine Vc t ?_;show _=R.ok (W.bl<|g.getD 0 eh&&g.getD 1 eh) s;generalize g.getD 0 eh=a at J
  cases a
  .exact zC J
  exact qE J z
 refine Vd t ?_;show _=R.ok (W.bl (g.getD 0 eh||g.getD 1 eh)) s;generalize g.getD 0 eh=a at J
 cases a
 .exact Dt J z
 exact Du J
end
section
variable{ps:fy Mc}{tw sh k:f7}
theorem KQ{a b:f7}(h:0<b)(s:fy al):dE (.int (a:f7)) (.int (b:f7)) s=.ok (.int ((a%b:f7):hG)) s:=kg (show 0<(b:hG) by lia)
theorem NN{a b:f7}(h:0<b)(B:b<1000)(s:fy al):pO (.int (a:f7)) (.int (b:f7)) s=.ok (.int ((a/b:f7):hG)) s:=kg {by lia,by lia}
theorem NO(h:my ps)(O:k<4)(AB:2<=k->ps.length=2)(I:tw<=1)(Lu:nm.length<=5)(om:nm.Pairwise (· < ·))(rS:∀M∈ps,∀c∈M.nm,c∈nm){pp:f7}(cp:st[pp]?=bi (.lst<|ps.map Mc.w))(np:bM st) :
  ∃(p:f7) (x:fy al),(st++x)[p]?=bi (.lst<|(oV ps tw sh).map bW)/\bM (st++x)/\ET [.str<|wd k,.loc pp,.str nm,.int (sh:f7),.int (tw:f7)] st=.ok (.tup [(Md ps nm tw sh k).w,.loc p]) (st++x):=by
 suffices hh:ia (zE λw bx=>∃x,bx=st++x/\undWs st.length [w]=eh/\∃p,w=.tup [(Md ps nm tw sh k).w,.loc p]/\(st++x)[p]?=bi (.lst<|(oV ps tw sh).map bW)/\bM (st++x)) (Pf ([W.str<|wd k,.loc pp,.str nm,.int (sh:f7),.int (tw:f7)].map bi++rn (15-5) b0) st) by
  obtain⟨w,x,⟨p,rfl,a,b⟩,e⟩:=B2 hh;exact⟨p,x,a,b,e⟩
 obtain⟨m,hm'⟩:∃m,m=kD ps tw:=⟨_,rfl⟩
 have hm1:1<=m:=by rw[hm'];exact z9 h
 have hm18:m<=18:=by rw[hm'];exact z_ h I
 have lR:ps.length<=2:=by have:=h.ln;lia
 have hpl1:1<=ps.length:=by have:=h.ln;lia
 have hcn:=h.cnt;have hg0:=h.gn (i:=0) #[0];have gl:∀(s:fy al),st <+: s->∀(i:f7) (Y:bR),i<ps.length->Y[1]?=bi (lO pp)->aU b9 (ae (e2 bd (e2 bd (ac 1)<|eC<|.int (i:f7))<|eI 1) aw) Y s=.ok (.int (gn ps i:f7)) s:=λs d i Y L r1=>
  bc (au (bw (bw (ef r1) cn<|ut (pre_get d cp) L) cn<|pZ _ _) a6) (by rw[kJ,aj];rfl)
 have ll:∀(s:fy al),st <+: s->∀(Y:bR),Y[1]?=bi (lO pp)->fD (e2 ik (aU b9<|ae (ac 1) aw)<|eI 2) Y s=.ok (decide<|ps.length=2) s:=λs d Y r1=>
  c_ (bw (bc (au (ef r1) a6)<|jp<|aL<|pre_get d cp) cn (kA (by
   rw[aj]
   by_cases z:ps.length=2
   .rw[aR z,z];rfl
   .rw[az z,bj];lia)))
 apply aH
 .exact bB (gl st (af _) 0 _ #[0] rfl)
 refine gT (λY s=>Y=[bi<|.str<|wd k,lO pp,bi<|.str nm,iO (sh:f7),iO (tw:f7),iO (cnt ps:f7),b0,b0,b0,b0,b0,b0,b0,b0,b0]/\s=st) ?_ ?_
 .rcases h.ln with z|z
  .apply iH
   .rw[ll st (af _) _ rfl,az #[0]]
   .refine{_,_,rfl,?_,rfl};have:cnt ps=gn ps 0:=by unfold cnt nB;rw[aF #[0],mQ]
    rw[this];rfl
  .apply iG
   .rw[ll st (af _) _ rfl,aR z]
   have Wi:=h.gn (i:=1) #[0];have cm:uV (gn ps 0:hG) (gn ps 1:hG):=.inl {by lia,by lia};refine{_,_,bB<|bw kv (gl st (af _) 1 _ #[0] rfl)<|jH cm,?_,rfl};have:cnt ps=gn ps 0*gn ps 1:=by unfold cnt nB;rw[ax z]
   rw[this,hX];rfl
 rintro Y s ⟨rfl,rfl⟩;have cmc:uV (cnt ps:hG) (1+(tw:hG)):=.inl {by lia,by lia};apply aH
 .exact bB (bw kv (bw cn kv eN)<|jH cmc)
 rw[show(cnt ps:hG)*(1+(tw:hG))=(m:hG) by rw[hm'];unfold kD;rw[hX,gj];rfl];have e0:dW (ae (eI 0) aw) [bi<|.str<|wd k,lO pp,bi<|.str nm,iO (sh:f7),iO (tw:f7),iO (cnt ps:f7),iO (m:f7),b0,b0,b0,b0,b0,b0,b0,b0] s=.ok (.loc s.length) (s++[.lst<|nW [0]]):=rfl;have ec:=fV (cap:=[b0,bi 3,bi 6]) (fi:=bq<|ae (e2 tX (ac 6)<|eI 1) aw) (f:=cF 0) (el:=e2 dF (eI 1)<|e2 dE (e2 dF (ac 0)<|ac 1)<|e2 tX (ac 2)<|eI 1) (ρ:=[bi<|.str<|wd k,lO pp,bi<|.str nm,iO (sh:f7),iO (tw:f7),iO (cnt ps:f7),iO (m:f7),b0,b0,b0,b0,b0,b0,b0,b0]) (st:=s++[.lst<|nW [0]]) (st1:=s++[.lst<|nW [0]])
  (nW<|(uP<|m-1).map λi=>hm m sh<|i+1) (cS (q:=(m:hG)-1) (au (bw kv cn<|kg trivial) a6) #[0]) (by rw[bE];show _<=1000000;lia) trivial (by simp[nW,bE]) λi w Z=>by
   obtain⟨L,rfl⟩:=dD Z;rw[show((m:hG)-1).toNat=m-1 by lia]at L;rw[cI];refine{.int (hm m sh (i+1):f7),_,by unfold nW;rw[aN,ai,bv L];rfl,rfl,?_};have p0:(0:hG)<(m:hG)-1:=by lia
   have e:(1:hG)+((i:hG)+(sh:hG))%((m:hG)-1)=((hm m sh (i+1):f7):hG):=by unfold hm;rw[aF #[0],Nat.add_sub_cancel,gj,Int.natCast_emod,gj,show((m-1:f7):hG)=(m:hG)-1 by lia];rfl
   rw[<- e];exact bw cn (bw (bw kv kv eN) (bw kv cn<|kg trivial)<|kg p0) eN
 generalize oy:s++[al.lst<|nW [0]]++[al.lst<|nW<|(uP<|m-1).map λi=>hm m sh<|i+1]=D at ec;have k1:s <+: D:=by rw[<- oy];exact(ag _ _).trans (ag _ _)
 have np1':bM D:=by rw[<- oy];exact cQ (cQ np<|lh _)<|lh _
 have ea:=wB (st:=D) (n:=s.length) (m:=(s++[al.lst<|nW [0]]).length) (ws:=nW [0]) (xs:=nW<|(uP<|m-1).map λi=>hm m sh<|i+1) (by rw[<- oy];exact a7 aT) (by rw[<- oy];exact aT) (by simp[nW];show _<=1000000;lia);have hhm:nW [0]++nW ((uP<|m-1).map λi=>hm m sh<|i+1)=nW ((uP m).map<|hm m sh):=by
  obtain⟨m',rfl⟩:∃m',m=m'+1:={m-1,by lia}
  rw[jO,Nat.add_sub_cancel];unfold nW;simp only[aZ,iV,aN,List.cons_append,jh];rfl
 rw[hhm]at ea;apply aH
 .exact bB (bw e0 ec ea)
 generalize Cu:D++[al.lst<|nW<|(uP m).map<|hm m sh]=s0;have k0:s <+: s0:=by rw[<- Cu];exact k1.trans<|ag _ _
 have np0:bM s0:=by rw[<- Cu];exact cQ np1'<|lh _
 have ch:s0[D.length]?=bi (.lst<|nW<|(uP m).map<|hm m sh):=by rw[<- Cu];exact aT
 apply aH
 .exact bB (show dW aw _ s0=.ok (.loc s0.length) (s0++[.lst []])from rfl)
 apply aH
 .exact bB (show yn _ (s0++[al.lst []])=.ok (.loc (s0++[al.lst []]).length) (s0++[al.lst []]++[.dct []])from rfl)
 rw[show(s0++[al.lst []]).length=s0.length+1 by simp];refine fw (λi Y z=>∃(o10 o11 o12 AC:hJ W),Y=[bi<|.str<|wd k,lO pp,bi<|.str nm,iO (sh:f7),iO (tw:f7),iO (cnt ps:f7),iO (m:f7),lO D.length,lO s0.length,lO<|s0.length+1,o10,o11,o12,AC,b0]/\s0 <+: z/\z[s0.length]?=bi (.lst<|((uP i).map<|mY ps tw sh).map bW)/\z[s0.length+1]?=bi (.dct<|dI (hm m sh) (λi=>W.bl<|NM ps k i)<|uP i)/\bM z)
  (cS (q:=(m:hG)) (st1:=s0++[al.lst []]++[al.dct []]) kn #[0]) ⟨b0,b0,b0,b0,rfl,(ag _ _).trans<|ag _ _,a7 aT,by rw[show s0.length+1=(s0++[al.lst []]).length by simp];exact aT,cQ (cQ np0<|lh _)<|P.np1 λ_=>rfl⟩ (λ_ _ _ _=>trivial) ?_ ?_
 .rintro i w Y z Z ⟨o10,o11,o12,AC,rfl,R,cr,cg,npz⟩;obtain⟨L,rfl⟩:=dD Z;rw[aO]at L;refine{_,rfl,?_};rw[cI];have md:∀y:fy al,dE (.int (i:hG)) (.int (cnt ps:f7)) y=.ok (.int ((i%cnt ps:f7):hG)) y:=λy=>KQ #[0] y;have el1:dW (ae (e2 dE (ac 10)<|ac 5) aw) [bi<|.str<|wd k,lO pp,bi<|.str nm,iO (sh:f7),iO (tw:f7),iO (cnt ps:f7),iO (m:f7),lO D.length,lO s0.length,lO<|s0.length+1,iO (i:hG),o11,o12,AC,b0] z=.ok (.loc z.length) (z++[.lst<|nW [i%cnt ps]]):=
   ww (au (bw kv kv<|md z) a6) (aB rfl)
  apply aH
  .exact bB el1
  refine gT (λY y=>∃p,Y=[bi<|.str<|wd k,lO pp,bi<|.str nm,iO (sh:f7),iO (tw:f7),iO (cnt ps:f7),iO (m:f7),lO D.length,lO s0.length,lO<|s0.length+1,iO (i:hG),lO p,o12,AC,b0]/\z <+: y/\y[p]?=bi (.lst<|nW<|mh ps i)/\bM y) ?_ ?_
  .rcases h.ln with hl|hl
   .apply iH
    .rw[ll _ (k0.trans<|R.trans<|ag _ _) _ rfl,az #[0]]
    .refine{_,_,rfl,z.length,rfl,ag _ _,?_,cQ npz<|lh _};rw[aT];unfold mh;rw[aF #[0]]
   .apply iG
    .rw[ll _ (k0.trans<|R.trans<|ag _ _) _ rfl,aR hl]
    have Wi:=h.gn (i:=1) #[0];have g1:=λY (r:Y[1]?=bi (lO pp))=>gl (z++[.lst<|nW [i%cnt ps]]) (k0.trans<|R.trans<|ag _ _) 1 Y #[0] r;have el2:dW (ae (e2 pO (e2 dE (ac 10)<|ac 5)<|aU b9<|ae (e2 bd (e2 bd (ac 1)<|eI 1)<|eI 1) aw)<|ae (e2 dE (e2 dE (ac 10)<|ac 5)<|aU b9<|ae (e2 bd (e2 bd (ac 1)<|eI 1)<|eI 1) aw) aw) [bi<|.str<|wd k,lO pp,bi<|.str nm,iO (sh:f7),iO (tw:f7),iO (cnt ps:f7),iO (m:f7),lO D.length,lO s0.length,lO<|s0.length+1,iO (i:hG),lO z.length,o12,AC,b0] (z++[.lst<|nW [i%cnt ps]])=.ok (.loc (z++[al.lst<|nW [i%cnt ps]]).length) (z++[al.lst<|nW [i%cnt ps]]++[.lst<|nW [i%cnt ps/gn ps 1,i%cnt ps%gn ps 1]]):=
     ww (au (bw (bw kv kv<|md _) (g1 _ rfl)<|NN #[0] #[0] _)<|au (bw (bw kv kv<|md _) (g1 _ rfl)<|KQ #[0] _) a6) (aB rfl)
    refine{_,_,bB el2,_,rfl,(ag _ _).trans<|ag _ _,?_,cQ (cQ npz<|lh _)<|lh _};rw[aT];unfold mh nB;rw[ax hl,ax hl]
  rintro Y y ⟨p,rfl,hy,cpy,npy⟩;have V:=wS h i;have cpp:=pre_get (k0.trans<|R.trans hy) cp;have da:(mv (ps.map Mc.w)<|nW<|mh ps i).length=ps.length:=by rw[nh,aj];unfold nW;rw[aj,V.1];lia
  have eg:=KG (cap:=[b0,b0]) (fi:=vZ<|ae (ac 1)<|ae (ac 11) aw) (f:=A9 2<|cK (cF 0)<|cK (cF 1) kT) (el:=e2 bd (e2 bd (ac 0)<|eI 1)<|ac 1) (ρ:=[bi<|.str<|wd k,lO pp,bi<|.str nm,iO (sh:f7),iO (tw:f7),iO (cnt ps:f7),iO (m:f7),lO D.length,lO s0.length,lO<|s0.length+1,iO (i:hG),lO p,o12,AC,b0]) (st:=y) (st1:=y)
   ((mX ps<|mh ps i).map W.bl) (SD (au kv kn) (aL cpp)<|aL cpy) (by rw[da];show _<=1000000;lia) (λq hq=>by
    simp only[aS,eR,l9]at hq;rcases hq with rfl|rfl
    .exact aL cpp
    .exact aL cpy) (by rw[da];simp[mX]) λj w Z=>by
    obtain⟨x,y',J,hy',rfl⟩:=lH Z;have hj:j<ps.length:=by rw[<- da];exact(am.mp Z).1
    rw[ai,sW hj]at J;cases J
    unfold nW at hy';rw[ai,cE 0 (by rw[V.1];exact hj)]at hy';cases hy'
    refine{_,_,?_,rfl,bw (bw kv cn<|pZ _ _) kv<|jI<|df (by rw[ai,cE eh<|V.2 j hj];rfl)};unfold mX;rw[aN,ai,bv hj];rfl
  apply aH
  .exact oU eg rfl
  generalize hy1:y++[al.lst<|(mX ps<|mh ps i).map W.bl]=y1;have ky1:y <+: y1:=by rw[<- hy1];exact ag _ _
  have npy1:bM y1:=by rw[<- hy1];exact cQ npy<|lh _
  have cgd:y1[y.length]?=bi (.lst<|(mX ps<|mh ps i).map W.bl):=by rw[<- hy1];exact aT
  have hgl:(mX ps<|mh ps i).length=ps.length:=by simp[mX]
  obtain⟨b,U,eb⟩:=V6 (k:=k) (g:=mX ps<|mh ps i) (ρ:=[bi<|.str<|wd k,lO pp,bi<|.str nm,iO (sh:f7),iO (tw:f7),iO (cnt ps:f7),iO (m:f7),lO D.length,lO s0.length,lO<|s0.length+1,iO (i:hG),lO p,lO y.length,AC,b0]) O (by omega) rfl rfl cgd;apply aH
  .exact bB eb
  refine gT (λY y'=>Y=[bi<|.str<|wd k,lO pp,bi<|.str nm,iO (sh:f7),iO (tw:f7),iO (cnt ps:f7),iO (m:f7),lO D.length,lO s0.length,lO<|s0.length+1,iO (i:hG),lO p,lO y.length,bi<|.bl<|NM ps k i,b0]/\y'=y1) ?_ ?_
  .by_cases B:2<=k
   .apply iG
    .rw[PB O rfl,aR B]
    exact{_,_,bB (V7 O B (by rw[hgl];have:=AB B;omega) rfl rfl cgd),rfl,rfl}
   .apply iH
    .rw[PB O rfl,az B]
    exact{_,_,rfl,by rw[U<|by omega];rfl,rfl}
  rintro Y y' ⟨rfl,rfl⟩;have kz:z <+: y':=hy.trans ky1;have chy:=pre_get (R.trans kz) ch;have hix:=sX chy L;have cg1:=pre_get kz cg;have es:=SR (q:=hm m sh i) (v:=W.bl<|NM ps k i) cg1 (by rw[KO];simp;show _<1000000;omega);rw[KN (f:=hm m sh) (g:=λi=>W.bl<|NM ps k i) (a:=i) (by
   have:=z7 (m:=m) (s:=sh) (n:=i+1) (by omega);rw[iK,iw]at this;exact λq=>this.2.2 _ q _ (by simp) rfl),<- fB]at es
  apply aH
  .exact uJ kv kv (bw kv kv hix) es
  generalize hy2:y'.set (s0.length+1) (.dct<|dI (hm m sh) (λi=>W.bl<|NM ps k i)<|uP<|i+1)=y2;have g2:y2[s0.length+1]?=bi (.dct<|dI (hm m sh) (λi=>W.bl<|NM ps k i)<|uP<|i+1):=by rw[<- hy2];exact i3 cg1
  have old:∀{q:f7} {c:al},q≠s0.length+1->y'[q]?=bi c->y2[q]?=bi c:=λ{q c} hq e=>by rw[<- hy2,pX<|Zw hq];exact e
  have k2:s0 <+: y2:=by rw[<- hy2];exact gU (R.trans kz)<|kF _
  have npy2:bM y2:=by rw[<- hy2];exact uO npy1 λ_=>rfl
  have cr2:y2[s0.length]?=bi (.lst<|((uP i).map<|mY ps tw sh).map bW):=old (by omega)<|pre_get kz cr;have cp2:y2[p]?=bi (.lst<|nW<|mh ps i):=old (λz=>by rw[z]at cpy;have:=pre_get hy cg;rw[this]at cpy;cases cpy)<|pre_get ky1 cpy;have hix2:=sX (pre_get k2 ch) L;have er:dW (ae (e2 bd (ac 7)<|ac 10) aw) [bi<|.str<|wd k,lO pp,bi<|.str nm,iO (sh:f7),iO (tw:f7),iO (cnt ps:f7),iO (m:f7),lO D.length,lO s0.length,lO<|s0.length+1,iO (i:hG),lO p,lO y.length,bi<|.bl<|NM ps k i,b0] y2=.ok (.loc y2.length) (y2++[.lst<|nW [hm m sh i]]):=
   ww (au (bw kv kv hix2) a6) (aB rfl)
  have ead:=wB (st:=y2++[.lst<|nW [hm m sh i]]) (n:=p) (m:=y2.length) (ws:=nW<|mh ps i) (xs:=nW [hm m sh i]) (a7 cp2) aT (by simp[nW,oh h];show _<=1000000;omega);have hrw:nW (mh ps i)++nW [hm m sh i]=nW (mY ps tw sh i):=by unfold mY;rw[<- hm'];simp[nW]
  rw[hrw]at ead;have etp:bU [.loc (y2++[al.lst<|nW [hm m sh i]]).length] (y2++[al.lst<|nW [hm m sh i]]++[al.lst<|nW<|mY ps tw sh i])=.ok (bW<|mY ps tw sh i) (y2++[al.lst<|nW [hm m sh i]]++[al.lst<|nW<|mY ps tw sh i]):=gu<|aL aT;have cr3:(y2++[al.lst<|nW [hm m sh i]]++[al.lst<|nW<|mY ps tw sh i])[s0.length]?=bi (.lst<|((uP i).map<|mY ps tw sh).map bW):=a7<|a7 cr2;have ap:=lM (y:=bW<|mY ps tw sh i) cr3 (by simp;omega);apply fZ
  .exact iZ (rN kv (gB cr2) (au (bc (au (bw kv er ead) a6) etp) a6) ap)
  .refine{_,_,rfl,_,_,_,_,rfl,gU (je<|je k2)<|av _,?_,?_,uO (cQ (cQ npy2<|lh _)<|lh _) λ_=>rfl}
   .rw[i3 cr3,iK];simp
   .rw[pX<|by omega];exact a7<|a7 g2
 .rintro Y z ⟨o10,o11,o12,AC,rfl,R,cr,cg,npz⟩;rw[aO,bE]at cr cg;have em:=GU h I Lu om rS (st:=z) (pp:=pp) (pr:=s0.length) (ph:=D.length) (sh:=sh) (pre_get (k0.trans R) cp) (by unfold oV;rw[<- hm'];exact cr) (by rw[<- hm'];exact pre_get R ch);apply aH
  .exact bB (cC (au kv<|au kv<|au kv<|au kv kn) em rfl)
  have eg:=fV (cap:=[b0,bi 9]) (fi:=bq<|ae (ac 6) aw) (f:=cF 0) (el:=e2 uZ (ac 1)<|ac 0) (ρ:=[bi<|.str<|wd k,lO pp,bi<|.str nm,iO (sh:f7),iO (tw:f7),iO (cnt ps:f7),iO (m:f7),lO D.length,lO s0.length,lO<|s0.length+1,o10,o11,o12,AC,bi<|.tup<|(KJ ps nm tw sh).map fm]) (st:=z) (st1:=z)
   ((Md ps nm tw sh k).gd.map W.bl) (cS (q:=(m:hG)) kn<|by omega) (by rw[bE];show _<=1000000;lia) trivial (by simp[bE,Md,hm']) λi w Z=>by obtain⟨L,rfl⟩:=dD Z;rw[aO]at L;rw[cI];have:=Py (f:=hm m sh) (g:=λi=>W.bl<|NM ps k i) (l:=uP m) (a:=pl m sh i) (z7<|av m)<|bN.mpr<|E8 L;rw[Pw L]at this;refine{_,_,?_,rfl,bw kv kv<|Pz (Aa cg) this};unfold Md;rw[aN,ai,bv (by rw[<- hm'];exact L),<- hm'];rfl
  obtain⟨x,rfl⟩:=k0.trans R;have hle:s.length<=s0.length:=k0.length_le;apply cH
  .exact iF (au (iF (au kv<|au (bc (au eg a6)<|gu<|aL aT) kn)<|aB rfl) kn) (aB rfl)
  .refine{_,_,rfl,_,by rw[aG],?_,s0.length,rfl,?_,?_}
   .simp[undWs,W.und,hle]
   .rw[<- aG];unfold oV;rw[<- hm'];exact a7 cr
   .rw[<- aG];exact cQ npz<|lh _
end
theorem B3:∀a b:fy f7,eqWs (a.map λk=>W.int (k:f7)) (b.map λk=>W.int (k:f7))=bi (decide<|a=b)
 |[],[]=>by simp[eqWs]
 |[],_::_=>by simp[eqWs]
 |_::_,[]=>by simp[eqWs]
 |x::a,y::b=>by
  simp[eqWs,kr,B3 a b]
  by_cases h:x=y
  .subst h;simp
  .grind
def KR(a b:fy f7):kr (bW a) (bW b)=bi (decide<|a=b):=B3 a b
theorem B4(r:fy f7):∀l:fy (fy f7),rE (bW r) (l.map bW)=bi (decide<|r∈l)
 |[]=>rfl
 |a::l=>by
  simp[rE,KR,B4 r l]
  by_cases h:a=r
  .subst h;simp
  .have B:¬ r=a:=λe=>h e.symm;simp[h,B]
theorem B5:∀r:fy f7,depWs (r.map λk=>W.int (k:f7))=0
 |[]=>rfl
 |a::l=>by simp[depWs,B5 l];rfl
theorem B6:∀l:fy (fy f7),depWs (l.map bW)<=63
 |[]=>by decide
 |a::l=>by
  have:=B6 l;have e:(bW a).dep=1:=by unfold bW W.dep;rw[B5]
  simp only[aZ,depWs,e];omega
def SU{S:fy al}{r:fy f7}{l:fy (fy f7)}(h:S[n]?=bi (.lst<|l.map bW)):xj cT (bW r) (.loc n) S=.ok (.bl<|!decide (r∈l)) S:=by unfold xj;simp[h,B4,B6,qJ]
def yJ(Ms:fy Mc)(mk:fy f7)(l r:fy f7):fy f7:=(uP Ms.length).map λj=>(((gM Ms j).tb.getD (hU mk (gM Ms j).nm) []).getD (l.getD j 0) []).getD (r.getD j 0) 0
def rv(n q:f7):f7:=nb (λi=>decide<|q/2^(n-1-i)%2=1) n
def Fa(n q:f7):rv n q<2^n:=KI _ n
section
variable{Ms:fy Mc}
def Fb(z:nm.Pairwise (· < ·))(d:∀M∈Ms,Sub M.nm nm){mk:fy f7}(hm:∀i,i<nm.length->(nm.getD i 0∈mk↔q/2^(nm.length-1-i)%2=1))(l r:fy f7):yJ Ms mk l r=led Ms nm q l r:=by refine b_ λj O=>?_;unfold Pq;rw[Ps (d _<|lN<|bN.mp O) z hm]
theorem KS(z:nm.Pairwise (· < ·))(d:∀M∈Ms,Sub M.nm nm)(q:f7)(l r:fy f7):yJ Ms (mx<|eD nm q) l r=led Ms nm (rv nm.length q) l r:=by refine Fb z d (λi L=>?_) l r;rw[wQ (z.imp aM) L];unfold rv;rw[DI _ _ _ (by omega),fU,show nm.length-1-(nm.length-1-i)=i by omega]
def PC(z:nm.Pairwise (· < ·))(d:∀M∈Ms,Sub M.nm nm)(q:f7)(l r:fy f7):yJ Ms (mx<|eD nm<|rv nm.length q) l r=led Ms nm q l r:=by refine Fb z d (λi L=>?_) l r;rw[wQ (z.imp aM) L];unfold rv;rw[DI _ _ _ L,fU]
abbrev V8:FS:=(aY (bG 9<|dW aw)<|aY (gE (bq<|ae (aU b9<|ae (ac 0) aw) aw) (cF 10)<|aY (bG 11<|e2 bd (e2 bd (e2 bd (ac 0)<|ac 10)<|eI 2)<|e2 bd (ac 5)<|ac 10)<|gy<|uX dJ (ac 9)<|ae (e2 bd (e2 bd (ac 11)<|e2 bd (ac 7)<|ac 10)<|e2 bd (ac 8)<|ac 10) aw)<|jB (fD<|e2 (xj cT) (aU bU<|ae (ac 9) aw)<|ac 2) (gy<|uX dJ (ac 2)<|ae (aU bU<|ae (ac 9) aw) aw) cR)
theorem NP(qZ:rQ Ms)(h9:Ms.length<=9){mk:fy f7}{pm pt lc:f7}{s:fy al}{r:fy f7}(U:iJ Ms l)(V:iJ Ms r)(DZ:mt.length<=1000)(Wz:s[pm]?=bi (.lst<|Ms.map Mc.w))(TN:s[lc]?=bi (.lst<|nW<|Ms.map λM=>hU mk M.nm))(Ze:s[pt]?=bi (.lst<|mt.map bW))(np:bM s)
  {v1 v3 v4 v6 o9 o10 o11:hJ W}:∃(D:fy al) (p9 DV Aw:hJ W),V8 [lO pm,v1,lO pt,v3,v4,lO lc,v6,bi<|bW l,bi<|bW r,o9,o10,o11] s=.nx [lO pm,v1,lO pt,v3,v4,lO lc,v6,bi<|bW l,bi<|bW r,p9,DV,Aw] D/\bM D/\(∀q c,q≠pt->s[q]?=bi c->D[q]?=bi c)/\D[pt]?=bi (.lst<|(xI mt<|yJ Ms mk l r).map bW)/\∀I:fy al,I <+: s->I.length<=pt->I <+: D:=by
 suffices hh:ia (LF λY D=>∃p9 DV Aw:hJ W,Y=[lO pm,v1,lO pt,v3,v4,lO lc,v6,bi<|bW l,bi<|bW r,p9,DV,Aw]/\bM D/\(∀q c,q≠pt->s[q]?=bi c->D[q]?=bi c)/\D[pt]?=bi (.lst<|(xI mt<|yJ Ms mk l r).map bW)/\∀I:fy al,I <+: s->I.length<=pt->I <+: D) (V8 [lO pm,v1,lO pt,v3,v4,lO lc,v6,bi<|bW l,bi<|bW r,o9,o10,o11] s) by
  obtain⟨Y,D,e,p9,DV,Aw,rfl,a,b,c,d⟩:=hh;exact⟨D,p9,DV,Aw,e,a,b,c,d⟩
 apply aH
 .exact bB (show dW aw _ s=.ok (.loc s.length) (s++[.lst []])from rfl)
 refine fw (λi Y z=>∃(DV Aw:hJ W),Y=[lO pm,v1,lO pt,v3,v4,lO lc,v6,bi<|bW l,bi<|bW r,lO s.length,DV,Aw]/\z=s++[.lst<|nW<|(uP i).map λj=>(((gM Ms j).tb.getD (hU mk (gM Ms j).nm) []).getD (l.getD j 0) []).getD (r.getD j 0) 0])
  (cS (q:=(Ms.length:hG)) (st1:=s++[al.lst []]) (au (bc kn<|by rw[jp<|aL<|a7 Wz,aj]) a6) #[0]) ⟨_,_,rfl,rfl⟩ (λ_ _ _ _=>trivial) ?_ ?_
 .rintro j w Y z k ⟨DV,Aw,rfl,rfl⟩;obtain⟨O,rfl⟩:=dD k;rw[aO]at O;refine{_,rfl,?_};rw[cI];generalize J:s++[al.lst<|nW<|(uP j).map λj=>(((gM Ms j).tb.getD (hU mk (gM Ms j).nm) []).getD (l.getD j 0) []).getD (r.getD j 0) 0]=z;have kz:s <+: z:=by rw[<- J];exact ag _ _
  obtain⟨t,mL,R,e2,e3,e4,e5,e6⟩:=wO (qZ _<|lN O) (zZ mk (gM Ms j).nm) (U.2 j O)<|V.2 j O;have i0:bd (.tup<|(gM Ms j).tb.map fm) (.int (hU mk (gM Ms j).nm:f7)) z=.ok (fm t) z:=jI (df (by rw[ai,R];rfl));have il:bd (.loc lc) (.int (j:hG)) z=.ok (.int (hU mk (gM Ms j).nm:f7)) z:=wM (pre_get kz TN) (by rw[ai,sW O];rfl);have B:bd (bW l) (.int (j:hG)) z=.ok (.int (l.getD j 0:f7)) z:=uu (by rw[U.1];exact O);have r2:bd (bW r) (.int (j:hG)) z=.ok (.int (r.getD j 0:f7)) z:=uu (by rw[V.1];exact O);apply aH
  .exact bB (bw (bw (bw kv kv<|ut (pre_get kz Wz) O) cn rfl) (bw kv kv il) i0)
  have hcz:z[s.length]?=bi (.lst<|nW<|(uP j).map λj=>(((gM Ms j).tb.getD (hU mk (gM Ms j).nm) []).getD (l.getD j 0) []).getD (r.getD j 0) 0):=by rw[<- J];exact aT
  have ap:=lM (y:=W.int (((((gM Ms j).tb.getD (hU mk (gM Ms j).nm) []).getD (l.getD j 0) []).getD (r.getD j 0) 0:f7):hG)) hcz (by simp[nW];lia);apply fZ
  .exact iZ (rN kv (gB hcz) (au (bw (bw kv (bw kv kv B)<|zX e3) (bw kv kv r2)<|wN e5) a6) ap)
  .refine{_,_,rfl,_,_,rfl,?_};rw[<- J,iP,iK];simp[nW]
 .rintro Y z ⟨DV,Aw,rfl,rfl⟩;rw[aO,bE];generalize J:s++[al.lst<|nW<|(uP Ms.length).map λj=>(((gM Ms j).tb.getD (hU mk (gM Ms j).nm) []).getD (l.getD j 0) []).getD (r.getD j 0) 0]=z;have kz:s <+: z:=by rw[<- J];exact ag _ _
  have npz:bM z:=by rw[<- J];exact cQ np<|lh _
  have hcz:z[s.length]?=bi (.lst<|nW<|yJ Ms mk l r):=by rw[<- J];exact aT
  have et:aU bU (ae (ac 9) aw) [lO pm,v1,lO pt,v3,v4,lO lc,v6,bi<|bW l,bi<|bW r,lO s.length,DV,Aw] z=.ok (bW<|yJ Ms mk l r) z:=bc kn<|gu<|aL hcz;have cpt:=pre_get kz Ze;have tin:=c_<|bw et (ef (i:=2) rfl)<|SU cpt
  by_cases hin:yJ Ms mk l r∈mt
  .rw[aR hin]at tin;apply iH
   .exact tin
   refine{_,_,rfl,_,_,_,rfl,npz,λq c _ e=>pre_get kz e,?_,λI h0 _=>h0.trans kz};unfold xI;rw[ax hin];exact cpt
  .rw[az hin]at tin;have ap:=lM (y:=bW<|yJ Ms mk l r) cpt (by rw[aj];lia);apply iG
   .exact tin
   refine{_,_,iZ<|rN kv (gB cpt) (au et a6) ap,_,_,_,rfl,uO npz λ_=>rfl,λq c L e=>by rw[pX<|Zw L];exact pre_get kz e,?_,λI h0 Z=>gU (h0.trans kz) Z};rw[i3 cpt];unfold xI;rw[aF hin];simp
end
def YA{s:fy al}{p:f7}(h:s[p]?=bi (.lst<|mt.map bW))(L:i<mt.length):bd (.loc p) (.int (i:f7)) s=.ok (bW<|mt.getD i []) s:=kB (aL h) (df (by rw[ai,cE [] L];rfl))
theorem sY{a b:fy (fy f7)}(h:a <+: b)(L:i<a.length):b.getD i []=a.getD i []:=by obtain⟨x,rfl⟩:=h;rw[aA,aA,bu L]
def KU(mt:fy (fy f7))(r:fy f7):mt <+: xI mt r:=by
 unfold xI
 split
 .simp
 simp
structure wU(R:fy (fy f7))(z:fy f7)(mt:fy (fy f7)):Prop where
 nd:mt.Nodup
 sub:∀r∈mt,r∈R
 zero:z∈mt
theorem wU.add{R:fy (fy f7)}{z r:fy f7}(h:wU R z mt)(V:r∈R):wU R z (xI mt r):=by
 refine{?_,λa J=>?_,sV.mpr<|.inl h.zero}
 .unfold xI
  split
  .exact h.nd
  rename_i L
  rw[iw];exact{h.nd,by simp,λa J b U=>by simp at U;subst U;exact λe=>L<|e▸J}
 rcases sV.mp J with y|y
 .exact h.sub a y
 simp_all
theorem SV{R:fy (fy f7)}(L:mt.Nodup)(d:∀r∈mt,r∈R):mt.length<=R.length:=by
 induction mt generalizing R with
 |nil=>exact cG _
 |cons a l U=>
  rw[bI]at L;have J:=d a (by simp);have:=U L.2 λr V=>(List.mem_erase_of_ne<|show r≠a from λe=>L.1<|e▸V).mpr (d r<|by simp[V]);rw[mZ J]at this;have:=oJ J;simp only[cX];omega
def wU.len{R:fy (fy f7)}{z:fy f7}(h:wU R z mt):mt.length<=R.length:=SV h.nd h.sub
section
variable{Ms:fy Mc}{R:fy (fy f7)}
theorem SX(qZ:rQ Ms)(h9:Ms.length<=9)(om:nm.Pairwise (· < ·))(I:∀M∈Ms,Sub M.nm nm)(Lu:nm.length<=5)(hR:∀r∈R,iJ Ms r)(Zq:R.length<=1000)(hz:rn Ms.length 0∈R)(D:∀l∈R,∀r∈R,∀q,q<2^nm.length->led Ms nm q l r∈R)
  {st:fy al} {pm:f7} (cp:st[pm]?=bi (.lst<|Ms.map Mc.w)) (np:bM st) :
  ∃(j:f7) (x:fy al) (mt:fy (fy f7)),wU R (rn Ms.length 0) mt/\(∀l∈mt,∀r∈mt,∀q,q<2^nm.length->led Ms nm q l r∈mt)/\bM (st++x)/\(st++x)[st.length+j]?=bi (.lst<|mt.map bW)/\BO [.loc pm,.str nm] st=.ok (.loc<|st.length+j) (st++x):=by
 suffices hh:ia (zE λw bx=>∃j x,w=.loc (st.length+j)/\bx=st++x/\∃mt:fy (fy f7),wU R (rn Ms.length 0) mt/\(∀l∈mt,∀r∈mt,∀q,q<2^nm.length->led Ms nm q l r∈mt)/\bM (st++x)/\(st++x)[st.length+j]?=bi (.lst<|mt.map bW)) (Pg ([W.loc pm,.str nm].map bi++rn (12-2) b0) st) by
  obtain⟨j,x,⟨mt,a,b,c,d⟩,e⟩:=sM hh;exact⟨j,x,mt,a,b,c,d,e⟩
 have hp32:2^nm.length<=32:=cf #[0] Lu;obtain⟨N,hN⟩:∃N,N=2^nm.length:=⟨_,rfl⟩
 have shN:∀s:fy al,ml (.int 1) (.int nm.length) s=.ok (.int (N:f7)) s:=λs=>by rw[hN];exact vF #[0]
 have ln:∀s,b9 [.str nm] s=.ok (.int nm.length) s:=λs=>jo (by show _<=1000000;lia);rw[<- hN]at hp32 D
 let lm:f7->fy f7->fy f7->fy f7:=λq l r=>yJ Ms (mx<|eD nm q) l r
 have hlm:∀q l r,l∈R->r∈R->lm q l r∈R:=λq l r U V=>by show yJ Ms (mx<|eD nm q) l r∈R;rw[KS om I];exact D l U r V _ (by rw[hN];exact Fa _ _)
 have ec:=fV (cap:=[b0]) (fi:=bV<|ac 0) (f:=cF 0) (el:=eC<|.int 0) (ρ:=[lO pm,bi<|.str nm,b0,b0,b0,b0,b0,b0,b0,b0,b0,b0]) (st:=st) (st1:=st)
  (nW<|rn Ms.length 0) (gm kv<|aL cp) (by rw[aj];show _<=1000000;lia) (aL cp) (by simp[nW]) λi w hw=>by
   have L:i<Ms.length:=by have:=(am.mp hw).1;simpa using this
   exact{_,_,by unfold nW;rw[ai,dQ,ax L];rfl,rfl,cn}
 generalize Cu:st++[al.lst<|nW<|rn Ms.length 0]=s0 at ec;have k0:st <+: s0:=by rw[<- Cu];exact ag _ _
 have np0:bM s0:=by rw[<- Cu];exact cQ np<|lh _
 have hc0:s0[st.length]?=bi (.lst<|nW<|rn Ms.length 0):=by rw[<- Cu];exact aT
 have et:bU [.loc st.length] s0=.ok (bW<|rn Ms.length 0) s0:=gu<|aL hc0;apply aH
 .exact bB (ww (au (bc (au ec a6) et) a6)<|aB rfl)
 apply aH
 .exact bB cn
 refine GH (λn Y s=>∃(a:f7) (mt:fy (fy f7)) (o4 o5 o6 o7 o8 o9 o10 o11:hJ W),Y=[lO pm,bi<|.str nm,lO s0.length,iO (a:f7),o4,o5,o6,o7,o8,o9,o10,o11]/\n=R.length-a/\s0 <+: s/\s[s0.length]?=bi (.lst<|mt.map bW)/\bM s/\wU R (rn Ms.length 0) mt/\a<=mt.length/\∀i,i<a->∀k,k<a->∀q,q<N->lm q (mt.getD i []) (mt.getD k [])∈mt) R.length
  ⟨0,[rn Ms.length 0],b0,b0,b0,b0,b0,b0,b0,b0,rfl,rfl,ag _ _,aT,cQ np0<|lh _,{by simp,λr V=>by rw[a_.mp V];exact hz,by simp},cG _,λi L=>by omega⟩ ?_ ?_
 .rintro n Y s ⟨a,mt,o4,o5,o6,o7,o8,o9,o10,o11,rfl,rfl,hp,cm,nps,DZ,J,pH⟩;have tst:fD (e2 A5 (ac 3)<|aU b9<|ae (ac 2) aw) [lO pm,bi<|.str nm,lO s0.length,iO (a:f7),o4,o5,o6,o7,o8,o9,o10,o11] s=.ok (decide<|(a:hG)<(mt.length:hG)) s:=
   c_ (bw kv (bc kn<|by rw[jp<|aL cm,aj])<|lK rfl)
  by_cases hlt:a<mt.length
  .refine .inr {by rw[tst,aR #[0]],?_};have hml:=DZ.len;have hA:mt.getD a []∈mt:=aV<|cE [] hlt;refine fw (λq Y s=>∃(Cj:fy (fy f7)) (o4 o5 o6 o7 o8 o9 o10 o11:hJ W),Y=[lO pm,bi<|.str nm,lO s0.length,iO (a:f7),o4,o5,o6,o7,o8,o9,o10,o11]/\s0 <+: s/\s[s0.length]?=bi (.lst<|Cj.map bW)/\bM s/\wU R (rn Ms.length 0) Cj/\mt <+: Cj/\∀q',q'<q->∀k,k<=a->lm q' (mt.getD a []) (mt.getD k [])∈Cj/\lm q' (mt.getD k []) (mt.getD a [])∈Cj)
    (cS (q:=(N:hG)) (st1:=s) (au (bw cn (bc kn<|ln _)<|shN _) a6) #[0]) ⟨mt,_,_,_,_,_,_,_,_,rfl,hp,cm,nps,DZ,af _,λq hq=>by lia⟩ (λ_ _ _ _=>trivial) ?_ ?_
   .rintro q w Y s hw ⟨mt1,o4,o5,o6,o7,o8,o9,o10,o11,rfl,hp1,cm1,np1',hmt1,hpre1,hcl1⟩;obtain⟨hq,rfl⟩:=dD hw;rw[aO]at hq;refine{_,rfl,?_};rw[cI];have em:=p_ nm #[0] q s;have cps:=pre_get (k0.trans hp1) cp;have el:=fV (cap:=[b0,bi 1,bi 4]) (fi:=bV<|ac 0) (f:=cF 0) (el:=c7 2 nv<|ae (e2 bd (ac 0)<|eI 0)<|ae (c7 2 nu<|ae (ac 1)<|ae (ac 2) aw) aw) (ρ:=[lO pm,bi<|.str nm,lO s0.length,iO (a:f7),iO (q:hG),o5,o6,o7,o8,o9,o10,o11]) (st:=s) (st1:=s)
     (nW<|Ms.map λM=>hU (mx<|eD nm q) M.nm) (gm kv<|aL cps) (by rw[aj];show _<=1000000;lia) (aL cps) (by simp[nW]) λi w hw=>by rw[ai,be]at hw;obtain⟨M,hM,rfl⟩:=hw;refine{_,_,?_,rfl,cC (au (bw kv cn rfl)<|au (cC (au kv kn) em rfl) a6) (og M.nm _ s) rfl};unfold nW;rw[aN,ai,hM];rfl
    apply aH
    .exact oU el rfl
    generalize oq:s++[al.lst<|nW<|Ms.map λM=>hU (mx<|eD nm q) M.nm]=s2;have k2:s <+: s2:=by rw[<- oq];exact ag _ _
    have np2:bM s2:=by rw[<- oq];exact cQ np1'<|lh _
    have hlc2:s2[s.length]?=bi (.lst<|nW<|Ms.map λM=>hU (mx<|eD nm q) M.nm):=by rw[<- oq];exact aT
    have hlcne:s.length≠s0.length:=λe=>by have:=DD cm1;lia
    obtain⟨lc,hlcE⟩:∃lc,lc=s.length:=⟨_,rfl⟩
    rw[<- hlcE];refine BU (λk Y s=>∃(Cj:fy (fy f7)) (o6 o7 o8 o9 o10 o11:hJ W),Y=[lO pm,bi<|.str nm,lO s0.length,iO (a:f7),iO (q:hG),lO lc,o6,o7,o8,o9,o10,o11]/\s0 <+: s/\s[s0.length]?=bi (.lst<|Cj.map bW)/\s[lc]?=bi (.lst<|nW<|Ms.map λM=>hU (mx<|eD nm q) M.nm)/\bM s/\wU R (rn Ms.length 0) Cj/\mt1 <+: Cj/\∀k',k'<k->lm q (mt.getD a []) (mt.getD k' [])∈Cj/\lm q (mt.getD k' []) (mt.getD a [])∈Cj)
     (cS (q:=(a:hG)+1) (st1:=s2) (au (bw kv cn eN) a6) #[0]) ⟨mt1,_,_,_,_,_,_,rfl,hp1.trans k2,pre_get k2 cm1,by rw[hlcE];exact hlc2,np2,hmt1,af _,λk hk=>by lia⟩ (λ_ _ _ _=>trivial) ?_ ?_
    .rintro k w Y s3 hw ⟨mt2,o6,o7,o8,o9,o10,o11,rfl,hp3,cm3,lc3,np3,hmt3,hpre3,hcl3⟩;obtain⟨hk,rfl⟩:=dD hw;rw[show((a:hG)+1).toNat=a+1 by lia]at hk;refine{_,rfl,?_};rw[cI];have pre2:mt <+: mt2:=hpre1.trans hpre3;have G7:k<mt.length:=by lia
     have hK:mt.getD k []∈mt:=aV<|cE [] G7;have xa:bd (.loc s0.length) (.int (a:f7)) s3=.ok (bW<|mt.getD a []) s3:=by rw[YA cm3<|aQ hlt pre2.length_le,sY pre2 hlt]
     have xk:bd (.loc s0.length) (.int (k:hG)) s3=.ok (bW<|mt.getD k []) s3:=by rw[YA cm3<|aQ G7 pre2.length_le,sY pre2 G7]
     have rA:=hR _<|DZ.sub _ hA;have rK:=hR _<|DZ.sub _ hK;have hin1:=hlm q _ _ (DZ.sub _ hA)<|DZ.sub _ hK;have hin2:=hlm q _ _ (DZ.sub _ hK)<|DZ.sub _ hA;have hm2:=hmt3.len;have etp:bV (eX<|ae (eX<|ae (e2 bd (ac 2)<|ac 3)<|ae (e2 bd (ac 2)<|ac 6) aw)<|ae (eX<|ae (e2 bd (ac 2)<|ac 6)<|ae (e2 bd (ac 2)<|ac 3) aw) aw) [lO pm,bi<|.str nm,lO s0.length,iO (a:f7),iO (q:hG),lO lc,iO (k:hG),o7,o8,o9,o10,o11] s3=.ok ([.tup [bW<|mt.getD a [],bW<|mt.getD k []],.tup [bW<|mt.getD k [],bW<|mt.getD a []]],b0) s3:=by have:=iF (au (iF (au (bw (fa:=ac 2) (fb:=ac 3) (ρ:=[lO pm,bi<|.str nm,lO s0.length,iO (a:f7),iO (q:hG),lO lc,iO (k:hG),o7,o8,o9,o10,o11]) kv kv xa)<|au (bw (fa:=ac 2) (fb:=ac 6) kv kv xk) a6)<|aB rfl)<|au (iF (au (bw (fa:=ac 2) (fb:=ac 6) kv kv xk)<|au (bw (fa:=ac 2) (fb:=ac 3) kv kv xa) a6)<|aB rfl) a6)<|aB rfl;unfold bV;rw[this];rfl
     refine BU (λi Y s=>∃(Cj:fy (fy f7)) (o7 o8 o9 o10 o11:hJ W),Y=[lO pm,bi<|.str nm,lO s0.length,iO (a:f7),iO (q:hG),lO lc,iO (k:hG),o7,o8,o9,o10,o11]/\s0 <+: s/\s[s0.length]?=bi (.lst<|Cj.map bW)/\s[lc]?=bi (.lst<|nW<|Ms.map λM=>hU (mx<|eD nm q) M.nm)/\bM s/\wU R (rn Ms.length 0) Cj/\mt2 <+: Cj/\(1<=i->lm q (mt.getD a []) (mt.getD k [])∈Cj)/\(2<=i->lm q (mt.getD k []) (mt.getD a [])∈Cj))
      etp ⟨mt2,_,_,_,_,_,rfl,hp3,cm3,lc3,np3,hmt3,af _,λh=>by lia,λh=>by lia⟩ (λ_ _ _ _=>trivial) ?_ ?_
     .rintro i w Y s4 hw ⟨mt4,o7,o8,o9,o10,o11,rfl,hp4,cm4,lc4,np4,hmt4,hpre4,h41,h42⟩;have cp4:=pre_get (k0.trans hp4) cp;have hm4:=hmt4.len;have lne:lc≠s0.length:=by rw[hlcE];exact hlcne
      obtain⟨hi2,l,r,rfl,U,V,xM⟩:i<2/\∃l r,w=.tup [bW l,bW r]/\l∈R/\r∈R/\((i=0->l=mt.getD a []/\r=mt.getD k [])/\(i=1->l=mt.getD k []/\r=mt.getD a [])):=by
       match i,hw with
       |0,hw=>cases hw;exact{by lia,_,_,rfl,DZ.sub _ hA,DZ.sub _ hK,λ_=>⟨rfl,rfl⟩,λz=>by lia}
       |1,hw=>cases hw;exact{by omega,_,_,rfl,DZ.sub _ hK,DZ.sub _ hA,λz=>by omega,λ_=>⟨rfl,rfl⟩}
       |i+2,hw=>simp at hw
      refine{_,rfl,?_};obtain⟨s5,p9,DV,Aw,e5,np5,old5,cm5,pre5⟩:=NP qZ h9 (mk:=mx<|eD nm q) (hR l U) (hR r V) (by omega) cp4 lc4 cm4 np4 (v1:=bi<|.str nm) (v3:=bi<|.int (a:f7)) (v4:=bi<|.int (q:hG)) (v6:=bi<|.int (k:hG)) (o9:=o9) (o10:=o10) (o11:=o11);refine{_,_,e5,_,_,_,_,_,_,rfl,pre5 s0 hp4<|av _,cm5,old5 _ _ lne lc4,np5,hmt4.add<|hlm q l r U V,hpre4.trans<|KU _ _,λZ=>?_,λB=>?_}
      .rcases Nat.eq_zero_or_pos i with z|z
       .obtain⟨rfl,rfl⟩:=xM.1 z;exact sV.mpr<|.inr rfl
       .exact sV.mpr (.inl<|h41 z)
      .obtain⟨rfl,rfl⟩:=xM.2 (by omega);exact sV.mpr<|.inr rfl
     .rintro Y s4 ⟨mt4,o7,o8,o9,o10,o11,rfl,hp4,cm4,lc4,np4,hmt4,hpre4,h41,h42⟩;refine{_,_,rfl,mt4,_,_,_,_,_,_,rfl,hp4,cm4,lc4,np4,hmt4,hpre3.trans hpre4,λk' hk'=>?_};rcases lj k' k with z|z
      .exact{hpre4.subset (hcl3 k' z).1,hpre4.subset (hcl3 k' z).2}
      .have:k'=k:=by omega
       subst this;exact{h41 (by simp),h42<|by simp}
    .rintro Y s3 ⟨mt2,o6,o7,o8,o9,o10,o11,rfl,hp3,cm3,lc3,np3,hmt3,hpre3,hcl3⟩;rw[show((a:hG)+1).toNat=a+1 by omega,bE]at hcl3;refine{_,_,rfl,mt2,_,_,_,_,_,_,_,_,rfl,hp3,cm3,np3,hmt3,hpre1.trans hpre3,λq' hq' k hk=>?_};rcases lj q' q with z|z
     .exact{hpre3.subset (hcl1 q' z k hk).1,hpre3.subset (hcl1 q' z k hk).2}
     .have:q'=q:=by omega
      subst this;exact hcl3 k (by omega)
   .rintro Y s1 ⟨mt1,o4,o5,o6,o7,o8,o9,o10,o11,rfl,hp1,cm1,np1',hmt1,hpre1,hcl1⟩;rw[aO,bE]at hcl1;refine{_,_,bB<|bw kv cn eN,R.length-(a+1),by omega,a+1,mt1,_,_,_,_,_,_,_,_,rfl,rfl,hp1,cm1,np1',hmt1,aW hlt hpre1.length_le,λi L k hk q hq=>?_};rw[sY hpre1 (by omega),sY hpre1<|by omega];rcases lj i a with z|z
    .rcases lj k a with y|y
     .exact hpre1.subset (pH i z k y q hq)
     .have:k=a:=by omega
      subst this;exact(hcl1 q hq i<|by omega).2
    .have:i=a:=by omega
     subst this;exact(hcl1 q hq k<|by omega).1
  .exact .inl (by rw[tst,az<|by omega])
 .rintro n Y s ⟨a,mt,o4,o5,o6,o7,o8,o9,o10,o11,rfl,rfl,hp,cm,nps,DZ,J,pH⟩ hf;have tst:fD (e2 A5 (ac 3)<|aU b9<|ae (ac 2) aw) [lO pm,bi<|.str nm,lO s0.length,iO (a:f7),o4,o5,o6,o7,o8,o9,o10,o11] s=.ok (decide<|(a:hG)<(mt.length:hG)) s:=
   c_ (bw kv (bc kn<|by rw[jp<|aL cm,aj])<|lK rfl)
  rw[tst]at hf;have TQ:a=mt.length:=by injection hf with Z B;have:=of_decide_eq_false Z;omega
  obtain⟨x,rfl⟩:=k0.trans hp;have hle:st.length<=s0.length:=k0.length_le;apply cH
  .exact ef rfl
  .refine{_,_,rfl,s0.length-st.length,x,by rw[show st.length+(s0.length-st.length)=s0.length by omega],rfl,mt,DZ,λl U r V q hq=>?_,nps,by rw[show st.length+(s0.length-st.length)=s0.length by omega];exact cm};rw[<- PC om I];obtain⟨i,L,rfl⟩:=kZ U;obtain⟨k,hk,rfl⟩:=kZ V;have:=pH i (by omega) k (by omega) (rv nm.length q) (by rw[hN];exact Fa _ _);have O:mt.getD i []=mt[i]:=by rw[aA,ak L];rfl
   have e2:mt.getD k []=mt[k]:=by rw[aA,ak hk];rfl
   rw[O,e2]at this;exact this
end
def He(b:ir)(R:W->fy al->Prop)(J:bR->fy al->Prop):RS->Prop:=λr=>if b then zE R r else LF J r
section
variable{R:W->fy al->Prop}{J:bR->fy al->Prop}{P:RS->Prop}{g cN body:FS}{f:FG}{b:ir}
def SY{r:RS}(h:ia (zE R) r):ia (He cT R J) r:=h
def SZ{r:RS}(h:ia (LF J) r):ia (He eh R J) r:=h
theorem Fd(V:α->W)(Fl:α->ir)(D:∀ρ st,J ρ st->iC st ck):∀(as:fy α) (ρ:bR) (st:fy al),(∀a∈as,∀ρ st,J ρ st->∃I,f (V a) ρ=bi I/\ia (He (Fl a) R J) (body I st))->J ρ st->ia (He (as.any Fl) R J) (sA f body ck (as.map V) ρ st)
 |[],ρ,st,_,h0=>by rw[iV];unfold sA;rw[ax<|D ρ st h0];exact⟨_,_,rfl,h0⟩
 |a::as,ρ,st,hs,h0=>by
  rw[aZ];unfold sA;rw[ax<|D ρ st h0];obtain⟨I,B,h⟩:=hs a (by simp) ρ st h0;rw[B];simp
  cases U:Fl a with
  |true=>
   rw[U]at h;obtain⟨v,s,e,q⟩:=h;simp[e];exact⟨v,s,rfl,q⟩
  |false=>
   rw[U]at h;obtain⟨z,r,e,q⟩:=h;simp[e];exact Fd V Fl D as z r (λL d=>hs L<|aJ _ d) q
def qa(V:α->W)(Fl:α->ir){as:fy α}(h:fi ρ st=.ok (as.map V,ck) st1)(D:∀ρ st,J ρ st->iC st ck)(w:J ρ st1)(d:∀a∈as,∀ρ st,J ρ st->∃I,f (V a) ρ=bi I/\ia (He (Fl a) R J) (body I st)):ia (He (as.any Fl) R J) (gE fi f body ρ st):=by rw[zB h];exact Fd V Fl D as ρ st1 d w
theorem qI{R':W->fy al->Prop}{J':bR->fy al->Prop}{r:RS}(h:ia (He b R J) r)(z:∀v s,R v s->R' v s)(w:∀ρ s,J ρ s->J' ρ s):ia (He b R' J') r:=by
 cases b with
 |true=>
  obtain⟨v,s,e,q⟩:=h;exact{v,s,e,z v s q}
 |false=>
  obtain⟨ρ,s,e,q⟩:=h;exact{ρ,s,e,w ρ s q}
theorem Ab(h:ia (He b R J) (g ρ st))(B:b=cT->∀v s,R v s->P (.rt v s))(O:b=eh->∀ρ s,J ρ s->ia P (cN ρ s)):ia P (aY g cN ρ st):=by
 cases b with
 |true=>
  obtain⟨v,s,e,q⟩:=h;unfold aY ia;rw[e];exact B rfl v s q
 |false=>
  obtain⟨U,s,e,q⟩:=h;exact aH e<|O rfl _ _ q
end
noncomputable def bH(r:fy hG):W:=.tup<|r.map W.int
noncomputable def vn(r:fy f7):fy hG:=r.map λk:f7=>(k:hG)
def i_(r:fy f7):bH (vn r)=bW r:=(KF r).symm
def ny(r:fy hG):u5 (bH r)=bi (.fl r):=by unfold bH;simp[u5,sU]
noncomputable def dK(ks:fy (fy hG)):fy (KX×W):=ks.map λr=>(KX.fl r,W.bl cT)
theorem wV(r:fy hG):∀ks:fy (fy hG),mw (dK ks) (.fl r)=if r∈ks then bi (.bl cT)else b0
 |[]=>rfl
 |k::ks=>by
  rw[show dK (k::ks)=(KX.fl k,W.bl cT)::dK ks from rfl,GS,wV r ks]
  by_cases h:k=r
  .subst h;rw[ax rfl,ax<|by simp]
  .rw[aF λz=>h<|KX.fl.inj z]
   by_cases B:r∈ks
   .rw[ax B,ax<|by simp[B]]
   .rw[aF B,aF<|by simp[B,Zw h]]
noncomputable def xJ(ks:fy (fy hG))(r:fy hG):fy (fy hG):=if r∈ks then ks else ks++[r]
theorem KW(ks:fy (fy hG))(r:fy hG):we (dK ks) (.fl r) (.bl cT)=dK (xJ ks r):=by
 unfold we xJ;rw[wV]
 by_cases h:r∈ks
 .rw[ax h,ax h];unfold dK;rw[aN];refine b_ λa _=>?_;show(if KX.fl a=KX.fl r then(KX.fl a,W.bl cT)else(KX.fl a,W.bl cT))=_
  split<;>rfl
 rw[aF h,aF h];unfold dK;rw[bT];rfl
theorem B8(r:fy hG)(U:ks.length<1000000):Gq (dK ks) (.fl r)=cT:=by unfold Gq Eu;rw[cJ,cJ,fU,fU];refine⟨{by simp[KX.tag],?_},by unfold dK;rw[aj];exact U⟩;rw[bC];intro p W;obtain⟨a,_,rfl⟩:=aX.mp W;rfl
theorem Ac(ks:fy (fy hG)):Dl (dK ks)=cT:=by unfold Dl;rw[bC];intro p W;obtain⟨a,_,rfl⟩:=aX.mp W;rfl
def vo(ks:fy (fy hG)):(dK ks).map (λp=>p.1.w)=ks.map bH:=by unfold dK;rw[aN];rfl
def B9(ks:fy (fy hG))(r:fy hG):(xJ ks r).length<=ks.length+1:=by unfold xJ;split<;>simp
theorem B_{r a:fy hG}:a∈xJ ks r↔a∈ks\/a=r:=by
 unfold xJ
 split
 .rename_i h
  exact{.inl,λz=>z.elim id λe=>e▸h}
 .simp
noncomputable def wW(ks:fy (fy hG))(N:f7)(LD:f7->fy hG->fy hG->fy hG):ir:=ks.all λl=>ks.all λr=>(uP N).all λq=>decide<|LD q l r∈ks
def wX(ks:fy (fy hG))(N:f7)(LD:f7->fy hG->fy hG->fy hG):wW ks N LD=!ks.any λl=>ks.any λr=>(uP N).any λq=>!decide (LD q l r∈ks):=by unfold wW;simp[gK,Bool.not_not]
theorem GV{ks:fy (fy hG)}(I:N<=2^13)(G7:ks.length<=1000){PQ:f7}{s:fy al}{f:nt}{w0:W}(Yl:s[PQ]?=bi (.rox<|dK ks))(hm:s[m]?=bi (.pin eh f o w0))
  (We:∀l∈ks,∀r∈ks,∀q,q<N->uG bK du m [.int (q:f7),bH l,bH r] s=.ok (bH<|LD q l r) s):EO [.loc PQ,.loc m,.int (N:f7)] s=.ok (.bl<|wW ks N LD) s:=by
 have it:∀Y:bR,Y[0]?=bi (lO PQ)->iq (ac 0) Y s=.ok (ks.map bH,b0) s:=λY h=>by rw[Nq (ef h) Yl<|Ac ks,vo]
 refine um<|Ab (b:=ks.any λl=>ks.any λr=>(uP N).any λq=>!decide (LD q l r∈ks)) (R:=λv D=>v=.bl eh/\D=s) (J:=λY D=>∃o3 B z:hJ W,Y=[lO PQ,lO m,iO N,o3,B,z]/\D=s) (qa bH _ (it _ rfl) (λ_ _ _=>trivial) ⟨b0,b0,b0,rfl,rfl⟩ ?_) ?_ ?_
 .rintro l L Y D ⟨o3,B,z,rfl,rfl⟩;refine{_,rfl,qI (J:=λY O=>∃B z:hJ W,Y=[lO PQ,lO m,iO N,bi<|bH l,B,z]/\O=D) (qa bH _ (it _ rfl) (λ_ _ _=>trivial) ⟨_,_,rfl,rfl⟩ ?_) (λ_ _ h=>h) (λY s zz=>by obtain⟨B,z,e,e2⟩:=zz;exact ⟨_,_,_,e,e2⟩)};rintro r V Y O ⟨B,z,rfl,rfl⟩;refine{_,rfl,qI (J:=λY s=>∃z:hJ W,Y=[lO PQ,lO m,iO N,bi<|bH l,bi<|bH r,z]/\s=O) (qa (λk:f7=>W.int<|0+k) _ (cS (q:=N) kn #[0]) (λ_ _ _=>trivial) ⟨_,rfl,rfl⟩ ?_) (λ_ _ h=>h) (λY s zv=>by obtain⟨z,e,e2⟩:=zv;exact ⟨_,_,e,e2⟩)};rintro q Z Y s ⟨z,rfl,rfl⟩;refine{_,rfl,?_};have d:pe cT (bH<|LD q l r) (.loc PQ) s=.ok (.bl<|!decide (LD q l r∈ks)) s:=by
   rw[OD Yl (ny _)<|B8 _ #[0],wV]
   by_cases h:LD q l r∈ks
   .rw[ax h,aR h];rfl
   rw[aF h,az h];rfl
  have w:fD (e2 (pe cT) (uf 1 3 bK du<|ae (ac 5)<|ae (ac 3)<|ae (ac 4) aw)<|ac 0) [lO PQ,lO m,iO N,bi<|bH l,bi<|bH r,bi<|.int<|0+q] s=.ok (!decide (LD q l r∈ks)) s:=by rw[cI];exact c_<|bw (No rfl hm (au kv<|au kv kn) rfl (We l L r V q<|bN.mp Z)) kv d
  cases U:(!decide (LD q l r∈ks))with
  |true=>
   exact iG (w.trans<|by rw[U]) ⟨_,_,rfl,rfl,rfl⟩
  |false=>
   exact iH (w.trans<|by rw[U]) ⟨_,_,rfl,_,rfl,rfl⟩
 .rintro U v D ⟨rfl,rfl⟩;refine{_,_,rfl,?_,rfl};rw[wX,U];rfl
 rintro U Y D ⟨o3,B,z,rfl,rfl⟩;refine{_,_,rfl,?_,rfl};rw[wX,U];rfl
noncomputable def lP(r:fy hG):fy f7:=r.map Int.toNat
def xK(Ms:fy Mc)(r:fy hG):ir:=(uP Ms.length).all λi=>decide (0<=r.getD i 0)&&decide (r.getD i 0<(gM Ms i).gd.length)
def uv(k:f7)(ps:fy Mc)(M:Mc)(r:fy hG):ir:=M.gd.getD ((lP r).getD ps.length 0) eh==rR k (mX ps<|lP r)
def LG(Ms:fy Mc)(nm:fy f7)(q:f7)(l r:fy hG):fy hG:=vn<|led Ms nm q (lP l)<|lP r
def oW(k:f7)(ps:fy Mc)(M:Mc)(nm:fy f7)(rows:fy (fy hG)):ir:=
 rows.all (xK<|ps++[M])&&(decide (rn (ps.length+1) 0∈rows)&&(rows.all (uv k ps M)&&wW rows (2^nm.length) (LG (ps++[M]) nm)))
theorem Ad(r:fy f7):lP (vn r)=r:=by unfold lP vn;rw[aN];exact(b_ λa _=>aO a).trans (fO _)
def KY{r:fy hG}(i:f7):(lP r).getD i 0=(r.getD i 0).toNat:=by
 unfold lP;rw[aA,ai,aA]
 cases r[i]?<;>rfl
theorem DL{Ms:fy Mc}{r:fy hG}(U:r.length=Ms.length)(h:xK Ms r=cT):iJ Ms (lP r)/\vn (lP r)=r:=by
 have I:∀i,i<Ms.length->0<=r.getD i 0/\r.getD i 0<(gM Ms i).gd.length:=λi L=>by have:=bC.mp h i<|bN.mpr L;simpa using this
 refine⟨{by rw[<- U];simp[lP],λi L=>?_},?_⟩
 .have:=I i L;rw[KY];lia
 unfold vn lP;rw[aN];refine(b_ λa J=>?_).trans (fO _);obtain⟨i,L⟩:=fg J;have z:=(am.mp L).1;have:=I i #[0];rw[aA,L]at this;show a.toNat=a;have V:0<=a:=this.1
 lia
def Ae{F:α->ir}{a b:fy α}(h:∀r,r∈a↔r∈b):a.all F=b.all F:=by rw[kQ,bC,bC];exact{λz r V=>z r<|(h r).mpr V,λz r V=>z r<|(h r).mp V}
theorem KZ{a b:fy (fy hG)}(h:∀r,r∈a↔r∈b):wW a N LD=wW b N LD:=by
 unfold wW;rw[Ae h]
 congr 1
 funext l
 rw[Ae h]
 congr 1
 funext r
 congr 1
 funext q
 rw[nG];exact h _
def GW{z:FE}{st2 L:fy al}{x y:W}(Z:fa ρ st=.ok x st1)(B:fb ρ st1=.ok y st2)(Y:f x y st2=.ok (.bl eh) L):rG f f' fa fb z ρ st=.ok (.bl eh) L:=by unfold rG;rw[Z];simp only[R.bind_ok];rw[B];simp only[R.bind_ok];rw[Y];rfl
theorem GX(M:Mc)(z:hG)(st:fy al):Ku [M.w,.int z] st=.ok (.bl<|decide (0<=z)&&decide (z<M.gd.length)) st:=by
 have w:b9 [.tup<|M.gd.map W.bl] st=.ok (.int M.gd.length) st:=by rw[kJ,aj]
 refine um (N:=2) (ws:=[M.w,.int z]) (body:=VP) ?_
 by_cases h:0<=z
 .rw[aR h];apply cH
  .exact GR cn kv (JD<|aR h) (bc (au (bw kv cn<|pZ _ _) a6) w) (lK (k:=decide<|z<(M.gd.length:hG)) rfl)
  .exact{_,_,rfl,by rw[ic],rfl}
 .rw[az h];apply cH
  .exact GW cn kv (JD<|az h)
  .exact⟨_,_,rfl,rfl,rfl⟩
theorem K0{Ms:fy Mc}{r:fy hG}(U:r.length=Ms.length)(I:Ms.length<=1000)(st:fy al):BL [.tup<|Ms.map Mc.w,bH r] st=.ok (.bl<|xK Ms r) st:=by
 have D:(mv (Ms.map Mc.w)<|r.map W.int).length=Ms.length:=by rw[nh,aj,aj,U];lia
 let F:f7->ir:=λi=>decide (0<=r.getD i 0)&&decide (r.getD i 0<(gM Ms i).gd.length)
 have Y:=fV (cap:=[b0,b0]) (fi:=rJ<|ae (ac 0)<|ae (ac 1) aw) (f:=A9 2<|cK (cF 0)<|cK (cF 1) kT) (el:=c7 2 Ku<|ae (ac 0)<|ae (ac 1) aw) (ρ:=[bi<|.tup<|Ms.map Mc.w,bi<|bH r]) (st:=st) (st1:=st)
  (((uP Ms.length).map F).map W.bl) (Pp<|au kv kn) (by rw[D];show _<=1000000;lia) trivial (by rw[D];simp) λi w Z=>by
   obtain⟨x,y,J,B,rfl⟩:=lH Z;have L:i<Ms.length:=by rw[<- D];exact(am.mp Z).1
   rw[ai,sW L]at J;cases J
   rw[ai,cE 0 #[0]]at B;cases B
   exact{_,_,by rw[aN,ai,bv L];rfl,rfl,cC (au kv kn) (GX _ _ st) rfl}
 have V:=OE (l:=(uP Ms.length).map F) (st:=st++[.lst<|((uP Ms.length).map F).map W.bl]) (n:=st.length)<|aL aT;rw[show((uP Ms.length).map F).all id=xK Ms r by rw[tJ];rfl]at V;refine f9 (N:=2) (ws:=[.tup<|Ms.map Mc.w,bH r]) (body:=O_) ?_ rfl;apply cH
 .exact bc (au Y a6) V
 .exact⟨_,_,rfl,rfl,_,rfl⟩
theorem S7{k:f7}(O:k<4){ps:fy Mc}{M:Mc}{r:fy hG}(Z:1<=ps.length)(B:2<=k->2<=ps.length)(I:ps.length<=1000)(V:iJ (ps++[M]) (lP r))(L:vn (lP r)=r)(st:fy al) :
  yD [.str<|wd k,.tup<|ps.map Mc.w,M.w,bH r] st=.ok (.bl<|uv k ps M r) st:=by
 rw[<- L,i_];unfold uv;rw[Ad];generalize lP r=r at V;have d:r.length=ps.length+1:=by rw[V.1];simp
 have J:=BW (ps:=ps) (r:=r) #[0] I (λi L=>by have:=V.2 i (by simp;lia);rwa[DG L]at this) st;have U:(mX ps r).length=ps.length:=by simp[mX]
 have w:=E6 O (g:=mX ps r) #[0] (λz=>by have:=B z;lia) (s:=st++[.lst<|(mX ps r).map W.bl]) aT;have Y:r.getD ps.length 0<M.gd.length:=by have:=V.2 ps.length (by simp);rwa[z5]at this
 have R:bd (.tup<|M.gd.map W.bl) (.int (r.getD ps.length 0:f7)) st=.ok (.bl<|M.gd.getD (r.getD ps.length 0) eh) st:=jI (df (by rw[ai,cE eh Y];rfl));refine f9 (N:=4) (ws:=[.str<|wd k,.tup<|ps.map Mc.w,M.w,bW r]) (body:=Kv) ?_ rfl;apply cH
 .exact bw (bw (bw kv cn<|pZ _ _) (bw kv (yy cn)<|E7 d _) R) (cC (au kv<|au (cC (au kv kn) J rfl) a6) w rfl) (EK rfl)
 .exact⟨_,_,rfl,rfl,_,rfl⟩
theorem K3{rows:fy W}{nm:fy f7}(U:rows.length<=1000)(Wy:nm.length<=14)(st:fy al):Ny [.tup rows,.str nm] st=if 13<nm.length\/40000<rows.length*rows.length*2^nm.length then .ex "TooGreat" st else .ok .non st:=by
 have w:b9 [.str nm] st=.ok (.int nm.length) st:=jo (by show _<=1000000;lia);have TJ:b9 [.tup rows] st=.ok (.int rows.length) st:=by rw[kJ]
 by_cases h:13<nm.length
 .rw[ax<|.inl h];exact zH (dC (c_<|bw (bc kn w) cn<|lK<|aR #[0])<|xC {_,_,rfl,[],by simp})
 have e:=NE rows.length nm U #[0] st;generalize rows.length*rows.length*2^nm.length=k at e
 by_cases B:40000<k
 .rw[ax<|.inr B];refine zH<|cM (c_<|bw (bc kn w) cn<|lK<|az #[0]) ?_;apply eA;exact iG (c_<|bw (cC (au (bc kn TJ) kn) e rfl) cn<|lK<|aR #[0]) (GI {_,_,rfl,[],by simp})
 rw[aF #[0]];refine JF<|cM (c_<|bw (bc kn w) cn<|lK<|az #[0]) ?_;apply eA;exact iH (c_<|bw (cC (au (bc kn TJ) kn) e rfl) cn<|lK<|az #[0]) (fZ Dv<|{_,_,rfl,[],by simp})
def V9(n:f7):W.tup (rn n [W.int 0]).flatten=bH (rn n 0):=by rw[mul_zero,<- i_];unfold vn;rw[List.map_replicate];rfl
theorem Fe{fe:FE}(h:fe ρ st=.ok (.loc n) st1)(h1:st1[n]?=bi (.dcx kvs)\/st1[n]?=bi (.rox kvs)\/st1[n]?=bi (.dct [])/\kvs=[])(B:Dl kvs=cT):iq fe ρ st=.ok (kvs.map<|λp=>p.1.w,b0) (st1.set n<|.rox kvs):=by
 have e:Dr st1 (.loc n)=bi (n,kvs):=by rcases h1 with h1|h1|⟨h1,rfl⟩<;>simp[Dr,h1]
 unfold iq;rw[h];simp;rw[e];simp only;rw[ax B]
theorem K4{k:f7}(O:k<4){ps:fy Mc}{M:Mc}(qZ:rQ (ps++[M]))(Z:1<=ps.length)(B:2<=k->2<=ps.length)(h9:ps.length<=9)
  (mj:kW (fF<|ps++[M])=nm) (PN:∀c∈fF (ps++[M]),c∈LL) (xO:(fF<|ps++[M]).length<4000) (Ya:nm.length<=14) (mi:rows.length<=1000) (da:∀r∈rows,r.length=ps.length+1) {st:fy al} (np:bM st) (ht:st[1]?=bi SC) :
  EQ [.str<|wd k,.tup<|ps.map Mc.w,M.w,.tup<|rows.map bH] st=if 13<nm.length\/40000<rows.length*rows.length*2^nm.length then .ex "TooGreat" st else .ok (.bl<|oW k ps M nm rows) st:=by
 have ve:nm.Nodup:=by rw[<- mj];exact(m_ _).imp λh=>aM h
 obtain⟨Ms,hMe⟩:∃Ms,Ms=ps++[M]:=⟨_,rfl⟩
 have hMw:(ps.map Mc.w)++[M.w]=Ms.map Mc.w:=by rw[hMe,bT];rfl
 have hml:Ms.length=ps.length+1:=by rw[hMe];simp
 unfold oW;rw[<- hMe]at qZ mj PN xO ⊢;have ead:dF (.tup<|ps.map Mc.w) (.tup [M.w]) st=.ok (.tup<|Ms.map Mc.w) st:=by rw[<- hMw];exact Rz (by simp only[aI,aj];show _<=1000000;simp;lia)
 have ec:=fV (cap:=[b0]) (fi:=bV<|ac 4) (f:=cF 0) (el:=e2 bd (ac 0)<|eI 0) (ρ:=[bi<|.str<|wd k,bi<|.tup<|ps.map Mc.w,bi M.w,bi<|.tup<|rows.map bH,bi<|.tup<|Ms.map Mc.w,b0,b0,b0]) (st:=st) (st1:=st) (ws:=Ms.map Mc.w) (ck:=b0)
  ((Ms.map Mc.nm).map W.str) rfl (by rw[aj];show _<=1000000;lia) trivial (by simp) λi w d=>by rw[ai,be]at d;obtain⟨M',hM',rfl⟩:=d;exact{_,_,by rw[aN,ai,hM'];rfl,rfl,bw kv cn rfl}
 have ej:=rO (sep:=[]) (ls:=Ms.map Mc.nm) (st:=st++[.lst<|(Ms.map Mc.nm).map W.str]) (n:=st.length) (aL aT) (by rw[wP];have:(fF Ms).length<4000:=xO;unfold fF at this;show _<=1000000;simp only[fz,tO,tP,jP];lia);rw[j_]at ej;have eo:=KD (l:=fF Ms) xO PN<|st++[.lst<|(Ms.map Mc.nm).map W.str];rw[mj]at eo;have el:=K3 (rows:=rows.map bH) (nm:=nm) (by rw[aj];exact mi) Ya<|st++[.lst<|(Ms.map Mc.nm).map W.str];rw[aj]at el
 by_cases J:13<nm.length\/40000<rows.length*rows.length*2^nm.length
 .rw[ax J]at el ⊢;refine zH (N:=8) (ws:=[.str<|wd k,.tup<|ps.map Mc.w,M.w,.tup<|rows.map bH]) (body:=Kw) ?_;apply aH
  .exact bB (bw kv (iF kn<|aB rfl) ead)
  apply aH
  .exact bB (cC (au (zD cn rfl (au ec a6) ej) a6) eo rfl)
  exact Dy (GJ<|BF (au kv kn) el rfl) ⟨_,_,rfl,_,rfl⟩
 rw[aF J]at el ⊢;have Wy:nm.length<=13:=by lia
 refine f9 (N:=8) (ws:=[.str<|wd k,.tup<|ps.map Mc.w,M.w,.tup<|rows.map bH]) (body:=Kw) ?_ rfl;apply aH
 .exact bB (bw kv (iF kn<|aB rfl) ead)
 apply aH
 .exact bB (cC (au (zD cn rfl (au ec a6) ej) a6) eo rfl)
 generalize oy:st++[al.lst<|(Ms.map Mc.nm).map W.str]=D at el;have np1':bM D:=by rw[<- oy];exact cQ np<|lh _
 have k1:st <+: D:=by rw[<- oy];exact ag _ _
 apply aH
 .exact iZ (cC (au kv kn) el rfl)
 apply aH
 .exact bB (show yn _ D=.ok (.loc D.length) (D++[.dct []])from rfl)
 refine fw (λi Y s=>∃(ks:fy (fy hG)) (o7:hJ W),Y=[bi<|.str<|wd k,bi<|.tup<|ps.map Mc.w,bi M.w,bi<|.tup<|rows.map bH,bi<|.tup<|Ms.map Mc.w,bi<|.str nm,lO D.length,o7]/\(s=D++[.dcx<|dK ks]\/s=D++[.dct []]/\ks=[])/\ks.length<=i/\∀r,r∈ks↔r∈rows.take i)
  (k:=(rows.map bH,b0)) (st1:=D++[.dct []]) rfl ⟨[],b0,rfl,.inr ⟨rfl,rfl⟩,av _,by simp⟩ (λ_ _ _ _=>trivial) ?_ ?_
 .rintro i w Y s d ⟨ks,o7,rfl,hs',G7,hks⟩;rw[ai,be]at d;obtain⟨r,V,rfl⟩:=d;have L:i<rows.length:=(am.mp V).1;refine{_,rfl,?_};have I:j4 s (.loc D.length)=bi (D.length,dK ks):=by rcases hs' with rfl|⟨rfl,rfl⟩<;>simp only[j4,aT]<;>rfl
  have xM:s.set D.length (.dcx<|we (dK ks) (KX.fl r)<|.bl cT)=D++[.dcx<|dK<|xJ ks r]:=by rw[KW];rcases hs' with rfl|⟨rfl,rfl⟩<;>rw[iP]<;>rfl
  have ep:=JK (v:=.bl cT) I (ny r)<|B8 r #[0];rw[xM]at ep;apply fZ
  .exact uJ cn kv kv ep
  .refine{_,_,rfl,xJ ks r,_,rfl,.inl rfl,?_,λa=>?_}
   .have:=B9 ks r;lia
   .rw[B_,hks,nw V,bD,a_]
 .rintro Y s ⟨ks,o7,rfl,hs',G7,hks⟩;rw[aj]at G7 hks;rw[gH]at hks;have hc0:s[D.length]?=bi (.dcx<|dK ks)\/s[D.length]?=bi (.rox<|dK ks)\/s[D.length]?=bi (.dct [])/\dK ks=[]:=by
   rcases hs' with rfl|⟨rfl,rfl⟩
   .exact .inl aT
   .exact .inr (.inr ⟨aT,rfl⟩)
  have xM:s.set D.length (.rox<|dK ks)=D++[.rox<|dK ks]:=by rcases hs' with rfl|⟨rfl,rfl⟩<;>rw[iP]<;>rfl
  have it0:=Fe (fe:=ac 6) (ρ:=[bi<|.str<|wd k,bi<|.tup<|ps.map Mc.w,bi M.w,bi<|.tup<|rows.map bH,bi<|.tup<|Ms.map Mc.w,bi<|.str nm,lO D.length,o7]) (st:=s) kv hc0<|Ac ks;rw[vo,xM]at it0;generalize oq:D++[al.rox<|dK ks]=s2 at it0;have AB:s2[D.length]?=bi (.rox<|dK ks):=by rw[<- oq];exact aT
  have k2:D <+: s2:=by rw[<- oq];exact ag _ _
  have np2:bM s2:=by rw[<- oq];exact cQ np1'<|P.np1 λ_=>rfl
  have allis:∀(F:fy hG->ir) (cap:fy (hJ f7)) (el:FE) (Y:bR) (s0 s:fy al),iq (ac 6) Y s0=.ok (ks.map bH,b0) s->(∀r∈rows,el ((kc cap Y).set 0<|bi<|bH r) s=.ok (.bl<|F r) s) ->
    aU zf (ae (cb cap (iq<|ac 6) (cF 0) d_ el) aw) Y s0=.ok (.bl<|rows.all F) (s++[.lst<|(ks.map F).map W.bl]):=λF cap el Y s0 s it h=>by
   have ec:=fV (cap:=cap) (fi:=iq<|ac 6) (f:=cF 0) (el:=el) (ρ:=Y) (st:=s0) (st1:=s) ((ks.map F).map W.bl) it (by rw[aj];show _<=1000000;lia) trivial (by simp) λi w d=>by rw[ai,be]at d;obtain⟨r,V,rfl⟩:=d;exact{_,_,by rw[aN,ai,V];rfl,rfl,h r<|(hks r).mp<|aV V}
   have ea:=OE (l:=ks.map F) (st:=s++[.lst<|(ks.map F).map W.bl]) (n:=s.length)<|aL aT;rw[show(ks.map F).all id=rows.all F by rw[tJ];exact Ae hks]at ea;exact bc (au ec a6) ea
  have hlen':∀r∈rows,r.length=Ms.length:=λr V=>by rw[hml];exact da r V
  have a1:=allis (xK Ms) [b0,bi 4] (c7 2 BL<|ae (ac 1)<|ae (ac 0) aw) _ _ _ it0 λr V=>cC (au kv kn) (K0 (hlen' r V) #[0] s2) rfl
  cases hin:rows.all (xK Ms)with
  |false=>
   rw[hin]at a1;apply dC
   .exact yx (c_ a1) rfl
   apply dg
   .exact cn
   .obtain⟨x,e⟩:=k1.trans k2;exact{_,_,rfl,rfl,x++[.lst<|(ks.map<|xK Ms).map W.bl],by rw[<- e,aG]}
  |true=>
  rw[hin]at a1;have Cr:∀r∈rows,iJ Ms (lP r)/\vn (lP r)=r:=λr V=>DL (hlen' r V)<|bC.mp hin r V;apply cM
  .exact yx (c_ a1) rfl
  apply eA;generalize hs3:s2++[al.lst<|(ks.map<|xK Ms).map W.bl]=s3;have hk3:s3[D.length]?=bi (.rox<|dK ks):=by rw[<- hs3];exact a7 AB
  have k3:s2 <+: s3:=by rw[<- hs3];exact ag _ _
  have np3:bM s3:=by rw[<- hs3];exact cQ np2<|lh _
  have ln:b9 [.tup<|Ms.map Mc.w] s3=.ok (.int ((ps.length+1:f7):hG)) s3:=by rw[kJ,aj,hml]
  have em:=RG (ws:=[W.int 0]) (k:=ps.length+1) (st:=s3) (by simp) #[0] (by simp;lia);rw[V9]at em;have ei:pe cT (bH<|rn (ps.length+1) 0) (.loc D.length) s3=.ok (.bl<|!decide (rn (ps.length+1) (0:hG)∈rows)) s3:=by
   rw[OD hk3 (ny _)<|B8 _ #[0],wV]
   by_cases h:rn (ps.length+1) (0:hG)∈rows
   .rw[ax<|(hks _).mpr h,aR h];rfl
   .rw[aF λz=>h<|(hks _).mp z,az h];rfl
  have t0:fD (e2 (pe cT) (e2 yu (eX<|ae (eI 0) aw)<|aU b9<|ae (ac 4) aw)<|ac 6) [bi<|.str<|wd k,bi<|.tup<|ps.map Mc.w,bi M.w,bi<|.tup<|rows.map bH,bi<|.tup<|Ms.map Mc.w,bi<|.str nm,lO D.length,o7] s3=.ok (!decide (rn (ps.length+1) (0:hG)∈rows)) s3:=
   c_ (bw (bw (iF (au cn a6)<|aB rfl) (bc kn ln) em) kv ei)
  cases hz:decide (rn (ps.length+1) (0:hG)∈rows)with
  |false=>
   rw[hz]at t0;apply dC
   .exact t0
   apply dg
   .exact cn
   .obtain⟨x,e⟩:=k1.trans<|k2.trans k3;exact{_,_,rfl,rfl,x,e.symm}
  |true=>
  rw[hz]at t0;apply cM
  .exact t0
  apply eA;have it3:=Fe (fe:=ac 6) (ρ:=[bi<|.str<|wd k,bi<|.tup<|ps.map Mc.w,bi M.w,bi<|.tup<|rows.map bH,bi<|.tup<|Ms.map Mc.w,bi<|.str nm,lO D.length,o7]) (st:=s3) kv (.inr<|.inl hk3)<|Ac ks;rw[vo,sH hk3]at it3;have a2:=allis (uv k ps M) [b0,bi 0,bi 1,bi 2] (c7 4 yD<|ae (ac 1)<|ae (ac 2)<|ae (ac 3)<|ae (ac 0) aw) _ _ _ it3 λr V=>cC (au kv<|au kv<|au kv kn) (S7 O Z B #[0] (by rw[<- hMe];exact(Cr r V).1) (Cr r V).2 s3) rfl
  cases hsy:rows.all (uv k ps M)with
  |false=>
   rw[hsy]at a2;apply dC
   .exact yx (c_ a2) rfl
   apply dg
   .exact cn
   .obtain⟨x,e⟩:=k1.trans<|k2.trans k3;exact{_,_,rfl,rfl,x++[.lst<|(ks.map<|uv k ps M).map W.bl],by rw[<- e,aG]}
  |true=>
  rw[hsy]at a2;apply cM
  .exact yx (c_ a2) rfl
  apply eA;generalize hs4:s3++[al.lst<|(ks.map<|uv k ps M).map W.bl]=s4;have hk4:s4[D.length]?=bi (.rox<|dK ks):=by rw[<- hs4];exact a7 hk3
  have k4:s3 <+: s4:=by rw[<- hs4];exact ag _ _
  have np4:bM s4:=by rw[<- hs4];exact cQ np3<|lh _
  have es:=NJ (Ms:=Ms) (nm:=nm) qZ ve Wy #[0] (st:=s4) (pre_get (k1.trans<|k2.trans<|k3.trans k4) ht);generalize hs5:s4++[al.lst<|Ms.map<|BV nm]=s5 at es;have hk5:s5[D.length]?=bi (.rox<|dK ks):=by rw[<- hs5];exact a7 hk4
  have ht5:s5[s4.length]?=bi (.lst<|Ms.map<|BV nm):=by rw[<- hs5];exact aT
  have np5:bM s5:=by rw[<- hs5];exact cQ np4<|lh _
  have Ci:st <+: s5:=by rw[<- hs5];exact k1.trans<|k2.trans<|k3.trans<|k4.trans<|ag _ _
  obtain⟨x,rfl⟩:=Ci;refine cH (RD (st1:=s4) (st2:=s4) kv (au kv kn) rfl es (RC _ _ _ _ _ _) (w:=.bl<|wW rows (2^nm.length)<|LG Ms nm) rfl λf o os ok hos=>?_) {_,_,rfl,by simp only[ic],_,rfl};obtain⟨cl,kH,pm,cd,ct,J,hcn,rfl⟩:=ok;generalize R:ZZ "lead" "side_by_side.<locals>.lead" (fH eZ) (eS eZ) (aK eZ) cl kH pm cd ct=o at hos ⊢;have hok:bK o:={cl,kH,pm,cd,ct,J,hcn,R.symm}
  have hclo:jn o=cl:=by rw[<- R];rfl
  have pH:cl.length=1:=by have:=eJ ZH J;rw[aj]at this;exact this
  rw[hclo]at hos ⊢;have hz1:=RA (C:=cl) (os:=os) (cws:=[W.loc s4.length]) hos (by rw[pH];rfl);have hz2:=RB (C:=cl) (os:=os) (cws:=[W.loc s4.length]) hos (by rw[pH];rfl);generalize k_ cl os [W.loc s4.length]=Lz at hz1 hz2;generalize hs6:(st++x)++[al.pin eh f o .non]=s6;have np6:bM s6:=by rw[<- hs6];exact cQ np5<|P.np1 λ_=>rfl
  have hm6:s6[(st++x).length]?=bi (.pin eh f o .non):=by rw[<- hs6];exact aT
  have hk6:s6[D.length]?=bi (.rox<|dK ks):=by rw[<- hs6];exact a7 hk5
  have ht6:s6[s4.length]?=bi (.lst<|Ms.map<|BV nm):=by rw[<- hs6];exact a7 ht5
  have lnx:∀s,b9 [.str nm] s=.ok (.int nm.length) s:=λs=>jo (by show _<=1000000;lia);refine{.int (2^nm.length:f7),[al.pin eh f o .non]++fR Lz,cC (au (bc kn<|lnx _) a6) (KA _ #[0] _) rfl,?_};rw[show(st++x)++([al.pin eh f o .non]++fR Lz)=s6++fR Lz by rw[<- hs6];simp only[aG]];rw[<- KZ hks];refine GV (ks:=ks) (E5 Wy) (by omega) (a7 hk6) (a7 hm6) λl U r V q hq=>?_;obtain⟨l1,l2⟩:=Cr l<|(hks l).mp U;obtain⟨r1,r2⟩:=Cr r<|(hks r).mp V;unfold LG;rw[<- l2,<- r2,Ad,Ad,i_,i_,i_];have hp0:s6++fR Lz=s6++(fR Lz++[]):=by rw[dh]
  rw[hp0];show uG _ _ _ _ (s6++(fR Lz++[]))=.ok _ (s6++(fR Lz++[]));refine JJ (a7 hm6) hok (by rw[hclo,hz1]) (by rw[hz1];exact hcn) np6 ?_;rw[hz2];exact NH qZ ve hq l1 r1 (by omega)<|a7 ht6
def NQ{S:fy al}{d:f7}(h:j4 S (.loc d)=bi (d,kvs))(U:kvs.length<=1000000):pT [.loc d] S=.ok (.loc S.length) (S++[.lst<|kvs.map λq=>q.1.w]):=by unfold pT;simp only[h,fQ];rw[ax U]
def V_{neg:ir}{S:fy al}(r:fy hG)(h:S[n]?=bi (.dcx<|dK ks))(U:ks.length<1000000):pe neg (bH r) (.loc n) S=.ok (.bl<|if neg then !decide (r∈ks)else decide (r∈ks)) S:=by
 have R:uI S (.loc n)=b0:=by simp[uI,h]
 have e2:j4 S (.loc n)=bi (n,dK ks):=by simp[j4,h]
 unfold pe;rw[R];unfold Dh;rw[e2,ny];simp only;rw[ax<|B8 r U,wV]
 by_cases I:r∈ks
 .rw[ax I,aR I];rfl
 rw[aF I,az I];rfl
theorem NR{P:RS->Prop}{cN:FS}{E:hJ W->bR}{d:f7}{c0:hJ W}(Zb:fi (E c0) (st++[.dct []])=.ok (rows.map bH,ck) (st++[.dct []]))(Zj:∀c:al,iC (st++[c]) ck)(U:rows.length<=1000)
  (z:∀w c,cF i w (E c)=bi (E<|bi w)) (k:∀c,(E c)[d]?=bi (lO st.length)) (L:∀w,(E<|bi w)[i]?=bi (bi w))
  (B:∀(ks:fy (fy hG)) (c:hJ W) (s:fy al),(s=st++[.dcx<|dK ks]\/s=st++[.dct []]/\ks=[])->ks.length<=rows.length->(∀r,r∈ks↔r∈rows)->ia P (cN (E c) s)) :
  ia P (aY (gE fi (cF i)<|vN (ac d) (ac i) (eC<|.bl cT) wj) cN (E c0)<|st++[.dct []]):=by
 refine fw (λj Y s=>∃(ks:fy (fy hG)) (c:hJ W),Y=E c/\(s=st++[.dcx<|dK ks]\/s=st++[.dct []]/\ks=[])/\ks.length<=j/\∀r,r∈ks↔r∈rows.take j) Zb {[],c0,rfl,.inr ⟨rfl,rfl⟩,av _,by simp} (λj Y s zq=>by obtain⟨_,_,_,O,_⟩:=zq;rcases O with rfl|⟨rfl,_⟩<;>exact Zj _) ?_ ?_
 .rintro j w Y s Z ⟨ks,c,rfl,D,G7,I⟩;rw[ai,be]at Z;obtain⟨r,V,rfl⟩:=Z;have R:j<rows.length:=(am.mp V).1;refine{_,z _ _,?_};have hd':j4 s (.loc st.length)=bi (st.length,dK ks):=by rcases D with rfl|⟨rfl,rfl⟩<;>simp only[j4,aT]<;>rfl
  have xM:s.set st.length (.dcx<|we (dK ks) (KX.fl r)<|.bl cT)=st++[.dcx<|dK<|xJ ks r]:=by rw[KW];rcases D with rfl|⟨rfl,rfl⟩<;>rw[iP]<;>rfl
  have J:=JK (v:=.bl cT) hd' (ny r)<|B8 r #[0];rw[xM]at J;apply fZ
  .exact uJ cn (ef<|k _) (ef<|L _) J
  .refine{_,_,rfl,xJ ks r,_,rfl,.inl rfl,?_,λa=>?_}
   .have:=B9 ks r;lia
   .rw[B_,I,nw V,bD,a_]
 .rintro Y s ⟨ks,c,rfl,D,G7,I⟩;rw[aj]at G7 I;rw[gH]at I;exact B ks c s D G7 I
abbrev Y9:FS:=(aY (bG 10<|dW aw)<|aY (gE (bq<|ae (aU b9<|ae (ac 0) aw) aw) (cF 11)<|aY (bG 12<|e2 bd (e2 bd (e2 bd (ac 0)<|ac 11)<|eI 2)<|e2 bd (ac 7)<|ac 11)<|gy<|uX dJ (ac 10)<|ae (e2 bd (e2 bd (ac 12)<|e2 bd (ac 8)<|ac 11)<|e2 bd (ac 9)<|ac 11) aw)<|jB (fD<|e2 (pe cT) (aU bU<|ae (ac 10) aw)<|ac 3) (db<|eC<|.bl eh) cR)
section
variable{Ms:fy Mc}
theorem S8(qZ:rQ Ms)(h9:Ms.length<=9){mk:fy f7}{pm pk lc:f7}{s s1:fy al}{r:fy f7}(Y:iJ Ms l)(V:iJ Ms r)(G7:ks.length<=1000)(Wz:s[pm]?=bi (.lst<|Ms.map Mc.w))(TN:s[lc]?=bi (.lst<|nW<|Ms.map λM=>hU mk M.nm))(NW:s[pk]?=bi (.dcx<|dK ks))(k1:s1 <+: s)
  {v1 v2 v4 v5 v6 o10 o11 o12:hJ W}:ia (He (!decide (vn (yJ Ms mk l r)∈ks)) (λv D=>v=.bl eh/\s1 <+: D) (λρ D=>∃DV Aw TM:hJ W,ρ=[lO pm,v1,v2,lO pk,v4,v5,v6,lO lc,bi<|bW l,bi<|bW r,DV,Aw,TM]/\s <+: D))
   (Y9 [lO pm,v1,v2,lO pk,v4,v5,v6,lO lc,bi<|bW l,bi<|bW r,o10,o11,o12] s):=by
 apply aH
 .exact bB (show dW aw _ s=.ok (.loc s.length) (s++[.lst []])from rfl)
 refine fw (λi ρ z=>∃(Aw TM:hJ W),ρ=[lO pm,v1,v2,lO pk,v4,v5,v6,lO lc,bi<|bW l,bi<|bW r,lO s.length,Aw,TM]/\z=s++[.lst<|nW<|(uP i).map λj=>(((gM Ms j).tb.getD (hU mk (gM Ms j).nm) []).getD (l.getD j 0) []).getD (r.getD j 0) 0])
  (cS (q:=(Ms.length:hG)) (st1:=s++[al.lst []]) (au (bc kn<|by rw[jp<|aL<|a7 Wz,aj]) a6) #[0]) ⟨_,_,rfl,rfl⟩ (λ_ _ _ _=>trivial) ?_ ?_
 .rintro j w ρ z Z ⟨DV,Aw,rfl,rfl⟩;obtain⟨O,rfl⟩:=dD Z;rw[aO]at O;refine{_,rfl,?_};rw[cI];generalize J:s++[al.lst<|nW<|(uP j).map λj=>(((gM Ms j).tb.getD (hU mk (gM Ms j).nm) []).getD (l.getD j 0) []).getD (r.getD j 0) 0]=z;have kz:s <+: z:=by rw[<- J];exact ag _ _
  obtain⟨t,mL,R,e2,k,e4,e5,e6⟩:=wO (qZ _<|lN O) (zZ mk (gM Ms j).nm) (Y.2 j O)<|V.2 j O;have I:bd (.tup<|(gM Ms j).tb.map fm) (.int (hU mk (gM Ms j).nm:f7)) z=.ok (fm t) z:=jI (df (by rw[ai,R];rfl));have il:bd (.loc lc) (.int (j:hG)) z=.ok (.int (hU mk (gM Ms j).nm:f7)) z:=wM (pre_get kz TN) (by rw[ai,sW O];rfl);have B:bd (bW l) (.int (j:hG)) z=.ok (.int (l.getD j 0:f7)) z:=uu (by rw[Y.1];exact O);have L:bd (bW r) (.int (j:hG)) z=.ok (.int (r.getD j 0:f7)) z:=uu (by rw[V.1];exact O);apply aH
  .exact bB (bw (bw (bw kv kv<|ut (pre_get kz Wz) O) cn rfl) (bw kv kv il) I)
  have d:z[s.length]?=bi (.lst<|nW<|(uP j).map λj=>(((gM Ms j).tb.getD (hU mk (gM Ms j).nm) []).getD (l.getD j 0) []).getD (r.getD j 0) 0):=by rw[<- J];exact aT
  have ap:=lM (y:=W.int (((((gM Ms j).tb.getD (hU mk (gM Ms j).nm) []).getD (l.getD j 0) []).getD (r.getD j 0) 0:f7):hG)) d (by simp[nW];lia);apply fZ
  .exact iZ (rN kv (gB d) (au (bw (bw kv (bw kv kv B)<|zX k) (bw kv kv L)<|wN e5) a6) ap)
  .refine{_,_,rfl,_,_,rfl,?_};rw[<- J,iP,iK];simp[nW]
 .rintro ρ z ⟨Aw,TM,rfl,rfl⟩;rw[aO,bE];generalize J:s++[al.lst<|nW<|(uP Ms.length).map λj=>(((gM Ms j).tb.getD (hU mk (gM Ms j).nm) []).getD (l.getD j 0) []).getD (r.getD j 0) 0]=z;have kz:s <+: z:=by rw[<- J];exact ag _ _
  have d:z[s.length]?=bi (.lst<|nW<|yJ Ms mk l r):=by rw[<- J];exact aT
  have et:aU bU (ae (ac 10) aw) [lO pm,v1,v2,lO pk,v4,v5,v6,lO lc,bi<|bW l,bi<|bW r,lO s.length,Aw,TM] z=.ok (bH<|vn<|yJ Ms mk l r) z:=by rw[i_];exact bc kn<|gu<|aL d
  have tin:=c_<|bw et (ef (i:=3) rfl)<|V_ (neg:=cT) (vn<|yJ Ms mk l r) (pre_get kz NW) #[0];simp only[qJ]at tin
  cases U:(!decide (vn (yJ Ms mk l r)∈ks))with
  |true=>
   rw[U]at tin;refine SY ?_;apply iG
   .exact tin
   exact{_,_,rfl,rfl,k1.trans kz}
  |false=>
   rw[U]at tin;refine SZ ?_;apply iH
   .exact tin
   exact⟨_,_,rfl,_,_,_,rfl,kz⟩
end
def V'(z:nm.Pairwise (· < ·)){Ms:fy Mc}(d:∀M∈Ms,Sub M.nm nm)(q:f7)(l r:fy f7):led Ms nm q l r=led Ms nm (rv nm.length<|rv nm.length q) l r:=by rw[<- PC z d,KS z d]
theorem NS{Ms:fy Mc}(z:nm.Pairwise (· < ·))(d:∀M∈Ms,Sub M.nm nm)(rows:fy (fy hG)) :
  wW rows (2^nm.length) (LG Ms nm)=!(uP<|2^nm.length).any λq=>rows.any λl=>rows.any λr=>!decide (vn (yJ Ms (mx<|eD nm q) (lP l)<|lP r)∈rows):=by
 have e:∀q l r,vn (yJ Ms (mx<|eD nm q) (lP l)<|lP r)=LG Ms nm (rv nm.length q) l r:=λq l r=>by unfold LG;rw[KS z d]
 simp[e];rw[wX,kQ,gr,gr,<- nP,<- nP];refine not_congr ?_;simp;constructor
 .rintro⟨l,U,r,V,q,Z,h⟩;refine{rv nm.length q,Fa _ _,l,U,r,V,?_};unfold LG at h ⊢;rw[V' z d]at h;exact h
 rintro⟨q,Z,l,U,r,V,h⟩;exact{l,U,r,V,_,Fa _ _,h}
def Ff{F:α->ir}{a b:fy α}(h:∀r,r∈a↔r∈b):a.any F=b.any F:=by rw[kQ,km,km];exact{λzw=>(by obtain⟨r,V,z⟩:=zw;exact {r,(h r).mp V,z}),λzx=>by obtain⟨r,V,z⟩:=zx;exact ⟨r,(h r).mpr V,z⟩}
theorem GY{Ms:fy Mc}{nm:fy f7}(qZ:rQ Ms)(h9:Ms.length<=9)(om:nm.Pairwise (· < ·))(I:∀M∈Ms,Sub M.nm nm)(hn:nm.length<=13)(mi:rows.length<=1000)(Cr:∀r∈rows,iJ Ms (lP r)/\vn (lP r)=r)(nQ:rows≠[])
  {st:fy al} {pm pr:f7} (cm:st[pm]?=bi (.lst<|Ms.map Mc.w)) (cr:st[pr]?=bi (.lst<|rows.map bH)):EU [.loc pm,.str nm,.loc pr] st=.ok (.bl<|wW rows (2^nm.length)<|LG Ms nm) st:=by
 have Z:=E5 hn;rw[NS om I];obtain⟨N,hN⟩:∃N,N=2^nm.length:=⟨_,rfl⟩
 have shN:∀s:fy al,ml (.int 1) (.int nm.length) s=.ok (.int (N:f7)) s:=λs=>by rw[hN];exact vF #[0]
 have ln:∀s,b9 [.str nm] s=.ok (.int nm.length) s:=λs=>jo (by show _<=1000000;lia);rw[<- hN]at Z ⊢;refine f9 (N:=13) (ws:=[.loc pm,.str nm,.loc pr]) (body:=Ph) ?_ rfl;apply aH
 .rfl
 refine NR (E:=λc=>[lO pm,bi<|.str nm,lO pr,lO st.length,c,b0,b0,b0,b0,b0,b0,b0,b0]) (c0:=b0) (d:=3) (i:=4) (gm kv<|aL<|a7 cr) (λc=>aL<|a7 cr) mi (λ_ _=>rfl) (λ_=>rfl) (λ_=>rfl) ?_;intro ks c s hs' G7 hks;have oy:s=st++[.dcx<|dK ks]:=by
  rcases hs' with z|⟨_,rfl⟩
  .exact z
  .cases rows with
   |nil=>exact absurd rfl nQ
   |cons r rs=>have:=(hks r).mpr (by simp);cases this
 have k1:st <+: s:=by rw[oy];exact ag _ _
 have NW:s[st.length]?=bi (.dcx<|dK ks):=by rw[oy];exact aT
 generalize st.length=pk at NW ⊢
 let B:f7->fy hG->fy hG->ir:=λq l r=>!decide (vn (yJ Ms (mx<|eD nm q) (lP l)<|lP r)∈ks)
 have eB:((uP N).any λq=>rows.any λl=>rows.any λr=>!decide (vn (yJ Ms (mx<|eD nm q) (lP l)<|lP r)∈rows))=(uP N).any λq=>ks.any λl=>ks.any λr=>B q l r:=by
  congr 1
  funext q
  rw[Ff<|λr=>(hks r).symm]
  congr 1
  funext l
  rw[Ff<|λr=>(hks r).symm]
  congr 1
  funext r
  congr 1
  rw[nG];exact(hks _).symm
 rw[eB];have dk:∀z:fy al,s <+: z->j4 z (.loc pk)=bi (pk,dK ks):=λz hz=>by simp only[j4,pre_get hz NW]
 have it:∀(Y:bR) (z:fy al),Y[3]?=bi (lO pk)->s <+: z->bV (aU pT<|ae (ac 3) aw) Y z=.ok (ks.map bH,bi (z.length,ks.map bH)) (z++[.lst<|ks.map bH]):=λY z h3 hz=>by have e:=NQ (dk z hz) (by unfold dK;rw[aj];lia);rw[show((dK ks).map λq=>q.1.w)=ks.map bH from vo ks]at e;exact gm (bc (au (ef h3) a6) e)<|aL aT
 have hN':∀r∈ks,iJ Ms (lP r)/\bH r=bW (lP r):=λr V=>by obtain⟨a,b⟩:=Cr r<|(hks r).mp V;exact{a,by rw[<- i_,b]}
 refine Ab (b:=(uP N).any λq=>ks.any λl=>ks.any λr=>B q l r) (R:=λv D=>v=.bl eh/\s <+: D) (J:=λY D=>∃o5 o6 o7 o8 o9 o10 o11 o12:hJ W,Y=[lO pm,bi<|.str nm,lO pr,lO pk,c,o5,o6,o7,o8,o9,o10,o11,o12]/\s <+: D)
  (qa (λk:f7=>W.int<|0+(k:hG)) _ (cS (q:=(N:hG)) (st1:=s) (au (bw cn (bc kn<|ln _)<|shN _) a6) #[0]) (λ_ _ _=>trivial) ⟨_,_,_,_,_,_,_,_,rfl,af _⟩ ?_) ?_ ?_
 .rintro q hq Y z ⟨o5,o6,o7,o8,o9,o10,o11,o12,rfl,hz⟩;refine{_,rfl,?_};rw[cI];have em:=p_ nm #[0] q z;have cps:=pre_get (k1.trans hz) cm;apply aH
  .exact bB (cC (au kv kn) em rfl)
  have el:=fV (cap:=[b0,bi 6]) (fi:=bV<|ac 0) (f:=cF 0) (el:=c7 2 nv<|ae (e2 bd (ac 0)<|eI 0)<|ae (ac 1) aw) (ρ:=[lO pm,bi<|.str nm,lO pr,lO pk,c,iO (q:hG),bi<|.str<|mx<|eD nm q,o7,o8,o9,o10,o11,o12]) (st:=z) (st1:=z)
   (nW<|Ms.map λM=>hU (mx<|eD nm q) M.nm) (gm kv<|aL cps) (by rw[aj];show _<=1000000;lia) (aL cps) (by simp[nW]) λi w hw=>by rw[ai,be]at hw;obtain⟨M,hM,rfl⟩:=hw;refine{_,_,?_,rfl,cC (au (bw kv cn rfl) kn) (og M.nm _ z) rfl};unfold nW;rw[aN,ai,hM];rfl
  apply aH
  .exact oU el rfl
  generalize oq:z++[al.lst<|nW<|Ms.map λM=>hU (mx<|eD nm q) M.nm]=s2;have TN:s2[z.length]?=bi (.lst<|nW<|Ms.map λM=>hU (mx<|eD nm q) M.nm):=by rw[<- oq];exact aT
  have k2:s <+: s2:=by rw[<- oq];exact hz.trans<|ag _ _
  generalize z.length=lc at TN ⊢;refine qI (J:=λY D=>∃o8 o9 o10 o11 o12:hJ W,Y=[lO pm,bi<|.str nm,lO pr,lO pk,c,iO (q:hG),bi<|.str<|mx<|eD nm q,lO lc,o8,o9,o10,o11,o12]/\(s2++[al.lst<|ks.map bH]) <+: D) (R:=λv D=>v=.bl eh/\s <+: D)
   (qa bH _ (it _ _ rfl k2) (λ_ D zy=>by obtain⟨_,_,_,_,_,_,h⟩:=zy;exact aL<|pre_get h aT) ⟨_,_,_,_,_,rfl,af _⟩ ?_) (λ_ _ h=>h) (λY D zz=>by obtain⟨o8,o9,o10,o11,o12,e,h⟩:=zz;exact {_,_,_,_,_,_,_,_,e,(k2.trans<|ag _ _).trans h})
  rintro l L Y y ⟨o8,o9,o10,o11,o12,rfl,hy⟩;refine{_,rfl,?_};have k3:s <+: y:=(k2.trans<|ag _ _).trans hy;have hlc3:=pre_get ((ag _ _).trans hy) TN;refine qI (J:=λY D=>∃o9 o10 o11 o12:hJ W,Y=[lO pm,bi<|.str nm,lO pr,lO pk,c,iO (q:hG),bi<|.str<|mx<|eD nm q,lO lc,bi<|bH l,o9,o10,o11,o12]/\(y++[al.lst<|ks.map bH]) <+: D) (R:=λv D=>v=.bl eh/\s <+: D)
   (qa bH _ (it _ _ rfl k3) (λ_ D zv=>by obtain⟨_,_,_,_,_,h⟩:=zv;exact aL<|pre_get h aT) ⟨_,_,_,_,rfl,af _⟩ ?_) (λ_ _ h=>h) (λY D zw=>by obtain⟨o9,o10,o11,o12,e,h⟩:=zw;exact {_,_,_,_,_,e,hy.trans<|(ag _ _).trans h})
  rintro r V Y x ⟨o9,o10,o11,o12,rfl,O⟩;refine{_,rfl,?_};have k4:y <+: x:=(ag _ _).trans O;obtain⟨l1,l2⟩:=hN' l L;obtain⟨r1,r2⟩:=hN' r V;have U:=S8 (Ms:=Ms) qZ h9 (mk:=mx<|eD nm q) (pm:=pm) (pk:=pk) (lc:=lc) (s:=x) (s1:=s) (ks:=ks) l1 r1 #[0] (pre_get (k1.trans<|k3.trans k4) cm) (pre_get k4 hlc3) (pre_get (k3.trans k4) NW) (k3.trans k4) (v1:=bi<|.str nm) (v2:=lO pr) (v4:=c) (v5:=iO (q:hG)) (v6:=bi<|.str<|mx<|eD nm q) (o10:=o10) (o11:=o11) (o12:=o12);rw[<- l2,<- r2]at U;exact qI U (λ_ _ h=>h) (λY D zx=>by obtain⟨DV,Aw,TM,e,h⟩:=zx;exact {_,_,_,_,e,O.trans h})
 .rintro U v D ⟨rfl,h⟩;rw[U];obtain⟨x,e⟩:=k1.trans h;exact{_,_,rfl,rfl,x,e.symm}
 .rintro U Y D ⟨o5,o6,o7,o8,o9,o10,o11,o12,rfl,h⟩;rw[U];obtain⟨x,e⟩:=k1.trans h;apply cH
  .exact cn
  .exact{_,_,rfl,rfl,x,e.symm}
def Fg{r:fy hG}{i:f7}(L:i<r.length)(s:fy al):bd (bH r) (.int (i:f7)) s=.ok (.int<|r.getD i 0) s:=jI (df (by rw[ai,cE 0 L];rfl))
theorem K5{l:fy ir}{p:f7}{s:fy al}(h:s[p]?=bi (.lst<|l.map W.bl))(L:l.length=n+1):bd (.loc p) (.int (-1)) s=.ok (.bl<|l.getD n eh) s:=by refine kB (aL h) ?_;unfold uS;rw[aj,L,show yP (n+1) (-1)=bi n by unfold yP;rw[aF #[0]];simp;lia];show(l.map W.bl)[n]?=_;rw[ai,cE eh #[0]];rfl
def K6{ps:fy Mc}{M:Mc}(r:fy f7):mX (ps++[M]) r=mX ps r++[M.gd.getD (r.getD ps.length 0) eh]:=by
 unfold mX;rw[aI,fW,fB,bT,List.map_singleton,z5]
 congr 1
 exact b_ λi L=>by rw[DG<|bN.mp L]
abbrev Y_:FS:=(aY (gE (bq<|ae (aU b9<|ae (ac 5) aw) aw) (cF 6)<|jB (Hc (fD<|e2 A5 (e2 bd (ac 5)<|ac 6)<|eI 0)<|fD<|e2 UT (e2 bd (ac 5)<|ac 6)<|aU b9<|ae (e2 bd (e2 bd (ac 4)<|ac 6)<|eI 1) aw) (db<|eC<|.bl eh) cR)<|aY (lA (cb [b0,bi 5,bi 4] (bq<|ae (aU b9<|ae (ac 5) aw) aw) (cF 0) d_<|e2 bd (e2 bd (e2 bd (ac 2)<|ac 0)<|eI 1)<|e2 bd (ac 1)<|ac 0)<|cF 7)<|aY (bG 8<|e2 uW (e2 bd (ac 7)<|eI 0)<|e2 ik (ac 0)<|eC<|.str [110,111,116])<|aY (jB (fD<|e2 ik (ac 0)<|eC<|.str [97,110,100]) (bG 8<|sk (e2 bd (ac 7)<|eI 0)<|e2 bd (ac 7)<|eI 1) cR)<|aY (jB (fD<|e2 ik (ac 0)<|eC<|.str [111,114]) (bG 8<|Il (e2 bd (ac 7)<|eI 0)<|e2 bd (ac 7)<|eI 1) cR)<|jB (fD<|e2 uW (e2 bd (ac 7)<|t8<|eI 1)<|ac 8) (db<|eC<|.bl eh) cR)
theorem S9{k:f7}(d:k<4){ps:fy Mc}{M:Mc}(Z:1<=ps.length)(B:2<=k->2<=ps.length)(h9:ps.length<=9){r:fy hG}(Y:r.length=ps.length+1){pm:f7}{s s1:fy al}(cm:s[pm]?=bi (.lst<|(ps++[M]).map Mc.w))(k1:s1 <+: s){v1 v2 v3 o6 o7 o8:hJ W} :
  ia (He (!(xK (ps++[M]) r&&uv k ps M r)) (λv D=>v=.bl eh/\s1 <+: D) (λρ D=>∃p6 p7 p8:hJ W,ρ=[bi<|.str<|wd k,v1,v2,v3,lO pm,bi<|bH r,p6,p7,p8]/\s <+: D))
   (Y_ [bi<|.str<|wd k,v1,v2,v3,lO pm,bi<|bH r,o6,o7,o8] s):=by
 obtain⟨Ms,hMe⟩:∃Ms,Ms=ps++[M]:=⟨_,rfl⟩
 have hml:Ms.length=ps.length+1:=by rw[hMe];simp
 rw[<- hMe]at cm ⊢;have lnr:∀z,b9 [bH r] z=.ok (.int (Ms.length:f7)) z:=λz=>by unfold bH;rw[kJ,aj,Y,hml]
 have ixm:∀(z:fy al) (i:f7),s <+: z->i<Ms.length->bd (.loc pm) (.int (i:f7)) z=.ok (gM Ms i).w z:=λz i hz L=>ut (pre_get hz cm) L;have O:((uP Ms.length).any λi=>!(decide (0<=r.getD i 0)&&decide (r.getD i 0<(gM Ms i).gd.length)))=!xK Ms r:=by unfold xK;rw[gK,Bool.not_not]
 refine Ab (b:=!xK Ms r) (R:=λv D=>v=.bl eh/\s1 <+: D) (J:=λρ D=>∃p6:hJ W,ρ=[bi<|.str<|wd k,v1,v2,v3,lO pm,bi<|bH r,p6,o7,o8]/\D=s) ?_ ?_ ?_
 .rw[<- O];refine qa (λk:f7=>W.int<|0+(k:hG)) _ (cS (q:=(Ms.length:hG)) (st1:=s) (au (bc kn<|lnr s) a6) #[0]) (λ_ _ _=>trivial) ⟨_,rfl,rfl⟩ ?_;rintro i L ρ z ⟨p6,rfl,rfl⟩;have L:i<Ms.length:=bN.mp L;refine{_,rfl,?_};rw[cI];have ri:=Fg (r:=r) (i:=i) #[0] z;have lg:b9 [.tup<|(gM Ms i).gd.map W.bl] z=.ok (.int (gM Ms i).gd.length) z:=by rw[kJ,aj]
  have tt:=wC (t:=fD<|e2 A5 (e2 bd (ac 5)<|ac 6)<|eI 0) (u:=fD<|e2 UT (e2 bd (ac 5)<|ac 6)<|aU b9<|ae (e2 bd (e2 bd (ac 4)<|ac 6)<|eI 1) aw) (ρ:=[bi<|.str<|wd k,v1,v2,v3,lO pm,bi<|bH r,iO (i:hG),o7,o8]) (st:=z)
   (c_<|bw (bw kv kv ri) cn<|lK (k:=decide<|r.getD i 0<0) rfl) (c_<|bw (bw kv kv ri) (bc (au (bw (bw kv kv<|ixm z i (af _) L) cn<|pZ _ _) a6) lg)<|lK (k:=decide<|r.getD i 0≥(gM Ms i).gd.length) rfl)
  have eb:(decide (r.getD i 0<0)||decide (r.getD i 0≥(gM Ms i).gd.length))=!(decide (0<=r.getD i 0)&&decide (r.getD i 0<(gM Ms i).gd.length)):=by rw[kQ];simp
  rw[eb]at tt
  cases U:!(decide (0<=r.getD i 0)&&decide (r.getD i 0<(gM Ms i).gd.length))with
  |true=>
   rw[U]at tt;refine SY ?_;apply iG
   .exact tt
   exact⟨_,_,rfl,rfl,k1⟩
  |false=>
   rw[U]at tt;refine SZ ?_;apply iH
   .exact tt
   exact⟨_,_,rfl,_,rfl,rfl⟩
 .rintro U v D ⟨rfl,h⟩;rw[gr]at U;rw[U];exact⟨_,_,rfl,rfl,h⟩
 rintro U ρ D ⟨p6,rfl,rfl⟩;have hin:xK Ms r=cT:=by simpa using U
 rw[hin,ic];obtain⟨ro,L⟩:=DL (by rw[Y,hml]) hin;have eT:mX Ms (lP r)=mX ps (lP r)++[M.gd.getD ((lP r).getD ps.length 0) eh]:=by rw[hMe];exact K6 _
 have gl:(mX ps<|lP r).length=ps.length:=by simp[mX]
 have ec:=fV (cap:=[b0,bi 5,bi 4]) (fi:=bq<|ae (aU b9<|ae (ac 5) aw) aw) (f:=cF 0) (el:=e2 bd (e2 bd (e2 bd (ac 2)<|ac 0)<|eI 1)<|e2 bd (ac 1)<|ac 0) (ρ:=[bi<|.str<|wd k,v1,v2,v3,lO pm,bi<|bH r,p6,o7,o8]) (st:=D) (st1:=D)
  ((mX Ms<|lP r).map W.bl) (cS (q:=(Ms.length:hG)) (st1:=D) (au (bc kn<|lnr D) a6) #[0]) (by rw[bE];show _<=1000000;lia) trivial (by rw[bE];simp[mX]) λi w hw=>by
   obtain⟨hi',rfl⟩:=dD hw;rw[aO]at hi';rw[cI];have rr:=Fg (r:=r) (i:=i) #[0] D;have V:r.getD i 0=(((lP r).getD i 0:f7):hG):=by
    rw[KY];have h0:=bC.mp hin i<|bN.mpr hi';have h0:0<=r.getD i 0:=by simp at h0;exact h0.1
    lia
   rw[V]at rr;refine{_,_,?_,rfl,bw (bw (bw kv kv<|ixm D i (af _) hi') cn<|pZ _ _) (bw kv kv rr)<|jI<|df (by rw[ai,cE eh<|ro.2 i hi'];rfl)};unfold mX;rw[aN,ai,bv hi'];rfl
 apply aH
 .exact oU ec rfl
 generalize oq:D++[al.lst<|(mX Ms<|lP r).map W.bl]=s2;have I:s2[D.length]?=bi (.lst<|(mX Ms<|lP r).map W.bl):=by rw[<- oq];exact aT
 have k2:D <+: s2:=by rw[<- oq];exact ag _ _
 generalize D.length=p at I ⊢;have lT:(mX Ms<|lP r).length=ps.length+1:=by rw[eT];simp[gl]
 have gi:∀i,i<ps.length->(mX Ms<|lP r).getD i eh=(mX ps<|lP r).getD i eh:=λi L=>by grind
 have gL:(mX Ms<|lP r).getD ps.length eh=M.gd.getD ((lP r).getD ps.length 0) eh:=by rw[eT,aA,bA #[0],gl,oK];rfl
 have i0:=uN I (i:=0) #[0];rw[gi 0 #[0]]at i0;have iL:=K5 I lT;rw[gL]at iL;unfold uv;generalize M.gd.getD ((lP r).getD ps.length 0) eh=m at iL ⊢;have i1:2<=k->bd (.loc p) (.int 1) s2=.ok (.bl<|(mX ps<|lP r).getD 1 eh) s2:=λz=>by have:=uN I (i:=1) (by have:=B z;lia);rw[gi 1 (by have:=B z;lia)]at this;exact this
 generalize mX ps (lP r)=g at i0 i1 ⊢;have jC:∀b:ir,b=rR k g->ia (He (!(m==rR k g)) (λv D=>v=.bl eh/\s1 <+: D) (λρ s''=>∃p6 p7 p8:hJ W,ρ=[bi<|.str<|wd k,v1,v2,v3,lO pm,bi<|bH r,p6,p7,p8]/\D <+: s''))
   (jB (fD<|e2 uW (e2 bd (ac 7)<|t8<|eI 1)<|ac 8) (db<|eC<|.bl eh) cR [bi<|.str<|wd k,v1,v2,v3,lO pm,bi<|bH r,p6,lO p,bi<|.bl b] s2):=λb eb=>by
  have t:=c_<|bw (bw (ef (i:=7) (ρ:=[bi<|.str<|wd k,v1,v2,v3,lO pm,bi<|bH r,p6,lO p,bi<|.bl b]) rfl) (yy cn) iL) (ef (i:=8) rfl)<|E_ m b s2;have en:(m != b)=!(m==rR k g):=by rw[eb];rfl
  rw[en]at t
  cases U:!(m==rR k g)with
  |true=>
   rw[U]at t;refine SY ?_;apply iG
   .exact t
   exact{_,_,rfl,rfl,k1.trans k2}
  |false=>
   rw[U]at t;refine SZ ?_;apply iH
   .exact t
   exact⟨_,_,rfl,_,_,_,rfl,k2⟩
 have tw:∀(o:hJ W) (j:f7),j<4->fD (e2 ik (ac 0)<|eC<|.str<|wd j) [bi<|.str<|wd k,v1,v2,v3,lO pm,bi<|bH r,p6,lO p,o] s2=.ok (decide<|k=j) s2:=λo j hj=>c_<|bw kv cn<|wT d hj s2;apply aH
 .exact bB (bw (bw kv cn i0) (bw kv cn<|wT (j:=1) d #[0] s2)<|E_ _ _ _)
 by_cases AB:k=2
 .subst AB;have i1:=i1 #[0];apply dC
  .exact tw _ 2 #[0]
  have ea:sk (e2 bd (ac 7)<|eI 0) (e2 bd (ac 7)<|eI 1) [bi<|.str<|wd 2,v1,v2,v3,lO pm,bi<|bH r,p6,lO p,bi<|.bl<|g.getD 0 eh != decide (2=1)] s2=.ok (.bl<|g.getD 0 eh&&g.getD 1 eh) s2:=by
   cases hg:g.getD 0 eh with
   |true=>rw[hg]at i0;exact qE (bw kv cn i0) (bw kv cn i1)
   |false=>rw[hg]at i0;exact zC<|bw kv cn i0
  apply aH
  .exact bB ea
  apply cM
  .exact tw _ 3 #[0]
  apply eA;exact jC _ rfl
 apply cM
 .exact(tw _ 2 #[0]).trans (by rw[az AB])
 apply eA
 by_cases hk3:k=3
 .subst hk3;have i1:=i1 #[0];apply dC
  .exact tw _ 3 (by omega)
  have ea:Il (e2 bd (ac 7)<|eI 0) (e2 bd (ac 7)<|eI 1) [bi<|.str<|wd 3,v1,v2,v3,lO pm,bi<|bH r,p6,lO p,bi<|.bl<|g.getD 0 eh != decide (3=1)] s2=.ok (.bl (g.getD 0 eh||g.getD 1 eh)) s2:=by
   generalize g.getD 1 eh=b at i1
   cases hg:g.getD 0 eh with
   |true=>rw[hg]at i0;exact Du (bw kv cn i0)
   |false=>rw[hg]at i0;exact Dt (bw kv cn i0)<|bw kv cn i1
  apply aH
  .exact bB ea
  exact jC _ rfl
 apply cM
 .exact(tw _ 3<|by omega).trans (by rw[az hk3])
 apply eA;refine jC _ ?_;obtain rfl|rfl:k=0\/k=1:=by lia
 .simp[rR]
 .simp[rR]
theorem wY:∀a b:fy hG,eqWs (a.map W.int) (b.map W.int)=bi (decide<|a=b)
 |[],[]=>rfl
 |[],b::bs=>by simp[eqWs]
 |a::as,[]=>by simp[eqWs]
 |a::as,b::bs=>by
  simp[eqWs,kr,wY as bs]
  by_cases h:a=b
  .subst h;simp
  simp[h]
theorem B'(v:fy hG):∀F:fy (fy hG),rE (bH v) (F.map bH)=bi (decide<|v∈F)
 |[]=>rfl
 |r::F=>by
  have e:kr (bH r) (bH v)=bi (decide<|r=v):=wY r v;rw[aZ];unfold rE;rw[e,B' v F]
  by_cases h:r=v
  .subst h;simp
  simp[h,Zw h]
theorem Af:∀l:fy hG,depWs (l.map W.int)=0
 |[]=>rfl
 |l::ls=>by simp only[List.map,depWs,W.dep,Af ls];rfl
theorem Cb:∀F:fy (fy hG),depWs (F.map bH)<=1
 |[]=>cG _
 |r::F=>by have:=Cb F;simp[depWs,bH,W.dep,Af];exact Nat.max_le.mpr {by lia,this}
def S_{neg:ir}{v:fy hG}{F:fy (fy hG)}{s:fy al}(h:s[n]?=bi (.lst<|F.map bH)):xj neg (bH v) (.loc n) s=.ok (.bl<|if neg then !decide (v∈F)else decide (v∈F)) s:=by unfold xj;simp only[h,B'];rw[ax<|aW (Cb F)<|by decide]
def Fh(F G:α->ir)(l:fy α):(l.all λa=>F a&&G a)=(l.all F&&l.all G):=by
 induction l with
 |nil=>rfl
 |cons a l U=>simp[U];cases F a<;>cases G a<;>cases l.all F<;>rfl
theorem GZ{k:f7}(I:k<4){ps:fy Mc}{M:Mc}(qZ:rQ (ps++[M]))(Z:1<=ps.length)(B:2<=k->2<=ps.length)(h9:ps.length<=8)(mj:BX (fF<|ps++[M])=nm)(d:∀M'∈ps++[M],Sub M'.nm nm)(hn:nm.length<=13)(xO:(fF<|ps++[M]).length<4000)
  (mi:rows.length<=1000) (da:∀r∈rows,r.length=ps.length+1) {st:fy al} {pp pr:f7} (cp:st[pp]?=bi (.lst<|ps.map Mc.w)) (cr:st[pr]?=bi (.lst<|rows.map bH)) :
  EV [.str<|wd k,.loc pp,M.w,.loc pr] st=.ok (.bl<|oW k ps M nm rows) st:=by
 obtain⟨Ms,hMe⟩:∃Ms,Ms=ps++[M]:=⟨_,rfl⟩
 have hml:Ms.length=ps.length+1:=by rw[hMe];simp
 refine f9 (N:=9) (ws:=[.str<|wd k,.loc pp,M.w,.loc pr]) (body:=Pi) ?_ rfl;have ea:=wB (st:=st++[.lst [M.w]]) (n:=pp) (m:=st.length) (ws:=ps.map Mc.w) (xs:=[M.w]) (a7 cp) aT (by simp;show _<=1000000;lia);rw[show ps.map Mc.w++[M.w]=Ms.map Mc.w by rw[hMe,bT];rfl]at ea;have elm:dW (ae (ac 2) aw) [bi<|.str<|wd k,lO pp,bi M.w,lO pr,b0,b0,b0,b0,b0] st=.ok (.loc st.length) (st++[.lst [M.w]]):=rfl;apply aH
 .exact bB (bw kv elm ea)
 generalize oy:st++[al.lst [M.w]]++[al.lst<|Ms.map Mc.w]=s1;have cm:s1[(st++[al.lst [M.w]]).length]?=bi (.lst<|Ms.map Mc.w):=by rw[<- oy];exact aT
 have k1:st <+: s1:=by rw[<- oy];exact(ag _ _).trans (ag _ _)
 generalize (st++[al.lst [M.w]]).length=pm at cm ⊢;have cr1:=pre_get k1 cr;refine Ab (b:=rows.any λr=>!(xK (ps++[M]) r&&uv k ps M r)) (R:=λv D=>v=.bl eh/\s1 <+: D) (J:=λY D=>∃o5 o6 o7 o8:hJ W,Y=[bi<|.str<|wd k,lO pp,bi M.w,lO pr,lO pm,o5,o6,o7,o8]/\s1 <+: D)
  (qa bH _ (gm kv<|aL cr1) (λ_ D zy=>by obtain⟨_,_,_,_,_,h⟩:=zy;exact aL<|pre_get h cr1) ⟨_,_,_,_,rfl,af _⟩ ?_) ?_ ?_
 .rintro r V Y z ⟨o5,o6,o7,o8,rfl,hz⟩;refine{_,rfl,?_};have:=S9 I (ps:=ps) (M:=M) Z B #[0] (da r V) (pm:=pm) (s:=z) (s1:=s1) (by rw[<- hMe];exact pre_get hz cm) hz (v1:=lO pp) (v2:=bi M.w) (v3:=lO pr) (o6:=o6) (o7:=o7) (o8:=o8);exact qI this (λ_ _ h=>h) (λY D zz=>by obtain⟨p6,p7,p8,e,h⟩:=zz;exact {_,_,_,_,e,hz.trans h})
 .rintro U v D ⟨rfl,h⟩;obtain⟨x,e⟩:=k1.trans h;refine{_,_,rfl,?_,x,e.symm};have h0:(rows.all λr=>xK (ps++[M]) r&&uv k ps M r)=eh:=by rw[gK,U];rfl
  rw[Fh]at h0;unfold oW
  cases O:rows.all (xK<|ps++[M])with
  |false=>rfl
  |true=>
   rw[O,ic]at h0;rw[h0];simp
 rintro U Y z ⟨o5,o6,o7,o8,rfl,hz⟩;have h0:(rows.all λr=>xK (ps++[M]) r&&uv k ps M r)=cT:=by rw[gK,U];rfl
 rw[Fh,cJ]at h0;obtain⟨hin,hsy⟩:=h0;unfold oW;rw[hin,hsy,ic,ic];rw[<- hMe]at qZ mj d xO hin ⊢;have cmz:=pre_get hz cm;have crz:=pre_get hz cr1;have ec:=fV (cap:=[b0]) (fi:=bV<|ac 4) (f:=cF 0) (el:=eC<|.int 0) (ρ:=[bi<|.str<|wd k,lO pp,bi M.w,lO pr,lO pm,o5,o6,o7,o8]) (st:=z) (st1:=z)
  ((rn (ps.length+1) (0:hG)).map W.int) (gm kv<|aL cmz) (by rw[aj];show _<=1000000;lia) (aL cmz) (by simp[hml]) λi w hw=>by
   have L:i<Ms.length:=by have:=(am.mp hw).1;simpa using this
   exact{_,_,by rw[ai,dQ,ax #[0]];rfl,rfl,cn}
 have et:bU [.loc z.length] (z++[.lst<|(rn (ps.length+1) (0:hG)).map W.int])=.ok (bH<|rn (ps.length+1) 0) (z++[.lst<|(rn (ps.length+1) (0:hG)).map W.int]):=gu<|aL aT;have tz:=c_<|bw (bc (au ec a6) et) (ef (i:=3) rfl)<|S_ (neg:=cT) (v:=rn (ps.length+1) 0)<|a7 crz;generalize oq:z++[al.lst<|(rn (ps.length+1) (0:hG)).map W.int]=s2 at tz;have k2:st <+: s2:=by rw[<- oq];exact k1.trans<|hz.trans<|ag _ _
 cases hzr:decide (rn (ps.length+1) (0:hG)∈rows)with
 |false=>
  rw[hzr]at tz;apply dC
  .exact tz
  apply dg
  .exact cn
  .obtain⟨x,e⟩:=k2;exact{_,_,rfl,rfl,x,e.symm}
 |true=>
 rw[hzr]at tz;apply cM
 .exact tz
 apply eA;have cm2:s2[pm]?=bi (.lst<|Ms.map Mc.w):=by rw[<- oq];exact a7 cmz
 have cr2:s2[pr]?=bi (.lst<|rows.map bH):=by rw[<- oq];exact a7 crz
 have ej0:=fV (cap:=[b0]) (fi:=bV<|ac 4) (f:=cF 0) (el:=e2 bd (ac 0)<|eI 0) (ρ:=[bi<|.str<|wd k,lO pp,bi M.w,lO pr,lO pm,o5,o6,o7,o8]) (st:=s2) (st1:=s2)
  ((Ms.map Mc.nm).map W.str) (gm kv<|aL cm2) (by rw[aj];show _<=1000000;lia) (aL cm2) (by simp) λi w hw=>by rw[ai,be]at hw;obtain⟨M',hM',rfl⟩:=hw;exact{_,_,by rw[aN,ai,hM'];rfl,rfl,bw kv cn rfl}
 have ej:=rO (sep:=[]) (ls:=Ms.map Mc.nm) (st:=s2++[.lst<|(Ms.map Mc.nm).map W.str]) (n:=s2.length) (aL aT) (by rw[wP];unfold fF at xO;show _<=1000000;simp only[fz,tO,tP,jP];lia);rw[j_]at ej;have en:=wR (fF Ms)<|s2++[.lst<|(Ms.map Mc.nm).map W.str];rw[mj]at en;have Cr:∀r∈rows,iJ Ms (lP r)/\vn (lP r)=r:=λr V=>DL (by rw[hml];exact da r V)<|bC.mp hin r V;have el:=GY (Ms:=Ms) (nm:=nm) qZ #[0] (by rw[<- mj];exact qH _) d hn mi Cr (λe=>by rw[e]at hzr;simp at hzr) (st:=s2++[.lst<|(Ms.map Mc.nm).map W.str]) (a7 cm2) (a7 cr2);obtain⟨x,e⟩:=k2;apply cH
 .exact cC (au kv<|au (cC (au (zD cn rfl (au ej0 a6) ej) a6) en rfl) kn) el rfl
 .exact{_,_,rfl,by rw[ic],x++[.lst<|(Ms.map Mc.nm).map W.str],by rw[<- e,aG]}
noncomputable def Wa:W:=.tup [.str [114,101,102,117,115,101,100],.bl cT]
theorem wZ{k:f7}(O:k<4){ps:fy Mc}{M:Mc}{rows:fy (fy hG)}{nm:fy f7}(w:rQ (ps++[M]))(Z:1<=ps.length)(B:2<=k->2<=ps.length)(L:ps.length<=9)
  (z:kW (fF<|ps++[M])=nm) (PN:∀c∈fF (ps++[M]),c∈LL) (xO:(fF<|ps++[M]).length<4000) (Ya:nm.length<=14) (d:rows.length<=1000) (D:∀r∈rows,r.length=ps.length+1) {st:fy al} (np:bM st) (U:st[1]?=bi SC)
  {pp pr:f7} (cp:st[pp]?=bi (.lst<|ps.map Mc.w)) (cr:st[pr]?=bi (.lst<|rows.map bH)) :
  wJ [.str<|wd k,.loc pp,M.w,.loc pr] st=.ok (if 13<nm.length\/40000<rows.length*rows.length*2^nm.length then Wa else .bl (oW k ps M nm rows)) st:=by
 have W:=K4 O w Z B L z PN xO Ya d D np U;have V:∀Y:bR,Y=[bi<|.str<|wd k,lO pp,bi M.w,lO pr,b0]->ae (ac 0) (ae (aU bU<|ae (ac 1) aw)<|ae (ac 2)<|ae (aU bU<|ae (ac 3) aw) aw) Y st=.ok [.str<|wd k,.tup<|ps.map Mc.w,M.w,.tup<|rows.map bH] st:=λY e=>by subst e;exact au kv<|au (bc kn<|gu<|aL cp)<|au kv<|au (bc kn<|gu<|aL cr) a6
 by_cases J:13<nm.length\/40000<rows.length*rows.length*2^nm.length
 .rw[ax J]at W ⊢;refine f9 ?_ rfl;show ia _ (match db _ [bi<|.str<|wd k,lO pp,bi M.w,lO pr,b0] st with|.ex c I R=>_|r=>r);rw[JG<|BF (n:=4) (V _ rfl) W rfl];simp only;have er:db (eX<|ae (eC<|.str [114,101,102,117,115,101,100])<|ae (Gk kt<|ac 4) aw) (([bi<|.str<|wd k,lO pp,bi M.w,lO pr,b0]).set 4<|bi<|.loc st.length) (st++[.exc "TooGreat"])=.rt Wa (st++[.exc "TooGreat"]):=
   BE (iF (au cn<|au (Vi kv aT rfl) a6)<|by decide)
  rw[er];exact⟨_,_,rfl,rfl,_,rfl⟩
 rw[aF J]at W ⊢;refine f9 (N:=5) ?_ rfl;show ia _ (match db _ [bi<|.str<|wd k,lO pp,bi M.w,lO pr,b0] st with|.ex c I R=>_|r=>r);rw[BE<|cC (n:=4) (V _ rfl) W rfl];exact{_,_,rfl,rfl,[],by simp}
theorem Fi{f:FG}{k:bR}(g:α->W)(V:β->W)(Pb:β->Prop)(D:∀s,st <+: s->iC s ck):∀as:fy α,(∀a∈as,∃b I,Pb b/\f (g a) k=bi I/\∀s,st <+: s->∃z,el I s=.ok (V b) (s++z)) ->
  ∃bs:fy β,bs.length=as.length/\(∀b∈bs,Pb b)/\∀(acc:fy W) (s:fy al),st <+: s->∃z,lD f d_ el ck k (as.map g) acc s=.ok (acc++bs.map V) (s++z)
 |[],_=>{[],rfl,by simp,λacc s d=>⟨[],by rw[iV];unfold lD;rw[ax<|D s d];simp⟩}
 |a::as,h=>by obtain⟨b,I,U,R,e2⟩:=h a (by simp);obtain⟨bs,Z,B,Y⟩:=Fi g V Pb D as λL w=>h L (by simp[w]);refine{b::bs,by simp[Z],λx J=>(aS.mp J).elim (λe=>e▸U)<|B x,λacc s d=>?_};obtain⟨z,O⟩:=e2 s d;obtain⟨y,r⟩:=Y (acc++[V b]) (s++z)<|je d;refine{z++y,?_};rw[aZ];unfold lD;rw[ax<|D s d,R];simp only[d_,O];rw[r,aG,aG];rfl
theorem w4{f:FG}{cap:fy (hJ f7)}{as:fy α}(g:α->W)(V:β->W)(Pb:β->Prop)(ck:hJ (f7×fy W))(h:∀s,st <+: s->fi ρ s=.ok (as.map g,ck) s)(U:as.length<=100000)(D:∀s,st <+: s->iC s ck)
  (d:∀a∈as,∃b I,Pb b/\f (g a) (kc cap ρ)=bi I/\∀s,st <+: s->∃z,el I s=.ok (V b) (s++z)):∃bs:fy β,bs.length=as.length/\(∀b∈bs,Pb b)/\∀s,st <+: s->∃z,aU bU (ae (cb cap fi f d_ el) aw) ρ s=.ok (.tup<|bs.map V) (s++z):=by
 obtain⟨bs,Z,B,Y⟩:=Fi g V Pb D as d;refine{bs,Z,B,λs O=>?_};obtain⟨z,e⟩:=Y [] s O;refine{z++[.lst<|bs.map V],bc (au (st1:=s++z++[.lst<|bs.map V]) (x:=.loc (s++z).length) ?_ a6) ?_}
 .unfold cb;rw[h s O];simp only[R.bind_ok];rw[ax (by rw[aj];show _<=1000000;lia),e];simp only[R.bind_ok,jh,jW];rw[ax (by rw[aj];show _<=1000000;lia)]
 rw[<- aG];exact gu<|aL aT
abbrev K7(n:f7)(r:fy f7):Prop:=r.length=n/\∀k∈r,k<n
def NT{M:Mc}{k:f7}(h:ρ[0]?=bi (bi M.w)):lA (ac 0) (A9 3<|cK (cF i)<|cK (cF j)<|cK (cF k) kT) ρ st=.nx (((ρ.set i<|bi<|.str M.nm).set j<|bi<|.tup<|M.gd.map W.bl).set k<|bi<|.tup<|M.tb.map fm) st:=oU (ef h) rfl
theorem G0{M:Mc}(D:yF M n)(Z:n<=1000)(z:hG)(st:fy al):∃M':Mc,M'.nm=M.nm/\yF M' n/\EX [M.w,.int z] st=.ok M'.w st:=by
 have r:=D.gd;have w:b9 [.tup<|M.gd.map W.bl] st=.ok (.int n) st:=by rw[kJ,aj,r]
 obtain⟨d,U,_,J⟩:=DE (cap:=[b0,bi 3,bi 1]) (ρ:=[bi M.w,bi<|.int z,bi<|.str M.nm,bi<|.tup<|M.gd.map W.bl,bi<|.tup<|M.tb.map fm]) (fs:=ae (aU b9<|ae (ac 3) aw) aw)
  (el:=e2 uW (e2 bd (ac 1)<|ac 0)<|e2 ik (ac 0)<|ac 2) W.bl (λ_ _=>True) (au (bc kn w) a6) (by omega) λq R=>
   ⟨_,trivial,bw (bw kv kv<|jI<|df (by rw[ai,cE eh<|by omega];rfl)) (bw kv kv<|kA rfl)<|E_ _ _ _⟩
 refine⟨{M.nm,d,M.tb},rfl,{U,D.tb,D.t},f9 ?_ (by simp[undWs];exact rP {M.nm,d,M.tb} _)⟩;exact aH (NT rfl)<|cH (iF (au kv<|au J kn)<|aB rfl)<|⟨_,_,rfl,rfl,_,rfl⟩
theorem K8{M:Mc}(D:yF M n)(d:1<=n)(Z:n<=1000)(U:M.tb.length<=1000)(st:fy al):∃M':Mc,M'.nm=M.nm/\M'.gd=M.gd/\yF M' n/\yE [M.w] st=.ok M'.w st:=by
 have ln:b9 [.tup<|M.gd.map W.bl] st=.ok (.int n) st:=by rw[kJ,aj,D.gd]
 have tn:fD (e2 ik (aU b9<|ae (ac 2) aw)<|eI 1) [bi M.w,bi<|.str M.nm,bi<|.tup<|M.gd.map W.bl,bi<|.tup<|M.tb.map fm] st=.ok (decide<|n=1) st:=c_ (bw (bc kn ln) cn (kA (by
  by_cases h:n=1
  .rw[h];rfl
  rw[az h,bj];lia)))
 by_cases L:n=1
 .refine{M,rfl,rfl,D,f9 ?_ (by simp[undWs];exact rP M _)};refine aH (NT rfl) ?_;refine dC (tn.trans<|by rw[aR L]) ?_;apply dg
  .rfl
  exact{_,_,rfl,rfl,[],by simp}
 have inner:∀r:fy f7,K7 n r->∃R,K7 n R/\∀s,[] <+: s->∃z,aU bU (ae (cb [b0] (bV<|ac 0) (cF 0) d_<|aU xA<|ae (eI 1)<|ae (ac 0) aw) aw) [bi<|bW r] s=.ok (bW R) (s++z):=λr V=>by
  obtain⟨R,B,Y,O⟩:=w4 (cap:=[b0]) (fi:=bV<|ac 0) (f:=cF 0) (el:=aU xA<|ae (eI 1)<|ae (ac 0) aw) (ρ:=[bi<|bW r]) (λk:f7=>W.int k) (λk:f7=>W.int k) (λk=>k<n) b0 (λs _=>sL kv) #[0] (λ_ _=>trivial) λa J=>
   ⟨max 1 a,_,Nat.max_lt.mpr ⟨by lia,V.2 a J⟩,rfl,λs _=>{[],by
    rw[dh];refine bc (au cn kn) (Vj.trans ?_)
    congr 2
    split<;>lia}⟩
  exact{R,{B.trans V.1,Y},O}
 have middle:∀t:fy (fy f7),TL n t->∃I,TL n I/\∀s,[] <+: s->∃z,aU bU (ae (cb [b0] (bV<|ac 0) (cF 0) d_<|aU bU<|ae (cb [b0] (bV<|ac 0) (cF 0) d_<|aU xA<|ae (eI 1)<|ae (ac 0) aw) aw) aw) [bi<|fm t] s=.ok (fm I) (s++z):=λt tok=>by
  obtain⟨I,B,Y,O⟩:=w4 (cap:=[b0]) (fi:=bV<|ac 0) (f:=cF 0) (ρ:=[bi<|fm t]) bW bW (K7 n) b0 (λs _=>sL kv) (by rw[tok.1];lia) (λ_ _=>trivial) λa J=>by obtain⟨R,w,a2⟩:=inner a<|tok.2 a J;exact⟨R,_,w,rfl,a2⟩
  exact{I,{B.trans tok.1,Y},O}
 obtain⟨tb,B,Y,O⟩:=w4 (cap:=[b0]) (fi:=bV<|ac 3) (f:=cF 0) (ρ:=[bi M.w,bi<|.str M.nm,bi<|.tup<|M.gd.map W.bl,bi<|.tup<|M.tb.map fm]) fm fm (TL n) b0 (λs _=>sL kv) #[0] (λ_ _=>trivial) λt ht'=>by obtain⟨I,w,a2⟩:=middle t<|D.t t ht';exact⟨I,_,w,rfl,a2⟩
 obtain⟨z,e⟩:=O st List.nil_prefix;refine⟨{M.nm,M.gd,tb},rfl,rfl,{D.gd,B.trans D.tb,Y},?_⟩;refine f9 ?_ (by simp only[undWs,jc];exact rP {M.nm,M.gd,_} _);exact aH (NT rfl) (cM (tn.trans<|by rw[az L])<|cH (iF (au kv<|au kv<|au e a6)<|aB rfl)<|⟨_,_,rfl,rfl,_,rfl⟩)
theorem Tb(c d:f7)(s:fy al):uW (.str [d]) (.str [c]) s=.ok (.bl<|decide<|d≠c) s:=by
 have e:kr (.str [d]) (.str [c])=bi (decide<|d=c):=by
  simp[kr]
  by_cases h:d=c
  .subst h;simp
  simp[h]
 unfold uW;simp only[e];rw[ax<|.inl rfl,show(!decide (d=c))=decide (d≠c) by simp]
theorem DM{M:Mc}{c:f7}(D:yF M n)(U:M.nm.length<=8)(st:fy al):∃M':Mc,M'.nm=M.nm.filter (λd=>decide<|d≠c)/\yF M' n/\EY [M.w,.str [c]] st=.ok M'.w st:=by
 obtain⟨V,z⟩:∃V,V=M.nm.filter (λd=>decide<|d≠c):=⟨_,rfl⟩
 have hln:V.length<=8:=by rw[z];exact aW (eK _ _) U
 have R:2^V.length<=2^8:=cf #[0] hln;obtain⟨N,hNN⟩:∃N,N=2^V.length:=⟨_,rfl⟩
 have I:∀s:fy al,ml (.int 1) (.int V.length) s=.ok (.int N) s:=λs=>by rw[hNN];exact vF #[0]
 rw[<- hNN]at R
 let g:f7->fy (fy f7):=λq=>M.tb.getD (hU (mx<|eD V.reverse q) M.nm) []
 have r:∀q,M.tb[hU (mx<|eD V.reverse q) M.nm]?=bi (g q):=λq=>cE [] (by rw[D.tb];exact zZ _ _);refine⟨{V,M.gd,(uP N).map g},z,{D.gd,by rw[aj,jU];exact hNN,λt B=>?_},?_⟩
 .obtain⟨q,_,rfl⟩:=aX.mp B;exact D.t _<|aV<|r q
 .refine f9 (N:=5) (ws:=[M.w,.str [c]]) (body:=Pk) ?_ (by simp only[undWs,jc];exact rP {V,M.gd,_} _);obtain⟨x,J⟩:=KC (fe:=e2 bd (ac 0)<|eI 0) (t:=fD<|e2 uW (ac 0)<|ac 1) (cap:=[b0,bi 1]) (ρ:=[bi M.w,bi<|.str [c],b0,b0,b0]) (st:=st) (st1:=st) (l:=M.nm) (λd=>decide<|d≠c) (bw kv cn rfl) #[0] (by simp) λd _=>c_<|bw kv kv<|Tb c d st;rw[<- z]at J;apply aH
  .exact bB J
  apply aH
  ·(walk_at "evs")
  refine fw (λi Y s=>∃k:hJ W,Y=[bi M.w,bi<|.str [c],bi<|.str V,lO (st++x).length,k]/\s=st++x++[.lst<|((uP i).map g).map fm])
   (cS (q:=(N:hG)) (st1:=st++x++[al.lst []]) (au (bw cn (bc kn<|jo (by show _<=1000000;lia))<|I _) a6) #[0]) ⟨b0,rfl,rfl⟩ (λ_ _ _ _=>trivial) ?_ ?_
  .rintro i w Y s Z ⟨k,rfl,rfl⟩;obtain⟨L,rfl⟩:=dD Z;rw[aO]at L;refine{_,rfl,?_};rw[cI];have O:=lM (y:=fm<|g i) (s:=st++x++[.lst<|((uP i).map g).map fm]) aT (by rw[aj,aj,jU];lia);apply fZ
   .exact iZ (rN kv (gB aT) (au (bw (bw kv cn rfl) (cC (au (bw kv cn rfl)<|au (cC (au (KH kv (by show _<=1000000;omega)) kn) (p_ V.reverse (by rw[i4];lia) i _) rfl) a6) (og M.nm _ _) rfl)<|jI<|df (by rw[ai,r];rfl)) a6) O)
   .exact{_,_,rfl,_,rfl,by rw[iP,iK,bT];rfl}
  .rintro Y s ⟨k,rfl,rfl⟩;rw[bE,aO];apply cH
   .exact iF (au kv<|au (bw kv cn<|pZ M _)<|au (bc kn<|gu<|aL aT) a6) (aB rfl)
   .exact{_,_,rfl,rfl,_,by rw[aG]}
theorem Fj{f:FG}{k:bR}{b:f7}(g:α->W){Q:W->fy al->Prop}(mono:∀w s z,Q w s->Q w (s++z)):∀(as:fy α) (acc:fy W) (s:fy al),b<=s.length->(∀a∈as,∃I,f (g a) k=bi I/\∀s:fy al,b<=s.length->∃w z,el I s=.ok w (s++z)/\Q w (s++z)) ->
  ∃ws z,ws.length=as.length/\(∀w∈ws,Q w<|s++z)/\lD f d_ el b0 k (as.map g) acc s=.ok (acc++ws) (s++z)
 |[],acc,s,_,_=>{[],[],rfl,by simp,by rw[iV];unfold lD;rw[ax<|show iC s b0 from trivial];simp}
 |a::as,acc,s,hb,h=>by
  obtain⟨I,R,e2⟩:=h a (by simp);obtain⟨w,z,O,q⟩:=e2 s hb;obtain⟨ws,y,Z,B,Y⟩:=Fj g mono as (acc++[w]) (s++z) (by rw[aI];lia) λL d=>h L (by simp[d]);refine{w::ws,z++y,by simp[Z],λx J=>?_,?_}
  .grind
  rw[aZ];unfold lD;rw[ax (show iC s b0 from trivial),R];simp[d_,O];rw[Y,aG,aG];rfl
def Q1(b n:f7)(w:W)(s:fy al):Prop:=∃q r,w=.loc q/\s[q]?=bi (.lst<|nW r)/\K7 n r/\b<=q
def LQ(n:f7)(Q:W->fy al->Prop)(w:W)(s:fy al):Prop:=∃q ws,w=.loc q/\s[q]?=bi (.lst ws)/\ws.length=n/\∀w∈ws,Q w s
theorem Q1.app(k n:f7)(w:W)(s z:fy al)(h:Q1 k n w s):Q1 k n w (s++z):=by obtain⟨q,r,a,b,c⟩:=h;exact{q,r,a,a7 b,c}
theorem LQ.app{Q:W->fy al->Prop}(mono:∀w s z,Q w s->Q w (s++z))(n:f7)(w:W)(s z:fy al)(h:LQ n Q w s):LQ n Q w (s++z):=by obtain⟨q,B,a,b,c,d⟩:=h;exact{q,B,a,a7 b,c,λx J=>mono _ _ _<|d x J}
theorem Fk{f:FG}{cap:fy (hJ f7)}{as:fy α}{Q:W->fy al->Prop}{b:f7}(g:α->W)(mono:∀w s z,Q w s->Q w (s++z))(U:b<=st.length)(h:fi ρ st=.ok (as.map g,b0) st)(Y:as.length<=100000)
  (d:∀a∈as,∃I,f (g a) (kc cap ρ)=bi I/\∀s:fy al,b<=s.length->∃w z,el I s=.ok w (s++z)/\Q w (s++z)):∃w z,cb cap fi f d_ el ρ st=.ok w (st++z)/\LQ as.length Q w (st++z):=by obtain⟨J,z,Z,B,D⟩:=Fj g mono as [] st U d;refine{.loc (st++z).length,z++[.lst J],?_,_,J,rfl,by rw[<- aG];exact aT,Z,λw V=>by rw[<- aG];exact mono _ _ _<|B w V};unfold cb;rw[h];simp only[R.bind_ok];rw[ax (by rw[aj];show _<=1000000;lia),D];simp only[R.bind_ok,jh,jW];rw[ax (by show _<=1000000;lia),aG]
theorem Cc{M:Mc}(hM:yF M n)(h0:1<=n)(Z:n<=1000)(ht:M.tb.length<=1000){pk:f7}(hd:4<=ds.length)(I:st[pk]?=bi (.lst<|tQ ds)):∃M':Mc,M'.nm=M.nm/\yF M' n/\EW [M.w,.loc pk] st=.ok M'.w st:=by
 suffices hh:ia (zE λw bx=>(∃x,bx=st++x)/\undWs st.length [w]=cT/\∃M':Mc,w=M'.w/\M'.nm=M.nm/\yF M' n) (Pj ([M.w,.loc pk].map bi++rn (9-2) b0) st) by
  obtain⟨w,⟨M',rfl,Z,B⟩,e⟩:=zF hh;exact⟨M',Z,B,e⟩
 have hg:=hM.gd;have tp:1<=M.tb.length:=by rw[hM.tb];exact Nat.pow_pos #[0]
 have ln:b9 [.tup<|M.gd.map W.bl] st=.ok (.int (n:f7)) st:=by rw[kJ,aj,hg]
 apply aH
 .exact NT rfl
 apply aH
 .exact bB (bc kn ln)
 have tn:fD (e2 ik (ac 5)<|eI 1) [bi M.w,lO pk,bi<|.str M.nm,bi<|.tup<|M.gd.map W.bl,bi<|.tup<|M.tb.map fm,iO (n:f7),b0,b0,b0] st=.ok (decide<|n=1) st:=c_ (bw kv cn (kA (by
  by_cases h:n=1
  .rw[h];rfl
  .rw[az h,bj];lia)))
 by_cases D:n=1
 .apply dC
  .exact tn.trans (by rw[aR D])
  apply dg
  .exact ef rfl
  .exact{_,_,rfl,{[],by simp},by simp only[undWs,jc];exact rP M _,M,rfl,rfl,hM}
 apply cM
 .exact tn.trans (by rw[az D])
 apply eA;obtain⟨w6,z6,e6,p6,ws,rfl,c6,l6,q6⟩:=Fk (cap:=[b0]) (fi:=bV<|ac 4) (f:=cF 0) (el:=cb [b0] (bV<|ac 0) (cF 0) d_<|aU uC<|ae (ac 0) aw) (ρ:=[bi M.w,lO pk,bi<|.str M.nm,bi<|.tup<|M.gd.map W.bl,bi<|.tup<|M.tb.map fm,iO (n:f7),b0,b0,b0]) (st:=st) (as:=M.tb) (Q:=LQ n<|Q1 st.length n) fm (LQ.app (Q1.app st.length n) n) (av _) (sL kv) #[0] λt ht'=>{_,rfl,λs U=>by
  have tok:=hM.t t ht';obtain⟨w,z,e,h⟩:=Fk (cap:=[b0]) (fi:=bV<|ac 0) (f:=cF 0) (el:=aU uC<|ae (ac 0) aw) (ρ:=[bi<|fm t]) (st:=s) (as:=t) (Q:=Q1 st.length n) bW (Q1.app st.length n) U (sL (fe:=ac 0)<|ef (i:=0) rfl) (by rw[tok.1];lia) λr V=>{_,rfl,λs U=>⟨_,_,bc kn Kz,_,r,rfl,aT,tok.2 r V,U⟩}
  rw[tok.1]at h;exact⟨w,z,e,h⟩}
 apply aH
 .exact oU e6 rfl
 generalize oy:st++z6=s1 at c6 q6;have k1:st <+: s1:=by rw[<- oy];exact ag _ _
 have dm:∀(i k:f7),i<4->0<k->∃m:f7,m<k/\∀(Y:bR) (s:fy al) (fk:FE),Y[1]?=bi (lO pk)->st <+: s->fk Y s=.ok (.int (k:f7)) s->e2 dE (e2 bd (ac 1)<|eC<|.int (i:f7)) fk Y s=.ok (.int (m:f7)) s:=λi k L J=>by
  obtain⟨d,hd'⟩:∃d,ds[i]?=bi d:={_,ak #[0]}
  obtain⟨m,hm,em⟩:=n9 (q:=d) (n:=k) J;refine{m,hm,λY s fk h O hf=>?_};rw[<- em];exact bw (bw (ef h) cn<|ku (pre_get O I) hd') hf<|kg #[0]
 obtain⟨m0,hm0,em0⟩:=dm 0 M.tb.length #[0] tp;obtain⟨m1,hm1,em1⟩:=dm 1 n #[0] #[0];obtain⟨m2,hm2,em2⟩:=dm 2 n #[0] #[0];obtain⟨m3,hm3,em3⟩:=dm 3 (n-1) #[0] #[0];obtain⟨w0,hw0⟩:∃w,ws[m0]?=bi w:={_,ak #[0]}
 obtain⟨pl,wl,rfl,cl,ll,ql⟩:=q6 w0<|aV hw0;obtain⟨w1,hw1⟩:∃w,wl[m1]?=bi w:={_,ak #[0]}
 obtain⟨q0,r,rfl,c0,V,hb0⟩:=ql w1<|aV hw1;apply aH
 .exact bB (bw (bw kv (em0 _ _ _ rfl k1 (bc kn<|by rw[jp<|aL c6,l6]))<|kB (aL c6)<|df hw0) (em1 _ _ _ rfl k1 kv)<|kB (aL cl)<|df hw1)
 apply aH
 .exact bB (em2 _ _ _ rfl k1 kv)
 have r2:=cE 0 (show m2<r.length by rw[V.1];exact hm2);generalize r.getD m2 0=x2 at r2;obtain⟨v,hv,ev⟩:=n9 (q:=(x2:hG)+1+(m3:hG)) (n:=n) #[0];have evl:e2 dE (e2 dF (e2 dF (e2 bd (ac 7)<|ac 8)<|eI 1)<|e2 dE (e2 bd (ac 1)<|eI 3)<|e2 tX (ac 5)<|eI 1) (ac 5) [bi M.w,lO pk,bi<|.str M.nm,bi<|.tup<|M.gd.map W.bl,bi<|.tup<|M.tb.map fm,iO (n:f7),lO p6,lO q0,iO (m2:f7)] s1=.ok (.int (v:f7)) s1:=by rw[<- ev];exact bw (bw (bw (bw kv kv<|wM c0 r2) cn eN) (em3 _ _ _ rfl k1 (bw kv cn (by rw[show((n-1:f7):hG)=(n:hG)-1 by lia];exact kg trivial))) eN) kv<|kg #[0]
 apply aH
 .exact uJ evl kv kv (zW c0 (by rw[nW,aj,V.1];exact hm2))
 have ec:(nW r).set m2 (.int (v:f7))=nW (r.set m2 v):=by unfold nW;rw[oM]
 rw[ec];generalize oq:s1.set q0 (.lst<|nW<|r.set m2 v)=s2;have hst2:∀q c,q≠q0->s1[q]?=bi c->s2[q]?=bi c:=λq c hq h=>by rw[<- oq,pX<|Zw hq];exact h
 have k2:∃x,s2=st++x:=by obtain⟨x,e⟩:=gU k1 hb0 (c:=.lst<|nW<|r.set m2 v);exact{x,by rw[<- oq,e]}
 have Q1s:∀w,Q1 st.length n w s1->Q1 st.length n w s2:=λw zq=>by
  obtain⟨q,r',a,b,c,d⟩:=zq
  by_cases e:q=q0
  .exact{q,_,a,by rw[e,<- oq];exact i3 c0,{by rw[gg];exact V.1,λk J=>by
    rcases E2 J with z|z
    .exact V.2 k z
    .rw[z];exact hv},d}
  .exact{q,r',a,hst2 q _ e b,c,d}
 have nl:∀(q:f7) (us:fy W) (N:f7) (Q:W->fy al->Prop),s1[q]?=bi (.lst us)->us.length=N->1<=N->(∀w∈us,∃p,w=.loc p)->q≠q0:=λq us N Q Z B h3 h4 e=>by
  rw[e,c0]at Z;have R:nW r=us:=by injection Z with Z;injection Z
  obtain⟨p,I⟩:=h4 (us[0]'#[0])<|dS _;have:us[0]?=bi (.loc p):=by rw[ak #[0],I]
  rw[<- R,nW,ai]at this
  cases hr0:r[0]? with
  |none=>rw[hr0]at this;cases this
  |some k=>rw[hr0]at this;cases this
 have Q2s:∀w,LQ n (Q1 st.length n) w s1->LQ n (Q1 st.length n) w s2:=λw ⟨q,us,a,b,c,d⟩=>
  ⟨q,us,a,hst2 q _ (nl q us n (Q1 0 n) b c h0 λw hw=>by obtain⟨p,_,e,_⟩:=d w hw;exact⟨p,e⟩) b,c,λw hw=>Q1s w<|d w hw⟩
 have c6':=hst2 p6 _ (nl p6 ws _ (Q1 0 n) c6 l6 tp λw hw=>by obtain⟨p,_,e,_⟩:=q6 w hw;exact⟨p,e⟩) c6;obtain⟨tb,t1,t2,t3⟩:=w4 (cap:=[b0]) (fi:=bV<|ac 6) (f:=cF 0) (el:=aU bU<|ae (cb [b0] (bV<|ac 0) (cF 0) d_<|aU bU<|ae (ac 0) aw) aw) (ρ:=[bi M.w,lO pk,bi<|.str M.nm,bi<|.tup<|M.gd.map W.bl,bi<|.tup<|M.tb.map fm,iO (n:f7),lO p6,lO q0,iO (m2:f7)]) (st:=s2) (as:=ws) id fm (TL n) (bi (p6,ws)) (λs h=>by rw[fO];exact gm kv<|aL<|pre_get h c6') #[0] (λs h=>aL<|pre_get h c6') λw hw=>by
  obtain⟨q,us,rfl,b,c,d⟩:=Q2s w<|q6 w hw;obtain⟨t,u1,u2,u3⟩:=w4 (cap:=[b0]) (fi:=bV<|ac 0) (f:=cF 0) (el:=aU bU<|ae (ac 0) aw) (ρ:=[lO q]) (st:=s2) (as:=us) id bW (K7 n) (bi (q,us)) (λs h=>by rw[fO];exact gm (fe:=ac 0) (ef (i:=0) rfl)<|aL<|pre_get h b) (by omega) (λs h=>aL<|pre_get h b) λw hw=>by obtain⟨q',r',rfl,b',c',_⟩:=d w hw;exact{r',_,c',rfl,λs h=>⟨[],by rw[dh];exact bc kn<|gu<|aL<|pre_get h b'⟩}
  exact{t,_,{u1.trans c,u2},rfl,u3}
 obtain⟨z,e⟩:=t3 s2<|af _;obtain⟨x,ex⟩:=k2;apply cH
 .exact iF (au kv<|au kv<|au e a6) (aB rfl)
 .exact{_,_,rfl,{x++z,by rw[ex,aG]},by simp only[undWs,jc];exact rP {M.nm,M.gd,tb} _,{M.nm,M.gd,tb},rfl,rfl,hM.gd,(t1.trans l6).trans hM.tb,t2}
theorem K9(l:fy f7):∃m:fy f7,m.Perm l/\jx (l.map λc=>[c])=m.map λc=>[c]:=by
 have key:∀{l m:fy (fy f7)},l.Perm m->∀t:fy f7,m=t.map (λc=>[c])->∃Z:fy f7,Z.Perm t/\l=Z.map λc=>[c]:=by
  intro l m h
  induction h with
  |nil=>intro t e;exact{t,.refl _,e}
  |cons x _ U=>
   intro t e
   cases t with
   |nil=>cases e
   |cons a t=>
    obtain⟨R,e2⟩:=rh e;obtain⟨Z,p,q⟩:=U t e2;exact{a::Z,p.cons a,by rw[aZ,q,R]}
  |swap x y l=>
   intro t e
   match t,e with
   |[],e=>cases e
   |[_],e=>simp at e
   |a::b::t,e=>
    simp at e;obtain⟨R,e2,O⟩:=e;exact{b::a::t,aaG _ _ _,by simp[R,e2,O]}
  |trans _ _ Y d=>
   intro t e;obtain⟨r,B,w⟩:=d t e;obtain⟨L,k,z⟩:=Y r w;exact{L,k.trans B,z}
 obtain⟨t,p,e⟩:=key (gR _) l rfl;exact⟨t,p,e⟩
theorem Td(L:l.Nodup):(mx l).Pairwise (· < ·):=by
 obtain⟨m,p,e⟩:=K9 l;have D:=vS<|l.map λc=>[c];unfold mx;rw[e]at D ⊢;rw[ur];exact((jT.mp D).and<|p.nodup_iff.mpr L).imp λ{a b} h=>by have z:¬ b<a:=λz=>h.1<|DH.mpr z;omega
def Ag{s1:fy al}(h:fe ρ st=.ok (.str l) s1)(U:l.length<64) :
  Cv jZ (eC<|.str []) (ae (aU kI<|ae fe aw) aw) ρ st=.ok (.str<|mx l) (s1++[.lst<|(jx<|l.map λc=>[c]).map W.str]):=by
 have d:kI [.str l] s1=.ok (.loc s1.length) (s1++[.lst<|(jx<|l.map λc=>[c]).map W.str]):=by unfold kI;simp only;rw[ax U]
 have z:lstOf (s1++[al.lst<|(jx<|l.map λc=>[c]).map W.str]) s1.length=bi ((jx<|l.map λc=>[c]).map W.str):=aL aT;have O:=rO (sep:=[]) z (by rw[wK<|gR _,sT];show _<=1000000;simp;omega);exact zD cn rfl (au (bc (au h a6) d) a6) O
noncomputable def Gm(nm:fy f7):Mc:={nm,[cT],(uP<|2^nm.length).map λ_=>[[0]]}
theorem K_(nm:fy f7):yF (Gm nm) 1:={rfl,by simp[Gm],λt B=>by obtain⟨_,_,rfl⟩:=aX.mp B;exact⟨rfl,λr V=>by rw[a_.mp V];exact{rfl,λk O=>by rw[a_.mp O];lia}⟩}
theorem K'{fn:FE}{nm:fy f7}(O:fn ρ st=.ok (.str nm) st)(U:nm.length<=8):eX (ae fn<|ae (eX<|ae (eC<|.bl cT) aw)<|ae (aU bU<|ae (cb [b0] (bq<|ae (e2 ml (eI 1)<|aU b9<|ae fn aw) aw) (cF 0) d_<|eX<|ae (eX<|ae (eI 0) aw) aw) aw) aw) ρ st=.ok (Gm nm).w (st++[.lst<|(Gm nm).tb.map fm]):=by
 have d:2^nm.length<=2^8:=cf #[0] U;obtain⟨N,z⟩:∃N,N=2^nm.length:=⟨_,rfl⟩
 have I:ml (.int 1) (.int nm.length) st=.ok (.int N) st:=by rw[z];exact vF #[0]
 have Y:=vk (cap:=[b0]) (f:=cF 0) (λ_=>fm [[0]])
  (cS (au (bw cn (bc (au O a6)<|jo (by show _<=1000000;lia)) I) a6) #[0]) (by rw[bE];show _<=1000000;lia) trivial λw Z=>{_,rfl,iF (au (iF (au cn a6)<|by decide) a6)<|by decide}
 have e:(iD 0 (N:hG).toNat).map (λ_=>fm [[0]])=(Gm nm).tb.map fm:=by show _=((uP<|2^nm.length).map λ_=>[[0]]).map fm;rw[<- z,iD,aN,aN];rfl
 rw[e]at Y;exact iF (au O<|au (iF (au cn a6)<|aB rfl)<|au (bc (au Y a6)<|gu<|aL aT) a6)<|aB rfl
theorem NU{k:fy f7}(z:nm.Nodup)(V:∀r∈rows,r=[0,0])(W:rows≠[]):oW 0 [Gm k] (Gm k) nm rows=cT:=by
 have J:[0,0]∈rows:=by
  cases rows with
  |nil=>exact absurd rfl W
  |cons r L=>rw[V r<|by simp];simp
 have w:rows.all (xK<|[Gm k]++[Gm k])=cT:=bC.mpr λr h=>by rw[V r h];rfl
 have O:rows.all (uv 0 [Gm k]<|Gm k)=cT:=bC.mpr λr h=>by rw[V r h];rfl
 have Y:wW rows (2^nm.length) (LG ([Gm k]++[Gm k]) nm)=cT:=by
  refine bC.mpr λl U=>bC.mpr λr I=>bC.mpr λq Z=>aR ?_;rw[V l U,V r I];have G3:Pq (Gm k) nm q 0 0=0:=by obtain⟨t,v,_,_,_,_,_,h⟩:=wO (a:=0) (b:=0) (K_ k) (yG (own:=k) z q) (by omega) (by omega);exact Nat.lt_one_iff.mp h
  have:LG ([Gm k]++[Gm k]) nm q [0,0] [0,0]=vn [Pq (Gm k) nm q 0 0,Pq (Gm k) nm q 0 0]:=rfl;rw[this,G3];exact J
 unfold oW;rw[w,O,Y];simp[J]
def La{k:f7}{ps:fy Mc}{M:Mc}{r:fy hG}(h:r∈rows)(U:xK (ps++[M]) r=eh):oW k ps M nm rows=eh:=by unfold oW;rw[show rows.all (xK<|ps++[M])=eh from by rw[<- nP,bC];exact λz=>by have:=z r h;rw[U]at this;cases this];rfl
def PD:∀s:fy al,ik Wa Wa s=.ok (.bl cT) s:=λs=>by unfold Wa ik;simp only[kr,eqWs];rw[ax<|.inr<|by decide];rfl
theorem fS{Z:f7}{w:fy al}(Y:w[Z]?=bi (.lst<|tQ ds)){k:f7}(L:i<ds.length)(J:0<k){j:f7}:∃m:f7,m<k/\∀(ρ:bR) (s:fy al) (W:FE),ρ[j]?=bi (lO Z)->w <+: s->W ρ s=.ok (.int (k:f7)) s->e2 dE (e2 bd (ac j)<|eC<|.int (i:f7)) W ρ s=.ok (.int (m:f7)) s:=by
 obtain⟨d,I⟩:∃d,ds[i]?=bi d:={_,ak L}
 obtain⟨m,hm,r⟩:=n9 J;refine{m,hm,λρ s W h O z=>?_};rw[<- r];exact bw (bw (ef h) cn<|ku (pre_get O Y) I) z<|kg #[0]
theorem gT{P:RS->Prop}{g cN:FS}(J:bR->fy al->Prop)(h:ia (LF J) (g ρ st))(B:∀ρ st,J ρ st->ia P (cN ρ st)):ia P (aY g cN ρ st):=by obtain⟨I,U,e,O⟩:=h;exact aH e<|B _ _ O
theorem Lb{eE:fy f7}{pz:f7}(O:ds.length=14)(L:eE.length=14)(J:eE.Nodup)(hL:∀c∈eE,c∈LL)(cz:st[pz]?=bi (.lst<|tQ ds))(np:bM st)(I:st[1]?=bi SC):EZ [.loc pz,.str eE] st=.ok (.bl cT) st:=by
 have hLm:eE.length<=j':=by show _<=1000000;omega
 refine f9 (N:=10) (ws:=[.loc pz,.str eE]) (body:=Pl) ?_ rfl;obtain⟨m1,hm1,R⟩:=fS (j:=0) cz (i:=1) (k:=2) (by omega) (by omega);obtain⟨m2,hm2,e2'⟩:=fS (j:=0) cz (i:=2) (k:=2) (by omega) (by omega);have t1:fD (e2 ik (e2 dE (e2 bd (ac 0)<|eI 1)<|eI 2)<|eI 1) [lO pz,bi<|.str eE,b0,b0,b0,b0,b0,b0,b0,b0] st=.ok (decide<|m1=1) st:=c_ (bw (R _ _ _ rfl (af _) cn) cn (kA (by
  by_cases h:m1=1
  .rw[h];rfl
  .rw[az h,bj];omega)))
 have asc:∀l:fy f7,l.Nodup->(mx l).Pairwise (· < ·):=λl h=>Td h
 by_cases Z:m1=1
 .apply dC
  .exact t1.trans (by rw[aR Z])
  obtain⟨m5,hm5,e5⟩:=fS (j:=0) cz (i:=5) (k:=4) (by omega) (by omega);obtain⟨m3,hm3,e3⟩:=fS (j:=0) cz (i:=3) (k:=3) (by omega) (by omega);obtain⟨m4,hm4,e4⟩:=fS (j:=0) cz (i:=4) (k:=4) (by omega) (by omega);have tl:(eE.take m5).length=m5:=by rw[bh];omega
  have es:=Ag (fe:=F' (ac 1) sw<|kS<|e2 dE (e2 bd (ac 0)<|eI 5)<|eI 4) (ρ:=[lO pz,bi<|.str eE,b0,b0,b0,b0,b0,b0,b0,b0]) (st:=st) (s1:=st) (l:=eE.take m5) (GG kv Nn (BD<|e5 _ _ _ rfl (af _) cn)<|by rw[EJ hLm,qF<|by omega]) (by omega);obtain⟨nm,mj⟩:∃nm,nm=mx (eE.take m5):=⟨_,rfl⟩
  have xO:nm.length=m5:=by rw[mj,vm,tl]
  have om:nm.Pairwise (· < ·):=by rw[mj];exact asc _<|J.sublist<|iu _ _
  have hLn:∀c∈nm,c∈LL:=λc D=>hL c (List.mem_of_mem_take<|(pY _).mem_iff.mp (by rw[<- mj];exact D));rw[<- mj]at es;apply iQ;apply aH
  .exact bB es
  generalize oy:st++[al.lst<|(jx<|(eE.take m5).map λc=>[c]).map W.str]=s1;have k1:st <+: s1:=by rw[<- oy];exact ag _ _
  have np1:bM s1:=by rw[<- oy];exact cQ np<|lh _
  obtain⟨mo,hmo⟩:∃mo,mo=[200,141,100,70].getD m5 0:=⟨_,rfl⟩
  have e3':e2 bd (dW<|ae (eI 200)<|ae (eI 141)<|ae (eI 100)<|ae (eI 70) aw) (aU b9<|ae (ac 2) aw) [lO pz,bi<|.str eE,bi<|.str nm,b0,b0,b0,b0,b0,b0,b0] s1=.ok (.int (mo:f7)) (s1++[.lst<|nW [200,141,100,70]]):=by refine bw (y:=.int (nm.length:f7)) (show dW _ _ s1=.ok (.loc s1.length) (s1++[.lst<|nW [200,141,100,70]])from rfl) (bc kn<|jo (by show _<=1000000;omega))<|wM aT ?_;rw[xO,hmo];exact cE 0 (by simp;omega)
  apply iQ;apply aH
  .exact bB e3'
  generalize oq:s1++[al.lst<|nW [200,141,100,70]]=s2;have k2:st <+: s2:=by rw[<- oq];exact k1.trans<|ag _ _
  have np2:bM s2:=by rw[<- oq];exact cQ np1<|lh _
  apply iQ;apply aH
  .exact bB (bw kv (e2' _ _ _ rfl k2 cn) eN)
  rw[show(mo:hG)+(m2:hG)=((mo+m2:f7):hG) by omega];have hmo2:70<=mo/\mo<=200:=by
   rw[hmo];obtain rfl|rfl|rfl|rfl:m5=0\/m5=1\/m5=2\/m5=3:=by omega
   all_goals exact{by decide,by decide}
  obtain⟨ct,LI⟩:∃ct,ct=mo+m2:=⟨_,rfl⟩
  rw[<- LI];apply iQ;apply aH
  .exact bB (K' (fn:=ac 2) (nm:=nm) kv<|by omega)
  generalize hs3:s2++[al.lst<|(Gm nm).tb.map fm]=s3;have k3:st <+: s3:=by rw[<- hs3];exact k2.trans<|ag _ _
  have np3:bM s3:=by rw[<- hs3];exact cQ np2<|lh _
  have el0:dW (ae (eX<|ae (eI 0)<|ae (eI 0) aw) aw) [lO pz,bi<|.str eE,bi<|.str nm,iO (mo:f7),iO (ct:f7),bi (Gm nm).w,b0,b0,b0,b0] s3=.ok (.loc s3.length) (s3++[.lst [bH [0,0]]]):=rfl;have em:uD (.loc s3.length) (.int (ct:f7)) (s3++[.lst [bH [0,0]]])=.ok (.loc (s3++[al.lst [bH [0,0]]]).length) (s3++[.lst [bH [0,0]]]++[.lst<|(rn ct [0,0]).map bH]):=by
   unfold uD;simp only[aT];rw[ax {by omega,by omega,by show 1*(ct:hG).toNat<=1000000;omega},aO];unfold jW;have e:(rn ct [bH [0,0]]).flatten=(rn ct [0,0]).map bH:=by rw[List.flatten_replicate_singleton,List.map_replicate]
   rw[e,ax (by rw[aj,cY];show _<=1000000;omega)]
  apply iQ;apply aH
  .exact bB (bw el0 kv em)
  obtain⟨pr,hpr⟩:∃pr,pr=(s3++[al.lst [bH [0,0]]]).length:=⟨_,rfl⟩
  rw[<- hpr];generalize hs4:s3++[al.lst [bH [0,0]]]++[al.lst<|(rn ct [0,0]).map bH]=s4;have c4:s4[pr]?=bi (.lst<|(rn ct [0,0]).map bH):=by rw[<- hs4,hpr];exact aT
  have k4:st <+: s4:=by rw[<- hs4];exact k3.trans<|(ag _ _).trans<|ag _ _
  have np4:bM s4:=by rw[<- hs4];exact cQ (cQ np3<|lh _)<|lh _
  have pst:st.length<=pr:=by rw[hpr,aI];have:=k3.length_le;omega
  have hc0:(13<nm.length\/40000<ct*ct*2^nm.length)↔m2=1:=by
   rw[xO,LI,hmo];obtain rfl|rfl:m2=0\/m2=1:=by omega
   all_goals
    obtain rfl|rfl|rfl|rfl:m5=0\/m5=1\/m5=2\/m5=3:=by omega
    all_goals decide
  apply iQ;refine gT (λY s=>∃w:fy (fy hG),Y=[lO pz,bi<|.str eE,bi<|.str nm,iO (mo:f7),iO (ct:f7),bi (Gm nm).w,lO pr,b0,b0,b0]/\st <+: s/\bM s/\s[pr]?=bi (.lst<|w.map bH)/\w.length=ct/\(∀r∈w,r.length=2)/\oW 0 [Gm nm] (Gm nm) nm w=decide (m3=0)) ?_ ?_
  .have t3:fD (e2 F9 (e2 dE (e2 bd (ac 0)<|eI 3)<|eI 3)<|eI 0) [lO pz,bi<|.str eE,bi<|.str nm,iO (mo:f7),iO (ct:f7),bi (Gm nm).w,lO pr,b0,b0,b0] s4=.ok (decide<|(0:hG)<(m3:hG)) s4:=c_<|bw (e3 _ _ _ rfl k4 cn) cn<|lK rfl
   by_cases d:m3=0
   .apply iH
    .exact t3.trans (by rw[d];rfl)
    exact{_,_,rfl,_,rfl,k4,np4,c4,cY,λr V=>by rw[jd V];rfl,by rw[aR d];exact NU (om.imp λh=>aM h) (λr V=>jd V) (by intro e;have:=eJ ZH e;rw[cY]at this;simp at this;omega)}
   .obtain⟨b,U⟩:∃b,b=([[1,0],[0,-1],[0,1],[-1,0]]:fy (fy hG)).getD m4 []:=⟨_,rfl⟩
    have hb2:b.length=2/\xK [Gm nm,Gm nm] b=eh:=by
     rw[U];obtain rfl|rfl|rfl|rfl:m4=0\/m4=1\/m4=2\/m4=3:=by omega
     all_goals exact⟨rfl,rfl⟩
    have ev:e2 bd (dW<|ae (eX<|ae (eI 1)<|ae (eI 0) aw)<|ae (eX<|ae (eI 0)<|ae (t8<|eI 1) aw)<|ae (eX<|ae (eI 0)<|ae (eI 1) aw)<|ae (eX<|ae (t8<|eI 1)<|ae (eI 0) aw) aw) (e2 dE (e2 bd (ac 0)<|eI 4)<|eI 4) [lO pz,bi<|.str eE,bi<|.str nm,iO (mo:f7),iO (ct:f7),bi (Gm nm).w,lO pr,b0,b0,b0] s4=.ok (bH b) (s4++[.lst<|([[1,0],[0,-1],[0,1],[-1,0]]:fy (fy hG)).map bH]):=
     bw (show dW _ _ s4=.ok (.loc s4.length) (s4++[.lst<|([[1,0],[0,-1],[0,1],[-1,0]]:fy (fy hG)).map bH])from rfl) (e4 _ _ _ rfl (je k4) cn) (kB (aL aT)<|df (by rw[ai,cE [] (show m4<([[1,0],[0,-1],[0,1],[-1,0]]:fy (fy hG)).length by simp;omega),U];rfl))
    generalize hs5:s4++[al.lst<|([[1,0],[0,-1],[0,1],[-1,0]]:fy (fy hG)).map bH]=s5 at ev;have k5:s4 <+: s5:=by rw[<- hs5];exact ag _ _
    have np5:bM s5:=by rw[<- hs5];exact cQ np4<|lh _
    obtain⟨ix,hix,eix⟩:∃ix:f7,ix<ct/\((ct:hG)-1)*((m3:hG)-1)=(ix:hG):=by
     obtain rfl|rfl:m3=1\/m3=2:=by omega
     .exact{0,by omega,by simp}
     .exact{ct-1,by omega,by omega}
    have ei:e2 fM (e2 tX (ac 4)<|eI 1) (e2 tX (e2 dE (e2 bd (ac 0)<|eI 3)<|eI 3)<|eI 1) [lO pz,bi<|.str eE,bi<|.str nm,iO (mo:f7),iO (ct:f7),bi (Gm nm).w,lO pr,b0,b0,b0] s5=.ok (.int (ix:f7)) s5:=by
     rw[<- eix];refine bw (bw kv cn<|kg trivial) (bw (e3 _ _ _ rfl (k4.trans k5) cn) cn<|kg trivial)<|jH ?_;obtain rfl|rfl:m3=1\/m3=2:=by omega
     .exact .inr (by decide)
     .exact .inr (by decide)
    have c5:=pre_get k5 c4;apply iG
    .exact t3.trans (by rw[aR<|by omega])
    refine{_,_,uJ ev kv ei (zW c5 (by rw[aj,cY];exact hix)),(rn ct [0,0]).set ix b,rfl,gU (k4.trans k5) pst,uO np5 λ_=>rfl,by rw[i3 c5,oM],by rw[gg,cY],λr V=>?_,?_}
    .rcases E2 V with z|z
     .rw[jd z];rfl
     .rw[z];exact hb2.1
    .rw[az d];exact La (r:=b) (aV<|bt (by rw[cY];exact hix)) hb2.2
  rintro Y s ⟨w,rfl,k5,np5,c5,mi,hrn,hlk⟩;have qZ:rQ ([Gm nm]++[Gm nm]):=λM hM=>by
   have:M=Gm nm:=by simpa using hM
   rw[this];exact K_ nm
  have hnms:fF ([Gm nm]++[Gm nm])=nm++nm:=by simp[fF,Gm]
  have ea:=wZ (k:=0) (by omega) (ps:=[Gm nm]) (M:=Gm nm) (rows:=w) (nm:=nm) qZ (av 1) (λh=>by omega) (aB rfl) (by rw[hnms];exact t9 (m_ _) om λc=>by rw[ke];simp) (by rw[hnms];intro c D;simp at D;exact hLn c D) (by rw[hnms,aI];omega) (by omega) (by omega) hrn (st:=s++[.lst [(Gm nm).w]]) (cQ np5<|lh _) (a7<|pre_get k5 I) (pp:=s.length) (pr:=pr) aT<|a7 c5;rw[mi,hlk]at ea;apply iQ;apply aH
  .exact bB (cC (au cn<|au (show dW (ae (ac 5) aw) _ s=.ok (.loc s.length) (s++[.lst [(Gm nm).w]])from rfl)<|au kv kn) ea rfl)
  obtain⟨x,ex⟩:=k5;have jC:∃x,s++[al.lst [(Gm nm).w]]=st++x:={x++[.lst [(Gm nm).w]],by rw[<- ex,aG]}
  have tg:∀o:hJ W,fD (e2 F9 (ac 4)<|ac 3) [lO pz,bi<|.str eE,bi<|.str nm,iO (mo:f7),iO (ct:f7),bi (Gm nm).w,lO pr,o,b0,b0] (s++[.lst [(Gm nm).w]])=.ok (decide<|(mo:hG)<(ct:hG)) (s++[.lst [(Gm nm).w]]):=λo=>c_<|bw kv kv<|lK rfl
  by_cases B:m2=1
  .rw[ax<|hc0.mpr B];apply iQ;apply dC
   .exact(tg _).trans (by rw[aR<|by omega])
   apply dg
   .exact bw kv (iF (au cn<|au cn a6)<|aB rfl) (PD _)
   .exact⟨_,_,rfl,rfl,jC⟩
  .rw[aF<|λz=>B<|hc0.mp z];apply iQ;apply cM
   .exact(tg _).trans (by rw[az<|by omega])
   apply eA;apply dg
   .refine qE (EH kv rfl rfl) (bw kv (bw (e3 _ _ _ rfl (by rw[ex.symm];exact(ag _ _).trans (ag _ _)) cn) cn<|kA (k:=decide<|m3=0) ?_)<|EK (b:=cT)<|ko _)
    by_cases h:m3=0
    .rw[h];rfl
    .rw[az h,bj];omega
   .exact⟨_,_,rfl,rfl,jC⟩
 .apply cM
  .exact t1.trans (by rw[az Z])
  apply eA;apply aH
  .exact bB (bw cn (e2' _ _ _ rfl (af _) cn) eN)
  rw[show(13:hG)+(m2:hG)=((13+m2:f7):hG) by omega];obtain⟨ct,LI⟩:∃ct,ct=13+m2:=⟨_,rfl⟩
  rw[<- LI];have l7:(eE.take 7).length=7:=by rw[bh];omega
  have l8:((eE.drop 7).take<|ct-7).length=ct-7:=by rw[bh,dv];omega
  have es:=Ag (fe:=F' (ac 1) sw<|kS<|eI 7) (ρ:=[lO pz,bi<|.str eE,b0,b0,iO (ct:f7),b0,b0,b0,b0,b0]) (st:=st) (s1:=st) (l:=eE.take 7) (GG kv Nn (BD (q:=((7:f7):hG)) cn)<|by rw[EJ hLm,qF<|by omega]) (by omega);obtain⟨na,hna⟩:∃na,na=mx (eE.take 7):=⟨_,rfl⟩
  have nal:na.length=7:=by rw[hna,vm,l7]
  rw[<- hna]at es;apply aH
  .exact bB es
  generalize oy:st++[al.lst<|(jx<|(eE.take 7).map λc=>[c]).map W.str]=s1;have k1:st <+: s1:=by rw[<- oy];exact ag _ _
  have np1:bM s1:=by rw[<- oy];exact cQ np<|lh _
  have es2:=Ag (fe:=F' (ac 1) (kS<|eI 7)<|kS<|ac 4) (ρ:=[lO pz,bi<|.str eE,bi<|.str na,b0,iO (ct:f7),b0,b0,b0,b0,b0]) (st:=s1) (s1:=s1) (l:=(eE.drop 7).take<|ct-7) (GG kv (BD (q:=((7:f7):hG)) cn) (BD (q:=(ct:hG)) kv)<|by rw[EJ hLm,JI (by omega)<|by omega]) (by omega);obtain⟨nb,hnb⟩:∃nb,nb=mx ((eE.drop 7).take<|ct-7):=⟨_,rfl⟩
  have nbl:nb.length=ct-7:=by rw[hnb,vm,l8]
  rw[<- hnb]at es2;apply aH
  .exact bB es2
  generalize oq:s1++[al.lst<|(jx<|((eE.drop 7).take<|ct-7).map λc=>[c]).map W.str]=s2;have k2:st <+: s2:=by rw[<- oq];exact k1.trans<|ag _ _
  have np2:bM s2:=by rw[<- oq];exact cQ np1<|lh _
  apply aH
  .exact bB (K' (fn:=ac 2) (nm:=na) kv<|by omega)
  apply aH
  .exact bB (K' (fn:=ac 8) (nm:=nb) kv<|by omega)
  generalize hs3:s2++[al.lst<|(Gm na).tb.map fm]++[al.lst<|(Gm nb).tb.map fm]=s3;have k3:st <+: s3:=by rw[<- hs3];exact k2.trans<|(ag _ _).trans<|ag _ _
  have np3:bM s3:=by rw[<- hs3];exact cQ (cQ np2<|lh _)<|lh _
  have qZ:rQ ([Gm na]++[Gm nb]):=λM hM=>by
   have:M=Gm na\/M=Gm nb:=by simpa using hM
   rcases this with e|e<;>rw[e]<;>exact K_ _
  have hnms:fF ([Gm na]++[Gm nb])=na++nb:=by simp[fF,Gm]
  have hpe:(na++nb).Perm (eE.take 7++(eE.drop 7).take (ct-7)):=by rw[hna,hnb];exact(pY _).append (pY _)
  have hsb:(eE.take 7++(eE.drop 7).take (ct-7)).Sublist eE:=by have:=(List.Sublist.refl<|eE.take 7).append<|iu (ct-7)<|eE.drop 7;rwa[pB]at this
  have ve:(na++nb).Nodup:=hpe.nodup_iff.mpr<|J.sublist hsb;have hLn:∀c∈na++nb,c∈LL:=λc D=>hL c<|hsb.subset<|hpe.mem_iff.mp D;obtain⟨nm,mj⟩:∃nm,nm=kW (na++nb):=⟨_,rfl⟩
  have xO:nm.length=ct:=by
   have Z:=eU ve (l:=nm) λc D=>by rw[mj];exact ke.mpr D
   have B:=eU (show nm.Nodup by rw[mj];exact(m_ _).imp λh=>aM h) (l:=na++nb) λc D=>by rw[mj]at D;exact ke.mp D
   rw[aI]at Z B;omega
  have ea:=wZ (k:=0) (by omega) (ps:=[Gm na]) (M:=Gm nb) (rows:=[]) (nm:=nm) qZ (av 1) (λh=>by omega) (aB rfl) (by rw[hnms,mj]) (by rw[hnms];exact hLn) (by rw[hnms,aI];omega) (by omega) (cG _) (by simp) (st:=s3++[.lst [(Gm na).w]]++[.lst []]) (cQ (cQ np3<|lh _)<|lh _) (a7<|a7<|pre_get k3 I) (pp:=s3.length) (pr:=(s3++[al.lst [(Gm na).w]]).length) (a7 aT) aT;have hlk:oW 0 [Gm na] (Gm nb) nm []=eh:=rfl;rw[hlk,xO]at ea;apply aH
  .exact bB (cC (au cn<|au (show dW (ae (ac 5) aw) _ s3=.ok (.loc s3.length) (s3++[.lst [(Gm na).w]])from rfl)<|au kv<|au (show dW aw _ _=.ok (.loc (s3++[al.lst [(Gm na).w]]).length) (s3++[.lst [(Gm na).w]]++[.lst []])from rfl) a6) ea rfl)
  obtain⟨x,ex⟩:=k3;have jC:∃x,s3++[al.lst [(Gm na).w]]++[al.lst []]=st++x:={x++[.lst [(Gm na).w]]++[.lst []],by rw[<- ex,aG,aG,aG]}
  by_cases B:m2=1
  .rw[ax<|.inl<|by omega];apply dC
   .exact c_ (bw kv cn<|kA (k:=cT) (by rw[LI,B];rfl))
   apply dg
   .exact bw kv (iF (au cn<|au cn a6)<|aB rfl) (PD _)
   .exact⟨_,_,rfl,rfl,jC⟩
  .rw[aF (by rw[fz];omega)];apply cM
   .exact c_ (bw kv cn<|kA (k:=eh) (by rw[bj];omega))
   apply eA;apply cH
   .exact qE (EH kv rfl rfl) (JB kv rfl)
   .exact⟨_,_,rfl,rfl,jC⟩
theorem NV{l:fy α}:mT l b0 (bi (q:hG))=l.take q:=by
 rcases tN q l.length with h|h
 .exact qF h
 rw[fL h];unfold mT;rw[HT.sIx_none,HT.sIx_nat,nK h];simp
theorem sZ{Ms:fy Mc}{c:f7}:c∈fF Ms↔∃M∈Ms,c∈M.nm:=by unfold fF;simp;exact{λzv=>(by obtain⟨l,⟨M,z,e⟩,D⟩:=zv;exact {M,z,e▸D}),λzw=>by obtain⟨M,z,D⟩:=zw;exact ⟨_,⟨M,z,rfl⟩,D⟩}
theorem Fm{ps:fy Mc}(h:my ps):(fF ps).length<=4:=by
 have V:=(h.ok _<|lN (i:=0) (by have:=h.ln;lia)).nl;rcases h.ln with z|z
 .match ps,z with
  |[A],_=>
   have V:A.nm.length<=2:=V;simp[fF];lia
 .match ps,z with
  |[A,B],_=>
   have V:A.nm.length<=2:=V;have Z:=(h.ok B<|by simp).nl;simp[fF];lia
theorem Cd{R:Mc->Mc->Prop}:∀ps:fy Mc,(∀M∈ps,∃M',R M M')->∃z:fy Mc,z.length=ps.length/\∀(i:f7) (M:Mc),ps[i]?=bi M->∃M',z[i]?=bi M'/\R M M'
 |[],_=>{[],rfl,λi M h=>by simp at h}
 |M::ps,h=>by
  obtain⟨z,Z,B⟩:=Cd ps λM D=>h M<|aJ _ D;obtain⟨M',Y⟩:=h M (by simp);refine{M'::z,by simp[Z],λi N e=>?_}
  cases i with
  |zero=>cases e;exact⟨M',rfl,Y⟩
  |succ i=>exact B i N e
structure Bg(k:f7)(ps:fy Mc)(iz:fy f7)(M:Mc):Prop where
 pk:my ps
 k2:2<=k->ps.length=2
 ok:yF M M.gd.length
 lo:1<=M.gd.length
 hi:M.gd.length<=18
 up:iz.Pairwise (· < ·)
 n5:iz.length<=5
 ll:∀c∈iz,c∈LL
 sub:∀M'∈ps++[M],Sub M'.nm iz
theorem Lc{n0 pz k sp:f7}(hk:k<4)(h0:st[n0]?=bi (.ro<|ns.map W.int))(cz:st[pz]?=bi (.lst<|tQ ds))(hd:ds.length=14)(G8:∀d∈ds,0<=d)(np:bM st) :
  ∃(ps:fy Mc) (iz:fy f7) (M:Mc) (rows:fy (fy f7)) (pp pr:f7) (x:fy al),Bg k ps iz M/\rows≠[]/\rows.length<=18/\(∀r∈rows,r.length=ps.length+1)/\(st++x)[pr]?=bi (.lst<|rows.map bW)/\(st++x)[pp]?=bi (.lst<|ps.map Mc.w)/\bM (st++x)/\E0 [.loc n0,.str<|wd k,.int (sp:f7),.loc pz] st=.ok (.tup [.loc pp,.str iz,M.w,.loc pr]) (st++x):=by
 suffices hh:ia (zE λw bx=>∃x,bx=st++x/\undWs st.length [w]=eh/\∃(ps:fy Mc) (iz:fy f7) (M:Mc) (rows:fy (fy f7)) (pp pr:f7),w=.tup [.loc pp,.str iz,M.w,.loc pr]/\Bg k ps iz M/\rows≠[]/\rows.length<=18/\(∀r∈rows,r.length=ps.length+1)/\(st++x)[pr]?=bi (.lst<|rows.map bW)/\(st++x)[pp]?=bi (.lst<|ps.map Mc.w)/\bM (st++x)) (Pm ([W.loc n0,.str<|wd k,.int (sp:f7),.loc pz].map bi++rn (9-4) b0) st) by
  obtain⟨w,x,⟨ps,iz,M,rows,pp,pr,rfl,a,b,c,d,e,f,g⟩,e'⟩:=B2 hh;exact⟨ps,iz,M,rows,pp,pr,x,a,b,c,d,e,f,g,e'⟩
 have tw:∀(Y:bR) (s:fy al) (j:f7),j<4->Y[1]?=bi (bi<|.str<|wd k)->fD (e2 ik (ac 1)<|eC<|.str<|wd j) Y s=.ok (decide<|k=j) s:=λY s j hj h=>c_<|bw (ef h) cn<|wT hk hj s;have el0:dW (ae (eI 3)<|ae (eI 3)<|ae (eI 3) aw) [lO n0,bi<|.str<|wd k,iO (sp:f7),lO pz,b0,b0,b0,b0,b0] st=.ok (.loc st.length) (st++[.lst [.int 3,.int 3,.int 3]]):=rfl;obtain⟨j,x,A,B,hA,hB,np2,R,e1⟩:=SJ (st:=st++[.lst [.int 3,.int 3,.int 3]]) (L:=st.length) (a7 h0) aT<|cQ np<|lh _;apply aH
 .exact bB (cC (au kv<|au el0 a6) e1 rfl)
 obtain⟨p4,hp4⟩:∃p4,p4=(st++[al.lst [.int 3,.int 3,.int 3]]).length+j:=⟨_,rfl⟩
 rw[<- hp4];have c4:(st++[al.lst [.int 3,.int 3,.int 3]]++x)[p4]?=bi (.lst [A.w,B.w]):=by rw[hp4,zA];exact R
 have hle:st.length<=p4:=by rw[hp4,aI];lia
 have k2:st <+: st++[al.lst [.int 3,.int 3,.int 3]]++x:=(ag _ _).trans<|ag _ _;generalize st++[al.lst [.int 3,.int 3,.int 3]]++x=s2 at np2 c4 k2 ⊢
 let J:bR->fy al->Prop:=λY s=>∃(ps:fy Mc) (p4:f7),Y=[lO n0,bi<|.str<|wd k,iO (sp:f7),lO pz,lO p4,b0,b0,b0,b0]/\my ps/\(2<=k->ps.length=2)/\s[p4]?=bi (.lst<|ps.map Mc.w)/\st <+: s/\bM s/\st.length<=p4
 refine gT J ?_ ?_
 .have tt:=wC (tw [lO n0,bi<|.str<|wd k,iO (sp:f7),lO pz,lO p4,b0,b0,b0,b0] s2 0 #[0] rfl)<|tw [lO n0,bi<|.str<|wd k,iO (sp:f7),lO pz,lO p4,b0,b0,b0,b0] s2 1 #[0] rfl
  by_cases V:k<2
  .have sl:=OC (st:=s2) (l:=b0) (h:=bi ((1:f7):hG))<|aL c4;rw[NV]at sl;apply iG
   .refine tt.trans ?_;obtain rfl|rfl:k=0\/k=1:=by lia
    .rfl
    .rfl
   exact{_,_,bB<|GG kv Nn (BD cn) sl,[A],_,rfl,{.inl rfl,λM hM=>by rw[a_.mp hM];exact hA},λz=>by lia,aT,je k2,cQ np2<|lh _,k2.length_le}
  .apply iH
   .refine tt.trans ?_;rw[az #[0],az #[0]];rfl
   refine{_,_,rfl,[A,B],_,rfl,{.inr rfl,λM hM=>?_},λ_=>rfl,c4,k2,np2,hle};have hM:M=A\/M=B:=by simpa using hM
   rcases hM with rfl|rfl
   .exact hA
   .exact hB
 clear c4 k2 np2 hA hB hle hp4;rintro Y s3 ⟨ps,p4,rfl,tq,AB,c4,k3,np3,hle⟩;refine gT J ?_ ?_
 .have t3:fD (e2 ik (ac 2)<|eI 3) [lO n0,bi<|.str<|wd k,iO (sp:f7),lO pz,lO p4,b0,b0,b0,b0] s3=.ok ((sp:hG)==3) s3:=c_<|bw kv cn<|kA rfl
  cases U:((sp:hG)==3)with
  |true=>
   have hu:∀M∈ps,∃M':Mc,Pu M'/\yE [M.w] s3=.ok M'.w s3:=λM hM=>by have pk:=tq.ok M hM;obtain⟨M',u1,u2,u3,u4⟩:=K8 pk.ok pk.lo (by have:=pk.hi;lia) (by rw[pk.ok.tb];have:=cf (n:=2) #[0] pk.nl;lia) s3;exact{M',{by rw[u2];exact u3,by rw[u2];exact pk.lo,by rw[u2];exact pk.hi,by rw[u1];exact pk.nl,by rw[u1];exact pk.up,by rw[u1];exact pk.ll},u4}
   obtain⟨ps',hl',hu'⟩:=Cd ps hu;have ec:=fV (cap:=[b0]) (fi:=bV<|ac 4) (f:=cF 0) (el:=c7 1 yE<|ae (ac 0) aw) (ρ:=[lO n0,bi<|.str<|wd k,iO (sp:f7),lO pz,lO p4,b0,b0,b0,b0]) (st:=s3) (st1:=s3)
    (ps'.map Mc.w) (gm kv<|aL c4) (by rw[aj];have:=tq.ln;show _<=1000000;lia) (aL c4) (by simp[hl']) λi w hw=>by rw[ai,be]at hw;obtain⟨M,hM,rfl⟩:=hw;obtain⟨M',Z,_,V⟩:=hu' i M hM;exact{_,_,by rw[ai,Z];rfl,rfl,cC kn V rfl}
   apply iG
   .exact t3.trans (by rw[U])
   refine{_,_,oU ec rfl,ps',_,rfl,{by rw[hl'];exact tq.ln,λM' hM'=>?_},λz=>by rw[hl'];exact AB z,aT,je k3,cQ np3<|lh _,k3.length_le};obtain⟨i,O⟩:=fg hM';have hil:=(am.mp O).1;obtain⟨M2,Z,V,_⟩:=hu' i _ (ak<|show i<ps.length by lia);rw[O]at Z;cases Z;exact V
  |false=>
   apply iH
   .exact t3.trans (by rw[U])
   exact⟨_,_,rfl,ps,p4,rfl,tq,AB,c4,k3,np3,hle⟩
 clear c4 k3 np3 hle tq AB;clear ps p4;rintro Y s5 ⟨ps,p5,rfl,tq,AB,c5,k5,np5,hle⟩;have ec:=fV (cap:=[b0]) (fi:=bV<|ac 4) (f:=cF 0) (el:=e2 bd (ac 0)<|eI 0) (ρ:=[lO n0,bi<|.str<|wd k,iO (sp:f7),lO pz,lO p5,b0,b0,b0,b0]) (st:=s5) (st1:=s5)
  ((ps.map Mc.nm).map W.str) (gm kv<|aL c5) (by rw[aj];have:=tq.ln;show _<=1000000;lia) (aL c5) (by simp) λi w hw=>by rw[ai,be]at hw;obtain⟨M',hM',rfl⟩:=hw;exact{_,_,by rw[aN,ai,hM'];rfl,rfl,bw kv cn rfl}
 have xO:=Fm tq;have ej:=rO (sep:=[]) (ls:=ps.map Mc.nm) (st:=s5++[.lst<|(ps.map Mc.nm).map W.str]) (n:=s5.length) (aL aT) (by rw[wP];have:(fF ps).length<=4:=xO;unfold fF at this;show _<=1000000;simp only[fz,tO,tP,jP];lia);rw[j_]at ej;apply aH
 .exact bB (cC (au (zD cn rfl (au ec a6) ej) a6) (wR (fF ps) _) rfl)
 have k6:st <+: s5++[al.lst<|(ps.map Mc.nm).map W.str]:=je k5;have np6:bM (s5++[al.lst<|(ps.map Mc.nm).map W.str]):=cQ np5<|lh _;have c6:(s5++[al.lst<|(ps.map Mc.nm).map W.str])[p5]?=bi (.lst<|ps.map Mc.w):=a7 c5;generalize s5++[al.lst<|(ps.map Mc.nm).map W.str]=s6 at k6 np6 c6 ⊢;apply aH
 .exact bB kv
 obtain⟨on,hon⟩:∃on,on=BX (fF ps):=⟨_,rfl⟩
 rw[<- hon];have hsub0:∀M∈ps,∀c∈M.nm,c∈on:=λM hM c D=>by rw[hon];exact jK.mpr {(tq.ok M hM).ll c D,sZ.mpr ⟨M,hM,D⟩}
 have hlen0:∀l:fy f7,(BX l).length<=l.length:=λl=>eU ((qH l).imp λz=>aM z) λc D=>(jK.mp D).2;have onl:on.length<=4:=by rw[hon];exact aW (hlen0 _) xO
 obtain⟨m12,hm12,e12⟩:=fS (j:=3) cz (i:=12) (k:=4) #[0] #[0];have t12:∀(Y:bR) (s:fy al) (c:f7),st <+: s->Y[3]?=bi (lO pz)->fD (e2 ik (e2 dE (e2 bd (ac 3)<|eI 12)<|eI 4)<|eC<|.int (c:f7)) Y s=.ok (decide<|m12=c) s:=λY s c hs h=>c_ (bw (e12 _ _ _ h hs cn) cn (kA (by
  by_cases z:m12=c
  .rw[z];simp
  .rw[az z,bj];lia)))
 refine gT (λY s=>∃nm:fy f7,Y=[lO n0,bi<|.str<|wd k,iO (sp:f7),lO pz,lO p5,bi<|.str on,bi<|.str nm,b0,b0]/\s=s6/\nm.Pairwise (· < ·)/\nm.length<=5/\(∀c∈on,c∈nm)/\∀c∈nm,c∈LL) ?_ ?_
 .by_cases h12:m12=1
  .obtain⟨c1,ec1⟩:=qG (pre_get k6 h0) 1;obtain⟨pl,lR,hpn,hpL,ep⟩:=zV c1 200017 4 #[0] s6;obtain⟨c3,hc3⟩:∃c3,pl[3]?=bi c3:={_,ak #[0]}
   have e3:bd (.str pl) (.int 3) s6=.ok (.str [c3]) s6:=EI (by show _<=1000000;lia)<|df (q:=3) hc3;have ea:dF (.str on) (.str [c3]) s6=.ok (.str<|on++[c3]) s6:=Dw (by simp;show _<=1000000;lia);apply iG
   .exact(t12 _ _ 1 k6 rfl).trans (by rw[aR h12])
   refine{_,_,bB<|cC (au (bw kv (bw (cC (au (cC (au kv<|au cn a6) ec1 rfl)<|au cn<|au cn a6) ep rfl) cn e3) ea) a6) (wR _ _) rfl,_,rfl,rfl,qH _,?_,λc D=>jK.mpr {by rw[hon]at D;exact(jK.mp D).1,cL _ D},λc D=>(jK.mp D).1};have:=hlen0<|on++[c3];rw[aI,fW]at this
   lia
  .apply iH
   .exact(t12 _ _ 1 k6 rfl).trans (by rw[az h12])
   exact{_,_,rfl,on,rfl,rfl,by rw[hon];exact qH _,by lia,λc D=>D,λc D=>by rw[hon]at D;exact(jK.mp D).1}
 rintro Y s ⟨nm,rfl,rfl,om,Lu,hon2,hnL⟩;have rS:∀M∈ps,∀c∈M.nm,c∈nm:=λM hM c D=>hon2 c<|hsub0 M hM c D;have ve:nm.Nodup:=om.imp λz=>aM z;obtain⟨d2,hd2⟩:∃d,ds[2]?=bi d:={_,ak #[0]}
 obtain⟨sh,hsh⟩:=jz<|G8 d2<|aV hd2;obtain⟨tw',htw,etw⟩:=fS (j:=3) cz (i:=3) (k:=2) (by omega) (by omega);obtain⟨p8,x8,c8,np8,em⟩:=NO (tw:=tw') (sh:=sh) (k:=k) tq hk AB (by omega) Lu om rS c6 np6;have e2':e2 bd (ac 3) (eI 2) [lO n0,bi<|.str<|wd k,iO (sp:f7),lO pz,lO p5,bi<|.str on,bi<|.str nm,b0,b0] s=.ok (.int (sh:f7)) s:=by rw[<- hsh];exact bw kv cn<|ku (i:=2) (pre_get k6 cz) hd2
 apply aH
 .exact oU (cC (au kv<|au kv<|au kv<|au e2'<|au (etw _ _ _ rfl k6 cn) a6) em rfl) rfl
 have k8:st <+: s++x8:=je k6;have c58:(s++x8)[p5]?=bi (.lst<|ps.map Mc.w):=a7 c6;have hm1:=z9 (tw:=tw') tq;have hm18:=z_ (tw:=tw') tq (by omega);generalize hs8:s++x8=s8 at c8 np8 k8 c58 ⊢;generalize hM:Md ps nm tw' sh k=M;have hMg:M.gd.length=kD ps tw':=by rw[<- hM];exact V5
 have hMk:yF M M.gd.length:=by rw[hMg,<- hM];exact V4 tq ve
 have hMn:M.nm=nm:=by rw[<- hM];rfl
 have rl:(oV ps tw' sh).length=kD ps tw':=by simp[oV]
 have mi:∀r∈oV ps tw' sh,r.length=ps.length+1:=λr I=>by unfold oV at I;obtain⟨i,_,rfl⟩:=aX.mp I;unfold mY;rw[aI,oh tq];rfl
 have hnr:oV ps tw' sh≠[]:=λe=>by rw[e]at rl;simp at rl;omega
 have jC:∀(M':Mc) (Y:bR) (o5:hJ W),Y=[lO n0,bi<|.str<|wd k,iO (sp:f7),lO pz,lO p5,o5,bi<|.str nm,bi M'.w,lO p8]->Bg k ps nm M'->ia (zE λw bx=>∃x,bx=st++x/\undWs st.length [w]=eh/\∃(ps:fy Mc) (iz:fy f7) (M:Mc) (rows:fy (fy f7)) (pp pr:f7),w=.tup [.loc pp,.str iz,M.w,.loc pr]/\Bg k ps iz M/\rows≠[]/\rows.length<=18/\(∀r∈rows,r.length=ps.length+1)/\(st++x)[pr]?=bi (.lst<|rows.map bW)/\(st++x)[pp]?=bi (.lst<|ps.map Mc.w)/\bM (st++x)) (db (eX<|ae (ac 4)<|ae (ac 6)<|ae (ac 7)<|ae (ac 8) aw) Y s8):=λM' Y o5 e U=>by subst e;obtain⟨y,rfl⟩:=k8;refine cH (iF (au kv<|au kv<|au kv kn)<|aB rfl) {_,_,rfl,y,rfl,?_,ps,nm,M',oV ps tw' sh,p5,p8,rfl,U,hnr,by omega,mi,c8,c58,np8};simp only[undWs,W.und];rw[az<|by omega];rfl
 have bg0:Bg k ps nm M:={tq,AB,hMk,by omega,by omega,om,Lu,hnL,λM' hM'=>by
  rcases bD.mp hM' with z|z
  .exact{(tq.ok M' z).up,rS M' z}
  .rw[a_.mp z,hMn];exact⟨om,λc D=>D⟩}
 have tln:∀(Y:bR),Y[5]?=bi (bi<|.str on)->fD (e2 F9 (aU b9<|ae (ac 5) aw)<|eI 0) Y s8=.ok (decide<|(0:hG)<(on.length:hG)) s8:=λY h=>c_ (bw (bc (au (ef h) a6)<|jo (by show _<=1000000;omega)) cn<|lK rfl);have tt:=Dx (t12 [lO n0,bi<|.str<|wd k,iO (sp:f7),lO pz,lO p5,bi<|.str on,bi<|.str nm,bi M.w,lO p8] s8 2 k8 rfl)<|tln [lO n0,bi<|.str<|wd k,iO (sp:f7),lO pz,lO p5,bi<|.str on,bi<|.str nm,bi M.w,lO p8] rfl
 cases U:(decide (m12=2)&&decide ((0:hG)<(on.length:hG)))with
 |true=>
  rw[U]at tt;have hon1:0<on.length:=by simp at U;omega
  obtain⟨m13,hm13,e13⟩:=fS (j:=3) cz (i:=13) (k:=on.length) (by omega) hon1;obtain⟨c,D⟩:∃c,on[m13]?=bi c:={_,ak hm13}
  obtain⟨M',w1,w2,w3⟩:=DM (c:=c) hMk (by rw[hMn];omega) s8;apply dC
  .exact tt
  apply aH
  .exact bB (cC (au kv<|au (bw kv (e13 _ _ _ rfl k8 (bc kn<|jo (by show _<=1000000;omega)))<|EI (by show _<=1000000;omega)<|df D) a6) w3 rfl)
  have hg:=w2.gd;refine jC M' _ _ rfl {tq,AB,by rw[hg];exact w2,by omega,by omega,om,Lu,hnL,λN hN=>?_};rcases bD.mp hN with z|z
  .exact{(tq.ok N z).up,rS N z}
  .rw[a_.mp z,w1,hMn];exact{om.filter _,λc D=>(d7.mp D).1}
 |false=>
  rw[U]at tt;apply cM
  .exact tt
  apply eA;exact jC M _ _ rfl bg0
noncomputable def w5:fy Mc->fy (fy f7)
 |[]=>[[]]
 |M::Ms=>(uP M.gd.length).flatMap λa=>(w5 Ms).map (a :: ·)
theorem kE:∀{Ms:fy Mc} {r:fy f7},r∈w5 Ms↔iJ Ms r
 |[],r=>by unfold w5;rw[a_];exact{λe=>by rw[e];exact{rfl,λi L=>absurd L<|fC _},λh=>jA.mp h.1}
 |M::Ms,r=>by
  unfold w5;simp;constructor
  .rintro⟨a,J,t,U,rfl⟩;obtain⟨Z,B⟩:=kE.mp U;refine{by simp[Z],λi L=>?_}
   cases i with
   |zero=>exact J
   |succ i=>exact B i (by simp_all)
  rintro⟨Z,B⟩
  cases r with
  |nil=>cases Z
  |cons a t=>exact{a,B 0 (by simp),t,kE.mpr {by simpa using Z,λi L=>B (i+1)<|by simp_all},rfl}
def qb(M:Mc)(Ms:fy Mc):(w5 (M::Ms)).length=M.gd.length*(w5 Ms).length:=by rw[w5];simp;rw[List.map_const',List.sum_replicate_nat,jU]
theorem G1{Ms:fy Mc}(W:rQ Ms)(k:nm.Nodup){r:fy f7}(U:iJ Ms l)(V:iJ Ms r):iJ Ms (led Ms nm q l r):=by
 refine{by simp[led],λi L=>?_};obtain⟨t,v,_,_,_,_,_,h⟩:=wO (W _<|lN L) (yG k q) (U.2 i L)<|V.2 i L;have e:(led Ms nm q l r).getD i 0=Pq (gM Ms i) nm q (l.getD i 0) (r.getD i 0):=by unfold led;rw[aA,ai,bv L];rfl
 rw[e];exact h
theorem Te{ps:fy Mc}{M:Mc}{I:fy f7}{k:f7}(b:Bg k ps I M){pm:f7}(cp:st[pm]?=bi (.lst<|(ps++[M]).map Mc.w))(np:bM st) :
  ∃(j:f7) (x:fy al) (mt:fy (fy f7)),mt≠[]/\(∀r∈mt,r.length=ps.length+1)/\mt.length<=1000/\bM (st++x)/\(st++x)[st.length+j]?=bi (.lst<|mt.map bW)/\BO [.loc pm,.str I] st=.ok (.loc<|st.length+j) (st++x):=by
 have W:rQ (ps++[M]):=λN d=>by
  rcases bD.mp d with z|z
  .exact b.pk.ms N z
  rw[a_.mp z];exact b.ok
 have R:ps.length<=2:=by have:=b.pk.ln;lia
 have w:(w5<|ps++[M]).length<=1000:=by
  have D:=b.hi;rcases b.pk.ln with z|z
  .match ps,z with
   |[A],_=>
    show(w5 [A,M]).length<=1000;rw[qb,qb];exact aW (cB ((b.pk.ok A<|by simp).hi)<|cB D<|av 1) (by decide)
  .match ps,z with
   |[A,B],_=>
    show(w5 [A,B,M]).length<=1000;rw[qb,qb,qb];exact aW (cB ((b.pk.ok A<|by simp).hi)<|cB ((b.pk.ok B<|by simp).hi)<|cB D<|av 1) (by decide)
 have pos:∀N∈ps++[M],0<N.gd.length:=λN d=>by
  rcases bD.mp d with z|z
  .exact(b.pk.ok N z).lo
  rw[a_.mp z];exact b.lo
 have J:rn (ps++[M]).length 0∈w5 (ps++[M]):=kE.mpr {by simp,λi L=>by rw[aA,dQ,ax L];exact pos _<|lN L};obtain⟨j,x,mt,Z,_,Y,O,h5⟩:=SX W (by simp;lia) b.up b.sub b.n5 (λr V=>kE.mp V) w J (λl U r V q _=>kE.mpr<|G1 W (b.up.imp aM) (kE.mp U)<|kE.mp V) cp np;exact{j,x,mt,(λe=>by have:=Z.zero;rw[e]at this;cases this),λr V=>by rw[(kE.mp<|Z.sub r V).1];simp,aW Z.len w,Y,O,h5}
def Ld(a b:fy hG):kr (bH a) (bH b)=bi (decide<|a=b):=wY a b
theorem Fp(a b:fy hG)(s:fy al):uW (bH a) (bH b) s=.ok (.bl<|!decide (a=b)) s:=by
 have d:∀r:fy hG,(bH r).dep<=64:=λr=>by unfold bH;rw[W.dep,Af];lia
 unfold uW;simp only[Ld];rw[ax<|.inr<|d a]
theorem Ce{rows:fy (fy hG)}{s:fy al}{p:f7}(T:fy hG->ir)(V:ρ[i]?=bi (lO p))(h:s[p]?=bi (.lst<|rows.map bH))(U:rows.length<=1000)(d:0<cap.length)(B:∀r∈rows,t ((kc cap ρ).set 0<|bi<|bH r) s=.ok (T r) s) :
  cb cap (bV<|ac i) (cF 0) t (ac 0) ρ s=.ok (.loc s.length) (s++[.lst<|(rows.filter T).map bH]):=by
 have L:=zI (f:=cF 0) (t:=t) (λw=>match w with|.tup D=>(match lI D with|some z=>T z|none=>eh)|_=>eh) id (gm (ef V)<|aL h) (by rw[aj];show _<=1000000;lia) (aL h) λw Z=>by obtain⟨r,I,rfl⟩:=aX.mp Z;refine{_,rfl,?_,λ_=>ef (by rw[bt (by simp[kc];exact d)];rfl)};rw[B r I];show R.ok (T r) s=R.ok (match lI (r.map W.int)with|some z=>T z|none=>eh) s;rw[sU]
 have e:((rows.map bH).filter (λw=>match w with|.tup D=>(match lI D with|some z=>T z|none=>eh)|_=>eh)).map id=(rows.filter T).map bH:=by
  rw[fO,pb]
  congr 1
  congr 1
  funext r
  show(match lI (r.map W.int)with|some z=>T z|none=>eh)=T r;rw[sU]
 rw[e]at L;exact L
structure Lw(ds:fy hG)(ps:fy Mc)(mt:fy (fy f7))(rows:fy (fy hG))(pz p4 p8 p7:f7)(s:fy al):Prop where
 z:s[pz]?=bi (.lst<|tQ ds)
 t:s[1]?=bi SC
 p:s[p4]?=bi (.lst<|ps.map Mc.w)
 m:s[p8]?=bi (.lst<|mt.map bW)
 r:s[p7]?=bi (.lst<|rows.map bH)
 np:bM s
def Lw.app{ps:fy Mc}{Z z Y w:f7}{s x:fy al}(h:Lw ds ps mt rows Z z Y w s)(J:bM x):Lw ds ps mt rows Z z Y w (s++x):={a7 h.z,a7 h.t,a7 h.p,a7 h.m,a7 h.r,cQ h.np J}
def Lw.new{ps:fy Mc}{Cs:fy (fy hG)}{Z z Y w:f7}{s:fy al}(h:Lw ds ps mt rows Z z Y w s):Lw ds ps mt Cs Z z Y s.length (s++[.lst<|Cs.map bH]):={a7 h.z,a7 h.t,a7 h.p,a7 h.m,aT,cQ h.np<|lh _}
theorem Lw.put{ps:fy Mc}{Cs:fy (fy hG)}{Z z Y w:f7}{s:fy al}(h:Lw ds ps mt rows Z z Y w s)(W:rows≠[])(k:ds≠[])(V:ps≠[])(R:w≠Y):Lw ds ps mt Cs Z z Y w (s.set w<|.lst<|Cs.map bH):=by
 obtain⟨r,U,rfl⟩:∃r U,rows=r::U:=by
  cases rows with
  |nil=>exact absurd rfl W
  |cons r U=>exact⟨r,U,rfl⟩
 have O:w≠Z:=λe=>by
  have:=h.r;rw[e,h.z]at this
  cases ds with
  |nil=>exact absurd rfl k
  |cons d ds=>simp[tQ,bH]at this
 have J:w≠1:=λe=>by
  have:=h.r;rw[e,h.t]at this
  cases this
 have L:w≠z:=λe=>by
  have:=h.r;rw[e,h.p]at this
  cases ps with
  |nil=>exact absurd rfl V
  |cons A ps=>
   simp[bH,Mc.w]at this
   cases r with
   |nil=>simp at this
   |cons a r=>simp at this
 exact{by rw[pX O];exact h.z,by rw[pX J];exact h.t,by rw[pX L];exact h.p,by rw[pX R];exact h.m,i3 h.r,uO h.np λ_=>rfl}
def Lw.pre{ps:fy Mc}{Z z Y w:f7}{s D:fy al}(h:Lw ds ps mt rows Z z Y w s)(d:s <+: D)(r:bM D):Lw ds ps mt rows Z z Y w D:={pre_get d h.z,pre_get d h.t,pre_get d h.p,pre_get d h.m,pre_get d h.r,r}
theorem Bg.mk'{k U:f7}{ps:fy Mc}{I:fy f7}{M M':Mc}(b:Bg k ps I M)(O:2<=U->2<=k)(Z:M'.nm=M.nm)(B:yF M' M.gd.length):Bg U ps I M':=by
 have r:=B.gd;exact{b.pk,λz=>b.k2<|O z,by rw[r];exact B,by rw[r];exact b.lo,by rw[r];exact b.hi,b.up,b.n5,b.ll,λN d=>by
  rcases bD.mp d with z|z
  .exact b.sub N (cL _ z)
  rw[a_.mp z];have:=b.sub M (by simp);exact⟨by rw[Z];exact this.1,λc D=>this.2 c<|by simp_all⟩}
abbrev lE(Z sp k:f7)(z:f7)(I:fy f7)(M:Mc)(w Y:f7)(o9 o10 o11:hJ W):bR:=[lO 0,lO Z,iO (sp:f7),bi<|.str<|wd k,lO z,bi<|.str I,bi M.w,lO w,lO Y,o9,o10,o11,b0]
noncomputable def W5(k:f7):f7:=if k=0 then 1 else if k=1 then 0 else if k=2 then 3 else 2
theorem Tf{k:f7}(O:k<4){s:fy al}(h:ρ[3]?=bi (bi<|.str<|wd k)):∃x,bM x/\e2 uZ (Bi<|iE (eC<|.str [115,97,109,101]) (eC<|.str [110,111,116])<|iE (eC<|.str [110,111,116]) (eC<|.str [115,97,109,101])<|iE (eC<|.str [97,110,100]) (eC<|.str [111,114])<|iE (eC<|.str [111,114]) (eC<|.str [97,110,100]) Bh) (ac 3) ρ s=.ok (.str<|wd<|W5 k) (s++x):=by
 have B:Bi (iE (eC<|.str [115,97,109,101]) (eC<|.str [110,111,116])<|iE (eC<|.str [110,111,116]) (eC<|.str [115,97,109,101])<|iE (eC<|.str [97,110,100]) (eC<|.str [111,114])<|iE (eC<|.str [111,114]) (eC<|.str [97,110,100]) Bh) ρ s=.ok (.loc s.length) (s++[.dct [(.s<|wd 0,.str<|wd 1),(.s<|wd 1,.str<|wd 0),(.s<|wd 2,.str<|wd 3),(.s<|wd 3,.str<|wd 2)]]):=by unfold Bi;have B:iE (eC<|.str [115,97,109,101]) (eC<|.str [110,111,116]) (iE (eC<|.str [110,111,116]) (eC<|.str [115,97,109,101])<|iE (eC<|.str [97,110,100]) (eC<|.str [111,114])<|iE (eC<|.str [111,114]) (eC<|.str [97,110,100]) Bh) ρ (s++[.dct []])=.ok [(.str<|wd 0,.str<|wd 1),(.str<|wd 1,.str<|wd 0),(.str<|wd 2,.str<|wd 3),(.str<|wd 3,.str<|wd 2)] (s++[.dct []]):=rfl;rw[B];simp only[R.bind_ok,sJ,iP];rfl
 refine{[.dct [(.s<|wd 0,.str<|wd 1),(.s<|wd 1,.str<|wd 0),(.s<|wd 2,.str<|wd 3),(.s<|wd 3,.str<|wd 2)]],P.np1 λ_=>rfl,bw B (ef h) ?_};unfold uZ;rw[Aa aT];obtain rfl|rfl|rfl|rfl:k=0\/k=1\/k=2\/k=3:=by omega
 all_goals rfl
theorem law_ok:IZ (v_ tabL) f_q35:=by
 intro ns R
 suffices hh:ia (zE λw bx=>w=.bl cT) (Pn ([W.loc 0].map bi++rn (13-1) b0) (.ro (ns.map W.int)::v_ tabL)) by
  obtain⟨w,bx,e,rfl⟩:=hh;exact{_,sK e}
 have h0:(al.ro (ns.map W.int)::v_ tabL)[0]?=bi (.ro<|ns.map W.int):=rfl;have ht:(al.ro (ns.map W.int)::v_ tabL)[1]?=bi SC:=rfl;have np:bM (al.ro (ns.map W.int)::v_ tabL):=λd I c=>by simp only[v_,tabL,aZ,iV,aS,eR,l9]at I;rcases I with rfl|rfl<;>rfl
 generalize (al.ro (ns.map W.int)::v_ tabL:fy al)=s0 at h0 ht np;obtain⟨c4,e4⟩:=qG h0 4;obtain⟨ds,hdl,G8,ed⟩:=sR c4 500009 14 #[0] s0;apply aH
 .exact bB (cC (au (cC (au kv<|au cn a6) e4 rfl)<|au cn<|au cn a6) ed rfl)
 obtain⟨pz,hpz⟩:∃pz,pz=s0.length:=⟨_,rfl⟩
 rw[<- hpz];generalize oy:s0++[al.lst<|ds.map W.int]=s1;have cz:s1[pz]?=bi (.lst<|tQ ds):=by rw[<- oy,hpz];exact aT
 have Z:s1[0]?=bi (.ro<|ns.map W.int):=by rw[<- oy];exact a7 h0
 have Lx:s1[1]?=bi SC:=by rw[<- oy];exact a7 ht
 have np1:bM s1:=by rw[<- oy];exact cQ np<|lh _
 obtain⟨d0,NY⟩:∃d,ds[0]?=bi d:={_,ak #[0]}
 have tg:fD (e2 ik (e2 dE (e2 pO (e2 bd (ac 1)<|eI 0)<|eI 8)<|eI 8)<|eI 5) [lO 0,lO pz,b0,b0,b0,b0,b0,b0,b0,b0,b0,b0,b0] s1=.ok (d0/8%8==5) s1:=
  c_ (bw (bw (bw (bw kv cn<|ku (i:=0) cz NY) cn<|kg<|by decide) cn<|kg<|by decide) cn<|kA rfl)
 cases hgb:(d0/8%8==5)with
 |true=>
  rw[hgb]at tg;obtain⟨c1,ec1⟩:=qG Z 1;obtain⟨pl,lR,hpn,hpL,ep⟩:=zV c1 200017 14 #[0] s1;apply dC
  .exact tg
  apply dg
  .exact cC (au kv<|au (cC (au (cC (au kv<|au cn a6) ec1 rfl)<|au cn<|au cn a6) ep rfl) a6) (Lb hdl lR hpn hpL cz np1 Lx) rfl
  .exact⟨_,_,rfl,rfl⟩
 |false=>
 rw[hgb]at tg;apply cM
 .exact tg
 apply eA;clear tg hgb;obtain⟨sp,Hk,esp⟩:=fS (j:=1) cz (i:=0) (k:=8) #[0] #[0];apply aH
 .exact bB (esp _ _ _ rfl (af _) cn)
 obtain⟨k,O,ek⟩:=fS (j:=1) cz (i:=1) (k:=4) #[0] #[0];have elw:∀Y:bR,dW (Ee [[115,97,109,101],[110,111,116],[97,110,100],[111,114]]) Y s1=.ok (.loc s1.length) (s1++[.lst [.str<|wd 0,.str<|wd 1,.str<|wd 2,.str<|wd 3]]):=λY=>rfl;have k2:s1 <+: s1++[al.lst [.str<|wd 0,.str<|wd 1,.str<|wd 2,.str<|wd 3]]:=ag _ _;have np2:bM (s1++[al.lst [.str<|wd 0,.str<|wd 1,.str<|wd 2,.str<|wd 3]]):=cQ np1<|lh _;have eiw:bd (.loc s1.length) (.int (k:f7)) (s1++[al.lst [.str<|wd 0,.str<|wd 1,.str<|wd 2,.str<|wd 3]])=.ok (.str<|wd k) (s1++[al.lst [.str<|wd 0,.str<|wd 1,.str<|wd 2,.str<|wd 3]]):=by
  refine kB (aL aT)<|df ?_;obtain rfl|rfl|rfl|rfl:k=0\/k=1\/k=2\/k=3:=by lia
  all_goals rfl
 apply aH
 .exact bB (bw (elw _) (ek _ _ _ rfl k2 cn) eiw)
 generalize s1++[al.lst [.str<|wd 0,.str<|wd 1,.str<|wd 2,.str<|wd 3]]=s2 at k2 np2 ⊢;obtain⟨ps,iz,M,rows0,p4,p7,x,bg,hr0,hr18,hrn,cr,cp,np3,eb⟩:=Lc (sp:=sp) O (pre_get k2 Z) (pre_get k2 cz) hdl G8 np2;apply aH
 .exact oU (cC (au kv<|au kv<|au kv kn) eb rfl) rfl
 have k3:s1 <+: s2++x:=je k2;generalize s2++x=s3 at k3 np3 cr cp ⊢;have eM:(ps.map Mc.w)++[M.w]=(ps++[M]).map Mc.w:=by rw[bT];rfl
 have lR:ps.length<=2:=by have:=bg.pk.ln;lia
 have tq:ps≠[]:=λe=>by have:=bg.pk.ln;rw[e]at this;simp at this
 have ea:=wB (st:=s3++[.lst [M.w]]) (n:=p4) (m:=s3.length) (a7 cp) aT (by simp;show _<=1000000;lia);rw[eM]at ea;obtain⟨j,y,mt,hm0,hmn,hml,np4,cm,em⟩:=Te bg (st:=s3++[.lst [M.w]]++[.lst<|(ps++[M]).map Mc.w]) (pm:=(s3++[al.lst [M.w]]).length) aT<|cQ (cQ np3<|lh _)<|lh _;apply aH
 .exact bB (cC (au (bw kv (show dW (ae (ac 6) aw) _ s3=.ok (.loc s3.length) (s3++[.lst [M.w]])from rfl) ea) kn) em rfl)
 obtain⟨p8,hp8⟩:∃p8,p8=(s3++[al.lst [M.w]]++[al.lst<|(ps++[M]).map Mc.w]).length+j:=⟨_,rfl⟩
 rw[<- hp8]at cm ⊢;have h78:p7≠p8:=by have:=DD cr;rw[hp8,aI,aI];lia
 have k4:s3 <+: s3++[al.lst [M.w]]++[al.lst<|(ps++[M]).map Mc.w]++y:=(ag _ _).trans<|(ag _ _).trans<|ag _ _;generalize s3++[al.lst [M.w]]++[al.lst<|(ps++[M]).map Mc.w]++y=s8 at k4 np4 cm ⊢;obtain⟨rows,hrows⟩:∃rows,rows=rows0.map vn:=⟨_,rfl⟩
 have erw:rows0.map bW=rows.map bH:=by rw[hrows,aN];exact b_ λr _=>(i_ r).symm
 have lw:Lw ds ps mt rows pz p4 p8 p7 s8:={pre_get (k3.trans k4) cz,pre_get (k3.trans k4) Lx,pre_get k4 cp,cm,by rw[<- erw];exact pre_get k4 cr,np4}
 have mi:rows.length<=18:=by rw[hrows,aj];exact hr18
 have hrne:rows≠[]:=by rw[hrows];simpa using hr0
 have hrn':∀r∈rows,r.length=ps.length+1:=λr V=>by rw[hrows]at V;obtain⟨r0,h,rfl⟩:=aX.mp V;unfold vn;rw[aj];exact hrn r0 h
 clear erw hrows cr hrn hr18 hr0 k4 cm np4 em ea eb k3 np3 cp hp8 esp ek eiw;have tsp:∀(Y:bR) (s:fy al) (c:f7),Y[2]?=bi (iO (sp:f7))->fD (e2 ik (ac 2)<|eC<|.int (c:f7)) Y s=.ok (decide<|sp=c) s:=λY s c h=>c_ (bw (ef h) cn (kA (by
  by_cases z:sp=c
  .rw[z];simp
  .rw[az z,bj];lia)))
 have hdn:ds≠[]:=λe=>by rw[e]at hdl;cases hdl
 let J:bR->fy al->Prop:=λY s=>∃(k:f7) (M:Mc) (rows:fy (fy hG)) (p7:f7) (o9 o10 o11:hJ W),Y=lE pz sp k p4 iz M p7 p8 o9 o10 o11/\k<4/\Bg k ps iz M/\rows.length<=19/\(∀r∈rows,r.length=ps.length+1)/\(sp=5->rows≠[])/\Lw ds ps mt rows pz p4 p8 p7 s
 refine gT J ?_ ?_
 .have t12:=wC (tsp (lE pz sp k p4 iz M p7 p8 b0 b0 b0) s8 1 rfl)<|tsp (lE pz sp k p4 iz M p7 p8 b0 b0 b0) s8 2 rfl
  cases U:(decide (sp=1)||decide (sp=2))with
  |false=>
   rw[U]at t12;apply iH
   .exact t12
   exact{_,_,rfl,k,M,rows,p7,_,_,_,rfl,O,bg,by lia,hrn',λ_=>hrne,lw}
  |true=>
   rw[U]at t12;have lnr:∀s,s[p7]?=bi (.lst<|rows.map bH)->b9 [.loc p7] s=.ok (.int (rows.length:f7)) s:=λs h=>by rw[jp<|aL h,aj]
   obtain⟨m4,hm4,e4⟩:=fS (j:=1) lw.z (i:=4) (k:=rows.length) #[0] (i7.mpr hrne);obtain⟨r,V⟩:∃r,rows[m4]?=bi r:={_,ak hm4}
   have hrl2:=hrn' r<|aV V;apply iG
   .exact t12
   apply aH
   .exact bB (bc (au (bw kv (e4 _ _ _ rfl (af _) (bc kn<|lnr _ lw.r))<|kB (aL lw.r)<|df (by rw[ai,V];rfl)) a6) Kz)
   obtain⟨p9,hp9⟩:∃p9,p9=s8.length:=⟨_,rfl⟩
   rw[<- hp9];generalize hs9:s8++[al.lst<|r.map W.int]=s9;have c9:s9[p9]?=bi (.lst<|tQ r):=by rw[<- hs9,hp9];exact aT
   have k9:s8 <+: s9:=by rw[<- hs9];exact ag _ _
   have np9:bM s9:=by rw[<- hs9];exact cQ lw.np<|lh _
   obtain⟨m5,hm5,e5⟩:=fS (j:=1) lw.z (i:=5) (k:=r.length) #[0] #[0];apply aH
   .exact bB (e5 _ _ _ rfl k9 (bc kn<|by rw[jp<|aL c9,tQ,aj]))
   apply aH
   .exact uJ (yy cn) kv kv (zW c9 (by rw[tQ,aj];exact hm5))
   have ei:(tQ r).set m5 (.int (-1))=tQ (r.set m5 (-1)):=by unfold tQ;rw[oM]
   rw[ei];generalize hs10:s9.set p9 (.lst<|tQ<|r.set m5 (-1))=s10;have c10:s10[p9]?=bi (.lst<|tQ<|r.set m5 (-1)):=by rw[<- hs10];exact i3 c9
   have k10:s8 <+: s10:=by rw[<- hs10];exact gU k9 (by rw[hp9];exact av _)
   have np10:bM s10:=by rw[<- hs10];exact uO np9 λ_=>rfl
   refine gT (λY s=>∃r':fy hG,Y=lE pz sp k p4 iz M p7 p8 (lO p9) (iO (m5:f7)) b0/\s8 <+: s/\s[p9]?=bi (.lst<|tQ r')/\r'.length=ps.length+1/\bM s) ?_ ?_
   .by_cases h1':sp=1
    .have cp10:=pre_get k10 lw.p;have ea:=wB (st:=s10++[.lst [M.w]]) (n:=p4) (m:=s10.length) (a7 cp10) aT (by simp;show _<=1000000;lia);rw[eM]at ea;have hmi:m5<(ps++[M]).length:=by rw[aI,fW];lia
     have ev:aU b9 (ae (e2 bd (e2 bd (e2 dF (ac 4)<|dW<|ae (ac 6) aw)<|ac 10)<|eI 1) aw) (lE pz sp k p4 iz M p7 p8 (lO p9) (iO (m5:f7)) b0) s10=.ok (.int ((gM (ps++[M]) m5).gd.length:f7)) (s10++[.lst [M.w]]++[.lst<|(ps++[M]).map Mc.w]):=
      bc (au (bw (bw (bw kv (show dW (ae (ac 6) aw) _ s10=.ok (.loc s10.length) (s10++[.lst [M.w]])from rfl) ea) kv<|ut aT hmi) cn<|pZ _ _) a6) (by rw[kJ,aj])
     generalize hs11:s10++[al.lst [M.w]]++[al.lst<|(ps++[M]).map Mc.w]=s11 at ev;have k11:s10 <+: s11:=by rw[<- hs11];exact(ag _ _).trans (ag _ _)
     have np11:bM s11:=by rw[<- hs11];exact cQ (cQ np10<|lh _)<|lh _
     have c11:=pre_get k11 c10;apply iG
     .exact(tsp _ _ 1 rfl).trans (by rw[aR h1'])
     refine{_,_,uJ ev kv kv (zW c11 (by rw[tQ,aj,gg];exact hm5)),(r.set m5 (-1)).set m5 ((gM (ps++[M]) m5).gd.length:f7),rfl,gU (k10.trans k11) (by rw[hp9];exact av _),?_,by rw[gg,gg];exact hrl2,uO np11 λ_=>rfl};rw[i3 c11];unfold tQ;simp only[oM]
    .apply iH
     .exact(tsp _ _ 1 rfl).trans (by rw[az h1'])
     exact{_,_,rfl,r.set m5 (-1),rfl,k10,c10,by rw[gg];exact hrl2,np10}
   rintro Y s ⟨r',rfl,ks,cs,hr',nps⟩;have lws:=lw.pre ks nps;obtain⟨m6,hm6,e6⟩:=fS (j:=1) lw.z (i:=6) (k:=rows.length+1) #[0] #[0];have eix:e2 dE (e2 bd (ac 1)<|eI 6) (e2 dF (aU b9<|ae (ac 7) aw)<|eI 1) (lE pz sp k p4 iz M p7 p8 (lO p9) (iO (m5:f7)) b0) s=.ok (.int (m6:f7)) s:=e6 _ _ _ rfl ks (bw (bc kn<|lnr _ lws.r) cn eN);have ein:=JH (y:=bH r') lws.r (k:=m6) (by rw[aj];lia) (by rw[aj];show _<1000000;lia) #[0];have hre:(rows.map bH).take m6++bH r'::(rows.map bH).drop m6=(rows.take m6++r'::rows.drop m6).map bH:=by rw[bT,aZ,List.map_take,List.map_drop]
   rw[hre]at ein;refine{_,_,iZ<|rN kv (gB lws.r) (au eix<|au (bc kn<|gu<|aL cs) a6) ein,k,M,_,p7,_,_,_,rfl,O,bg,?_,λq hq=>?_,λh=>by subst h;simp at U,lws.put hrne hdn tq h78}
   .simp only[aI,bh,cX,dv];lia
   .rcases bD.mp hq with z|z
    .exact hrn' q (List.mem_of_mem_take z)
    .rcases aS.mp z with z|z
     .rw[z];exact hr'
     .exact hrn' q (List.mem_of_mem_drop z)
 clear lw hrne hrn' mi h78 bg O eM;clear rows p7 M k;rintro Y s ⟨k,M,rows,p7,o9,o10,o11,rfl,O,bg,mi,hrn,hre,lw⟩;refine gT J ?_ ?_
 .by_cases h3:sp=3
  .obtain⟨m,hm⟩:∃m,mt[0]?=bi m:={_,ak<|i7.mpr hm0}
   have ec:=Ce (rows:=rows) (t:=fD<|e2 uW (ac 0)<|e2 bd (ac 1)<|eI 0) (cap:=[b0,bi 8]) (ρ:=lE pz sp k p4 iz M p7 p8 o9 o10 o11) (i:=7) (λr=>!decide (r=vn m)) rfl lw.r #[0] (by simp) λr V=>c_ (bw kv (bw kv cn<|kB (aL lw.m)<|df (q:=0) (by rw[ai,hm];rfl)) (by rw[<- i_];exact Fp _ _ _));apply iG
   .exact(tsp _ _ 3 rfl).trans (by rw[aR h3])
   exact{_,_,oU ec rfl,k,M,_,_,_,_,_,rfl,O,bg,aW (eK _ _) mi,λr V=>hrn r (d7.mp V).1,λh=>by lia,lw.new}
  .apply iH
   .exact(tsp _ _ 3 rfl).trans (by rw[az h3])
   exact⟨_,_,rfl,k,M,rows,p7,_,_,_,rfl,O,bg,mi,hrn,hre,lw⟩
 clear lw hrn mi hre bg O;clear rows p7 M k o9 o10 o11;rintro Y s ⟨k,M,rows,p7,o9,o10,o11,rfl,O,bg,mi,hrn,hre,lw⟩;refine gT J ?_ ?_
 .have lnm:b9 [.loc p8] s=.ok (.int (mt.length:f7)) s:=by rw[jp<|aL lw.m,aj]
  have t4:=Dx (tsp (lE pz sp k p4 iz M p7 p8 o9 o10 o11) s 4 rfl) (show fD (e2 F9 (aU b9<|ae (ac 8) aw)<|eI 1) (lE pz sp k p4 iz M p7 p8 o9 o10 o11) s=.ok (decide<|(1:hG)<(mt.length:hG)) s from c_ (bw (bc kn lnm) cn<|lK rfl))
  cases U:(decide (sp=4)&&decide ((1:hG)<(mt.length:hG)))with
  |true=>
   rw[U]at t4;simp at U;obtain⟨m7,hm7,e7⟩:=fS (j:=1) lw.z (i:=7) (k:=mt.length-1) #[0] #[0];obtain⟨m,hm⟩:∃m,mt[1+m7]?=bi m:={_,ak #[0]}
   apply iG
   .exact t4
   apply aH
   .exact bB (bw (y:=.int ((1+m7:f7):hG)) kv (by rw[show((1+m7:f7):hG)=1+(m7:hG) by lia];exact bw cn (e7 _ _ _ rfl (af _) (by rw[show((mt.length-1:f7):hG)=(mt.length:hG)-1 by lia];exact bw (bc kn lnm) cn<|kg trivial)) eN)<|kB (aL lw.m)<|df (by rw[ai,hm];rfl))
   have ec:=Ce (rows:=rows) (t:=fD<|e2 uW (ac 0)<|ac 1) (cap:=[b0,bi 11]) (ρ:=lE pz sp k p4 iz M p7 p8 o9 o10<|bi<|bW m) (i:=7) (λr=>!decide (r=vn m)) rfl lw.r #[0] (by simp) λr V=>c_ (bw kv kv (by rw[<- i_];exact Fp _ _ _));exact{_,_,oU ec rfl,k,M,_,_,_,_,_,rfl,O,bg,aW (eK _ _) mi,λr V=>hrn r (d7.mp V).1,λh=>by lia,lw.new}
  |false=>
   rw[U]at t4;apply iH
   .exact t4
   exact⟨_,_,rfl,k,M,rows,p7,_,_,_,rfl,O,bg,mi,hrn,hre,lw⟩
 clear lw hrn mi hre bg O;clear rows p7 M k o9 o10 o11 s;rintro Y s ⟨k,M,rows,p7,o9,o10,o11,rfl,O,bg,mi,hrn,hre,lw⟩;refine gT J ?_ ?_
 .by_cases h5:sp=5
  .have nQ:=hre h5;obtain⟨m8,hm8,e8⟩:=fS (j:=1) lw.z (i:=8) (k:=rows.length) #[0] (i7.mpr nQ);obtain⟨r,V⟩:∃r,rows[m8]?=bi r:={_,ak hm8}
   have L:=hrn r<|aV V;obtain⟨M',w1,w2,w3⟩:=G0 bg.ok (by have:=bg.hi;lia) (r.getD ps.length 0) s;have el:bd (bH r) (.int (-1)) s=.ok (.int<|r.getD ps.length 0) s:=by refine jI ?_;unfold uS;rw[aj,L,show yP (ps.length+1) (-1)=bi ps.length by unfold yP;rw[aF #[0]];simp;lia];show(r.map W.int)[ps.length]?=_;rw[ai,cE 0 #[0]];rfl
   apply iG
   .exact(tsp _ _ 5 rfl).trans (by rw[aR h5])
   exact{_,_,bB (cC (au kv<|au (bw (bw kv (e8 _ _ _ rfl (af _) (bc kn<|by rw[jp<|aL lw.r,aj]))<|kB (aL lw.r)<|df (by rw[ai,V];rfl)) (yy cn) el) a6) w3 rfl),k,M',rows,p7,_,_,_,rfl,O,bg.mk' id w1 w2,mi,hrn,hre,lw}
  .apply iH
   .exact(tsp _ _ 5 rfl).trans (by rw[az h5])
   exact⟨_,_,rfl,k,M,rows,p7,_,_,_,rfl,O,bg,mi,hrn,hre,lw⟩
 clear lw hrn mi hre bg O;clear rows p7 M k o9 o10 o11 s;rintro Y s ⟨k,M,rows,p7,o9,o10,o11,rfl,O,bg,mi,hrn,hre,lw⟩;refine gT J ?_ ?_
 .by_cases h6:sp=6
  .have sl:=OC (st:=s) (l:=bi ((8:f7):hG)) (h:=bi ((12:f7):hG))<|aL lw.z;rw[JI (by rw[tQ,aj];lia) #[0]]at sl;have ed:((tQ ds).drop 8).take (12-8)=tQ ((ds.drop 8).take 4):=by unfold tQ;rw[List.map_take,List.map_drop]
   rw[ed]at sl;obtain⟨M',w1,w2,w3⟩:=Cc bg.ok bg.lo (by have:=bg.hi;lia) (by
    rw[bg.ok.tb];have Z:=(bg.sub M<|by simp).2;have B:=eU ((bg.sub M<|by simp).1.imp λh=>aM h) Z;have:=bg.n5;have:=cf (n:=2) #[0] (aW B bg.n5)
    lia) (ds:=(ds.drop 8).take 4) (by rw[bh,dv];lia) (pk:=s.length) (st:=s++[.lst<|tQ<|(ds.drop 8).take 4]) aT
   apply iG
   .exact(tsp _ _ 6 rfl).trans (by rw[aR h6])
   exact{_,_,bB<|cC (au kv<|au (GG kv (BD cn) (BD cn) sl) a6) w3 rfl,k,M',rows,p7,_,_,_,rfl,O,bg.mk' id w1 w2,mi,hrn,hre,lw.app<|lh _}
  .apply iH
   .exact(tsp _ _ 6 rfl).trans (by rw[az h6])
   exact⟨_,_,rfl,k,M,rows,p7,_,_,_,rfl,O,bg,mi,hrn,hre,lw⟩
 clear lw hrn mi hre bg O;clear rows p7 M k o9 o10 o11 s;rintro Y s ⟨k,M,rows,p7,o9,o10,o11,rfl,O,bg,mi,hrn,hre,lw⟩;refine gT J ?_ ?_
 .by_cases h7:sp=7
  .obtain⟨x,nx,ex⟩:=Tf O (ρ:=lE pz sp k p4 iz M p7 p8 o9 o10 o11) (s:=s) rfl;apply iG
   .exact(tsp _ _ 7 rfl).trans (by rw[aR h7])
   exact{_,_,bB ex,W5 k,M,rows,p7,_,_,_,rfl,by unfold W5;split;lia;split;lia;split<;>lia,bg.mk' (by unfold W5;split;lia;split;lia;lia) rfl bg.ok,mi,hrn,hre,lw.app nx}
  .apply iH
   .exact(tsp _ _ 7 rfl).trans (by rw[az h7])
   exact⟨_,_,rfl,k,M,rows,p7,_,_,_,rfl,O,bg,mi,hrn,hre,lw⟩
 clear lw hrn mi hre bg O;clear rows p7 M k o9 o10 o11 s;rintro Y s ⟨k,M,rows,p7,o9,o10,o11,rfl,O,bg,mi,hrn,hre,lw⟩;have qZ:rQ (ps++[M]):=λN hN=>by
  rcases bD.mp hN with z|z
  .exact bg.pk.ms N z
  .rw[a_.mp z];exact bg.ok
 obtain⟨nm,mj⟩:∃nm,nm=BX (fF<|ps++[M]):=⟨_,rfl⟩
 have PN:∀c∈fF (ps++[M]),c∈LL:=λc D=>by obtain⟨N,hN,D⟩:=sZ.mp D;exact bg.ll c<|(bg.sub N hN).2 c D
 have hsort:kW (fF<|ps++[M])=nm:=by rw[mj];exact t9 (m_ _) (qH _) λc=>by rw[ke,jK];exact{λh=>{PN c h,h},λh=>h.2}
 have om:nm.Pairwise (· < ·):=by rw[mj];exact qH _
 have rS:∀N∈ps++[M],Sub N.nm nm:=λN hN=>{(bg.sub N hN).1,λc D=>by rw[mj];exact jK.mpr ⟨PN c<|sZ.mpr ⟨N,hN,D⟩,sZ.mpr ⟨N,hN,D⟩⟩}
 have Lu:nm.length<=5:=aW (eU (om.imp λh=>aM h) λc D=>by rw[mj]at D;obtain⟨N,hN,D⟩:=sZ.mp (jK.mp D).2;exact(bg.sub N hN).2 c D) bg.n5
 have xO:(fF<|ps++[M]).length<=9:=by
  have Z:=Fm bg.pk;have B:=aW (eU ((bg.sub M<|by simp).1.imp λh=>aM h) (bg.sub M<|by simp).2) bg.n5;have:fF (ps++[M])=fF ps++M.nm:=by simp[fF]
  rw[this,aI];lia
 have hp32:2^nm.length<=2^5:=cf #[0] Lu;have hbig:=cB (cB mi mi) hp32;have hp1:1<=ps.length:=by have:=bg.pk.ln;lia
 have k2:2<=k->2<=ps.length:=λh=>by have:=bg.k2 h;lia
 have ea:=wZ O qZ hp1 k2 #[0] hsort PN #[0] #[0] #[0] hrn lw.np lw.t lw.p lw.r;rw[aF #[0]]at ea;have el:=GZ O qZ hp1 k2 #[0] mj.symm rS #[0] #[0] #[0] hrn lw.p lw.r;apply aH
 .exact bB (cC (au kv<|au kv<|au kv kn) ea rfl)
 apply cH
 .exact qE (EH kv rfl rfl) (bw kv (cC (au kv<|au kv<|au kv kn) el rfl)<|EK (b:=cT)<|ko _)
 .exact⟨_,_,rfl,rfl⟩
theorem all_mk{l:PySem.W.OpenLaw}{w:qd}{fa:nt}(X:K.In h)(G:h.Ns wh mg)(Zg:mg "law"=bi (.ref fa))
  {Lq DQ:nt} {Wk Wt Tk Lo:hJ nt} {Wv Ts:Array (hJ i2)} {Wg Wf Wd WA WJ Ti Lj Lm Lf DU Lk:i2} {jf:nt} {oz:nt} {V:nt} {Aj:Tok} {Ak:Tok}
  (DS:DefIn K "in_order" RH)
  (Lp:DefIn K "two_to" RI)
  (xc:DefIn K "entries_many" RJ)
  (xQ:DefIn K "own_numbers" RL)
  (Aq:DefIn K "table_over" RM)
  (TB:DefIn K "says" RN)
  (DR:DefIn K "goods_of" RP)
  (xU:DefIn K "check_looks" RQ)
  (G4:DefIn K "is_room" RR)
  (Cn:DefIn K "all_rooms" JN)
  (Ln:DefIn K "closed" JO)
  (G6:DefIn K "says_so" JQ)
  (N6:DefIn K "shown" JR)
  (Ct:DefIn K "_law_cell" JT)
  (Ao:DefIn K "_law_mixed" JU)
  (At:DefIn K "_law_draws" JW)
  (Ch:DefIn K "_law_pool" JY)
  (Az:DefIn K "_law_marks" J0)
  (xg:DefIn K "_law_machine" J1)
  (xS:DefIn K "_law_letter" J3)
  (DT:DefIn K "_law_two" J5)
  (As:DefIn K "_law_names" J7)
  (tu:DefIn K "_law_made_table" J8)
  (Co:DefIn K "_law_made" J_)
  (vd:DefIn K "_law_met_rows" Ka)
  (Ah:DefIn K "_law_shuts" Kc)
  (xP:DefIn K "_law_looked" Kd)
  (Ar:DefIn K "_law_unled" Kf)
  (vc:DefIn K "_law_led_else" Kg)
  (xL:DefIn K "_law_turned" Kh)
  (Av:DefIn K "_law_asked" Kj)
  (xf:DefIn K "_law_without" Kl)
  (AA:DefIn K "_law_great" Kn)
  (An:DefIn K "_law_begun" Kp)
  (Ym:ZA K wh "side_by_side"=bi (bi<|.ref Lq))
  (Yg:K.lookup Lq=bi ⟨Wg,Wk,.func<|fnOf "side_by_side" "side_by_side" (fH DA) (eS DA) (aK DA) .none Wf Wd WA Wt (.ref jf) WJ,Wv⟩)
  (Lv:codeIn K (.ref jf) "side_by_side"=cT)
  (Yd:keepIn K (.ref Lq)=cT)
  (W:ZT K jf 81=cT)
  (Y:K.lookup 81=b0)
  (PM:ZA K wh "law"=bi (bi<|.ref DQ))
  (Wx:K.lookup DQ=bi ⟨Ti,Tk,.func<|fnOf "law" "law" (fH sO) (eS sO) (aK sO) .none Lj Lm Lf Lo DU Lk,Ts⟩)
  (G5:codeIn K DU "law"=cT)
  (Wm:keepIn K (.ref DQ)=cT)
  (Am:ZA K wh "TrunkError"=bi (bi<|.ref oz))
  (oi:ZA K wh "TooGreat"=bi (bi<|.ref V))
  (z:excIn K V uY yl=cT)
  (Cm:findIn K (.ref V) "__getattribute__"=bi (bi<|.builtin "BaseException.__getattribute__"))
  (Cp:findIn K (.ref V) "__getattr__"=bi b0)
  (Ck:findIn K (.ref V) "__class__"=bi (bi<|.builtin "object.__class__"))
  (k:kitOne K (.ref V) (.ref oz)=bi cT)
  (d:(IH K V).contains (.ref V)=cT)
  (Wq:ZA K wh "all"=bi b0)
  (Tt:ZA K wh "bool"=bi b0)
  (Tl:ZA K wh "dict"=bi b0)
  (Wo:ZA K wh "int"=bi b0)
  (Ax:ZA K wh "isinstance"=bi b0)
  (WQ:ZA K wh "len"=bi b0)
  (Tq:ZA K wh "list"=bi b0)
  (Wr:ZA K wh "max"=bi b0)
  (N7:ZA K wh "range"=bi b0)
  (Ws:ZA K wh "set"=bi b0)
  (Lh:ZA K wh "sorted"=bi b0)
  (N3:ZA K wh "tuple"=bi b0)
  (WP:ZA K wh "zip"=bi b0)
  (Ay:ZA K wh "MOST_NAMES"=bi (bi<|.int 13 Aj))
  (Ap:ZA K wh "MOST_LOOKS"=bi (bi<|.int 40000 Ak)) :
  ∃fd:ZS,(∀(s:n4) (v:i2),BindsTo s fd ⟨[v],[]⟩ [("_law_script",v)])/\∀base:qk,K.In base->base.Ns wh mg->zi base mg->fj l.prog w K mg base (iY l.prog w) 7 fa fd Kr (mJ K mg 1 f_q35):=by
 have e:=Zg.symm.trans<|mg_of X G PM
 cases e
 have F_q6:=CN (st:=DA) Yg Lv Yd;have m_q6:=mg_of X G Ym;have m_q35:=mg_of X G PM;have B:Bl mg:={ZK X G Wq,ZK X G Tt,ZK X G Tl,ZK X G Wo,ZK X G Ax,ZK X G WQ,ZK X G Tq,ZK X G Wr,ZK X G N7,ZK X G Ws,ZK X G Lh,ZK X G N3,ZK X G WP}
 have C:Qt K mg:=⟨{V,mg_of X G oi,z},⟨oz,mg_of X G Am,⟨λc b U=>by by_cases R:c="TooGreat";(· subst R;cases U;exact{V,mg_of X G oi,z,⟨Cm,Cp,Ck⟩,k});simp only[kt,R,nD,reduceCtorEq]at U⟩⟩,⟨λc D=>by simp only[aS,eR,l9]at D;rcases D with rfl;(· exact{V,V,mg_of X G oi,mg_of X G oi,z,z,d})⟩⟩
 have Gg:Gc K mg:=⟨{_,.int 13,mg_of X G Ay,⟨_,rfl⟩,λr H=>.int},{_,.int 40000,mg_of X G Ap,⟨_,rfl⟩,λr H=>.int}⟩
 refine{fnOf "law" "law" (fH sO) (eS sO) (aK sO) .none Lj Lm Lf Lo DU Lk,λs v=>.of_eq rfl,λbase _ _ Bk=>?_};have Z:=@Ra l.prog w K mg base;have WG:=Z DS X G λF=>VD F B  ;have N0:=Z Lp X G λF=>VE F B  ;have Tj:=Z xc X G λF=>VF F B  N0;have WE:=Z xQ X G λF=>VH F   ;have Tx:=Z Aq X G λF=>VI F B  WE;have WD:=Z TB X G λF=>VJ F   ;have Wl:Bv l.prog w K mg base 3 "side_by_side" 2 bK iI:=Rm F_q6 m_q6<|VM F_q6 ⟨jf,rfl,W,Y⟩ Bk   Tx;have Ww:=Z DR X G λF=>VN F B  ;have WL:=Z xU X G λF=>VO F B Gg C  Tj;have WH:=Z G4 X G λF=>VQ F B  ;have I:=Z Ct X G λF=>R3 F B  ;have O:=Z At X G λF=>R5 F B  (Z Ao X G λF=>R4 F   );have w_:=Z Ch X G λF=>R6 F B  O;have L:=Z Az X G λF=>R7 F B  ;have J:=Z xS X G λF=>R9 F B  ;have Fs:=Z As X G λF=>Sa F   ;have Ll:=Z xL X G λF=>Sj F B  ;have Cq:=Z Av X G λF=>Sk F B C  (Z N6 X G λF=>R1 F B  (Z Cn X G λF=>RZ F B  WH) WL (Z Ln X G λF=>RY F B (nr (P:=l.prog) (w:=w) (K:=K) (mg:=mg) (base:=base) B ) ) WG (Z G6 X G λF=>R0 F   Ww WD) Wl N0);have PJ:=Z xf X G λF=>Sl F B  J L;have Lg:=Z AA X G λF=>Sn F B  Cq;have Ly:=Z An X G λF=>So F B  I (Z Co X G λF=>Sc F B  (Z tu X G λF=>Sb F B  J L)) Fs w_ (Z DT X G λF=>R_ F B  I O (Z xg X G λF=>R8 F B  ) L w_) (Z Ar X G λF=>Sg F B  ) PJ;exact Sq (CN (st:=sO) Wx G5 Wm) B  Cq Ly I O Lg (Z vc X G λF=>Si F B  ) (Z xP X G λF=>Sf F B  Fs (Z Ah X G λF=>Se F B  J L)) (Z vd X G λF=>Sd F B  J L) w_ Ll
end P
end
namespace PySem.W.Fast
def tw97396003985191420:=tv0
def tw9979369704735846652:=tv0
def tw468531468491113401:=tv0
def tw5428419724614734552:=tv0
def tw13358257227712354484:=tv0
def tw13410006516928901042:=tv0
def tw2953776336638099953:=tv0
def tw4624701966662788845:=tv0
def tw14913543506894687693:=tv0
def tw5661229744549800843:=tv0
def tw4188861972068882922:=tv0
def tw16471512625359835591:=tv0
def tw2611941469280125063:=tv0
def tw2878981358115167394:=tv0
def tw2796016549043103649:=tv0
def tw17106374750466684708:=tv0
def tw5114746137463563913:=tv0
def tw9050139543752006679:=tv0
def tw528678103261412390:=tv0
def tw12800571083215496050:=tv0
def tw15042378192983193915:=tv0
def tw9316575253467828136:=tv0
def tw2830249386982710301:=tv0
def tw11782119580008494437:=tv0
def tw14607579982368652774:=tv0
def tw7677912391087319821:=tv0
def tw15941609351970276309:=tv0
def tw8542157012313423187:=tv0
def tw17994339768623978784:=tv0
def tw5476640857797986528:=tv0
def tw12657295041737933268:=tv0
def tw2343026618091859458:=tv0
def tw12090209036403994430:=tv0
def tw13723230203585867636:=tv0
def tw1859334007294683795:=tv0
def tw10994909333799301703:=tv0
def tw3764798174753037295:=tv0
def tw5962592820286238489:=tv0
def tw9184240971920001365:=tv0
def tw17652851341004431076:=tv0
def tw11827808336420469428:=tv0
def tw1615970783454119033:=tv0
def tw14695611221426966284:=tv0
def tw12634199533543918026:=tv0
def tw4782547159990093010:=tv0
def tw18001279690586131009:=tv0
def tw17309308117761376497:=tv0
def tw14774634489527010347:=tv0
def tw8070475417719390935:=tv0
def tw13401763884785784681:=tv0
def tw8702084455647872245:=tv0
def tw11435897447061382529:=tv0
def tw7037741897582400837:=tv0
def tw13828849974188530177:=tv0
def tw13759168508322558903:=tv0
def tw15764266244442913261:=tv0
def tw15548997950757310155:=tv0
def tw2105283440471744725:=tv0
def tw15651544652382402828:=tv0
def tw7319309221232664017:=tv0
def tw6798708614396486719:=tv0
def tw7094209690229387218:=tv0
def tw1962132548303794418:=tv0
def tw9440985190506703978:=tv0
def tw10255597658110827231:=tv0
def tw4946789266077161674:=tv0
def tw9786235213579917088:=tv0
def tw15600083882923171086:=tv0
def tw8524885485088326013:=tv0
def tw2252051460267260396:=tv0
def tw16646323367722737344:=tv0
def tw10925665299083555600:=tv0
def tw18036721117885155223:=tv0
def tw16461185560177978940:=tv0
def tw655608327229790778:=tv0
def tw4813398522626190869:=tv0
def tw7695919237669193112:=tv0
def tw10933756713517848064:=tv0
def tw6864971180744919984:=tv0
def tw16518123667576069856:=tv0
def tw8947698046241236518:=tv0
def tw10240319352842121230:=tv0
def tw13058254926874980869:=tv0
def tw16019067058880998001:=tv0
def tw4160304784888992059:=tv0
def tw8698127684942393900:=tv0
def tw4238350982266408498:=tv0
def tw14326542734509214023:=tv0
def tw12660247861464557301:=tv0
def tw2849147449526968782:=tv0
def tw10335640782771431644:=tv0
def tw17394202068607977321:=tv0
def tw9722701719827021695:=tv0
def tw2004099474916861178:=tv0
def tw8548334519548747087:=tv0
def tw6435056916579561846:=tv0
def tw13780887667367187988:=tv0
def tw2264410881598360642:=tv0
def tw15267645416212622417:=tv0
def tw9956280550511575454:=tv0
def tw3099946969358918715:=tv0
def tw265135446902938855:=tv0
def tw14576063524591697825:=tv0
def tw6784953038358552174:=tv0
def tw5157905941147996778:=tv0
def tw9448060082306339256:=tv0
def tw9043394642769767234:=tv0
def tw2165739201530919305:=tv0
def tw6929441524846841489:=tv0
def tw18302117087172135703:=tv0
def tw17193066500342191470:=tv0
def tw3268121699968846806:=tv0
def tw9215957940325064122:=tv0
def tw4704685319190705985:=tv0
def tw2660653958602445484:=tv0
def tw1013176019976834334:=tv0
def tw9341443073170524446:=tv0
def tw13450523185337965412:=tv0
def tw10509288766781896279:=tv0
def tw17041134134298168164:=tv0
def tw15278462436526769902:=tv0
def tw8507259797251143999:=tv0
def tw6585819701929035676:=tv0
def tw5854361359983379180:=tv0
def tw11512837505523209022:=tv0
def tw10263345586744816509:=tv0
def tw6057308743213396465:=tv0
def tw5205068212355985181:=tv0
def tw3681846607489698673:=tv0
def tw15668099834134550856:=tv0
def tw13206151930132982990:=tv0
def tw9731250411151581163:=tv0
def tw2845945159937991308:=tv0
def tw16085098819876510411:=tv0
def tw8583312040935650561:=tv0
def tw5008386946513692458:=tv0
def tw16608589738909328142:=tv0
def tw4473909643401322956:=tv0
end PySem.W.Fast
open PySem PySem.W PyProof.Rows
set_option maxRecDepth 100000 in
set_option maxHeartbeats 0 in
theorem PySem.Challenge.cw_trunksay_k36_looker_wrong_holds : PySem.Challenge.rw_trunksay_k36_looker_wrong.Holds := by
 w_on; o_law; k_head; (case hw => w_witness2)
 k_fill
 refine L2.walkT (l := PySem.Challenge.rw_trunksay_k36_looker_wrong) (k := 7) (x := "_law_script") (G := P.f_q35) P.tabL (by decide) rfl rfl ⟨rfl, by decide, by decide⟩ (λw h Y => PySem.W.km_in_of Y) (λw h Y T hT => PySem.W.km_tabs_of Y T hT) (λw T hT => ?KT) (λw T hT => ?CT) ?F P.law_ok
 case KT =>
  simp only [P.tabL, aZ, iV, aS, eR, l9] at hT;rcases hT with rfl
  .kernel_rfl
 case CT =>
  simp only [P.tabL, aZ, iV, aS, eR, l9] at hT;rcases hT with rfl
  .exact ⟨83, by kernel_rfl⟩
 case F =>
  intro w mg fa h KX G hmg;refine' P.all_mk KX G hmg ?_ ?_ ?_ ?_ ?_ ?_ ?_ ?_ ?_ ?_ ?_ ?_ ?_ ?_ ?_ ?_ ?_ ?_ ?_ ?_ ?_ ?_ ?_ ?_ ?_ ?_ ?_ ?_ ?_ ?_ ?_ ?_ ?_ ?_ ?_ ?_ ?_ ?_ ?tc_side_by_side ?tk_side_by_side ?_ ?_ ?_ ?_ ?_ ?_ ?x_TooGreat ?_ ?_ ?_ ?w_TooGreat_TrunkError ?u_TooGreat_TooGreat ?_ ?_ ?_ ?_ ?_ ?_ ?_ ?_ ?_ ?_ ?_ ?_ ?_ ?_ ?_
  any_goals (refine' L2.DefIn.mk ?a ?l ?c ?k; (case a => k_is); (case l => k_is); (case c => k_is); (case k => k_is))
  any_goals k_is
  (case tc_side_by_side => kernel_rfl)
  (case tk_side_by_side => kernel_rfl)
  (case x_TooGreat => k_exc)
  (case w_TooGreat_TrunkError => kernel_rfl)
  (case u_TooGreat_TooGreat => kernel_rfl)
