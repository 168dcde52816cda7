import PyProof.Rows.All
import Wide.All
import OpenK.AllK
import Wide.FinOn
import Lean
import PyProof.EqAt
import PyProof.EqKinds
import PyProof.TupleCall
import PyProof.StrLawsIn
import PyProof.StationsW
import PyProof.NeData
import OpenK.KOwn
import PyProof.NsDelKeeps
import PyProof.ExcArgsOwn
import PyProof.ExcAttrAll.ValueError
import PyProof.IsiH_tuple
import KE.KIsAll
import PyProof.CollectStr
import PyProof.ZipIter
import PyProof.Rows.ZipGen
import PyProof.JoinWalk
import PyProof.CollectIter
import PyProof.EnumMake
import PyProof.SumAny
import PyProof.DictTruth
import KE.KDictList
import KE.KNest
import KE.KEqDict
import PyProof.ListRange
import KE.KEqSeq
import PyProof.Rows.SetFrom
import PyProof.ListMulRoad
import PyProof.Rows.SortShell
import PyProof.AttrMissHeap
import PyProof.ListNew
import PyProof.Rows.SortShellK
import PyProof.Rows.TupDisplay
import PySem.Challenge.RW_trunksay_k55_whole_alike_paper
set_option Elab.async false
set_option linter.all false
set_option genSizeOf false
set_option maxRecDepth 100000

def tv0:=trivial
set_option hygiene false
local macro_rules|`(#[0])=>`(by omega)
local macro_rules|`(#[1])=>`(by decide)
local macro_rules|`(#[2])=>`(model prog w)
local macro_rules|`(#[3])=>`(model X.prog X.w)
local macro_rules|`(#[4])=>`(gb X nm scope (cellsFrom (G2.objs.size+1) scope.names []++cl) G2.objs.size s2 H1 fp)
local macro_rules|`(#[5])=>`(by simp)
set_option hygiene true
open Array renaming length_toList→cB,getElem?_toList→fj,perm_iff_toList_perm→iV,eq_empty_of_size_eq_zero→kA,getD_eq_getD_getElem?→lH,forIn_toList→mz,getElem?_eq_getElem→mL
open Bool renaming and_eq_true→bc,false_eq_true→bu,false_ne_true→bG,and_true→dO,not_true→fN,not_eq_true'→iK,not_false→mw,or_eq_true→pJ,or_false→rM
open Int renaming toNat_natCast→aH,natCast_mul→iE,zero_add→i4,emod_nonneg→ji,toNat_of_nonneg→lA,fdiv_eq_ediv_of_nonneg→mi,emod_lt_of_pos→mB,mul_comm→t0
open LawfulBEq renaming eq_of_beq→ky
open List renaming length_map→ag,prefix_refl→ah,getElem?_eq_some_iff→ak,getElem?_map→ao,prefix_append→aq,getElem?_eq_getElem→ar,length_append→ay,mem_of_getElem?→az,getD_eq_getElem?_getD→aA,mem_cons_of_mem→aC,mem_map→aE,mem_cons→aG,map_cons→aK,mem_singleton→aM,append_assoc→aN,size_toArray→aS,map_map→aU,getElem?_append_left→aV,mem_cons_self→aX,getElem?_append_right→aY,mem_append→aZ,length_take→a_,mem_append_right→bn,pairwise_cons→bp,append_nil→bD,map_append→bN,getElem?_set_ne→bQ,nodup_cons→bR,map_congr_left→bW,getElem?_take_of_lt→bY,length_singleton→ce,getElem?_set_self→cn,not_mem_nil→cr,replicate_succ→cC,mem_range→cK,getElem?_of_mem→cM,getElem?_eq_none→cQ,getElem?_replicate→cX,mem_append_left→c_,flatten_cons→dm,length_drop→dA,pairwise_map→dE,lookup_append→dQ,getElem_mem→dX,take_sublist→eN,length_range→eQ,getElem?_range→eT,mem_filter→eW,of_mem_zip→eX,forIn_cons→eY,find?_cons→eZ,all_eq_true→fB,length_cons→fD,take_length→fE,eq_nil_of_length_eq_zero→fW,nil_append→f6,drop_eq_getElem_cons→gz,range_succ→gI,nodup_append→gQ,filterMap_cons→gZ,lookup_cons→h_,nodup_nil→ia,map_nil→io,take_of_length_le→iw,not_lt→iT,zipIdx_cons→i3,getElem_of_mem→ja,any_eq_false→jP,length_eq_one_iff→jV,ext_getElem?→jW,forIn_nil→jY,foldl_append→j6,length_replicate→ki,getElem_map→kF,lt_trans→kI,mem_of_mem_take→kS,zipIdx_nil→lh,length_set→lu,mem_filterMap→mh,take_zero→mv,lt_irrefl→mx,map_inj_right→mC,perm_ext_iff_of_nodup→mD,findIdx?_eq_none_iff→mK,mem_or_eq_of_mem_set→mO,map_id→nj,getElem?_inj→no,drop_sublist→nq,any_eq_true→oh,le_antisymm→oi,getElem?_cons_succ→oo,map_fst_zip→oq,map_snd_zip→oz,filter_cons_of_pos→oA,filter_cons_of_neg→oB,range_succ_eq_map→pb,drop_eq_nil_of_le→pd,drop_of_length_le→pe,map_set→py,foldl_cons→pI,length_nil→pO,pairwise_reverse→p7,cons_lt_cons_iff→p9,set_append_right→p_,length_filter_le→qa,take_succ→qE,all_cons→rO,sum_cons→rQ,all_map→tZ
open List.Nodup renaming sublist→mE
open List.Perm renaming refl→fY,append_left→pZ
open List.cons renaming injEq→lj
open Nat renaming le_refl→am,le_of_ble_eq_true→aw,ne_of_lt→aJ,lt_of_lt_of_le→aR,le_trans→aT,lt_irrefl→bX,pow_le_pow_right→b8,le_of_lt→cx,lt_succ_of_lt→c9,mul_le_mul→dh,zero_le→dy,ne_of_gt→eM,lt_or_ge→eR,add_left_cancel→eV,lt_succ_self→fz,zero_add→gf,not_lt_zero→gG,mul_comm→ip,not_lt→iq,add_zero→iu,sub_self→iy,le_succ→iS,mul_le_mul_right→iW,lt_of_le_of_lt→jr,lt_or_eq_of_le→jt,succ_mul→jS,lt_of_succ_lt_succ→jX,le_of_lt_succ→j7,min_eq_left→lr,pow_succ→lI,lt_succ_iff_lt_or_eq→nK,le_add_right→ou,le_mul_of_pos_right→oC,le_of_eq→pi,lt_trans→tV
open Option renaming map_eq_some_iff→a8,isSome_iff_exists→nI
open Option.some renaming inj→bg
open Prod.mk renaming inj→jA
open PyProof.Rows renaming wpS_bind→cv,wpS_pure→dN,callWith_type1→d7,slot_tuple_getitem→fg,boot_tuple→iz,wpS_forRange→j4,callWith_builtin1→kx,subscriptTail_builtinR→oZ,listItems_at→pq,entry_list_sort→pM,KK_mirror_equal→pN,slot_list_sort→qB,args_list_sort→qC,pairsOf_toList→qD,wpS_modify→su,plain_sorted→tW,entry_sorted→tX,args_sorted1→tY,wpS_get→t4
open PyProof.Rows.F renaming plain_set_update_loop→ga,entry_set_update_loop→i_
open PyProof.Rows.KeyOrd renaming kle_refl→gH,kle_of_klt→j5,kle_trans→kE
open PySem renaming wpAny_bind→aa,wpAny_pure→ae,wpAny_call_entry→bj,wpAny_callSpecial?_slot→bz,wpAny_setField_rec→bA,wpAny_loadPart'→bE,wpAny_seqItems→bP,wpAny_newObj_type→bT,wpAny_field→cf,wpAny_truthy_bool→cZ,wpAny_holding→c8,wpAny_Call_Name_kw→db,wpAny_isInstance→dY,wpAny_mono→eL,wpAny_pyIter_tuple→fw,wpAny_rule→fC,wpAny_attempt→fM,wpAny_onRaise→fO,isSubtype_type→fX,wpAny_specialOf→f7,wpAny_passesOwn→gC,codeAny_mono→gN,wpAny_setState_of→gO,wpAny_setEntries_of→g_,wpAny_typeNameOfWhole_keyiter→ig,codeAny_builtin→iD,wpAny_callSpecialIfBoundUnlessNone?_slot→iH,wpAny_letGo→iU,wpAny_execs_cons→iZ,boot_len→je,call_meets→jn,sizeLine_eq→jz,wpAny_pyIter_list→jO,wpAny_typeOf→jR,wpAny_fieldsOf→jT,isSubtype_stop→jU,codeAny_call_function→kj,isSubtype_tuple_tuple→km,wpAny_pyIter_zip→kC,wpAny_forIn_list→kD,plainId_quiet→kH,wpAny_updateSeq_pair→kR,wpAny_execs_nil→k7,pushCells_keeps→k9,wpAny_updateSeq→lg,wpAny_newFunctionEnv_cells→mj,wpAny_setField→ml,wpAny_call→mo,wpAny_newTuple→mq,wpAny_tupleItemsOf→my,wpAny_binaryOp_repeat_ref→mJ,wpAny_letOwnedTupleGo_zip→mM,wpAny_pyIter_slot→nn,wpAny_newList→nJ,noFill_tuple_add→n9,wpAny_askSetting→og,typeIs_int→o_,wpAny_nextOf_list_item→pj,wpAny_ite_split→pK,wpAny_isTrue_Compare1→pV,builtinLookup_eq_fast→pY,wpAny_isOneOf_keyiter→p8,wpAny_of_eq→qA,rangeSize_one→rK,seq_tuple_add→rL,wpAny_handled→rN,typeIs_str→sk,name_of_addr→tQ,codeAny_func→tR,concat_meets→tU,putSet_of→uD
open PySem.Around renaming under_plainId→gP,frames_deeper→kQ
open PySem.Calls renaming call_function_entry→i7,spliced_cons→jm,spliced_nil→jQ,Name_function_global→mf
open PySem.F renaming slot_zip_next→f9,slot_tuple_iterator_next→gq,args_zip_next_1→jZ,entry_zip_next→kB,slot_int_rmul→k8,args_tuple_iterator_next_1→k_,slot_dict_keyiterator_next→lq,entry_tuple_iterator_next→lG
open PySem.Heap renaming get?_push_of_some→ai,get?_push_size→av,lt_size→aB,size_push→bt,get?_update_other→de,get?_update_self→dI,get?_push_ne→j0,size_update→oy
open PySem.Heap.SameBut renaming update→eS
open PySem.Obj renaming data_mapFields→jp,isFreed_of_fields→pX
open PySem.SeqAt renaming str_beq→rP
open PySem.Value renaming isStrOf_shape→lz
def ax:=@if_pos
def aF:=@if_neg
def aQ:=@decide_eq_false
def bb:=@decide_eq_true
def cP:=@congrArg
def df:=@decide_eq_true_iff
def dk:=@beq_eq_false_iff_ne
def dM:=@if_false
def gu:=@if_true
def ib:=@or_false
def jo:=@beq_iff_eq
def jq:=@of_decide_eq_false
def n_:=@beq_self_eq_true
def om:=@decide_eq_false_iff_not
def ph:=@dif_pos
set_option compiler.extract_closed false
noncomputable section
variable{xs ps:List PySem.Str}{us bx:List PySem.Value}{a b it c f S:PySem.Addr}{o:PySem.Obj}{P prog:PySem.Program}{h h' base:PySem.Heap}{α β:Type}{aj:List (PySem.Addr×PySem.Obj)}{s:PySem.Shared}{g':Array PySem.GenState}{t' N i j k n m ep kk:Nat}{ch fp μ μ':List PySem.Addr}{x name qual q:PySem.Str}{M:PySem.Model}{A:PySem.Around}{E Q Qv:PySem.Value->PySem.Shared->Prop}{v u:PySem.Value}{e tg d9 tM:PySem.Expr}{pos kP p kY p2 hW:PySem.Pos}{op:PySem.CmpOp}{K:PySem.W.Frag}{es qx wY:List PySem.Expr}{g:PySem.Value->PySem.Value->PySem.Sem PySem.Value}{body:List PySem.Stmt}{C cl:List (PySem.Str×PySem.Addr)}{mA mg:PySem.Str->Option PySem.Value}{fd:PySem.FuncData}{ks ls rows:List (List Nat)}{sc scope:PySem.Scope}{outer:List PySem.Env}{T:String}{r l nm is own:List Nat}{ns:List Int}{XP:(PySem.Str->Option PySem.Value)->PySem.Heap->Prop}{YP:PySem.World->PySem.Heap->Prop}{env:PySem.Env}{cap:List (Option Nat)}{use:Option (PySem.Value->PySem.Sem Unit)}{ys:Array PySem.Value}{φ:PySem.Heap->Prop}{qy:PySem.Obj->Prop}
open PySem.W (Frag)
open PySem.W (hideAll kia_one fnOf codeIn keepIn callWith_K excIn codeHdIn nsIn mg_of fnMade kla_obj mg_none_of)
open Bool renaming true→cT,false→dw
open False renaming elim→YY
open ForInStep renaming yield→ZT
open List renaming replicate→pw,range→vr,length→Y8,range'→Zw,foldl→Z2
open List.Pairwise renaming nil→Z4
open List.Perm renaming swap→aad
open Ne renaming symm→YU
open Option renaming some→bi,none→cg,none→Zg
open Or renaming inr→Zv
open PyProof.Rows renaming arrOf→rn,seqObj→Y5,Keyed→Y6,SortSt→Y9,pendingOf→Zc,AllBare→Zp,envOfC→Zt,SortKind→ZF,IntsAre→ZM
open PySem renaming Value→gs,Addr→i0,wpAny→i1,Shared→i2,Expr→i9,World→ms,starEach→ow,Heap→pk,Stmt→qd,cellsFrom→wh,mainGlobals→wU,rawInt→yx,Around→yy,binaryOp→yz,backTo→YR,compareOp→YS,DictEntry→YV,Program→YW,IsZip→YX,Scope→Y0,NameKind→Y1,pyNext→Y2,cLine→Y3,IsPair→Y4,Arguments→Y7,SetTable→Za,sysModules→Zf,FuncData→Zl,assignEach→Zn,pyIter→Zq,getItem→Zr,cellOf→Zu,IsPart→Zx,setNext→Zz,scanBound→ZA,foldedSetIterable→ZB,codeAny→ZC,closureFor→ZD,behindInMarks→ZE,codeAmong→ZH,bootBuiltins→ZI,bindArgs→ZJ,HeapKind→ZS,storeName→ZW,sliceBounds→ZX,relayAll→ZY,pickOrder→ZZ,TriplesOk→Z0,keywordEach→Z5,firstArgMember→Z6,builtinsNs→Z8,attributeBase→aac,newFunctionEnv→aae
open PySem.Builtin renaming bitAnd→aaf
open PySem.Builtin.List renaming listTooLong→aab,listItems→aan
open PySem.Builtin.Range renaming rangeSize→aam
open PySem.Builtin.Slice renaming slicePlaces→aai,sliceAdjust→aal
open PySem.Builtin.SmallTypes renaming nextOf→Zi,ownedTupleIsFree→ZV,ownedTupleHandOut→aah
open PySem.Builtin.Str renaming strSliceIndices→aaa,occurrences→aak
open PySem.Builtin.Tuple renaming tupleHashOf→ZU,tupleExact→aag,tupleItemsOf→aaj
open PySem.Heap renaming SameBut→Zy
open PySem.NameKind renaming free→Ze,cell→ZR
open PySem.Obj renaming mapSeq→Zh,putSet→Z9
open PySem.SeqAt renaming EqAt→ZL
open PySem.SetTable renaming grown→Z1
open PySem.Shared renaming TypeIs→ZG,heap→ZQ
open PySem.Str renaming ofString→Zk
open PySem.Value renaming ref→YT,none→Zb,type→Zo,isStrOf→ZK,str→ZN,int→ZO,bool→ZP
open PySem.W renaming Frag→uR,nsIn→YZ,mg_none_of→Zd,kia_one→Zj,codeHdIn→Zm,fnMade→Zs,callWith_K→Z7
namespace L2
open PySem PySem.Spec PyProof.Rows
noncomputable abbrev sv:=Sum Int Str
def xK:sv->gs->Bool
 |.inl k,v=>Value.isInt k v
 |.inr x,v=>ZK x v
def WV(w:ms):sv->Int
 |.inl k=>hashInt k
 |.inr x=>hashStr w x
theorem gJ:∀{k:sv} {v:gs},xK k v=cT->(∃i t,k=Sum.inl i/\v=ZO i t)\/(∃x t,k=Sum.inr x/\v=ZN x t)
 |.inl i,v,h=>by obtain⟨t,e⟩:=Value.isInt_shape (k:=i) (v:=v) h;exact .inl ⟨i,t,rfl,e⟩
 |.inr x,v,h=>by obtain⟨t,e⟩:=lz (x:=x) (v:=v) h;exact .inr ⟨x,t,rfl,e⟩
theorem E1(i:Int)(t:Tok):xK (.inl i) (.int i t)=cT:=by simp[xK,Value.isInt]
theorem E2(x:Str)(t:Tok):xK (.inr x) (.str x t)=cT:=by simp[xK,ZK]
theorem Pa(a b:Int):decide ((Sum.inl a:sv)=Sum.inl b)=(a==b):=by
 by_cases e:a=b
 .subst e;simp
 .have h:¬ (Sum.inl a:sv)=Sum.inl b:=λq=>e (Sum.inl.inj q);rw[aQ h];exact(dk.mpr e).symm
theorem Pc(a b:Str):decide ((Sum.inr a:sv)=Sum.inr b)=decide (a=b):=by
 by_cases e:a=b
 .subst e;simp
 .have h:¬ (Sum.inr a:sv)=Sum.inr b:=λq=>e (Sum.inr.inj q);rw[aQ h,aQ e]
theorem Pd(a:Int)(b:Str):decide ((Sum.inl a:sv)=Sum.inr b)=dw:=aQ (λq=>nomatch q)
theorem Pe(a:Str)(b:Int):decide ((Sum.inr a:sv)=Sum.inl b)=dw:=aQ (λq=>nomatch q)
def mP(prog:YW)(w:ms):PySem.KeyKind prog w sv where
 is:=xK
 hash:=WV w
 inj:=λv a b D U=>by
  rcases gJ D with⟨i,t,rfl,rfl⟩|⟨x,t,rfl,rfl⟩
  .rcases gJ U with⟨j,u,rfl,e⟩|⟨y,u,rfl,e⟩
   .injection e with e1 _;rw[e1]
   .exact nomatch e
  .rcases gJ U with⟨j,u,rfl,e⟩|⟨y,u,rfl,e⟩
   .exact nomatch e
   .injection e with e1 _;rw[e1]
 byValue:=λk v h=>by rcases gJ h with⟨i,t,rfl,rfl⟩|⟨x,t,rfl,rfl⟩<;>rfl
 pyHash:=λW h=>by
  rcases gJ W with⟨i,t,rfl,rfl⟩|⟨x,t,rfl,rfl⟩
  .exact wpAny_pyHash_int h
  .exact wpAny_pyHash_str h
 eqBool:=λd W h=>by
  rcases gJ d with⟨i,t,rfl,rfl⟩|⟨x,t,rfl,rfl⟩
  .rcases gJ W with⟨j,u,rfl,rfl⟩|⟨y,u,rfl,rfl⟩
   .rw[Pa]at h;exact wpAny_eqBool_int h
   .rw[Pd]at h;exact SeqAt.EqAt.int_str i t y u _ _ _ _ h
  .rcases gJ W with⟨j,u,rfl,rfl⟩|⟨y,u,rfl,rfl⟩
   .rw[Pe]at h;exact SeqAt.EqAt.str_int x t j u _ _ _ _ h
   .rw[Pc]at h;exact wpAny_eqBool_str h
 «strs»:=λk x t v h=>by
  rcases gJ h with⟨i,u,rfl,e⟩|⟨y,u,rfl,e⟩
  .exact nomatch e
  .injection e with e1 _;subst e1
   cases v<;>rfl
theorem Al(prog:YW)(w:ms)(i:Int)(t:Tok):(mP prog w).is (.inl i) (.int i t)=cT:=E1 i t
theorem Am(prog:YW)(w:ms)(x:Str)(t:Tok):(mP prog w).is (.inr x) (.str x t)=cT:=E2 x t
inductive V where
 |non|bl (b:Bool)|int (i:Int)|str (x:Str)|byt (b:Array UInt8)|flt (b:UInt64)|ref (a:i0)|ty (n:String)
 deriving DecidableEq
def cN:V->gs->Prop
 |.non,u=>u=Zb
 |.bl b,u=>u=ZP b
 |.int i,u=>∃t,u=ZO i t
 |.str x,u=>∃t,u=ZN x t
 |.byt b,u=>∃t,u=Value.bytes b t
 |.flt b,u=>∃t,u=Value.float b t
 |.ref a,u=>u=YT a
 |.ty n,u=>u=Zo n
abbrev cR:List V->List gs->Prop:=Paired cN
theorem cR.length{xs:List V}(r:cR xs us):xs.length=us.length:=Paired.length r
theorem cR.get:∀{xs:List V} {us:List gs} {i:Nat} {x:V},cR xs us->xs[i]?=bi x->∃u,us[i]?=bi u/\cN x u
 |_,_,_,_,.nil,e=>by simp at e
 |_,_,0,_,.cons r _,e=>by simp at e;subst e;exact⟨_,rfl,r⟩
 |_,_,i+1,x,.cons _ t,e=>by obtain⟨u,Z,Y⟩:=cR.get (i:=i) (x:=x) t (by simpa using e);exact⟨u,by simpa using Z,Y⟩
theorem cR.append:∀{xs ys:List V} {us O:List gs},cR xs us->cR ys O->cR (xs++ys) (us++O)
 |_,_,_,_,.nil,s=>s
 |_,_,_,_,.cons r t,s=>.cons r (cR.append t s)
theorem cR.take:∀{xs:List V} {us:List gs} (n:Nat),cR xs us->cR (xs.take n) (us.take n)
 |_,_,0,_=>.nil
 |_,_,_+1,.nil=>.nil
 |_,_,n+1,.cons r t=>.cons r (cR.take n t)
theorem cR.drop:∀{xs:List V} {us:List gs} (n:Nat),cR xs us->cR (xs.drop n) (us.drop n)
 |_,_,0,r=>r
 |_,_,_+1,.nil=>.nil
 |_,_,n+1,.cons _ t=>cR.drop n t
def Pf:Option V->Option gs->Prop
 |some v,bi u=>cN v u
 |none,cg=>True
 |_,_=>False
def KV{κ:Type}:List (κ×V)->List (κ×gs)->Prop:=Paired λ(p:κ×V) (q:κ×gs)=>p.1=q.1/\cN p.2 q.2
def kV:sv->V
 |.inl i=>.int i
 |.inr x=>.str x
inductive HO where
 /-- a list -/
 |lst (xs:List V)
 /-- a tuple (never changes) -/
 |tup (xs:List V)
 /-- a dict whose keys are ints and texts;one whose keys are tuples of ints and texts (the empty one is both) -/
 |dK (kvs:List (sv×V))|dT (kvs:List (List sv×V))
 /-- a set of ints: bx members,bx size -/
 |set (S:Int->Bool) (n:Nat)
 /-- an instance of the class at C,bx dict at dx,bx attributes -/
 |ins (C dx:i0) (fs:List (Str×V))
 /-- the dict of the instance at x -/
 |own (x:i0)
 /-- the dict of an exception -/
 |xd (fs:List (Str×V))
 /-- a bound method,f of x -/
 |met (f x:i0)
 /-- a range object lo,lo+1,.. below hi -/
 |rng (lo hi:Int)
 /-- a thing that is known to the object (the script;a dict while a loop walks it): read,never written while it is so -/
 |frz (o:Obj) (u:HO)
 /-- a code object's table -/
 |tbl (ps:Array gs)
 /-- any other thing,by what is cT of bx one object (a def of Yn own: SetO a S n:=HO.ext λh=>..) -/
 |ext (φ:pk->Prop)
noncomputable abbrev Hp:=i0->Option HO
def fF(H:Hp)(a:i0)(o:HO):Hp:=λb=>if b=a then bi o else H b
theorem dr{H:Hp}{o:HO}:fF H a o a=bi o:=by unfold fF;rw[ax rfl]
theorem cA{H:Hp}{o:HO}(h:b≠a):fF H a o b=H b:=by unfold fF;rw[aF h]
theorem gj{H:Hp}{o:HO}(h:H a=bi o)(h':H b=cg):a≠b:=by intro e;subst e;rw[h]at h';cases h'
section
variable(P:YW)(w:ms)
def fG(H:Hp)(h:pk)(a:i0):HO->Prop
 |.lst xs=>xs.length<=sizeLine/\∃(bx:List gs) (n:Nat),cR xs bx/\h.get? a=bi { cls:=.type "list",data:=.seq bx.toArray n }
 |.tup xs=>xs.length<=sizeLine/\∃bx:List gs,cR xs bx/\IsTup h a bx.toArray
 |.dK W=>W.length<=sizeLine/\(a==Zf)=dw/\∃U,KV W U/\h.DictOf (mP P w) a U
 |.dT W=>W.length<=sizeLine/\(a==Zf)=dw/\∃xs:List (List sv×i0×gs),
   Paired (λ(p:List sv×V) (q:List sv×i0×gs)=>p.1=q.1/\H q.2.1=bi (.tup (p.1.map kV))/\cN p.2 q.2.2) W xs /\
   ∃o es ep,h.get? a=bi o/\o.ExactDict/\o.data=.dict es ep/\es.toList=xs.map (entryOfKey (tupleKind (mP P w)))/\(xs.map (·.1)).Nodup
 |.set S n=>h.SetOf (intKind P w) a S n
 |.ins C B fs=>H B=bi (.own a)/\fs.length<=1000/\B≠a/\h.get? a=bi (PySem.W.instObj C B) /\
   ∃mA,h.Ns1 B mA/\(∀f,Pf (fs.lookup f) (mA f))/\PySem.Within mA (fs.map (·.1))
 |.own _=>∃o,h.get? a=bi o
 |.xd fs=>∃mA,h.Ns1 a mA/\∀f,Pf (fs.lookup f) (mA f)
 |.rng J D=>∃t u v,h.get? a=bi { cls:=.type "range",data:=.fields #[.int J t,.int D u,.int 1 v] }
 |.frz o u=>h.get? a=bi o/\fG H h a u
 |.tbl ps=>h.get? a=bi { cls:=.none,data:=.fields ps }
 |.met f x=>h.get? a=bi (PySem.W.methodObj (.ref f) (.ref x))
 |.ext φ=>φ h/\(∃o,h.get? a=bi o)/\∀Z Y:pk,φ Z->(∀o,Z.get? a=bi o->Y.get? a=bi o)->φ Y
def mI(H:Hp)(h:pk):Prop:=∀a o,H a=bi o->fG P w H h a o
end
section
variable{w:ms}{H H':Hp}{o:HO}
theorem fG.lt(x:fG P w H h a o):a<h.objs.size:=by
 cases o with
 |lst d=>obtain⟨_,_,_,_,e⟩:=x;exact aB e
 |tup d=>obtain⟨_,_,_,p⟩:=x;exact p.lt
 |dK W=>obtain⟨_,_,_,_,o,_,_,e,_⟩:=x;exact aB e
 |dT W=>obtain⟨_,_,_,_,o,_,_,e,_⟩:=x;exact aB e
 |set S n=>obtain⟨o,_,_,_,e,_⟩:=x;exact aB e
 |ins C B fs=>obtain⟨_,_,_,e,_⟩:=x;exact aB e
 |own y=>obtain⟨_,e⟩:=x;exact aB e
 |xd fs=>obtain⟨_,⟨_,_,_,e,_⟩,_⟩:=x;exact aB e
 |rng J D=>obtain⟨_,_,_,e⟩:=x;exact aB e
 |frz R u=>obtain⟨e,_⟩:=x;exact aB e
 |tbl Z=>exact aB (show h.get? a=bi _ from x)
 |met f y=>exact aB (show h.get? a=bi _ from x)
 |ext z=>obtain⟨_,⟨_,e⟩,_⟩:=x;exact aB e
theorem Paired.mapP{F G:α->β->Prop}:∀{y:List α} {z:List β},Paired F y z->(∀a b,F a b->G a b)->Paired G y z
 |_,_,.nil,_=>.nil
 |_,_,.cons r t,f=>.cons (f _ _ r) (Paired.mapP t f)
theorem Paired.imp'{F G:α->β->Prop}(f:∀a b,F a b->G a b){l₁:List α}{l₂:List β}(r:Paired F l₁ l₂):Paired G l₁ l₂:=Paired.mapP r f
theorem fG.stay(x:fG P w H h a o)(k:∀b u,(b=a\/H b=bi (.own a))->h.get? b=bi u->h'.get? b=bi u)
  (V:∀b,H b=bi (.own a)->H' b=bi (.own a)) (Z:∀b xs,H b=bi (.tup xs)->H' b=bi (.tup xs)):fG P w H' h' a o:=by
 induction o with
 |lst xs=>obtain⟨z,O,n,r,e⟩:=x;exact⟨z,O,n,r,k _ _ (.inl rfl) e⟩
 |tup xs=>obtain⟨z,O,r,R,e,c⟩:=x;exact⟨z,O,r,R,k _ _ (.inl rfl) e,c⟩
 |dK W=>obtain⟨z,y,U,r,R,J,X,e,c⟩:=x;exact⟨z,y,U,r,R,J,X,k _ _ (.inl rfl) e,c⟩
 |dT W=>
  obtain⟨z,y,xs,r,R,J,X,e,c⟩:=x;exact⟨z,y,xs,Paired.mapP r λp q z=>⟨z.1,Z _ _ z.2.1,z.2.2⟩,R,J,X,k _ _ (.inl rfl) e,c⟩
 |set S n=>obtain⟨R,J,X,t,e,c⟩:=x;exact⟨R,J,X,t,k _ _ (.inl rfl) e,c⟩
 |ins C G fs=>
  obtain⟨d,z,ne,e,mA,⟨F,J,X,e2,c⟩,r⟩:=x;exact⟨V _ d,z,ne,k _ _ (.inl rfl) e,mA,⟨F,J,X,k _ _ (.inr d) e2,c⟩,r⟩
 |own y=>obtain⟨R,e⟩:=x;exact⟨R,k _ _ (.inl rfl) e⟩
 |xd fs=>obtain⟨mA,⟨F,J,X,e,c⟩,r⟩:=x;exact⟨mA,⟨F,J,X,k _ _ (.inl rfl) e,c⟩,r⟩
 |rng I D=>obtain⟨t,u,v,e⟩:=x;exact⟨t,u,v,k _ _ (.inl rfl) e⟩
 |frz R u B=>obtain⟨e,q⟩:=x;exact⟨k _ _ (.inl rfl) e,B q⟩
 |tbl L=>
  have e:h.get? a=bi { cls:=.none,data:=.fields L }:=x;show h'.get? a=bi { cls:=.none,data:=.fields L };exact k a _ (.inl rfl) e
 |met f y=>
  have e:h.get? a=bi (PySem.W.methodObj (.ref f) (.ref y)):=x;show h'.get? a=bi (PySem.W.methodObj (.ref f) (.ref y));exact k a _ (.inl rfl) e
 |ext φ=>obtain⟨p,⟨o,e⟩,Y⟩:=x;exact⟨Y _ _ p λo q=>k _ _ (.inl rfl) q,⟨o,k _ _ (.inl rfl) e⟩,Y⟩
theorem mI.lt(x:mI P w H h)(e:H a=bi o):a<h.objs.size:=(x a o e).lt
theorem mI.fresh(x:mI P w H h)(e:h.objs.size<=a):H a=cg:=by
 cases q:H a with
 |none=>rfl
 |some u=>exact absurd (aR (x.lt q) e) (bX _)
theorem mI.kept(x:mI P w H h)(k:∀b u,h.get? b=bi u->h'.get? b=bi u):mI P w H h':=λa o e=>
 (x a o e).stay (λb u _ q=>k b u q) (λ_ q=>q) λ_ _ q=>q
theorem mI.laid(x:mI P w H h)(k:∀b u,h.get? b=bi u->h'.get? b=bi u)(G:h.objs.size<=a)(new:fG P w (fF H a o) h' a o):mI P w (fF H a o) h':=λb u e=>by
 have R:=x.fresh G
 by_cases U:b=a
 .subst U;rw[dr]at e;cases e;exact new
 .rw[cA U]at e;exact(x b u e).stay (λc v _ q=>k c v q) (λc q=>by rw[cA (gj q R)];exact q) λc d q=>by rw[cA (gj q R)];exact q
end
def Rd(H:Hp)(a:i0)(u:HO):Prop:=H a=bi u\/∃o,H a=bi (.frz o u)
theorem Rd.ok{w:ms}{H:Hp}{u:HO}(r:Rd H a u)(x:mI P w H h):fG P w H h a u:=by
 rcases r with r|⟨o,r⟩
 .exact x a u r
 .obtain⟨_,q⟩:=x a _ r;exact q
def Pg:Option HO->Prop
 |some (.lst _)=>True
 |some (.dK _)=>True
 |some (.dT _)=>True
 |some (.set _ _)=>True
 |some (.ins _ _ _)=>True
 |some (.ext _)=>True
 |_=>False
section
variable{w:ms}{H:Hp}{x e:i0}{o':HO}
theorem mI.write(ok:mI P w H h)(Y:Pg (H x))(J:e=x\/H e=bi (.own x))(k:∀b u,b≠e->h.get? b=bi u->h'.get? b=bi u)(Tp:∃u,h'.get? e=bi u)
  (new:fG P w (fF H x o') h' x o'):mI P w (fF H x o') h':=λb u q=>by
 have Z:∀c y,H c=bi (.own y)->c≠x:=λc y r z=>by subst z;rw[r]at Y;exact Y
 have X:∀c d,H c=bi (.tup d)->c≠x:=λc d r z=>by subst z;rw[r]at Y;exact Y
 by_cases U:b=x
 .subst U;rw[dr]at q;cases q;exact new
 .rw[cA U]at q
  by_cases t:b=e
  .have B:H b=bi (.own x):=by
    rcases J with z|z
    .exact absurd (t.trans z) U
    .rw[t];exact z
   rw[q]at B;cases B
   obtain⟨v,W⟩:=Tp;exact⟨v,by rw[t];exact W⟩
  .refine(ok b u q).stay (λc v hc r=>k c v ?_ r) (λc r=>by rw[cA (Z c b r)];exact r) λc d r=>by rw[cA (X c d r)];exact r
   rcases hc with rfl|hc
   .exact t
   .rintro rfl;rcases J with z|z
    .exact Z c b hc z
    .rw[hc]at z;cases z;exact U rfl
end
structure Un(fs ex:List i0)(H H':Hp)(h h':pk):Prop where
 keep:∀b o,h.get? b=bi o->H b=cg->b∉fs->b∉ex->h'.get? b=bi o
 slot:∀b o,h.get? b=bi o->H b=cg->b∈fs->b∉ex->∃sl,h'.get? b=bi { o with slots:=sl }
 free:∀b o,h.get? b=bi o->H b=cg->b∉ex->H' b=cg
 there:∀b o,h.get? b=bi o->b∉ex->∃o',h'.get? b=bi o'
 tups:∀b xs,H b=bi (.tup xs)->H' b=bi (.tup xs)
 frzs:∀b o u,H b=bi (.frz o u)->H' b=bi (.frz o u)
 tbls:∀b ps,H b=bi (.tbl ps)->∃more,H' b=bi (.tbl (ps++more))
section
variable{fs YJ ex YL:List i0}{H H1 H2:Hp}{h1 h2:pk}{x e:i0}{o:HO}
theorem Un.any(u:Un fs ex H H1 h h1){R:Obj}(q:h.get? b=bi R)(n:H b=cg)(O:b∉ex):∃F,h1.get? b=bi { R with slots:=F }:=by
 by_cases U:b∈fs
 .exact u.slot b R q n U O
 .exact⟨R.slots,u.keep b R q n U O⟩
theorem Un.kept(k:∀b u,h.get? b=bi u->h'.get? b=bi u):Un fs ex H H h h':=
 ⟨λb R q _ _ _=>k b R q,λb R q _ _ _=>⟨R.slots,k b R q⟩,λ_ _ _ n _=>n,λb R q _=>⟨R,k b R q⟩,λ_ _ q=>q,λ_ _ _ q=>q,λ_ Z q=>⟨#[],by rw[q];simp⟩⟩
theorem Un.refl:Un fs ex H H h h:=Un.kept λ_ _ q=>q
theorem Un.laid(k:∀b u,h.get? b=bi u->h'.get? b=bi u)(U:h.objs.size<=a)(R:H a=cg):Un fs ex H (fF H a o) h h' where
 keep:=λb u q _ _ _=>k b u q
 slot:=λb u q _ _ _=>⟨u.slots,k b u q⟩
 free:=λb u q n _=>by rw[cA (aJ (aR (aB q) U))];exact n
 there:=λb u q _=>⟨u,k b u q⟩
 tups:=λb d q=>by rw[cA (gj q R)];exact q
 frzs:=λb u d q=>by rw[cA (gj q R)];exact q
 tbls:=λb Z q=>⟨#[],by rw[cA (gj q R),q];simp⟩
theorem Un.write(Y:Pg (H x))(J:e=x\/H e=bi (.own x))(k:∀b u,b≠e->h.get? b=bi u->h'.get? b=bi u)(Tp:∃u,h'.get? e=bi u):Un fs ex H (fF H x o) h h':=by
 have O:∀b,H b=cg->b≠x:=λb n z=>by subst z;rw[n]at Y;exact Y
 have U:∀b,H b=cg->b≠e:=λb n z=>by
  subst z;rcases J with r|r
  .exact O b n r
  .rw[n]at r;cases r
 have y:∀b u,H b=bi u->¬ Pg (bi u)->b≠x:=λb u q w z=>by subst z;rw[q]at Y;exact w Y
 refine⟨λb u q n _ _=>k b u (U b n) q,λb u q n _ _=>⟨u.slots,k b u (U b n) q⟩,λb u q n _=>by rw[cA (O b n)];exact n,λb u q _=>?_,
  λb d q=>by rw[cA (y b _ q λz=>z)];exact q,λb u d q=>by rw[cA (y b _ q λz=>z)];exact q,λb Z q=>⟨#[],by rw[cA (y b _ q λz=>z),q];simp⟩⟩
 by_cases t:b=e
 .subst t;exact Tp
 .exact⟨u,k b u t q⟩
end
def Ph(h:pk)(H:Hp):List i0:=(vr h.objs.size).filter λa=>(H a).isSome
def xj(h:pk)(H:Hp):pk:=hideAll h (Ph h H)
theorem E3(h:pk)(H:Hp):(xj h H).objs.size=h.objs.size:=PySem.W.hideAll_size _ _
theorem GP{H:Hp}(e:h.get? b=bi o)(n:H b=cg):(xj h H).get? b=bi o:=
 PySem.W.hideAll_get _ e λy=>by have q:(H b).isSome=cT:=(eW.mp y).2;rw[n]at q;simp at q
theorem KY{H:Hp}(e:(xj h H).get? b=bi o):h.get? b=bi o/\H b=cg:=by
 have R:h.get? b=bi o:=PySem.W.of_hideAll (Ph h H) e;refine⟨R,?_⟩
 cases q:H b with
 |none=>rfl
 |some x=>
  have y:b∈Ph h H:=eW.mpr ⟨cK.mpr (aB R),by simp[q]⟩;have z:(xj h H).get? b=cg:=PySem.W.hideAll_none (Ph h H) y;rw[z]at e;cases e
noncomputable def KZ(g h:pk)(L:i0):List (i0×Obj):=(vr h.objs.size).filterMap λa=>if a=L\/(g.get? a).isSome=cT then cg else(h.get? a).map λo=>(a,o)
def d8(g h:pk)(L d:i0):List (i0×Obj):=(KZ g h L).filter λp=>decide (p.1≠d)
structure Mod(K:uR)(mg:Str->Option gs)(base:pk):Prop where
 kin:K.In base
 glob:base.Ns wU mg
 blt:∃mb,base.Ns Z8 mb/\∀x:Str,x ≠ "__name__"->mb x=ZI x
 nolimit:base.NoLimit
structure Cx where
 prog:YW
 w:ms
 K:uR
 mg:Str->Option gs
 base:pk
 A:yy
 N:List Str
 s₀:i2
 H₀:Hp
 env:Env
 outer:List Env
 stack:List Env
 ex:List i0
 fn:Str->Bool
 calm:Bool
 pn:List (i0×Obj)
 xe:gs->i2->Prop
noncomputable def t5(l:List Env):List i0:=l.filterMap (·.frame)
abbrev Cx.fs(X:Cx):List i0:=t5 X.outer
def Nh(sc:Y0)(x:Str):Prop:=sc.names.lookup x=bi .local\/sc.names.lookup x=bi .cell\/sc.names.lookup x=bi .free
def GK(sc:Y0)(x:Str):Prop:=sc.names.lookup x=bi .local\/sc.names.lookup x=bi .cell
def WW(env:Env)(h:pk)(m:Str->Option gs)(x:Str)(u:gs):Prop:=
 (env.kindOf x=bi .local/\m x=bi u)\/((env.kindOf x=bi .cell\/env.kindOf x=bi .free)/\∃c,env.cells.lookup x=bi c/\h.IsCell c (bi u))
structure Cx.Ok(X:Cx):Prop where
 mod:Mod X.K X.mg X.base
 kind:X.env.scope.kind=.function
 glob:X.env.globals=wU
 blt:X.env.builtins=Z8
 above:X.s₀.heap.objs.size<=X.env.locals
 inj:∀x y c,X.env.cells.lookup x=bi c->X.env.cells.lookup y=bi c->x=y
 has:∀x,(X.env.kindOf x=bi .cell\/X.env.kindOf x=bi .free)->∃c,X.env.cells.lookup x=bi c
 cab:∀x c,X.fn x=cT->X.env.cells.lookup x=bi c->X.s₀.heap.objs.size<=c
 hd:X.calm=cT->X.A.handled=cg
 frames:X.A.frames=bi X.stack
 stk:X.stack=X.outer\/(X.stack=X.env::X.outer/\X.env.frame=bi X.env.locals)
 exf:∀b∈X.ex,b≠X.env.locals/\∀x c,X.env.cells.lookup x=bi c->c≠b
 bs:∀b o,X.base.get? b=bi o->X.s₀.heap.get? b=bi o/\X.H₀ b=cg
 bsz:X.base.objs.size<=X.s₀.heap.objs.size
 noex:∀b o,X.base.get? b=bi o->b∉X.ex
 exfs:∀b∈X.ex,b∉X.fs
 funs:X.s₀.heap.FunFrames X.base X.outer
 frf:∀b∈X.fs,X.H₀ b=cg
structure bH(X:Cx)(aj:List (i0×Obj))(σ:List (Option V))(H:Hp)(s:i2):Prop where
 ok:X.Ok
 os:s.os=X.s₀.os
 bare:Zp s.gens
 base:Un X.fs X.ex X.H₀ H X.s₀.heap s.heap
 loc:∃m,s.heap.Ns X.env.locals m/\∀(i:Nat) (x:Str) (v:V),X.N[i]?=bi x->σ[i]?=bi (bi v)->Nh X.env.scope x->∃u,cN v u/\WW X.env s.heap m x u
 cell:∀x c,X.env.cells.lookup x=bi c->∃v,s.heap.IsCell c v
 free:H X.env.locals=cg
 freeC:∀x c,X.env.cells.lookup x=bi c->H c=cg
 pin:∀p∈X.pn++aj,s.heap.get? p.1=bi p.2/\H p.1=cg/\p.1≠X.env.locals/\p.1∉X.fs/\∀v,p.2.data≠.cell v
 hok:mI X.prog X.w H s.heap
 len:σ.length=X.N.length
section
variable{X:Cx}{σ:List (Option V)}{H H':Hp}
theorem Cx.Ok.nofr(ok:X.Ok)(e:X.base.get? b=bi o):b∉X.fs:=λU=>by have:=(ok.funs.mem U).1;rw[e]at this;cases this
theorem bH.bs(I:bH X aj σ H s):∀b o,X.base.get? b=bi o->s.heap.get? b=bi o/\H b=cg:=λb o e=>
 ⟨I.base.keep b o (I.ok.bs b o e).1 (I.ok.bs b o e).2 (I.ok.nofr e) (I.ok.noex b o e),I.base.free b o (I.ok.bs b o e).1 (I.ok.bs b o e).2 (I.ok.noex b o e)⟩
theorem bH.bk(I:bH X aj σ H s):∀b o,X.base.get? b=bi o->s.heap.get? b=bi o:=λb o e=>(I.bs b o e).1
theorem bH.mod(I:bH X aj σ H s):Mod X.K X.mg X.base:=I.ok.mod
theorem bH.kIn(I:bH X aj σ H s):X.K.In s.heap:=I.ok.mod.kin.keeps I.bk
theorem bH.lt(I:bH X aj σ H s):X.env.locals<s.heap.objs.size:=let ⟨_,hn,_⟩:=I.loc;hn.lt
theorem bH.sz(I:bH X aj σ H s):X.s₀.heap.objs.size<=s.heap.objs.size:=aT I.ok.above (cx I.lt)
theorem bH.nofs(I:bH X aj σ H s)(h:s.heap.objs.size<=a):a∉X.fs:=λU=>by obtain⟨_,o,w,_⟩:=I.ok.funs.mem U;exact absurd (aR (aB w) (aT I.sz h)) (bX _)
theorem bH.cne(I:bH X aj σ H s):∀x c,X.env.cells.lookup x=bi c->c≠X.env.locals:=λx c e z=>by obtain⟨v,o,w,D⟩:=I.cell x c e;obtain⟨m,⟨B,J,W,Y,R,_⟩,_⟩:=I.loc;rw[z,Y]at w;cases w;rw[R]at D;cases D
theorem bH.funs(I:bH X aj σ H s):s.heap.FunFrames X.base X.outer:=by
 have all:∀(l:List Env),(∀b∈t5 l,b∈X.fs)->X.s₀.heap.FunFrames X.base l->s.heap.FunFrames X.base l:=by
  intro l
  induction l with
  |nil=>intro _ _;trivial
  |cons y r d=>
   intro O D;obtain⟨B,⟨L,o,J,W,w,Y⟩,R⟩:=D;have G:L∈X.fs:=O L (by unfold t5;rw[gZ,J];exact aX);obtain⟨F,e⟩:=I.base.slot L o w (I.ok.frf L G) G λz=>I.ok.exfs L z G;exact⟨B,⟨L,_,J,W,e,Y⟩,d (λb U=>O b (by unfold t5;rw[gZ,J];exact aC _ U)) R⟩
 exact all X.outer (λ_ U=>U) I.ok.funs
theorem bH.stack(I:bH X aj σ H s):s.heap.FunFrames X.base X.stack:=by
 rcases I.ok.stk with e|⟨e,J⟩
 .rw[e];exact I.funs
 .rw[e];obtain⟨m,R,_⟩:=I.loc;refine .cons (by rw[I.ok.kind];decide) J R ?_ I.funs;exact Heap.get?_none_of_le (aT I.ok.bsz I.ok.above)
theorem bH.stkSub(I:bH X aj σ H s):∀b∈t5 X.stack,b∈X.env.locals::X.fs:=λb U=>by
 rcases I.ok.stk with e|⟨e,J⟩
 .rw[e]at U;exact aC _ U
 .rw[e]at U;unfold t5 at U;rw[gZ,J]at U;exact U
theorem bH.stkFree(I:bH X aj σ H s):∀b∈t5 X.stack,H b=cg:=λb hb=>by
 rcases aG.mp (I.stkSub b hb)with e|hb
 .rw[e];exact I.free
 .obtain⟨_,o,w,_⟩:=I.ok.funs.mem hb;exact I.base.free b o w (I.ok.frf b hb) λz=>I.ok.exfs b z hb
theorem bH.step{g':Array GenState}{t':Nat}{d':Drawn}{ch:List i0}(I:bH X aj σ H s)
  (KS:∀b∈ch,(b∈X.ex\/X.s₀.heap.objs.size<=b)/\b≠X.env.locals/\(∀x c,X.env.cells.lookup x=bi c->c≠b)/\∀p∈X.pn++aj,p.1≠b)
  (keep:∀b o,b≠X.env.locals->b∉X.fs->b∉ch->s.heap.get? b=bi o->H b=cg->h'.get? b=bi o)
  (slot:∀b o,b≠X.env.locals->b∈X.fs->b∉ch->s.heap.get? b=bi o->H b=cg->∃F,h'.get? b=bi { o with slots:=F }) (free:∀b o,b∉ch->s.heap.get? b=bi o->H b=cg->H' b=cg)
  (there:∀b o,b∉ch->s.heap.get? b=bi o->∃B,h'.get? b=bi B)
  (tups:∀b xs,H b=bi (.tup xs)->H' b=bi (.tup xs)) (frzs:∀b o u,H b=bi (.frz o u)->H' b=bi (.frz o u)) (tbls:∀b ps,H b=bi (.tbl ps)->∃more,H' b=bi (.tbl (ps++more)))
  (ns:∀m,s.heap.Ns X.env.locals m->h'.Ns X.env.locals m) (t:mI X.prog X.w H' h') (L:Zp g') :
  bH X aj σ H' { s with heap:=h',gens:=g',drawn:=d',toks:=t' }:=by
 have neL:∀b o,X.s₀.heap.get? b=bi o->b≠X.env.locals:=λb o e=>aJ (aR (aB e) I.ok.above);have neC:∀b o,X.s₀.heap.get? b=bi o->b∉X.ex->b∉ch:=λb o e O U=>by
  rcases(KS b U).1 with z|z
  .exact O z
  .exact absurd (aR (aB e) z) (bX _)
 have cellK:∀x c,X.env.cells.lookup x=bi c->∀v,s.heap.IsCell c v->h'.IsCell c v:=λx c e v y=>by
  obtain⟨o,w,Y⟩:=y;have nch:c∉ch:=λz=>(KS c z).2.2.1 x c e rfl
  by_cases J:c∈X.fs
  .obtain⟨F,q⟩:=slot c o (I.cne x c e) J nch w (I.freeC x c e);exact⟨_,q,Y⟩
  .exact⟨o,keep c o (I.cne x c e) J nch w (I.freeC x c e),Y⟩
 refine⟨I.ok,I.os,L,⟨λb o e n U O=>?_,λb o e n U O=>?_,λb o e n O=>?_,λb o e O=>?_,λb xs e=>tups b xs (I.base.tups b xs e),λb o xs e=>frzs b o xs (I.base.frzs b o xs e),λb ps e=>?_⟩,?_,λx c e=>?_,?_,λx c e=>?_,λp G=>?_,t,I.len⟩
 .exact keep b o (neL b o e) U (neC b o e O) (I.base.keep b o e n U O) (I.base.free b o e n O)
 .obtain⟨F,Z⟩:=I.base.slot b o e n U O;obtain⟨sl',e2⟩:=slot b _ (neL b o e) U (neC b o e O) Z (I.base.free b o e n O);exact⟨sl',e2⟩
 .obtain⟨B,Z⟩:=I.base.there b o e O;exact free b B (neC b o e O) Z (I.base.free b o e n O)
 .obtain⟨B,Z⟩:=I.base.there b o e O;exact there b B (neC b o e O) Z
 .obtain⟨m1,Z⟩:=I.base.tbls b ps e;obtain⟨m2,e2⟩:=tbls b _ Z;exact⟨m1++m2,by rw[e2,Array.append_assoc]⟩
 .obtain⟨m,R,D⟩:=I.loc;refine⟨m,ns m R,λi x v Z e2 W=>?_⟩;obtain⟨u,r,l⟩:=D i x v Z e2 W;refine⟨u,r,?_⟩;rcases l with l|⟨k,c,e,z⟩
  .exact .inl l
  .exact .inr ⟨k,c,e,cellK x c e _ z⟩
 .obtain⟨v,z⟩:=I.cell x c e;exact⟨v,cellK x c e v z⟩
 .obtain⟨m,⟨o,_,_,w,_⟩,_⟩:=I.loc;exact free _ o (λz=>(KS _ z).2.1 rfl) w I.free
 .obtain⟨v,o,w,Y⟩:=I.cell x c e;exact free c o (λz=>(KS c z).2.2.1 x c e rfl) w (I.freeC x c e)
 .obtain⟨e,n,ne,nf,d⟩:=I.pin p G;have nch:p.1∉ch:=λz=>(KS p.1 z).2.2.2 p G rfl;exact⟨keep p.1 p.2 ne nf nch e n,free p.1 p.2 nch e n,ne,nf,d⟩
theorem bH.un{t':Nat}(I:bH X aj σ H s)(u:Un X.fs [] H H' s.heap h')(R:mI X.prog X.w H' h'):bH X aj σ H' { s with heap:=h',toks:=t' }:=by
 obtain⟨m,⟨o,J,W,w,r⟩,_⟩:=id I.loc;obtain⟨F,G⟩:=u.any w I.free #[5];exact I.step (g':=s.gens) (d':=s.drawn) (ch:=[]) (λ_ z=>nomatch z) (λb o _ U _ e n=>u.keep b o e n U #[5]) (λb o _ U _ e n=>u.slot b o e n U #[5]) (λb o _ e n=>u.free b o e n #[5]) (λb o _ e=>u.there b o e #[5]) u.tups u.frzs u.tbls (λZ y=>by
  obtain⟨B,O,L,Y,D⟩:=y;rw[w]at Y;cases Y
  exact⟨_,O,L,G,D⟩) R I.bare
theorem bH.call{g':Array GenState}{t':Nat}{d':Drawn}{ch:List i0}(I:bH X aj σ H s)(u:Un (t5 X.stack) ch H H' s.heap h')(R:mI X.prog X.w H' h')(d:Zp g')
  (KS:∀b∈ch,(b∈X.ex\/X.s₀.heap.objs.size<=b)/\b≠X.env.locals/\(∀x c,X.env.cells.lookup x=bi c->c≠b)/\∀p∈X.pn++aj,p.1≠b) :
  bH X aj σ H' { s with heap:=h',gens:=g',drawn:=d',toks:=t' }:=by
 obtain⟨m,⟨o,t,W,w,r⟩,_⟩:=id I.loc;obtain⟨F,G⟩:=u.any w I.free λz=>(KS _ z).2.1 rfl;exact I.step (ch:=ch) KS (λb o G U J e n=>u.keep b o e n (λz=>(aG.mp (I.stkSub b z)).elim G U) J) (λb o _ _ J e n=>u.any e n J) (λb o J e n=>u.free b o e n J) (λb o J e=>u.there b o e J) u.tups u.frzs u.tbls (λZ y=>by
  obtain⟨B,O,L,Y,D⟩:=y;rw[w]at Y;cases Y
  exact⟨_,O,L,G,D⟩) R d
theorem bH.turned{t':Nat}{it:i0}(I:bH X aj σ H s)(k:∀b o,b≠it->s.heap.get? b=bi o->h'.get? b=bi o)(R:H it=cg)(G:it≠X.env.locals)
  (Z:it∈X.ex\/X.s₀.heap.objs.size<=it) (Y:∀x c,X.env.cells.lookup x=bi c->c≠it) (B:∀p∈X.pn++aj,p.1≠it):bH X aj σ H { s with heap:=h',toks:=t' }:=by
 have d:∀b u,H b=bi u->b≠it:=λb u e z=>by rw[z,R]at e;cases e
 refine I.step (g':=s.gens) (d':=s.drawn) (ch:=[it]) (λb U=>?_) (λb o _ _ J e _=>k b o (λz=>J (by simp[z])) e) (λb o _ _ J e _=>⟨o.slots,k b o (λz=>J (by simp[z])) e⟩) (λ_ _ _ _ n=>n)
  (λb o J e=>⟨o,k b o (λz=>J (by simp[z])) e⟩) (λ_ _ e=>e) (λ_ _ _ e=>e) (λb L e=>⟨#[],by rw[e];simp⟩) (λm y=>?_) (λb u e=>?_) I.bare
 .have e:b=it:=by simpa using U
  subst e;exact⟨Z,G,Y,B⟩
 .obtain⟨o,t,W,w,r⟩:=y;exact⟨o,t,W,k _ o (YU G) w,r⟩
 .refine(I.hok b u e).stay (λc v J q=>k c v ?_ q) (λ_ q=>q) λ_ _ q=>q;rcases J with z|z
  .rw[z];exact d b u e
  .exact d c _ z
theorem bH.tok(I:bH X aj σ H s)(t:Nat):bH X aj σ H { s with toks:=t }:=I.un (h':=s.heap) (t':=t) Un.refl I.hok
theorem bH.kept{t':Nat}(I:bH X aj σ H s)(k:∀b u,s.heap.get? b=bi u->h'.get? b=bi u):bH X aj σ H { s with heap:=h',toks:=t' }:=I.un (Un.kept k) (I.hok.kept k)
theorem bH.laid{a:i0}{o:HO}{t':Nat}(I:bH X aj σ H s)(k:∀b u,s.heap.get? b=bi u->h'.get? b=bi u)(U:s.heap.objs.size<=a)(new:fG X.prog X.w (fF H a o) h' a o) :
  bH X aj σ (fF H a o) { s with heap:=h',toks:=t' }:=I.un (Un.laid k U (I.hok.fresh U)) (I.hok.laid k U new)
theorem bH.write{x e:i0}{o:HO}(I:bH X aj σ H s)(Y:Pg (H x))(J:e=x\/H e=bi (.own x))(k:∀b u,b≠e->s.heap.get? b=bi u->h'.get? b=bi u)(Tp:∃u,h'.get? e=bi u)
  (new:fG X.prog X.w (fF H x o) h' x o):bH X aj σ (fF H x o) { s with heap:=h',toks:=t' }:=I.un (Un.write Y J k Tp) (I.hok.write Y J k Tp new)
theorem bH.pins_of{pins':List (i0×Obj)}(I:bH X aj σ H s)(h:∀p∈pins',s.heap.get? p.1=bi p.2/\H p.1=cg/\p.1≠X.env.locals/\p.1∉X.fs/\∀v,p.2.data≠.cell v):bH X pins' σ H s:=
 ⟨I.ok,I.os,I.bare,I.base,I.loc,I.cell,I.free,I.freeC,λp U=>(aZ.mp U).elim (λz=>I.pin p (c_ _ z)) (h p),I.hok,I.len⟩
theorem An{N:List Str}(z:N.Nodup)(a:N[i]?=bi x)(b:N[j]?=bi x):i=j:=by obtain⟨Z,d⟩:=ak.mp a;obtain⟨Y,e2⟩:=ak.mp b;exact(List.getElem_inj z).mp (d.trans e2.symm)
theorem E4{M:Model}{A:yy}{E:gs->i2->Prop}{v:V}{Q:Unit->i2->Prop}(I:bH X aj σ H s)(hN:X.N.Nodup)(D:X.N[i]?=bi x)(O:GK X.env.scope x)(r:cN v u)
  (h:∀W,bH X aj (σ.set i (bi v)) H W->(∃a,Zy a s.heap W.heap/\(a=X.env.locals\/X.env.cells.lookup x=bi a))->Q () W) (J:X.fn x=cT\/X.env.scope.names.lookup x=bi .local:=by first|exact .inl rfl|exact .inr rfl|assumption):i1 M A (ZW X.env x u) Q E s:=by
 obtain⟨m,R,Y⟩:=id I.loc;have hcls:(X.env.scope.kind==.class||(X.env.scope.kind==.module&&X.env.locals != X.env.globals))=dw:=by rw[I.ok.kind];rfl
 have hiσ:i<σ.length:=by rw[I.len];exact(ak.mp D).1
 have cne:=I.cne;have tracked:∀{a:i0} {w:pk},(∃o,s.heap.get? a=bi o/\H a=cg)->Zy a s.heap w->mI X.prog X.w H w:=λ{a w} ha B b ob e=>by
  obtain⟨_,_,hfree⟩:=ha;refine(I.hok b ob e).stay (λc w' hc q=>(B.2 c ?_).trans q) (λ_ q=>q) λ_ _ q=>q;rintro rfl;rcases hc with rfl|hc
  .rw[hfree]at e;cases e
  .rw[hfree]at hc;cases hc
 rcases O with hk|hk
 .refine wpAny_storeName_local hk R (λw hn' B=>?_) hcls;obtain⟨oL,_,_,hoL,_⟩:=id R;refine h _ ⟨I.ok,I.os,I.bare,⟨λb o e n U O=>?_,λb o e n U O=>?_,I.base.free,λb o e O=>?_,I.base.tups,I.base.frzs,I.base.tbls⟩,⟨_,hn',λj y v' Z e2 t=>?_⟩,λy c e=>?_,I.free,I.freeC,λp G=>?_,tracked ⟨oL,hoL,I.free⟩ B,by simpa using I.len⟩ ⟨_,B,.inl rfl⟩
  .exact(B.2 b (aJ (aR (aB e) I.ok.above))).trans (I.base.keep b o e n U O)
  .obtain⟨sl,Z⟩:=I.base.slot b o e n U O;exact⟨sl,(B.2 b (aJ (aR (aB e) I.ok.above))).trans Z⟩
  .obtain⟨o',Z⟩:=I.base.there b o e O;exact⟨o',(B.2 b (aJ (aR (aB e) I.ok.above))).trans Z⟩
  .by_cases L:j=i
   .subst L;rw[D]at Z;cases Z
    rw[cn hiσ]at e2
    cases e2
    exact⟨u,r,.inl ⟨hk,by simp⟩⟩
   .rw[bQ (YU L)]at e2;obtain⟨u',F,q⟩:=Y j y v' Z e2 t;refine⟨u',F,?_⟩;rcases q with⟨k,e⟩|⟨k,c,e,z⟩
    .refine .inl ⟨k,?_⟩;have:y≠x:=λe=>L (An hN Z (e▸D));simp[this,e]
    .exact .inr ⟨k,c,e,z.sameBut B (cne y c e)⟩
  .obtain⟨w',z⟩:=I.cell y c e;exact⟨w',z.sameBut B (cne y c e)⟩
  .obtain⟨e,n,ne,nf,d⟩:=I.pin p G;exact⟨(B.2 p.1 ne).trans e,n,ne,nf,d⟩
 .have xf:X.fn x=cT:=by
   rcases J with z|z
   .exact z
   .rw[z]at hk;cases hk
  obtain⟨c,hc⟩:=I.ok.has x (.inl hk);obtain⟨w',z⟩:=I.cell x c hc;refine wpAny_storeName_cell I.ok.kind hk hc z (λw hc' B=>?_);obtain⟨oc,hoc,hocd⟩:=id z;refine h { s with heap:=w } ⟨I.ok,I.os,I.bare,⟨λb o e n U O=>?_,λb o e n U O=>?_,I.base.free,λb o e O=>?_,I.base.tups,I.base.frzs,I.base.tbls⟩,⟨m,R.sameBut B (YU (cne x c hc)),λj y v' Z e2 t=>?_⟩,λy c' e=>?_,I.free,I.freeC,λp G=>?_,tracked ⟨oc,hoc,I.freeC x c hc⟩ B,by simpa using I.len⟩ ⟨c,B,.inr hc⟩
  .exact(B.2 b (aJ (aR (aB e) (I.ok.cab x c xf hc)))).trans (I.base.keep b o e n U O)
  .obtain⟨sl,Z⟩:=I.base.slot b o e n U O;exact⟨sl,(B.2 b (aJ (aR (aB e) (I.ok.cab x c xf hc)))).trans Z⟩
  .obtain⟨o',Z⟩:=I.base.there b o e O;exact⟨o',(B.2 b (aJ (aR (aB e) (I.ok.cab x c xf hc)))).trans Z⟩
  .by_cases L:j=i
   .subst L;rw[D]at Z;cases Z
    rw[cn hiσ]at e2
    cases e2
    exact⟨u,r,.inr ⟨.inl hk,c,hc,hc'⟩⟩
   .rw[bQ (YU L)]at e2;obtain⟨u',F,q⟩:=Y j y v' Z e2 t;refine⟨u',F,?_⟩;rcases q with q|⟨k,c',e,z'⟩
    .exact .inl q
    .refine .inr ⟨k,c',e,z'.sameBut B ?_⟩;rintro rfl;exact L (An hN Z (I.ok.inj _ _ _ e hc▸D))
  .by_cases hcc:c'=c
   .subst hcc;exact⟨_,hc'⟩
   .obtain⟨w2,z2⟩:=I.cell y c' e;exact⟨w2,z2.sameBut B hcc⟩
  .obtain⟨e,n,ne,nf,d⟩:=I.pin p G;refine⟨(B.2 p.1 ?_).trans e,n,ne,nf,d⟩;intro q;rw[q,hoc]at e;have q':oc=p.2:=bg e;exact d w' (by rw[<- q'];exact hocd)
theorem vy{M:Model}{A:yy}{E:gs->i2->Prop}{v:V}{Q:Unit->i2->Prop}(I:bH X aj σ H s)(z:X.N.Nodup)(D:X.N[i]?=bi x)(O:GK X.env.scope x)(r:cN v u)
  (h:∀d,bH X aj (σ.set i (bi v)) H d->Q () d) (J:X.fn x=cT\/X.env.scope.names.lookup x=bi .local:=by first|exact .inl rfl|exact .inr rfl|assumption):i1 M A (ZW X.env x u) Q E s:=
 E4 I z D O r (λd I' _=>h d I') J
theorem bH.call'{d:i2}{ch:List i0}(I:bH X aj σ H s)(w:d.os=s.os)(u:Un (t5 X.stack) ch H H' s.heap d.heap)(R:mI X.prog X.w H' d.heap)(L:Zp d.gens)
  (KS:∀b∈ch,(b∈X.ex\/X.s₀.heap.objs.size<=b)/\b≠X.env.locals/\(∀x c,X.env.cells.lookup x=bi c->c≠b)/\∀p∈X.pn++aj,p.1≠b):bH X aj σ H' d:=by obtain⟨y,U,W,Y,B⟩:=d;have e:B=s.os:=w;subst e;exact I.call (g':=U) (t':=Y) (d':=W) u R L KS
end
abbrev XK:=gs->Option i0->Hp->Prop
noncomputable abbrev St:=List (Option V)
abbrev VK:=V->Hp->Prop
abbrev TE:=St->Hp->VK->Prop
abbrev TT:=St->Hp->(Bool->Hp->Prop)->Prop
abbrev TA:=St->Hp->(List V->Hp->Prop)->Prop
structure yB where
 nx:St->Hp->Prop
 rt:VK
 bk:St->Hp->Prop:=λ_ _=>False
 ct:St->Hp->Prop:=λ_ _=>False
abbrev TS:=yB->St->Hp->Prop
def EP(X:Cx)(aj:List (i0×Obj))(σ:St)(Q:VK)(u:gs)(d:i2):Prop:=∃v H',bH X aj σ H' d/\cN v u/\Q v H'
def TP(X:Cx)(aj:List (i0×Obj))(σ:St)(Q:Bool->Hp->Prop)(b:Bool)(d:i2):Prop:=∃H',bH X aj σ H' d/\Q b H'
def AP(X:Cx)(aj:List (i0×Obj))(σ:St)(Q:List V->Hp->Prop)(us:List gs)(d:i2):Prop:=∃U H',bH X aj σ H' d/\cR U us/\Q U H'
def SP(X:Cx)(aj:List (i0×Obj))(D:yB)(f:Flow)(d:i2):Prop:=
 match f with
 |.next=>∃O H',bH X aj O H' d/\D.nx O H'
 |.brk=>∃O H',bH X aj O H' d/\D.bk O H'
 |.cont=>∃O H',bH X aj O H' d/\D.ct O H'
 |.ret u=>∃v O H',bH X aj O H' d/\cN v u/\D.rt v H'
def PE(X:Cx)(e:i9)(t:TE):Prop:=
 ∀(aj:List (i0×Obj)) (s:i2) (B:St) (H:Hp) (Q:VK),bH X aj B H s->t B H Q->i1 #[3] X.A (eval e X.env) (EP X aj B Q) X.xe s
def PT(X:Cx)(e:i9)(t:TT):Prop:=
 ∀(aj:List (i0×Obj)) (s:i2) (B:St) (H:Hp) (Q:Bool->Hp->Prop),bH X aj B H s->t B H Q->i1 #[3] X.A (isTrue e X.env (eval e X.env)) (TP X aj B Q) X.xe s
def PW(X:Cx)(e:i9)(t:TT):Prop:=
 ∀(U:Sem gs) (aj:List (i0×Obj)) (s:i2) (B:St) (H:Hp) (Q:Bool->Hp->Prop),bH X aj B H s->t B H Q->i1 #[3] X.A (isTrue e X.env U) (TP X aj B Q) X.xe s
theorem PW.pt{X:Cx}{t:TT}(h:PW X e t):PT X e t:=h _
def PA(X:Cx)(es:List i9)(t:TA):Prop:=
 ∀(pos:Pos) (aj:List (i0×Obj)) (s:i2) (B:St) (H:Hp) (Q:List V->Hp->Prop),bH X aj B H s->t B H Q->i1 #[3] X.A (spliced (YR pos (ow es X.env))) (AP X aj B Q) X.xe s
def PS(X:Cx)(st:qd)(t:TS):Prop:=
 ∀(aj:List (i0×Obj)) (s:i2) (B:St) (H:Hp) (D:yB),bH X aj B H s->t D B H->i1 #[3] X.A (exec st X.env) (SP X aj D) X.xe s
def E5(X:Cx)(st:List qd)(t:TS):Prop:=
 ∀(aj:List (i0×Obj)) (s:i2) (B:St) (H:Hp) (D:yB),bH X aj B H s->t D B H->i1 #[3] X.A (execs st X.env) (SP X aj D) X.xe s
theorem ii{t:Sem α}{Q Q':α->i2->Prop}(h:i1 M A t Q E s)(I:∀a s,Q a s->Q' a s):i1 M A t Q' E s:=eL h I λ_ _ x=>x
section
variable{X:Cx}
def Ts(i:Nat):TE:=λB H Q=>∃v,B[i]?=bi (bi v)/\Q v H
def tC(v:V):TE:=λ_ H Q=>Q v H
theorem Pi{pos:Pos}(z:X.N[i]?=bi x)(F:Nh X.env.scope x)(Y:(x==("__debug__":Str))=dw:=by decide)(U:(x==("__classdict__":Str))=dw:=by decide):PE X (.Name x pos) (Ts i):=by
 intro W s B H Q I h;obtain⟨v,e,h⟩:=h;obtain⟨m,R,D⟩:=I.loc;obtain⟨u,r,l⟩:=D i x v z e F;have t:EP X W B Q u s:=⟨v,H,I,r,h⟩
 rcases l with⟨hk,y⟩|⟨hk,c,J,G⟩
 .exact wpAny_Name (wpAny_loadName_local I.ok.kind hk R y t) Y
 .rcases hk with hk|hk
  .exact wpAny_Name (wpAny_loadName_cell I.ok.kind hk J G t) Y
  .exact wpAny_Name (wpAny_loadName_free I.ok.kind hk J G t U) Y
theorem Pj{i j pos}:PE X (.Constant (.int i) j pos) (tC (.int i)):=λ_ _ _ H _ I h=>wpAny_Constant_int ⟨.int i,H,I.tok _,⟨_,rfl⟩,h⟩
theorem Tt{b j pos}:PE X (.Constant (.bool b) j pos) (tC (.bl b)):=λ_ _ _ H _ I h=>Constant_bool ⟨.bl b,H,I,rfl,h⟩
theorem Pk{j pos}:PE X (.Constant .none j pos) (tC .non):=λ_ _ _ H _ I h=>Constant_none ⟨.non,H,I,rfl,h⟩
theorem Pl{x j pos}:PE X (.Constant (.str x) j pos) (tC (.str x)):=λ_ _ _ H _ I h=>Calls.Constant_str ⟨.str x,H,I.tok _,⟨_,rfl⟩,h⟩
def Gl(X:Cx)(x:Str):Prop:=X.env.kindOf x=bi .globalImplicit
theorem oE{E:gs->i2->Prop}{σ:St}{H:Hp}{pos:Pos}(I:bH X aj σ H s)(d:Gl X x)(y:X.mg x=bi u)(h:Q u s)
  (D:(x==("__debug__":Str))=dw:=by decide):i1 #[3] X.A (eval (.Name x pos) X.env) Q E s:=
 mf I.ok.kind d (Calls.loadGlobal_global (by rw[I.ok.glob];exact I.mod.glob.keeps I.bk) y h) D
theorem qe{E:gs->i2->Prop}{σ:St}{H:Hp}{pos:Pos}(I:bH X aj σ H s)(d:Gl X x)(y:X.mg x=cg)(W:ZI x=bi u)(h:Q u s)
  (R:x ≠ "__name__":=by decide) (D:(x==("__debug__":Str))=dw:=by decide):i1 #[3] X.A (eval (.Name x pos) X.env) Q E s:=by obtain⟨z,Z,Y⟩:=I.mod.blt;exact mf I.ok.kind d (Calls.loadGlobal_builtin (by rw[I.ok.glob];exact I.mod.glob.keeps I.bk) y (by rw[I.ok.blt];exact Z.keeps I.bk) ((Y x R).trans W) h) D
theorem K0{v:V}{pos:Pos}(d:Gl X x)(y:X.mg x=bi u)(r:cN v u)(D:(x==("__debug__":Str))=dw:=by decide):PE X (.Name x pos) (tC v):=
 λ_ _ _ H _ I h=>oE I d y ⟨v,H,I,r,h⟩ D
theorem K3{v:V}{pos:Pos}(d:Gl X x)(y:X.mg x=cg)(W:ZI x=bi u)(r:cN v u)(R:x ≠ "__name__":=by decide)(D:(x==("__debug__":Str))=dw:=by decide):PE X (.Name x pos) (tC v):=
 λ_ _ _ H _ I h=>qe I d y W ⟨v,H,I,r,h⟩ R D
variable{a b:i9}{ta tb:TE}
def PC(X:Cx)(op:CmpOp)(a b:i9)(t:TE):Prop:=
 ∀(aj:List (i0×Obj)) (s:i2) (B:St) (H:Hp) (Q:VK),bH X aj B H s->t B H Q ->
  i1 #[3] X.A (eval a X.env) (λv y=>i1 #[3] X.A (eval b X.env) (λu L=>i1 #[3] X.A (YS op v u) (EP X aj B Q) X.xe L) X.xe y) X.xe s
theorem Ao(b:i9)(h:op≠.In)(Y:op≠.NotIn):ZE op b=dw:=by
 have d:(op==CmpOp.In)=dw:=by cases op<;>first|rfl|exact absurd rfl h
 have e2:(op==CmpOp.NotIn)=dw:=by cases op<;>first|rfl|exact absurd rfl Y
 cases b<;>simp[ZE,d,e2]
def Tu(ta:TE):TE:=λB H Q=>ta B H λx H1=>Q (.bl (decide (x=.non))) H1
theorem cN.none_iff{x:V}(r:cN x v):(v==Zb)=decide (x=.non):=by
 cases x with
 |non=>cases r;rfl
 |bl _=>cases r;rfl
 |int _=>obtain⟨t,rfl⟩:=r;rfl
 |str _=>obtain⟨t,rfl⟩:=r;rfl
 |byt _=>obtain⟨t,rfl⟩:=r;rfl
 |flt _=>obtain⟨t,rfl⟩:=r;rfl
 |ref _=>cases r;rfl
 |ty _=>cases r;rfl
theorem GQ{j kP}(D:PE X a ta):PC X .Is a (.Constant .none j kP) (Tu ta):=by intro W s B H Q I h;refine ii (D W s B H _ I h) λv V Z=>?_;obtain⟨x,H1,I1,z,w⟩:=Z;exact Constant_none (is_none_gen ⟨.bl _,H1,I1,by rw[z.none_iff];rfl,w⟩)
def tB(t:TE):TT:=λB H Q=>t B H λx H1=>∃c,x=.bl c/\Q c H1
theorem Pm{t:TE}(h:PC X op a b t)(Z:ZE op b=dw:=by first|exact Ao _ #[1] #[1]|rfl):PE X (.Compare a [op] [b] pos) t:=λW s B H Q I y=>wpAny_Compare1 (h W s B H Q I y) Z
theorem Pn{t:TE}(h:PC X op a b t)(Z:ZE op b=dw:=by first|exact Ao _ #[1] #[1]|rfl):PT X (.Compare a [op] [b] pos) (tB t):=by
 intro W s B H Q I y;refine pV (ii (h W s B H _ I y) λv V Z=>ii Z λu z Y=>ii Y λc U zv=>?_) Z;obtain⟨x,H1,I1,L,w⟩:=zv;obtain⟨d,rfl,q⟩:=w
 cases L
 exact cZ ⟨H1,I1,q⟩
theorem Po{t:TE}(h:PE X e t)(J:∀U,isTrue e X.env U=(do let v <- U;standAt e.pos;holding [v] (truthy v)):=by intro _;rfl):PT X e (tB t):=by
 intro W s B H Q I y;refine isTrue_plain (ii (h W s B H _ I y) λv V zw=>?_) (J _);obtain⟨x,H1,I1,z,w⟩:=zw;obtain⟨d,rfl,q⟩:=w
 cases z
 exact cZ ⟨H1,I1,q⟩
variable{tA VU:TT}{d8:List i9}
def WX(t u:TT):TT:=λB H Q=>t B H λc H1=>if c=cT then u B H1 Q else Q dw H1
def Yq(t u:TT):TT:=λB H Q=>t B H λc H1=>if c=cT then Q cT H1 else u B H1 Q
def WY(t:TT):TT:=λB H Q=>t B H λc H1=>Q (!c) H1
theorem K4(D:PT X a tA):PW X (.BoolOp .And [a] pos) tA:=by
 intro z W s B H Q I h;refine isTrue_and (ii (D W s B H Q I h) λc V e=>?_)
 cases c with
 |true=>exact isTrue_and_nil e
 |false=>exact e
theorem Pp(D:PT X a tA):PW X (.BoolOp .Or [a] pos) tA:=by
 intro z W s B H Q I h;refine isTrue_or (ii (D W s B H Q I h) λc V e=>?_)
 cases c with
 |false=>exact isTrue_or_nil e
 |true=>exact e
theorem Pq(D:PT X a tA)(U:PW X (.BoolOp .And (b::d8) pos) VU):PW X (.BoolOp .And (a::b::d8) pos) (WX tA VU):=by
 intro z W s B H Q I h;refine isTrue_and (ii (D W s B H _ I h) λc V Z=>?_);obtain⟨H1,I1,w⟩:=Z
 cases c with
 |true=>exact U z W V B H1 Q I1 w
 |false=>exact⟨H1,I1,w⟩
theorem Tv(D:PT X a tA)(U:PW X (.BoolOp .Or (b::d8) pos) VU):PW X (.BoolOp .Or (a::b::d8) pos) (Yq tA VU):=by
 intro z W s B H Q I h;refine isTrue_or (ii (D W s B H _ I h) λc V Z=>?_);obtain⟨H1,I1,w⟩:=Z
 cases c with
 |true=>exact⟨H1,I1,w⟩
 |false=>exact U z W V B H1 Q I1 w
theorem Ps(D:PT X a tA):PT X (.UnaryOp .Not a pos) (WY tA):=by intro W s B H Q I h;exact isTrue_not (D W s B H (λc H1=>Q (!c) H1) I h)
def Tw(ta tb:TE):TE:=λB H Q=>ta B H λx H1=>∃c,x=.bl c/\if c=cT then tb B H1 Q else Q (.bl dw) H1
def WZ(ta tb:TE):TE:=λB H Q=>ta B H λx H1=>∃c,x=.bl c/\if c=cT then Q (.bl cT) H1 else tb B H1 Q
def Tx(ta:TE):TE:=λB H Q=>ta B H λx H1=>∃c,x=.bl c/\Q (.bl (!c)) H1
theorem Pu{op}{t:TE}(h:PE X a t):PE X (.BoolOp op [a] pos) t:=λW s B H Q I y=>BoolOp_one (h W s B H Q I y)
theorem Pv(D:PE X a ta)(U:PE X (.BoolOp .And (b::d8) pos) tb):PE X (.BoolOp .And (a::b::d8) pos) (Tw ta tb):=by
 intro W s B H Q I h;refine BoolOp_and (ii (D W s B H _ I h) λv V Z=>?_);obtain⟨x,H1,I1,z,w⟩:=Z;obtain⟨c,rfl,w⟩:=w
 cases z
 refine cZ ?_
 cases c with
 |true=>exact U W V B H1 Q I1 w
 |false=>exact⟨.bl dw,H1,I1,rfl,w⟩
theorem Tz(D:PE X a ta)(U:PE X (.BoolOp .Or (b::d8) pos) tb):PE X (.BoolOp .Or (a::b::d8) pos) (WZ ta tb):=by
 intro W s B H Q I h;refine BoolOp_or (ii (D W s B H _ I h) λv V Z=>?_);obtain⟨x,H1,I1,z,w⟩:=Z;obtain⟨c,rfl,w⟩:=w
 cases z
 refine cZ ?_
 cases c with
 |false=>exact U W V B H1 Q I1 w
 |true=>exact⟨.bl cT,H1,I1,rfl,w⟩
theorem Pw(D:PE X a ta):PE X (.UnaryOp .Not a pos) (Tx ta):=by
 intro W s B H Q I h;refine UnaryOp_ (ii (D W s B H _ I h) λv V Z=>?_);obtain⟨x,H1,I1,z,w⟩:=Z;obtain⟨c,rfl,w⟩:=w
 cases z
 exact not_of (cZ ⟨.bl (!c),H1,I1,rfl,w⟩)
end
def sw(K:uR)(H:Hp)(a:i0)(xs:List V):Prop:=
 Rd H a (.lst xs) \/
  ∃(o:Obj) (bx:Array gs) (n:Nat),K.lookup a=bi o/\o.cls=.type "list"/\o.dict=cg/\o.data=.seq bx n/\bx.size<=sizeLine/\cR xs bx.toList
def gg(K:uR)(H:Hp)(a:i0)(xs:List V):Prop:=
 Rd H a (.tup xs) \/
  ∃(o:Obj) (bx:Array gs) (n:Nat),K.lookup a=bi o/\o.cls=.type "tuple"/\o.data=.seq bx n/\bx.size<=sizeLine/\cR xs bx.toList
noncomputable def W0:gs->Option V
 |.none=>bi .non
 |.bool b=>bi (.bl b)
 |.int i _=>bi (.int i)
 |.str x _=>bi (.str x)
 |.bytes b _=>bi (.byt b)
 |.float b _=>bi (.flt b)
 |.ref a=>bi (.ref a)
 |.type n=>bi (.ty n)
 |_=>cg
theorem cN.abs{x:V}(r:cN x u):W0 u=bi x:=by
 cases x with
 |non=>cases r;rfl
 |bl _=>cases r;rfl
 |int _=>obtain⟨t,rfl⟩:=r;rfl
 |str _=>obtain⟨t,rfl⟩:=r;rfl
 |byt _=>obtain⟨t,rfl⟩:=r;rfl
 |flt _=>obtain⟨t,rfl⟩:=r;rfl
 |ref _=>cases r;rfl
 |ty _=>cases r;rfl
theorem cN.inj{x y:V}(r:cN x u)(q:cN y u):x=y:=bg (r.abs.symm.trans q.abs)
theorem cR.inj:∀{xs ys:List V} {us:List gs},cR xs us->cR ys us->xs=ys
 |_,_,_,.nil,.nil=>rfl
 |_,_,_,.cons r t,.cons r' t'=>by rw[r.inj r',cR.inj t t']
section
variable{X:Cx}{σ:St}{H:Hp}{xs ys:List V}
theorem sw.of(h:H a=bi (.lst xs)):sw K H a xs:=.inl (.inl h)
theorem gg.of(h:H a=bi (.tup xs)):gg K H a xs:=.inl (.inl h)
theorem bH.list(I:bH X aj σ H s)(h:sw X.K H a xs):∃bx:List gs,cR xs bx/\PlainL s.heap a bx.toArray/\xs.length<=sizeLine:=by
 rcases h with h|⟨o,bx,n,B,J,D,O,F,r⟩
 .obtain⟨z,bx,n,r,e⟩:=h.ok I.hok;exact⟨bx,r,⟨_,n,e,rfl,rfl,rfl⟩,z⟩
 .refine⟨bx.toList,r,⟨o,n,I.kIn a o B,J,D,by simpa using O⟩,?_⟩;have e:=r.length;simp only[cB]at e;omega
theorem bH.tuple(I:bH X aj σ H s)(h:gg X.K H a xs):∃bx:List gs,cR xs bx/\IsTup s.heap a bx.toArray/\xs.length<=sizeLine:=by
 rcases h with h|⟨o,bx,n,B,J,O,F,r⟩
 .obtain⟨z,bx,r,p⟩:=h.ok I.hok;exact⟨bx,r,p,z⟩
 .refine⟨bx.toList,r,⟨o,I.kIn a o B,J,n,by simpa using O⟩,?_⟩;have e:=r.length;simp only[cB]at e;omega
theorem bH.list_inj(I:bH X aj σ H s)(h:sw X.K H a xs)(h':sw X.K H a ys):xs=ys:=by
 obtain⟨O,r,⟨o,n,e,_,_,d⟩,_⟩:=I.list h;obtain⟨w,D,⟨B,J,R,_,_,W⟩,_⟩:=I.list h';rw[e]at R;cases R
 rw[d]at W;injection W with d1 _;have:O=w:=by simpa using cP Array.toList d1
 subst this;exact r.inj D
theorem bH.tuple_inj(I:bH X aj σ H s)(h:gg X.K H a xs)(h':gg X.K H a ys):xs=ys:=by
 obtain⟨O,r,⟨o,e,_,n,d⟩,_⟩:=I.tuple h;obtain⟨w,D,⟨B,R,_,J,W⟩,_⟩:=I.tuple h';rw[e]at R;cases R
 rw[d]at W;injection W with d1 _;have:O=w:=by simpa using cP Array.toList d1
 subst this;exact r.inj D
end
section
variable{X:Cx}{σ:St}{H:Hp}
end
section
variable{X:Cx}{st:qd}{d8:List qd}{t u:TS}{te:TE}
def TB:TS:=λD B H=>D.nx B H
def W1(t u:TS):TS:=λD B H=>t { D with nx:=u D } B H
theorem K5:E5 X [] TB:=λ_ _ B H _ I h=>k7 ⟨B,H,I,h⟩
theorem GR(Z:PS X st t)(Y:E5 X d8 u):E5 X (st::d8) (W1 t u):=by
 intro W s B H D I h;refine iZ (ii (Z W s B H { D with nx:=u D } I h) λf V q=>?_)
 cases f with
 |next=>
  obtain⟨O,H',I',q⟩:=q;exact Y W V O H' D I' q
 |ret v=>exact q
 |brk=>exact q
 |cont=>exact q
theorem K6(Z:PS X st t):E5 X [st] t:=by
 intro W s B H D I h;refine iZ (ii (Z W s B H D I h) λf V q=>?_)
 cases f with
 |next=>exact k7 q
 |ret v=>exact q
 |brk=>exact q
 |cont=>exact q
theorem bH.quiet{σ:St}{H:Hp}(I:bH X aj σ H s):interactive X.env=dw:=by simp[interactive,I.ok.kind]
def TC(te:TE):TS:=λD B H=>te B H λ_ H1=>D.nx B H1
theorem K7(J:PE X e te)(O:swapsWith e cg pos.line X.env=pure dw:=by rfl):PS X (.Expr e pos) (TC te):=by intro W s B H D I h;exact wpAny_Expr_any (ii (J W s B H _ I h) λv V zx=>by obtain⟨x,H1,I1,z,w⟩:=zx;exact ⟨B,H1,I1,w⟩) I.quiet O
def W2(te:TE):TS:=λD B H=>te B H D.rt
theorem Px(J:PE X e te):PS X (.Return (bi e) pos) (W2 te):=by intro W s B H D I h;exact wpAny_Return_some (ii (J W s B H _ I h) λv V zy=>by obtain⟨x,H1,I1,z,w⟩:=zy;exact ⟨x,B,H1,I1,z,w⟩)
def W3(c:TT)(t u:TS):TS:=λD B H=>c B H λb H1=>if b=cT then t D B H1 else u D B H1
theorem TD{c:i9}{a b:List qd}{z:TT}(J:PT X c z)(V:E5 X a t)(U:E5 X b u):PS X (.If c a b pos) (W3 z t u):=by
 intro W s B H D I h;refine wpAny_If (ii (J W s B H _ I h) λd Y Z=>?_);obtain⟨H1,I1,w⟩:=Z
 cases d with
 |true=>exact V W Y B H1 D I1 w
 |false=>exact U W Y B H1 D I1 w
end
abbrev TG:=V->St->Hp->(St->Hp->Prop)->Prop
abbrev K8:=List V->St->Hp->(St->Hp->Prop)->Prop
def PG(X:Cx)(Sz:i9)(t:TG):Prop:=
 ∀(aj:List (i0×Obj)) (s:i2) (B:St) (H:Hp) (v:V) (u:gs) (Q:St->Hp->Prop),bH X aj B H s->cN v u->t v B H Q ->
  i1 #[3] X.A (assign Sz X.env u) (λ_ d=>∃O H',bH X aj O H' d/\Q O H') X.xe s
def Ni(X:Cx)(ts:List i9)(t:K8):Prop:=
 ∀(aj:List (i0×Obj)) (s:i2) (B:St) (H:Hp) (U:List V) (us:List gs) (Q:St->Hp->Prop),bH X aj B H s->cR U us->t U B H Q ->
  i1 #[3] X.A (assignInOrder ((Zn ts X.env).map (·.2)) us) (λ_ d=>∃O H',bH X aj O H' d/\Q O H') X.xe s
abbrev K9:=V->V->V->Hp->(Hp->Prop)->Prop
def Py(X:Cx)(t:K9):Prop:=
 ∀(aj:List (i0×Obj)) (s:i2) (B:St) (H:Hp) (o i v:V) (L G u:gs) (Q:Hp->Prop),bH X aj B H s->cN o L->cN i G->cN v u->t o i v H Q ->
  i1 #[3] X.A (setItem L G u) (λ_ d=>∃H',bH X aj B H' d/\Q H') X.xe s
section
variable{X:Cx}
def Nj(i:Nat):TG:=λv B H Q=>Q (B.set i (bi v)) H
theorem K_(z:X.N.Nodup)(D:X.N[i]?=bi x)(O:GK X.env.scope x)(J:X.fn x=cT\/X.env.scope.names.lookup x=bi .local:=by first|exact .inl rfl|exact .inr rfl|assumption):PG X (.Name x pos) (Nj i):=by intro W s B H v u Q I r h;exact wpAny_assign_Name (vy I z D O r (λd I'=>⟨_,H,I',h⟩) J)
def W4:K8:=λU B H Q=>U=[]/\Q B H
def TF(t:TG)(u:K8):K8:=λU B H Q=>∃v r,U=v::r/\t v B H λO H'=>u r O H' Q
theorem K':Ni X [] W4:=by
 intro W s B H U d Q I r h;obtain⟨e,h⟩:=h;subst e
 cases r
 exact assignInOrder_nil ⟨B,H,I,h⟩
theorem GT{t:TG}{u:K8}(Z:PG X e t)(Y:Ni X es u)
  (O:(Zn (e::es) X.env).map (·.2)=assign e X.env::(Zn es X.env).map (·.2):=by rfl):Ni X (e::es) (TF t u):=by
 intro W s B H U G Q I r h;obtain⟨v,R,d,h⟩:=h;subst d
 cases r with
 |cons r L=>
  rw[O];refine assignInOrder_cons (ii (Z W s B H _ _ _ I r h) λ_ V y=>?_);obtain⟨z,H1,I1,w⟩:=y;exact Y W V z H1 _ _ Q I1 L w
def W5(K:uR)(n:Nat)(t:K8):TG:=λv B H Q=>∃a xs,v=.ref a/\gg K H a xs/\xs.length=n/\t xs B H Q
theorem Pz{k:Nat}{t:K8}(J:X.calm=cT)(h:Ni X es t)
  (R:(Zn es X.env).length=n:=by rfl) (U:(Zn es X.env).findIdx? (·.1)=cg:=by rfl):PG X (.Tuple es k pos) (W5 X.K n t):=by
 intro W s B H v u Q I r y;obtain⟨a,w,d,Y,D,y⟩:=y;subst d
 cases r
 obtain⟨G,z,Z,V⟩:=I.tuple Y;refine assign_Tuple_tuple (I.ok.hd J) Z (by simp[R,<- D,z.length]) U λL O=>?_;have I1:bH X W B H { s with heap:=L }:=I.kept (t':=s.toks) λb o e=>O b o (aJ (aB e)) e;exact h W _ B H w _ Q I1 (by simpa using z) y
def W6(to z:TE)(t:K9):TG:=λv B H Q=>to B H λo H1=>z B H1 λi H2=>t o i v H2 λH3=>Q B H3
theorem PB{o i:i9}{to ti:TE}{t:K9}(w:PE X o to)(D:PE X i ti)(O:Py X t)
  (V:∀v,assign (.Subscript o i pos) X.env v=(do
   let ov <- holding [v] (eval o X.env)
   let G <- holding [v,ov] (eval i X.env)
   standAt pos
   holding [v,ov,G] (setItem ov G v)
   release [v,ov,G] []):=by intro _;rfl):PG X (.Subscript o i pos) (W6 to ti t):=by intro W s B H v u Q I r h;rw[V];refine aa (c8 (ii (w W s B H _ I h) λov d Z=>?_));obtain⟨x,H1,I1,z,U⟩:=Z;refine aa (c8 (ii (D W d B H1 _ I1 U) λG Y Z=>?_));obtain⟨y,H2,I2,F,J⟩:=Z;refine aa (wpAny_standAt (aa (c8 (ii (O W Y B H2 x y v ov G u _ I2 z F r J) λ_ R Z=>?_))));obtain⟨H3,I3,L⟩:=Z;exact wpAny_release ⟨B,H3,I3,L⟩
def PD(U:TE)(g:TG):TS:=λD B H=>U B H λx H1=>g x B H1 D.nx
theorem GU{U:TE}{g:TG}(J:PE X e U)(d:PG X tg g)(O:swapsWithSole [tg] e pos.line X.env=pure dw:=by rfl)(y:swappedStores [tg] e X.env=pure cg:=by rfl)
  (Z:(Zn [tg] X.env).map (·.2)=[assign tg X.env]:=by rfl):PS X (.Assign [tg] e pos) (PD U g):=by intro W s B H D I h;refine wpAny_Assign_stores (ii (J W s B H _ I h) λv V zz=>?_) O y;obtain⟨x,H1,I1,z,w⟩:=zz;rw[Z];exact ii (d W V B H1 x v _ I1 z w) λ_ Y q=>q
theorem PF{U:TE}(Z:X.N.Nodup)(w:X.N[i]?=bi x)(O:GK X.env.scope x)(J:PE X e U)(z:swapsWith e (bi (.Name x kP)) pos.line X.env=pure dw:=by rfl)(d:X.fn x=cT\/X.env.scope.names.lookup x=bi .local:=by first|exact .inl rfl|exact .inr rfl|assumption) :
  PS X (.Assign [.Name x kP] e pos) (PD U (Nj i)):=by intro W s B H D I h;refine wpAny_Assign_Name (ii (J W s B H _ I h) λv V zv=>?_) z;obtain⟨y,H1,I1,L,t⟩:=zv;exact vy I1 Z w O L (λY I2=>⟨_,H1,I2,t⟩) d
end
section
variable{X:Cx}
def GV(c:TT)(tb:TS):TS:=λD B H=>∃W:Nat->St->Hp->Prop,(∃m,W m B H)/\∀m B H,W m B H ->
 c B H λb H1=>if b=cT then ∃N:St->Hp->Prop,(∀O H',N O H'->∃w,w<m/\W w O H')/\tb { D with nx:=N,ct:=N,bk:=D.nx } B H1 else D.nx B H1
theorem GW{c:i9}{tc:TT}{tb:TS}(G:PassesOwn #[3] X.A X.env X.xe)(J:PT X c tc)(U:E5 X body tb):PS X (.While c body [] pos) (GV tc tb):=by
 intro O s B H D I h;obtain⟨W,⟨m0,w0⟩,turn⟩:=h;refine wpAny_While (codeAny_whileLoop (λn d=>∃F H',bH X O F H' d/\W n F H') ?_ m0 ⟨B,H,I,w0⟩);rintro n V ⟨σ1,H1,I1,w1⟩;refine gC G (ii (J O V σ1 H1 _ I1 (turn n σ1 H1 w1)) λb Y Z=>?_);obtain⟨H2,I2,t⟩:=Z
 cases b with
 |true=>
  obtain⟨N,z,t⟩:=t;rw[ax rfl];refine gC G (ii (U O Y σ1 H2 _ I2 t) λf R L=>?_)
  cases f with
  |next=>
   obtain⟨σ3,H3,I3,n3⟩:=L;obtain⟨w,y,w3⟩:=z σ3 H3 n3;exact⟨w,y,σ3,H3,I3,w3⟩
  |cont=>
   obtain⟨σ3,H3,I3,n3⟩:=L;obtain⟨w,y,w3⟩:=z σ3 H3 n3;exact⟨w,y,σ3,H3,I3,w3⟩
  |brk=>exact L
  |ret v=>exact L
 |false=>
  rw[aF bG];exact k7 ⟨σ1,H2,I2,t⟩
end
structure It where
 go:Nat->Hp->Prop
 yld:Nat->Hp->V->Hp->Prop
 stop:Nat->Hp->Prop
def xk(X:Cx)(aj:List (i0×Obj))(H:Hp)(b:i0):Prop:=
 H b=cg/\b≠X.env.locals/\b∉X.fs/\(b∈X.ex\/X.s₀.heap.objs.size<=b)/\(∀x c,X.env.cells.lookup x=bi c->c≠b)/\∀p∈X.pn++aj,p.1≠b
theorem bH.fpOk{X:Cx}{σ:St}{H H':Hp}(I:bH X aj σ H s)(U:s.heap.objs.size<=b)(R:H' b=cg):xk X aj H' b:=by
 refine⟨R,eM (aR I.lt U),I.nofs U,.inr (aT I.sz U),λx c e z=>?_,λp G z=>?_⟩
 .obtain⟨v,q⟩:=I.cell x c e;exact absurd (aR q.lt (by rw[z];exact U)) (bX _)
 .exact absurd (aR (aB (I.pin p G).1) (by rw[z];exact U)) (bX _)
structure Ap(P:YW)(w:ms)(K:uR)(tg:i9)(J:It)(fp:List i0)(it:i0)(tn:Nat->pk->Prop):Prop where
 mem:it∈fp
 obj:∀i h,tn i h->∀b∈fp,∃o,h.get? b=bi o/\∀v,o.data≠.cell v
 keep:∀i h h',tn i h->(∀b∈fp,∀o,h.get? b=bi o->h'.get? b=bi o)->tn i h'
 item:∀(X:Cx),X.prog=P->X.w=w->X.K=K->X.calm=cT->∀(i:Nat) (aj:List (i0×Obj)) (s:i2) (σ:St) (H:Hp) (E:gs->i2->Prop),bH X aj σ H s->(∀b∈fp,xk X aj H b)->tn i s.heap->J.go i H ->
  i1 (model P w) X.A (Y2 (.ref it)) (λr s1=>∃u,r=bi u /\
   i1 (model P w) X.A (letOwnedTupleGo tg (.ref it) u) (λ_ s2=>∃x H',bH X aj σ H' s2/\cN x u/\J.yld i H x H'/\tn (i+1) s2.heap/\∀b∈fp,H' b=cg) E s1) E s
 done:∀(X:Cx),X.prog=P->X.w=w->X.K=K->X.calm=cT->∀(i:Nat) (aj:List (i0×Obj)) (s:i2) (σ:St) (H:Hp) (E:gs->i2->Prop),bH X aj σ H s->(∀b∈fp,xk X aj H b)->tn i s.heap->J.stop i H ->
  i1 (model P w) X.A (Y2 (.ref it)) (λr s1=>r=cg/\bH X aj σ H s1) E s
 self:∀(A:yy) (i:Nat) (s:i2) (Q:gs->i2->Prop) (E:gs->i2->Prop),tn i s.heap->Q (.ref it) s->i1 (model P w) A (Zq (.ref it)) Q E s
abbrev TI:=St->Hp->(It->Hp->Prop)->Prop
def Wu(X:Cx)(aj:List (i0×Obj))(σ:St)(tg:i9)(R:It->Hp->Prop)(XI:gs)(Y:i2):Prop:=
 ∃(it:i0) (fp:List i0) (t:Nat->pk->Prop) (J:It) (H':Hp),XI=.ref it/\bH X aj σ H' Y/\Ap X.prog X.w X.K tg J fp it t/\t 0 Y.heap/\(∀b∈fp,xk X aj H' b)/\R J H'
def PI(X:Cx)(tg d9:i9)(t:TI):Prop:=
 ∀(aj:List (i0×Obj)) (s:i2) (B:St) (H:Hp) (R:It->Hp->Prop),bH X aj B H s->t B H R ->
  i1 #[3] X.A (eval d9 X.env) (λv V=>i1 #[3] X.A (Zq v) (Wu X aj B tg R) X.xe V) X.xe s
theorem Aq      {E:gs -> i2 -> Prop} {s:i2}     {n:String} {vs:Array gs} {Q:Unit -> i2 -> Prop} (V : s.heap.get? it = bi o) (J : o.cls = .type n) (D : o.data = .fields vs)
    (R : ["enumerate", "zip", "dict_itemiterator", "dict_reverseitemiterator", "odict_iterator", "itertools.zip_longest", "itertools.pairwise"].contains n = dw) (I : Q () s) : i1 M A (letOwnedTupleGo tg (.ref it) u) Q E s := by
  unfold letOwnedTupleGo
  cases tg <;> first
    | exact ae         I
    | (cases u <;> first
        | exact ae         I
        | (refine aa         (wpAny_load V ?_)
           rw [J, D];show i1 M A (if (["enumerate", "zip", "dict_itemiterator", "dict_reverseitemiterator", "odict_iterator", "itertools.zip_longest", "itertools.pairwise"].contains n && vs[0]? == bi (yx _)) = cT then _ else _) Q E s;rw [aF     (by intro h; rw [R, Bool.false_and] at h; cases h)];exact ae         I))
noncomputable def X5(K:uR)(a:i0):It:=
 ⟨λi H=>∃xs x,sw K H a xs/\xs[i]?=bi x,λi H x H'=>H'=H/\∀xs,sw K H a xs->xs[i]?=bi x,λi H=>∃xs,sw K H a xs/\xs.length<=i⟩
noncomputable def X6(K:uR)(a:i0):It:=
 ⟨λi H=>∃xs x,gg K H a xs/\xs[i]?=bi x,λi H x H'=>H'=H/\∀xs,gg K H a xs->xs[i]?=bi x,λi H=>∃xs,gg K H a xs/\xs.length<=i⟩
noncomputable def Wv(lo:Int)(n:Nat):It:=⟨λi _=>i<n,λi H x H'=>H'=H/\x=.int (lo+i),λi _=>n<=i⟩
theorem E6{w:ms}(a it:i0):Ap P w K tg (X5 K a) [it] it (λi h=>h.IsListIter it a i) where
 mem:=by simp
 obj:=λi h Y b U=>by
  have e:b=it:=by simpa using U
  subst e;obtain⟨o,e,c,d⟩:=Y;exact⟨o,e,λv z=>by rw[d]at z;cases z⟩
 keep:=λi h h' Y k=>Y.at λo e=>k it #[5] o e
 item:=by intro X hP y hK J i W s B H E I t Y L;subst hP y hK;obtain⟨xs,x,R,O⟩:=L;obtain⟨bx,G,p,F⟩:=I.list R;obtain⟨u,V,ru⟩:=G.get O;obtain⟨f0,f1,f2,f3,f4,f5⟩:=t it #[5];refine wpAny_pyNext_list_item Y p.isList (x:=u) (by simpa using V) λh' bF sb=>?_;have I1:bH X W B H { s with heap:=h' }:=I.turned (t':=s.toks) (λb o U e=>(sb.2 b U).trans e) f0 f1 f3 f4 f5;obtain⟨o,e,c,d⟩:=id bF;exact⟨u,rfl,Aq (s:={ s with heap:=h' }) e c d #[1] ⟨x,H,I1,ru,⟨rfl,λys Z=>by rw[I.list_inj Z R];exact O⟩,bF,λb U=>(t b U).1⟩⟩
 done:=by intro X hP y hK J i W s B H E I t Y L;subst hP y hK;obtain⟨xs,R,O⟩:=L;obtain⟨bx,G,p,F⟩:=I.list R;obtain⟨f0,f1,f2,f3,f4,f5⟩:=t it #[5];have D:=G.length;exact wpAny_pyNext_list_end (I.ok.hd J) Y p.isList (by simp;omega) λh' eb=>⟨rfl,I.turned (t':=s.toks) (λb o U e=>eb b o U e) f0 f1 f3 f4 f5⟩
 self:=λ_ _ _ _ _ Y h=>wpAny_pyIter_listiter Y h
theorem Cc{w:ms}(a it:i0):Ap P w K tg (X6 K a) [it] it (λi h=>h.IsTupleIter it a i) where
 mem:=by simp
 obj:=λi h Y b U=>by
  have e:b=it:=by simpa using U
  subst e;obtain⟨o,e,c,d⟩:=Y;exact⟨o,e,λv z=>by rw[d]at z;cases z⟩
 keep:=λi h h' Y k=>Y.at λo e=>k it #[5] o e
 item:=by intro X hP y hK J i W s B H E I t Y L;subst hP y hK;obtain⟨xs,x,R,O⟩:=L;obtain⟨bx,G,p,F⟩:=I.tuple R;obtain⟨u,V,ru⟩:=G.get O;obtain⟨f0,f1,f2,f3,f4,f5⟩:=t it #[5];refine wpAny_pyNext_tuple_item Y (show s.heap.IsTuple a bx.toArray from p) (x:=u) (by simpa using V) λh' bF sb=>?_;have I1:bH X W B H { s with heap:=h' }:=I.turned (t':=s.toks) (λb o U e=>(sb.2 b U).trans e) f0 f1 f3 f4 f5;obtain⟨o,e,c,d⟩:=id bF;exact⟨u,rfl,Aq (s:={ s with heap:=h' }) e c d #[1] ⟨x,H,I1,ru,⟨rfl,λys Z=>by rw[I.tuple_inj Z R];exact O⟩,bF,λb U=>(t b U).1⟩⟩
 done:=by intro X hP y hK J i W s B H E I t Y L;subst hP y hK;obtain⟨xs,R,O⟩:=L;obtain⟨bx,G,p,F⟩:=I.tuple R;obtain⟨f0,f1,f2,f3,f4,f5⟩:=t it #[5];have D:=G.length;exact wpAny_pyNext_tuple_end (I.ok.hd J) Y (show s.heap.IsTuple a bx.toArray from p) (by simp;omega) λh' eb=>⟨rfl,I.turned (t':=s.toks) (λb o U e=>eb b o U e) f0 f1 f3 f4 f5⟩
 self:=λ_ _ _ _ _ Y h=>wpAny_pyIter_tupleiter Y h
theorem Cd{w:ms}(it:i0)(lo:Int)(n:Nat):Ap P w K tg (Wv lo n) [it] it (λi h=>IsRangeIter h it (lo+(i:Nat)*1) ((n:Int)-(i:Nat)) 1) where
 mem:=by simp
 obj:=λi h Y b U=>by
  have e:b=it:=by simpa using U
  subst e;exact⟨_,Y,λv z=>by
   have z':Data.fields _=Data.cell v:=z
   cases z'⟩
 keep:=λi h L Y k=>k it #[5] _ Y
 item:=by intro X R y hK J i O s B H E I V Y d;subst R y hK;obtain⟨f0,Z,f2,f3,f4,f5⟩:=V it #[5];have W:=Walks.range (prog:=X.prog) (w:=X.w) (I.ok.hd J) it lo 1 n;refine W.item i s _ _ d Y λv L G F D kk=>?_;obtain⟨t,rfl⟩:=F;have I1:bH X O B H { s with heap:=L,toks:=G }:=I.turned (λb o U e=>kk b o (by simpa using U) e) f0 Z f3 f4 f5;refine⟨_,rfl,Aq (s:={ s with heap:=L,toks:=G }) (n:="range_iterator") D rfl rfl #[1] ⟨.int (lo+i),H,I1,⟨t,?_⟩,⟨rfl,rfl⟩,D,λb U=>(V b U).1⟩⟩;rw[Int.mul_one]
 done:=by intro X R y hK J i O s B H E I V Y d;subst R y hK;obtain⟨f0,Z,f2,f3,f4,f5⟩:=V it #[5];exact wpAny_pyNext_range_end (I.ok.hd J) Y (by have:n<=i:=d;omega) λL eb=>⟨rfl,I.turned (t':=s.toks) (λb o U e=>eb b o U e) f0 Z f3 f4 f5⟩
 self:=λ_ _ _ _ _ Y h=>wpAny_pyIter_rangeiter Y h
section
variable{X:Cx}
def TH(K:uR)(t:TE):TI:=λB H R=>t B H λx H1=>∃a,x=.ref a/\(∃xs,sw K H1 a xs)/\R (X5 K a) H1
def W7(K:uR)(t:TE):TI:=λB H R=>t B H λx H1=>∃a,x=.ref a/\(∃xs,gg K H1 a xs)/\R (X6 K a) H1
theorem La{l:i9}{t:TE}(D:PE X l t):PI X tg l (TH X.K t):=by
 intro W s B H R I h;refine ii (D W s B H _ I h) λv V Z=>?_;obtain⟨x,H1,I1,z,w⟩:=Z;obtain⟨a,e,⟨d,Y⟩,q⟩:=w;subst e
 cases z
 obtain⟨O,J,p,F⟩:=I1.list Y;refine jO p.isList ?_;refine⟨V.heap.objs.size,[V.heap.objs.size],_,_,H1,rfl,I1.kept (t':=V.toks) λb o e=>ai _ e,E6 a _,⟨_,av _ rfl,rfl,rfl⟩,λb U=>?_,q⟩;have e:b=V.heap.objs.size:=by simpa using U
 subst e;exact I1.fpOk (am _) (I1.hok.fresh (am _))
theorem PH{l:i9}{t:TE}(D:PE X l t):PI X tg l (W7 X.K t):=by
 intro W s B H R I h;refine ii (D W s B H _ I h) λv V Z=>?_;obtain⟨x,H1,I1,z,w⟩:=Z;obtain⟨a,e,⟨d,Y⟩,q⟩:=w;subst e
 cases z
 obtain⟨O,J,p,F⟩:=I1.tuple Y;refine fw (show V.heap.IsTuple a O.toArray from p) ?_;refine⟨V.heap.objs.size,[V.heap.objs.size],_,_,H1,rfl,I1.kept (t':=V.toks) λb o e=>ai _ e,Cc a _,⟨_,av _ rfl,rfl,rfl⟩,λb U=>?_,q⟩;have e:b=V.heap.objs.size:=by simpa using U
 subst e;exact I1.fpOk (am _) (I1.hok.fresh (am _))
theorem GX{σ:St}{H:Hp}{R:It->Hp->Prop}{lo D:Int}{t u v:Tok}{V:Nat}(I:bH X aj σ H s)(Z:-(2^62)<=lo)(Y:lo<2^62)(B:-(2^62)<=D)(O:D<2^62)
  (q:R (Wv lo (D-lo).toNat) H):i1 #[3] X.A (Zq (.ref s.heap.objs.size)) (Wu X aj σ tg R) E { s with heap:=s.heap.push { cls:=.type "range",data:=.fields #[.int lo t,.int D u,.int 1 v] },toks:=V }:=by
 refine wpAny_pyIter_range (IsRange.new ..) (small_one Z Y B O) ?_;have I1:bH X aj σ H { s with heap:=s.heap.push { cls:=.type "range",data:=.fields #[.int lo t,.int D u,.int 1 v] },toks:=V }:=I.kept λb o e=>ai _ e;refine⟨(s.heap.push { cls:=.type "range",data:=.fields #[.int lo t,.int D u,.int 1 v] }).objs.size,[(s.heap.push { cls:=.type "range",data:=.fields #[.int lo t,.int D u,.int 1 v] }).objs.size],_,_,H,rfl,
  I1.kept (t':=V) λb o e=>ai _ e,Cd _ lo (D-lo).toNat,?_,λb U=>?_,q⟩
 .have d:lo+((0:Nat):Int)*1=lo:=by simp
  have e2:(((D-lo).toNat:Nat):Int)-((0:Nat):Int)=aam lo D 1:=by rw[rK];split<;>omega
  show IsRangeIter _ _ (lo+((0:Nat):Int)*1) ((((D-lo).toNat:Nat):Int)-((0:Nat):Int)) 1;rw[d,e2];exact av _ rfl
 .have e:b=(s.heap.push { cls:=.type "range",data:=.fields #[.int lo t,.int D u,.int 1 v] }).objs.size:=by simpa using U
  subst e;exact I1.fpOk (am _) (I1.hok.fresh (am _))
def TJ(Y:TA):TI:=λB H R=>Y B H λU H1=>∃j:Int,U=[.int j]/\-(2^62)<=j/\j<2^62/\R (Wv 0 j.toNat) H1
theorem E7{a:i9}{Y:TA}{p pos:Pos}(d:Gl X "range")(y:X.mg "range"=cg)(D:PA X [a] Y)(O:ow [a] X.env=[(dw,eval a X.env)]:=by rfl):PI X tg (.Call (.Name "range" p) [a] [] pos) (TJ Y):=by
 intro W s B H R I h;refine Call_ (qe I d y boot_range (d7 (ii (D pos W s B H _ I h) λG V zw=>?_) O rfl));obtain⟨U,H1,I1,z,w⟩:=zw;obtain⟨j,e,w,J,q⟩:=w;subst e
 cases z with
 |cons r L=>
  cases L
  obtain⟨t,rfl⟩:=r;exact call_range_1 (GX I1 #[0] #[0] w J (by simpa using q))
def W8(t:TI)(g:TG)(tb:TS):TS:=λD B H=>t B H λJ H1=>∃W:Nat->Nat->St->Hp->Prop,(∃m,W 0 m B H1)/\∀i m B H,W i m B H ->
 (J.stop i H/\D.nx B H)\/(J.go i H/\∃N:St->Hp->Prop,(∀O H',N O H'->∃w,w<m/\W (i+1) w O H')/\∀x H',J.yld i H x H'->g x B H' λz H2=>tb { D with nx:=N,ct:=N,bk:=D.nx } z H2)
noncomputable def yC(fp:List i0)(h:pk):List (i0×Obj):=fp.filterMap λb=>(h.get? b).map λo=>(b,o)
theorem ko(U:b∈fp)(e:h.get? b=bi o):(b,o)∈yC fp h:=mh.mpr ⟨b,U,by rw[e];rfl⟩
theorem E8{p:i0×Obj}(G:p∈yC fp h):p.1∈fp/\h.get? p.1=bi p.2:=by
 obtain⟨b,U,e⟩:=mh.mp G
 cases q:h.get? b with
 |none=>rw[q]at e;cases e
 |some o=>
  rw[q]at e;have R:(b,o)=p:=bg e;subst R;exact⟨U,q⟩
theorem bH.pinned{σ:St}{H:Hp}(I:bH X aj σ H s)(J:∀b∈fp,xk X aj H b)(V:∀b∈fp,∃o,s.heap.get? b=bi o/\∀v,o.data≠.cell v):bH X (aj++yC fp s.heap) σ H s:=
 I.pins_of λp G=>(aZ.mp G).elim (λz=>I.pin p (bn _ z)) λz=>by
  obtain⟨U,e⟩:=E8 z;obtain⟨w,Z,y,_⟩:=J p.1 U;obtain⟨o,R,d⟩:=V p.1 U;rw[e]at R;cases R
  exact⟨e,w,Z,y,d⟩
theorem bH.unpinned{G:List (i0×Obj)}{σ:St}{H:Hp}(I:bH X (aj++G) σ H s):bH X aj σ H s:=I.pins_of λp U=>I.pin p (bn _ (c_ _ U))
theorem PJ{wi:TI}{g:TG}{tb:TS}{pos:Pos}(G:PassesOwn #[3] X.A X.env X.xe)(R:X.calm=cT)(w:PI X tg d9 wi)(hg:PG X tg g)(U:E5 X body tb)
  (z:∀x,ZB d9 X.env x=pure x:=by intro _;rfl):PS X (.For tg d9 body [] pos) (W8 wi g tb):=by
 intro O s B H D I h;refine wpAny_For (ii (w O s B H _ I h) λv s1 Z=>ii Z λXI s2 Y=>?_) z;obtain⟨it,fp,tn,J,H2,e,I2,T,L,f2,W,⟨m0,w0⟩,turn⟩:=Y;subst e;have stat:∀{H':Hp},(∀b∈fp,H' b=cg)->∀b∈fp,xk X O H' b:=λV b U=>⟨V b U,(f2 b U).2⟩
 refine codeAny_forLoop_any (λn F=>∃i σ' H',bH X O σ' H' F/\tn i F.heap/\(∀b∈fp,H' b=cg)/\W i n σ' H') ?_ m0 ⟨0,B,H2,I2,L,λb U=>(f2 b U).1,w0⟩;rintro n s3 ⟨i,σ3,H3,I3,fP,fr3,w3⟩;rcases turn i n σ3 H3 w3 with⟨stop,qn⟩|⟨go,N,hN,step⟩
 .refine gC G (ii (T.done X rfl rfl rfl R i O s3 σ3 H3 X.xe I3 (stat fr3) fP stop) λr s4 zq=>?_);obtain⟨t,I4⟩:=zq;subst t;exact k7 ⟨σ3,H3,I4,qn⟩
 .refine gC G (ii (T.item X rfl rfl rfl R i O s3 σ3 H3 X.xe I3 (stat fr3) fP go) λr s4 zq=>?_);obtain⟨u,t,h4⟩:=zq;subst t;refine gC G (ii h4 λ_ s5 zq=>?_);obtain⟨x,H5,I5,r5,y5,u8,fr5⟩:=zq;have I5':=I5.pinned (stat fr5) (T.obj _ _ u8);refine gC G (ii (hg _ s5 σ3 H5 x u _ I5' r5 (step x H5 y5)) λ_ s6 zq=>?_);obtain⟨σ6,H6,I6,q6⟩:=zq;refine gC G (ii (U _ s6 σ6 H6 _ I6 q6) λf s7 q7=>?_);have again:∀{σ7:St} {H7:Hp},bH X (O++yC fp s5.heap) σ7 H7 s7->N σ7 H7->∃m,m<n/\∃i σ' H',bH X O σ' H' s7/\tn i s7.heap/\(∀b∈fp,H' b=cg)/\W i m σ' H':=λ{σ7 H7} I7 n7=>by obtain⟨m',y,w7⟩:=hN σ7 H7 n7;refine⟨m',y,i+1,σ7,H7,I7.unpinned,T.keep _ _ _ u8 λb U o e=>(I7.pin (b,o) (bn _ (bn _ (ko U e)))).1,λb U=>?_,w7⟩;obtain⟨o,e,d⟩:=T.obj _ _ u8 b U;exact(I7.pin (b,o) (bn _ (bn _ (ko U e)))).2.1
  cases f with
  |next=>obtain⟨σ7,H7,I7,n7⟩:=q7;exact again I7 n7
  |cont=>obtain⟨σ7,H7,I7,n7⟩:=q7;exact again I7 n7
  |brk=>obtain⟨σ7,H7,I7,q7⟩:=q7;exact⟨σ7,H7,I7.unpinned,q7⟩
  |ret v=>obtain⟨x7,σ7,H7,I7,r7,q7⟩:=q7;exact⟨x7,σ7,H7,I7.unpinned,r7,q7⟩
end
abbrev R2:=V->V->Hp->VK->Prop
def nr(X:Cx)(f:gs->gs->Sem gs)(r:R2):Prop:=
 ∀(aj:List (i0×Obj)) (s:i2) (B:St) (H:Hp) (x y:V) (v u:gs) (Q:VK),bH X aj B H s->cN x v->cN y u->r x y H Q ->
  i1 #[3] X.A (f v u) (EP X aj B Q) X.xe s
def W9(X:Cx)(f:gs->Sem gs)(r:V->Hp->VK->Prop):Prop:=
 ∀(aj:List (i0×Obj)) (s:i2) (B:St) (H:Hp) (x:V) (v:gs) (Q:VK),bH X aj B H s->cN x v->r x H Q ->
  i1 #[3] X.A (f v) (EP X aj B Q) X.xe s
def ju(X:Cx)(f:gs)(r:List V->Hp->VK->Prop):Prop:=
 ∀(aj:List (i0×Obj)) (s:i2) (B:St) (H:Hp) (xs:List V) (us:List gs) (Q:VK),bH X aj B H s->cR xs us->r xs H Q ->
  i1 #[3] X.A (call f us) (EP X aj B Q) X.xe s
def TK(r:R2)(Y tb:TE):TE:=λB H Q=>Y B H λx H1=>tb B H1 λy H2=>r x y H2 Q
def Yr(r:V->Hp->VK->Prop)(Y:TE):TE:=λB H Q=>Y B H λx H1=>r x H1 Q
def rI(C:Int->Int->Prop)(g:Int->Int->V):R2:=λx y H Q=>∃i j,x=.int i/\y=.int j/\C i j/\Q (g i j) H
def GY(g:Int->Int->V):R2:=λx y H Q=>∃i j,x=.int i/\y=.int j/\Q (g i j) H
def rU(g:Int->V):V->Hp->VK->Prop:=λx H Q=>∃i,x=.int i/\Q (g i) H
section
variable{X:Cx}{a b c:i9}{ta tb tc:TE}
theorem PL(D:PE X a ta)(U:PE X b tb){σ:St}{H:Hp}{R:V->V->Hp->Prop}(I:bH X aj σ H s)
  (h:ta σ H λx H1=>tb σ H1 λy H2=>R x y H2) {Q:gs->i2->Prop} {f:gs->gs->Sem gs}
  (J:∀v u Y x y H2,bH X aj σ H2 Y->cN x v->cN y u->R x y H2->i1 #[3] X.A (f v u) Q X.xe Y) :
  i1 #[3] X.A (eval a X.env) (λv F=>i1 #[3] X.A (eval b X.env) (λu L=>i1 #[3] X.A (f v u) Q X.xe L) X.xe F) X.xe s:=by refine ii (D aj s σ H _ I h) λv d Z=>?_;obtain⟨x,H1,I1,z,w⟩:=Z;refine ii (U aj d σ H1 _ I1 w) λu Y Z=>?_;obtain⟨y,H2,I2,O,t⟩:=Z;exact J v u Y x y H2 I2 z O t
theorem TL{op:Operator}{r:R2}(V:nr X (yz op) r)(D:PE X a ta)(U:PE X b tb):PE X (.BinOp a op b pos) (TK r ta tb):=by intro W s B H Q I h;exact wpAny_BinOp (PL D U I h λv u Y x y H2 I2 R w q=>V W Y B H2 x y v u Q I2 R w q)
theorem TM{op:UnaryOp}{r:V->Hp->VK->Prop}(w:W9 X (unaryOp op) r)(D:PE X a ta):PE X (.UnaryOp op a pos) (Yr r ta):=by intro W s B H Q I h;exact UnaryOp_ (ii (D W s B H _ I h) λv d zx=>by obtain⟨x,H1,I1,z,t⟩:=zx;exact w W d B H1 x v Q I1 z t)
theorem Ta{f:gs->gs->Sem gs}{C:Int->Int->Prop}{g:Int->Int->Int}
  (z:∀(i j:Int) (t u:Tok) (s:i2) (Q:gs->i2->Prop) (E:gs->i2->Prop),C i j->Q (.int (g i j) s.toks) { s with toks:=s.toks+1 }->i1 #[3] X.A (f (.int i t) (.int j u)) Q E s) :
  nr X f (rI C λi j=>.int (g i j)):=by intro W s B H x y v u Q I R w h;obtain⟨i,j,rfl,rfl,J,q⟩:=h;obtain⟨t,rfl⟩:=R;obtain⟨Y,rfl⟩:=w;exact z i j t Y s _ _ J ⟨.int (g i j),H,I.tok _,⟨_,rfl⟩,q⟩
theorem PM{f:gs->gs->Sem gs}{g:Int->Int->Int}
  (z:∀(i j:Int) (t u:Tok) (s:i2) (Q:gs->i2->Prop) (E:gs->i2->Prop),Q (.int (g i j) s.toks) { s with toks:=s.toks+1 }->i1 #[3] X.A (f (.int i t) (.int j u)) Q E s) :
  nr X f (GY λi j=>.int (g i j)):=by intro W s B H x y v u Q I R w h;obtain⟨i,j,rfl,rfl,q⟩:=h;obtain⟨t,rfl⟩:=R;obtain⟨Y,rfl⟩:=w;exact z i j t Y s _ _ ⟨.int (g i j),H,I.tok _,⟨_,rfl⟩,q⟩
theorem Lb{f:gs->gs->Sem gs}{g:Int->Int->Bool}
  (z:∀(i j:Int) (t u:Tok) (s:i2) (Q:gs->i2->Prop) (E:gs->i2->Prop),Q (.bool (g i j)) s->i1 #[3] X.A (f (.int i t) (.int j u)) Q E s) :
  nr X f (GY λi j=>.bl (g i j)):=by intro W s B H x y v u Q I R w h;obtain⟨i,j,rfl,rfl,q⟩:=h;obtain⟨t,rfl⟩:=R;obtain⟨Y,rfl⟩:=w;exact z i j t Y s _ _ ⟨.bl (g i j),H,I,rfl,q⟩
def W_(i j:Int):Prop:=0<j/\j<1073741824
def PN(i j:Int):Prop:=0<=j/\j<=1000000/\i.natAbs<2^64
def PP(i j:Int):Prop:=(-(2^64)<i/\i<2^64)\/(-(2^64)<j/\j<2^64)
theorem PP.ok{i j:Int}(h:PP i j):IntMulOk i j:=by
 rcases h with⟨Z,Y⟩|⟨Z,Y⟩
 .exact .of_left (intBits_le_64 Z Y)
 .exact .of_right (intBits_le_64 Z Y)
theorem Ce(k:Nat):(0:Int)<=2^k:=by rw[two_pow_cast];exact Int.natCast_nonneg _
theorem PQ:nr X (yz .Add) (GY λi j=>.int (i+j)):=PM λ_ _ _ _ _ _ _ q=>add_int q
theorem PR:nr X (yz .Sub) (GY λi j=>.int (i-j)):=PM λ_ _ _ _ _ _ _ q=>sub_int q
theorem PU:nr X (yz .Mult) (rI PP λi j=>.int (i*j)):=Ta λ_ _ _ _ _ _ _ J q=>mul_int q J.ok
theorem Lc:nr X (yz .FloorDiv) (rI W_ λi j=>.int (i/j)):=Ta λi j _ _ _ _ _ J q=>by have Z:(0:Int)<j:=J.1;have Y:j<1073741824:=J.2;exact floordiv_int #[0] (by rw[mi i #[0]];exact q) (.inl (PyProof.noPylong_small #[0]))
theorem PV:nr X (yz .Mod) (rI (λ_ j=>0<j) λi j=>.int (i%j)):=Ta λi j _ _ _ _ _ J q=>by have Z:(0:Int)<j:=J;exact mod_int' #[0] (by rw[Int.fmod_eq_emod_of_nonneg i #[0]];exact q)
theorem PY:nr X (yz .Pow) (rI PN λi j=>.int (i^j.toNat)):=Ta λ_ _ _ _ _ _ _ J q=>pow_int_small J.1 J.2.1 J.2.2 q
theorem GZ:nr X (yz .LShift) (rI PN λi j=>.int (i*2^j.toNat)):=Ta λ_ _ _ _ _ _ _ J q=>lshift_int_small J.1 J.2.1 J.2.2 q
theorem PZ:nr X (yz .RShift) (rI (λ_ j=>0<=j) λi j=>.int (i/2^j.toNat)):=Ta λi j _ _ _ _ _ J q=>
 rshift_int J (by rw[mi i (Ce _)];exact q)
theorem P0:nr X (yz .BitAnd) (GY λi j=>.int (aaf i j)):=PM λ_ _ _ _ _ _ _ q=>and_int q
theorem Ys{f:gs->Sem gs}{g:Int->Int}
  (z:∀(i:Int) (t:Tok) (s:i2) (Q:gs->i2->Prop) (E:gs->i2->Prop),Q (.int (g i) s.toks) { s with toks:=s.toks+1 }->i1 #[3] X.A (f (.int i t)) Q E s) :
  W9 X f (rU λi=>.int (g i)):=by intro W s B H x v Q I R h;obtain⟨i,rfl,q⟩:=h;obtain⟨t,rfl⟩:=R;exact z i t s _ _ ⟨.int (g i),H,I.tok _,⟨_,rfl⟩,q⟩
theorem P1:W9 X (unaryOp .USub) (rU λi=>.int (-i)):=Ys λ_ _ _ _ _ q=>neg_int q
end
section
variable{X:Cx}{a b c:i9}{ta tb tc:TE}
theorem G0{σ:St}{H:Hp}{Q:VK}{k O:Bool}(I:bH X aj σ H s)(q:Q (.bl k) H)(e:k=O):EP X aj σ Q (.bool O) s:=by subst e;exact⟨.bl k,H,I,rfl,q⟩
theorem TN:nr X (YS .Lt) (GY λi j=>.bl (decide (i<j))):=Lb λ_ _ _ _ _ _ _ q=>lt_int q
theorem TQ:nr X (YS .LtE) (GY λi j=>.bl (decide (i<=j))):=Lb λ_ _ _ _ _ _ _ q=>le_int q
theorem TR:nr X (YS .Gt) (GY λi j=>.bl (decide (j<i))):=Lb λ_ _ _ _ _ _ _ q=>gt_int q
theorem TU:nr X (YS .GtE) (GY λi j=>.bl (decide (j<=i))):=Lb λ_ _ _ _ _ _ _ q=>ge_int q
theorem E9:nr X (YS .In) (λx y H Q=>∃i j,x=.str i/\y=.str j/\Q (.bl (!(aak j i 0 j.length 1).isEmpty)) H):=by intro W s B H x y v u Q I R w h;obtain⟨i,j,rfl,rfl,q⟩:=h;obtain⟨t,rfl⟩:=R;obtain⟨Y,rfl⟩:=w;exact in_str (G0 I q rfl)
theorem yD:nr X (YS .NotIn) (λx y H Q=>∃i j,x=.str i/\y=.str j/\Q (.bl (!(!(aak j i 0 j.length 1).isEmpty))) H):=by intro W s B H x y v u Q I R w h;obtain⟨i,j,rfl,rfl,q⟩:=h;obtain⟨t,rfl⟩:=R;obtain⟨Y,rfl⟩:=w;exact notIn_str (G0 I q rfl)
theorem G1(b:i9)(h:op≠.In:=by decide)(Y:op≠.NotIn:=by decide):ZE op b=dw:=by
 have d:(op==CmpOp.In)=dw:=by cases op<;>first|rfl|exact absurd rfl h
 have e2:(op==CmpOp.NotIn)=dw:=by cases op<;>first|rfl|exact absurd rfl Y
 cases b<;>simp[ZE,d,e2]
theorem Ld{r:R2}(V:nr X (YS op) r)(D:PE X a ta)(U:PE X b tb)(R:ZE op b=dw):PE X (.Compare a [op] [b] pos) (TK r ta tb):=by intro W s B H Q I h;exact wpAny_Compare1 (PL D U I h λv u Y x y H2 I2 O w q=>V W Y B H2 x y v u Q I2 O w q) R
def TV(t:TE):TT:=λB H Q=>t B H λx H'=>∃k,x=.bl k/\Q k H'
theorem Le{r:R2}(V:nr X (YS op) r)(D:PE X a ta)(U:PE X b tb)(R:ZE op b=dw):PT X (.Compare a [op] [b] pos) (TV (TK r ta tb)):=by
 intro W s B H Q I h;refine pV (ii (D W s B H _ I h) λv d ⟨x,H1,I1,L,w⟩=>ii (U W d B H1 _ I1 w) λu Y ⟨y,H2,I2,O,t⟩=>
  ii (V W Y B H2 x y v u _ I2 L O t) λc Z ⟨z,H3,I3,J,k,e,G⟩=>?_) R
 subst e
 cases J
 exact cZ ⟨H3,I3,G⟩
def G3(r D:R2)(ta tb tc:TE):TE:=λB H Q=>ta B H λx H1=>tb B H1 λy H2=>r x y H2 λz H3=>∃k,z=.bl k /\
 (if k=cT then tc B H3 λO H4=>D y O H4 Q else Q (.bl dw) H3)
theorem G4{SJ:CmpOp}{r F:R2}(V:nr X (YS op) r)(yA:nr X (YS SJ) F)(D:PE X a ta)(U:PE X b tb)(J:PE X c tc)
  (R:lastMarks [op,SJ] [b,c]=dw:=by with_unfolding_all rfl):PE X (.Compare a [op,SJ] [b,c] pos) (G3 r F ta tb tc):=by
 intro W s B H Q I h;refine Compare_chain (ii (D W s B H _ I h) λv Y ⟨x,H1,I1,L,w⟩=>chain_link (ii (U W Y B H1 _ I1 w) λu t ⟨y,H2,I2,O,G⟩=>
  ii (V W t B H2 x y v u _ I2 L O G) λd Z ⟨z,H3,I3,r3,k,e,q3⟩=>?_)) R
 subst e
 cases r3
 refine cZ ?_
 cases k with
 |false=>exact ite_ff ⟨.bl dw,H3,I3,rfl,q3⟩
 |true=>exact ite_tt (chain_last (ii (J W Z B H3 _ I3 q3) λw' s4 zv=>by obtain⟨z',H4,I4,r4,q4⟩:=zv;exact yA W s4 B H4 y z' u w' Q I4 O r4 q4))
theorem vz:(sizeLine:Nat)<2^63:=by rw[jz];decide
theorem Cf:nr X (yz .Add) (λx y H Q=>∃i j,x=.str i/\y=.str j/\i.length+j.length<=sizeLine/\Q (.str (i++j)) H):=by intro W s B H x y v u Q I R w h;obtain⟨i,j,rfl,rfl,V,q⟩:=h;obtain⟨t,rfl⟩:=R;obtain⟨Y,rfl⟩:=w;exact add_str (λY G=>⟨.str (i++j),H,I.tok _,⟨_,rfl⟩,q⟩) V
theorem lR{x:V}(r:cR [x] us):∃u,us=[u]/\cN x u:=by
 cases r with
 |cons z O=>cases O;exact⟨_,rfl,z⟩
theorem Nl{x y:V}(r:cR [x,y] us):∃u w,us=[u,w]/\cN x u/\cN y w:=by
 cases r with
 |cons z O=>
  cases O with
  |cons I t=>cases t;exact⟨_,_,rfl,z,I⟩
theorem E_(J:X.calm=cT):ju X (.builtin "max") (λxs H Q=>∃i j,xs=[.int i,.int j]/\Q (.int (if j>i then j else i)) H):=by
 intro W s B H xs d Q I r h;obtain⟨i,j,rfl,q⟩:=h;obtain⟨u,O,rfl,⟨t,rfl⟩,⟨Y,rfl⟩⟩:=Nl r;refine max_two_ints (I.ok.hd J) λw V k=>⟨_,H,I.kept k,?_,q⟩
 by_cases L:j>i
 .rw[ax L,ax L];exact⟨_,rfl⟩
 .rw[aF L,aF L];exact⟨_,rfl⟩
theorem xL:ju X (.type "int") (λxs H Q=>(∃i,xs=[.int i]/\Q (.int i) H)\/∃k,xs=[.bl k]/\Q (.int (if k then 1 else 0)) H):=by
 intro W s B H xs d Q I r h;rcases h with⟨i,rfl,q⟩|⟨k,rfl,q⟩
 .obtain⟨u,rfl,t,rfl⟩:=lR r;exact call_int_int ⟨.int i,H,I,⟨_,rfl⟩,q⟩
 .obtain⟨u,rfl,z⟩:=lR r
  cases z
  exact call_int_bool ⟨.int (if k then 1 else 0),H,I.tok _,⟨_,rfl⟩,q⟩
end
structure P2(h:pk)(x dx C:i0)(mA:Str->Option gs):Prop where
 obj:h.get? x=bi (PySem.W.instObj C dx)
 ns:h.Ns1 dx mA
 ne:dx≠x
theorem Fa{G:i0}(n:h.Ns1 G mA):∃F,h.get? G=bi F/\∀name,PySem.W.lookIn name F=bi (mA name):=by
 obtain⟨o,J,W,V,D,B,_,R⟩:=n;refine⟨o,V,λname=>?_⟩;have e:=R name;unfold nsFind findBy at e;rw[<- Array.find?_toList]at e;unfold PySem.W.lookIn;rw[D];dsimp only
 split
 .rename_i y q
  rw[q]at e;exact cP bi e
 .rename_i q
  rw[q]at e;have a:J.toList.any (·.refKey)=dw:=by rw[jP];intro y Z;obtain⟨z,t,w⟩:=B y (Array.mem_toList_iff.mp Z);simp[DictEntry.refKey,w]
  have d:¬ J.toList.any (·.refKey)=cT:=by rw[a];exact bG
  rw[aF d];exact cP bi e
theorem P2.look{x B C:i0}(I:P2 h x B C mA):∃F,PySem.W.InstAt h x (PySem.W.instObj C B) C (bi F)/\∀name,PySem.W.lookIn name F=bi (mA name):=
 let ⟨F,ho,hl⟩:=Fa I.ns
 ⟨F,⟨I.obj,rfl,rfl,ho⟩,hl⟩
section
variable{w:ms}{x dx C:i0}
end
section
variable{w:ms}{H H':Hp}{C dx:i0}{fs YJ:List (Str×V)}
theorem Lf(R:mI P w H h)(e:H a=bi (.ins C dx fs)):∃mA,P2 h a dx C mA/\(∀f,Pf (fs.lookup f) (mA f))/\PySem.Within mA (fs.map (·.1))/\fs.length<=1000/\H dx=bi (.own a):=by
 obtain⟨d,z,y,Y,mA,n,r,q⟩:=(show fG P w H h a (.ins C dx fs)from R a _ e)
 exact⟨mA,⟨Y,n,y⟩,r,q,z,d⟩
end
structure P3(K:uR)(C:i0):Prop where
 pg:PySem.W.plainGet K C Str.empty=cT
 hd:PySem.W.hasDictIn K C=cT
 po:PySem.W.plainOver K C=cT
 sa:PySem.W.findIn K (.ref C) "__setattr__"=bi (bi (.builtin "object.__setattr__"))
theorem P3.get{C:i0}(c:P3 K C)(f:Str):PySem.W.plainGet K C f=cT:=c.pg
section
variable{X:Cx}{σ:St}{H:Hp}{C dx:i0}{fs:List (Str×V)}{f:Str}{v:V}
end
section
variable{X:Cx}{o value:i9}{f:Str}{XV:Pos}{ta tv:TE}
end
section
variable{X:Cx}{σ:St}{H:Hp}{c:gs}{b:Bool}
inductive uS(K:uR)(H:Hp):V->gs->Prop where
 |non:uS K H .non (.type "NoneType")
 |bl (x:Bool):uS K H (.bl x) (.type "bool")
 |int (i:Int):uS K H (.int i) (.type "int")
 |str (x:Str):uS K H (.str x) (.type "str")
 |flt (x:UInt64):uS K H (.flt x) (.type "float")
 |lst {a:i0} {xs:List V} (e:H a=bi (.lst xs)):uS K H (.ref a) (.type "list")
 |frz {a:i0} {o:Obj} {xs:List V} (e:H a=bi (.frz o (.lst xs))):uS K H (.ref a) (.type "list")
 |tup {a:i0} {xs:List V} (e:H a=bi (.tup xs)):uS K H (.ref a) (.type "tuple")
 |dK {a:i0} {kvs:List (sv×V)} (e:H a=bi (.dK kvs)):uS K H (.ref a) (.type "dict")
 |dT {a:i0} {kvs:List (List sv×V)} (e:H a=bi (.dT kvs)):uS K H (.ref a) (.type "dict")
 |ins {a C dx:i0} {fs:List (Str×V)} (e:H a=bi (.ins C dx fs)) (cl:P3 K C) (ha:PySem.W.findIn K (.ref C) "__class__"=bi (bi (.builtin "object.__class__")))
   (hn:PySem.W.specialIn K (.builtin "object.__class__") "__get__"=bi (bi (.builtin "getset_descriptor.__get__"))) (Yo:PySem.W.takesIn K (.builtin "object.__class__")=bi cT)
   (hm:PySem.W.mroIn K C (.type "object")=bi cT):uS K H (.ref a) (.ref C)
theorem qF{x:V}{t:gs}(I:bH X aj σ H s)(R:cN x u)(ty:uS X.K H x t)(e:PySem.W.kitOne X.K t c=bi b)(h:∀G,Q (.bool b) { s with toks:=G }) :
  i1 #[3] A (call (.builtin "isinstance") [u,c]) Q E s:=by
 cases ty with
 |non=>cases(show u=Zb from R);exact Zj PySem.W.kitx_none I.kIn True.intro e (λz=>nomatch z) h
 |bl y=>cases(show u=ZP y from R);exact Zj PySem.W.kitx_bool I.kIn True.intro e (λz=>nomatch z) h
 |int i=>obtain⟨t,q⟩:=(show ∃t,u=ZO i t from R);cases q;exact Zj PySem.W.kitx_int I.kIn True.intro e (λz=>nomatch z) h
 |str y=>obtain⟨t,q⟩:=(show ∃t,u=ZN y t from R);cases q;exact Zj PySem.W.kitx_str I.kIn True.intro e (λz=>nomatch z) h
 |flt y=>obtain⟨t,q⟩:=(show ∃t,u=Value.float y t from R);cases q;exact Zj PySem.W.kitx_float I.kIn True.intro e (λz=>nomatch z) h
 |@lst a d ea=>
  cases(show u=YT a from R)
  obtain⟨_,_,n,_,Z⟩:=(show fG X.prog X.w H s.heap a (.lst d)from I.hok a _ ea)
  exact Zj PySem.W.kitx_list I.kIn ⟨_,Z,rfl⟩ e (λz=>nomatch z) h
 |@frz a ob d ea=>
  cases(show u=YT a from R)
  obtain⟨_,_,_,n,_,Z⟩:=(show fG X.prog X.w H s.heap a (.frz ob (.lst d))from I.hok a _ ea)
  exact Zj PySem.W.kitx_list I.kIn ⟨_,Z,rfl⟩ e (λz=>nomatch z) h
 |@tup a d ea=>
  cases(show u=YT a from R)
  obtain⟨_,_,_,p⟩:=(show fG X.prog X.w H s.heap a (.tup d)from I.hok a _ ea)
  obtain⟨o,Z,Y,_⟩:=p;exact Zj PySem.W.kitx_tuple I.kIn ⟨o,Z,Y⟩ e (λz=>nomatch z) h
 |@dK a kvs ea=>
  cases(show u=YT a from R)
  obtain⟨_,_,U,_,p⟩:=(show fG X.prog X.w H s.heap a (.dK kvs)from I.hok a _ ea)
  obtain⟨o,w,W,Z,Y,_⟩:=p;exact Zj PySem.W.kitx_dict I.kIn ⟨o,Z,Y.1⟩ e (λz=>nomatch z) h
 |@dT a kvs ea=>
  cases(show u=YT a from R)
  obtain⟨_,_,d,_,o,w,W,Z,Y,_⟩:=(show fG X.prog X.w H s.heap a (.dT kvs)from I.hok a _ ea)
  exact Zj PySem.W.kitx_dict I.kIn ⟨o,Z,Y.1⟩ e (λz=>nomatch z) h
 |@ins a C dx fs ea cl ha hn Yo hm=>
  cases(show u=YT a from R)
  obtain⟨L,O,_⟩:=Lf I.hok ea;obtain⟨F,J,_⟩:=O.look;exact Zj (PySem.W.kitx_own (cl.get _) cl.hd ha hn Yo hm) I.kIn J e (λz=>nomatch z) h
end
structure ic(k:Nat)(A:yy):Prop where
 hd:A.handled=cg
 dp:A.depth+2*k+5<recursionLimit
 un:A.units+16*k+200<Y3
theorem ic.mono(r:ic k A)(h:j<=k):ic j A:=⟨r.hd,by have:=r.dp;omega,by have:=r.un;omega⟩
theorem ic.deeper(r:ic (k+1) A)(env:Env):ic k (A.deeper env):=
 ⟨r.hd,by have:=r.dp;show A.depth+1+2*k+5<_;omega,by have:=r.un;show A.units+3+16*k+200<_;omega⟩
theorem ic.depth(r:ic k A):A.depth<recursionLimit:=by have:=r.dp;omega
theorem ic.units(r:ic k A):A.units+64<Y3:=by have:=r.un;omega
def P4:TA:=λ_ H Q=>Q [] H
def vA(Y:TE)(t:TA):TA:=λB H Q=>Y B H λx H1=>t B H1 λxs H2=>Q (x::xs) H2
section
variable{X:Cx}{te:TE}{t:TA}
theorem rR:PA X [] P4:=λ_ _ _ _ H Q I h=>jQ ⟨[],H,I,.nil,h⟩
theorem iI(D:PE X e te)(R:PA X es t)(O:ow (e::es) X.env=(dw,eval e X.env)::ow es X.env:=by rfl):PA X (e::es) (vA te t):=by intro y W s B H Q I h;rw[O];show i1 _ _ (spliced ((dw,eval e X.env)::YR y (ow es X.env))) _ _ s;refine jm (ii (D W s B H _ I h) λu V Z=>?_);obtain⟨x,H1,I1,z,w⟩:=Z;exact ii (R y W V B H1 _ I1 w) λG Y zw=>by obtain⟨d,H2,I2,F,J⟩:=zw;exact ⟨x::d,H2,I2,.cons z F,J⟩
end
abbrev Sp:=List V->Hp->VK->XK->Prop
abbrev Fb:=List Env->Hp->i2->XK->gs->i2->Prop
structure yE(P:YW)(w:ms)(K:uR)(mg:Str->Option gs)(base:pk)(A:yy)(outer:List Env)(s:i2)(H:Hp):Prop where
 frames:A.frames=bi outer
 mod:Mod K mg base
 bs:∀b o,base.get? b=bi o->s.heap.get? b=bi o/\H b=cg
 bsz:base.objs.size<=s.heap.objs.size
 funs:s.heap.FunFrames base outer
 frf:∀b∈t5 outer,H b=cg
 hok:mI P w H s.heap
 bare:Zp s.gens
def CE(outer:List Env)(P:YW)(w:ms)(H:Hp)(s:i2)(Q:VK)(u:gs)(d:i2):Prop:=
 ∃v H',d.os=s.os/\Zp d.gens/\Un (t5 outer) [] H H' s.heap d.heap/\mI P w H' d.heap/\cN v u/\Q v H'
def CR(CX:Fb)(outer:List Env)(P:YW)(w:ms)(H:Hp)(s:i2)(Q:VK)(E:XK)(r:Result)(d:i2):Prop:=
 match r with
 |.ok (.ret u)=>CE outer P w H s Q u d
 |.ok _=>False
 |.error e=>CX outer H s E e d
structure fQ(P:YW)(w:ms)(K:uR)(mg:Str->Option gs)(base:pk)(CX:Fb)(k:Nat)(f:i0)(fd:Zl)(ps:List Str)(sp:Sp):Prop where
 len:∀vs H Q E,sp vs H Q E->vs.length=ps.length
 run:∀(A:yy) (outer:List Env) (s:i2) (H:Hp) (args:Args) (us:List gs) (vs:List V) (Q:VK) (E:XK),ic k A->yE P w K mg base A outer s H->BindsTo s fd args (ps.zip us)->cR vs us->sp vs H Q E ->
  ZC (model P w) A (.call (.ref f) args) (CR CX outer P w H s Q E) s
theorem fQ.mono{w:ms}{CX:Fb}{sp:Sp}(F:fQ P w K mg base CX j f fd ps sp)(h:j<=k) :
  fQ P w K mg base CX k f fd ps sp:=⟨F.len,λA z s H y d U Q E R=>F.run A z s H y d U Q E (R.mono h)⟩
section
variable{X:Cx}{σ:St}{H:Hp}{s':i2}
theorem bH.env0(I:bH X aj σ H s):yE X.prog X.w X.K X.mg X.base X.A X.stack s H:=
 ⟨I.ok.frames,I.ok.mod,I.bs,aT I.ok.bsz I.sz,I.stack,I.stkFree,I.hok,I.bare⟩
theorem bH.after{Q:VK}(I:bH X aj σ H s)(h:CE X.stack X.prog X.w H s Q u s'):EP X aj σ Q u s':=by obtain⟨v,H',B,y,un,R,r,q⟩:=h;obtain⟨Y,g,d,t,w⟩:=s';obtain rfl:w=s.os:=B;exact⟨v,H',I.call (h':=Y) (g':=g) (d':=d) (t':=t) (ch:=[]) un R y (λb z=>absurd z #[5]),r,q⟩
end
def xM(K:uR)(fd:Zl)(ps:List Str)(ds:List gs):Prop:=
 ∀(s:i2) (us:List gs),K.In s.heap->(us++ds).length=ps.length->BindsTo s fd ⟨us,[]⟩ (ps.zip (us++ds))
theorem xM.all(h:∀us:List gs,us.length=ps.length->ZJ fd ⟨us,[]⟩=pure (ps.zip us)):xM K fd ps []:=λs us _ I=>by rw[bD]at I ⊢;exact .of_eq (h us I)
section
variable{X:Cx}{CX:Fb}{C:i0}{sp:Sp}{YN:List V}{ds:List gs}{E:XK}{m:Str}{o:i9}{ta:TE}{t:TA}
end
def PK(X:Cx)(Ym:List Keyword)(t:TA):Prop:=
 ∀(pos:Pos) (aj:List (i0×Obj)) (s:i2) (B:St) (H:Hp) (Q:List V->Hp->Prop),bH X aj B H s->t B H Q->i1 #[3] X.A (evalAll ((backToKw pos (Z5 Ym X.env)).map (·.2))) (AP X aj B Q) X.xe s
section
variable{X:Cx}{CX:Fb}{C:i0}{ks:List Str}{sp:Sp}{E:XK}{m:Str}{XX:Pos}{o:i9}{Ym:List Keyword}{te ta:TE}{t tk:TA}{nm:Option Str}
variable{g:List gs->List gs->List gs}{gV:List V->List V->List V}
end
structure bS(N P:List Str)(sc:Y0):Prop where
 kind:sc.kind=.function
 co:sc.isCoroutine=dw
 gen:sc.isGenerator=dw
 nd:N.Nodup
 pre:N.take P.length=P
 par:∀x∈P,sc.names.lookup x=bi .local\/sc.names.lookup x=bi .cell
 nofree:∀y∈sc.names,y.2≠.free
theorem xN{d:Str->Option Y1}:∀{binds:List (Str×gs)} {m:Str->Option gs},(∀v,(x,v)∉binds)->bindL d binds m x=m x
 |[],_,_=>rfl
 |(n,v)::r,m,h=>by
  unfold bindL;rw[xN λw y=>h w (aC _ y)]
  split
  .have:x≠n:=by rintro rfl;exact h v aX
   simp[this]
  .rfl
theorem xO{d:Str->Option Y1}:∀{binds:List (Str×gs)} {m:Str->Option gs},(∀v,(x,v)∉binds)->bindC d binds m x=m x
 |[],_,_=>rfl
 |(n,v)::r,m,h=>by
  unfold bindC;rw[xO λw y=>h w (aC _ y)]
  split
  .rfl
  .have:x≠n:=by rintro rfl;exact h v aX
   simp[this]
theorem t6{d:Str->Option Y1}:∀{P:List Str} {U:List gs} {i:Nat} {m:Str->Option gs},P.Nodup->P[i]?=bi x->U[i]?=bi v->d x=bi .local ->
  bindL d (P.zip U) m x=bi v
 |[],_,_,_,_,h,_,_=>by simp at h
 |_::_,[],_,_,_,_,h,_=>by simp at h
 |p::P,w::U,0,m,nd,h1,h2,hk=>by simp at h1 h2;subst h1;subst h2;show bindL d ((p,w)::P.zip U) m p=_;unfold bindL;rw[xN λv W=>(bR.mp nd).1 (eX W).1,ax hk];simp
 |p::P,w::U,i+1,m,nd,h1,h2,hk=>by show bindL d ((p,w)::P.zip U) m x=_;unfold bindL;exact t6 (i:=i) (bR.mp nd).2 (by simpa using h1) (by simpa using h2) hk
theorem t7{d:Str->Option Y1}:∀{P:List Str} {U:List gs} {i:Nat} {m:Str->Option gs},P.Nodup->P[i]?=bi x->U[i]?=bi v->d x≠bi .local ->
  bindC d (P.zip U) m x=bi v
 |[],_,_,_,_,h,_,_=>by simp at h
 |_::_,[],_,_,_,_,h,_=>by simp at h
 |p::P,w::U,0,m,nd,h1,h2,hk=>by simp at h1 h2;subst h1;subst h2;show bindC d ((p,w)::P.zip U) m p=_;unfold bindC;rw[xO λv W=>(bR.mp nd).1 (eX W).1,aF hk];simp
 |p::P,w::U,i+1,m,nd,h1,h2,hk=>by show bindC d ((p,w)::P.zip U) m x=_;unfold bindC;exact t7 (i:=i) (bR.mp nd).2 (by simpa using h1) (by simpa using h2) hk
def gT(N:List Str)(vs:List V):St:=vs.map bi++pw (N.length-vs.length) cg
def oF(CX:Fb)(P:YW)(w:ms)(K:uR)(mg:Str->Option gs)(base:pk)(N:List Str)(qual:Str)(scope:Y0)(f:i0)(W:gs)(A:yy)(outer:List Env)(s:i2)(H:Hp)(E:XK):Cx where
 prog:=P
 w:=w
 K:=K
 mg:=mg
 base:=base
 A:=A.deeper (Zt qual scope s.heap.objs.size f W)
 N:=N
 s₀:=s
 H₀:=H
 env:=Zt qual scope s.heap.objs.size f W
 outer:=outer
 stack:=Zt qual scope s.heap.objs.size f W::outer
 ex:=[]
 calm:=cT
 fn:=λ_=>cT
 pn:=[]
 xe:=λe d=>i1 (model P w) (A.deeper (Zt qual scope s.heap.objs.size f W)) (leaving (Zt qual scope s.heap.objs.size f W) e) (λ_ Z=>CX outer H s E e Z) (λR Z=>CX outer H s E R Z) d
theorem iA{n:Nat}(h:sc.names.lookup x=bi .cell):∃c,(wh n sc.names []).lookup x=bi c:=by have q:=PySem.W.cellsFrom_some sc.names n [] (.inl h);exact nI.mp q
theorem xP{CX:Fb}{w:ms}{N:List Str}{W:gs}{s1:i2}{H:Hp}{E:XK}{vs:List V}
  (S:bS N ps scope) (F:A.handled=cg) (t:yE P w K mg base A outer s H) (I:vs.length=ps.length) (r:cR vs us)
  (x:InCallC s s.heap.objs.size (bindL (Zt qual scope s.heap.objs.size f W).kindOf (ps.zip us) λ_=>cg) (wh (s.heap.objs.size+1) scope.names []) (bindC (Zt qual scope s.heap.objs.size f W).kindOf (ps.zip us) λ_=>cg) s1) :
  bH (oF CX P w K mg base N qual scope f W A outer s H E) [] (gT N vs) H s1:=by
 have X:ps.length<=N.length:=by have:=cP Y8 S.pre;rw[a_]at this;omega
 obtain⟨Z,G,rfl,B⟩:=x.done;have R:∀b:i0,b∉(oF CX P w K mg base N qual scope f W A outer s H E).ex:=λb z=>absurd (show b∈([]:List i0)from z) #[5];refine⟨⟨t.mod,S.kind,rfl,rfl,am _,λy z c Z Y=>?_,λy hy=>?_,λy c _ h=>?_,λ_=>F,kQ t.frames,.inr ⟨rfl,rfl⟩,λb z=>absurd z (R b),t.bs,t.bsz,λb _ _=>R b,λb z=>absurd z (R b),t.funs,t.frf⟩,
  rfl,t.bare,Un.kept B,⟨_,x.toInCall.ns,λi y v Z Y L=>?_⟩,λy c h=>⟨_,x.cell y c h⟩,t.hok.fresh (am _),λy c h=>?_,λp U=>absurd (show p∈([]:List (i0×Obj))from U) #[5],t.hok.kept B,?_⟩
 .exact tQ x.apart (PySem.mem_of_lookup Z) (PySem.mem_of_lookup Y)
 .have hy:scope.names.lookup y=bi .cell\/scope.names.lookup y=bi .free:=hy;rcases hy with hy|hy
  .exact iA hy
  .exact absurd rfl (S.nofree _ (PySem.mem_of_lookup hy))
 .exact cx (x.above y c (PySem.mem_of_lookup h))
 .have D:i<vs.length:=by
   unfold gT at Y
   by_cases D:i<vs.length
   .exact D
   .rw[aY (by simpa using D)]at Y;rw[cX]at Y
    split at Y<;>cases Y
  have O:vs[i]?=bi v:=by
   unfold gT at Y;rw[aV (by simpa using D),ao]at Y
   cases e:vs[i]? with
   |none=>rw[e]at Y;cases Y
   |some a=>rw[e]at Y;cases Y;rfl
  obtain⟨u,d,J⟩:=r.get O;have U:ps[i]?=bi y:=by rw[<- S.pre,bY #[0]];exact Z
  have ndP:ps.Nodup:=by rw[<- S.pre];exact S.nd.sublist (eN _ _)
  refine⟨u,J,?_⟩;rcases S.par y (az U)with k|k
  .exact .inl ⟨k,t6 ndP U d k⟩
  .obtain⟨c,e⟩:=iA (n:=s.heap.objs.size+1) k;refine .inr ⟨.inl k,c,e,?_⟩;have q:=x.cell y c e;rw[t7 ndP U d (by show scope.names.lookup y≠_;rw[k];decide)]at q;exact q
 .exact t.hok.fresh (cx (x.above y c (PySem.mem_of_lookup h)))
 .unfold gT;show _=N.length;rw[ay,ag,ki];omega
theorem TW{CX:Fb}{w:ms}{params:Y7}{dV kV jN pm gr ct oc:gs}{an od:Option i0}
  {M8:Array (Option gs)} {N ps:List Str} {sp:Sp} (lk:K.lookup f=bi ⟨oc,od,.func (fnOf name qual params body scope dV kV jN pm an gr ct),M8⟩) (mG:codeIn K gr qual=cT) (S:bS N ps scope)
  (len:∀vs H Q E,sp vs H Q E->vs.length=ps.length)
  (n6:∀(A:yy) (outer:List Env) (s:i2) (H:Hp) (vs:List V) (Q:VK) (E:XK),ic k (A.deeper (Zt qual scope s.heap.objs.size f gr))->sp vs H Q E ->
   ∃t,E5 (oF CX P w K mg base N qual scope f gr A outer s H E) body t/\t { nx:=λ_ H'=>Q .non H',rt:=Q } (gT N vs) H) :
  fQ P w K mg base CX (k+1) f (fnOf name qual params body scope dV kV jN pm an gr ct) ps sp:=by
 refine⟨len,λA outer s H args W vs Q E R e0 U r GF=>?_⟩;have D:=len _ _ _ _ GF;have KX:K.In s.heap:=e0.mod.kin.keeps λb o e=>(e0.bs b o e).1;have lim:s.heap.NoLimit:=e0.mod.nolimit.keeps λb o e=>(e0.bs b o e).1;have i6:∀y∈ps.zip W,scope.names.lookup y.1=bi .local\/(scope.names.lookup y.1=bi .cell/\((wh (s.heap.objs.size+1) scope.names []).lookup y.1).isSome=cT):=λX z=>by
  obtain⟨n,v⟩:=X;rcases S.par n (eX z).1 with q|q
  .exact .inl q
  .exact .inr ⟨q,PySem.W.cellsFrom_some _ _ _ (.inl q)⟩
 refine kj R.depth (KX _ _ lk) rfl S.co S.gen rfl (PySem.W.codeRec_of KX mG) (U _ _ _ _ ?_);refine mj S.kind i6 λenv Z Y x=>?_;subst Z;refine⟨lim.keeps x.toInCall.keep,tR ?_⟩;obtain⟨t,B,L⟩:=n6 A outer s H vs Q E (R.deeper _) GF;have I:bH (oF CX P w K mg base N qual scope f gr A outer s H E) [] (gT N vs) H Y:=xP S R.hd e0 D r x;refine eL (B [] Y (gT N vs) H _ I L) (λfl d O=>?_) λe d O=>O;have jM:∀{F:St} {H':Hp} {v:V} {u:gs},bH (oF CX P w K mg base N qual scope f gr A outer s H E) [] F H' d->cN v u->Q v H'->CE outer P w H s Q u d:=
  λ{F H' v u} J G q=>⟨v,H',J.os,J.bare,J.base,J.hok,G,q⟩
 cases fl with
 |ret u=>
  obtain⟨v,F,H',J,G,q⟩:=O;exact jM J G q
 |next=>
  obtain⟨F,H',J,q⟩:=O;exact jM (v:=V.non) (u:=Zb) J rfl q
 |brk=>
  obtain⟨_,_,_,q⟩:=O;exact YY q
 |cont=>
  obtain⟨_,_,_,q⟩:=O;exact YY q
section
variable{X:Cx}{t:TA}{id:String}{r:List V->Hp->VK->Prop}
def W'(r:List V->Hp->VK->Prop)(t:TA):TE:=λB H Q=>t B H λU H1=>r U H1 Q
theorem Ar(J:ju X (.builtin id) r)(L:Gl X x)(y:X.mg x=cg)(F:ZI x=bi (.builtin id))(D:PA X (e::es) t)(R:x ≠ "__name__":=by decide)(Y:(x==("__debug__":Str))=dw:=by decide)
  (O:ow (e::es) X.env=(dw,eval e X.env)::ow es X.env:=by rfl) (Z:(YR pos (ow es X.env)).any (·.1)=dw:=by rfl):PE X (.Call (.Name x p) (e::es) [] pos) (W' r t):=by intro W s B H Q I h;refine db (qe I L y F ?_ R Y);exact kx (ii (D pos W s B H _ I h) λG d zx=>by obtain⟨U,H1,I1,z,w⟩:=zx;exact J W d B H1 U G Q I1 z w) O Z
theorem nM(J:ju X (.type T) r)(L:Gl X x)(y:X.mg x=cg)(F:ZI x=bi (.type T))(D:PA X (e::es) t)(R:x ≠ "__name__":=by decide)(Y:(x==("__debug__":Str))=dw:=by decide)
  (O:ow (e::es) X.env=(dw,eval e X.env)::ow es X.env:=by rfl) (Z:(YR pos (ow es X.env)).any (·.1)=dw:=by rfl):PE X (.Call (.Name x p) (e::es) [] pos) (W' r t):=by intro W s B H Q I h;refine db (qe I L y F ?_ R Y);exact d7 (ii (D pos W s B H _ I h) λG d zy=>by obtain⟨U,H1,I1,z,w⟩:=zy;exact J W d B H1 U G Q I1 z w) O Z
end
end L2
variable{H H':L2.Hp}{X:L2.Cx}{σ:L2.St}{te:L2.TE}{CX:L2.Fb}{vs:List L2.V}
namespace HT
open PySem PyProof.Rows
section
open PySem.SeqAt
open PySem.AutoSeq1 (wpAny_loadPart')
open PySem.MeetsSeq PySem.MeetsSeq2 PySem.MeetsSeq3
end
section
variable{w:ms}
theorem cat_tup{t:i0}{vs ws:List gs}(B:IsTup s.heap t vs.toArray)(U:IsTup s.heap b ws.toArray)(W:vs≠[])
  (Z:ws=[]->Q (.ref t) s) (Y:ws≠[]->Q (.ref s.heap.objs.size) { s with heap:=s.heap.push { cls:=.type "tuple",data:=.seq (vs++ws).toArray } })
  (hsz:vs.length+ws.length<=sizeLine):i1 #[2] A (yz .Add (.ref t) (.ref b)) Q E s:=by
 obtain⟨⟨cls,R,G,F⟩,V,J,n,D⟩:=id B;obtain⟨⟨cls2,dd2,data2,L⟩,d,z,I,O⟩:=id U;simp only at J D z O;subst J D z O;have e:vs.toArray++ws.toArray=(vs++ws).toArray:=by simp
 by_cases y:ws=[]
 .exact tU ⟨_,V,rfl⟩ ⟨_,d,rfl⟩ n9 rL PySem.F.slot_tuple_add PySem.F.entry_tuple_add (PySem.F.args_tuple_add_2 _ _)
   (tuple_addW1 t b vs.toArray ws.toArray n I R dd2 F L (by simpa using W) (by simp[y])) ⟨V,d,Z y⟩
 .refine tU ⟨_,V,rfl⟩ ⟨_,d,rfl⟩ n9 rL PySem.F.slot_tuple_add PySem.F.entry_tuple_add (PySem.F.args_tuple_add_2 _ _)
   (tuple_addW2 t b vs.toArray ws.toArray n I R dd2 F L (by simpa using W) (by simpa using y) (by rw[aS,aS];exact hsz)) ⟨V,d,?_⟩
  rw[e];exact Y y
noncomputable def sIx(n d:Nat):Option Int->Nat
 |none=>d
 |some v=>if v<0 then(v+(n:Int)).toNat else min v.toNat n
theorem sIx_none(n d:Nat):sIx n d cg=d:=rfl
theorem sIx_nat(n d k:Nat):sIx n d (bi (k:Int))=min k n:=by show(if (k:Int)<0 then((k:Int)+(n:Int)).toNat else min (k:Int).toNat n)=min k n;rw[aF #[0],aH]
theorem sIx_le(n d:Nat)(D:d<=n)(o:Option Int):sIx n d o<=n:=by
 cases o with
 |none=>exact D
 |some v=>
  show(if v<0 then(v+(n:Int)).toNat else min v.toNat n)<=n
  by_cases W:v<0
  .rw[ax W];omega
  .rw[aF W];exact Nat.min_le_right _ _
theorem Ds(v:Int)(n d:Nat):(if v<0 then max (v+(n:Int)) 0 else min v (n:Int))=((sIx n d (bi v):Nat):Int):=by
 show(if v<0 then max (v+(n:Int)) 0 else min v (n:Int))=(((if v<0 then(v+(n:Int)).toNat else min v.toNat n):Nat):Int)
 by_cases W:v<0
 .simp only[ax W];omega
 .simp only[aF W];omega
theorem Cg(lo D:Option Int)(n:Nat):aal lo D 1 (n:Int)=(((sIx n 0 lo:Nat):Int),((sIx n n D:Nat):Int)):=by
 have Z:¬ ((1:Int)<0):=by omega
 unfold aal;simp only[Z,dM];refine Prod.ext ?_ ?_
 .cases lo with
  |none=>rfl
  |some v=>exact Ds v n 0
 .cases D with
  |none=>rfl
  |some v=>exact Ds v n n
theorem Ci(i j:Nat):aai (i:Int) (j:Int) 1=j-i:=by
 unfold aai;have Z:(1:Int)>0:=by omega
 simp only[Z,gu,Int.ediv_one]
 split<;>omega
theorem vB{o:Option Int}{Q:Option Int->i2->Prop}(p:Zx v o)(h:Q o s):i1 #[2] A (Builtin.Slice.slicePartIndex v) Q E s:=by
 cases p with
 |none=>exact slicePart_none h
 |int i t=>exact slicePart_int h
theorem sliceApplied_gen{sl:i0}{d U:gs}{lo D:Option Int}{Q:Int×Int×Nat->i2->Prop}(O:s.heap.IsSliceOf sl d U .none)(G:Zx d lo)(y:Zx U D)
  (h:Q (((sIx n 0 lo:Nat):Int),1,sIx n n D-sIx n 0 lo) s):i1 #[2] A (Builtin.Slice.sliceApplied (.ref sl) (pure (n:Int))) Q E s:=by obtain⟨B,z,Y,M6⟩:=id O;unfold Builtin.Slice.sliceApplied Builtin.Slice.sliceFields;refine aa (aa (cf z M6 (x:=d) rfl (aa (cf z M6 (x:=U) rfl (aa (cf z M6 (x:=.none) rfl (ae ?_)))))));refine aa (slicePart_none ?_);show i1 _ _ (if ((1:Int)==0)=cT then _ else _) _ _ s;rw[aF #[1]];refine aa (vB G (aa (vB y (aa (ae ?_)))));show i1 _ _ (match aal lo D 1 (n:Int)with|(lo,D)=>pure (lo,(1:Int),aai lo D 1)) _ _ s;rw[Cg lo D n];show i1 _ _ (pure (((sIx n 0 lo:Nat):Int),(1:Int),aai ((sIx n 0 lo:Nat):Int) ((sIx n n D:Nat):Int) 1)) _ _ s;rw[Ci];exact ae h
theorem G5(xs:Array gs)(i k:Nat):((vr k).filterMap λ(m:Nat)=>xs[((i:Int)+(m:Int)*1).toNat]?).toArray=((xs.toList.drop i).take k).toArray:=by
 have e:(λ(m:Nat)=>xs[((i:Int)+(m:Int)*1).toNat]?)=λm=>xs[i+m]?:=by
  funext m
  have:((i:Int)+(m:Int)*1).toNat=i+m:=by omega
  rw[this]
 rw[e];have:=pick_run xs i k;rw[List.filterMap_map]at this;have e2:((λx=>xs[x]?)∘λx=>i+x)=λm=>xs[i+m]?:=rfl;rw[e2]at this;rw[this]
theorem getItem_tuple_cut{t sl:i0}{items:Array gs}{d U:gs}{lo D:Option Int}(Z:IsTup s.heap t items)(O:s.heap.IsSliceOf sl d U .none)(G:Zx d lo)(W:Zx U D)
  (y:¬ (sIx items.size 0 lo=0/\sIx items.size items.size D=items.size))
  (h:Q (.ref s.heap.objs.size) { s with heap:=s.heap.push { cls:=.type "tuple",data:=.seq ((items.toList.drop (sIx items.size 0 lo)).take (sIx items.size items.size D-sIx items.size 0 lo)).toArray } })
  (hsz:items.size<=sizeLine):i1 #[2] A (Zr (.ref t) (.ref sl)) Q E s:=by
 have Y:sizeOk (.seq ((items.toList.drop (sIx items.size 0 lo)).take (sIx items.size items.size D-sIx items.size 0 lo)).toArray):=by show((items.toList.drop (sIx items.size 0 lo)).take (sIx items.size items.size D-sIx items.size 0 lo)).toArray.size<=sizeLine;rw[aS,a_,dA,cB];omega
 have L:sIx items.size items.size D<=items.size:=sIx_le _ _ (am _) D;obtain⟨B,z,V,M6⟩:=id O;have F:s.TypeIs (.ref sl) "slice":=⟨B,z,V⟩
 unfold Zr
 try with_reducible refine c8 ?_
 first|refine aa (ae ?_)|skip
 refine aa (wpAny_sequenceKey Z.typeIs #[1] ?_);refine aa (bz (name:=Zk "__getitem__") Z.typeIs fg
  (bj fg Z.typeIs entry_tuple_getitem ?_ (args_tuple_getitem _ _)))
 show i1 _ _ (aaj (.ref t) >>= _) _ _ s;refine aa (tupleItemsOf_ Z ?_);refine aa (jR F ?_);rw[ax #[1]];refine aa (sliceApplied_gen O G W ?_);have R:¬ ((((sIx items.size 0 lo:Nat):Int)==0&&(1:Int)==1&&(sIx items.size items.size D-sIx items.size 0 lo)==items.size)=cT):=by intro q;rw[bc,bc]at q;have I:((sIx items.size 0 lo:Nat):Int)=0:=ky q.1.1;have J:sIx items.size items.size D-sIx items.size 0 lo=items.size:=ky q.2;exact y ⟨by omega,by omega⟩
 show i1 _ _ (if (((sIx items.size 0 lo:Nat):Int)==0&&(1:Int)==1&&(sIx items.size items.size D-sIx items.size 0 lo)==items.size)=cT then _ else _) _ _ s;rw[aF R,G5]
 first
  |exact aa (m:=aag _) (bT (ae ⟨_,rfl,ae h⟩) Y)
  |exact aa (m:=aag _) (bT (aa (ae (ae ⟨_,rfl,ae h⟩))) Y)
  |exact aa (aa (m:=aag _) (bT (ae (ae ⟨_,rfl,ae h⟩)) Y))
  |exact aa (aa (m:=aag _) (bT (ae ⟨_,rfl,ae h⟩) Y))
end
end HT
namespace L2
open PySem PySem.Spec PyProof.Rows
abbrev TO:=St->Hp->(Option Int->Hp->Prop)->Prop
def PO(X:Cx)(e:Option i9)(t:TO):Prop:=
 ∀(aj:List (i0×Obj)) (s:i2) (σ:St) (H:Hp) (Q:Option Int->Hp->Prop),bH X aj σ H s->t σ H Q ->
  i1 #[3] X.A (evalPart e X.env) (λu d=>∃o H',bH X aj σ H' d/\Zx u o/\Q o H') X.xe s
def Lg:TO:=λ_ H Q=>Q cg H
def TX(t:TE):TO:=λσ H Q=>t σ H λx H1=>∃i,x=.int i/\Q (bi i) H1
theorem Cj:∀{us:List gs},cR (ns.map V.int) us->ZM us ns:=by
 induction ns with
 |nil=>intro us r;rw[io]at r;cases r;exact .nil
 |cons n ns U=>
  intro us r;rw[aK]at r
  cases r with
  |cons z O=>
   obtain⟨t,e⟩:=z;subst e;exact .cons n t (U O)
section
variable{lo hi:Option i9}{tl th:TO}
theorem Lh:PO X cg Lg:=by intro W s B H Q I h;rw[evalPart_none];exact ae ⟨cg,H,I,.none,h⟩
theorem Li(h:PE X e te):PO X (bi e) (TX te):=by intro W s B H Q I y;rw[evalPart_some];refine ii (h W s B H _ I y) λu V Z=>?_;obtain⟨x,H1,I1,z,w⟩:=Z;obtain⟨i,rfl,q⟩:=w;obtain⟨t,rfl⟩:=z;exact⟨bi i,H1,I1,.int i t,q⟩
def TY(X:Cx)(r:V->Option Int->Option Int->Hp->VK->Prop):Prop:=
 ∀(aj:List (i0×Obj)) (s:i2) (σ:St) (H:Hp) (x:V) (v d U:gs) (lo hi:Option Int) (F:i0) (Q:VK),bH X aj σ H s->cN x v->s.heap.IsSliceOf F d U .none->Zx d lo->Zx U hi->r x lo hi H Q ->
  ∃T id,typeLookup (.type T) "__getitem__"=pure (bi (.builtin id))/\s.TypeIs v T/\i1 #[3] X.A (Zr v (.ref F)) (EP X aj σ Q) X.xe s
def Yt(r:V->Option Int->Option Int->Hp->VK->Prop)(te:TE)(tl th:TO):TE:=λσ H Q=>te σ H λx H1=>tl σ H1 λl H2=>th σ H2 λu H3=>r x l u H3 Q
theorem G6{r:V->Option Int->Option Int->Hp->VK->Prop}(R:TY X r)(J:PE X e te)(D:PO X lo tl)(O:PO X hi th):PE X (.Subscript e (.Slice lo hi cg p2) pos) (Yt r te tl th):=by intro W s B H Q I h;refine Subscript_ (ii (J W s B H _ I h) λv d y=>?_);obtain⟨x,H1,I1,z,w⟩:=y;refine wpAny_Slice (ii (D W d B H1 _ I1 w) λvl Y zz=>?_);obtain⟨l,H2,I2,G,t⟩:=zz;refine ii (O W Y B H2 _ I2 t) λvu U y=>?_;obtain⟨u,H3,I3,pu,q3⟩:=y;rw[evalPart_none];refine ae ?_;have I4:bH X W B H3 { U with heap:=U.heap.push { cls:=.type "slice",data:=.fields #[vl,vu,.none] } }:=I3.kept (t':=U.toks) λb ob q=>ai _ q;obtain⟨T,id,F,Z,L⟩:=R W { U with heap:=U.heap.push { cls:=.type "slice",data:=.fields #[vl,vu,.none] } } B H3 x v vl vu l u U.heap.objs.size Q I4 z (Heap.IsSliceOf.new ..) G pu q3;show i1 #[3] X.A (subscriptTail e (.Slice lo hi cg p2) v (.ref U.heap.objs.size)) (EP X W B Q) X.xe { U with heap:=U.heap.push { cls:=.type "slice",data:=.fields #[vl,vu,.none] } };exact tail_any (ops:=[.ref U.heap.objs.size,v]) Z F L (by with_unfolding_all rfl)
noncomputable def vC(xs:List V)(lo hi:Option Int):List V:=(xs.drop (HT.sIx xs.length 0 lo)).take (HT.sIx xs.length xs.length hi-HT.sIx xs.length 0 lo)
theorem uE(xs:List V)(lo hi:Option Int):(vC xs lo hi).length<=xs.length:=by unfold vC;rw[a_,dA];omega
def Xa(K:uR):V->Option Int->Option Int->Hp->VK->Prop:=λx lo hi H Q=>∃a xs,x=.ref a/\gg K H a xs /\
 ¬ (HT.sIx xs.length 0 lo=0/\HT.sIx xs.length xs.length hi=xs.length)/\∀p,H p=cg->Q (.ref p) (fF H p (.tup (vC xs lo hi)))
theorem P5:TY X (Xa X.K):=by
 intro W s B H x v w L J D F Q I R z G pu h;obtain⟨a,d,rfl,O,y,q⟩:=h
 cases R
 obtain⟨t,r,Z,V⟩:=I.tuple O;have U:t.toArray.size=d.length:=by rw[aS];exact r.length.symm
 refine⟨"tuple",_,fg.lookup,Z.typeIs,?_⟩;refine HT.getItem_tuple_cut Z z G pu (by rw[U];exact y) ?_ (by rw[U];exact V);rw[U];refine⟨.ref s.heap.objs.size,_,I.laid (t':=s.toks) (o:=.tup (vC d J D)) (λb Y q=>ai _ q) (am _) ?_,rfl,q _ (I.hok.fresh (am _))⟩;exact⟨aT (uE d J D) V,_,(r.drop (HT.sIx d.length 0 J)).take (HT.sIx d.length d.length D-HT.sIx d.length 0 J),IsTup.new _ _⟩
def TZ(K:uR):R2:=λx y H Q=>∃a b xs ys,x=.ref a/\y=.ref b/\gg K H a xs/\gg K H b ys/\xs≠[]/\xs.length+ys.length<=sizeLine /\
 (ys=[]->Q (.ref a) H)/\(ys≠[]->∀p,H p=cg->Q (.ref p) (fF H p (.tup (xs++ys))))
theorem cR.nil_iff{xs:List V}(r:cR xs us):us=[]↔xs=[]:=by
 cases r with
 |nil=>simp
 |cons _ _=>simp
theorem Lj:nr X (yz .Add) (TZ X.K):=by
 intro W s B H x y v u Q I R Y h;obtain⟨a,b,d,ys,rfl,rfl,D,U,O,V,t,J⟩:=h
 cases R
 cases Y
 obtain⟨G,L,Z,_⟩:=I.tuple D;obtain⟨its2,F,p2,_⟩:=I.tuple U;refine HT.cat_tup Z p2 (λz=>O (L.nil_iff.mp z)) (λz=>⟨.ref a,H,I,rfl,t (F.nil_iff.mp z)⟩) (λz=>?_) (by rw[<- L.length,<- F.length];exact V);refine⟨.ref s.heap.objs.size,_,I.laid (t':=s.toks) (o:=.tup (d++ys)) (λb ob q=>ai _ q) (am _) ?_,rfl,J (λw=>z (F.nil_iff.mpr w)) _ (I.hok.fresh (am _))⟩;exact⟨by rw[ay];exact V,_,L.append F,IsTup.new _ _⟩
theorem As:ju X (.type "tuple") (λxs H Q=>∃a ys,xs=[.ref a]/\gg X.K H a ys/\Q (.ref a) H):=by
 intro W s B H xs d Q I r h;obtain⟨a,ys,rfl,D,q⟩:=h;obtain⟨u,rfl,y⟩:=lR r
 cases y
 obtain⟨O,_,R,_⟩:=I.tuple D;exact call_tuple_same (items:=O.toArray) R ⟨.ref a,H,I,rfl,q⟩
end
noncomputable def Lk(n:Nat)(i:Int):Option Nat:=if 0<=i then(if i<n then bi i.toNat else cg)else if -(n:Int)<=i then bi (i+n).toNat else cg
def u9(xs:List α)(i:Int):Option α:=(Lk xs.length i).bind λj=>xs[j]?
theorem Ll{i:Int}(h:Lk n i=bi j):seqIndex? i n=bi j/\j<n/\-(n:Int)<=i/\i<n:=by
 unfold Lk at h
 by_cases Y:0<=i
 .rw[ax Y]at h
  by_cases Z:i<n
  .rw[ax Z]at h;have e:i.toNat=j:=bg h;exact⟨by rw[seqIndex_of Y Z,e],by omega,by omega,Z⟩
  .rw[aF Z]at h;cases h
 .rw[aF Y]at h
  by_cases Z:-(n:Int)<=i
  .rw[ax Z]at h;have e:(i+n).toNat=j:=bg h;exact⟨by rw[seqIndex_neg #[0] Z,e],by omega,Z,by omega⟩
  .rw[aF Z]at h;cases h
theorem yF{xs:List α}{i:Int}{v:α}(h:u9 xs i=bi v):∃j,seqIndex? i xs.length=bi j/\xs[j]?=bi v/\j<xs.length/\-(xs.length:Int)<=i/\i<xs.length:=by
 unfold u9 at h
 cases e:Lk xs.length i with
 |none=>rw[e]at h;cases h
 |some j=>
  rw[e]at h;obtain⟨Z,Y,B,O⟩:=Ll e;exact⟨j,Z,h,Y,B,O⟩
def Dt(b:i9):Prop:=∀o i,subscripted b dw o i=operate [o,i] (Zr o i)
def KJ(X:Cx)(r:R2):Prop:=
 ∀(z U:i9) (aj:List (i0×Obj)) (s:i2) (σ:St) (H:Hp) (x y:V) (v u:gs) (Q:VK),bH X aj σ H s->cN x v->cN y u->r x y H Q ->
  subscripted U dw v u=operate [v,u] (Zr v u)->i1 #[3] X.A (subscriptTail z U v u) (EP X aj σ Q) X.xe s
def KL(X:Cx)(id:String)(r:V->List V->Hp->VK->Prop):Prop:=
 ∀(aj:List (i0×Obj)) (s:i2) (σ:St) (H:Hp) (x:V) (xs:List V) (v:gs) (us:List gs) (Q:VK),bH X aj σ H s->cN x v->cR xs us->r x xs H Q ->
  i1 #[3] X.A (call (.builtin id) (v::us)) (EP X aj σ Q) X.xe s
section
variable{a b:i9}{ta tb:TE}
theorem KJ.or{r D:R2}(h:KJ X r)(h':KJ X D):KJ X (λx y H Q=>r x y H Q\/D x y H Q):=by
 intro z U W s B H x y v u Q I R w q O;rcases q with q|q
 .exact h z U W s B H x y v u Q I R w q O
 .exact h' z U W s B H x y v u Q I R w q O
theorem T0{r:R2}(R:KJ X r)(D:PE X a ta)(U:PE X b tb)(O:Dt b):PE X (.Subscript a b pos) (TK r ta tb):=by intro W s B H Q I h;exact Subscript_ (PL D U I h λv u Y x y H2 I2 V w q=>R a b W Y B H2 x y v u Q I2 V w q (O _ _))
def T3(K:uR):R2:=λx y H Q=>∃p xs i v,x=.ref p/\y=.int i/\sw K H p xs/\u9 xs i=bi v/\Q v H
def T4(K:uR):R2:=λx y H Q=>∃p xs i v,x=.ref p/\y=.int i/\gg K H p xs/\u9 xs i=bi v/\Q v H
def T5:R2:=λx y H Q=>∃z i c,x=.str z/\y=.int i/\z.length<=sizeLine/\u9 z.cps.toList i=bi c/\Q (.str ⟨#[c]⟩) H
theorem Lm:KJ X (T3 X.K):=by
 intro value slice W s B H x y v u Q I V ry h O;obtain⟨p,U,i,z,rfl,rfl,L,J,q⟩:=h
 cases V
 obtain⟨t,rfl⟩:=ry;obtain⟨G,r,pl,F⟩:=I.list L;obtain⟨j,Z,Y,h3,h4,h5⟩:=yF J;obtain⟨w,ew,oD⟩:=r.get Y;have D:=r.length;have R:=vz;have jM:EP X W B Q w s:=⟨z,H,I,oD,q⟩
 by_cases h0:0<=i
 .have hj:i.toNat=j:=by rw[seqIndex_of h0 h5]at Z;exact bg Z
  exact item_listR pl.isList h0 #[0] (by rw[hj];simpa using ew) jM O
 .have hj:(i+(G.toArray.size:Int)).toNat=j:=by rw[seqIndex_neg #[0] h4]at Z;rw[aS,<- D];exact bg Z
  exact oZ (x:=w) pl.isList.typeIs slot_list_getitem.lookup
   (wpAny_getItem_list_neg (Q:=λr d=>r=w/\EP X W B Q r d) pl.isList #[0] (by rw[aS]<;>omega) #[0] (by rw[hj];simpa using ew) ⟨rfl,jM⟩) O
theorem P6:KJ X (T4 X.K):=by
 intro value slice W s B H x y v u Q I V ry h O;obtain⟨p,U,i,z,rfl,rfl,L,J,q⟩:=h
 cases V
 obtain⟨t,rfl⟩:=ry;obtain⟨G,r,pl,F⟩:=I.tuple L;obtain⟨j,Z,Y,h3,h4,h5⟩:=yF J;obtain⟨w,ew,oD⟩:=r.get Y;have D:=r.length;have R:=vz;have jM:EP X W B Q w s:=⟨z,H,I,oD,q⟩
 exact oZ (x:=w) pl.typeIs slot_tuple_getitem.lookup
  (getItem_tuple (j:=j) (Q:=λr d=>r=w/\EP X W B Q r d) pl #[0] #[0] (by rw[aS,<- D];exact Z) (by simpa using ew) ⟨rfl,jM⟩) O
theorem P8:KJ X T5:=by
 intro value U W s B H x y v u Q I V w h O;obtain⟨z,i,c,rfl,rfl,F,J,q⟩:=h;obtain⟨t,rfl⟩:=V;obtain⟨t',rfl⟩:=w;obtain⟨j,Z,Y,L,G,h5⟩:=yF J;have D:z.cps.toList.length=z.length:=by simp[Str.length]
 rw[D]at Z G h5;have R:=vz;exact tail_any (sk s z t) slot_str_getitem.lookup (getItem_str (c:=c) (by
  have d:decide (i < -(2^63:Int))=dw:=aQ #[0];have e2:decide (i≥2^63)=dw:=aQ #[0];rw[d,e2,rM]) (by rw[Z];simpa using Y) ⟨.str ⟨#[c]⟩,H,I.tok _,⟨_,rfl⟩,q⟩) O
def Yu(K:uR):R2:=λx y H Q=>T3 K x y H Q\/T4 K x y H Q\/T5 x y H Q
theorem P9:KJ X (Yu X.K):=Lm.or (P6.or P8)
theorem yG(lo D:Option Int)(n:Nat):(ZX lo D cg n).1=((HT.sIx n 0 lo:Nat):Int)/\(ZX lo D cg n).2.1=((HT.sIx n n D:Nat):Int)/\(ZX lo D cg n).2.2=1:=by
 refine⟨?_,?_,rfl⟩
 .cases lo with
  |none=>simp[ZX,HT.sIx]
  |some i=>
   simp only[ZX,HT.sIx,Option.getD_none,show(1:Int)>0 by decide,gu]
   by_cases h:i<0
   .simp only[h,gu]<;>omega
   .simp only[h,dM]<;>omega
 .cases D with
  |none=>simp[ZX,HT.sIx]
  |some i=>
   simp only[ZX,HT.sIx,Option.getD_none,show(1:Int)>0 by decide,gu]
   by_cases h:i<0
   .simp only[h,gu]<;>omega
   .simp only[h,dM]<;>omega
theorem xl(bx:List gs)(lo D:Option Int):slicePick bx.toArray lo D cg=((bx.drop (HT.sIx bx.length 0 lo)).take (HT.sIx bx.length bx.length D-HT.sIx bx.length 0 lo)).toArray:=by obtain⟨Z,Y,B⟩:=yG lo D bx.toArray.size;unfold slicePick;rw[Z,Y,B];simp only[sliceRange_one,pick_run,aS]<;>rfl
def Xb(K:uR):V->Option Int->Option Int->Hp->VK->Prop:=λx J D H Q=>∃a xs,x=.ref a/\sw K H a xs/\∀p,H p=cg->Q (.ref p) (fF H p (.lst (vC xs J D)))
theorem Ln:TY X (Xb X.K):=by
 intro W s B H x v w L J D F Q I R z G y h;obtain⟨a,d,rfl,O,q⟩:=h
 cases R
 obtain⟨t,r,Z,V⟩:=I.list O;have U:=r.length;refine⟨"list",_,slot_list_getitem.lookup,Z.isList.typeIs,?_⟩;refine wpAny_getItem_list_slice Z.isList z G y .none #[5] ?_ (by rw[aS]<;>omega);rw[xl,<- U];refine⟨.ref s.heap.objs.size,_,I.laid (t':=s.toks) (o:=.lst (vC d J D)) (λb Y q=>ai _ q) (am _) ?_,rfl,q _ (I.hok.fresh (am _))⟩;exact⟨aT (uE d J D) V,_,0,(r.drop (HT.sIx d.length 0 J)).take (HT.sIx d.length d.length D-HT.sIx d.length 0 J),av _ rfl⟩
theorem sy:ju X (.builtin "len") (λxs H Q=>∃p ys,xs=[.ref p]/\(sw X.K H p ys\/gg X.K H p ys)/\Q (.int ys.length) H):=by
 intro W s B H xs d Q I r h;obtain⟨p,ys,rfl,hq,q⟩:=h;obtain⟨u,rfl,V⟩:=lR r
 cases V
 have R:=vz;rcases hq with hq|hq
 .obtain⟨O,D,G,F⟩:=I.list hq;have U:=D.length;exact Calls.call_len_list G.isList (by simp only[aS]<;>omega) ⟨.int ys.length,H,I.tok _,⟨s.toks+1,by rw[aS,U]⟩,q⟩
 .obtain⟨O,D,G,F⟩:=I.tuple hq;have U:=D.length;exact len_tuple G (by simp only[aS]<;>omega) ⟨.int ys.length,H,I.tok _,⟨s.toks+1,by rw[aS,U]⟩,q⟩
theorem yH:ju X (.builtin "len") (λxs H Q=>∃z,xs=[.str z]/\z.length<=sizeLine/\Q (.int z.length) H):=by intro W s B H xs d Q I r h;obtain⟨z,rfl,V,q⟩:=h;obtain⟨u,rfl,t,rfl⟩:=lR r;have R:=vz;exact len_str #[0] ⟨.int z.length,H,I.tok _,⟨_,rfl⟩,q⟩
theorem xn:ju X (.type "tuple") (λxs H Q=>∃p ys,xs=[.ref p]/\((sw X.K H p ys/\∀l,H l=cg->Q (.ref l) (fF H l (.tup ys)))\/(gg X.K H p ys/\Q (.ref p) H))):=by
 intro W s B H xs d Q I r h;obtain⟨p,ys,rfl,h⟩:=h;obtain⟨u,rfl,R⟩:=lR r
 cases R
 rcases h with⟨Y,q⟩|⟨Y,q⟩
 .obtain⟨O,D,G,V⟩:=I.list Y;have U:=D.length;refine call_tuple_list G.isList (λw F=>?_) (by simp only[aS]<;>omega);have I1:bH X W B H { s with heap:=w }:=I.kept (t':=s.toks) F;have I2:bH X W B (fF H w.objs.size (.tup ys)) { s with heap:=w.push { cls:=.type "tuple",data:=.seq O.toArray } }:=
   I1.laid (t':=s.toks) (λb o e=>ai _ e) (am _) (show fG X.prog X.w _ _ _ (.tup ys)from⟨V,O,D,IsTup.new _ _⟩)
  exact⟨.ref w.objs.size,_,I2,rfl,q _ (I1.hok.fresh (am _))⟩
 .obtain⟨O,D,G,V⟩:=I.tuple Y;exact call_tuple_same G ⟨.ref p,H,I,rfl,q⟩
def Ww(K:uR)(T:String)(x:V)(H:Hp):Prop:=match x with
 |.str _=>T="str"
 |.int _=>T="int"
 |.ref p=>(T="list"/\∃xs,sw K H p xs)\/(T="tuple"/\∃o,K.lookup p=bi o/\o.cls=.type "tuple"/\o.dict=cg) \/
   (T="dict"/\((∃W,H p=bi (.dK W))\/∃W,H p=bi (.dT W)))\/(T="set"/\∃S n,H p=bi (.set S n))
 |_=>False
theorem P_{x:V}(I:bH X aj σ H s)(r:cN x v)(ty:Ww X.K T x H) :
  s.TypeIs v T/\∀a,v=.ref a->∃R,s.heap.get? a=bi R/\R.dict=cg:=by
 cases x with
 |str z=>
  obtain⟨t,rfl⟩:=r
  cases(show T="str" from ty)
  exact⟨sk s z t,λ_ e=>nomatch e⟩
 |int i=>
  obtain⟨t,rfl⟩:=r
  cases(show T="int" from ty)
  exact⟨o_ s i t,λ_ e=>nomatch e⟩
 |ref p=>
  cases r
  rcases ty with⟨rfl,d,Y⟩|⟨rfl,o,B,J,D⟩|⟨rfl,B⟩|⟨rfl,S,n,B⟩
  .obtain⟨O,_,G,_⟩:=I.list Y;refine⟨G.isList.typeIs,λa e=>?_⟩
   cases e
   obtain⟨o,n,e,c,D,_⟩:=G;exact⟨o,e,D⟩
  .refine⟨⟨o,I.kIn p o B,J⟩,λa e=>?_⟩
   cases e
   exact⟨o,I.kIn _ o B,D⟩
  .have z:∃o,s.heap.get? p=bi o/\o.ExactDict:=by
    rcases B with⟨W,B⟩|⟨W,B⟩
    .obtain⟨_,_,_,_,o,_,_,e,ex,_⟩:=I.hok p _ B;exact⟨o,e,ex⟩
    .obtain⟨_,_,_,_,o,_,_,e,ex,_⟩:=I.hok p _ B;exact⟨o,e,ex⟩
   obtain⟨o,e,ex⟩:=z;refine⟨⟨o,e,ex.1⟩,λa e2=>?_⟩
   cases e2
   exact⟨o,e,ex.2.1⟩
  .obtain⟨o,_,_,_,e,ex,_⟩:=I.hok p _ B;refine⟨⟨o,e,ex.1⟩,λa e2=>?_⟩
   cases e2
   exact⟨o,e,ex.2.1⟩
 |_=>exact YY ty
variable{o:i9}{to:TE}{t:TA}{id:String}{r:V->List V->Hp->VK->Prop}
end
def Xc(X:Cx)(id:String)(r:V->List V->Hp->VK->Prop):Prop:=
 ∀(aj:List (i0×Obj)) (s:i2) (σ:St) (H:Hp) (x:V) (xs:List V) (v:gs) (us:List gs) (Q:VK),bH X aj σ H s->cN x v->cR xs us->r x xs H Q ->
  i1 #[3] X.A (call (.builtin id) (v::us)) (EP X aj σ Q) X.xe s
theorem cR.one{x:V}(h:cR [x] us):∃u,us=[u]/\cN x u:=by cases h with|cons r t=>cases t;exact⟨_,rfl,r⟩
theorem cR.two{x y:V}(h:cR [x,y] us):∃u v,us=[u,v]/\cN x u/\cN y v:=by cases h with|cons r t=>obtain⟨v,rfl,q⟩:=cR.one t;exact⟨_,v,rfl,r,q⟩
theorem cR.rep{xs:List V}(h:cR xs us):∀k:Nat,cR (pw k xs).flatten (pw k us).flatten
 |0=>.nil
 |k+1=>by rw[cC,cC,dm,dm];exact cR.append h (cR.rep h k)
theorem qG(bx:List gs):∀(k:Nat) (Z:List gs),
  Z2 (λJ y=>J++y) Z.toArray (pw k bx.toArray)=(Z++(pw k bx).flatten).toArray
 |0,Z=>by simp
 |k+1,Z=>by
  have e:Z.toArray++bx.toArray=(Z++bx).toArray:=by simp
  have e2:(Z++bx)++(pw k bx).flatten=Z++(pw (k+1) bx).flatten:=by rw[cC,dm,aN]
  rw[<- e2,<- qG bx k (Z++bx),<- e,cC,pI]
section
variable{l:i0}{xs ys zs:List V}
theorem bH.lset{its':List gs}{f:Array gs->Array gs}{t':Nat}(I:bH X aj σ H s)(L:H l=bi (.lst xs))
  (e:s.heap.get? l=bi { cls:=.type "list",data:=.seq bx.toArray n }) (J:f bx.toArray=its'.toArray) (W:cR ys its') (hz:ys.length<=sizeLine) :
  bH X aj σ (fF H l (.lst ys)) { s with heap:=s.heap.update l (Zh f),toks:=t' }:=by have q:=PySem.IsL.update e f;rw[J]at q;refine I.write (x:=l) (e:=l) (by rw[L];exact trivial) (.inl rfl) (λy u U d=>(de s.heap (Zh f) (YU U)).trans d) ⟨_,q⟩ ?_;exact⟨hz,its',_,W,q⟩
theorem bH.lnew{t':Nat}(I:bH X aj σ H s)(W:cR ys bx)(hz:ys.length<=sizeLine) :
  bH X aj σ (fF H s.heap.objs.size (.lst ys)) { s with heap:=s.heap.push { cls:=.type "list",data:=.seq bx.toArray },toks:=t' }:=
 I.laid (λ_ _ q=>ai _ q) (am _) ⟨hz,bx,0,W,av _ rfl⟩
theorem bH.fresh(I:bH X aj σ H s):H s.heap.objs.size=cg:=I.hok.fresh (am _)
theorem bH.lstM(I:bH X aj σ H s)(L:H l=bi (.lst xs)):xs.length<=sizeLine/\∃(bx:List gs) (n:Nat),cR xs bx/\xs.length=bx.length/\s.heap.get? l=bi { cls:=.type "list",data:=.seq bx.toArray n }:=by obtain⟨z,bx,n,r,e⟩:=I.hok l _ L;exact⟨z,bx,n,r,r.length,e⟩
theorem vD(h:n<=sizeLine):aab n=dw:=by unfold aab;exact aQ #[0]
end
section
def Du:V->List V->Hp->VK->Prop:=λx vs H Q=>∃l xs y,x=.ref l/\vs=[y]/\H l=bi (.lst xs)/\xs.length<sizeLine/\Q .non (fF H l (.lst (xs++[y])))
theorem Fd:Xc X "list.append" Du:=by
 intro W s B H x U v G Q I R J h;obtain⟨l,d,y,rfl,rfl,L,V,q⟩:=h
 cases R
 obtain⟨u,rfl,Z⟩:=J.one;obtain⟨z,O,n,r,D,e⟩:=I.lstM L;refine jn F.slot_list_append ⟨_,e,rfl⟩ F.entry_list_append (F.args_list_append_2 _ _) (PySem.list_append l O.toArray n u (by rw[aS];omega)) ⟨e,?_⟩;refine⟨.non,_,I.lset (its':=O++[u]) L e #[5] (r.append (.cons Z .nil)) ?_,rfl,q⟩;rw[ay,ce];omega
def Lo:V->List V->Hp->VK->Prop:=λx vs H Q=>∃l b xs D,x=.ref l/\vs=[.ref b]/\H l=bi (.lst xs)/\H b=bi (.lst D)/\xs.length+D.length<=sizeLine/\Q .non (fF H l (.lst (xs++D)))
theorem Fe:Xc X "list.extend" Lo:=by
 intro W s B H x U v G Q I R J h;obtain⟨l,b,d,t,rfl,rfl,hH,Z,V,q⟩:=h
 cases R
 obtain⟨u,rfl,y⟩:=J.one
 cases y
 obtain⟨z,O,n,r,D,e⟩:=I.lstM hH;obtain⟨z2,Y,n2,w,hl2,e2⟩:=I.lstM Z;have L:O.toArray.size+Y.toArray.size<=sizeLine:=by rw[aS,aS];omega
 have hlong:¬ (!O.toArray.isEmpty&&aab (O.toArray.size+Y.toArray.size))=cT:=by rw[vD L,Bool.and_false];exact bG
 refine jn F.slot_list_extend ⟨_,e,rfl⟩ F.entry_list_extend (F.args_list_extend_2 _ _)
  (AutoSeq1.list_extend_list_list_0 l O.toArray n b Y.toArray n2 hlong (by rw[aS];omega) #[0]) ⟨e,e2,?_⟩
 refine⟨.non,_,I.lset (its':=O++Y) hH e #[5] (r.append w) ?_,rfl,q⟩;rw[ay];omega
def Xd:R2:=λx y H Q=>∃l b xs D,x=.ref l/\y=.ref b/\H l=bi (.lst xs)/\H b=bi (.lst D)/\xs.length+D.length<=sizeLine/\∀p,H p=cg->Q (.ref p) (fF H p (.lst (xs++D)))
theorem P':nr X (yz .Add) Xd:=by
 intro W s B H x y v u Q I R w h;obtain⟨l,b,d,t,rfl,rfl,L,J,V,q⟩:=h
 cases R
 cases w
 obtain⟨z,O,n,r,D,e⟩:=I.lstM L;obtain⟨z2,Y,U,F,G,e2⟩:=I.lstM J;refine PySem.P.add_list e e2 ?_ (by rw[aS,aS];omega);have Z:O.toArray++Y.toArray=(O++Y).toArray:=by simp
 rw[Z];exact⟨.ref _,_,I.lnew (t':=s.toks) (r.append F) (by rw[ay];omega),rfl,q _ I.fresh⟩
def Xe:R2:=λx y H Q=>∃l k xs,x=.ref l/\y=.int k/\H l=bi (.lst xs)/\-(2^63)<=k/\k<2^63/\xs.length*k.toNat<=sizeLine /\
 ∀p,H p=cg->Q (.ref p) (fF H p (.lst (pw k.toNat xs).flatten))
theorem yI(xs:List α)(k:Nat):(pw k xs).flatten.length=k*xs.length:=by
 induction k with
 |zero=>simp
 |succ k U=>rw[cC,dm,ay,U,jS,Nat.add_comm]
theorem Qa:nr X (yz .Mult) Xe:=by
 intro W s B H x y v u Q I R L h;obtain⟨l,k,w,rfl,rfl,hH,Z,Y,V,q⟩:=h
 cases R
 obtain⟨t,rfl⟩:=L;obtain⟨z,O,n,r,D,e⟩:=I.lstM hH;have dC:O.toArray.size*k.toNat<=sizeLine:=by rw[aS,<- D];exact V
 have uz:¬ O.toArray.size*k.toNat>(2^63-1)/8:=by
  have:(sizeLine:Nat)<=(2^63-1)/8:=by decide
  omega
 have hfit:¬ (!Builtin.List.listFitsIndex k)=cT:=by rw[fitsIndex_both Z Y];exact bG
 have hlong:¬ aab (O.toArray.size*k.toNat)=cT:=by rw[vD dC];exact bG
 have hnew:Z2 (λJ x2=>J++x2) #[] (pw (if O.toArray.isEmpty=cT then 0 else k.toNat) O.toArray)=(pw k.toNat O).flatten.toArray:=by
  have f0:∀m:Nat,Z2 (λJ x2=>J++x2) #[] (pw m O.toArray)=(pw m O).flatten.toArray:=λm=>by have:=qG O m [];rw[f6]at this;exact this
  rw[f0]
  cases O with
  |nil=>simp
  |cons a G=>rw[aF (by simp)]
 refine mJ (T:="list") (U:="int") #[1] ⟨_,e,rfl⟩ (λd=>o_ d k t) noFill_list_mul F.fills_int_mul k8 repeat_list F.slot_int_index.lookup
  (jn k8 (o_ s k t) F.entry_int_rmul (F.args_int_rmul_2 _ _) (int___rmul___int_list k t l O.toArray n)
   ⟨e,rfl,⟨_,e,rfl⟩,jn F.slot_list_mul ⟨_,e,rfl⟩ F.entry_list_mul (F.args_list_mul_2 _ _) (AutoListH.list___mul___list_int_3 l O.toArray n k t hfit uz hlong) ⟨e,?_⟩⟩)
 rw[hnew];exact⟨.ref _,_,I.lnew (t':=s.toks) (r.rep k.toNat) (by rw[yI,ip];exact V),rfl,q _ I.fresh⟩
end
section
variable{w:ms}
end
section
end
end L2
namespace Att
open PySem PySem.W PySem.Calls PyProof.Rows
theorem uT{P:Params}:∀(ns:List Int) (vs:List gs),WellAll P h vs (ns.map WData.int)->ZM vs ns:=by
 intro ns
 induction ns with
 |nil=>
  intro vs w;rw[io]at w
  cases w
  exact .nil
 |cons n ns U=>
  intro vs w;rw[aK]at w
  cases w with
  |cons a b=>
   cases a
   exact .cons _ _ (U _ b)
theorem Ff{l:OpenLaw}(R:l.most=bi n){P:Params}{y:List WData}{D:List gs}
  (t:l.row.toRowW.claim.pre y=cT) (V1:WellAll P h D y) :
  ∃a vs ns,D=[YT a]/\y=[WData.list (ns.map WData.int)]/\h.get? a=bi { cls:=.type "list",data:=.seq vs.toArray }/\ZM vs ns/\ns.length<=n:=by
 have L:WShape.hasAll [] y [.list .int]=cT:=(pre_splitW t).1;have J:l.pre.holds [] { args:=y }=cT:=(pre_splitW t).2;obtain⟨d,r,rfl,Z,Y⟩:=hasAllW_cons L;obtain rfl:=hasAllW_nil Y;obtain⟨w,rfl,B⟩:=hasW_list Z;obtain⟨ns,rfl⟩:=items_int B;have U:ns.length<=n:=by
  unfold OpenLaw.pre at J;have O:(WTm.not (.lt (.lit (.int (n:Int))) (.len (.arg 0)))).holds [] { args:=[.list (ns.map .int)] }=cT:=by have O:=(holds_andW J).1;rw[R]at O;exact O
  have I:=condW_of O (w_not (w_lt w_lit (w_len_list (w_arg rfl))));rw[ag]at I;refine Nat.le_of_not_lt λq=>?_;have z:(n:Int)<((ns.length:Nat):Int):=by omega
  first
   |(rw[bb z]at I;exact absurd I (by decide))
   |(simp at I;omega)
 cases V1 with
 |cons w1 G=>
  cases G
  cases w1 with
  |list V W=>exact⟨_,_,ns,rfl,rfl,V,uT ns _ W,U⟩
theorem Fg(l:OpenLaw)(y:List WData):l.row.toRowW.claim.post y (.bool cT) y=cT:=
 postW_of (r:=l.row.toRowW) (X:=(cT==cT))
  (show WShape.has [] (.bool cT) .bool=cT by first|rfl|decide|simp[WShape.has,WShape.arms,WShape.armsAll])
  (show(WTm.eq .res (.lit (.bool cT))).value [] { args:=y,res:=bi (.bool cT),after:=y }=bi (.bool (cT==cT))from w_eq_bool (w_res rfl) w_lit) rfl
theorem attach_call{l:OpenLaw}{q:YW}{EV:List Str}{d:DefRec}
  (R:l.most=bi n) (XW:d.params.defaults=[])
  (call:∀(w:ms) (s₀ F:i2) (mg mb:Str->Option gs) (fa:i0) (o:Obj) (I U jN:gs) (a:i0) (vs:List gs) (ns:List Int),
   Ground q EV [] XP w s₀ mg mb F.heap->YP w F.heap ->
   F.heap.get? fa=bi o->o.data=.func (docDef d.name d.params d.body d.scope I U jN)->F.heap.CodeRec U d.name->mg d.name=bi (.ref fa) ->
   F.heap.get? a=bi { cls:=.type "list",data:=.seq vs.toArray }->ZM vs ns->ns.length<=n->F.gens=#[] ->
   ZC (model l.prog w) callerA (.call (.ref fa) ⟨[.ref a],[]⟩) (λr W=>r=.ok (.ret (.bool cT))/\OldK F.heap W.heap/\W.os=F.os/\Zp W.gens) F) :
  WalkO q EV XP YP l.row.toRowW d [] (λf vs=>PySem.call f vs):=by intro w s₀ F mg mb G Y fa o I U jN dV kV V D mG hD hmg L t oY as xH hlay hrd V1 hlo;obtain rfl:dV=.none:=Dflts.none hD XW;obtain rfl:kV=.none:=Dflts.noKw hD;obtain⟨a,vs,ns,rfl,rfl,hobj,hints,z⟩:=Ff R xH V1;refine enter_call (gN (call w s₀ F mg mb fa o I U jN a vs ns G Y V (fd_plain D) mG hmg hobj hints z L) λr W J=>?_);obtain⟨rfl,O,B,Z⟩:=J;exact⟨.inl ⟨.bool cT,.bool cT,[],rfl,λ_=>rfl,.bool cT,Fg l _,λ_=>⟨Z4,λ_ y=>(nomatch y)⟩⟩,O,B,Z⟩
section
variable{w:ms}
end
end Att
namespace L2
open PySem PySem.Spec PyProof.Rows
theorem xQ:∀{vs:List gs} {ns:List Int},ZM vs ns->cR (ns.map V.int) vs
 |_,_,.nil=>.nil
 |_,_,.cons n t h=>.cons ⟨t,rfl⟩ (xQ h)
noncomputable def dZ(s:qd):Y7:=match s with
 |.FunctionDef _ a _ _ _ _ _ _ _ _=>a
 |_=>{ posonlyargs:=[],args:=[],vararg:=cg,kwonlyargs:=[],kw_defaults:=[],kwarg:=cg,defaults:=[] }
noncomputable def dq(s:qd):List qd:=match s with
 |.FunctionDef _ _ b _ _ _ _ _ _ _=>b
 |_=>[]
noncomputable def aI(s:qd):Y0:=match s with
 |.FunctionDef _ _ _ _ _ _ sc _ _ _=>sc
 |_=>{ kind:=.function,names:=[],isGenerator:=dw,isCoroutine:=dw }
structure lB(K:uR)(x qual:Str)(st:qd)(f:i0)(fd:Zl):Prop where
 ex:∃(oc:gs) (od:Option i0) (kV jN pm:gs) (an:Option i0) (gr ct:gs) (M8:Array (Option gs)),
  fd=fnOf x qual (dZ st) (dq st) (aI st) .none kV jN pm an gr ct/\K.lookup f=bi ⟨oc,od,.func fd,M8⟩/\codeIn K gr qual=cT
 kp:keepIn K (.ref f)=cT
section
variable{w:ms}
theorem lB.binds{st:qd}(F:lB K x qual st f fd)
  (h:∀(kV J I:gs) (O:Option i0) (Z V:gs) (us:List gs),us.length=ps.length->ZJ (fnOf x qual (dZ st) (dq st) (aI st) .none kV J I O Z V) ⟨us,[]⟩=pure (ps.zip us)):xM K fd ps []:=by obtain⟨z,d,kV,J,I,O,Z,V,M8,rfl,y,U⟩:=F.ex;exact .all (h kV J I O Z V)
theorem yJ{st:qd}{z:gs}{F O:Option i0}{M8:Array (Option gs)}{kV J I Z V:gs}(l:K.lookup f=bi ⟨z,F,.func (fnOf x qual (dZ st) (dq st) (aI st) .none kV J I O Z V),M8⟩)
  (c:codeIn K Z qual=cT) (k:keepIn K (.ref f)=cT):lB K x qual st f (fnOf x qual (dZ st) (dq st) (aI st) .none kV J I O Z V):=⟨⟨z,F,kV,J,I,O,Z,V,M8,rfl,l,c⟩,k⟩
end
section
theorem pv(i:Nat){pos:Pos}(z:X.N[i]?=bi x:=by rfl)(W:Nh X.env.scope x:=by first|exact Or.inl rfl|exact Zv (Or.inl rfl)|exact Zv (Zv rfl))(D:(x==("__debug__":Str))=dw:=by decide)
  (U:(x==("__classdict__":Str))=dw:=by decide):PE X (.Name x pos) (Ts i):=Pi z W D U
end
def oG(H H':Hp):Prop:=∀b o,H b=bi o->H' b=bi o
theorem oG.refl(H:Hp):oG H H:=λ_ _ h=>h
section
variable{κ:Type}[DecidableEq κ]
end
theorem T6{w:ms}{k:sv}(r:cN (kV k) u):(mP P w).is k u=cT:=by
 cases k with
 |inl i=>obtain⟨t,e⟩:=(show ∃t,u=ZO i t from r);subst e;exact Al P w i t
 |inr x=>obtain⟨t,e⟩:=(show ∃t,u=ZN x t from r);subst e;exact Am P w x t
abbrev KT(H:Hp):List (List sv×V)->List (List sv×i0×gs)->Prop:=Paired λp q=>p.1=q.1/\H q.2.1=bi (.tup (p.1.map kV))/\cN p.2 q.2.2
section
variable{w:ms}
theorem T7{u:HO}(ok:mI P w H h)(e:Rd H a u):fG P w H h a u:=e.ok ok
theorem T9{kvs:List (sv×V)}(ok:mI P w H h)(e:Rd H a (.dK kvs)):kvs.length<=sizeLine/\(a==Zf)=dw/\∃vs,KV kvs vs/\h.DictOf (mP P w) a vs:=
 show fG P w H h a (.dK kvs)from T7 ok e
theorem T_{kvs:List (sv×V)}(ok:mI P w H h)(e:H a=bi (.dK kvs)):kvs.length<=sizeLine/\(a==Zf)=dw/\∃vs,KV kvs vs/\h.DictOf (mP P w) a vs:=T9 ok (.inl e)
end
section
variable{y v:V}{r:gs}{o:Option V}
theorem bH.big(I:bH X aj σ H s):Zf<s.heap.objs.size:=by have h:wU<s.heap.objs.size:=(I.mod.glob.keeps I.bk).lt;exact tV #[1] h
theorem Dv{R:HO}(I:bH X aj σ H s)(Y:Pg (H a))(O:Zy a s.heap h')(J:∃q,h'.get? a=bi q)(new:fG X.prog X.w (fF H a R) h' a R) :
  bH X aj σ (fF H a R) { s with heap:=h',toks:=t' }:=
 I.write (x:=a) (e:=a) Y (.inl rfl) (λb q U z=>(O.2 b U).trans z) J new
end
section
variable{kvs:List (sv×V)}{k:sv}
end
def Qb(i:i9):Prop:=∀L G,subscripted i dw L G=operate [L,G] (Zr L G)
theorem Lp{w:ms}{z U:i9}{id:String}
  (I:typeLookup (.type T) "__getitem__"=pure (bi (.builtin id))) (O:Qb U)
  (h:i1 #[2] A (eval z env) (λo y=>i1 #[2] A (eval U env) (λi L=>L.TypeIs o T/\i1 #[2] A (Zr o i) Q E L) E y) E s) :
  i1 #[2] A (eval (.Subscript z U pos) env) Q E s:=by
 refine Subscript_ (eL h (λo y d=>eL d (λi L Y=>?_) λ_ _ x=>x) λ_ _ x=>x);obtain⟨B,Y⟩:=Y;unfold subscriptTail;refine aa ?_;rw[getitemInPython_of_ne B.not_modules];refine aa (f7 B I ?_);have t:i1 #[2] A (subscripted U dw o i) (λr Z=>i1 #[2] A (letTemporaryGo z o r >>= λ_=>pure r) Q E Z) E L:=by rw[O o i];exact wpAny_operating (eL Y (λr Z W=>aa (wpAny_letTemporaryGo (ae W))) λ_ _ x=>x)
 first
  |exact ae (aa t)
  |exact aa (ae (aa t))
  |exact aa t
section
variable{o i value:i9}{XV:Pos}{td ty tv:TE}
end
theorem At{w:ms}(h:pk)(U:Zf<h.objs.size):fG P w H (h.push { cls:=.type "dict",data:=.dict #[] }) h.objs.size (.dK []):=
 ⟨dy _,dk.mpr (YU (aJ U)),[],.nil,Heap.DictOf.new h⟩
def Qc:TE:=λ_ H Q=>∀p,H p=cg->Q (.ref p) (fF H p (.dK []))
section
theorem G7:PE X (.Dict [] [] pos) Qc:=λW s B H Q I h=>
 wpAny_Dict_empty ⟨.ref s.heap.objs.size,_,I.laid (a:=s.heap.objs.size) (o:=.dK []) (t':=s.toks) (λ_ _ q=>ai _ q) (am _) (At s.heap I.big),rfl,h _ (I.hok.fresh (am _))⟩
end
section
variable{y d:V}{r:gs}{o:Option V}
end
section
variable{o f:i9}{td ty tx:TE}
end
section
variable{kvs:List (sv×V)}
end
section
variable{y:V}
end
section
end
section
variable{κ:Type}[DecidableEq κ]
end
end L2
set_option maxHeartbeats 4000000
namespace L2
open PySem PySem.Spec PyProof.Rows
abbrev dz(X:Cx)(nm:List Str)(scope:Y0)(cl:List (Str×i0))(C:i0)(Y:i2)(H0:Hp)(fp:List i0):Cx:=
 { X with N:=nm,s₀:=Y,H₀:=H0,env:=compEnvC scope cl C X.env,outer:=X.stack,stack:=X.stack,ex:=fp,fn:=λ_=>dw,pn:=[],xe:=λ_ _=>False }
def KM(X:Cx)(qx:List i9)(t:TT):Prop:=
 ∀(aj:List (i0×Obj)) (s:i2) (σ:St) (H:Hp) (Q:Bool->Hp->Prop),bH X aj σ H s->t σ H Q ->
  i1 #[3] X.A (forIn qx cT λc r=>if r=cT then do let ok <- isTrue c X.env (eval c X.env);pure (ZT ok)else pure (ZT r)) (TP X aj σ Q) X.xe s
def Xf:TT:=λ_ H Q=>Q cT H
theorem Lq:KM X [] Xf:=λ_ _ _ H _ I h=>wpAny_tests_nil ⟨H,I,h⟩
theorem Lr{c:i9}{t:TT}(J:PT X c t):KM X [c] t:=λW s B H Q I h=>wpAny_tests_one (J W s B H Q I h)
def rA(cap:List (Option Nat))(σ:St):St:=cap.map λo=>o.bind λj=>(σ[j]?).join
def xR(cap:List (Option Nat))(t:TI)(g:TG)(U:TT)(te:TE):TE:=λσ H Q=>t σ H λJ H1=>∃W:Nat->Nat->List V->Hp->Prop,(∃m,W 0 m [] H1)/\∀i m ys H2,W i m ys H2 ->
 (J.stop i H2/\ys.length<=sizeLine/\∀p,H2 p=cg->Q (.ref p) (fF H2 p (.lst ys))) \/
 (J.go i H2/\∀x H3,J.yld i H2 x H3->g x (rA cap σ) H3 λz H4=>U z H4 λb H5=>if b=cT then te z H5 λy H6=>ys.length<sizeLine/\∃w,w<m/\W (i+1) w (ys++[y]) H6 else ∃w,w<m/\W (i+1) w ys H5)
theorem Un.cellK{fs ex:List i0}(u:Un fs ex H H' h h'){v:Option gs}(x:h.IsCell c v)(n:H c=cg)(J:c∉ex):h'.IsCell c v:=by obtain⟨o,V,D⟩:=x;obtain⟨F,q⟩:=u.any V n J;exact⟨_,q,D⟩
structure xS(X:Cx)(scope:Y0)(cl:List (Str×i0))(x:Str):Prop where
 vis:Nh X.env.scope x
 nl:X.env.scope.names.lookup x≠bi .local
 cl:cl.lookup x=X.env.cells.lookup x
 kd:(relabel scope X.env).names.lookup x=bi .cell\/(relabel scope X.env).names.lookup x=bi .free
theorem kG:∀(z:List (Str×Y1)) (n:Nat) (Z:List (Str×i0)) {y:Str} {c:i0},(y,c)∈wh n z Z->(y,ZR)∈z\/(y,c)∈Z
 |[],_,_,_,_,h=>.inr h
 |(x,k)::r,n,Z,y,c,h=>by
  have h:(y,c)∈(if k==.cell then wh (n+1) r ((x,n)::Z)else wh n r Z):=h
  split at h
  .rename_i B
   rcases kG r _ _ h with q|q
   .exact .inl (aC _ q)
   .rcases aG.mp q with e|q
    .cases e
     exact .inl (by rw[ky B];exact aX)
    .exact .inr q
  .rcases kG r _ _ h with q|q
   .exact .inl (aC _ q)
   .exact .inr q
theorem jv:∀{l:List (Str×β)} {x:Str} {b:β},l.lookup x=bi b->(x,b)∈l
 |[],_,_,h=>by simp at h
 |(y,c)::r,x,b,h=>by
  rw[h_]at h
  cases O:x==y with
  |true=>rw[O]at h;have:=ky O;subst this;cases h;exact aX
  |false=>rw[O]at h;exact aC _ (jv h)
theorem jb:∀(y:List (Str×Y1)) (n:Nat) (Z:List (Str×i0)),wh n y Z=wh n y []++Z
 |[],_,_=>rfl
 |(x,k)::r,n,Z=>by
  show(if k==.cell then wh (n+1) r ((x,n)::Z)else wh n r Z)=(if k==.cell then wh (n+1) r [(x,n)]else wh n r [])++Z
  split
  .rw[jb r (n+1) ((x,n)::Z),jb r (n+1) [(x,n)],aN];rfl
  .exact jb r n Z
abbrev gb(X:Cx)(nm:List Str)(scope:Y0)(cl:List (Str×i0))(C:i0)(Y:i2)(H0:Hp)(fp:List i0):Cx:=
 { dz X nm scope cl C Y H0 fp with fn:=λy=>scope.names.lookup y==bi .cell }
theorem Ls{M:Model}{A:yy}{E:gs->i2->Prop}{z:i0}{Q:Env->i2->Prop}
  (I:∀h':pk,h'.Ns s.heap.objs.size (λx=>([]:List (Str×gs)).reverse.lookup x)->(∀b o,s.heap.get? b=bi o->h'.get? b=bi o)->CellsOk h' (s.heap.objs.size+1) (wh (s.heap.objs.size+1) scope.names []) ->
   Q (newEnv scope s.heap.objs.size z (wh (s.heap.objs.size+1) scope.names []++cl) qual cg .none (bi env) Z8) { s with heap:=h' }) :
  i1 M A (aae scope z cl [] qual cg .none (bi env)) Q E s:=by simp only[aae,Option.isSome_some,gu];refine aa (wpAny_alloc ?_);refine aa (wpAny_layCells _ (λw kind U=>by cases D:kind==ZR<;>simp[D]) _ _ _ _ ?_);have ok:=cellsFrom_ok scope.names (s.heap.push { cls:=.type "dict",data:=.dict #[] }) (s.heap.objs.size+1) [] ⟨λ_ _ y=>(nomatch y),Z4⟩ (by rw[bt];exact am _);rw[bt]at ok;rw[show({ s with heap:=s.heap.push { cls:=.type "dict",data:=.dict #[] } }:i2).heap.objs.size=s.heap.objs.size+1 from bt ..,jb _ _ cl];exact aa (ae (ae (I _ ((Heap.Ns.new s.heap (.type "dict")).keeps (k9 _ _)) (λb o e=>k9 _ _ b o (ai _ e)) ok)))
section
variable{nm:List Str}{wi:TI}{g:TG}{tc:TT}
theorem yK{prog:YW}{w:ms}{A:yy}{E:gs->i2->Prop}{l:i0}{u:gs}{Q:gs->i2->Prop}
  (e:s.heap.get? l=bi { cls:=.type "list",data:=.seq bx.toArray n }) (hz:bx.length<sizeLine)
  (h:∀(h':pk) (J G:Nat),h'.get? l=bi { cls:=.type "list",data:=.seq (bx++[u]).toArray J }->(∀b o,b≠l->s.heap.get? b=bi o->h'.get? b=bi o)->Q .none { s with heap:=h',toks:=G }) :
  i1 #[2] A (call (.builtin "list.append") [.ref l,u]) Q E s:=by
 refine jn F.slot_list_append ⟨_,e,rfl⟩ F.entry_list_append (F.args_list_append_2 _ _) (PySem.list_append l bx.toArray n u (by rw[aS];omega)) ⟨e,?_⟩;have q:=PySem.IsL.update e (λa=>a.push u);have t:(s.heap.update l (Zh λx=>x.push u)).get? l=bi { cls:=.type "list",data:=.seq (bx++[u]).toArray (if ((bx.toArray.push u).size==bx.toArray.size)=cT then n else n+1) }:=by rw[show(s.heap.update l (Zh λx=>x.push u)).get? l=_ from q];simp
 exact h _ _ s.toks t λb o U V=>(de s.heap (Zh _) (YU U)).trans V
structure Dw(X:Cx)(aj:List (i0×Obj))(H:Hp)(s:i2)(C:i0)(m:Str->Option gs):Prop where
 ns:s.heap.Ns C m
 fr:H C=cg
 nl:C≠X.env.locals
 nf:C∉X.fs
 hi:X.s₀.heap.objs.size<=C
 nc:∀x c,X.env.cells.lookup x=bi c->c≠C
 np:∀p∈X.pn++aj,p.1≠C
theorem Dw.off{C:i0}{m:Str->Option gs}(B:Dw X aj H s C m)(I:bH X aj σ H s)(O:Zy C s.heap h'):bH X aj σ H { s with heap:=h' }:=I.turned (t':=s.toks) (it:=C) (λb o U e=>O.extBut b o U e) B.fr B.nl (.inr B.hi) B.nc B.np
theorem G8{O1:List (i0×Obj)}{σ2:St}{H1:Hp}{Y:i2}{C:i0}
  (D:∀(i j:Nat),cap[i]?=bi (bi j)->∃x,nm[i]?=bi x/\X.N[j]?=bi x/\xS X scope cl x) (U:cap.length=nm.length)
  (I2:bH X aj σ H1 Y) (V9:∀b∈fp,∀x c,X.env.cells.lookup x=bi c->c≠b)
  (I:bH (gb X nm scope cl C Y H1 fp) O1 σ2 H s):bH (gb X nm scope cl C Y H1 fp) O1 (rA cap σ) H s:=by
 refine⟨I.ok,I.os,I.bare,I.base,?_,I.cell,I.free,I.freeC,I.pin,I.hok,by show(rA cap σ).length=nm.length;unfold rA;rw[ag];exact U⟩;obtain⟨m,R,_⟩:=I.loc;refine⟨m,R,λi x v d e2 W=>?_⟩;unfold rA at e2;rw[ao]at e2
 cases J:cap[i]? with
 |none=>rw[J]at e2;cases e2
 |some oj=>
  cases oj with
  |none=>rw[J]at e2;cases e2
  |some j=>
   rw[J]at e2;have w:(σ[j]?).join=bi v:=by simpa using e2
   have e2:σ[j]?=bi (bi v):=by
    cases B:σ[j]? with
    |none=>rw[B]at w;cases w
    |some L=>rw[B]at w;simp at w;rw[w]
   obtain⟨x',Z,y,k⟩:=D i j J;have O:x'=x:=by have z:nm[i]?=bi x:=d;rw[Z]at z;exact bg z
   subst O;obtain⟨t,_,V⟩:=I2.loc;obtain⟨u,r,l⟩:=V j x' v y e2 k.vis;refine⟨u,r,?_⟩;rcases l with⟨kl,_⟩|⟨_,c,F,G⟩
   .exact absurd kl k.nl
   .refine .inr ⟨k.kd,c,by rw[<- F];exact k.cl,?_⟩;exact I.base.cellK G (I2.freeC _ _ F) λz=>V9 c z _ _ F rfl
theorem Ck{Qk:VK}(kh:X.calm=cT)(B4:ZD scope X.env=pure cl)(kT:∀x c,cl.lookup x=bi c->X.env.cells.lookup x=bi c)
  (i6:scope.kind=.function) (xa:∀x∈scope.names,x.2=.local->scope.names.lookup x.1=bi .local) (YA:∀y∈scope.names,y.2=.cell->cl.lookup y.1=cg)
  (Ko:∀x,scope.names.lookup x≠bi .cell->((relabel scope X.env).names.lookup x=bi .cell\/(relabel scope X.env).names.lookup x=bi .free)->∃c,cl.lookup x=bi c)
  (uz:∀(i j:Nat),cap[i]?=bi (bi j)->∃x,nm[i]?=bi x/\X.N[j]?=bi x/\xS X scope cl x/\(x,ZR)∉scope.names) (dC:cap.length=nm.length)
  (w:PI X tg d9 wi) (hg:∀k C s0 H0 fp,PG (gb X nm scope (wh k scope.names []++cl) C s0 H0 fp) tg g) (ht:∀k C s0 H0 fp,KM (gb X nm scope (wh k scope.names []++cl) C s0 H0 fp) qx tc)
  (F:∀k C s0 H0 fp,PE (gb X nm scope (wh k scope.names []++cl) C s0 H0 fp) tM te) (B:∀x,ZB d9 X.env x=pure x)
  (I:bH X aj σ H s) (h:xR cap wi g tc te σ H Qk) (jM:∀(s4:i2) (C D:i0) (m4:Str->Option gs) (Hn:Hp),bH X aj σ Hn s4->Dw X aj Hn s4 C m4->Qk (.ref D) Hn->compPost #[3] X.A X.xe use Qv (.ref D) C (.ok .next) s4) :
  i1 #[3] X.A (comprehension (.ListComp tM [⟨tg,d9,qx,0⟩] scope pos) scope X.env (firstIterPos [⟨tg,d9,qx,0⟩] pos) (newList []) (firstAsync [⟨tg,d9,qx,0⟩]) (firstIter [⟨tg,d9,qx,0⟩] X.env) use) Qv X.xe s:=by
 refine wpAny_comprehension_free (use:=use) rfl B B4 i6 xa (ii (w aj s σ H _ I h) λv s1 Z=>ii Z λXI s2 Y=>?_);obtain⟨it,fp,tn,J,H1,e,I2,T,L,f2,W,⟨m0,w0⟩,turn⟩:=Y;subst e;have hfpn:∀b∈fp,b<s2.heap.objs.size:=λb U=>let ⟨o,ho,_⟩:=T.obj _ _ L b U;aB ho;have hfpc:∀b∈fp,∀x c,X.env.cells.lookup x=bi c->c≠b:=λb U=>(f2 b U).2.2.2.2.1;refine bT (Ls (λh₁ hns₁ hsb₁ cok=>?_));dsimp only at hns₁ hsb₁ cok ⊢;generalize hH2:s2.heap.push { cls:=.type "list",dict:=cg,data:=.seq ([]:List gs).toArray }=G2 at hns₁ hsb₁ cok ⊢;have hC:G2.objs.size=s2.heap.objs.size+1:=by rw[<- hH2,bt]
 have hDC:s2.heap.objs.size≠G2.objs.size:=by rw[hC];exact aJ (fz _)
 have old:∀b o,s2.heap.get? b=bi o->h₁.get? b=bi o:=λb o e=>hsb₁ b o (hH2▸ai _ e);have hacc:h₁.get? s2.heap.objs.size=bi { cls:=.type "list",data:=.seq ([]:List gs).toArray }:=hsb₁ _ _ (hH2▸av _ rfl);have both:∀y c,(wh (G2.objs.size+1) scope.names []++cl).lookup y=bi c->(wh (G2.objs.size+1) scope.names []).lookup y=bi c\/cl.lookup y=bi c:=λy c e=>by
  rw[dQ]at e
  cases h:(wh (G2.objs.size+1) scope.names []).lookup y with
  |none=>rw[h]at e;exact .inr e
  |some b=>rw[h]at e;exact .inl e
 have ownhi:∀y c,(wh (G2.objs.size+1) scope.names []).lookup y=bi c->h₁.IsCell c cg/\G2.objs.size+1<=c:=λy c e=>cok.empty y c (PySem.mem_of_lookup e);have cllow:∀y c,cl.lookup y=bi c->c<s2.heap.objs.size:=λy c e=>by obtain⟨v,hv⟩:=I2.cell y c (kT _ _ e);exact hv.lt
 have hcap0:=uz;have uz:∀(i j:Nat),cap[i]?=bi (bi j)->∃x,nm[i]?=bi x/\X.N[j]?=bi x/\xS X scope (wh (G2.objs.size+1) scope.names []++cl) x:=λi j e=>by
  obtain⟨x,q1,q2,k,q3⟩:=hcap0 i j e;refine⟨x,q1,q2,k.vis,k.nl,?_,k.kd⟩;rw[dQ]
  cases h:(wh (G2.objs.size+1) scope.names []).lookup x with
  |none=>exact k.cl
  |some c=>
   rcases kG _ _ _ (PySem.mem_of_lookup h)with z|z
   .exact absurd z q3
   .cases z
 have okB:#[4].Ok:=by
  refine⟨I2.ok.mod,i6,I2.ok.glob,I2.ok.blt,by show s2.heap.objs.size<=G2.objs.size;omega,λx y c Z Y=>?_,λx O=>?_,λx c h0 R=>?_,λR=>I2.ok.hd kh,I2.ok.frames,.inl rfl,?_,?_,?_,?_,?_,?_,?_⟩
  .rcases both x c Z with q1|q1<;>rcases both y c Y with q2|q2
   .exact tQ cok.apart (PySem.mem_of_lookup q1) (PySem.mem_of_lookup q2)
   .exact absurd (cllow y c q2) (iq.mpr (aT #[0] (ownhi x c q1).2))
   .exact absurd (cllow x c q1) (iq.mpr (aT #[0] (ownhi y c q2).2))
   .exact I2.ok.inj x y c (kT _ _ q1) (kT _ _ q2)
  .show ∃c,(wh (G2.objs.size+1) scope.names []++cl).lookup x=bi c;rw[dQ]
   by_cases hq:scope.names.lookup x=bi .cell
   .obtain⟨c,e⟩:=iA (n:=G2.objs.size+1) hq;exact⟨c,by rw[e];rfl⟩
   .obtain⟨c,e⟩:=Ko x hq O
    cases h:(wh (G2.objs.size+1) scope.names []).lookup x with
    |none=>exact⟨c,e⟩
    |some b=>exact⟨b,rfl⟩
  .have hq:scope.names.lookup x=bi .cell:=by simpa using h0
   obtain⟨b,e⟩:=iA (n:=G2.objs.size+1) hq;have R:(wh (G2.objs.size+1) scope.names []++cl).lookup x=bi c:=R;rw[dQ,e]at R
   cases R
   have:=(ownhi x _ e).2;show s2.heap.objs.size<=_;omega
  .intro b U;exact⟨aJ (aR (hfpn b U) (by show _<=G2.objs.size;omega)),λx c O=>(both x c O).elim (λq=>eM (aR (hfpn b U) (aT #[0] (ownhi x c q).2))) λq=>hfpc b U x c (kT _ _ q)⟩
  .exact λb o U=>I2.bs b o U
  .exact aT I2.ok.bsz I2.sz
  .intro b o U z;rcases(f2 b z).2.2.2.1 with q|q
   .exact I2.ok.noex b o U q
   .exact absurd (aB (I2.ok.bs b o U).1) (iq.mpr q)
  .intro b U z;rcases aG.mp (I2.stkSub b z)with q|q
   .exact(f2 b U).2.1 q
   .exact(f2 b U).2.2.1 q
  .exact I2.stack
  .exact I2.stkFree
 have I4:bH #[4] [] (rA cap σ) H1 { s2 with heap:=h₁ }:=by
  refine G8 uz dC I2 hfpc (σ2:=pw nm.length cg) ⟨okB,rfl,I2.bare,Un.kept old,⟨_,hns₁,λi x v _ e2=>?_⟩,λx c O=>?_,?_,λx c O=>(both x c O).elim (λq=>I2.hok.fresh (by have:=(ownhi x c q).2;omega)) λq=>I2.freeC x c (kT _ _ q),λp G=>absurd G #[5],I2.hok.kept old,by simp⟩
  .rw[cX]at e2;split at e2<;>cases e2
  .rcases both x c O with q|q
   .exact⟨cg,(ownhi x c q).1⟩
   .obtain⟨v,hv⟩:=I2.cell x c (kT _ _ q);exact⟨v,hv.keeps old⟩
  .exact I2.hok.fresh (by show _<=G2.objs.size;omega)
 have hsz0:∀{Hx:Hp} {sx:i2} {px:List (i0×Obj)} {σx:St},bH #[4] px σx Hx sx->Hx s2.heap.objs.size=cg->∀{oa:Obj},sx.heap.get? s2.heap.objs.size=bi oa->(∀v,oa.data≠.cell v) ->
   bH #[4] [(s2.heap.objs.size,oa)] σx Hx sx:=λ{Hx sx px σx} Ix hn {oa} ho hd=>Ix.pins_of λp G=>by
  have e:p=(s2.heap.objs.size,oa):=by simpa using G
  subst e;exact⟨ho,hn,hDC,λz=>by obtain⟨_,o,q,_⟩:=I2.stack.mem z;exact absurd (aB q) (bX _),hd⟩
 have hfpB:∀{Hx:Hp} {oa:Obj},(∀b∈fp,Hx b=cg)->∀b∈fp,xk #[4] [(s2.heap.objs.size,oa)] Hx b:=λ{Hx oa} hn b U=>
  ⟨hn b U,(okB.exf b U).1,okB.exfs b U,.inl U,(okB.exf b U).2,λp G=>by
   have e:p=(s2.heap.objs.size,oa):=by simpa using G
   subst e;exact eM (hfpn b U)⟩
 have hcalmB:#[4].calm=cT:=kh;have loop:∀sx:i2,sx={ s2 with heap:=h₁ } ->
   ZC #[3] X.A (.compLoop (.ListComp tM [⟨tg,d9,qx,0⟩] scope pos) 0 (.ref it) (.ref s2.heap.objs.size) (compEnvC scope (wh (G2.objs.size+1) scope.names []++cl) G2.objs.size X.env))
    (compPost #[3] X.A X.xe use Qv (.ref s2.heap.objs.size) G2.objs.size) sx:=by
  rintro sx rfl;refine codeAny_loop rfl (λn s'=>∃i ys H',bH #[4] [] (rA cap σ) H' s'/\tn i s'.heap/\(∀b∈fp,H' b=cg)/\H' s2.heap.objs.size=cg /\
   (∃bx k,cR ys bx/\s'.heap.get? s2.heap.objs.size=bi { cls:=.type "list",data:=.seq bx.toArray k })/\W i n ys H') ?_ m0
   ⟨0,[],H1,I4,T.keep _ _ _ L (λb _ o e=>old b o e),λb U=>(f2 b U).1,I2.fresh,⟨[],0,.nil,hacc⟩,w0⟩
  rintro n s3 ⟨i,ys,H3,I3,fP,fr3,na3,⟨bx,ka,rv,ea⟩,w3⟩;show i1 _ X.A ((compTurn (.ListComp tM [⟨tg,d9,qx,0⟩] scope pos) 0 (.ref it) (.ref s2.heap.objs.size) (compEnvC scope (wh (G2.objs.size+1) scope.names []++cl) G2.objs.size X.env)).onRaise (λx=>do noteFrame x (compEnvC scope (wh (G2.objs.size+1) scope.names []++cl) G2.objs.size X.env);theTreesLotGoes x)) _ _ s3;refine wpAny_noted ?_;rw[compTurn_list];refine aa (wpAny_standAt ?_);have I3p:=hsz0 I3 na3 ea (λv z=>by cases z);rcases turn i n ys H3 w3 with⟨stop,hz,qn⟩|⟨go,step⟩
  .refine aa (eL (T.done #[4] rfl rfl rfl hcalmB i _ s3 _ H3 (λ_ _=>False) I3p (hfpB fr3) fP stop) (λr s4 t=>?_) λ_ _ z=>z.elim);obtain⟨t,I4'⟩:=t;subst t;refine ae ?_;obtain⟨m4,hn4,_⟩:=id I4'.loc;have pa:=I4'.pin (s2.heap.objs.size,{ cls:=.type "list",data:=.seq bx.toArray ka }) #[5];have ne:∀b o,s2.heap.get? b=bi o->b≠s2.heap.objs.size/\b≠G2.objs.size:=λb o e=>⟨aJ (aB e),aJ (by rw[hC];exact c9 (aB e))⟩
   have I5:bH X aj σ (fF H3 s2.heap.objs.size (.lst ys)) s4:=by
    refine I2.call' (ch:=fp) I4'.os ⟨λb o e n U O=>?_,λb o e n U O=>?_,λb o e n O=>?_,λb o e O=>?_,λb xs e=>?_,λb o u e=>?_,λb ps e=>?_⟩ ?_ I4'.bare λb U=>?_
    .exact I4'.base.keep b o e n U O
    .exact I4'.base.slot b o e n U O
    .rw[cA (ne b o e).1];exact I4'.base.free b o e n O
    .exact I4'.base.there b o e O
    .have q:=I4'.base.tups b xs e;rw[cA (gj q na3)];exact q
    .have q:=I4'.base.frzs b o u e;rw[cA (gj q na3)];exact q
    .obtain⟨mr,q⟩:=I4'.base.tbls b ps e;exact⟨mr,by rw[cA (gj q na3)];exact q⟩
    .intro b o e
     by_cases U:b=s2.heap.objs.size
     .subst U;rw[dr]at e;cases e
      exact⟨hz,bx,ka,rv,pa.1⟩
     .rw[cA U]at e;exact(I4'.hok b o e).stay (λc u R q=>q) (λc q=>by rw[cA (gj q na3)];exact q) λc xs q=>by rw[cA (gj q na3)];exact q
    .obtain⟨_,g1,_,g3,g4,g5⟩:=f2 b U;exact⟨g3,g1,g4,g5⟩
   have lC:s2.heap.objs.size<=G2.objs.size:=by rw[hC];exact iS _
   exact jM s4 G2.objs.size _ m4 _ I5 ⟨hn4,by rw[cA (YU hDC)];exact I4'.free,eM (aR I2.lt lC),I2.nofs lC,aT I2.sz lC,λx c O z=>(by
    obtain⟨v,o,ho,_⟩:=I2.cell x c O;exact absurd (aB ho) (by rw[z];exact iq.mpr lC)),λp G z=>(by
    have:=(I2.pin p G).1;exact absurd (aB this) (by rw[z];exact iq.mpr lC))⟩ (qn _ na3)
  .refine aa (eL (T.item #[4] rfl rfl rfl hcalmB i _ s3 _ H3 (λ_ _=>False) I3p (hfpB fr3) fP go) (λr s4 t=>?_) λ_ _ z=>z.elim);obtain⟨u,t,h4⟩:=t;subst t;dsimp only;refine aa (eL h4 (λ_ s5 h5=>?_) λ_ _ z=>z.elim);obtain⟨x,H5,I5,r5,y5,u8,fr5⟩:=h5;have I5':=I5.pinned (hfpB fr5) (T.obj _ _ u8);refine aa (eL (hg _ _ _ _ _ _ s5 _ H5 x u _ I5' r5 (step x H5 y5)) (λ_ s6 h6=>?_) λ_ _ z=>z.elim);obtain⟨σ6,H6,I6,q6⟩:=h6;refine aa (eL (ht _ _ _ _ _ _ s6 σ6 H6 _ I6 q6) (λok s7 h7=>?_) λ_ _ z=>z.elim);obtain⟨H7,I7,q7⟩:=h7;have back:∀{H8:Hp} {s8:i2} {To:List V} {its':List gs} {k':Nat},bH #[4] [] σ6 H8 s8->(∀b∈fp,∀o,s5.heap.get? b=bi o->s8.heap.get? b=bi o)->(∀b∈fp,H8 b=cg)->H8 s2.heap.objs.size=cg ->
     cR To its'->s8.heap.get? s2.heap.objs.size=bi { cls:=.type "list",data:=.seq its'.toArray k' }->(∃m',m'<n/\W (i+1) m' To H8) ->
     ∃m,m<n/\∃i ys H',bH #[4] [] (rA cap σ) H' s8/\tn i s8.heap/\(∀b∈fp,H' b=cg)/\H' s2.heap.objs.size=cg /\
      (∃bx k,cR ys bx/\s8.heap.get? s2.heap.objs.size=bi { cls:=.type "list",data:=.seq bx.toArray k })/\W i m ys H':=
    λ{H8 s8 To its' k'} I8 kf f8 n8 rv8 e8 ⟨m',hm,w8⟩=>⟨m',hm,i+1,To,H8,G8 uz dC I2 hfpc I8,T.keep _ _ _ u8 kf,f8,n8,⟨its',k',rv8,e8⟩,w8⟩
   cases ok with
   |false=>
    refine ae ⟨rfl,?_⟩;have q7':∃m',m'<n/\W (i+1) m' ys H7:=by simpa using q7
    have pa:=I7.pin (s2.heap.objs.size,{ cls:=.type "list",data:=.seq bx.toArray ka }) #[5];refine back (I7.pins_of λp G=>absurd G #[5]) (λb U o e=>?_) (λb U=>?_) pa.2.1 rv pa.1 q7'
    .exact(I7.pin (b,o) (bn _ (bn _ (ko U e)))).1
    .obtain⟨o,e,d⟩:=T.obj _ _ u8 b U;exact(I7.pin (b,o) (bn _ (bn _ (ko U e)))).2.1
   |true=>
    rw[ax rfl]at q7;refine aa (aa (eL (F _ _ _ _ _ _ s7 σ6 H7 _ I7 q7) (λxv s8 h8=>?_) λ_ _ z=>z.elim));obtain⟨y,H8,I8,r8,hzy,q8⟩:=h8;have pa:=I8.pin (s2.heap.objs.size,{ cls:=.type "list",data:=.seq bx.toArray ka }) #[5];refine aa (yK pa.1 (by rw[<- rv.length];exact hzy) λh' k' tk e9 sb=>?_);refine ae (ae ⟨rfl,?_⟩);have I9:bH #[4] [] σ6 H8 { s8 with heap:=h',toks:=tk }:=
     (bH.pins_of (pins':=[]) I8 λp G=>absurd G #[5]).turned (it:=s2.heap.objs.size) (λb o U e=>sb b o U e) pa.2.1 hDC (.inr (am _)) (λx c O z=>by
      rcases both x c O with q|q
      .exact iq.mpr (ownhi x c q).2 (by rw[z];omega)
      .exact bX _ (by have:=cllow x c q;rw[z]at this;exact this)) (λp G=>absurd G #[5])
    refine back I9 (λb U o e=>?_) (λb U=>?_) pa.2.1 (rv.append (.cons r8 .nil)) e9 q8
    .exact sb b o (aJ (hfpn b U)) (I8.pin (b,o) (bn _ (bn _ (ko U e)))).1
    .obtain⟨o,e,d⟩:=T.obj _ _ u8 b U;exact(I8.pin (b,o) (bn _ (bn _ (ko U e)))).2.1
 exact codeAny_compStart_list (loop _ rfl) (T.self _ _ _ _ _ (T.keep _ _ _ L λb _ o e=>old b o e) (loop _ rfl))
theorem sD:∀(z:List (Str×Y1)) (n:Nat),(∀y∈z,y.2≠.cell)->wh n z []=[]
 |[],_,_=>rfl
 |(x,k)::r,n,h=>by
  show(if k==.cell then wh (n+1) r [(x,n)]else wh n r [])=[]
  rw[aF (by have:=h (x,k) #[5];simpa using this)];exact sD r n λy Z=>h y (by simp[Z])
theorem Fh{Qk:VK}(R:X.calm=cT)(B4:ZD scope X.env=pure cl)(W:∀x c,cl.lookup x=bi c->X.env.cells.lookup x=bi c)
  (F:scope.kind=.function) (xa:∀x∈scope.names,x.2=.local->scope.names.lookup x.1=bi .local) (G:∀y∈scope.names,y.2≠.cell)
  (Ko:∀x,((relabel scope X.env).names.lookup x=bi .cell\/(relabel scope X.env).names.lookup x=bi .free)->∃c,cl.lookup x=bi c)
  (uz:∀(i j:Nat),cap[i]?=bi (bi j)->∃x,nm[i]?=bi x/\X.N[j]?=bi x/\xS X scope cl x) (U:cap.length=nm.length)
  (w:PI X tg d9 wi) (L:∀C Y H0 fp,PG (dz X nm scope cl C Y H0 fp) tg g) (B:∀C Y H0 fp,KM (dz X nm scope cl C Y H0 fp) qx tc)
  (J:∀C Y H0 fp,PE (dz X nm scope cl C Y H0 fp) tM te) (O:∀x,ZB d9 X.env x=pure x)
  (I:bH X aj σ H s) (h:xR cap wi g tc te σ H Qk) (t:∀(V:i2) (C D:i0) (m4:Str->Option gs) (Hn:Hp),bH X aj σ Hn V->Dw X aj Hn V C m4->Qk (.ref D) Hn->compPost #[3] X.A X.xe use Qv (.ref D) C (.ok .next) V) :
  i1 #[3] X.A (comprehension (.ListComp tM [⟨tg,d9,qx,0⟩] scope pos) scope X.env (firstIterPos [⟨tg,d9,qx,0⟩] pos) (newList []) (firstAsync [⟨tg,d9,qx,0⟩]) (firstIter [⟨tg,d9,qx,0⟩] X.env) use) Qv X.xe s:=by
 have nc:∀k,wh k scope.names []++cl=cl:=λk=>by rw[sD _ _ G];rfl
 have nx:∀C Y H0 fp,gb X nm scope cl C Y H0 fp=dz X nm scope cl C Y H0 fp:=λC Y H0 fp=>by
  have:(λy=>scope.names.lookup y==bi .cell)=λ_=>dw:=funext λy=>by rw[dk];exact λe=>G _ (jv e) rfl
  unfold gb dz;rw[this]
 exact Ck R B4 W F xa (λy Z h=>absurd h (G y Z)) (λx _ h=>Ko x h) (λi j h=>let ⟨x,a,b,d⟩:=uz i j h;⟨x,a,b,d,λz=>G _ z rfl⟩) U w
  (λk C Y H0 fp=>by rw[nc,nx];exact L C Y H0 fp) (λk C Y H0 fp=>by rw[nc,nx];exact B C Y H0 fp) (λk C Y H0 fp=>by rw[nc,nx];exact J C Y H0 fp) O I h t
theorem Dx(kh:X.calm=cT)(B4:ZD scope X.env=pure cl)(t:∀x c,cl.lookup x=bi c->X.env.cells.lookup x=bi c)
  (F:scope.kind=.function) (xa:∀x∈scope.names,x.2=.local->scope.names.lookup x.1=bi .local) (G:∀y∈scope.names,y.2≠.cell)
  (Ko:∀x,((relabel scope X.env).names.lookup x=bi .cell\/(relabel scope X.env).names.lookup x=bi .free)->∃c,cl.lookup x=bi c)
  (uz:∀(i j:Nat),cap[i]?=bi (bi j)->∃x,nm[i]?=bi x/\X.N[j]?=bi x/\xS X scope cl x) (U:cap.length=nm.length)
  (w:PI X tg d9 wi) (d:∀C Y H0 fp,PG (dz X nm scope cl C Y H0 fp) tg g) (Z:∀C Y H0 fp,KM (dz X nm scope cl C Y H0 fp) qx tc)
  (J:∀C Y H0 fp,PE (dz X nm scope cl C Y H0 fp) tM te) (O:∀x,ZB d9 X.env x=pure x:=by intro _;rfl) :
  PE X (.ListComp tM [⟨tg,d9,qx,0⟩] scope pos) (xR cap wi g tc te):=by intro W s z H Q I h;rw[eval_ListComp];exact Fh kh B4 t F xa G Ko uz U w d Z J O I h λV C D m4 Hn I4 B q=>⟨m4,B.ns,λL R=>⟨.ref D,Hn,B.off I4 R,rfl,q⟩⟩
end
noncomputable def tx(l:List Nat):Str:=⟨l.toArray⟩
theorem Qd(l:List Nat):(tx l).cps.toList=l:=rfl
theorem kU(l:List Nat):(tx l).length=l.length:=by show l.toArray.size=_;simp
theorem Cm(a b:List Nat):tx a++tx b=tx (a++b):=by
 show(⟨a.toArray++b.toArray⟩:Str)=⟨(a++b).toArray⟩
 simp
theorem Qe{a b:List Nat}:tx a=tx b↔a=b:=⟨λh=>by have:=cP (λz:Str=>z.cps.toList) h;exact this,λh=>by rw[h]⟩
noncomputable def Xg(D:List V):It:=⟨λi _=>i<D.length,λi H x H'=>H'=H/\D[i]?=bi x,λi _=>D.length<=i⟩
theorem Cn{w:ms}{oY:List V}{Pr:Nat->gs->Prop}{S:Nat->pk->Prop}{ty:String}
  (W:∀A:yy,A.handled=cg->Walks P w A it [it] [it] oY.length Pr S) (F:∀i v,i<oY.length->Pr i v->∃x,oY[i]?=bi x/\cN x v)
  (Dk:∀i h,S i h->∃o vs,h.get? it=bi o/\o.cls=.type ty/\o.data=.fields vs)
  (GD:["enumerate","zip","dict_itemiterator","dict_reverseitemiterator","odict_iterator","itertools.zip_longest","itertools.pairwise"].contains ty=dw)
  (KD:∀(A:yy) (i:Nat) (s:i2) (Q:gs->i2->Prop) (E:gs->i2->Prop),S i s.heap->Q (.ref it) s->i1 (model P w) A (Zq (.ref it)) Q E s) :
  Ap P w K tg (Xg oY) [it] it (λi h=>i<=oY.length/\S i h) where
 mem:=by simp
 obj:=λi h Y b U=>by
  have e:b=it:=by simpa using U
  subst e;obtain⟨o,vs,e,c,d⟩:=Dk i h Y.2;exact⟨o,e,λv z=>by rw[d]at z;cases z⟩
 keep:=λi h h' Y k=>⟨Y.1,(W { depth:=0,handled:=cg,frames:=cg } rfl).frame i h h' Y.2 k⟩
 item:=by intro X hP y hK J i Z s B H E I t Y L;subst hP y hK;obtain⟨f0,f1,f2,f3,f4,f5⟩:=t it #[5];refine(W X.A (I.ok.hd J)).item i s _ _ L Y.2 λv h' tk G D kk=>?_;have I1:bH X Z B H { s with heap:=h',toks:=tk }:=I.turned (λb o U e=>kk b o (by simpa using U) e) f0 f1 f3 f4 f5;obtain⟨x,O,R⟩:=F i v L G;obtain⟨o,vs,e,c,d⟩:=Dk _ _ D;exact⟨v,rfl,Aq (s:={ s with heap:=h',toks:=tk }) e c d GD ⟨x,H,I1,R,⟨rfl,O⟩,⟨L,D⟩,λb U=>(t b U).1⟩⟩
 done:=by intro X hP y hK J i Z s B H E I t Y L;subst hP y hK;obtain⟨f0,f1,f2,f3,f4,f5⟩:=t it #[5];have e:i=oY.length:=Nat.le_antisymm Y.1 L;refine(W X.A (I.ok.hd J)).done s _ _ (e▸Y.2) λh' tk kk=>⟨rfl,I.turned (λb o U e=>kk b o (by simpa using U) e) f0 f1 f3 f4 f5⟩
 self:=λA i s Q E Y h=>KD A i s Q E Y.2 h
section
def kq(l:List Nat):List V:=l.map λc=>.str (tx [c])
def Xh(t:TE):TI:=λσ H R=>t σ H λx H1=>∃l,x=.str (tx l)/\R (Xg (kq l)) H1
theorem Fi(i:Nat)(v:gs)(D:i<(kq l).length)(h:SignAt (tx l) i v):∃x,(kq l)[i]?=bi x/\cN x v:=by
 obtain⟨c,u,J,e⟩:=h;refine⟨.str (tx [c]),?_,u,e⟩;unfold kq;rw[ao];have:l[i]?=bi c:=by simpa[tx]using J
 rw[this];rfl
theorem Qf{l:i9}{tl:TE}(z:PE X l tl):PI X tg l (Xh tl):=by
 intro O s B H R I h;refine ii (z O s B H _ I h) λv d F=>?_;obtain⟨x,H1,I1,L,J⟩:=F;obtain⟨l,e,q⟩:=J;subst e;obtain⟨t,rfl⟩:=L;have w:(tx l).cps.size=(kq l).length:=by unfold kq;simp[tx]
 have jM:∀(ob:Obj) (S:Nat->pk->Prop) (ty:String),(∀A:yy,A.handled=cg->Walks X.prog X.w A d.heap.objs.size [d.heap.objs.size] [d.heap.objs.size] (tx l).cps.size (SignAt (tx l)) S)->S 0 (d.heap.push ob) ->
   (∀i h,S i h->∃o y,h.get? d.heap.objs.size=bi o/\o.cls=.type ty/\o.data=.fields y) ->
   ["enumerate","zip","dict_itemiterator","dict_reverseitemiterator","odict_iterator","itertools.zip_longest","itertools.pairwise"].contains ty=dw ->
   (∀(A:yy) (i:Nat) (s:i2) (Q:gs->i2->Prop) (E:gs->i2->Prop),S i s.heap->Q (.ref d.heap.objs.size) s->i1 #[3] A (Zq (.ref d.heap.objs.size)) Q E s) ->
   Wu X O B tg R (.ref d.heap.objs.size) { d with heap:=d.heap.push ob }:=λob S ty W Z Dk GD KD=>by
  rw[w]at W;refine⟨d.heap.objs.size,[d.heap.objs.size],_,_,H1,rfl,I1.kept (t':=d.toks) λb o e=>ai _ e,Cn W (λi v D G=>Fi i v D G) Dk GD KD,⟨dy _,Z⟩,λb U=>?_,q⟩;have e:b=d.heap.objs.size:=by simpa using U
  subst e;exact I1.fpOk (am _) I1.fresh
 cases V:(tx l).cps.all (· < 128)
 .exact wpAny_pyIter_wide V (jM _ _ _ (λA hA=>Walks.strWide hA _ (tx l) t) ⟨_,av _ rfl,rfl,rfl⟩ (λi h Y=>by obtain⟨o,a,b,c⟩:=Y;exact⟨o,_,a,b,c⟩) #[1] λA i s Q E Y h=>wpAny_pyIter_striter_wide Y h)
 .exact wpAny_pyIter_ascii V (jM _ _ _ (λA hA=>Walks.strAscii hA _ (tx l) t) ⟨_,av _ rfl,rfl,rfl⟩ (λi h Y=>by obtain⟨o,a,b,c⟩:=Y;exact⟨o,_,a,b,c⟩) #[1] λA i s Q E Y h=>wpAny_pyIter_striter_ascii Y h)
noncomputable def Fj(l:List Nat)(lo D:Option Int):List Nat:=(l.drop (HT.sIx l.length 0 lo)).take (HT.sIx l.length l.length D-HT.sIx l.length 0 lo)
theorem Au(l:List Nat)(lo D:Option Int):(Fj l lo D).length<=l.length:=by unfold Fj;rw[a_,dA];omega
theorem Co(l:List Nat)(i k:Nat):((vr k).map λ(m:Nat)=>i+m).filterMap (λj=>l[j]?)=(l.drop i).take k:=by
 induction k generalizing i with
 |zero=>simp
 |succ k U=>
  rw[pb,aK,aU];have e:((λm=>i+m)∘Nat.succ)=λm=>(i+1)+m:=by funext m;simp[Function.comp];omega
  rw[e]
  by_cases h:i<l.length
  .rw[gZ];simp only[iu,ar h];rw[U (i+1),gz h,List.take_succ_cons]
  .rw[gZ];have w:l.length<=i:=by omega
   simp only[iu,cQ w];rw[U (i+1),pd w,pd #[0]];simp
theorem Nm(v:Int)(n d:Nat):(if (1:Int)>0 then max 0 (min (if v<0 then v+(n:Int)else v) (n:Int))else max (-1) (min (if v<0 then v+(n:Int)else v) ((n:Int)-1)))=((HT.sIx n d (bi v):Nat):Int):=by
 rw[ax #[0]];show _=(((if v<0 then(v+(n:Int)).toNat else min v.toNat n):Nat):Int)
 by_cases W:v<0
 .simp only[ax W];omega
 .simp only[aF W];omega
theorem Qg(lo D:Option Int)(n:Nat):aaa lo D 1 n=(vr (HT.sIx n n D-HT.sIx n 0 lo)).map λ(m:Nat)=>HT.sIx n 0 lo+m:=by
 have key:∀a b:Nat,sliceRange (a:Int) (b:Int) 1=(vr (b-a)).map λ(m:Nat)=>a+m:=λa b=>by
  unfold sliceRange;have e:(if (1:Int)>0 then(if (a:Int)<(b:Int)then((b:Int)-a+1-1)/1 else 0)else(if (a:Int)>b then((a:Int)-b-1-1)/(-1)else 0)).toNat=b-a:=by
   rw[ax #[0]]
   by_cases h:(a:Int)<b
   .rw[ax h];omega
   .rw[aF h];omega
  dsimp only;rw[e];refine bW λk _=>?_;omega
 unfold aaa;rw[<- key];dsimp only
 congr 1
 .cases lo with
  |none=>rfl
  |some v=>exact Nm v n 0
 .cases D with
  |none=>rfl
  |some v=>exact Nm v n n
theorem G9(l:List Nat)(lo D:Option Int):Txt.slice (tx l) lo D=tx (Fj l lo D):=by
 unfold Txt.slice;rw[Qg,kU]
 split
 .rename_i h
  simp only[n_,Bool.true_and,jo,ag,eQ]at h;unfold Fj;have Z:=HT.sIx_le l.length l.length (am _) D;have Y:=HT.sIx_le l.length 0 (dy _) lo
  by_cases V:l.length=0
  .have:l=[]:=fW V;subst this;simp
  .have t:HT.sIx l.length 0 lo=0:=by omega
   rw[t,List.drop_zero,iw #[0]]
 .unfold Fj tx;have:∀j:Nat,(l.toArray)[j]?=l[j]?:=λj=>by simp
  simp only[this];rw[Co]
def Xi:V->Option Int->Option Int->Hp->VK->Prop:=λx J D H Q=>∃l,x=.str (tx l)/\l.length<=sizeLine/\Q (.str (tx (Fj l J D))) H
theorem Dy{o:Option Int}(p:Zx v o):∃q:Option (Int×Tok),v=partValue q/\q.map (·.1)=o:=by
 cases p with
 |none=>exact⟨cg,rfl,rfl⟩
 |int i t=>exact⟨bi (i,t),rfl,rfl⟩
theorem Qh:TY X Xi:=by
 intro W s B H x v d U J D z Q I R O G y h;obtain⟨l,e,V,q⟩:=h;subst e;obtain⟨t,rfl⟩:=R;obtain⟨w,rfl,rfl⟩:=Dy G;obtain⟨Z,rfl,rfl⟩:=Dy y;refine⟨"str",_,F.slot_str_getitem.lookup,sk _ _ _,?_⟩;refine wpAny_getItem_str_slice (l:=w) (u:=Z) (st:=cg) O rfl (post_val_or_str ?_);have e:=G9 l (w.map (·.1)) (Z.map (·.1));unfold Txt.slice at e;show(if ((1:Int)==1&&(aaa (w.map (·.1)) (Z.map (·.1)) 1 (tx l).length).length==(tx l).length)=cT then tx l else⟨((aaa (w.map (·.1)) (Z.map (·.1)) 1 (tx l).length).filterMap ((tx l).cps[·]?)).toArray⟩:Str).length<=sizeLine /\
  ∀Y k,EP X W B Q (.str (if ((1:Int)==1&&(aaa (w.map (·.1)) (Z.map (·.1)) 1 (tx l).length).length==(tx l).length)=cT then tx l else⟨((aaa (w.map (·.1)) (Z.map (·.1)) 1 (tx l).length).filterMap ((tx l).cps[·]?)).toArray⟩:Str) Y) { s with toks:=k }
 rw[e,kU];exact⟨aT (Au l _ _) V,λY k=>⟨.str _,H,I.tok k,⟨Y,rfl⟩,q⟩⟩
theorem G_(c:Nat)(l:List Nat):(!(aak (tx l) (tx [c]) 0 (tx l).length 1).isEmpty)=decide (c∈l):=StrLaws.found_one (tx l) c
def Ua(Ak:Bool):R2:=λx y H Q=>∃c l,x=.str (tx [c])/\y=.str (tx l)/\Q (.bl (if Ak then !decide (c∈l)else decide (c∈l))) H
theorem Fk:nr X (YS .In) (Ua dw):=by intro W s B H x y v u Q I R w h;obtain⟨c,l,rfl,rfl,q⟩:=h;exact E9 W s B H _ _ v u Q I R w ⟨_,_,rfl,rfl,by rw[G_];exact q⟩
theorem yL:nr X (YS .NotIn) (Ua cT):=by intro W s B H x y v u Q I R w h;obtain⟨c,l,rfl,rfl,q⟩:=h;exact yD W s B H _ _ v u Q I R w ⟨_,_,rfl,rfl,by rw[G_];exact q⟩
theorem Fm:nr X (YS .LtE) (λx y H Q=>∃c d,x=.str (tx [c])/\y=.str (tx [d])/\Q (.bl (decide (c<=d))) H):=by
 intro W s B H x y v u Q I R w h;obtain⟨c,d,rfl,rfl,q⟩:=h;obtain⟨t,rfl⟩:=R;obtain⟨Y,rfl⟩:=w;refine PySem.P.le_str ⟨.bl _,H,I,?_,q⟩;show ZP _=ZP _
 congr 1
 show(!decide ([d]<[c]))=decide (c<=d)
 by_cases U:c<=d
 .rw[bb U,aQ];rfl;intro z
  cases z with
  |rel z=>omega
  |cons z=>cases z
 .rw[aQ U,bb];rfl;exact .rel #[0]
theorem rS:∀{ys:List (List Nat)} {bx:List gs},cR (ys.map λl=>V.str (tx l)) bx->StrsAre bx (ys.map tx)
 |[],_,r=>by cases r;exact .nil
 |y::ys,_,r=>by
  cases r with
  |cons r L=>
   obtain⟨t,rfl⟩:=r;exact .cons _ _ (rS L)
theorem oH:∀{bx:List gs} {w:List Str},StrsAre bx w->cR (w.map λz=>V.str z) bx
 |_,_,.nil=>.nil
 |_,_,.cons y t r=>.cons ⟨t,rfl⟩ (oH r)
noncomputable def qf(sep:List Nat):List (List Nat)->List Nat
 |[]=>[]
 |[x]=>x
 |x::y::r=>x++sep++qf sep (y::r)
theorem nN:∀ys:List (List Nat),qf [] ys=ys.flatten
 |[]=>rfl
 |[x]=>by simp[qf]
 |x::y::r=>by rw[qf,nN (y::r)];simp
theorem Lu(sep:List Nat):∀ys:List (List Nat),Txt.join (tx sep) (ys.map tx)=tx (qf sep ys):=λys=>by
 show Builtin.Str.glued (tx sep) (ys.map tx)=_;rw[StrLaws.glued_eq_join]
 induction ys with
 |nil=>rfl
 |cons x r U=>
  cases r with
  |nil=>rfl
  |cons y r=>
   show tx x++tx sep++Str.join (tx sep) ((y::r).map tx)=tx (x++sep++qf sep (y::r));rw[U,Cm,Cm]
def Ub(K:uR):V->List V->Hp->VK->Prop:=λx vs H Q=>∃(w:List Nat) (a:i0) (ys:List (List Nat)),x=.str (tx w)/\vs=[.ref a]/\sw K H a (ys.map λl=>V.str (tx l))/\(ys.map Y8).sum+ys.length*w.length<=16777216/\Q (.str (tx (qf w ys))) H
theorem Lv:KL X "str.join" (Ub X.K):=by
 intro W s B H x U v d Q I R J h;obtain⟨w,a,y,rfl,rfl,Z,V,q⟩:=h;obtain⟨t,rfl⟩:=R;obtain⟨u,rfl,D⟩:=J.one
 cases D
 obtain⟨O,r,p,_⟩:=I.list Z;refine join_list p.isList (rS (by simpa using r)) ?_ λY k=>?_
 .rw[aU,kU,ag];have e:((λz:Str=>z.length)∘tx)=Y8:=by funext l;exact kU l
  rw[e];exact V
 .rw[Lu];exact⟨.str _,H,I.tok k,⟨Y,rfl⟩,q⟩
end
inductive D where
 |non|bl (b:Bool)|int (i:Int)|str (l:List Nat)|tnil|tcons (d r:D)
 deriving DecidableEq
structure dH(K:uR)(H H':Hp):Prop where
 t:∀p xs,gg K H p xs->gg K H' p xs
 z:∀b o u,H b=bi (.frz o u)->H' b=bi (.frz o u)
instance {K:uR} {H H':Hp}:CoeFun (dH K H H') (λ_=>∀p xs,gg K H p xs->gg K H' p xs):=⟨dH.t⟩
theorem gg.same{K:uR}(e:oG H H'):dH K H H':=⟨λp d h=>by
 rcases h with(h|⟨o,h⟩)|h
 .exact .inl (.inl (e _ _ h))
 .exact .inl (.inr ⟨o,e _ _ h⟩)
 .exact .inr h,λb o u h=>e _ _ h⟩
theorem ca{p:i0}(h:H p=cg)(o:HO):oG H (fF H p o):=λb u q=>by rw[cA (gj q h)];exact q
def Uc(l:i0)(H H':Hp):Prop:=∀b o,b≠l->H b=bi o->H' b=bi o
theorem mQ{l:i0}{o:HO}:Uc l H (fF H l o):=λb u h q=>by rw[cA h];exact q
theorem gg.but{l:i0}{xs:List V}(e:Uc l H H')(I:H l=bi (.lst xs)):dH K H H':=by
 have Y:∀{p:i0} {o:HO},H p=bi o->(∀D,o≠.lst D)->p≠l:=λ{p o} q hn z=>by subst z;rw[I]at q;cases q;exact hn _ rfl
 refine⟨λp U h=>?_,λb o u h=>e _ _ (Y h (λ_ z=>by cases z)) h⟩;rcases h with(h|⟨o,h⟩)|h
 .exact .inl (.inl (e _ _ (Y h (λ_ z=>by cases z)) h))
 .exact .inl (.inr ⟨o,e _ _ (Y h (λ_ z=>by cases z)) h⟩)
 .exact .inr h
theorem dH.refl:dH K H H:=⟨λ_ _ h=>h,λ_ _ _ h=>h⟩
theorem dH.trans{H1 H2:Hp}(a:dH K H H1)(b:dH K H1 H2):dH K H H2:=⟨λp d h=>b p d (a p d h),λc o u h=>b.z c o u (a.z c o u h)⟩
theorem gg.new{p:i0}{xs:List V}:gg K (fF H p (.tup xs)) p xs:=gg.of dr
theorem Ud{v:V}{pos:Pos}(h:∃u,X.mg x=bi u/\cN v u)(d:Gl X x:=by rfl)(D:(x==("__debug__":Str))=dw:=by decide):PE X (.Name x pos) (tC v):=by obtain⟨u,a,b⟩:=h;exact K0 d a b D
section
variable{o:i9}{to:TE}{t:TA}{id:String}{r:V->List V->Hp->VK->Prop}
def Yv(r:V->List V->Hp->VK->Prop)(to:TE)(t:TA):TE:=λσ H Q=>to σ H λx H1=>(∃l ys,x=.ref l/\H1 l=bi (.lst ys))/\t σ H1 λxs H2=>r x xs H2 Q
def Yw(r:V->List V->Hp->VK->Prop)(to:TE)(t:TA):TE:=λσ H Q=>to σ H λx H1=>(∃l,x=.str (tx l))/\t σ H1 λxs H2=>r x xs H2 Q
theorem Ha{x:V}(h:∃l ys,x=.ref l/\H l=bi (.lst ys)):Ww K "list" x H:=by obtain⟨l,ys,rfl,h⟩:=h;exact .inl ⟨rfl,_,.of h⟩
theorem Lw{x:V}(h:∃l,x=.str (tx l)):Ww K "str" x H:=by obtain⟨l,rfl⟩:=h;exact rfl
theorem Hb{ty:V->Hp->Prop}(XO:∀x H,ty x H->Ww X.K T x H)(pa:PlainAttrs T)(slot:Slot T name id)(GD:typeOf (.builtin id)=pure (.type "method_descriptor"))(y:KL X id r)(w:PE X o to)(D:PA X (e::es) t)
  (tP:aac o name X.env (eval o X.env)=eval o X.env)
  (wW:((YR hW (ow (e::es) X.env)).all (λx=>!x.1)&&(backToKw hW (Z5 [] X.env)).all (λx=>x.1.isSome)
   && decide ((e::es).length+([]:List Keyword).length+(if ([]:List Keyword).isEmpty then 0 else 1)<30))=cT)
  (tN:(kY.endLine==hW.line)=cT) (O:ow (e::es) X.env=(dw,eval e X.env)::ow es X.env) (oX:(YR hW (ow es X.env)).any (·.1)=dw) :
  PE X (.Call (.Attribute o name kY) (e::es) [] hW) (λσ H Q=>to σ H λx H1=>ty x H1/\t σ H1 λxs H2=>r x xs H2 Q):=by intro W s σ H Q I h;refine wpAny_Call_method_late tP wW tN rfl (ii (w W s σ H _ I h) λv d R=>?_);obtain⟨x,H1,I1,B,ty,J⟩:=R;obtain⟨Z,Y⟩:=P_ I1 B (XO _ _ ty);refine⟨T,id,pa,slot,GD,Z,Y,?_⟩;have hA:=D hW W d σ H1 _ I1 J;rw[O]at hA ⊢;refine Calls.callWith_builtin (by show(dw||(YR hW (ow es X.env)).any (·.1))=dw;rw[oX]<;>rfl) (Calls.evalArgs_plain ?_);exact ii hA λL z zv=>by obtain⟨U,H2,I2,F,G⟩:=zv;exact y W z σ H2 x U v L Q I2 B F G
theorem Ue(z:Slot "list" name id)(GD:typeOf (.builtin id)=pure (.type "method_descriptor"))(y:KL X id r)(w:PE X o to)(D:PA X (e::es) t)
  (d:aac o name X.env (eval o X.env)=eval o X.env:=by rfl)
  (W:((YR hW (ow (e::es) X.env)).all (λx=>!x.1)&&(backToKw hW (Z5 [] X.env)).all (λx=>x.1.isSome)
   && decide ((e::es).length+([]:List Keyword).length+(if ([]:List Keyword).isEmpty then 0 else 1)<30))=cT:=by rfl)
  (Z:(kY.endLine==hW.line)=cT:=by rfl) (O:ow (e::es) X.env=(dw,eval e X.env)::ow es X.env:=by rfl) (Y:(YR hW (ow es X.env)).any (·.1)=dw:=by rfl) :
  PE X (.Call (.Attribute o name kY) (e::es) [] hW) (Yv r to t):=Hb (ty:=λx H1=>∃l U,x=.ref l/\H1 l=bi (.lst U)) (λ_ _ h=>Ha h) F.plainAttrs_list z GD y w D d W Z O Y
theorem Uf(z:Slot "str" name id)(GD:typeOf (.builtin id)=pure (.type "method_descriptor"))(y:KL X id r)(w:PE X o to)(D:PA X (e::es) t)
  (d:aac o name X.env (eval o X.env)=eval o X.env:=by rfl)
  (W:((YR hW (ow (e::es) X.env)).all (λx=>!x.1)&&(backToKw hW (Z5 [] X.env)).all (λx=>x.1.isSome)
   && decide ((e::es).length+([]:List Keyword).length+(if ([]:List Keyword).isEmpty then 0 else 1)<30))=cT:=by rfl)
  (Z:(kY.endLine==hW.line)=cT:=by rfl) (O:ow (e::es) X.env=(dw,eval e X.env)::ow es X.env:=by rfl) (Y:(YR hW (ow es X.env)).any (·.1)=dw:=by rfl) :
  PE X (.Call (.Attribute o name kY) (e::es) [] hW) (Yw r to t):=Hb (ty:=λx H1=>∃l,x=.str (tx l)) (λ_ _ h=>Lw h) F.plainAttrs_str z GD y w D d W Z O Y
end
section
variable{t:TA}
def Ug(t:TA):TE:=λσ H Q=>t σ H λxs H1=>xs.length<=sizeLine/\∀p H2,H1 p=cg->H2=fF H1 p (.tup xs)->Q (.ref p) H2
def Uh(t:TA):TE:=λσ H Q=>t σ H λxs H1=>xs.length<=sizeLine/\∀p H2,H1 p=cg->H2=fF H1 p (.lst xs)->Q (.ref p) H2
theorem Lx{x1}(h:PA X es t):PE X (.Tuple es x1 pos) (Ug t):=by intro W s B H Q I Y;refine wpAny_Tuple_spliced (ii (h pos W s B H _ I Y) λG V ⟨d,H1,I1,r,z,q⟩=>⟨by rw[<- r.length];exact z,?_⟩);have J:H1 V.heap.objs.size=cg:=I1.hok.fresh (am _);refine⟨.ref V.heap.objs.size,fF H1 V.heap.objs.size (.tup d),I1.laid (t':=V.toks) (λb u e=>ai _ e) (am _) ?_,rfl,q _ _ J rfl⟩;exact⟨z,G,r,⟨_,av _ rfl,rfl,_,rfl⟩⟩
theorem Ly(h:PA X es t):PE X (.List es pos) (Uh t):=by intro W s B H Q I Y;refine wpAny_List_spliced (ii (h pos W s B H _ I Y) λG V ⟨d,H1,I1,r,z,q⟩=>⟨by rw[<- r.length];exact z,?_⟩);have J:H1 V.heap.objs.size=cg:=I1.hok.fresh (am _);refine⟨.ref V.heap.objs.size,fF H1 V.heap.objs.size (.lst d),I1.laid (t':=V.toks) (λb u e=>ai _ e) (am _) ?_,rfl,q _ _ J rfl⟩;exact⟨z,G,0,r,av _ rfl⟩
theorem KL.imp{id:String}{r D:V->List V->Hp->VK->Prop}(h:KL X id r)(i:∀x xs H Q,D x xs H Q->r x xs H Q):KL X id D:=λW s B H x xs v d Q I R J q=>h W s B H x xs v d Q I R J (i _ _ _ _ q)
theorem ju.imp{f:gs}{r D:List V->Hp->VK->Prop}(h:ju X f r)(i:∀xs H Q,D xs H Q->r xs H Q):ju X f D:=λW s B H xs d Q I J q=>h W s B H xs d Q I J (i _ _ _ q)
theorem nr.imp{f:gs->gs->Sem gs}{r D:R2}(h:nr X f r)(i:∀x y H Q,D x y H Q->r x y H Q):nr X f D:=λW s B H x y v u Q I R w q=>h W s B H x y v u Q I R w (i _ _ _ _ q)
def Hc:V->List V->Hp->VK->Prop:=λx vs H Q=>∃l xs y,x=.ref l/\vs=[y]/\H l=bi (.lst xs)/\xs.length<sizeLine/\∀H2,H2=fF H l (.lst (xs++[y]))->Q .non H2
theorem Cp:KL X "list.append" Hc:=KL.imp (r:=Du) Fd λ_ _ _ _ zy=>by obtain⟨l,w,y,a,b,c,d,q⟩:=zy;exact ⟨l,w,y,a,b,c,d,q _ rfl⟩
def Hd(K:uR):List V->Hp->VK->Prop:=λxs H Q=>∃p ys,xs=[.ref p]/\sw K H p ys/\∀l H2,H l=cg->H2=fF H l (.tup ys)->Q (.ref l) H2
theorem Av:ju X (.type "tuple") (Hd X.K):=ju.imp xn λ_ _ _ zz=>by obtain⟨p,U,a,b,q⟩:=zz;exact ⟨p,U,a,.inl ⟨b,λl I=>q l _ I rfl⟩⟩
def Ui:R2:=λx y H Q=>∃l b xs D,x=.ref l/\y=.ref b/\H l=bi (.lst xs)/\H b=bi (.lst D)/\xs.length+D.length<=sizeLine/\∀p H2,H p=cg->H2=fF H p (.lst (xs++D))->Q (.ref p) H2
theorem LA:nr X (yz .Add) Ui:=nr.imp P' λ_ _ _ _ zv=>by obtain⟨l,b,d,D,Z,Y,B,O,I,q⟩:=zv;exact ⟨l,b,d,D,Z,Y,B,O,I,λp U=>q p _ U rfl⟩
end
def He(T:String):Prop:=T="tuple"\/T="bool"\/T="int"\/T="str"
end L2
namespace L2
end L2
namespace L2
open PySem PySem.Spec PyProof.Rows
structure QE(X:Cx)(e:i9)(t:TE):Prop where
 h:PE X e t
structure QA(X:Cx)(es:List i9)(t:TA):Prop where
 h:PA X es t
structure QG(X:Cx)(e:i9)(t:TG):Prop where
 h:PG X e t
structure QI(X:Cx)(tg it:i9)(t:TI):Prop where
 h:PI X tg it t
structure Xj(X:Cx)(es:List i9)(t:TT):Prop where
 h:KM X es t
structure X7(X:Cx)(f:gs->gs->Sem gs)(r:R2):Prop where
 h:nr X f r
structure Nn(X:Cx)(f:gs)(r:List V->Hp->VK->Prop):Prop where
 h:ju X f r
section
variable{a b c o:i9}{ta tb tc to:TE}{t u:TA}{tA VU:TT}{d8:List i9}
theorem Dz:X7 X (yz .LShift) (rI PN λi j=>.int (i*2^j.toNat)):=⟨GZ⟩
variable{st:qd}{sr:List qd}{ts us:TS}{g:TG}
end
section
variable{c:i9}{wi:TI}{g:TG}{tb:TS}{tA:TT}
end
noncomputable def bU(env:Env):List (Str×Y1)->List (Str×i0)->List (Str×i0)
 |[],cs=>cs
 |(n,k)::r,cs=>bU env r (if k==.free then(n,(env.cells.lookup n).getD 0)::cs else cs)
theorem Hf(h:∀x∈scope.names,x.2=.free->∃c,env.cells.lookup x.1=bi c):ZD scope env=pure (bU env scope.names []):=by
 unfold ZD;have key:∀(t:List (Str×Y1)) (z:List (Str×i0)),(∀x∈t,x.2=.free->∃c,env.cells.lookup x.1=bi c) ->
   (forIn t z λ(x:Str×Y1) (r:List (Str×i0))=>if (x.2==Ze)=cT then(do let a <- Zu env x.1;pure (ZT ((x.1,a)::r)))else(pure (ZT r):Sem _))=pure (bU env t z):=by
  intro t
  induction t with
  |nil=>intro z _;rfl
  |cons y r U=>
   intro z J;obtain⟨n,k⟩:=y;rw[eY];have w:=λz=>U z λx O=>J x (aC _ O)
   by_cases B:(k==Ze)=cT
   .obtain⟨c,e⟩:=J (n,k) aX (ky B);have e2:Zu env n=pure c:=by unfold Zu;rw[e]
    show((if (k==Ze)=cT then _ else _) >>= _)=pure (bU env r (if (k==Ze)=cT then _ else _));rw[ax B,ax B,e2];simp only[pure_bind];have I:(env.cells.lookup n).getD 0=c:=by rw[show env.cells.lookup n=bi c from e];rfl
    rw[I];exact w _
   .show((if (k==Ze)=cT then _ else _) >>= _)=pure (bU env r (if (k==Ze)=cT then _ else _));rw[aF B,aF B];simp only[pure_bind];exact w _
 have:=key scope.names [] h;dsimp only;rw[this];simp only[pure_bind]
theorem lJ:∀(ns:List (Str×Y1)) (z:List (Str×i0)),(∀x∈ns,x.2=.free->∃c,env.cells.lookup x.1=bi c)->(∀y∈z,env.cells.lookup y.1=bi y.2)->∀y∈bU env ns z,env.cells.lookup y.1=bi y.2
 |[],z,_,h=>h
 |(n,k)::r,z,hf,h=>by
  refine lJ r _ (λx O=>hf x (aC _ O)) ?_
  by_cases B:(k==Ze)=cT
  .rw[ax B];intro y hy;rcases aG.mp hy with rfl|hy
   .obtain⟨c,e⟩:=hf (n,k) aX (ky B);show env.cells.lookup n=bi ((env.cells.lookup n).getD 0);rw[show env.cells.lookup n=bi c from e];rfl
   .exact h y hy
  .rw[aF B];exact h
theorem vE:∀(ns:List (Str×Y1)) (z:List (Str×i0)) (y:Str×i0),y∈z->y∈bU env ns z
 |[],_,_,h=>h
 |(n,k)::r,z,y,h=>by
  refine vE r _ y ?_
  split
  .exact aC _ h
  .exact h
theorem vF{env:Env}:∀(ns:List (Str×Y1)) (z:List (Str×i0)) (x:Str),(x,Ze)∈ns->∃c,(x,c)∈bU env ns z
 |[],_,_,h=>by simp at h
 |(n,k)::r,z,x,h=>by
  rcases aG.mp h with e|h
  .obtain⟨d,e2⟩:=jA e;subst d;subst e2;exact⟨_,vE r _ (x,_) (by rw[ax (by rfl:(Ze==Ze)=cT)];exact aX)⟩
  .exact vF r _ x h
theorem vG:∀{l:List (Str×β)} {x:Str} {b:β},(x,b)∈l->∃c,l.lookup x=bi c
 |(y,c)::r,x,b,h=>by
  rw[h_]
  cases O:x==y with
  |true=>exact⟨c,rfl⟩
  |false=>
   rcases aG.mp h with e|h
   .cases e;simp at O
   .exact vG h
theorem uF{env:Env}{g:Str×Y1->Bool}:∀{z:List (Str×Y1)} {x:Str},z.lookup x=bi .free ->
  (z.map λy=>if g y then(y.1,ZR)else y).lookup x=bi .cell\/(z.map λy=>if g y then(y.1,ZR)else y).lookup x=bi .free
 |[],_,h=>by simp at h
 |(n,k)::r,x,h=>by
  rw[h_]at h;rw[aK];have d:∀y:Str×Y1,(if g y then(y.1,ZR)else y).1=y.1:=λy=>by split<;>rfl
  have e2:∀(y:Str×Y1) (l:List (Str×Y1)),(y::l).lookup x=if (x==y.1)=cT then bi y.2 else l.lookup x:=λy l=>by
   obtain⟨a,b⟩:=y;rw[h_]
   cases x==a<;>rfl
  rw[e2,d]
  cases O:x==n with
  |true=>
   rw[O]at h
   cases h
   rw[ax rfl]
   by_cases L:g (n,.free)=cT
   .rw[ax L];exact .inl rfl
   .rw[aF L];exact .inr rfl
  |false=>
   rw[O]at h;rw[aF (by exact bG)];exact uF (env:=env) h
noncomputable def Cq(dn:List (Str×Y1))(sn:List (Str×Y1))(nm:List Str)(cap:List (Option Nat))(N:List Str):Bool:=
 (sn.all λx=>!(x.2==.local)||sn.lookup x.1==bi .local)&&(sn.all λy=>!(y.2==.cell))&&(sn.all λx=>!(x.2==.free)||dn.lookup x.1==bi .cell)&&(cap.length==nm.length) &&
 ((vr cap.length).all λi=>match cap[i]? with
  |some (bi j)=>(match nm[i]?,N[j]? with
   |some x,bi y=>x==y&&dn.lookup x==bi .cell&&sn.lookup x==bi .free
   |_,_=>dw)
  |_=>cT)
structure Xk(X:Cx)(scope:Y0)(nm:List Str)(cap:List (Option Nat)):Prop where
 clos:ZD scope X.env=pure (bU X.env scope.names [])
 cl:∀x c,(bU X.env scope.names []).lookup x=bi c->X.env.cells.lookup x=bi c
 nms:∀x∈scope.names,x.2=.local->scope.names.lookup x.1=bi .local
 cell:∀y∈scope.names,y.2≠.cell
 has:∀x,((relabel scope X.env).names.lookup x=bi .cell\/(relabel scope X.env).names.lookup x=bi .free)->∃c,(bU X.env scope.names []).lookup x=bi c
 cp:∀(i j:Nat),cap[i]?=bi (bi j)->∃x,nm[i]?=bi x/\X.N[j]?=bi x/\xS X scope (bU X.env scope.names []) x
 len:cap.length=nm.length
theorem Uj{nm:List Str}{cap:List (Option Nat)}(I:∀x,X.env.scope.names.lookup x=bi .cell->∃c,X.env.cells.lookup x=bi c)(D:Cq X.env.scope.names scope.names nm cap X.N=cT):Xk X scope nm cap:=by
 simp only[Cq,bc,fB,pJ,iK,jo,dk]at D;obtain⟨⟨⟨⟨Y,b2⟩,b3⟩,b4⟩,b5⟩:=D;have F:∀x∈scope.names,x.2=.free->∃c,X.env.cells.lookup x.1=bi c:=λx O B=>by
  rcases b3 x O with z|z
  .exact absurd B z
  .exact I _ z
 have W:∀x c,(bU X.env scope.names []).lookup x=bi c->X.env.cells.lookup x=bi c:=λx c h=>lJ scope.names [] F #[5] (x,c) (jv h);have d:∀x,(x,Ze)∈scope.names->∃c,(bU X.env scope.names []).lookup x=bi c:=λx h=>let ⟨_,q⟩:=vF (env:=X.env) scope.names [] x h;vG q;have G:(relabel scope X.env).names=scope.names.map λy=>if (y.2==.free&&X.env.scope.kind==.function&&X.env.kindOf y.1==bi .cell)then(y.1,ZR)else y:=by show scope.names.map _=_;refine bW λy _=>?_;obtain⟨a,b⟩:=y;rfl
 have fr:∀x,((relabel scope X.env).names.lookup x=bi .cell\/(relabel scope X.env).names.lookup x=bi .free)->(x,Ze)∈scope.names:=λx h=>by
  have L:∃k,(x,k)∈(relabel scope X.env).names/\(k=.cell\/k=.free):=by
   rcases h with h|h
   .exact⟨_,jv h,.inl rfl⟩
   .exact⟨_,jv h,.inr rfl⟩
  obtain⟨k,R,B⟩:=L;rw[G]at R;obtain⟨y,Z,e⟩:=aE.mp R;obtain⟨a,b⟩:=y
  by_cases U:b=.free
  .subst U;have:a=x:=by split at e<;>(cases e;rfl)
   subst this;exact Z
  .rw[aF (by simp[U])]at e
   cases e
   rcases B with rfl|rfl
   .exact absurd rfl (b2 _ Z)
   .exact absurd rfl U
 refine⟨Hf F,W,λx O B=>(Y x O).resolve_left λz=>z B,λy Z=>b2 y Z,λx O=>d x (fr x O),λi j e=>?_,b4⟩;have V:i<cap.length:=(ak.mp e).1;have q:=b5 i (cK.mpr V);rw[e]at q;dsimp only at q
 cases O:nm[i]? with
 |none=>rw[O]at q;simp at q
 |some x=>
  cases Z:X.N[j]? with
  |none=>rw[O,Z]at q;simp at q
  |some y=>
   rw[O,Z]at q;simp only[bc,jo]at q;obtain⟨⟨rfl,w⟩,t⟩:=q;refine⟨x,rfl,rfl,.inr (.inl w),(by rw[w];decide),?_,?_⟩
   .obtain⟨c,J⟩:=d x (jv t);rw[J,W _ _ J]
   .rw[G];exact uF (env:=X.env) t
theorem Qi{pos:Pos}{nm:List Str}{t:TI}{g:TG}{U:TT}(R:X.calm=cT)
  (y:X.env.cells=wh m X.env.scope.names []) (V:scope.kind=.function) (w:Cq X.env.scope.names scope.names nm cap X.N=cT)
  (D:QI X tg d9 t) (d:∀cl C Y H0 fp,QG (dz X nm scope cl C Y H0 fp) tg g) (Z:∀cl C Y H0 fp,Xj (dz X nm scope cl C Y H0 fp) qx U)
  (J:∀cl C Y H0 fp,QE (dz X nm scope cl C Y H0 fp) tM te) (O:∀x,ZB d9 X.env x=pure x:=by intro _;rfl) :
  QE X (.ListComp tM [⟨tg,d9,qx,0⟩] scope pos) (xR cap t g U te):=by have F:=Uj (nm:=nm) (cap:=cap) (λx z=>by rw[y];exact iA z) w;exact⟨Dx R F.clos F.cl V F.nms F.cell F.has F.cp F.len D.h (λC Y H0 fp=>(d _ C Y H0 fp).h) (λC Y H0 fp=>(Z _ C Y H0 fp).h) (λC Y H0 fp=>(J _ C Y H0 fp).h) O⟩
def LB(K:uR):List V->Hp->VK->Prop:=λxs H Q=>∃(p:i0) (ys:List (List Nat)),xs=[.ref p]/\sw K H p (ys.map λl=>V.str (tx l))/\ys.length<64 /\
 ∀D:List (List Nat),D.Perm ys->sortedS (D.map tx)=cT->∀l H2,H l=cg->H2=fF H l (.lst (D.map λl=>V.str (tx l)))->Q (.ref l) H2
theorem DA(z:Str):tx z.cps.toList=z:=by cases z;rfl
theorem xo:Nn X (.builtin "sorted") (LB X.K):=⟨by
 intro W s B H d w Q I r h;obtain⟨p,U,rfl,G,XM,q⟩:=h;obtain⟨u,rfl,y⟩:=lR r
 cases y
 obtain⟨O,J,R,F⟩:=I.list G;have D:=J.length;rw[ag]at D;refine sorted_strs (ss:=U.map tx) R.isList (rS (by simpa using J)) #[0] λout ss' Z Y L=>?_;obtain⟨t,hat⟩:=sortedAll_at s.heap O out;have pU:H (s.heap.objs.size+1)=cg:=I.hok.fresh (iS _);have hmap:(ss'.map λz=>z.cps.toList).map tx=ss':=by rw[aU];have:(tx∘λz:Str=>z.cps.toList)=id:=funext λz=>DA z;rw[this,nj]
 have hperm:(ss'.map λz=>z.cps.toList).Perm U:=by
  have e:=Y.map λz:Str=>z.cps.toList;rw[aU]at e;have:((λz:Str=>z.cps.toList)∘tx)=id:=funext λl=>by simp[tx]
  rw[this,nj]at e;exact e
 have hvals:cR ((ss'.map λz=>z.cps.toList).map λl=>V.str (tx l)) out.toList:=by have e:=oH Z;rw[<- hmap,aU]at e;exact e
 refine⟨.ref (s.heap.objs.size+1),_,I.laid (t':=s.toks) (λb o e=>sortedAll_old e) (iS _) ?_,rfl,q _ hperm (by rw[hmap];exact L) _ _ pU rfl⟩;refine⟨?_,out.toList,t,hvals,hat⟩;rw[ag,hperm.length_eq];exact aT (cx XM) #[1]⟩
section
variable{w:ms}
theorem iF{t:i0}{bx:Array gs}{x:gs}(st:s.heap.IsTupleIter it t i)(Z:s.heap.IsTuple t bx)(O:bx[i]?=bi x)
  (q:∀g,g.IsTupleIter it t (i+1)->Zy it s.heap g->Q x { s with heap:=g }):i1 #[2] A (Zi (.ref it)) Q E s:=by obtain⟨R,d,e2,I⟩:=id st;obtain⟨V,z,_,W,y⟩:=Z;have T:=st.typeIs;unfold Zi;refine aa (bz (name:=Zk "__next__") T gq (bj gq T lG ?_ (k_ _)));show i1 _ _ (field (.ref it) 0 >>= _) _ _ s;refine aa (cf d I (x:=.ref t) rfl ?_);dsimp only;rw[aF (show ¬ ((YT t==Zb)=cT)from bG)];refine aa (cf d I (x:=.int i 0) rfl ?_);dsimp only;refine aa (bP z y ?_);simp only[aH,O];refine aa (ml d I #[5] (ae ⟨x,rfl,ae (q _ ?_ (eS ..))⟩));exact⟨_,dI _ d (pX (jp I _)),(Obj.cls_mapFields ..).trans e2,by rw[jp I];simp[yx]⟩
theorem lD{t:i0}{bx:Array gs}(Y:A.handled=cg)(st:s.heap.IsTupleIter it t i)(Z:s.heap.IsTuple t bx)(O:bx[i]?=cg)
  (q:∀g e,Heap.ExtBut it s.heap g->(∃o,g.get? e=bi o/\o.cls=.type "StopIteration")->E (.ref e) { s with heap:=g }):i1 #[2] A (Zi (.ref it)) Q E s:=by obtain⟨R,d,e2,I⟩:=id st;obtain⟨V,z,_,W,y⟩:=Z;have T:=st.typeIs;unfold Zi;refine aa (bz (name:=Zk "__next__") T gq (bj gq T lG ?_ (k_ _)));show i1 _ _ (field (.ref it) 0 >>= _) _ _ s;refine aa (cf d I (x:=.ref t) rfl ?_);dsimp only;rw[aF (show ¬ ((YT t==Zb)=cT)from bG)];refine aa (cf d I (x:=.int i 0) rfl ?_);dsimp only;refine aa (bP z y ?_);simp only[aH,O];refine aa (fC (aa (ml d I #[5] (aa ?_))));simp only[newExc,newTuple];refine aa (bT (aa (m:=Z6 _ _) (qA (a:=Zb) (by first|rfl|(simp only[Z6];rfl)) (bT ?_ (by size_fits)))) (by size_fits));simp only[raiseNew];refine aa (rN ?_);rw[show A.in1.handled=cg from Y];exact aa (ae (wpAny_throw (q _ _ (((eS ..).extBut.push _).push _) ⟨_,av _ rfl,rfl⟩)))
end
open AutoSeq1 (wpAny_loadPart')
open AutoSeq1 (wpAny_loadPart')
noncomputable abbrev qH(t:i0):Obj:={ cls:=.type "tuple_iterator",data:=.fields #[.ref t,.int 0 0] }
section
variable{w:ms}
end
section
end
section
variable{g:TG}{tc:TT}{H1:Hp}{Q:VK}
end
theorem xU:∀(p:Nat) (m:List Nat),risingS (tx [p]) (m.map λc=>tx [c])=cT->(∀c∈m,p<=c)/\m.Pairwise (· <= ·)
 |p,[],_=>⟨λc h=>by simp at h,.nil⟩
 |p,c::r,h=>by
  have w:(!ltCps (tx [c]).cps.toList (tx [p]).cps.toList&&risingS (tx [c]) (r.map λc=>tx [c]))=cT:=h;rw[bc]at w;obtain⟨a,b⟩:=w;obtain⟨y,t⟩:=xU c r b;have Z:p<=c:=by
   rw[ltCps_eq]at a;have d:(!decide ([c]<[p]))=cT:=a;have:=jq (iK _▸d);rcases eR c p with z|z
   .exact absurd (List.Lex.rel z) this
   .exact z
  refine⟨λx hx=>?_,bp.mpr ⟨y,t⟩⟩;rcases aG.mp hx with rfl|hx
  .exact Z
  .exact aT Z (y x hx)
theorem Aw:∀(m:List Nat),sortedS ((m.map λc=>[c]).map tx)=cT->m.Pairwise (· <= ·)
 |[],_=>.nil
 |c::r,h=>by have w:risingS (tx [c]) ((r.map λc=>[c]).map tx)=cT:=h;rw[aU]at w;obtain⟨a,b⟩:=xU c r w;exact bp.mpr ⟨a,b⟩
theorem fR:Slot "set_iterator" "__next__" "set_iterator.__next__":=.of (owner:="set_iterator") (n:="__next__") (by rw[typeLookup_type,pY];kernel_rfl) (by decide +kernel) (by decide +kernel) (by decide +kernel) (by first|exact .inl (by decide +kernel)|exact .inr (by decide +kernel)) (by rw[fX];kernel_rfl)
theorem mR:entryFor table "set_iterator.__next__"=bi Builtin.«set_iterator.__next__»:=entryFor_of_tree (by kernel_rfl)
theorem mS(a:gs):argsOk "set_iterator.__next__" ⟨[a],[]⟩:=by unfold argsOk;kernel_rfl
theorem Ax:entryFor table "set.__iter__"=bi Builtin.«frozenset.__iter__»:=entryFor_alias (id':="frozenset.__iter__") (by kernel_rfl) (by first|rfl|decide +kernel|(unfold String.splitOn;simp +decide [String.splitOnAux])) (by decide +kernel) (by kernel_rfl)
noncomputable def uV(w:ms):Bool:=w.params.followText "set-order"
def DB(w:ms)(n:Nat)(t:Za):Prop:=(uV w=cT\/t.led=cT)/\(n=0\/t.plain=dw)
theorem Fp(t:Za)(es:Array (Int×gs))(h:Int)(x:gs):(layNew t es h x).2.1.led=t.led/\(t.plain=dw->(layNew t es h x).2.1.plain=dw):=by
 unfold layNew
 split
 .dsimp only;unfold SetTable.orStandIn
  split
  .exact⟨rfl,λz=>z⟩
  .exact⟨rfl,λ_=>rfl⟩
 .exact⟨rfl,λ_=>rfl⟩
theorem yM{t t':Za}{O:Array Int}{o:Array Nat}(h:t.relaid O n=bi (t',o)):t'.led=t.led/\t'.plain=t.plain:=by
 unfold SetTable.relaid SetTable.laid at h
 cases J:SetTable.layClean (SetTable.sizeAbove n-1) O with
 |none=>rw[J]at h;cases h
 |some y=>
  rw[J]at h;have w:=bg h;obtain⟨a,_⟩:=jA w;subst a;exact⟨rfl,rfl⟩
theorem Ay(t:Za)(es:Array (Int×gs))(n:Nat):(ZY t es n).2.1.led=t.led/\(t.plain=dw->(ZY t es n).2.1.plain=dw):=by
 unfold ZY
 split
 .rename_i Y o J
  obtain⟨a,b⟩:=yM J;dsimp only
  split
  .exact⟨a,λz=>b.trans z⟩
  .exact⟨rfl,λ_=>rfl⟩
 .exact⟨rfl,λ_=>rfl⟩
section
variable{w:ms}
def Az(prog:YW)(w:ms)(h:pk)(a:i0)(ks:List Str):Prop:=
 ∃o es ep t,h.get? a=bi o/\o.ExactSet/\o.data=.set es ep t/\ElemsOf (PySem.strKind prog w) es.toList/\(es.toList.map λe=>strOf e.2).Perm ks/\es.size<ZA/\t.fits es.size=cT/\DB w es.size t
theorem AA{l:List (Int×gs)}(h:ElemsOf (PySem.strKind prog w) l):∀e∈l,∃t,e.2=.str (strOf e.2) t:=λe J=>by obtain⟨⟨k,B,_⟩,_⟩:=h e J;obtain⟨t,Z⟩:=lz B;exact⟨t,by rw[Z];rfl⟩
theorem xV{k:Str}{e:Int×gs}{l:List (Int×gs)}(h:ElemsOf (PySem.strKind prog w) l)(J:e∈l):(PySem.strKind prog w).is k e.2=cT↔k=strOf e.2:=by
 obtain⟨t,Z⟩:=AA h e J;constructor
 .intro z;obtain⟨u,d⟩:=lz z;rw[d];rfl
 .intro z;show ZK k e.2=cT;rw[Z,z];show ZK (strOf e.2) (.str (strOf e.2) t)=cT;unfold ZK;simp
theorem Az.keep{ks:List Str}(z:Az prog w h a ks)(k:∀o,h.get? a=bi o->h'.get? a=bi o):Az prog w h' a ks:=let ⟨o,es,ep,t,ho,r⟩:=z;⟨o,es,ep,t,k o ho,r⟩
theorem LC{ks:List Str}{tk:Tok}{Q:Bool->i2->Prop}(z:Az prog w s.heap a ks)(EY:ks.length+1<ZA)
  (q:∀b g,Zy a s.heap g->Az prog w g a (if x∈ks then ks else ks++[x])->Q b { s with heap:=g }):i1 #[2] A (setAddHashed a (.str x tk) ((PySem.strKind prog w).hash x)) Q E s:=by
 obtain⟨o,es,ep,t,B,vx,D,hel,G,U,I,KR⟩:=z;have dC:es.size=ks.length:=by have:=G.length_eq;simpa using this
 have hkey:(PySem.strKind prog w).is x (.str x tk)=cT:=by show ZK x (.str x tk)=cT;unfold ZK;simp
 have hsc:(ZN x tk).scannable=cT:=rfl;unfold setAddHashed setAddHashedIn;refine c8 (aa (gO B D I ?_));dsimp only;rw[byScan_of hsc U hel,ax rfl];unfold setAddByScan;refine aa (aa (fC (aa (wpAny_setScan_of hkey B D I hel ?_))))
 cases d:List.findIdx? (λe=>(PySem.strKind prog w).is x e.2) es.toList with
 |some j=>
  obtain⟨hj,hpj,_⟩:=List.findIdx?_eq_some_iff_getElem.mp d;have hin:x∈ks:=G.mem_iff.mp (aE.mpr ⟨es.toList[j],dX hj,((xV hel (dX hj)).mp hpj).symm⟩);refine ae (ae ?_);have V:=q dw s.heap (Heap.SameBut.refl a s.heap) (by rw[ax hin];exact⟨o,es,ep,t,B,vx,D,hel,G,U,I,KR⟩);exact V
 |none=>
  have hin:¬ x∈ks:=λO=>by
   obtain⟨e,J,hxe⟩:=aE.mp (G.mem_iff.mpr O);have y:=mK.mp d e J;rw[(xV hel J).mpr hxe.symm]at y
   cases y
  have q':=λb g Z Y=>q b g Z (by rw[aF hin];exact Y);dsimp only;have lp:=layNew_perm t es ((PySem.strKind prog w).hash x) (.str x tk);have lf:=layNew_fits t es ((PySem.strKind prog w).hash x) (.str x tk);have lm:=Fp t es ((PySem.strKind prog w).hash x) (.str x tk);generalize layNew t es ((PySem.strKind prog w).hash x) (.str x tk)=L at lp lf lm ⊢;obtain⟨es1,t1,wd,gv⟩:=L;dsimp only at lp lf lm ⊢;rw[Array.toList_push]at lp;have el1:ElemsOf (PySem.strKind prog w) es1.toList:=(hel.push hkey hsc).perm lp;have sz1:es1.size=es.size+1:=by have:=lp.length_eq;simpa using this
  have b1:es1.size<ZA:=by omega
  have p1:(es1.toList.map λe=>strOf e.2).Perm (ks++[x]):=by have y:=lp.map λe:Int×gs=>strOf e.2;rw[bN]at y;exact y.trans (G.append_right _)
  have gw:∀(b:Bool) {F:i2} {Q':Unit->i2->Prop},Q' () F->i1 #[2] A (match b with|true=>rule "set.scan.the-table-gave-way" | dw=>pure ()) Q' E F:=λb _ _ y=>by cases b<;>first|exact ae y|exact fC y
  refine aa (gw _ ?_);have jM:∀t2:Za,t2.fits es1.size=cT->t2.led=t.led->t2.plain=dw->i1 #[2] A (do
    storeSet a es1 t2
    if (!wd&&t2.tooFull)=cT then do
      (match (ZY t2 es1 (Z1 es1.size)).2.2 with|true=>rule "set.scan.the-table-gave-way" | dw=>pure ())
      storeSet a (ZY t2 es1 (Z1 es1.size)).1 (ZY t2 es1 (Z1 es1.size)).2.1
      pure (bi cT)
     else pure (bi cT)) (λr W=>i1 #[2] A (match r with|some added=>pure added|none=>setAddHashedIn a (.str x tk) ((PySem.strKind prog w).hash x) 99999) Q E W) E s:=by
   intro t2 f2 l2 n2;have to2:DB w es1.size t2:=⟨by rw[l2];exact KR.1,.inr n2⟩
   refine aa (wpAny_storeSet_of B D ?_ (fits_of_scanBound b1));have g1:(s.heap.update a (Z9 es1 t2)).get? a=bi { o with data:=.set es1 (ep+1) t2 }:=by have y:=dI (Z9 es1 t2) B (by rw[uD es1 t2 D];rfl);rw[uD es1 t2 D]at y;exact y
   have sb:=eS s.heap a (Z9 es1 t2)
   split
   .have rp:=relayAll_perm t2 es1 (Z1 es1.size);have rf:=relayAll_fits t2 es1 (Z1 es1.size);have rm:=Ay t2 es1 (Z1 es1.size);generalize ZY t2 es1 (Z1 es1.size)=R at rp rf rm ⊢;obtain⟨es2,t3,gv2⟩:=R;dsimp only at rp rf rm ⊢;have sz2:es2.size=es1.size:=by have:=rp.length_eq;simpa using this
    refine aa (gw _ (aa (wpAny_storeSet_of g1 rfl (ae (ae ?_)) (fits_of_scanBound #[0]))));have g2:((s.heap.update a (Z9 es1 t2)).update a (Z9 es2 t3)).get? a=bi { o with data:=.set es2 (ep+1+1) t3 }:=by have y:=dI (Z9 es2 t3) g1 (by rw[uD es2 t3 rfl];rfl);rw[uD es2 t3 rfl]at y;exact y
    refine q' cT _ (sb.trans (eS _ a _)) ⟨_,es2,_,t3,g2,vx,rfl,el1.perm rp,?_,by omega,rf,?_⟩
    .exact(rp.map λe:Int×gs=>strOf e.2).trans p1
    .exact⟨by rw[rm.1,l2];exact KR.1,.inr (rm.2 n2)⟩
   .exact ae (ae (q' cT _ sb ⟨_,es1,_,t2,g1,vx,rfl,el1,p1,b1,f2,to2⟩))
  by_cases mH:t1.plain=cT
  .rw[ax mH,hashByValue_scannable 8 hsc];refine aa (ae ?_);exact jM { t1 with plain:=dw } (SetTable.fits_plain_off lf) lm.1 rfl
  .rw[aF mH];refine aa (ae ?_);exact jM t1 lf lm.1 (by simpa using mH)
end
section
variable{w:ms}{R:Result->i2->Prop}{I:i0}{wr:List i0}{P:Nat->gs->Prop}{St:Nat->pk->Prop}
def No(prog:YW)(w:ms)(val:Nat->Str)(h:pk)(a:i0)(i:Nat):Prop:=∃ks,Az prog w h a ks/\ks.Nodup/\(∀x,x∈ks↔∃j,j<i/\val j=x)/\ks.length<=i
theorem Hg(W:Walks prog w A.in1 I fp wr n P St)(S:i0)(Yl:S∉fp)(val:Nat->Str)(B5:∀i v,P i v->∃t,v=.str (val i) t)(U:n+1<ZA) :
  ∀(k i:Nat) (s:i2),n-i=k->i<=n->St i s.heap->No prog w val s.heap S i ->
   (∀g G,No prog w val g S n->(∀b o,b≠S->b∉wr->s.heap.get? b=bi o->g.get? b=bi o)->R (.ok (.ret .none)) { s with heap:=g,toks:=G }) ->
   ZC #[2] A (.builtin "set.update.loop" ⟨[.ref S,.ref I],[]⟩) R s:=by
 have hSw:S∉wr:=λh=>Yl (W.sub _ h);intro k
 induction k with
 |zero=>
  intro i s B D Y hM hR;obtain rfl:i=n:=by omega
  refine iD i_ ?_;rw[gP ga _];show i1 _ A.in1 (Y2 (.ref I) >>= _) _ _ s;refine aa (W.done s _ _ Y λg G kp=>ae (hR g G ?_ λb o _ U e=>kp b o U e));obtain⟨ks,z,r⟩:=hM;exact⟨ks,z.keep λo e=>kp S o hSw e,r⟩
 |succ k d=>
  intro i s B D Y hM hR;have Z:i<n:=by omega
  refine iD i_ ?_;rw[gP ga _];show i1 _ A.in1 (Y2 (.ref I) >>= _) _ _ s;refine aa (W.item i s _ _ Z Y λv g G hP F kp=>?_);obtain⟨t,rfl⟩:=B5 i v hP;obtain⟨ks,z,nd,mem,len⟩:=hM;have z':Az prog w g S ks:=z.keep λo e=>kp S o hSw e;refine aa (c8 ?_);unfold setAdd;refine c8 (aa ((PySem.strKind prog w).pyHash (k:=val i) (show ZK (val i) (.str (val i) t)=cT by unfold ZK;simp) ?_));refine LC (s:={ s with heap:=g,toks:=G+1 }) z' #[0] λ_ J sb z2=>?_;refine ae ⟨kH ga _,d (i+1) _ #[0] Z (W.frame _ _ _ F λb U o e=>?_) ?_ λg3 tk3 hM3 kp3=>?_⟩
  .rw[sb.2 b (λh:b=S=>Yl (by rw[<- h];exact U))];exact e
  .refine⟨_,z2,?_,λx=>?_,?_⟩
   .by_cases O:val i∈ks
    .rw[ax O];exact nd
    .rw[aF O];exact gQ.mpr ⟨nd,by simp,λa V b U=>by rw[aM]at U;subst U;exact λe=>O (e▸V)⟩
   .by_cases O:val i∈ks
    .rw[ax O,mem x];constructor
     .rintro⟨j,L,e⟩;exact⟨j,by omega,e⟩
     .rintro⟨j,L,e⟩
      by_cases hji:j=i
      .subst hji;subst e;exact(mem _).mp O
      .exact⟨j,by omega,e⟩
    .rw[aF O,aZ,mem x,aM];constructor
     .rintro(⟨j,L,e⟩|e)
      .exact⟨j,by omega,e⟩
      .exact⟨i,by omega,e.symm⟩
     .rintro⟨j,L,e⟩
      by_cases hji:j=i
      .subst hji;exact .inr e.symm
      .exact .inl ⟨j,by omega,e⟩
   .by_cases O:val i∈ks
    .rw[ax O];omega
    .rw[aF O,ay,ce];omega
  .exact hR g3 tk3 hM3 λb o U y e=>kp3 b o U y ((sb.2 b U).trans (kp b o y e))
end
section
variable{w:ms}
abbrev eE(w:ms):Obj:={ cls:=.type "set",dict:=cg,data:=.set #[] 0 (.fresh 0 0 (!uV w)) }
theorem AB(a:gs){Q₁:gs->i2->Prop}(h:Q₁ (.ref s.heap.objs.size) { s with heap:=s.heap.push (eE w) }) :
  ZC #[2] A (.call (.builtin "set.__new__") ⟨[.type "set",a],[]⟩) (wants Q₁ E) s:=by
 refine codeAny_of_tree ?_;show i1 _ A.in1 (do checkBuiltinCall "set.__new__" ⟨[.type "set",a],[]⟩;again (.builtin "set.__new__" ⟨[.type "set",a],[]⟩)) _ _ s;refine aa (qA (PySem.F.newCall_set_1 a) (ae ⟨kH PySem.F.plain_set_new _,iD PySem.F.entry_set_new ?_⟩));rw[gP PySem.F.plain_set_new _];unfold Builtin.«set.__new__» Builtin.Frozenset.newClass;have y:=sub_set_self;obtain⟨U,g,d,V,B⟩:=s;dsimp only
 wp_walk
 refine og (ae ?_);dsimp only;simp only[newObj];exact aa (wpAny_alloc (ae (ae h)))
set_option maxHeartbeats 8000000 in
theorem nv{T:String}{WT:Obj}{fp:i0->List i0}{n:Nat}{P:Nat->gs->Prop}{St:i0->Nat->pk->Prop}{val:Nat->Str}{Q:gs->i2->Prop}(B:ZG { s with heap:=s.heap.push (eE w) } v T)
  (n1:isSubtype (.type T) (.type "set")=pure dw) (F:isSubtype (.type T) (.type "frozenset")=pure dw) (n3:(Zo T==Zo "dict")=dw)
  (G:∀(A:yy) (E:gs->i2->Prop) (Q:gs->i2->Prop),Q (.ref (s.heap.objs.size+1)) { s with heap:=(s.heap.push (eE w)).push WT }->i1 #[2] A (Zq v) Q E { s with heap:=s.heap.push (eE w) })
  (W:∀(A:yy) (it:i0),A.handled=cg->it=s.heap.objs.size+1->Walks prog w A it (fp it) [it] n P (St it)) (V9:s.heap.objs.size∉fp (s.heap.objs.size+1)) (st:St (s.heap.objs.size+1) 0 ((s.heap.push (eE w)).push WT)) (B5:∀i v,P i v->∃t,v=.str (val i) t)
  (O:A.handled=cg) (U:n+1<ZA)
  (q:∀g V,No prog w val g s.heap.objs.size n->(∀b o,s.heap.get? b=bi o->g.get? b=bi o)->Q (.ref s.heap.objs.size) { s with heap:=g,toks:=V }) :
  i1 #[2] A (call (.type "set") [v]) Q E s:=by
 obtain⟨c,tl,hmro⟩:=PySem.F.called_set.mro;have hmade:=PySem.F.called_set.made;have hsub:=PySem.F.called_set.sub;refine mo (codeAny_of_tree ?_);show i1 _ _ (callAny (.type "set") _) _ _ _;refine ae ⟨Code.quiet_builtin _ (by decide +kernel),iD PySem.F.entry_type_call ?_⟩;rw[Around.under_plain (weight_type_call_type "set" [v] []) rfl];have Z:=PySem.F.called_set.notType;have Y:=PySem.F.called_set.canCreate;have Ws:=PySem.F.typeCall_set_1 v
 repeat(any_goals (first|assumption|wp_step))
 refine gN (AB v (E:=E) (Q₁:=λobj y=>obj=.ref s.heap.objs.size/\y={ s with heap:=s.heap.push (eE w) }) ⟨rfl,rfl⟩) λr y d=>?_
 cases r with
 |error e=>exact d
 |ok z=>
  cases z with
  |ret obj=>
   obtain⟨rfl,rfl⟩:=d;have gS:(s.heap.push (eE w)).get? s.heap.objs.size=bi (eE w):=av _ rfl;have tS:ZG { s with heap:=s.heap.push (eE w) } (.ref s.heap.objs.size) "set":=⟨_,gS,rfl⟩
   have hli:=PySem.F.called_set.init.lookup;have hbi:=PySem.F.called_set.init.bind (.ref s.heap.objs.size)
   repeat(any_goals (first|assumption|wp_step))
   refine gN (codeAny_call_builtin (R:=wants (λr L=>r=.none/\∃g V,L={ s with heap:=g,toks:=V }/\No prog w val g s.heap.objs.size n/\(∀b o,s.heap.get? b=bi o->g.get? b=bi o)) E) PySem.F.called_set.init.plain PySem.F.entry_set_init (check_set_init_1 tS ?_)) λr₂ L hr₂=>?_
   .unfold Builtin.«set.__init__» noKeywords Builtin.Frozenset.updateFrom;generalize hPI:Zq=PI
    wp_walk
    subst hPI;refine G _ _ _ (aa (wpAny_runValue ?_));have g0:((s.heap.push (eE w)).push WT).get? s.heap.objs.size=bi (eE w):=ai _ gS;have m0:No prog w val ((s.heap.push (eE w)).push WT) s.heap.objs.size 0:=⟨[],⟨_,#[],0,_,g0,⟨rfl,rfl,rfl⟩,rfl,λe J=>by simp at J,by simp,by unfold ZA;decide,rfl,?_⟩,ia,λx=>by simp,am _⟩
    .refine Hg (W _ _ (by simpa using O) rfl) s.heap.objs.size V9 val B5 U (n-0) 0 _ rfl (dy _) st m0 λg V D I=>?_;refine ae (ae ⟨rfl,g,V,rfl,D,λb o e=>I b o (aJ (aB e)) (λhbm=>?_) (ai _ (ai _ e))⟩);rw[aM]at hbm;exact absurd (aB e) (by rw[hbm];exact iq.mpr (iS _))
    .refine⟨?_,.inl rfl⟩;show uV w=cT\/(!uV w)=cT
     cases uV w<;>simp
   .cases r₂ with
    |error e=>exact hr₂
    |ok fl₂=>
     cases fl₂ with
     |ret r=>
      obtain⟨rfl,g,V,rfl,D,I⟩:=hr₂
      repeat(any_goals (first|assumption|wp_step))
      exact q g V D I
     |_=>exact hr₂.elim
  |_=>exact d.elim
end
theorem rT:∀{l:List α} {i:Nat} (h:i<l.length),(l[i]::l.eraseIdx i).Perm l
 |x::r,0,_=>fY _
 |x::r,i+1,h=>(aad x (r[i]'(by simpa using h)) (r.eraseIdx i)).trans ((rT (l:=r) (i:=i) (by simpa using h)).cons x)
section
theorem xq{Yz:Source}{Q:Nat->i2->Prop}(R:n≠0)(h:∀i,i<n->∀d,Q i { s with drawn:=d }):i1 M A (choose Yz n) Q E s:=λ_ _ _=>⟨R,h _ (Nat.mod_lt _ (Nat.pos_of_ne_zero R)) _⟩
theorem AC:∀(n:Nat) (xs:List α) (s:i2) (Q:List α->i2->Prop),xs.length=n->(∀ys,ys.Perm xs->∀d,Q ys { s with drawn:=d })->i1 M A (drawOrder n xs) Q E s
 |0,xs,s,Q,hl,h=>by have e:xs=[]:=fW hl;subst e;unfold drawOrder;exact ae (h [] (fY _) s.drawn)
 |n+1,[],s,Q,hl,h=>by simp at hl
 |n+1,x::r,s,Q,hl,h=>by unfold drawOrder;refine aa (xq #[5] λi D d=>?_);have e:(x::r)[i]?=bi (x::r)[i]:=ar D;rw[e];dsimp only;refine aa (AC n ((x::r).eraseIdx i) _ _ (by rw[List.length_eraseIdx,ax D];simp at hl ⊢;omega) λys U W=>ae (h _ ?_ W));exact(List.Perm.cons _ U).trans (rT D)
theorem DC(next:Nat->Nat):∀(M9 k:Nat) (B3:List α) (t:Array α),B3.length=M9->(pickOrder.go next M9 k B3 t).toList.Perm (t.toList++B3)
 |0,k,B3,t,h=>by have e:B3=[]:=fW h;subst e;unfold pickOrder.go;simp
 |M9+1,k,B3,t,h=>by
  have Z:next k%B3.length<B3.length:=Nat.mod_lt _ #[0]
  unfold pickOrder.go;rw[ar Z];dsimp only;refine(DC next M9 (k+1) _ _ (by rw[List.length_eraseIdx,ax Z];omega)).trans ?_;rw[Array.toList_push,aN];exact pZ _ (rT Z)
theorem Fq(next:Nat->Nat)(xs:Array α):(ZZ next xs).toList.Perm xs.toList:=by
 unfold ZZ;have:=DC next xs.size 0 xs.toList #[] #[5]
 simpa using this
end
noncomputable abbrev rB(f:gs)(i:Int)(S:i0)(n ep:Nat):Obj:={ cls:=.type "set_iterator",dict:=cg,data:=.fields #[f,yx i,.ref S,yx n,yx ep],slots:=#[] }
section
variable{w:ms}
theorem vH{Q:Fin->i2->Prop}(Y:A.handled=cg)(q:∀g e,(∀b o,s.heap.get? b=bi o->g.get? b=bi o)->(∃o,g.get? e=bi o/\o.cls=.type "StopIteration")->E (.ref e) { s with heap:=g }) :
  i1 #[2] A (do let x <- newExc (.type "StopIteration") [];raiseNew x) Q E s:=by refine aa ?_;simp only[newExc,newTuple];refine aa (bT (aa (m:=Z6 _ _) (qA (a:=Zb) (by first|rfl|(simp only[Z6];rfl)) (bT ?_ (by size_fits)))) (by size_fits));simp only[raiseNew];refine aa (rN ?_);rw[Y];exact aa (ae (wpAny_throw (q _ _ (λb o e=>ai _ (ai _ e)) ⟨_,av _ rfl,rfl⟩)))
structure j9(w:ms)(h:pk)(S:i0)(es:Array (Int×gs))(ep:Nat)(t:Za):Prop where
 ex:∃o,h.get? S=bi o/\o.ExactSet/\o.data=.set es ep t
 fits:t.fits es.size=cT
theorem j9.keep{es:Array (Int×gs)}{t:Za}(z:j9 w h S es ep t)(k:∀o,h.get? S=bi o->h'.get? S=bi o):j9 w h' S es ep t:=⟨let ⟨o,ho,r⟩:=z.ex;⟨o,k o ho,r⟩,z.fits⟩
theorem Fs{p:i0}{es:Array (Int×gs)}{t:Za}{pv:Array gs}{I:Nat}{x:Int×gs}{Q:Option gs->i2->Prop}(Z:s.heap.get? it=bi (rB (.ref p) i S n ep))(W:j9 w s.heap S es ep t)(R:es.size=n)
  (U:∃o,s.heap.get? p=bi o/\o.cls=.type "tuple"/\o.data=.seq pv I) (B:pv[i]?=bi (yx k)) (O:es[k]?=bi x)
  (q:∀g,g.get? it=bi (rB (.ref p) ((i:Int)+1) S n ep)->Zy it s.heap g->Q (bi x.2) { s with heap:=g }):i1 #[2] A (Y2 (.ref it)) Q E s:=by
 obtain⟨o,V,z,D⟩:=W.ex;obtain⟨J,Y,L,y⟩:=U;have T:ZG s (.ref it) "set_iterator":=⟨_,Z,rfl⟩
 unfold Y2;refine aa (fM (bz (name:=Zk "__next__") T fR (bj fR T mR ?_ (mS _))));show i1 _ _ (fieldsOf (.ref it) >>= _) _ _ s;refine aa (jT Z rfl ?_);dsimp only;refine aa (g_ V D W.fits ?_);rw[aF (by rw[R];simp)];refine aa (bP Y y ?_);simp only[aH,B];unfold setNextDrawn;refine aa (aa (gO V D W.fits ?_));dsimp only;rw[aF #[5],aH,O];refine ae (aa (bA Z #[5] λg d e2=>ae ⟨_,rfl,ae (q g (by simpa using d) e2)⟩))
theorem xr{p:i0}{es:Array (Int×gs)}{t:Za}{pv:Array gs}{pn:Nat}{Q:Option gs->i2->Prop}(Y:A.handled=cg)(Z:s.heap.get? it=bi (rB (.ref p) i S n ep))(W:j9 w s.heap S es ep t)(R:es.size=n)
  (G:∃o,s.heap.get? p=bi o/\o.cls=.type "tuple"/\o.data=.seq pv pn) (B:pv[i]?=cg)
  (q:∀g,(∀b o,b≠it->s.heap.get? b=bi o->g.get? b=bi o)->Q cg { s with heap:=g }):i1 #[2] A (Y2 (.ref it)) Q E s:=by
 obtain⟨o,V,vx,D⟩:=W.ex;obtain⟨op,hop,L,hdp⟩:=G;have T:ZG s (.ref it) "set_iterator":=⟨_,Z,rfl⟩
 unfold Y2;refine aa (fM (bz (name:=Zk "__next__") T fR (bj fR T mR ?_ (mS _))));show i1 _ _ (fieldsOf (.ref it) >>= _) _ _ s;refine aa (jT Z rfl ?_);dsimp only;refine aa (g_ V D W.fits ?_);rw[aF (by rw[R];simp)];refine aa (bP hop hdp ?_);simp only[aH,B];refine aa (bA Z #[5] λg d e2=>aa (bA d #[5] λJ I z=>vH (s:={ s with heap:=J }) (show A.in1.handled=cg from Y) λy e F O=>?_));obtain⟨ox,hox,hcx⟩:=O;refine aa (dY (T:="StopIteration") (b:=cT) ⟨ox,hox,hcx⟩ jU (ae (q y λb o U e=>F b o ?_)));exact z.extBut b o U (e2.extBut b o U e)
theorem Hh{sl sl':Nat}{es:Array (Int×gs)}{t:Za}{x:gs}{Q:Option gs->i2->Prop}(Z:s.heap.get? it=bi (rB (yx sl) i S n ep))(W:j9 w s.heap S es ep t)(R:es.size=n)
  (O:∀(Q':Option (gs×Nat)->i2->Prop) (E':gs->i2->Prop),Q' (bi (x,sl')) s->i1 #[2] A.in1 (Zz S sl i ep) Q' E' s)
  (q:∀g,g.get? it=bi (rB (yx sl') ((i:Int)+1) S n ep)->Zy it s.heap g->Q (bi x) { s with heap:=g }):i1 #[2] A (Y2 (.ref it)) Q E s:=by
 obtain⟨o,V,z,D⟩:=W.ex;have T:ZG s (.ref it) "set_iterator":=⟨_,Z,rfl⟩
 unfold Y2;refine aa (fM (bz (name:=Zk "__next__") T fR (bj fR T mR ?_ (mS _))));show i1 _ _ (fieldsOf (.ref it) >>= _) _ _ s;refine aa (jT Z rfl ?_);dsimp only;refine aa (g_ V D W.fits ?_);rw[aF (by rw[R];simp)];show i1 _ _ (Zz S (sl:Int).toNat (i:Int).toNat (ep:Int).toNat >>= _) _ _ s;simp only[aH];refine aa (O _ _ ?_);dsimp only;refine aa (bA Z #[5] λg d e2=>aa (bA d #[5] λJ I U=>ae ⟨_,rfl,ae (q J (by simpa using I) (e2.trans U))⟩))
theorem yN{sl:Nat}{es:Array (Int×gs)}{t:Za}{Q:Option gs->i2->Prop}(Y:A.handled=cg)(Z:s.heap.get? it=bi (rB (yx sl) i S n ep))(W:j9 w s.heap S es ep t)(R:es.size=n)
  (O:∀(Q':Option (gs×Nat)->i2->Prop) (E':gs->i2->Prop),Q' cg s->i1 #[2] A.in1 (Zz S sl i ep) Q' E' s)
  (q:∀g,(∀b o,b≠it->s.heap.get? b=bi o->g.get? b=bi o)->Q cg { s with heap:=g }):i1 #[2] A (Y2 (.ref it)) Q E s:=by
 obtain⟨o,V,z,D⟩:=W.ex;have T:ZG s (.ref it) "set_iterator":=⟨_,Z,rfl⟩
 unfold Y2;refine aa (fM (bz (name:=Zk "__next__") T fR (bj fR T mR ?_ (mS _))));show i1 _ _ (fieldsOf (.ref it) >>= _) _ _ s;refine aa (jT Z rfl ?_);dsimp only;refine aa (g_ V D W.fits ?_);rw[aF (by rw[R];simp)];show i1 _ _ (Zz S (sl:Int).toNat (i:Int).toNat (ep:Int).toNat >>= _) _ _ s;simp only[aH];refine aa (O _ _ ?_);dsimp only;refine aa (bA Z #[5] λg d e2=>vH (s:={ s with heap:=g }) (show A.in1.handled=cg from Y) λy e I O=>?_);obtain⟨ox,L,J⟩:=O;exact aa (dY (T:="StopIteration") (b:=cT) ⟨ox,L,J⟩ jU (ae (q y λb o U e=>I b o (e2.extBut b o U e))))
end
theorem uG:Slot "set_iterator" "__iter__" "set_iterator.__iter__":=.of (owner:="set_iterator") (n:="__iter__") (by rw[typeLookup_type,pY];kernel_rfl) (by decide +kernel) (by decide +kernel) (by decide +kernel) (by first|exact .inl (by decide +kernel)|exact .inr (by decide +kernel)) (by rw[fX];kernel_rfl)
theorem AD(a:gs):argsOk "set_iterator.__iter__" ⟨[a],[]⟩:=by unfold argsOk;kernel_rfl
theorem AE:entryFor table "set_iterator.__iter__"=bi Builtin.«dict_keyiterator.__iter__»:=entryFor_alias (id':="dict_keyiterator.__iter__") (by kernel_rfl) (by first|rfl|decide +kernel|(unfold String.splitOn;simp +decide [String.splitOnAux])) (by decide +kernel) (by kernel_rfl)
section
variable{w:ms}
theorem AF{f:gs}{i:Int}(Z:s.heap.get? it=bi (rB f i S n ep))(q:Q (.ref it) s):i1 #[2] A (Zq (.ref it)) Q E s:=by
 have T:ZG s (.ref it) "set_iterator":=⟨_,Z,rfl⟩
 exact nn T uG (bj uG T AE (ae ⟨_,rfl,"set_iterator",_,T,fR.lookup,q⟩) (AD _))
theorem Cr(d:A.handled=cg){p:i0}{ep:Nat}{es:Array (Int×gs)}{t:Za}{G:List Nat}(O:G.Perm (vr n))(R:es.size=n)(Z:it≠S)(Y:it≠p) :
  Walks prog w A it [it,p,S] [it] n (λi v=>∃k x,G[i]?=bi k/\es[k]?=bi x/\v=x.2) (λi h=>i<=n/\h.get? it=bi (rB (.ref p) i S n ep)/\(∃o,h.get? p=bi o/\o.cls=.type "tuple"/\∃e,o.data=.seq (G.map λk:Nat=>yx k).toArray e)/\j9 w h S es ep t) where
 sub:=λb U=>by simp at U;simp[U]
 frame:=λi h L y k=>⟨y.1,k it #[5] _ y.2.1,(let ⟨o,V,r⟩:=y.2.2.1;⟨o,k p #[5] o V,r⟩),y.2.2.2.keep λo V=>k S #[5] o V⟩
 item:=λi s Q E D y q=>by
  obtain⟨_,rj,⟨op,hop,wX,e,hdp⟩,W⟩:=y;have I:G.length=n:=by have:=O.length_eq;simpa using this
  have B:G[i]?=bi G[i]:=ar #[0];have Wm:G[i]<es.size:=by rw[R];exact cK.mp (O.mem_iff.mp (dX #[0]))
  refine Fs rj W R ⟨op,hop,wX,hdp⟩ (k:=G[i]) (x:=es[G[i]]) (by simp[B]) (by simp[Wm]) λg a b=>q _ g s.toks ⟨G[i],es[G[i]],B,by simp[Wm],rfl⟩ ⟨D,?_,⟨op,b.extBut p op (YU Y) hop,wX,e,hdp⟩,W.keep λo V=>b.extBut S o (YU Z) V⟩ λc o J V=>b.extBut c o (λz=>J (by simp[z])) V;rw[a];rfl
 done:=λs Q E y q=>by
  obtain⟨_,rj,⟨op,hop,wX,e,hdp⟩,W⟩:=y;have I:G.length=n:=by have:=O.length_eq;simpa using this
  exact xr d rj W R ⟨op,hop,wX,hdp⟩ (by simp[I]) λg F=>q g s.toks λc o J V=>F c o (λz=>J (by simp[z])) V
 self:=λi s Q E y q=>AF y.2.1 q
theorem Ft(d:A.handled=cg){ep:Nat}{es:Array (Int×gs)}{t:Za}{vs:List gs}{sl:Nat->Nat}(F:vs.length=n)(R:es.size=n)(Z:it≠S)
  (O:∀(s:i2) (i:Nat),j9 w s.heap S es ep t->i<=n->∀(A:yy) (Q':Option (gs×Nat)->i2->Prop) (E':gs->i2->Prop),Q' ((vs[i]?).map λv=>(v,sl (i+1))) s->i1 #[2] A (Zz S (sl i) i ep) Q' E' s) :
  Walks prog w A it [it,S] [it] n (λi v=>vs[i]?=bi v) (λi h=>i<=n/\h.get? it=bi (rB (yx (sl i)) i S n ep)/\j9 w h S es ep t) where
 sub:=λb U=>by simp at U;simp[U]
 frame:=λi h L Y k=>⟨Y.1,k it #[5] _ Y.2.1,Y.2.2.keep λo V=>k S #[5] o V⟩
 item:=λi s Q E D Y q=>by obtain⟨_,G,W⟩:=Y;have B:vs[i]?=bi vs[i]:=ar #[0];refine Hh (x:=vs[i]) (sl':=sl (i+1)) G W R (λQ' E' y=>O s i W (cx D) _ Q' E' (by rw[B];exact y)) λg a b=>q _ g s.toks B ⟨D,?_,W.keep λo V=>b.extBut S o (YU Z) V⟩ λc o J V=>b.extBut c o (λz=>J (by simp[z])) V;rw[a];rfl
 done:=λs Q E Y q=>by obtain⟨_,G,W⟩:=Y;have B:vs[n]?=cg:=cQ #[0];exact yN d G W R (λQ' E' y=>O s n W (am _) _ Q' E' (by rw[B];exact y)) λg I=>q g s.toks λc o J V=>I c o (λz=>J (by simp[z])) V
 self:=λi s Q E Y q=>AF Y.2.1 q
end
section
variable{w:ms}
theorem qI{Q:Bool->i2->Prop}(q:Q (uV w) s):i1 #[2] A setsByText Q E s:=by unfold setsByText;exact aa (og (ae q))
theorem Fu{es:Array (Int×gs)}{t:Za}{Q:Option (gs×Nat)->i2->Prop}(U:uV w=cT)(W:j9 w s.heap S es ep t)
  (q:Q ((((ZZ (w.params.setOrder S ep) es).toList.map (·.2))[i]?).map λv=>(v,0)) s):i1 #[2] A (Zz S 0 i ep) Q E s:=by
 obtain⟨o,V,z,D⟩:=W.ex;unfold Zz;refine aa (gO V D W.fits ?_);dsimp only;refine aa (qI ?_);rw[U,ax rfl,aF #[5]];unfold setWalk;refine aa (aa (gO V D W.fits ?_));dsimp only;refine aa (qI ?_);rw[U,ax rfl];refine aa (og (ae (ae ?_)));have e:((ZZ (w.params.setOrder S ep) es)[i]?).map (λe=>(e.2,0))=(((ZZ (w.params.setOrder S ep) es).toList.map (·.2))[i]?).map λv=>(v,0):=by rw[ao,fj,Option.map_map];rfl
 show Q (((ZZ (w.params.setOrder S ep) es)[i]?).map λe=>(e.2,0)) s;rw[e];exact q
theorem xW(p:Nat):SetTable.below #[p] 0=0/\SetTable.below #[p] (p+1)=1:=by
 unfold SetTable.below;constructor
 .simp[SetTable.below.go]
 .simp[SetTable.below.go]
theorem Hi{es:Array (Int×gs)}{t:Za}{Q:Option (gs×Nat)->i2->Prop}(U:uV w=dw)(W:j9 w s.heap S es ep t)(Sq:t.led=cT)(Z:es.size<=1)(D:i<=es.size)
  (q:Q (((es.toList.map (·.2))[i]?).map λv=>(v,if i+1=0 then 0 else t.place.getD 0 0+1)) s):i1 #[2] A (Zz S (if i=0 then 0 else t.place.getD 0 0+1) i ep) Q E s:=by
 obtain⟨o,V,z,Y⟩:=W.ex;have J:=W.fits;have y:t.place.size=es.size:=by unfold SetTable.fits at J;simp only[bc,jo]at J;exact J.1
 unfold Zz;refine aa (gO V Y W.fits ?_);dsimp only;refine aa (qI ?_);rw[U,aF bG];show i1 _ _ (if (!t.plain&&decide (es.size>1))=cT then _ else _) _ _ _;rw[aF (by simp;omega)];show i1 _ _ ((if (!t.led&&!es.isEmpty)=cT then _ else pure ()) >>= _) _ _ _;rw[aF (by simp[Sq])];refine aa (ae (ae ?_))
 by_cases F:es.size=0
 .have d:es=#[]:=kA F;subst d;simpa using q
 .have I:es.size=1:=by omega
  obtain⟨x,rfl⟩:∃x,es=#[x]:=by obtain⟨l⟩:=es;obtain⟨x,e⟩:=jV.mp I;exact⟨x,cP Array.mk e⟩
  obtain⟨p,G⟩:∃p,t.place=#[p]:=by generalize t.place=R at y;obtain⟨l⟩:=R;obtain⟨x,e⟩:=jV.mp y;exact⟨x,cP Array.mk e⟩
  rw[G]at q ⊢;rcases(show i=0\/i=1 by simp at D;omega)with rfl|rfl
  .simp[xW]at q ⊢;exact q
  .simp[xW]at q ⊢;exact q
end
theorem yO[Inhabited β](f:Nat->β)(xs:List α)(g:α->β)(n:Nat)(R:xs.length=n)(J:∀i x,xs[i]?=bi x->f i=g x):(vr n).map f=xs.map g:=by
 apply jW;intro i;rw[ao,ao]
 by_cases h:i<n
 .rw[eT h,ar #[0]];exact cP bi (J i _ (ar #[0]))
 .rw[cQ (by simp;omega),cQ #[0]];rfl
section
variable{w:ms}
theorem Hj{es:Array (Int×gs)}{t:Za}(W:j9 w s.heap S es ep t)(KR:DB w es.size t)(hsz:es.size<=sizeLine)
  (q:∀(g:pk) (d:Drawn) (it:i0) (fp:List i0) (P:Nat->gs->Prop) (St:Nat->pk->Prop),(∀A:yy,A.handled=cg->Walks prog w A it fp [it] es.size P St)->St 0 g->s.heap.objs.size<=it->(∀b∈fp,b=S\/s.heap.objs.size<=b)->(∀b∈fp,b<g.objs.size)->(∀b o,s.heap.get? b=bi o->g.get? b=bi o) ->
   (∀hZ,ItemsOf P hZ es.size->hZ.toList.Perm (es.toList.map (·.2)))->Q (.ref it) { s with heap:=g,drawn:=d }):i1 #[2] A (Zq (.ref S)) Q E s:=by
 obtain⟨o,B,vx,F⟩:=W.ex;have T:ZG s (.ref S) "set":=⟨o,B,vx.1⟩
 have hSlt:=aB B;refine nn T PySem.F.slot_set_iter (bj PySem.F.slot_set_iter T Ax ?_ (PySem.F.args_set_iter_1 _));show i1 _ _ (Builtin.Frozenset.sizeOf S >>= _) _ _ s;unfold Builtin.Frozenset.sizeOf;refine aa (aa (g_ B F W.fits (ae ?_)));unfold setDrawn;refine aa (aa (gO B F W.fits ?_));dsimp only;refine aa (qI (ae ?_))
 by_cases hdr:(!uV w&&(!t.plain&&decide (es.size>1)))=cT
 .show i1 _ _ (if (!uV w&&(!t.plain&&decide (es.size>1)))=cT then _ else _) _ _ _;rw[ax hdr];refine aa (AC es.size (vr es.size) _ _ #[5] λpl G d=>?_);have I:pl.length=es.size:=by have:=G.length_eq;simpa using this
  refine aa (mq ?_ (by rw[ag,I];exact hsz));have hS1:j9 w (s.heap.push { cls:=.type "tuple",data:=.seq (pl.map λi:Nat=>yx i).toArray }) S es ep t:=W.keep λo e=>ai _ e;obtain⟨o1,ho1,_,hd1⟩:=hS1.ex;refine aa (wpAny_setEpoch_of (s:={ s with heap:=s.heap.push { cls:=.type "tuple",data:=.seq (pl.map λi:Nat=>yx i).toArray },drawn:=d }) ho1 hd1 W.fits ?_);refine aa (bT (ae ⟨_,rfl,"set_iterator",_,⟨_,av _ rfl,rfl⟩,fR.lookup,?_⟩));have z:(s.heap.push { cls:=.type "tuple",data:=.seq (pl.map λi:Nat=>yx i).toArray }).objs.size=s.heap.objs.size+1:=bt ..;refine q _ d _ [_,s.heap.objs.size,S] _ _ (λA hA=>Cr (p:=s.heap.objs.size) (t:=t) (ep:=ep) hA G rfl ?_ ?_) ⟨dy _,av _ rfl,⟨_,ai _ (av _ rfl),rfl,0,rfl⟩,hS1.keep λo e=>ai _ e⟩ ?_ (λb U=>?_) (λb U=>?_) (λb o e=>ai _ (ai _ e)) λhZ hacc=>?_
  .rw[z];exact eM (c9 hSlt)
  .rw[z];exact Nat.succ_ne_self _
  .rw[z];exact iS _
  .simp only[aG,cr,ib]at U;rcases U with rfl|rfl|rfl
   .rw[z];exact .inr (iS _)
   .exact .inr (am _)
   .exact .inl rfl
  .simp only[aG,cr,ib]at U;have z2:∀o2,((s.heap.push { cls:=.type "tuple",data:=.seq (pl.map λi:Nat=>yx i).toArray }).push o2).objs.size=s.heap.objs.size+2:=λo2=>by rw[bt,z]
   rw[z2];rcases U with rfl|rfl|rfl
   .rw[z];exact fz _
   .exact c9 (fz _)
   .exact c9 (c9 hSlt)
  .have e:hZ.toList=pl.map λk=>(es.getD k (0,.none)).2:=by
    apply jW;intro i;rw[ao]
    by_cases D:i<es.size
    .have hia:i<hZ.size:=by rw[hacc.1];exact D
     have V:hZ[i]?=bi (hZ[i]'hia):=mL hia;obtain⟨k,x,Z,Y,L⟩:=hacc.2 i _ V;rw[fj,V,Z];have:es.getD k (0,.none)=x:=by rw[lH,Y];rfl
     rw[L];show bi x.2=bi (es.getD k (0,.none)).2;rw[this]
    .rw[cQ (by rw[cB,hacc.1];omega),cQ #[0]];rfl
   rw[e];refine(G.map _).trans (List.Perm.of_eq ?_);exact yO _ es.toList (·.2) es.size #[5] λi x O=>by
    have hx':es[i]?=bi x:=by rw[<- fj];exact O
    rw[lH,hx'];rfl
 .show i1 _ _ (if (!uV w&&(!t.plain&&decide (es.size>1)))=cT then _ else _) _ _ _;rw[aF hdr];refine aa (ae (aa (wpAny_setEpoch_of B F W.fits ?_)));refine aa (bT (ae ⟨_,rfl,"set_iterator",_,⟨_,av _ rfl,rfl⟩,fR.lookup,?_⟩));have jM:∀(R:List gs) (sl:Nat->Nat),sl 0=0->R.Perm (es.toList.map (·.2))->(∀(s:i2) (i:Nat),j9 w s.heap S es ep t->i<=es.size->∀(A:yy) (Q':Option (gs×Nat)->i2->Prop) (E':gs->i2->Prop),Q' ((R[i]?).map λv=>(v,sl (i+1))) s->i1 #[2] A (Zz S (sl i) i ep) Q' E' s) ->
    Q (.ref s.heap.objs.size) { s with heap:=s.heap.push (rB (yx 0) 0 S es.size ep) }:=λR sl J G O=>by
   have I:R.length=es.size:=by have:=G.length_eq;simpa using this
   refine q _ s.drawn s.heap.objs.size [s.heap.objs.size,S] _ _ (λA hA=>Ft (t:=t) (ep:=ep) (vs:=R) (sl:=sl) hA I rfl (eM hSlt) O) ⟨dy _,?_,W.keep λo e=>ai _ e⟩ (am _) (λb U=>?_) (λb U=>?_) (λb o e=>ai _ e) λhZ hacc=>?_
   .rw[J];exact av _ rfl
   .simp only[aG,cr,ib]at U;rcases U with rfl|rfl
    .exact .inr (am _)
    .exact .inl rfl
   .simp only[aG,cr,ib]at U;rw[bt];rcases U with rfl|rfl
    .exact fz _
    .exact c9 hSlt
   .have e:hZ.toList=R:=by
     apply jW;intro i
     by_cases D:i<es.size
     .have hia:i<hZ.size:=by rw[hacc.1];exact D
      have V:hZ[i]?=bi (hZ[i]'hia):=mL hia;rw[fj,V,hacc.2 i _ V]
     .rw[cQ (by rw[cB,hacc.1];omega),cQ #[0]]
    rw[e];exact G
  cases U:uV w with
  |true=>exact jM ((ZZ (w.params.setOrder S ep) es).toList.map (·.2)) (λ_=>0) rfl ((Fq _ _).map _) λs i hS' D A Q' E' y=>Fu U hS' y
  |false=>
   have Z:es.size<=1:=by
    rcases KR.2 with z|z
    .omega
    .rw[U,z]at hdr;simp at hdr;omega
   have Sq:t.led=cT:=KR.1.resolve_left (by rw[U];exact bG);exact jM (es.toList.map (·.2)) (λi=>if i=0 then 0 else t.place.getD 0 0+1) rfl (fY _) λs i hS' D A Q' E' y=>Hi U hS' Sq Z D y
end
section
variable{w:ms}
theorem Hk{Q:Bool->i2->Prop}(T:s.TypeIs (.ref S) "set")(q:Q dw s):i1 #[2] A (Builtin.List.listLengthHint (.ref S)) Q E s:=by
 unfold Builtin.List.listLengthHint;refine aa (f7 T PySem.F.slot_set_len.lookup ?_);generalize d:("set.__len__":String)=id0
 wp_delta
 rw[show splitId id0=bi ("set","__len__")from by subst d;decide +kernel];subst d;refine aa (dY (T:="set") (b:=cT) T (by rw[fX];kernel_rfl) ?_);refine pK (λy=>absurd y #[1]) (λ_=>pK (λ_=>?_) (λy=>absurd (by decide +kernel) y));exact aa (jR T (ae q))
theorem AG{es:Array (Int×gs)}{t:Za}{Q:List gs->i2->Prop}(G:j9 w s.heap S es ep t)(KR:DB w es.size t)(hsz:es.size<=sizeLine)(hh:A.handled=cg)
  (q:∀(g:pk) (d:Drawn) (tk:Nat) (vs:List gs),(∀b o,s.heap.get? b=bi o->g.get? b=bi o)->vs.Perm (es.toList.map (·.2))->Q vs { s with heap:=g,drawn:=d,toks:=tk }):i1 #[2] A (collect (.ref S)) Q E s:=by
 obtain⟨o,B,vx,F⟩:=G.ex;have hSlt:=aB B;unfold collect;refine aa (wpAny_runValue (iD entry_proto_collect' ?_));rw[gP PySem.F.plain_proto_collect _];show i1 _ A.in1 (newList [] >>= λl=>again (.builtin "list.__iadd__" ⟨[l,.ref S],[]⟩)) _ _ s;refine aa (bT (ae ⟨kH PySem.F.plain_list_iadd _,iD entry_list_iadd' ?_⟩));rw[gP PySem.F.plain_list_iadd _];generalize hL:s.heap.objs.size=L;have gL:(s.heap.push { cls:=.type "list",data:=.seq ([]:List gs).toArray }).get? L=bi { cls:=.type "list",data:=.seq #[] }:=by rw[<- hL];exact av _ rfl
 have hS1:j9 w (s.heap.push { cls:=.type "list",data:=.seq ([]:List gs).toArray }) S es ep t:=G.keep λo e=>ai _ e;have z1:(s.heap.push { cls:=.type "list",data:=.seq ([]:List gs).toArray }).objs.size=L+1:=by rw[bt,hL]
 have kp1:∀b o,s.heap.get? b=bi o->(s.heap.push { cls:=.type "list",data:=.seq ([]:List gs).toArray }).get? b=bi o:=λb o e=>ai _ e;have bL:∀b o,s.heap.get? b=bi o->b≠L:=λb o e=>by rw[<- hL];exact aJ (aB e)
 generalize s.heap.push { cls:=.type "list",data:=.seq ([]:List gs).toArray }=Z at gL hS1 z1 kp1 ⊢;have nY:L≠S:=by rw[<- hL];exact eM hSlt
 obtain⟨o1,ho1,hex1,hd1⟩:=hS1.ex;have T:ZG { s with heap:=Z } (.ref S) "set":=⟨o1,ho1,hex1.1⟩
 show i1 _ A.in1 (Builtin.List.listExtendWith (.ref L) (.ref S) (.ref L)) _ _ _;unfold Builtin.List.listExtendWith;refine aa (jR (T:="set") T ?_);have V:Builtin.List.listSameRef (.ref L) (.ref S)=dw:=by simp[Builtin.List.listSameRef,nY]
 have e2:(Zo "set" == Zo "list")=dw:=by decide
 have e3:(Zo "set" == Zo "tuple")=dw:=by decide
 simp only[V,e2,e3,rM,bu,dM];refine aa (Hj (s:={ s with heap:=Z }) hS1 KR hsz λg d it fp P St W J rj V9 hfl kp2 hperm=>?_);have gL2:=kp2 _ _ gL;have hLf:L∉fp:=λR=>by
  rcases V9 L R with y|y
  .exact nY y
  .rw[show ZQ { s with heap:=Z }=Z from rfl,z1]at y;exact absurd y (Nat.not_le.mpr (fz _))
 obtain⟨o2,ho2,hex2,hd2⟩:=(hS1.keep λo e=>kp2 S o e).ex;refine aa (c8 (Hk (s:={ s with heap:=g,drawn:=d }) ⟨o2,ho2,hex2.1⟩ ?_));have itL:it≠L:=λy=>by have:=rj;rw[show ZQ { s with heap:=Z }=Z from rfl,z1,y]at this;exact absurd this (Nat.not_le.mpr (fz _))
 have old:∀b o,s.heap.get? b=bi o->b≠it:=λb o e y=>by have Y:=aB (kp1 b o e);have z:=rj;rw[show ZQ { s with heap:=Z }=Z from rfl]at z;rw[y]at Y;exact absurd Y (iq.mpr z)
 have key:∀(g':pk) (c tk:Nat),St 0 g'->(∀b o,b≠L->g.get? b=bi o->g'.get? b=bi o)->g'.get? L=bi { cls:=.type "list",data:=.seq #[] c } ->
   ZC #[2] A (.builtin "list.extend.loop" ⟨[.ref L,.ref it,.ref L],[]⟩) (wants (λr D=>i1 #[2] A (match r with|.ref a=>(do match (<- load a).data with|.seq I _=>pure I.toList|_=>unsupported "internal:collect")|_=>unsupported "internal:collect") Q E D) E) { s with heap:=g',drawn:=d,toks:=tk }:=by
  intro g' c tk O kp3 gL3;refine codeAny_extend_loopS (W A.in1 (by simpa using hh)).toS hsz L hLf (.ref L) es.size 0 _ #[] c rfl (dy _) O gL3 (ItemsOf.nil _) λD hZ c' R gL4 hacc=>?_;have ee:D={ s with heap:=D.heap,drawn:=d,toks:=D.toks }:=by
   have Z:=R.gens;have Y:=R.drawn;have z:=R.os
   cases D
   simp only at Z Y z;subst Z;subst Y;subst z;rfl
  refine aa (wpAny_load gL4 (ae ?_));rw[ee];refine q D.heap d D.toks hZ.toList (λb o e=>R.heap b o (λy=>?_) (kp3 b o (bL b o e) (kp2 b o (kp1 b o e)))) (hperm hZ hacc);rcases aG.mp y with y|y
  .exact bL b o e y
  .exact old b o e (aM.mp y)
 refine pK (λ_=>?_) (λ_=>ae ⟨kH PySem.F.plain_extend_loop _,key g 0 _ J (λ_ _ _ e=>e) gL2⟩);refine aa (fC (aa ?_));show i1 _ _ (updateSeq L (·.push .none) >>= λ_=>updateSeq L (·.pop)) _ _ _;refine aa (lg gL2 rfl ?_);have g5:=dI (Zh (·.push Zb)) gL2 rfl;refine lg (hz:=by seq_fits) g5 rfl ?_;have g6:=dI (Zh (·.pop)) g5 rfl;refine ae ⟨kH PySem.F.plain_extend_loop _,key _ _ _ ((W A hh).frame 0 _ _ J λb U o e=>?_) (λb o U e=>?_) g6⟩
 .have hbL:b≠L:=λy=>hLf (y▸U);exact(de _ _ (YU hbL)).trans ((de _ _ (YU hbL)).trans e)
 .exact(de _ _ (YU U)).trans ((de _ _ (YU U)).trans e)
end
section
variable{w:ms}
theorem Cs{ks:List Str}(z:Az prog w s.heap S ks)(few:ks.length<64)(hh:A.handled=cg)
  (q:∀(g0 W:pk) (d:Drawn) (tk:Nat) (out:Array gs) (ss:List Str) (e:Nat),(∀b o,s.heap.get? b=bi o->g0.get? b=bi o)->(∀b o,g0.get? b=bi o->W.get? b=bi o)->W.get? g0.objs.size=bi (Y5 "list" out e) ->
   StrsAre out.toList ss->ss.Perm ks->sortedS ss=cT->Q (.ref g0.objs.size) { s with heap:=W,drawn:=d,toks:=tk }):i1 #[2] A (call (.builtin "sorted") [.ref S]) Q E s:=by
 obtain⟨o,es,ep,t,V,vx,D,hel,G,U,I,KR⟩:=z;have y:j9 w s.heap S es ep t:=⟨⟨o,V,vx,D⟩,I⟩
 have dC:es.size=ks.length:=by have:=G.length_eq;simpa using this
 apply i7 kind_sorted tW tX (tY _);show i1 _ _ (checkCount "sorted" 1 1 _ >>= _) _ _ _;refine aa (ae (aa (AG y KR (by rw[jz];omega) (by simpa using hh) λg d tk R kp pv=>?_)));have F:∀v∈R,∃x t,v=ZN x t:=λv F=>by obtain⟨e,O,rfl⟩:=aE.mp (pv.mem_iff.mp F);obtain⟨t,B⟩:=AA hel e O;exact⟨_,t,B⟩
 have wV:=strsAre_map R F;have hks:(R.map strOf).Perm ks:=by refine(pv.map strOf).trans ?_;rw[aU];exact G
 have hvl:R.length<64:=by have:=hks.length_eq;rw[ag]at this;omega
 refine aa (nJ ?_ (by rw[jz];omega));have oL:(g.push (Y5 "list" R.toArray 0)).get? g.objs.size=bi (Y5 "list" R.toArray 0):=av _ rfl;refine aa (c8 (bj qB ⟨_,oL,rfl⟩ pM (list_sort_treeK strKind_oneLt oL wV.keysOf (λa b r e=>keyKind_strs (by rw[<- e];exact wV)) hvl λJ a1 a2=>⟨_,rfl,?_⟩) (qC _)));obtain⟨ss,Z,Y,L⟩:=sorted_out_str wV a1 a2;obtain⟨e,O⟩:=sortedHeap_at (out:=(rn J).map (·.2)) oL;refine ae ⟨_,rfl,q g _ d tk _ ss e kp (λb o U=>?_) O Z (Y.trans hks) L⟩;rw[sortedHeap_old (aJ (aB U)) (by rw[bt];exact c9 (aB U))];exact ai _ U
noncomputable abbrev Uk(ty:String)(x:Str)(t:Tok):Obj:={ cls:=.type ty,data:=.fields #[.str x t,.int 0 0] }
theorem Hl{t:Tok}(Y:A.handled=cg)(U:l.length+1<ZA)
  (q:∀g V,No prog w (λj=>tx [l.getD j 0]) g s.heap.objs.size l.length->(∀b o,s.heap.get? b=bi o->g.get? b=bi o)->Q (.ref s.heap.objs.size) { s with heap:=g,toks:=V }):i1 #[2] A (call (.type "set") [.str (tx l) t]) Q E s:=by
 have z:(s.heap.push (eE w)).objs.size=s.heap.objs.size+1:=bt ..;have R:(tx l).cps.size=l.length:=by simp[tx]
 have B5:∀i v,SignAt (tx l) i v->∃t,v=ZN (tx [l.getD i 0]) t:=by
  rintro i v ⟨c,u,J,rfl⟩;have:l[i]?=bi c:=by simpa[tx]using J
  exact⟨u,by rw[aA,this];rfl⟩
 have B:ZG { s with heap:=s.heap.push (eE w) } (.str (tx l) t) "str":=sk _ _ _;rw[<- R]at U q
 cases D:(tx l).cps.all (· < 128)
 .refine nv (T:="str") (fp:=λit=>[it]) (P:=SignAt (tx l)) (St:=λit i h=>h.IsStrIter it "str_iterator" (tx l) t i) B (by rw[fX];kernel_rfl) (by rw[fX];kernel_rfl) #[1]
   (λA E Q y=>wpAny_pyIter_wide D (by show Q (.ref (s.heap.push (eE w)).objs.size) _;rw[z];exact y)) (λA it W _=>Walks.strWide W it (tx l) t) #[5] ⟨Uk "str_iterator" (tx l) t,?_,rfl,rfl⟩ B5 Y U q
  rw[<- z];exact av _ rfl
 .refine nv (T:="str") (fp:=λit=>[it]) (P:=SignAt (tx l)) (St:=λit i h=>h.IsStrIter it "str_ascii_iterator" (tx l) t i) B (by rw[fX];kernel_rfl) (by rw[fX];kernel_rfl) #[1]
   (λA E Q y=>wpAny_pyIter_ascii D (by show Q (.ref (s.heap.push (eE w)).objs.size) _;rw[z];exact y)) (λA it W _=>Walks.strAscii W it (tx l) t) #[5] ⟨Uk "str_ascii_iterator" (tx l) t,?_,rfl,rfl⟩ B5 Y U q
  rw[<- z];exact av _ rfl
theorem LD(Y:A.handled=cg)(U:l.length+1<ZA)(Z:s.heap.IsTuple a bx.toArray)(W:cR (kq l) bx)
  (q:∀g G,No prog w (λj=>tx [l.getD j 0]) g s.heap.objs.size l.length->(∀b o,s.heap.get? b=bi o->g.get? b=bi o)->Q (.ref s.heap.objs.size) { s with heap:=g,toks:=G }):i1 #[2] A (call (.type "set") [.ref a]) Q E s:=by
 have z:(s.heap.push (eE w)).objs.size=s.heap.objs.size+1:=bt ..;have R:bx.toArray.size=l.length:=by have:=W.length;unfold kq at this;simpa using this.symm
 have V:a<s.heap.objs.size:=by obtain⟨o,B,_⟩:=Z;exact aB B
 have Tq:(s.heap.push (eE w)).IsTuple a bx.toArray:=Z.at λo e=>ai _ e;have B5:∀i v,bx.toArray[i]?=bi v->∃t,v=ZN (tx [l.getD i 0]) t:=by
  intro i v D;have I:bx[i]?=bi v:=by simpa using D
  have L:i<l.length:=by have:=(ak.mp I).1;rw[<- R];simpa using this
  have O:(kq l)[i]?=bi (.str (tx [l.getD i 0])):=by unfold kq;rw[ao,ar L,aA,ar L];rfl
  obtain⟨u,d,t,e⟩:=W.get O;rw[I]at d;exact⟨t,(bg d).trans e⟩
 rw[<- R]at U q;refine nv (T:="tuple") (fp:=λit=>[it,a]) (P:=λi v=>bx.toArray[i]?=bi v) (St:=λit i h=>h.IsTupleIter it a i/\h.IsTuple a bx.toArray) Tq.typeIs (by rw[fX];kernel_rfl) (by rw[fX];kernel_rfl) #[1]
  (λA E Q y=>fw Tq (by show Q (.ref (s.heap.push (eE w)).objs.size) _;rw[z];exact y)) (λA it J e=>Walks.tuple J it a (by rw[e];exact aJ (c9 V)) bx.toArray) (by simp;exact λe=>absurd V (by rw[<- e];exact bX _)) ⟨⟨{ cls:=.type "tuple_iterator",data:=.fields #[.ref a,.int 0 0] },?_,rfl,rfl⟩,?_⟩ B5 Y U q
 .rw[<- z];exact av _ rfl
 .exact Tq.at λo e=>ai _ e
end
theorem LF{ss ks:List Str}(U:ss.Perm ks)(w:ks.Nodup)(y:∀x,x∈ks↔∃j,j<l.length/\tx [l.getD j 0]=x)(O:sortedS ss=cT) :
  ∃m:List Nat,ss=m.map (λc=>tx [c])/\m.Nodup/\m.Pairwise (· <= ·)/\∀c,c∈m↔c∈l:=by
 have all:∀z∈ss,tx [z.cps.toList.headD 0]=z:=λz V=>by obtain⟨j,_,e⟩:=(y z).mp (U.mem_iff.mp V);subst e;rfl
 have t:ss=(ss.map λz=>z.cps.toList.headD 0).map λc=>tx [c]:=by
  rw[aU]
  conv=>lhs;rw[<- nj ss]
  exact bW λz V=>(all z V).symm
 refine⟨ss.map λz=>z.cps.toList.headD 0,t,?_,?_,λc=>?_⟩
 .have nd:ss.Nodup:=U.nodup_iff.mpr w;rw[t]at nd;exact List.Pairwise.of_map (λc=>tx [c]) (λa b h e=>h (by rw[e])) nd
 .refine Aw _ ?_;rw[aU];rw[t]at O;exact O
 .constructor
  .intro J;obtain⟨z,V,rfl⟩:=aE.mp J;obtain⟨j,I,e⟩:=(y z).mp (U.mem_iff.mp V);subst e;show l.getD j 0∈l;rw[aA,ar I];exact dX I
  .intro J;obtain⟨j,I,e⟩:=ja J;refine aE.mpr ⟨tx [c],U.mem_iff.mpr ((y _).mpr ⟨j,I,?_⟩),rfl⟩;rw[aA,ar I,e];rfl
def LG(K:uR)(H:Hp)(v:V)(l:List Nat):Prop:=v=.str (tx l)\/∃a,v=.ref a/\gg K H a (kq l)
def Hm(K:uR)(te:TE):TE:=λσ H Q=>te σ H λv H1=>∃l,LG K H1 v l/\l.length<4000/\(∀m:List Nat,m.Nodup->(∀c∈m,c∈l)->m.length<64) /\
 ∀m:List Nat,m.Nodup->m.Pairwise (· <= ·)->(∀c,c∈m↔c∈l)->∀a H2,H1 a=cg->H2=fF H1 a (.lst (m.map λc=>V.str (tx [c])))->Q (.ref a) H2
theorem bH.kept2{d':Drawn}(I:bH X aj σ H s)(k:∀b o,s.heap.get? b=bi o->h'.get? b=bi o):bH X aj σ H { s with heap:=h',drawn:=d',toks:=t' }:=
 I.step (g':=s.gens) (ch:=[]) (λ_ z=>nomatch z) (λb o _ _ _ e _=>k b o e) (λb o _ _ _ e _=>⟨o.slots,k b o e⟩) (λ_ _ _ _ n=>n) (λb o _ e=>⟨o,k b o e⟩) (λ_ _ e=>e) (λ_ _ _ e=>e) (λb Z e=>⟨#[],by rw[e];simp⟩)
  (λm y=>let ⟨o,es,ep,ho,r⟩:=y;⟨o,es,ep,k _ o ho,r⟩) (I.hok.kept k) I.bare
theorem Fv{p1 p2 SU pos2:Pos}(Z:X.mg "sorted"=cg)(h3:X.mg "set"=cg)(O:QE X e te)(J:X.calm=cT:=by rfl)
  (XU:Gl X "sorted":=by rfl) (Kq:Gl X "set":=by rfl) (WU:ow [e] X.env=(dw,eval e X.env)::ow [] X.env:=by rfl):QE X (.Call (.Name "sorted" p1) [.Call (.Name "set" p2) [e] [] pos2] [] SU) (Hm X.K te):=⟨by
 intro W s B H Q I h;refine db (qe I XU Z PyProof.Rows.boot_sorted (kx ?_) #[1] #[1]);show i1 _ _ (spliced ((dw,eval (.Call (.Name "set" p2) [e] [] pos2) X.env)::[])) _ _ s;refine jm (db (qe I Kq h3 PyProof.Rows.boot_set (d7 ?_ WU rfl) #[1] #[1]));rw[WU];show i1 _ _ (spliced ((dw,eval e X.env)::[])) _ _ s;refine jm (ii (O.h W s B H _ I h) λu Y zw=>?_);obtain⟨v,H1,I1,L,l,D,U,few,q⟩:=zw;refine jQ ?_;have hh:X.A.handled=cg:=I1.ok.hd J;have hb':l.length+1<ZA:=by unfold ZA;omega
 have jM:∀g tk,No X.prog X.w (λj=>tx [l.getD j 0]) g Y.heap.objs.size l.length->(∀b o,Y.heap.get? b=bi o->g.get? b=bi o) ->
   i1 #[3] X.A (spliced []) (λR s₂=>i1 #[3] X.A (call (.builtin "sorted") (.ref Y.heap.objs.size::R)) (EP X W B Q) X.xe s₂) X.xe { Y with heap:=g,toks:=tk }:=λg tk hM kp=>by
  refine jQ ?_;obtain⟨ks,z,nd,mem,len⟩:=hM;have wW:ks.length<64:=by
   obtain⟨m,em,mn,_,mm⟩:∃m:List Nat,ks=m.map (λc=>tx [c])/\m.Nodup/\True/\∀c∈m,c∈l:=by
    have all:∀z∈ks,tx [z.cps.toList.headD 0]=z:=λz F=>by obtain⟨j,_,e⟩:=(mem z).mp F;subst e;rfl
    have em:ks=(ks.map λz=>z.cps.toList.headD 0).map λc=>tx [c]:=by
     rw[aU]
     conv=>lhs;rw[<- nj ks]
     exact bW λz F=>(all z F).symm
    refine⟨_,em,?_,trivial,λc J=>?_⟩
    .have nd':=nd;rw[em]at nd';exact List.Pairwise.of_map (λc=>tx [c]) (λa b h e=>h (by rw[e])) nd'
    .obtain⟨z,F,rfl⟩:=aE.mp J;obtain⟨j,hj,e⟩:=(mem z).mp F;subst e;show l.getD j 0∈l;rw[aA,ar hj];exact dX hj
   rw[em,ag];exact few m mn mm
  refine Cs z wW hh λg0 g1 d tk' out ss ep k0 k1 gL wV hperm hsrt=>?_;obtain⟨m,em,mn,mp,mm⟩:=LF hperm nd mem hsrt;have I2:bH X W B H1 { Y with heap:=g0,drawn:=d,toks:=tk' }:=I1.kept2 λb o e=>k0 b o (kp b o e);have pU:H1 g0.objs.size=cg:=I2.hok.fresh (am _);have hvals:cR (m.map λc=>V.str (tx [c])) out.toList:=by have e:=oH wV;rw[em,aU]at e;exact e
  refine⟨.ref g0.objs.size,_,I2.laid (o:=.lst (m.map λc=>V.str (tx [c]))) (t':=tk') k1 (am _) ?_,rfl,q m mn mp mm _ _ pU rfl⟩;refine⟨?_,out.toList,ep,hvals,gL⟩;rw[ag];exact aT (cx (few m mn λc J=>(mm c).mp J)) #[1]
 rcases D with rfl|⟨a,rfl,hT⟩
 .obtain⟨t,rfl⟩:=L;exact Hl hh hb' jM
 .cases L
  obtain⟨y,G,w,_⟩:=I1.tuple hT;exact LD hh hb' w G jM⟩
def Xl(K:uR):List V->Hp->VK->Prop:=λxs H Q=>∃(p:i0) (bs:List Bool),xs=[.ref p]/\sw K H p (bs.map V.bl)/\Q (.bl (bs.all id)) H
theorem Ul(J:X.calm=cT:=by rfl):Nn X (.builtin "all") (Xl X.K):=⟨by
 intro W s B H U us Q I r h;obtain⟨p,bs,rfl,G,q⟩:=h;obtain⟨u,rfl,Z⟩:=lR r
 cases Z
 obtain⟨t,z,pl,F⟩:=I.list G;have L:=I.ok.hd J;have Y:s.heap.IsList p t.toArray:=pl.isList;have hlt:p<s.heap.objs.size:=by obtain⟨o,w,_⟩:=Y;exact aB w
 have dC:t.toArray.size=bs.length:=by have:=z.length;rw[ag]at this;simpa using this.symm
 refine call_all_walk (jO Y ?_);refine⟨_,_,_,_,_,_,λi=>bs.getD i cT,rfl,Walks.list (A:=X.A.in1) (by simpa using L) _ p (aJ hlt) t.toArray,⟨⟨_,av _ rfl,rfl,rfl⟩,Y.at λo e=>ai _ e⟩,?_,λh' R kp=>?_⟩
 .intro i v s Q E hP hQ;have D:t[i]?=bi v:=by simpa using hP
  have hlt:i<bs.length:=by have:=(ak.mp D).1;rw[<- dC];simpa using this
  have O:(bs.map V.bl)[i]?=bi (.bl bs[i]):=by rw[ao,ar hlt];rfl
  obtain⟨u,d,Z⟩:=z.get O;rw[D]at d;obtain rfl:v=.bool bs[i]:=(bg d).trans Z;refine cZ ?_;have e:bs.getD i cT=bs[i]:=by rw[aA,ar hlt];rfl
  rw[<- e];exact hQ
 .have e:(vr t.toArray.size).all (λi=>bs.getD i cT)=bs.all id:=by
   rw[dC]
   conv=>rhs;rw[<- range_getD bs cT]
   rw[tZ];rfl
  rw[e];refine⟨.bl _,H,I.kept (t':=R) λb o eb=>kp b o (λy=>?_) (ai _ eb),rfl,q⟩;rw[aM]at y;exact absurd (aB eb) (by rw[y];exact bX _)⟩
section
variable{w:ms}
end
section
variable{nm:List Str}{wi:TI}{g:TG}{tc:TT}
end
open AutoSeq1 (wpAny_loadPart')
theorem Ho(l b:i0)(D L:Array gs)(y I:Nat)(t J:Option i0)(s1 Y:Array (Option gs))(z:D.isEmpty=cT) :
  Meets (Builtin.«tuple.__add__» ⟨[.ref l,.ref b],[]⟩) (λ_ R s=>s.heap.get? l=bi { cls:=.type "tuple",dict:=t,data:=.seq D y,slots:=s1 }/\s.heap.get? b=bi { cls:=.type "tuple",dict:=J,data:=.seq L I,slots:=Y }/\R (.ok (.ret (.ref b))) s):=
 .of_wp λW w A R s h=>by
  obtain⟨U,g,d,V,B⟩:=s;obtain⟨Z,e2,h⟩:=h;have O:=PyProof.Rows.sub_tuple_tuple
  wp_walk using bE Z,bE e2
  exact⟨_,rfl,h⟩
def Um(K:uR):R2:=λx y H Q=>∃a b xs ys,x=.ref a/\y=.ref b/\gg K H a xs/\gg K H b ys/\xs.length+ys.length<=sizeLine/\∀p H2,oG H H2->gg K H2 p (xs++ys)->Q (.ref p) H2
theorem Qj:X7 X (yz .Add) (Um X.K):=⟨by
 intro W s B H x y v u Q I R Y h;obtain⟨a,b,w,ys,rfl,rfl,D,U,V,q⟩:=h
 by_cases O:w=[]
 .subst O
  cases R
  cases Y
  obtain⟨t,z,L,_⟩:=I.tuple D;obtain⟨its2,r2,p2,_⟩:=I.tuple U;have d:t=[]:=z.nil_iff.mpr rfl;obtain⟨⟨c1,d1,Z,J⟩,f1,hc1,n1,hd1⟩:=id L;obtain⟨⟨c2,d2,F,l2⟩,f2,hc2,n2,hd2⟩:=id p2;simp only at hc1 hd1 hc2 hd2;subst hc1 hd1 hc2 hd2;refine tU ⟨_,f1,rfl⟩ ⟨_,f2,rfl⟩ n9 rL PySem.F.slot_tuple_add PySem.F.entry_tuple_add (PySem.F.args_tuple_add_2 _ _) (Ho a b t.toArray its2.toArray n1 n2 d1 d2 J l2 (by rw[d];rfl)) ⟨f1,f2,?_⟩;exact⟨.ref b,H,I,rfl,q b H (oG.refl H) U⟩
 .exact Lj W s B H _ _ v u Q I R Y ⟨a,b,w,ys,rfl,rfl,D,U,O,V,λe=>q a H (oG.refl H) (by rw[e,bD];exact D),λ_ p G=>q p _ (ca G _) (gg.of dr)⟩⟩
inductive W where
 |non|bl (b:Bool)|int (i:Int)|str (l:List Nat)|tup (ws:List W)|loc (n:Nat)
inductive DK where
 |i (z:Int)|s (l:List Nat)
deriving DecidableEq
def DK.key:DK->sv
 |.i z=>.inl z
 |.s l=>.inr (tx l)
inductive KX where
 |bo (b:Bool)|fl (ks:List Int)|pr (i:Int) (ks:List Int)
deriving DecidableEq
noncomputable def KX.w:KX->W
 |.bo b=>.bl b
 |.fl ks=>.tup (ks.map W.int)
 |.pr i ks=>.tup [.int i,.tup (ks.map W.int)]
noncomputable def Hq(ks:List Int):Int:=reduceHash (ZU (ks.map hashInt))
def KX.hash:KX->Int
 |.bo b=>hashInt (if b then 1 else 0)
 |.fl ks=>Hq ks
 |.pr i ks=>reduceHash (ZU [hashInt i,Hq ks])
inductive al where
 |lst (ws:List W)
 |ro (ws:List W)
 |exc (c:Str)
 |dct (kvs:List (DK×W))
 |tab (P:i0) (pos:Pos) (q:Str)
 |rod (kvs:List (DK×W))
 |dcx (kvs:List (KX×W))
 |rox (kvs:List (KX×W))
 |obj (c:Str) (fs:List (Str×W))
 |pin (k:Bool) (c:i0) (o:Obj) (w:W)
 |gone
noncomputable abbrev lw:Nat:=1000000
theorem jk(h:n<=lw):n<=sizeLine:=aT h #[1]
theorem Ql(h:n<=lw):n<sizeLine:=jr h #[1]
inductive R(α:Type) where
 |ok (a:α) (st:List al)
 |ex (c:Str) (st:List al)
 |bad
end L2
variable{st bF st1:List L2.al}{kvs L:List (L2.KX×L2.W)}{ws cws:List L2.W}{F:List L2.W->List L2.al->L2.R L2.W}{G:List L2.W->List L2.al->L2.R (List L2.W)}{f':L2.W->L2.W->List L2.al->L2.R L2.W}{ck:Option (Nat×List L2.W)}
namespace L2
open PySem PySem.Spec PyProof.Rows
noncomputable def R.bind:R α->(α->List al->R β)->R β
 |.ok a st,k=>k a st
 |.ex c st,_=>.ex c st
 |.bad,_=>.bad
@[simp] theorem R.bind_ok{α β:Type}(a:α)(st:List al)(k:α->List al->R β):(R.ok a st).bind k=k a st:=rfl
@[simp] theorem R.bind_ex{α β:Type}(c:Str)(st:List al)(k:α->List al->R β):(R.ex c st:R α).bind k=.ex c st:=rfl
@[simp] theorem R.bind_bad{α β:Type}(k:α->List al->R β):(R.bad:R α).bind k=.bad:=rfl
noncomputable abbrev cE:=List (Option W)
inductive RS where
 |nx (ρ:cE) (st:List al)|rt (w:W) (st:List al)|bk (ρ:cE) (st:List al)|ct (ρ:cE) (st:List al)
 |ex (c:Str) (ρ:cE) (st:List al)|bad
abbrev FE:=cE->List al->R W
abbrev FT:=cE->List al->R Bool
abbrev FA:=cE->List al->R (List W)
abbrev FS:=cE->List al->RS
section
variable(K:uR)
mutual
def bh(μ:List i0)(H:Hp):W->V->Prop
 |.non,v=>v=.non
 |.bl b,v=>v=.bl b
 |.int i,v=>v=.int i
 |.str l,v=>v=.str (tx l)
 |.tup ws,v=>∃p vs,v=.ref p/\gg K H p vs/\RelWs μ H ws vs
 |.loc n,v=>∃a,μ[n]?=bi a/\v=.ref a
def RelWs(μ:List i0)(H:Hp):List W->List V->Prop
 |[],vs=>vs=[]
 |w::ws,vs=>∃x xs,vs=x::xs/\bh μ H w x/\RelWs μ H ws xs
end
end
theorem cJ(h:μ <+: μ')(e:μ[n]?=bi a):μ'[n]?=bi a:=by obtain⟨t,rfl⟩:=h;rw[aV (ak.mp e).1];exact e
section
mutual
theorem bh.mono(h:μ <+: μ')(e:dH K H H'):∀{w:W} {v:V},bh K μ H w v->bh K μ' H' w v
 |.non,_,r=>by unfold bh at r ⊢;exact r
 |.bl _,_,r=>by unfold bh at r ⊢;exact r
 |.int _,_,r=>by unfold bh at r ⊢;exact r
 |.str _,_,r=>by unfold bh at r ⊢;exact r
 |.tup _,_,r=>by unfold bh at r ⊢;obtain⟨p,U,a,b,c⟩:=r;exact⟨p,U,a,e _ _ b,RelWs.mono h e c⟩
 |.loc _,_,r=>by unfold bh at r ⊢;obtain⟨a,b,c⟩:=r;exact⟨a,cJ h b,c⟩
theorem RelWs.mono(h:μ <+: μ')(e:dH K H H'):∀{ws:List W} {vs:List V},RelWs K μ H ws vs->RelWs K μ' H' ws vs
 |[],_,r=>by unfold RelWs at r ⊢;exact r
 |_::_,_,r=>by unfold RelWs at r ⊢;obtain⟨x,d,a,b,c⟩:=r;exact⟨x,d,a,bh.mono h e b,RelWs.mono h e c⟩
end
theorem RelWs.nilI:RelWs K μ H [] []:=by unfold RelWs;rfl
theorem RelWs.consI{w:W}{x:V}{xs:List V}(a:bh K μ H w x)(b:RelWs K μ H ws xs):RelWs K μ H (w::ws) (x::xs):=by unfold RelWs;exact⟨x,xs,rfl,a,b⟩
theorem RelWs.nilE(h:RelWs K μ H [] vs):vs=[]:=by unfold RelWs at h;exact h
theorem RelWs.consE{w:W}(h:RelWs K μ H (w::ws) vs):∃x xs,vs=x::xs/\bh K μ H w x/\RelWs K μ H ws xs:=by unfold RelWs at h;exact h
theorem RelWs.pr:∀{ws:List W} {vs:List V},RelWs K μ H ws vs↔Paired (λw v=>bh K μ H w v) ws vs
 |[],vs=>⟨λh=>by rw[h.nilE];exact .nil,λh=>by cases h;exact .nilI⟩
 |w::ws,vs=>⟨λh=>by obtain⟨x,d,rfl,a,b⟩:=h.consE;exact .cons a (RelWs.pr.mp b),λh=>by cases h with|cons a b=>exact .consI a (RelWs.pr.mpr b)⟩
theorem RelWs.len(h:RelWs K μ H ws vs):ws.length=vs.length:=Paired.length (RelWs.pr.mp h)
theorem RelWs.app:∀{D:List W} {xs:List V} {bs:List W} {ys:List V},RelWs K μ H D xs->RelWs K μ H bs ys->RelWs K μ H (D++bs) (xs++ys)
 |[],xs,bs,ys,a,b=>by rw[a.nilE];exact b
 |w::D,xs,bs,ys,a,b=>by obtain⟨x,xs,rfl,c,d⟩:=a.consE;exact .consI c (RelWs.app d b)
theorem RelWs.get:∀{ws:List W} {vs:List V} {i:Nat} {w:W},RelWs K μ H ws vs->ws[i]?=bi w->∃v,vs[i]?=bi v/\bh K μ H w v
 |[],_,_,_,_,e=>by simp at e
 |x::ws,vs,0,w,h,e=>by obtain⟨y,U,rfl,a,b⟩:=h.consE;simp at e;subst e;exact⟨y,rfl,a⟩
 |x::ws,vs,i+1,w,h,e=>by obtain⟨y,U,rfl,a,b⟩:=h.consE;simpa using RelWs.get (i:=i) b (by simpa using e)
theorem RelWs.take:∀{ws:List W} {vs:List V} (n:Nat),RelWs K μ H ws vs->RelWs K μ H (ws.take n) (vs.take n)
 |_,_,0,_=>by simp only[mv];exact .nilI
 |[],vs,n+1,h=>by rw[h.nilE];exact .nilI
 |x::ws,vs,n+1,h=>by obtain⟨y,U,rfl,a,b⟩:=h.consE;exact .consI a (RelWs.take n b)
theorem RelWs.drop:∀{ws:List W} {vs:List V} (n:Nat),RelWs K μ H ws vs->RelWs K μ H (ws.drop n) (vs.drop n)
 |_,_,0,h=>h
 |[],vs,n+1,h=>by rw[h.nilE];exact .nilI
 |x::ws,vs,n+1,h=>by obtain⟨y,U,rfl,a,b⟩:=h.consE;exact RelWs.drop n b
theorem bh.intE{i:Int}{v:V}(h:bh K μ H (.int i) v):v=.int i:=by unfold bh at h;exact h
theorem bh.blE{b:Bool}{v:V}(h:bh K μ H (.bl b) v):v=.bl b:=by unfold bh at h;exact h
theorem bh.nonE{v:V}(h:bh K μ H .non v):v=.non:=by unfold bh at h;exact h
theorem bh.strE{v:V}(h:bh K μ H (.str l) v):v=.str (tx l):=by unfold bh at h;exact h
theorem bh.tupE{v:V}(h:bh K μ H (.tup ws) v):∃p vs,v=.ref p/\gg K H p vs/\RelWs K μ H ws vs:=by unfold bh at h;exact h
theorem bh.locE{v:V}(h:bh K μ H (.loc n) v):∃a,μ[n]?=bi a/\v=.ref a:=by unfold bh at h;exact h
theorem bh.int{i:Int}:bh K μ H (.int i) (.int i):=by unfold bh;rfl
theorem bh.bl{i:Bool}:bh K μ H (.bl i) (.bl i):=by unfold bh;rfl
theorem bh.non:bh K μ H .non .non:=by unfold bh;rfl
theorem bh.str:bh K μ H (.str l) (.str (tx l)):=by unfold bh;rfl
theorem bh.tupI{p:i0}(a:gg K H p vs)(b:RelWs K μ H ws vs):bh K μ H (.tup ws) (.ref p):=by unfold bh;exact⟨p,vs,rfl,a,b⟩
theorem bh.locI(e:μ[n]?=bi a):bh K μ H (.loc n) (.ref a):=by unfold bh;exact⟨a,e,rfl⟩
end
noncomputable def Uo(a:i0)(C:gs):HO:=.ext λh=>∃o vs,h.get? a=bi o/\o.cls=C/\o.data=.fields vs
noncomputable def jC(b:i0)(q:Str):HO:=.ext λh=>∃o vs t,h.get? b=bi o/\o.data=.fields vs/\vs[1]?=bi (.str q t)
def Wx(K:uR)(H:Hp)(a:i0)(xs:List V):Prop:=
 (∃o,H a=bi (.frz o (.lst xs)))\/∃(o:Obj) (bx:Array gs) (n:Nat),K.lookup a=bi o/\o.cls=.type "list"/\o.dict=cg/\o.data=.seq bx n/\bx.size<=sizeLine/\cR xs bx.toList
theorem Wx.sq{xs:List V}(h:Wx K H a xs):sw K H a xs:=by
 rcases h with⟨o,h⟩|h
 .exact .inl (.inr ⟨o,h⟩)
 .exact .inr h
noncomputable def al.isRo:al->Bool
 |.ro _=>cT
 |.gone=>cT
 |_=>dw
def DX(a:i0)(es:List YV):pk->Prop:=λh=>∃o ep,h.get? a=bi o/\o.ExactDict/\o.data=.dict es.toArray ep
noncomputable abbrev yP(a:i0)(es:List YV):HO:=.ext (DX a es)
def qg(K:uR)(μ:List i0)(H:Hp)(p:KX×W)(e:YV):Prop:=e.hash=p.1.hash/\(∃v,bh K μ H p.1.w v/\cN v e.key)/\∃v,bh K μ H p.2 v/\cN v e.val
noncomputable def lE(a:i0)(o:Obj):HO:=.ext λh=>h.get? a=bi o
def lS(K:uR)(mg:Str->Option gs)(μ:List i0)(H:Hp):al->i0->Prop
 |.lst ws,a=>∃vs,H a=bi (.lst vs)/\RelWs K μ H ws vs
 |.ro ws,a=>∃vs,Wx K H a vs/\RelWs K μ H ws vs
 |.exc c,a=>∃C,mg c=bi C/\H a=bi (Uo a C)
 |.dct kvs,a=>∃vs,H a=bi (.dK ((kvs.map λp=>p.1.key).zip vs))/\RelWs K μ H (kvs.map λp=>p.2) vs
 |.rod kvs,a=>∃vs o,H a=bi (.frz o (.dK ((kvs.map λp=>p.1.key).zip vs)))/\RelWs K μ H (kvs.map λp=>p.2) vs
 |.dcx kvs,a=>∃es,H a=bi (yP a es)/\(a==Zf)=dw/\Paired (qg K μ H) kvs es/\(kvs.map λp=>p.1).Nodup
 |.rox kvs,a=>∃es o,H a=bi (.frz o (yP a es))/\(a==Zf)=dw/\Paired (qg K μ H) kvs es/\(kvs.map λp=>p.1).Nodup
 |.obj c fs,a=>∃C B vs,mg c=bi (.ref C)/\H a=bi (.ins C B ((fs.map λp=>p.1).zip vs))/\RelWs K μ H (fs.map λp=>p.2) vs
 |.tab P pos q,a=>a=P/\∃ps,H a=bi (.tbl ps)/\Z0 ps.toList/\(ZH pos ps.toList=cg\/∃c,ZH pos ps.toList=bi (.ref c)/\H c=bi (jC c q))
 |.pin k c o w,a=>a=c/\H a=bi (lE a o)/\(k=dw->∃fd W,o.data=.func fd/\fd.code=.ref W/\H W=bi (jC W fd.qualname))/\∃v,bh K μ H w v/\(k=cT->∃u,o.data=.cell (bi u)/\cN v u)
 |.gone,_=>True
structure gk(K:uR)(mg:Str->Option gs)(μ:List i0)(st:List al)(H:Hp):Prop where
 nd:∀(i j:Nat) (a:i0) (ci cj:al),st[i]?=bi ci->st[j]?=bi cj->ci.isRo=dw->cj.isRo=dw->μ[i]?=bi a->μ[j]?=bi a->i=j
 len:st.length=μ.length
 at':∀(i:Nat) (c:al) (a:i0),st[i]?=bi c->μ[i]?=bi a->lS K mg μ H c a
section
theorem qg.mono(h:μ <+: μ')(x:dH K H H'){p:KX×W}{e:YV}(r:qg K μ H p e):qg K μ' H' p e:=by obtain⟨a,⟨v,b,c⟩,u,d,g⟩:=r;exact⟨a,⟨v,b.mono h x,c⟩,u,d.mono h x,g⟩
theorem lS.keep(h:μ <+: μ')(x:dH K H H'){c:al}(e:∀o,H a=bi o->H' a=bi o)(e2:∀b q,H b=bi (jC b q)->H' b=bi (jC b q))(r:lS K mg μ H c a):lS K mg μ' H' c a:=by
 cases c with
 |lst O=>obtain⟨U,p,y⟩:=r;exact⟨U,e _ p,y.mono h x⟩
 |ro O=>
  obtain⟨U,p,y⟩:=r;refine⟨U,?_,y.mono h x⟩;rcases p with⟨o,p⟩|p
  .exact .inl ⟨o,e _ p⟩
  .exact .inr p
 |exc c=>obtain⟨C,p,y⟩:=r;exact⟨C,p,e _ y⟩
 |dct W=>obtain⟨U,p,y⟩:=r;exact⟨U,e _ p,y.mono h x⟩
 |rod W=>obtain⟨U,o,p,y⟩:=r;exact⟨U,o,e _ p,y.mono h x⟩
 |dcx W=>obtain⟨J,p,d,y,z⟩:=r;exact⟨J,e _ p,d,Paired.imp' (λ_ _ q=>q.mono h x) y,z⟩
 |rox W=>obtain⟨J,o,p,d,y,z⟩:=r;exact⟨J,o,e _ p,d,Paired.imp' (λ_ _ q=>q.mono h x) y,z⟩
 |obj c fs=>obtain⟨C,B,U,m,p,y⟩:=r;exact⟨C,B,U,m,e _ p,y.mono h x⟩
 |tab P V q=>
  obtain⟨I,Z,p,t,y⟩:=r;refine⟨I,Z,e _ p,t,?_⟩;rcases y with y|⟨c,y,z⟩
  .exact .inl y
  .exact .inr ⟨c,y,e2 _ _ z⟩
 |pin k c o w=>obtain⟨I,p,g,v,y,z⟩:=r;exact⟨I,e _ p,λq=>let ⟨fd,cd,q1,q2,q3⟩:=g q;⟨fd,cd,q1,q2,e2 _ _ q3⟩,v,y.mono h x,z⟩
 |gone=>trivial
theorem lS.ro_ne{c:al}(r:lS K mg μ H c a)(h:c.isRo=dw):∃o,H a=bi o:=by
 cases c with
 |lst O=>obtain⟨U,p,y⟩:=r;exact⟨_,p⟩
 |ro O=>cases h
 |exc c=>obtain⟨C,p,y⟩:=r;exact⟨_,y⟩
 |dct W=>obtain⟨U,p,y⟩:=r;exact⟨_,p⟩
 |rod W=>obtain⟨U,o,p,y⟩:=r;exact⟨_,p⟩
 |dcx W=>obtain⟨J,p,_⟩:=r;exact⟨_,p⟩
 |rox W=>obtain⟨J,o,p,_⟩:=r;exact⟨_,p⟩
 |obj c fs=>obtain⟨C,B,U,m,p,y⟩:=r;exact⟨_,p⟩
 |tab P V q=>obtain⟨_,Z,p,_⟩:=r;exact⟨_,p⟩
 |pin k c o w=>obtain⟨_,p,_⟩:=r;exact⟨_,p⟩
 |gone=>cases h
theorem gk.same(S:gk K mg μ st H)(e:oG H H'):gk K mg μ st H':=⟨S.nd,S.len,λi c a Z Y=>(S.at' i c a Z Y).keep (ah _) (gg.same e) (e a) λb q h=>e b _ h⟩
theorem gk.get(S:gk K mg μ st H){c:al}(h:st[n]?=bi c):∃a,μ[n]?=bi a/\lS K mg μ H c a:=by
 have R:n<μ.length:=by rw[<- S.len];exact(ak.mp h).1
 exact⟨μ[n],ar R,S.at' n c _ h (ar R)⟩
theorem gk.push(S:gk K mg μ st H){p:i0}{o:HO}{c:al}(U:H p=cg)(J:lS K mg (μ++[p]) (fF H p o) c p):gk K mg (μ++[p]) (st++[c]) (fF H p o):=by
 have O:oG H (fF H p o):=ca U o;have xH:μ <+: μ++[p]:=aq _ _;have w:∀{i:Nat} {d:al} {a:i0},i<st.length->(st++[c])[i]?=bi d->(μ++[p])[i]?=bi a->st[i]?=bi d/\μ[i]?=bi a:=λ{i d a} D Z Y=>by rw[aV D]at Z;rw[aV (by rw[<- S.len];exact D)]at Y;exact⟨Z,Y⟩
 have new:∀{i:Nat} {d:al} {a:i0},¬ i<st.length->(st++[c])[i]?=bi d->(μ++[p])[i]?=bi a->i=st.length/\d=c/\a=p:=λ{i d a} D Z Y=>by
  have hi':i=st.length:=by have:=(ak.mp Z).1;simp at this;omega
  subst hi';simp at Z;rw[S.len,aY (am _)]at Y;simp at Y;exact⟨rfl,Z.symm,Y.symm⟩
 refine⟨λi j a ci cj Z Y B W m1 m2=>?_,by simp[S.len],λi d a Z Y=>?_⟩
 .by_cases D:i<st.length
  .obtain⟨R,y⟩:=w D Z m1
   by_cases I:j<st.length
   .obtain⟨y1,y2⟩:=w I Y m2;exact S.nd i j a ci cj R y1 B W y y2
   .obtain⟨_,_,rfl⟩:=new I Y m2;obtain⟨t,z⟩:=(S.at' i ci a R y).ro_ne B;rw[U]at z;cases z
  .obtain⟨V,_,rfl⟩:=new D Z m1
   by_cases I:j<st.length
   .obtain⟨y1,y2⟩:=w I Y m2;obtain⟨t,z⟩:=(S.at' j cj a y1 y2).ro_ne W;rw[U]at z;cases z
   .obtain⟨e2,_,_⟩:=new I Y m2;omega
 .by_cases D:i<st.length
  .obtain⟨R,y⟩:=w D Z Y;exact(S.at' i d a R y).keep xH (gg.same O) (O a) λb q h=>O b _ h
  .obtain⟨_,rfl,rfl⟩:=new D Z Y;exact J
theorem gk.setG(S:gk K mg μ st H){c c':al}{o o':HO}(B:st[n]?=bi c)(Ag:c.isRo=dw)(y:μ[n]?=bi a)(D:H a=bi o)(J:∀q u,o≠.frz q u)(W:∀q,o≠jC a q)(O:dH K H (fF H a o'))(YH:c'.isRo=dw)(R:lS K mg μ (fF H a o') c' a):gk K mg μ (st.set n c') (fF H a o'):=by
 have I:n<st.length:=(ak.mp B).1;have back:∀{i:Nat} {d:al},(st.set n c')[i]?=bi d->∃d',st[i]?=bi d'/\(d'=d\/(i=n/\d=c')):=λ{i d} h=>by
  by_cases e:i=n
  .subst e;rw[cn I]at h;exact⟨_,B,.inr ⟨rfl,(bg h).symm⟩⟩
  .rw[bQ (YU e)]at h;exact⟨d,h,.inl rfl⟩
 refine⟨λi j b ci cj Z Y z r2 m1 m2=>?_,by simp[S.len],λi d b Z Y=>?_⟩
 .obtain⟨di,x1,y1⟩:=back Z;obtain⟨dj,x2,y2⟩:=back Y;refine S.nd i j b di dj x1 x2 ?_ ?_ m1 m2
  .rcases y1 with rfl|⟨rfl,rfl⟩
   .exact z
   .rw[B]at x1;cases x1;exact Ag
  .rcases y2 with rfl|⟨rfl,rfl⟩
   .exact r2
   .rw[B]at x2;cases x2;exact Ag
 .by_cases e:i=n
  .subst e;rw[cn I]at Z
   cases Z
   rw[y]at Y;cases Y
   exact R
  .rw[bQ (YU e)]at Z;have r:=S.at' i d b Z Y
   by_cases hrd:d.isRo=cT
   .cases d with
    |ro t=>
     obtain⟨w,p,q⟩:=r;refine⟨w,?_,q.mono (ah _) O⟩;rcases p with⟨o2,p⟩|p
     .exact .inl ⟨o2,by rw[cA (by rintro rfl;rw[D]at p;cases p;exact J _ _ rfl)];exact p⟩
     .exact .inr p
    |lst _=>cases hrd
    |exc _=>cases hrd
    |dct _=>cases hrd
    |rod _=>cases hrd
    |dcx _=>cases hrd
    |rox _=>cases hrd
    |obj _ _=>cases hrd
    |tab _ _ _=>cases hrd
    |pin _ _ _ _=>cases hrd
    |gone=>trivial
   .refine r.keep (ah _) O (λo V=>?_) λb' q h=>by rw[cA (by rintro rfl;rw[D]at h;cases h;exact W _ rfl)];exact h
    have U:b≠a:=by rintro rfl;exact e (S.nd i n b d _ Z B (by simpa using hrd) Ag Y y)
    rw[cA U];exact V
theorem gk.set(S:gk K mg μ st H){SX:List W}{xI:List V}(B:st[n]?=bi (.lst ws))(y:μ[n]?=bi a)(D:H a=bi (.lst vs))(R:RelWs K μ H SX xI):gk K mg μ (st.set n (.lst SX)) (fF H a (.lst xI)):=by
 have O:dH K H (fF H a (.lst xI)):=gg.but mQ D;have I:n<st.length:=(ak.mp B).1;have back:∀{i:Nat} {d:al},(st.set n (.lst SX))[i]?=bi d->∃d',st[i]?=bi d'/\(d'=d\/(i=n/\d=.lst SX)):=λ{i d} h=>by
  by_cases e:i=n
  .subst e;rw[cn I]at h;exact⟨_,B,.inr ⟨rfl,(bg h).symm⟩⟩
  .rw[bQ (YU e)]at h;exact⟨d,h,.inl rfl⟩
 refine⟨λi j b ci cj Z Y z r2 m1 m2=>?_,by simp[S.len],λi d b Z Y=>?_⟩
 .obtain⟨di,x1,y1⟩:=back Z;obtain⟨dj,x2,y2⟩:=back Y;refine S.nd i j b di dj x1 x2 ?_ ?_ m1 m2
  .rcases y1 with rfl|⟨rfl,rfl⟩
   .exact z
   .rw[B]at x1;cases x1;rfl
  .rcases y2 with rfl|⟨rfl,rfl⟩
   .exact r2
   .rw[B]at x2;cases x2;rfl
 .by_cases e:i=n
  .subst e;rw[cn I]at Z
   cases Z
   rw[y]at Y;cases Y
   exact⟨xI,dr,R.mono (ah _) O⟩
  .rw[bQ (YU e)]at Z;have r:=S.at' i d b Z Y
   by_cases Ag:d.isRo=cT
   .cases d with
    |ro t=>
     obtain⟨J,p,q⟩:=r;refine⟨J,?_,q.mono (ah _) O⟩;rcases p with⟨o',p⟩|p
     .exact .inl ⟨o',by rw[cA (by rintro rfl;rw[D]at p;cases p)];exact p⟩
     .exact .inr p
    |lst _=>cases Ag
    |exc _=>cases Ag
    |dct _=>cases Ag
    |rod _=>cases Ag
    |dcx _=>cases Ag
    |rox _=>cases Ag
    |obj _ _=>cases Ag
    |tab _ _ _=>cases Ag
    |pin _ _ _ _=>cases Ag
    |gone=>trivial
   .refine r.keep (ah _) O (λo w=>?_) λb' q h=>by rw[cA (by rintro rfl;rw[D]at h;cases h)];exact h
    have U:b≠a:=by rintro rfl;exact e (S.nd i n b d _ Z B (by simpa using Ag) rfl Y y)
    rw[cA U];exact w
end
structure Rl(X:Cx)(μ:List i0)(ρ:cE)(st:List al)(σ:St)(H:Hp):Prop where
 env:Paired (λ(o:Option W) (s:Option V)=>∀w,o=bi w->∃v,s=bi v/\bh X.K μ H w v) ρ σ
 sto:gk X.K X.mg μ st H
theorem t8(h:μ <+: μ')(x:dH K H H'):∀{z:cE} {σ:St},Paired (λ(o:Option W) (s:Option V)=>∀w,o=bi w->∃v,s=bi v/\bh K μ H w v) z σ ->
  Paired (λ(o:Option W) (s:Option V)=>∀w,o=bi w->∃v,s=bi v/\bh K μ' H' w v) z σ
 |_,_,.nil=>.nil
 |_,_,.cons a t=>.cons (λw e=>let ⟨v,p,q⟩:=a w e;⟨v,p,q.mono h x⟩) (t8 h x t)
theorem Rl.to{ρ:cE}(r:Rl X μ ρ st σ H)(h:μ <+: μ')(x:dH X.K H H')(s:gk X.K X.mg μ' bF H'):Rl X μ' ρ bF σ H':=⟨t8 h x r.env,s⟩
theorem qh:∀{z:cE} {σ:St} {i:Nat} {w:W},Paired (λ(o:Option W) (s:Option V)=>∀w,o=bi w->∃v,s=bi v/\bh K μ H w v) z σ->z[i]?=bi (bi w)->∃v,σ[i]?=bi (bi v)/\bh K μ H w v
 |_,_,_,_,.nil,e=>by simp at e
 |_,_,0,w,.cons a t,e=>by simp at e;obtain⟨v,p,q⟩:=a w e;exact⟨v,by simp[p],q⟩
 |_,_,i+1,w,.cons a t,e=>by simpa using qh (i:=i) t (by simpa using e)
theorem sE{w:W}{v:V}(r:bh K μ H w v):∀{z:cE} {σ:St} (i:Nat),Paired (λ(o:Option W) (s:Option V)=>∀w,o=bi w->∃v,s=bi v/\bh K μ H w v) z σ ->
  Paired (λ(o:Option W) (s:Option V)=>∀w,o=bi w->∃v,s=bi v/\bh K μ H w v) (z.set i (bi w)) (σ.set i (bi v))
 |_,_,_,.nil=>.nil
 |_,_,0,.cons a t=>.cons (λO e=>⟨v,rfl,by cases e;exact r⟩) t
 |_,_,i+1,.cons a t=>.cons a (sE r i t)
structure xX(X:Cx)(aj:List (i0×Obj))(σ:St)(c:Str)(H:Hp)(e:gs)(s:i2):Prop where
 inv:bH X aj σ H s
 ex:∃x C t B,e=.ref x/\X.mg c=bi C/\H x=cg/\B.StaysIn s.heap/\B.get? x=cg/\s.heap.FunFrames B X.stack /\
  (s.heap.TracedW B x C (.ref t)\/(∃oe vs,s.heap.get? x=bi oe/\oe.cls=C/\oe.dict=cg/\oe.data=.fields vs/\vs[1]?=bi .none/\vs[0]?=bi (.ref t))\/∃L,X.env.frame=bi L/\s.heap.TracedAtW B x C (.ref t) (yx L)) /\
  ∀b o,s.heap.get? b=bi o->(H b≠cg\/((∃o0,X.s₀.heap.get? b=bi o0)/\b∉X.fs/\b∉X.ex)\/((∃y,X.env.cells.lookup y=bi b)/\b∉t5 X.stack)\/∃p∈X.pn++aj,p.1=b)->B.get? b=bi o
def XS(X:Cx)(c:Str)(μ:List i0)(ρ:cE)(st:List al)(H:Hp):Prop:=
 ∀aj μ' O H' e d,μ <+: μ'->dH X.K H H'->Rl X μ' ρ st O H'->xX X aj O c H' e d->X.xe e d
def XE(X:Cx)(c:Str)(μ:List i0)(st:List al)(σ:St)(H:Hp):Prop:=
 ∀aj μ' H' e d,μ <+: μ'->dH X.K H H'->gk X.K X.mg μ' st H'->xX X aj σ c H' e d->X.xe e d
theorem XE.mono{c:Str}{d:List i0}{H1:Hp}(h:XE X c μ st σ H)(p:μ <+: d)(x:dH X.K H H1):XE X c d st σ H1:=λW J H' e D a b=>h W J H' e D (p.trans a) (x.trans b)
theorem XS.mono{c:Str}{d:List i0}{ρ:cE}{H1:Hp}(h:XS X c μ ρ st H)(p:μ <+: d)(x:dH X.K H H1):XS X c d ρ st H1:=λW J O H' e D a b=>h W J O H' e D (p.trans a) (x.trans b)
theorem XS.toE{c:Str}{ρ:cE}{EW:List al}(h:XS X c μ ρ st H)(r:Rl X μ ρ EW σ H):XE X c μ st σ H:=λW J H' e d a b s f=>h W J σ H' e d a b (r.to a b s) f
def RK(X:Cx)(z:List i0->Hp->α->β->Prop)(μ:List i0)(σ:St)(H:Hp)(Q:β->Hp->Prop):R α->Prop
 |.ok a bF=>∀μ' b H',μ <+: μ'->dH X.K H H'->gk X.K X.mg μ' bF H'->z μ' H' a b->Q b H'
 |.ex c bF=>XE X c μ bF σ H
 |.bad=>False
theorem RK.mono{z:List i0->Hp->α->β->Prop}{d:List i0}{H1:Hp}{Q:β->Hp->Prop}{r:R α}(h:RK X z μ σ H Q r)(p:μ <+: d)(x:dH X.K H H1):RK X z d σ H1 Q r:=by
 cases r with
 |ok a Y=>exact λJ b H' U y=>h J b H' (p.trans U) (x.trans y)
 |ex c Y=>exact XE.mono h p x
 |bad=>exact h
def tG(X:Cx)(z:List i0->Hp->α->β->Prop)(f:cE->List al->R α)(σ:St)(H:Hp)(Q:β->Hp->Prop):Prop:=
 ∃μ V st,Rl X μ V st σ H/\RK X z μ σ H Q (f V st)
abbrev q9(X:Cx):List i0->Hp->W->V->Prop:=λμ H w v=>bh X.K μ H w v
abbrev Xm(X:Cx):List i0->Hp->List W->List V->Prop:=λμ H w v=>RelWs X.K μ H w v
abbrev Qm:List i0->Hp->Bool->Bool->Prop:=λ_ _ a b=>a=b
abbrev tE(X:Cx)(f:FE):TE:=tG X (q9 X) f
abbrev tT(X:Cx)(f:FT):TT:=tG X Qm f
abbrev Uq(X:Cx)(f:FA):TA:=tG X (Xm X) f
theorem RK.bind{w y:Type}{z:List i0->Hp->α->β->Prop}{Wr:List i0->Hp->w->y->Prop}{ρ:cE}{r:R α}{k:α->List al->R w}{Q:y->Hp->Prop}{T:β->Hp->Prop}
  (h:RK X Wr μ σ H Q (r.bind k)) (l:Rl X μ ρ st σ H)
  (B:∀μ' bF x v H',μ <+: μ'->dH X.K H H'->Rl X μ' ρ bF σ H'->z μ' H' x v->RK X Wr μ' σ H' Q (k x bF)->T v H'):RK X z μ σ H T r:=by
 cases r with
 |ok a bF=>exact λμ' b H' p x s q=>B μ' bF a b H' p x (l.to p x s) q (RK.mono h p x)
 |ex c bF=>exact h
 |bad=>exact h
def SK(X:Cx)(μ:List i0)(H:Hp)(D:yB):RS->Prop
 |.nx V st=>∀μ' O H',μ <+: μ'->dH X.K H H'->Rl X μ' V st O H'->D.nx O H'
 |.bk V st=>∀μ' O H',μ <+: μ'->dH X.K H H'->Rl X μ' V st O H'->D.bk O H'
 |.ct V st=>∀μ' O H',μ <+: μ'->dH X.K H H'->Rl X μ' V st O H'->D.ct O H'
 |.rt w st=>∀μ' v H',μ <+: μ'->dH X.K H H'->gk X.K X.mg μ' st H'->bh X.K μ' H' w v->D.rt v H'
 |.ex c V st=>XS X c μ V st H
 |.bad=>False
theorem SK.mono{d:List i0}{H1:Hp}{D:yB}{r:RS}(h:SK X μ H D r)(p:μ <+: d)(x:dH X.K H H1):SK X d H1 D r:=by
 cases r with
 |nx V Y=>exact λJ b H' U y=>h J b H' (p.trans U) (x.trans y)
 |bk V Y=>exact λJ b H' U y=>h J b H' (p.trans U) (x.trans y)
 |ct V Y=>exact λJ b H' U y=>h J b H' (p.trans U) (x.trans y)
 |rt w Y=>exact λJ b H' U y=>h J b H' (p.trans U) (x.trans y)
 |ex c V Y=>exact XS.mono h p x
 |bad=>exact h
def Ur(X:Cx)(g:FS):TS:=λD σ H=>∃μ V st,Rl X μ V st σ H/\SK X μ H D (g V st)
structure SE(X:Cx)(e:i9)(f:FE):Prop where
 h:PE X e (tE X f)
structure ST(X:Cx)(e:i9)(f:FT):Prop where
 h:PT X e (tT X f)
structure SW(X:Cx)(e:i9)(f:FT):Prop where
 h:PW X e (tT X f)
structure SA(X:Cx)(es:List i9)(f:FA):Prop where
 h:PA X es (Uq X f)
structure SS(X:Cx)(s:qd)(g:FS):Prop where
 h:PS X s (Ur X g)
structure SB(X:Cx)(s:List qd)(g:FS):Prop where
 h:E5 X s (Ur X g)
theorem PE.imp{t t':TE}(h:PE X e t)(i:∀σ H Q,t' σ H Q->t σ H Q):PE X e t':=λW s σ H Q I q=>h W s σ H Q I (i _ _ _ q)
theorem PT.imp{t t':TT}(h:PT X e t)(i:∀σ H Q,t' σ H Q->t σ H Q):PT X e t':=λW s σ H Q I q=>h W s σ H Q I (i _ _ _ q)
theorem PW.imp{t t':TT}(h:PW X e t)(i:∀σ H Q,t' σ H Q->t σ H Q):PW X e t':=λz W s σ H Q I q=>h z W s σ H Q I (i _ _ _ q)
theorem PA.imp{e:List i9}{t t':TA}(h:PA X e t)(i:∀σ H Q,t' σ H Q->t σ H Q):PA X e t':=λV W s σ H Q I q=>h V W s σ H Q I (i _ _ _ q)
theorem PS.imp{e:qd}{t t':TS}(h:PS X e t)(i:∀D σ H,t' D σ H->t D σ H):PS X e t':=λW s σ H D I q=>h W s σ H D I (i _ _ _ q)
theorem E5.imp{e:List qd}{t t':TS}(h:E5 X e t)(i:∀D σ H,t' D σ H->t D σ H):E5 X e t':=λW s σ H D I q=>h W s σ H D I (i _ _ _ q)
section
variable{a b c o:i9}{d8:List i9}{fa fb fc fe:FE}{ft fu:FT}{fs:FA}
def af(i:Nat):FE:=λV st=>match V[i]? with
 |some (bi w)=>.ok w st
 |_=>.bad
theorem ba(i:Nat){pos:Pos}(z:X.N[i]?=bi x:=by rfl)(W:Nh X.env.scope x:=by first|exact Or.inl rfl|exact Zv (Or.inl rfl)|exact Zv (Zv rfl))(D:(x==("__debug__":Str))=dw:=by decide)
  (U:(x==("__classdict__":Str))=dw:=by decide):SE X (.Name x pos) (af i):=⟨(pv i z W D U).imp λB H Q h=>by
 obtain⟨t,V,Y,r,h⟩:=h;unfold af at h
 cases e:V[i]? with
 |none=>rw[e]at h;exact h.elim
 |some y=>
  cases y with
  |none=>rw[e]at h;exact h.elim
  |some w=>
   rw[e]at h;obtain⟨v,d,e2⟩:=qh r.env e;exact⟨v,d,h t v H (ah _) dH.refl r.sto e2⟩⟩
def eC(w:W):FE:=λ_ st=>.ok w st
abbrev eI(n:Int):FE:=eC (.int n)
theorem Us{w:W}{v:V}(J:PE X e (tC v))(R:∀μ H,bh X.K μ H w v):SE X e (eC w):=⟨J.imp λB H Q h=>by obtain⟨μ,z,Y,r,h⟩:=h;exact h μ v H (ah _) dH.refl r.sto (R _ _)⟩
theorem iN{i:Int}:SE X (.Constant (.int i) j pos) (eC (.int i)):=Us Pj λ_ _=>.int
theorem Qn{k:Bool}:SE X (.Constant (.bool k) j pos) (eC (.bl k)):=Us Tt λ_ _=>.bl
theorem Ut:SE X (.Constant .none j pos) (eC .non):=Us Pk λ_ _=>.non
theorem Hr(h:x=tx l:=by decide +kernel):SE X (.Constant (.str x) j pos) (eC (.str l)):=Us Pl λ_ _=>by rw[h];exact .str
theorem Fw{w:W}(h:∃u v,X.mg x=bi u/\cN v u/\∀μ H,bh X.K μ H w v)(d:Gl X x:=by rfl)(D:(x==("__debug__":Str))=dw:=by decide):SE X (.Name x pos) (eC w):=by obtain⟨u,v,a,b,c⟩:=h;exact Us (Ud ⟨u,a,b⟩ d D) c
def e2(f:W->W->List al->R W)(fa fb:FE):FE:=λV st=>(fa V st).bind λx st=>(fb V st).bind λy st=>f x y st
def Fx(X:Cx)(μ:List i0)(H:Hp)(Q:VK):R W->Prop
 |.ok w bF=>∀μ' v H',μ <+: μ'->dH X.K H H'->gk X.K X.mg μ' bF H'->bh X.K μ' H' w v->Q v H'
 |_=>False
def q_:R α->Prop
 |.ex _ _=>False
 |_=>True
def Uu(X:Cx)(f:W->W->List al->R W):R2:=λx y H Q=>∃μ st z U,gk X.K X.mg μ st H/\bh X.K μ H z x/\bh X.K μ H U y/\Fx X μ H Q (f z U st)
structure sF(X:Cx)(g:gs->gs->Sem gs)(f:W->W->List al->R W):Prop where
 h:nr X g (Uu X f)
 n:∀x y st,q_ (f x y st)
theorem rV{σ:St}{Q:VK}{r:R W}(h:RK X (q9 X) μ σ H Q r)(n:q_ r):Fx X μ H Q r:=by
 cases r with
 |ok a Y=>exact h
 |ex c Y=>exact n.elim
 |bad=>exact h
theorem DD{f:W->W->List al->R W}{Q:VK}(n:∀x y st,q_ (f x y st))(h:tE X (e2 f fa fb) σ H Q):TK (Uu X f) (tE X fa) (tE X fb) σ H Q:=by obtain⟨t,V,st,l,h⟩:=h;refine⟨t,V,st,l,RK.bind h l λd O x v H1 I D J w Z=>⟨d,V,O,J,RK.bind Z J λB U y u H2 p2 x2 l2 z Y=>?_⟩⟩;exact⟨B,U,x,y,l2.sto,w.mono p2 x2,z,rV Y (n _ _ _)⟩
theorem t9{op:Operator}{f:W->W->List al->R W}(V:sF X (yz op) f)(D:SE X a fa)(U:SE X b fb):SE X (.BinOp a op b pos) (e2 f fa fb):=⟨(TL V.h D.h U.h).imp λ_ _ _ h=>DD V.n h⟩
theorem Uv{f:W->W->List al->R W}(V:sF X (YS op) f)(D:SE X a fa)(U:SE X b fb)(y:ZE op b=dw:=by first|exact G1 _|rfl):SE X (.Compare a [op] [b] pos) (e2 f fa fb):=⟨(Ld V.h D.h U.h y).imp λ_ _ _ h=>DD V.n h⟩
def jc(fa:FE):FT:=λV st=>(fa V st).bind λx st=>match x with
 |.bl k=>.ok k st
 |_=>.bad
theorem vI{Q:Bool->Hp->Prop}(h:tT X (jc fa) σ H Q):tE X fa σ H λx H1=>∃k,x=.bl k/\Q k H1:=by
 obtain⟨t,V,Y,l,h⟩:=h;refine⟨t,V,Y,l,RK.bind h l λd W x v H1 R J y w Z=>?_⟩
 cases x with
 |bl k=>exact⟨k,w.blE,Z d k H1 (ah _) dH.refl y.sto rfl⟩
 |_=>exact Z.elim
theorem oI{f:W->W->List al->R W}(V:sF X (YS op) f)(D:SE X a fa)(U:SE X b fb)(y:ZE op b=dw:=by first|exact G1 _|rfl):ST X (.Compare a [op] [b] pos) (jc (e2 f fa fb)):=⟨(Le V.h D.h U.h y).imp λB H Q h=>by have w:tE X (e2 f fa fb) B H λx H1=>∃k,x=.bl k/\Q k H1:=vI h;exact DD V.n w⟩
theorem Qo(h:SE X e fe)(J:∀U,isTrue e X.env U=(do let v <- U;standAt e.pos;holding [v] (truthy v)):=by intro _;rfl):ST X e (jc fe):=⟨(Po h.h J).imp λB H Q h=>vI h⟩
def Qp(t u:FT):FT:=λV st=>(t V st).bind λk st=>if k then u V st else .ok dw st
def Qq(t u:FT):FT:=λV st=>(t V st).bind λk st=>if k then .ok cT st else u V st
def KN(t:FT):FT:=λV st=>(t V st).bind λk st=>.ok (!k) st
theorem DE(D:ST X a ft):SW X (.BoolOp .And [a] pos) ft:=⟨K4 D.h⟩
theorem Qr(D:ST X a ft):SW X (.BoolOp .Or [a] pos) ft:=⟨Pp D.h⟩
theorem Ct(D:ST X a ft)(U:SW X (.BoolOp .And (b::d8) pos) fu):SW X (.BoolOp .And (a::b::d8) pos) (Qp ft fu):=⟨(Pq D.h U.h).imp λB H Q h=>by
 obtain⟨t,V,Y,l,h⟩:=h;refine⟨t,V,Y,l,RK.bind h l λd W x v H1 R J y w Z=>?_⟩
 cases w
 cases x with
 |true=>exact⟨d,V,W,y,Z⟩
 |false=>exact Z d dw H1 (ah _) dH.refl y.sto rfl⟩
theorem Np(D:ST X a ft)(U:SW X (.BoolOp .Or (b::d8) pos) fu):SW X (.BoolOp .Or (a::b::d8) pos) (Qq ft fu):=⟨(Tv D.h U.h).imp λB H Q h=>by
 obtain⟨t,V,Y,l,h⟩:=h;refine⟨t,V,Y,l,RK.bind h l λd W x v H1 R J y w Z=>?_⟩
 cases w
 cases x with
 |false=>exact⟨d,V,W,y,Z⟩
 |true=>exact Z d cT H1 (ah _) dH.refl y.sto rfl⟩
theorem Qs(h:SW X e ft):ST X e ft:=⟨h.h.pt⟩
theorem Qt(D:ST X a ft):ST X (.UnaryOp .Not a pos) (KN ft):=⟨(Ps D.h).imp λB H Q h=>by
 obtain⟨t,V,Y,l,h⟩:=h;refine⟨t,V,Y,l,RK.bind h l λd W x v H1 R J y w Z=>?_⟩
 cases w
 exact Z d _ H1 (ah _) dH.refl y.sto rfl⟩
def xu(fa fb:FE):FE:=λV st=>(fa V st).bind λx st=>match x with
 |.bl cT=>fb V st
 |.bl dw=>.ok (.bl dw) st
 |_=>.bad
def Tb(fa fb:FE):FE:=λV st=>(fa V st).bind λx st=>match x with
 |.bl cT=>.ok (.bl cT) st
 |.bl dw=>fb V st
 |_=>.bad
def Cu(fa:FE):FE:=λV st=>(fa V st).bind λx st=>match x with
 |.bl k=>.ok (.bl (!k)) st
 |_=>.bad
theorem Uw{op:BoolOp}(h:SE X a fa):SE X (.BoolOp op [a] pos) fa:=⟨Pu h.h⟩
theorem Ux(D:SE X a fa)(U:SE X (.BoolOp .And (b::d8) pos) fb):SE X (.BoolOp .And (a::b::d8) pos) (xu fa fb):=⟨(Pv D.h U.h).imp λB H Q h=>by
 obtain⟨t,V,Y,l,h⟩:=h;refine⟨t,V,Y,l,RK.bind h l λd W x v H1 R J y w Z=>?_⟩
 cases x with
 |bl k=>
  refine⟨k,w.blE,?_⟩
  cases k with
  |true=>exact⟨d,V,W,y,Z⟩
  |false=>exact Z d _ H1 (ah _) dH.refl y.sto .bl
 |_=>exact Z.elim⟩
theorem Xn(D:SE X a fa)(U:SE X (.BoolOp .Or (b::d8) pos) fb):SE X (.BoolOp .Or (a::b::d8) pos) (Tb fa fb):=⟨(Tz D.h U.h).imp λB H Q h=>by
 obtain⟨t,V,Y,l,h⟩:=h;refine⟨t,V,Y,l,RK.bind h l λd W x v H1 R J y w Z=>?_⟩
 cases x with
 |bl k=>
  refine⟨k,w.blE,?_⟩
  cases k with
  |false=>exact⟨d,V,W,y,Z⟩
  |true=>exact Z d _ H1 (ah _) dH.refl y.sto .bl
 |_=>exact Z.elim⟩
theorem Uy(D:SE X a fa):SE X (.UnaryOp .Not a pos) (Cu fa):=⟨(Pw D.h).imp λB H Q h=>by
 obtain⟨t,V,Y,l,h⟩:=h;refine⟨t,V,Y,l,RK.bind h l λd W x v H1 R J y w Z=>?_⟩
 cases x with
 |bl k=>exact⟨k,w.blE,Z d _ H1 (ah _) dH.refl y.sto .bl⟩
 |_=>exact Z.elim⟩
noncomputable def W.isNon:W->Bool
 |.non=>cT
 |_=>dw
def AH(fa:FE):FE:=λV st=>(fa V st).bind λx st=>.ok (.bl x.isNon) st
def Nq(fa:FE):FE:=λV st=>(fa V st).bind λx st=>.ok (.bl (!x.isNon)) st
theorem Uz{w:W}{v:V}(r:bh X.K μ H w v):decide (v=.non)=w.isNon:=by
 cases w with
 |non=>rw[r.nonE];rfl
 |bl b=>rw[r.blE];rfl
 |int b=>rw[r.intE];rfl
 |str b=>rw[r.strE];rfl
 |tup b=>obtain⟨p,U,rfl,_⟩:=r.tupE;rfl
 |loc b=>obtain⟨p,_,rfl⟩:=r.locE;rfl
theorem Nr{Q:VK}(h:tE X (AH fa) σ H Q):Tu (tE X fa) σ H Q:=by obtain⟨t,V,Y,l,h⟩:=h;refine⟨t,V,Y,l,RK.bind h l λd W x v H1 R J y w Z=>?_⟩;show Q (.bl (decide (v=.non))) H1;rw[Uz w];exact Z d _ H1 (ah _) dH.refl y.sto .bl
theorem UA(D:SE X a fa):SE X (.Compare a [.Is] [.Constant .none j kP] pos) (AH fa):=⟨(Pm (GQ D.h)).imp λ_ _ _ h=>Nr h⟩
theorem Qu(D:SE X a fa):ST X (.Compare a [.Is] [.Constant .none j kP] pos) (jc (AH fa)):=⟨(Pn (GQ D.h)).imp λ_ _ _ h=>Nr (vI h)⟩
def aD:FA:=λ_ st=>.ok [] st
def ac(fa:FE)(fs:FA):FA:=λV st=>(fa V st).bind λx st=>(fs V st).bind λxs st=>.ok (x::xs) st
theorem bI:SA X [] aD:=⟨rR.imp λB H Q h=>by obtain⟨t,V,Y,l,h⟩:=h;exact h t [] H (ah _) dH.refl l.sto .nilI⟩
theorem aW(D:SE X e fe)(R:SA X es fs)(O:ow (e::es) X.env=(dw,eval e X.env)::ow es X.env:=by rfl):SA X (e::es) (ac fe fs):=⟨(iI D.h R.h O).imp λB H Q h=>by obtain⟨z,V,J,l,h⟩:=h;refine⟨z,V,J,l,RK.bind h l λd W x v H1 p1 x1 y w Z=>⟨d,V,W,y,RK.bind Z y λμ2 U I t H2 p2 x2 l2 q2 Y=>?_⟩⟩;exact Y μ2 _ H2 (ah _) dH.refl l2.sto (.consI (w.mono p2 x2) q2)⟩
def UB(D:List (List Nat)):FA:=λ_ st=>.ok (D.map W.str) st
def rC(ws:List W)(st:List al):R W:=if ws.length<=lw then .ok (.tup ws) st else .bad
def nP(ws:List W)(st:List al):R W:=if ws.length<=lw then .ok (.loc st.length) (st++[.lst ws])else .bad
def fJ(fs:FA):FE:=λV st=>(fs V st).bind λws st=>rC ws st
def nw(fs:FA):FE:=λV st=>(fs V st).bind λws st=>nP ws st
theorem gk.newLst(S:gk K mg μ st H){p:i0}(U:H p=cg)(r:RelWs K μ H ws vs):gk K mg (μ++[p]) (st++[.lst ws]) (fF H p (.lst vs)):=
 S.push U ⟨vs,dr,r.mono (aq _ _) (gg.same (ca U _))⟩
theorem ny(S:gk K mg μ st H){p:i0}:bh K (μ++[p]) H' (.loc st.length) (.ref p):=.locI (by rw[S.len];simp)
theorem Hs{Q:VK}(S:gk X.K X.mg μ st H)(q:RelWs X.K μ H ws vs)(h:RK X (q9 X) μ σ H Q (rC ws st)):vs.length<=sizeLine/\∀p H2,H p=cg->H2=fF H p (.tup vs)->Q (.ref p) H2:=by
 unfold rC at h
 by_cases V:ws.length<=lw
 .rw[ax V]at h;refine⟨by rw[<- q.len];exact jk V,λp H2 U e=>?_⟩;subst e;have x:=gg.same (K:=X.K) (ca U (.tup vs));exact h μ _ _ (ah _) x (S.same (ca U _)) (.tupI gg.new (q.mono (ah _) x))
 .rw[aF V]at h;exact h.elim
theorem sH{σ:St}{Q:VK}(S:gk X.K X.mg μ st H)(q:RelWs X.K μ H ws vs)(h:RK X (q9 X) μ σ H Q (nP ws st)):vs.length<=sizeLine/\∀p H2,H p=cg->H2=fF H p (.lst vs)->Q (.ref p) H2:=by
 unfold nP at h
 by_cases V:ws.length<=lw
 .rw[ax V]at h;refine⟨by rw[<- q.len];exact jk V,λp H2 U e=>?_⟩;subst e;exact h (μ++[p]) _ _ (aq _ _) (gg.same (ca U _)) (S.newLst U q) (ny S)
 .rw[aF V]at h;exact h.elim
theorem xY(h:SA X es fs):SE X (.Tuple es k pos) (fJ fs):=⟨(Lx h.h).imp λB H Q h=>by obtain⟨t,V,Y,l,h⟩:=h;exact⟨t,V,Y,l,RK.bind h l λd W x v H1 R J y w Z=>Hs y.sto w Z⟩⟩
theorem uH(h:SA X es fs):SE X (.List es pos) (nw fs):=⟨(Ly h.h).imp λB H Q h=>by obtain⟨t,V,Y,l,h⟩:=h;exact⟨t,V,Y,l,RK.bind h l λd W x v H1 R J y w Z=>sH y.sto w Z⟩⟩
end
section
theorem mT{Q:VK}{i:Int}(S:gk X.K X.mg μ st H)(h:Fx X μ H Q (.ok (.int i) st)):Q (.int i) H:=h μ _ H (ah _) dH.refl S .int
theorem i8{Q:VK}{i:Bool}(S:gk X.K X.mg μ st H)(h:Fx X μ H Q (.ok (.bl i) st)):Q (.bl i) H:=h μ _ H (ah _) dH.refl S .bl
theorem sI{Q:VK}{i:List Nat}(S:gk X.K X.mg μ st H)(h:Fx X μ H Q (.ok (.str i) st)):Q (.str (tx i)) H:=h μ _ H (ah _) dH.refl S .str
theorem Ht{Q:VK}{r:R W}(h:Fx X μ H Q r):RK X (q9 X) μ σ H Q r:=by
 cases r with
 |ok a Y=>exact h
 |ex c Y=>exact h.elim
 |bad=>exact h
noncomputable def Fy(C:Int->Int->Prop)[∀i j,Decidable (C i j)](f:Int->Int->Int):W->W->List al->R W
 |.int i,.int j,st=>if C i j then .ok (.int (f i j)) st else .bad
 |_,_,_=>.bad
theorem AI{C C':Int->Int->Prop}[∀i j,Decidable (C' i j)]{f:Int->Int->Int}(h:nr X g (rI C λi j=>.int (f i j)))(d:∀i j,C' i j->C i j):sF X g (Fy C' f):=⟨h.imp λx y H Q Z=>by
 obtain⟨t,Y,z,U,S,R,w,q⟩:=Z
 cases z with
 |int i=>
  cases U with
  |int j=>
   simp only[Fy]at q
   by_cases c:C' i j
   .rw[ax c]at q;exact⟨i,j,R.intE,w.intE,d i j c,mT S q⟩
   .rw[aF c]at q;exact q.elim
  |_=>exact q.elim
 |_=>cases U<;>exact q.elim,λx y Y=>by
 unfold Fy
 split
 .split<;>trivial
 .trivial⟩
noncomputable def Fz(f:Int->Int->Bool):W->W->List al->R W
 |.int i,.int j,st=>.ok (.bl (f i j)) st
 |_,_,_=>.bad
theorem Hu{f:Int->Int->Bool}(h:nr X g (GY λi j=>.bl (f i j))):sF X g (Fz f):=⟨h.imp λx y H Q Z=>by
 obtain⟨t,Y,z,U,S,R,w,q⟩:=Z
 cases z with
 |int i=>
  cases U with
  |int j=>exact⟨i,j,R.intE,w.intE,i8 S q⟩
  |_=>exact q.elim
 |_=>cases U<;>exact q.elim,λx y Y=>by
 unfold Fz
 split<;>trivial⟩
abbrev FB(i j:Int):Prop:=(-(2^64)<i/\i<2^64)\/(-(2^64)<j/\j<2^64)
abbrev Cv:=Fy (λ_ _=>True) λi j=>i-j
abbrev UC:=Fy FB λi j=>i*j
abbrev fZ:=Fy (λ_ j=>0<j) λi j=>i%j
abbrev uI:=Fy (λ_ j=>0<j/\j<1073741824) λi j=>i/j
abbrev UD:=Fy (λi j=>0<=j/\j<=1000000/\i.natAbs<2^64) λi j=>i^j.toNat
abbrev yQ:=Fy (λi j=>0<=j/\j<=1000000/\i.natAbs<2^64) λi j=>i*2^j.toNat
abbrev AJ:=Fy (λ_ j=>0<=j) λi j=>i/2^j.toNat
abbrev vJ:=Fy (λ_ _=>True) λi j=>aaf i j
theorem Hv{f:Int->Int->V}(h:nr X g (GY f)):nr X g (rI (λ_ _=>True) f):=h.imp λ_ _ _ _ zx=>by obtain⟨i,j,a,b,_,q⟩:=zx;exact ⟨i,j,a,b,q⟩
theorem Hw:sF X (yz .Sub) Cv:=AI (Hv PR) λ_ _ _=>trivial
theorem UE:sF X (yz .Mult) UC:=AI PU λ_ _ h=>h
theorem Hy:sF X (yz .Mod) fZ:=AI PV λ_ _ h=>h
theorem Qw:sF X (yz .FloorDiv) uI:=AI Lc λ_ _ h=>h
theorem UF:sF X (yz .Pow) UD:=AI PY λ_ _ h=>h
theorem Nt:sF X (yz .LShift) yQ:=AI GZ λ_ _ h=>h
theorem UG:sF X (yz .RShift) AJ:=AI PZ λ_ _ h=>h
theorem Qx:sF X (yz .BitAnd) vJ:=AI (Hv P0) λ_ _ _=>trivial
def da:W->W->List al->R W
 |.int i,.int j,st=>.ok (.int (i+j)) st
 |.str a,.str b,st=>if a.length+b.length<=lw then .ok (.str (a++b)) st else .bad
 |.tup a,.tup b,st=>rC (a++b) st
 |.loc n,.loc m,st=>match st[n]?,st[m]? with
  |some (.lst a),bi (.lst b)=>nP (a++b) st
  |_,_=>.bad
 |_,_,_=>.bad
theorem LH(ws:List W)(st:List al):q_ (rC ws st):=by unfold rC;split<;>trivial
theorem DF(ws:List W)(st:List al):q_ (nP ws st):=by unfold nP;split<;>trivial
theorem vK:sF X (yz .Add) da:=⟨λW s B H x y v u Q I z ru zq=>by
 obtain⟨D,J,wx,wy,S,R,U,q⟩:=zq
 cases wx with
 |int i=>
  cases wy with
  |int j=>exact PQ W s B H x y v u Q I z ru ⟨i,j,R.intE,U.intE,mT S q⟩
  |_=>exact q.elim
 |str a=>
  cases wy with
  |str b=>
   simp only[da]at q
   by_cases c:a.length+b.length<=lw
   .rw[ax c]at q;exact Cf W s B H x y v u Q I z ru ⟨_,_,R.strE,U.strE,by rw[kU,kU];exact jk c,by rw[Cm];exact sI S q⟩
   .rw[aF c]at q;exact q.elim
  |_=>exact q.elim
 |tup a=>
  cases wy with
  |tup b=>
   obtain⟨p1,vs1,rfl,Z,w⟩:=R.tupE;obtain⟨p2,vs2,rfl,Y,r2⟩:=U.tupE;have q':Fx X D H Q (rC (a++b) J):=q;unfold rC at q'
   by_cases c:(a++b).length<=lw
   .rw[ax c]at q';refine Qj.h W s B H _ _ v u Q I z ru ⟨p1,p2,vs1,vs2,rfl,rfl,Z,Y,by rw[<- w.len,<- r2.len,<- ay];exact jk c,λp H2 e t=>?_⟩;exact q' D _ _ (ah _) (gg.same e) (S.same e) (.tupI t ((w.app r2).mono (ah _) (gg.same e)))
   .rw[aF c]at q';exact q'.elim
  |_=>exact q.elim
 |loc n=>
  cases wy with
  |loc m=>
   simp only[da]at q
   cases d:J[n]? with
   |none=>rw[d]at q;exact q.elim
   |some c1=>
    cases e2:J[m]? with
    |none=>rw[d,e2]at q;cases c1<;>exact q.elim
    |some c2=>
     cases c1 with
     |lst a=>
      cases c2 with
      |lst b=>
       rw[d,e2]at q;obtain⟨a1,O,vs1,k1,w⟩:=S.get d;obtain⟨a2,g2,vs2,k2,r2⟩:=S.get e2;obtain⟨b1,f1,rfl⟩:=R.locE;obtain⟨b2,f2,rfl⟩:=U.locE;rw[O]at f1;cases f1
       rw[g2]at f2;cases f2
       obtain⟨V,qq⟩:=sH (σ:=B) S (w.app r2) (Ht q);exact LA W s B H _ _ v u Q I z ru ⟨a1,a2,vs1,vs2,rfl,rfl,k1,k2,by rw[<- ay];exact V,qq⟩
      |_=>rw[d,e2]at q;exact q.elim
     |_=>rw[d,e2]at q;exact q.elim
  |_=>exact q.elim
 |_=>cases wy<;>exact q.elim,λx y J=>by
 unfold da
 split
 .trivial
 .split<;>trivial
 .exact LH _ _
 .split
  .exact DF _ _
  .trivial
 .trivial⟩
abbrev yR:=Fz λi j=>decide (i<j)
abbrev Nu:=Fz λi j=>decide (j<i)
abbrev X8:=Fz λi j=>decide (j<=i)
theorem w_lt:sF X (YS .Lt) yR:=Hu TN
theorem AK:sF X (YS .Gt) Nu:=Hu TR
theorem LI:sF X (YS .GtE) X8:=Hu TU
end
mutual
noncomputable def kJ:W->W->Option Bool
 |.non,.non=>bi cT
 |.bl a,.bl b=>bi (a==b)
 |.bl a,.int b=>bi ((if a then 1 else 0)==b)
 |.int a,.bl b=>bi (a==(if b then 1 else 0))
 |.int a,.int b=>bi (a==b)
 |.str a,.str b=>bi (a==b)
 |.tup a,.tup b=>eqWs a b
 |.loc _,_=>cg
 |.non,.loc _=>cg
 |.bl _,.loc _=>cg
 |.int _,.loc _=>cg
 |.str _,.loc _=>cg
 |.tup _,.loc _=>cg
 |.non,.bl _=>bi dw
 |.non,.int _=>bi dw
 |.non,.str _=>bi dw
 |.non,.tup _=>bi dw
 |.bl _,.non=>bi dw
 |.bl _,.str _=>bi dw
 |.bl _,.tup _=>bi dw
 |.int _,.non=>bi dw
 |.int _,.str _=>bi dw
 |.int _,.tup _=>bi dw
 |.str _,.non=>bi dw
 |.str _,.bl _=>bi dw
 |.str _,.int _=>bi dw
 |.str _,.tup _=>bi dw
 |.tup _,.non=>bi dw
 |.tup _,.bl _=>bi dw
 |.tup _,.int _=>bi dw
 |.tup _,.str _=>bi dw
noncomputable def eqWs:List W->List W->Option Bool
 |[],[]=>bi cT
 |[],_::_=>bi dw
 |_::_,[]=>bi dw
 |x::xs,y::ys=>match kJ x y,eqWs xs ys with
  |some a,bi b=>bi (a&&b)
  |_,_=>cg
end
mutual
noncomputable def W.dep:W->Nat
 |.tup ws=>depWs ws+1
 |_=>0
noncomputable def depWs:List W->Nat
 |[]=>0
 |w::ws=>max w.dep (depWs ws)
end
theorem rW:∀(xs ys:List W) (b:Bool),eqWs xs ys=bi b->∃e:Nat->Bool,(∀j (Z:j<xs.length) (Y:j<ys.length),kJ xs[j] ys[j]=bi (e j))/\((vr (min xs.length ys.length)).all e&&xs.length==ys.length)=b
 |[],[],b,h=>by unfold eqWs at h;cases h;exact⟨λ_=>cT,λj Z=>absurd Z (gG _),rfl⟩
 |[],y::ys,b,h=>by unfold eqWs at h;cases h;exact⟨λ_=>cT,λj Z=>absurd Z (gG _),by simp⟩
 |x::xs,[],b,h=>by unfold eqWs at h;cases h;exact⟨λ_=>cT,λj _ Z=>absurd Z (gG _),by simp⟩
 |x::xs,y::ys,b,h=>by
  unfold eqWs at h
  cases d:kJ x y with
  |none=>rw[d]at h;simp at h
  |some a=>
   cases e2:eqWs xs ys with
   |none=>rw[d,e2]at h;simp at h
   |some c=>
    rw[d,e2]at h;simp at h;obtain⟨e,J,U⟩:=rW xs ys c e2;refine⟨λj=>match j with|0=>a|j+1=>e j,λj Z Y=>?_,?_⟩
    .cases j with
     |zero=>exact d
     |succ j=>exact J j (jX Z) (jX Y)
    .have m:min (x::xs).length (y::ys).length=min xs.length ys.length+1:=by simp only[fD];omega
     rw[m,pb,rO,tZ,<- h,<- U];simp[Function.comp_def,Bool.and_assoc]
theorem DG{a b:W}{x:V}{k:Bool}(R:a.dep<=0)(w:bh X.K μ H a x)(y:bh X.K μ H b x)(J:kJ a b=bi k):k=cT:=by
 cases a with
 |tup i=>unfold W.dep at R;omega
 |non=>cases w.nonE;cases b<;>first|(unfold kJ at J;cases J;rfl)|cases y.blE|cases y.intE|cases y.strE|(obtain⟨_,_,z,_⟩:=y.tupE;cases z)|(unfold kJ at J;cases J)
 |bl i=>cases w.blE;cases b<;>first|(cases y.blE;unfold kJ at J;simp at J;exact J)|cases y.nonE|cases y.intE|cases y.strE|(obtain⟨_,_,z,_⟩:=y.tupE;cases z)|(unfold kJ at J;cases J)
 |int i=>cases w.intE;cases b<;>first|(cases y.intE;unfold kJ at J;simp at J;exact J)|cases y.nonE|cases y.blE|cases y.strE|(obtain⟨_,_,z,_⟩:=y.tupE;cases z)|(unfold kJ at J;cases J)
 |str i=>cases w.strE;cases b<;>first|(have z:=y.strE;injection z with z;rw[Qe.mp z]at J;unfold kJ at J;simp at J;exact J)|cases y.nonE|cases y.blE|cases y.intE|(obtain⟨_,_,z,_⟩:=y.tupE;cases z)|(unfold kJ at J;cases J)
 |loc i=>cases b<;>(unfold kJ at J;cases J)
theorem Hz(I:bH X aj σ H s):∀(n:Nat) (a b:W) (x:V) (k:Bool),a.dep<=n->bh X.K μ H a x->bh X.K μ H b x->kJ a b=bi k->k=cT:=by
 intro n
 induction n with
 |zero=>exact λa b x k R ra rb J=>DG R ra rb J
 |succ n B=>
  intro a b x k R ra rb J
  cases a with
  |tup i=>
   obtain⟨p',xI,rfl,hS',r'⟩:=ra.tupE
   cases b with
   |tup z=>
    obtain⟨p,U,e,D,r⟩:=rb.tupE
    cases e
    obtain rfl:=I.tuple_inj D hS';have he':eqWs i z=bi k:=by unfold kJ at J;exact J
    have dn:depWs i<=n:=by unfold W.dep at R;omega
    have key:∀(i z:List W) (U:List V) (k:Bool),depWs i<=n->RelWs X.K μ H i U->RelWs X.K μ H z U->eqWs i z=bi k->k=cT:=by
     intro i
     induction i with
     |nil=>
      intro z U k _ r' r J;have d:=r'.nilE;subst d
      cases z with
      |nil=>unfold eqWs at J;cases J;rfl
      |cons _ _=>have e2:=r.len;simp at e2
     |cons w i ih2=>
      intro z U k dn r' r J;obtain⟨x,Z,rfl,O,rxs⟩:=r'.consE
      cases z with
      |nil=>have e2:=r.len;simp at e2
      |cons y z=>
       obtain⟨x2,xs2,e3,Y,rys⟩:=r.consE
       cases e3
       unfold eqWs at J
       cases d:kJ w y with
       |none=>rw[d]at J;simp at J
       |some k1=>
        cases e2:eqWs i z with
        |none=>rw[d,e2]at J;simp at J
        |some k2=>
         rw[d,e2]at J;simp at J;unfold depWs at dn;have t:=B w y x k1 #[0] O Y d;have q2:=ih2 z Z k2 #[0] rxs rys e2;rw[<- J,t,q2];rfl
    exact key i z _ k dn r' r he'
   |non=>cases rb.nonE
   |bl z=>cases rb.blE
   |int z=>cases rb.intE
   |str z=>cases rb.strE
   |loc z=>unfold kJ at J;cases J
  |_=>exact DG (am _) ra rb J
theorem t_:∀{ws:List W} {j:Nat} (h:j<ws.length),ws[j].dep<=depWs ws
 |w::ws,0,_=>by unfold depWs;exact Nat.le_max_left _ _
 |w::ws,j+1,h=>by unfold depWs;exact aT (t_ (j:=j) (jX h)) (Nat.le_max_right _ _)
inductive Sh(s:i2):W->gs->Prop
 |non:Sh s .non .none
 |bl (b:Bool):Sh s (.bl b) (.bool b)
 |int (i:Int) (t:Tok):Sh s (.int i) (.int i t)
 |str (l:List Nat) (t:Tok):Sh s (.str l) (.str (tx l) t)
 |tup (ws:List W) (p:i0) (bx:List gs) (h:IsTup s.heap p bx.toArray):Sh s (.tup ws) (.ref p)
 |loc (n:Nat) (u:gs):Sh s (.loc n) u
section
theorem uJ(I:bH X aj σ H s){a:W}{x:V}(w:bh X.K μ H a x)(D:cN x u):Sh s a u:=by
 cases a with
 |non=>cases w.nonE;cases D;exact .non
 |bl i=>cases w.blE;cases D;exact .bl _
 |int i=>cases w.intE;obtain⟨t,rfl⟩:=D;exact .int _ _
 |str i=>cases w.strE;obtain⟨t,rfl⟩:=D;exact .str _ _
 |tup i=>obtain⟨p,U,rfl,d,_⟩:=w.tupE;cases D;obtain⟨O,_,Z,_⟩:=I.tuple d;exact .tup _ _ _ Z
 |loc i=>exact .loc _ _
open SeqAt.EqAt in
theorem DH{a b:W}{k:Bool}(D:Sh s a u)(U:Sh s b v)(d:A.units<Y3)(Z:b.dep=0\/a.dep=0)(J:kJ a b=bi k):ZL A s u v k:=by
 cases D<;>cases U<;>first
  |(unfold kJ at J;cases J;done)
  |(unfold kJ at J;cases J;with_reducible first|exact same _|exact bool_none _|exact bool_bool _ _|exact bool_int _ _ _|exact bool_str _ _ _|exact int_none _ _|exact int_bool _ _ _|exact int_int _ _ _ _|exact int_str _ _ _ _|exact str_none _ _|exact str_bool _ _ _|exact str_int _ _ _ _|exact none_bool _|exact none_int _ _|exact none_str _ _)
  |(unfold kJ at J;cases J;(with_reducible first|refine' bool_tuple _ ?_ d|refine' int_tuple _ _ ?_ d|refine' str_tuple _ _ ?_ d|refine' tuple_none ?_ d|refine' tuple_bool _ ?_ d|refine' tuple_int _ _ ?_ d|refine' tuple_str _ _ ?_ d|refine' none_tuple ?_ d);rotate_left;assumption)
  |(unfold W.dep at Z;omega)
  |skip
 rename_i i t z r
 unfold kJ at J;cases J
 have:=str_str (A:=A) (s:=s) (tx i) t (tx z) r;rw[<- rP]at this;exact this
open SeqAt.RcAt in
theorem LJ{a b:W}{k:Bool}(D:Sh s a u)(U:Sh s b v)(d:A.units<Y3)(Z:b.dep=0\/a.dep=0)(J:kJ a b=bi k):SeqAt.RcAt A s u v k:=by
 cases D<;>cases U<;>first
  |(unfold kJ at J;cases J;done)
  |(unfold kJ at J;cases J;with_reducible first|exact none_none|exact bool_none _|exact bool_bool _ _|exact bool_int _ _ _|exact bool_str _ _ _|exact int_none _ _|exact int_bool _ _ _|exact int_int _ _ _ _|exact int_str _ _ _ _|exact str_none _ _|exact str_bool _ _ _|exact str_int _ _ _ _|exact none_bool _|exact none_int _ _|exact none_str _ _)
  |(unfold kJ at J;cases J;(with_reducible first|refine' bool_tuple _ ?_ d|refine' int_tuple _ _ ?_ d|refine' str_tuple _ _ ?_ d|refine' tuple_none ?_ d|refine' tuple_bool _ ?_ d|refine' tuple_int _ _ ?_ d|refine' tuple_str _ _ ?_ d|refine' none_tuple ?_ d);rotate_left;assumption)
  |(unfold W.dep at Z;omega)
  |skip
 rename_i i t z r
 unfold kJ at J;cases J
 have:=str_str (A:=A) (s:=s) (tx i) t (tx z) r;rw[<- rP]at this;exact this
open SeqAt.RcNeAt in
theorem FC         {a b:W}  {k:Bool} (D : Sh s a u) (U : Sh s b v) (d : A.units < Y3) (Z : b.dep = 0 \/ a.dep = 0) (J : kJ  a b = bi k) : SeqAt.RcNeAt A s u v (!k) := by
  cases D <;> cases U <;> first
    | (unfold kJ  at J; cases J; done)
    | (unfold kJ  at J; cases J; try simp only [fN           , mw            ]
       with_reducible first | exact none_none | exact bool_none _ | exact bool_bool _ _ | exact bool_int _ _ _ | exact bool_str _ _ _ | exact int_none _ _ | exact int_bool _ _ _ | exact int_int _ _ _ _ | exact int_str _ _ _ _ | exact str_none _ _ | exact str_bool _ _ _ | exact str_int _ _ _ _ | exact none_bool _ | exact none_int _ _ | exact none_str _ _)
    | (unfold kJ  at J; cases J; try simp only [fN           , mw            ]
       (with_reducible first | refine' bool_tuple _ ?_ d | refine' int_tuple _ _ ?_ d | refine' str_tuple _ _ ?_ d | refine' tuple_none ?_ d | refine' tuple_bool _ ?_ d | refine' tuple_int _ _ ?_ d | refine' tuple_str _ _ ?_ d | refine' none_tuple ?_ d); rotate_left; assumption)
    | (unfold W.dep at Z; omega)
    | skip
  rename_i i t z r
  unfold kJ  at J; cases J
  have := str_str (A := A) (s := s) (tx i) t (tx z) r;rw [<- rP           ] at this;exact this
theorem AL{i z:List W}{xI:List V}{its':List gs}{e:Nat->Bool}{A:yy}(U:∀(a b:W) (A:yy) (x y:V) (u v:gs) (k:Bool),a.dep<=m->bh X.K μ H a x->bh X.K μ H b y->cN x u->cN y v->A.units+m<Y3->kJ a b=bi k->ZL A s u v k)
  (r':RelWs X.K μ H i xI) (r:RelWs X.K μ H z vs) (w':cR xI its') (w:cR vs bx) (D:depWs i<=m) (d:A.units+1+m<Y3) (Z:∀j (Z:j<i.length) (Y:j<z.length),kJ i[j] z[j]=bi (e j)):∀j (j1:j<its'.toArray.size) (j2:j<bx.toArray.size),ZL A.in1 s its'.toArray[j] bx.toArray[j] (e j):=λj j1 j2=>by
 have j1':j<i.length:=by rw[r'.len,w'.length];simpa using j1
 have j2':j<z.length:=by rw[r.len,w.length];simpa using j2
 obtain⟨R,O,I⟩:=r'.get (ar j1');obtain⟨x2,J,t⟩:=r.get (ar j2');obtain⟨u1,B,v1⟩:=w'.get O;obtain⟨u2,f2,v2⟩:=w.get J;have E:=U i[j] z[j] A.in1 R x2 u1 u2 (e j) (aT (t_ j1') D) I t v1 v2 d (Z j j1' j2');have t1:its'.toArray[j]=u1:=by simpa using (ak.mp B).2
 have t2:bx.toArray[j]=u2:=by simpa using (ak.mp f2).2
 rw[t1,t2];exact E
theorem HA(I:bH X aj σ H s):∀(n:Nat) (a b:W) (A:yy) (x y:V) (u v:gs) (k:Bool),a.dep<=n->bh X.K μ H a x->bh X.K μ H b y->cN x u->cN y v->A.units+n<Y3->kJ a b=bi k->ZL A s u v k:=by
 intro n
 induction n with
 |zero=>exact λa b A x y u v k B ra rb ru O D J=>DH (uJ I ra ru) (uJ I rb O) D (.inr (by omega)) J
 |succ m ih=>
  intro a b A x y u v k B ra rb ru O D J
  by_cases U:b.dep=0\/a.dep=0
  .exact DH (uJ I ra ru) (uJ I rb O) #[0] U J
  .cases b with
   |tup z=>
    cases a with
    |tup i=>
     obtain⟨p',xI,rfl,hS',r'⟩:=id ra.tupE;cases ru;obtain⟨its',w',ht',_⟩:=I.tuple hS'
     obtain⟨p,t,rfl,hS,r⟩:=id rb.tupE;cases O;obtain⟨bx,w,d,_⟩:=I.tuple hS
     by_cases hpp:p'=p
     .subst hpp;rw[Hz I (m+1) (.tup i) (.tup z) (.ref p') k B ra rb J];exact SeqAt.EqAt.same _
     .obtain⟨e,Z,Y⟩:=rW i z k (by unfold kJ at J;exact J);have R:=SeqAt.RcAt.tuples (A:=A) (e:=e) ht' d #[0] (AL ih r' r w' w (by unfold W.dep at B;omega) #[0] Z);rw[show its'.toArray.size=i.length by simp[<- w'.length,<- r'.len],show bx.toArray.size=z.length by simp[<- w.length,<- r.len],Y]at R;exact SeqAt.EqAt.of_refs hpp R
    |_=>exact(U (.inr rfl)).elim
   |_=>exact(U (.inl rfl)).elim
theorem HB(I:bH X aj σ H s){a b:W}{x y:V}{k:Bool}(B:b.dep=0\/a.dep<=n)(ra:bh X.K μ H a x)(rb:bh X.K μ H b y)(ru:cN x u)(O:cN y v)(hu:A.units+n<Y3)(J:kJ a b=bi k):SeqAt.RcAt A s u v k/\SeqAt.RcNeAt A s u v (!k):=by
 by_cases U:b.dep=0\/a.dep=0
 .exact⟨LJ (uJ I ra ru) (uJ I rb O) #[0] U J,FC (uJ I ra ru) (uJ I rb O) #[0] U J⟩
 cases b with
 |tup z=>
  cases a with
  |tup i=>
   obtain⟨p',xI,rfl,hS',r'⟩:=ra.tupE;cases ru;obtain⟨its',w',ht',_⟩:=I.tuple hS'
   obtain⟨p,t,rfl,hS,r⟩:=rb.tupE;cases O;obtain⟨bx,w,d,_⟩:=I.tuple hS
   obtain⟨e,Z,Y⟩:=rW i z k (by unfold kJ at J;exact J);have D:depWs i+1<=n:=B.elim (λz=>(U (.inl z)).elim) id;obtain⟨m,rfl⟩:∃m,n=m+1:=⟨n-1,by omega⟩
   have T:=AL (A:=A) (HA I m) r' r w' w #[0] #[0] Z;have R:=SeqAt.RcAt.tuples (A:=A) (e:=e) ht' d #[0] T;have R2:=SeqAt.RcNeAt.tuples (A:=A) (e:=e) ht' d #[0] T;rw[show its'.toArray.size=i.length by simp[<- w'.length,<- r'.len],show bx.toArray.size=z.length by simp[<- w.length,<- r.len],Y]at R R2;exact⟨R,R2⟩
  |_=>exact(U (.inr rfl)).elim
 |_=>exact(U (.inl rfl)).elim
end
def oJ:W->W->List al->R W:=λx y st=>match kJ x y with
 |some k=>if y.dep=0\/x.dep<=64 then .ok (.bl k) st else .bad
 |none=>.bad
theorem HC(R:ic k X.A):sF X (YS .Eq) oJ:=⟨λW s B H x y v u Q I J D Z=>by
 obtain⟨t,Y,z,U,S,V,w,q⟩:=Z;unfold oJ at q
 cases e:kJ z U with
 |none=>rw[e]at q;exact q.elim
 |some b=>
  rw[e]at q;simp only at q
  by_cases c:U.dep=0\/z.dep<=64
  .rw[ax c]at q;have:=R.units;exact(HB I c V w J D this e).1 X.prog X.w X.xe _ ⟨.bl b,H,I,rfl,i8 S q⟩
  .rw[aF c]at q;exact q.elim,λx y Y=>by
 unfold oJ
 split
 .split<;>trivial
 .trivial⟩
def LK:W->W->List al->R W:=λx y st=>match kJ x y with
 |some k=>if y.dep=0\/x.dep<=64 then .ok (.bl (!k)) st else .bad
 |none=>.bad
theorem LM(R:ic k X.A):sF X (YS .NotEq) LK:=⟨λW s B H x y v u Q I J D Z=>by
 obtain⟨t,Y,z,U,S,V,w,q⟩:=Z;unfold LK at q
 cases e:kJ z U with
 |none=>rw[e]at q;exact q.elim
 |some b=>
  rw[e]at q;simp only at q
  by_cases c:U.dep=0\/z.dep<=64
  .rw[ax c]at q;have:=R.units;exact(HB I c V w J D this e).2 X.prog X.w X.xe _ ⟨.bl (!b),H,I,rfl,i8 S q⟩
  .rw[aF c]at q;exact q.elim,λx y Y=>by
 unfold LK
 split
 .split<;>trivial
 .trivial⟩
def sJ(x:W):List W->Option Bool
 |[]=>bi dw
 |y::ys=>match kJ y x,sJ x ys with
  |some a,bi b=>bi (a||b)
  |_,_=>cg
def AM(Ak:Bool)(x y:W)(st:List al):R W:=match y with
 |.str l=>(match x with
  |.str [c]=>.ok (.bl (if Ak then !decide (c∈l)else decide (c∈l))) st
  |_=>.bad)
 |.tup ys=>(match sJ x ys with
  |some k=>if depWs ys<=63 then .ok (.bl (if Ak then !k else k)) st else .bad
  |none=>.bad)
 |.loc n=>(match st[n]? with
  |some (.lst ys)=>(match sJ x ys with
   |some k=>if depWs ys<=63 then .ok (.bl (if Ak then !k else k)) st else .bad
   |none=>.bad)
  |_=>.bad)
 |_=>.bad
theorem AN{x:W}:∀{ys:List W} {k:Bool},sJ x ys=bi k->(∀(j:Nat) w,ys[j]?=bi w->∃b,kJ w x=bi b)/\(k=cT↔∃(j:Nat) (w:W),ys[j]?=bi w/\kJ w x=bi cT)
 |[],k,h=>by
  unfold sJ at h;cases h
  exact⟨λj w e=>by simp at e,λz=>(by cases z),λzy=>by obtain⟨j,w,e,_⟩:=zy;exact (by simp at e)⟩
 |y::ys,k,h=>by
  unfold sJ at h
  cases d:kJ y x with
  |none=>rw[d]at h;simp at h
  |some a=>
   cases e2:sJ x ys with
   |none=>rw[d,e2]at h;simp at h
   |some b=>
    rw[d,e2]at h;simp at h;obtain⟨I,t⟩:=AN e2;refine⟨λj w e=>?_,λz=>?_,λ⟨j,w,e,f⟩=>?_⟩
    .cases j with
     |zero=>simp at e;subst e;exact⟨a,d⟩
     |succ j=>exact I j w (by simpa using e)
    .rw[<- h]at z
     cases a with
     |true=>exact⟨0,y,rfl,d⟩
     |false=>
      obtain⟨j,w,p,q⟩:=t.mp (by simpa using z);exact⟨j+1,w,by simpa using p,q⟩
    .rw[<- h]
     cases j with
     |zero=>simp at e;subst e;rw[d]at f;cases f;rfl
     |succ j=>rw[t.mpr ⟨j,w,by simpa using e,f⟩];simp
theorem oK(I:bH X aj σ H s){wx:W}{x:V}(R:bh X.K μ H wx x)(J:cN x v)(n:Nat){A:yy}(O:A.units+n<Y3)
  {ys:List W} {vs:List V} {us:List gs} {k:Bool} (Y:depWs ys<=n) (rs:RelWs X.K μ H ys vs) (oD:cR vs us) (D:sJ wx ys=bi k):∃e:gs->Bool,(∀u,u∈us.toArray->ZL A s u v (e u))/\us.toArray.any e=k:=by
 classical
 obtain⟨t,q2⟩:=AN D;have at':∀(j:Nat) (u:gs),us[j]?=bi u->∃w b,ys[j]?=bi w/\kJ w wx=bi b/\ZL A s u v b:=λj u e=>by
  have hj:j<ys.length:=by have Z:=(ak.mp e).1;rw[rs.len,oD.length];exact Z
  obtain⟨b,U⟩:=t j ys[j] (ar hj);obtain⟨y,B,z⟩:=rs.get (ar hj);obtain⟨u',f1,v1⟩:=oD.get B;rw[e]at f1;cases f1
  exact⟨_,b,ar hj,U,HA I n ys[j] wx A y x u v b (aT (t_ hj) Y) z R v1 J O U⟩
 refine⟨λu=>decide (∃(j:Nat) (w:W),us[j]?=bi u/\ys[j]?=bi w/\kJ w wx=bi cT),λu O=>?_,?_⟩
 .by_cases c:∃(j:Nat) (w:W),us[j]?=bi u/\ys[j]?=bi w/\kJ w wx=bi cT
  .show ZL A s u v (decide _);rw[bb c];obtain⟨j,w,d,e2,e3⟩:=c;obtain⟨w',b,f1,f2,f3⟩:=at' j u d;rw[e2]at f1;cases f1
   rw[e3]at f2;cases f2
   exact f3
  .show ZL A s u v (decide _);rw[aQ c];obtain⟨j,hj,e⟩:=List.mem_iff_getElem.mp (show u∈us by simpa using O);have e':us[j]?=bi u:=by rw[ar hj,e]
   obtain⟨w',b,f1,f2,f3⟩:=at' j u e'
   cases b with
   |false=>exact f3
   |true=>exact absurd ⟨j,w',e',f1,f2⟩ c
 .rw[List.any_toArray]
  cases k with
  |true=>
   obtain⟨j,w,d,e2⟩:=q2.mp rfl;have hj:j<us.length:=by rw[<- oD.length,<- rs.len];exact(ak.mp d).1
   exact oh.mpr ⟨us[j],dX hj,bb ⟨j,w,ar hj,d,e2⟩⟩
  |false=>
   refine jP.mpr λu _ c=>?_;obtain⟨j,w,_,d,e2⟩:=of_decide_eq_true c;have:=q2.mpr ⟨j,w,d,e2⟩
   cases this
theorem LN(R:ic k X.A):sF X (YS .In) (AM dw):=⟨λW s B H x y v u Q I z ru zq=>by
 obtain⟨t,Y,wx,wy,S,V,ry,q⟩:=zq;have hu:=R.units
 cases wy with
 |str l=>
  simp only[AM]at q
  split at q
  .exact Fk W s B H x y v u Q I z ru ⟨_,_,V.strE,ry.strE,i8 S q⟩
  .exact q.elim
 |tup ys=>
  simp only[AM]at q
  cases J:sJ wx ys with
  |none=>rw[J]at q;exact q.elim
  |some kk=>
   rw[J]at q;simp only at q
   by_cases c:depWs ys<=63
   .rw[ax c]at q;obtain⟨p,U,rfl,hS,r⟩:=ry.tupE
    cases ru
    obtain⟨bx,w,Z,_⟩:=I.tuple hS;obtain⟨e,O,D⟩:=oK (A:=X.A.in1) I V z 63 (by show X.A.units+1+63<Y3;omega) c r w J;exact SeqAt.in_tupleAt e Z O ⟨.bl _,H,I,rfl,by rw[D];exact i8 S q⟩
   .rw[aF c]at q;exact q.elim
 |loc n=>
  simp only[AM]at q
  cases d:Y[n]? with
  |none=>rw[d]at q;exact q.elim
  |some cc=>
   rw[d]at q
   cases cc with
   |lst ys=>
    simp only at q
    cases J:sJ wx ys with
    |none=>rw[J]at q;exact q.elim
    |some kk=>
     rw[J]at q;simp only at q
     by_cases c:depWs ys<=63
     .rw[ax c]at q;obtain⟨a1,g1,U,k1,r⟩:=S.get d;obtain⟨b1,f1,rfl⟩:=ry.locE;rw[g1]at f1;cases f1
      cases ru
      obtain⟨bx,w,Z,_⟩:=I.list (sw.of k1);obtain⟨e,O,D⟩:=oK (A:=X.A.in1) I V z 63 (by show X.A.units+1+63<Y3;omega) c r w J;exact SeqAt.in_listAt e Z.isList O ⟨.bl _,H,I,rfl,by rw[D];exact i8 S q⟩
     .rw[aF c]at q;exact q.elim
   |_=>exact q.elim
 |_=>exact q.elim,λx y Y=>by
 unfold AM
 repeat' split
 all_goals trivial⟩
theorem DI(R:ic k X.A):sF X (YS .NotIn) (AM cT):=⟨λW s B H x y v u Q I z ru zq=>by
 obtain⟨t,Y,wx,wy,S,V,ry,q⟩:=zq;have hu:=R.units
 cases wy with
 |str l=>
  simp only[AM]at q
  split at q
  .exact yL W s B H x y v u Q I z ru ⟨_,_,V.strE,ry.strE,i8 S q⟩
  .exact q.elim
 |tup ys=>
  simp only[AM]at q
  cases J:sJ wx ys with
  |none=>rw[J]at q;exact q.elim
  |some kk=>
   rw[J]at q;simp only at q
   by_cases c:depWs ys<=63
   .rw[ax c]at q;obtain⟨p,U,rfl,hS,r⟩:=ry.tupE
    cases ru
    obtain⟨bx,w,Z,_⟩:=I.tuple hS;obtain⟨e,O,D⟩:=oK (A:=X.A.in1) I V z 63 (by show X.A.units+1+63<Y3;omega) c r w J;exact SeqAt.notIn_tupleAt e Z O ⟨.bl _,H,I,rfl,by rw[D];exact i8 S q⟩
   .rw[aF c]at q;exact q.elim
 |loc n=>
  simp only[AM]at q
  cases d:Y[n]? with
  |none=>rw[d]at q;exact q.elim
  |some cc=>
   rw[d]at q
   cases cc with
   |lst ys=>
    simp only at q
    cases J:sJ wx ys with
    |none=>rw[J]at q;exact q.elim
    |some kk=>
     rw[J]at q;simp only at q
     by_cases c:depWs ys<=63
     .rw[ax c]at q;obtain⟨a1,g1,U,k1,r⟩:=S.get d;obtain⟨b1,f1,rfl⟩:=ry.locE;rw[g1]at f1;cases f1
      cases ru
      obtain⟨bx,w,Z,_⟩:=I.list (sw.of k1);obtain⟨e,O,D⟩:=oK (A:=X.A.in1) I V z 63 (by show X.A.units+1+63<Y3;omega) c r w J;exact SeqAt.notIn_listAt e Z.isList O ⟨.bl _,H,I,rfl,by rw[D];exact i8 S q⟩
     .rw[aF c]at q;exact q.elim
   |_=>exact q.elim
 |_=>exact q.elim,λx y Y=>by
 unfold AM
 repeat' split
 all_goals trivial⟩
section
variable{w:ms}
theorem AO{t sl:i0}{items:Array gs}{d U:gs}{lo D:Option Int}(Z:IsTup s.heap t items)(O:s.heap.IsSliceOf sl d U .none)(R:Zx d lo)(W:Zx U D)
  (y:HT.sIx items.size 0 lo=0/\HT.sIx items.size items.size D=items.size) (h:Q (.ref t) s):i1 #[2] A (Zr (.ref t) (.ref sl)) Q E s:=by
 obtain⟨B,z,Y,M6⟩:=id O;have J:s.TypeIs (.ref sl) "slice":=⟨B,z,Y⟩
 unfold Zr
 try with_reducible refine c8 ?_
 first|refine aa (ae ?_)|skip
 refine aa (wpAny_sequenceKey Z.typeIs #[1] ?_);refine aa (bz (name:=Zk "__getitem__") Z.typeIs fg
  (bj fg Z.typeIs entry_tuple_getitem ?_ (args_tuple_getitem _ _)))
 show i1 _ _ (aaj (.ref t) >>= _) _ _ s;refine aa (tupleItemsOf_ Z ?_);refine aa (jR J ?_);rw[ax #[1]];refine aa (HT.sliceApplied_gen O R W ?_);have I:(((HT.sIx items.size 0 lo:Nat):Int)==0&&(1:Int)==1&&(HT.sIx items.size items.size D-HT.sIx items.size 0 lo)==items.size)=cT:=by rw[y.1,y.2];simp
 show i1 _ _ (if (((HT.sIx items.size 0 lo:Nat):Int)==0&&(1:Int)==1&&(HT.sIx items.size items.size D-HT.sIx items.size 0 lo)==items.size)=cT then _ else _) _ _ s;rw[ax I];unfold Builtin.Tuple.tupleIsExact;obtain⟨V,hot,Ws,nt,hdt⟩:=id Z;refine aa (aa (jR (T:="tuple") Z.typeIs ?_));refine ae ?_;rw[ax #[1]];exact aa (fC (ae ⟨_,rfl,ae h⟩))
end
section
variable{a b c o:i9}{fa fb fc fe:FE}{fs:FA}
noncomputable def lstOf(st:List al)(n:Nat):Option (List W):=match st[n]? with
 |some (.lst ws)=>bi ws
 |some (.ro ws)=>bi ws
 |_=>cg
theorem gk.lstOf(S:gk K mg μ st H)(h:lstOf st n=bi ws):∃a vs,μ[n]?=bi a/\sw K H a vs/\RelWs K μ H ws vs:=by
 unfold L2.lstOf at h
 cases e:st[n]? with
 |none=>rw[e]at h;cases h
 |some V=>
  rw[e]at h
  cases V with
  |lst D=>cases h;obtain⟨a,g,vs,k,r⟩:=S.get e;exact⟨a,vs,g,sw.of k,r⟩
  |ro D=>cases h;obtain⟨a,g,vs,k,r⟩:=S.get e;exact⟨a,vs,g,k.sq,r⟩
  |exc D=>cases h
  |dct D=>cases h
  |rod D=>cases h
  |dcx D=>cases h
  |rox D=>cases h
  |obj _ _=>cases h
  |tab _ _ _=>cases h
  |pin _ _ _ _=>cases h
  |gone=>cases h
noncomputable def sK(o:Option α)(k:α->R W):R W:=match o with
 |some a=>k a
 |none=>.bad
@[simp] theorem cO{α:Type}(a:α)(k:α->R W):sK (bi a) k=k a:=rfl
def b9(x y:W)(st:List al):R W:=match x,y with
 |.tup ws,.int i=>sK (u9 ws i) λw=>.ok w st
 |.str l,.int i=>if l.length<=lw then sK (u9 l i) (λc=>.ok (.str [c]) st)else .bad
 |.loc n,.int i=>sK (lstOf st n) λws=>sK (u9 ws i) λw=>.ok w st
 |_,_=>.bad
theorem DJ{i:Int}{w:W}(r:RelWs K μ H ws vs)(h:u9 ws i=bi w):∃v,u9 vs i=bi v/\bh K μ H w v:=by
 unfold u9 at h ⊢;rw[<- r.len]
 cases e:Lk ws.length i with
 |none=>rw[e]at h;cases h
 |some k=>rw[e]at h;exact r.get h
theorem Xo:KJ X (Uu X b9):=λvalue slice W s B H x y v u Q I J D zq O=>by
 obtain⟨t,Y,wx,wy,S,R,V,q⟩:=zq;refine P9 value slice W s B H x y v u Q I J D ?_ O
 cases wy with
 |int i=>
  cases wx with
  |tup Z=>
   simp only[b9]at q
   cases d:u9 Z i with
   |none=>rw[d]at q;exact q.elim
   |some w=>
    rw[d]at q;obtain⟨p,U,rfl,hS,r⟩:=R.tupE;obtain⟨z,f,g⟩:=DJ r d;exact .inr (.inl ⟨p,U,i,z,rfl,V.intE,hS,f,q t z H (ah _) dH.refl S g⟩)
  |str l=>
   simp only[b9]at q
   by_cases c:l.length<=lw
   .rw[ax c]at q
    cases d:u9 l i with
    |none=>rw[d]at q;exact q.elim
    |some w=>
     rw[d]at q;exact .inr (.inr ⟨_,i,w,R.strE,V.intE,by rw[kU];exact jk c,by rw[Qd];exact d,sI S q⟩)
   .rw[aF c]at q;exact q.elim
  |loc n=>
   simp only[b9]at q
   cases e0:lstOf Y n with
   |none=>rw[e0]at q;exact q.elim
   |some Z=>
    rw[e0]at q
    cases d:u9 Z i with
    |none=>rw[cO,d]at q;exact q.elim
    |some w=>
     rw[cO,d]at q;obtain⟨a,U,g,hS,r⟩:=S.lstOf e0;obtain⟨b1,f1,rfl⟩:=R.locE;rw[g]at f1;cases f1
     obtain⟨z,f,g⟩:=DJ r d;exact .inl ⟨_,U,i,z,rfl,V.intE,hS,f,q t z H (ah _) dH.refl S g⟩
  |_=>exact q.elim
 |_=>cases wx<;>exact q.elim
theorem lT{o:Option α}{k:α->R W}(h:∀a,q_ (k a)):q_ (sK o k):=by
 unfold sK
 split
 .exact h _
 .trivial
theorem UH(x y:W)(st:List al):q_ (b9 x y st):=by
 unfold b9
 split
 .exact lT λ_=>trivial
 .split
  .exact lT λ_=>trivial
  .trivial
 .exact lT λ_=>lT λ_=>trivial
 .trivial
theorem nQ(D:SE X a fa)(U:SE X b fb)(O:Dt b:=by intro _ _;rfl):SE X (.Subscript a b pos) (e2 b9 fa fb):=⟨(T0 Xo D.h U.h O).imp λ_ _ _ h=>DD UH h⟩
abbrev FO:=cE->List al->R (Option Int)
abbrev Xp:List i0->Hp->Option Int->Option Int->Prop:=λ_ _ a b=>a=b
structure SO(X:Cx)(e:Option i9)(f:FO):Prop where
 h:PO X e (tG X Xp f)
def jD:FO:=λ_ st=>.ok cg st
def i5(fa:FE):FO:=λV st=>(fa V st).bind λx st=>match x with
 |.int i=>.ok (bi i) st
 |_=>.bad
theorem PO.imp{e:Option i9}{t t':TO}(h:PO X e t)(i:∀σ H Q,t' σ H Q->t σ H Q):PO X e t':=λW s σ H Q I q=>h W s σ H Q I (i _ _ _ q)
theorem DL:SO X cg jD:=⟨Lh.imp λB H Q h=>by obtain⟨t,V,Y,l,h⟩:=h;exact h t cg H (ah _) dH.refl l.sto rfl⟩
theorem DM(D:SE X a fa):SO X (bi a) (i5 fa):=⟨(Li D.h).imp λB H Q h=>by
 obtain⟨t,V,Y,l,h⟩:=h;refine⟨t,V,Y,l,RK.bind h l λd W x v H1 R J y w Z=>?_⟩
 cases x with
 |int k=>exact⟨k,w.intE,Z d _ H1 (ah _) dH.refl y.sto rfl⟩
 |_=>exact Z.elim⟩
noncomputable def oM(xs:List α)(lo D:Option Int):List α:=(xs.drop (HT.sIx xs.length 0 lo)).take (HT.sIx xs.length xs.length D-HT.sIx xs.length 0 lo)
def KO(x:W)(lo D:Option Int)(st:List al):R W:=match x with
 |.tup ws=>.ok (.tup (oM ws lo D)) st
 |.str l=>if l.length<=lw then .ok (.str (oM l lo D)) st else .bad
 |.loc n=>sK (lstOf st n) λws=>.ok (.loc st.length) (st++[.lst (oM ws lo D)])
 |_=>.bad
theorem UI(x:W)(lo D:Option Int)(st:List al):q_ (KO x lo D st):=by
 unfold KO sK
 repeat' split
 all_goals trivial
def xw(fa:FE)(I d:FO):FE:=λV st=>(fa V st).bind λx st=>(I V st).bind λl st=>(d V st).bind λh st=>KO x l h st
theorem Xq:TY X (λx lo D H Q=>∃μ st wx,gk X.K X.mg μ st H/\bh X.K μ H wx x/\Fx X μ H Q (KO wx lo D st)):=by
 intro W s B H x v vl vu lo D sl Q I J O pl pu ⟨μ,st,wx,S,R,q⟩
 cases wx with
 |tup z=>
  obtain⟨p,U,rfl,d,r⟩:=R.tupE;have Y:=r.len
  by_cases y:HT.sIx U.length 0 lo=0/\HT.sIx U.length U.length D=U.length
  .cases J
   obtain⟨t,w,Z,V⟩:=I.tuple d;have dC:t.toArray.size=U.length:=by rw[aS];exact w.length.symm
   refine⟨"tuple",_,fg.lookup,Z.typeIs,AO Z O pl pu (by rw[dC];exact y) ⟨.ref p,H,I,rfl,?_⟩⟩;have e:oM z lo D=z:=by unfold oM;rw[Y,y.1,y.2,List.drop_zero,Nat.sub_zero,<- Y,fE]
   have q':Fx X μ H Q (.ok (.tup (oM z lo D)) st):=q;rw[e]at q';exact q' μ _ H (ah _) dH.refl S R
  .refine P5 W s B H _ v vl vu lo D sl Q I J O pl pu ⟨p,U,rfl,d,y,λp2 hp2=>?_⟩;have x:=gg.same (K:=X.K) (ca hp2 (.tup (vC U lo D)));have rc:RelWs X.K μ H (oM z lo D) (vC U lo D):=by unfold oM vC;rw[Y];exact(r.drop _).take _
   exact q μ _ _ (ah _) x (S.same (ca hp2 _)) (.tupI gg.new (rc.mono (ah _) x))
 |str l=>
  simp only[KO]at q
  by_cases c:l.length<=lw
  .rw[ax c]at q;exact Qh W s B H _ v vl vu lo D sl Q I J O pl pu ⟨l,R.strE,jk c,sI S q⟩
  .rw[aF c]at q;exact q.elim
 |loc n=>
  simp only[KO]at q
  cases e0:lstOf st n with
  |none=>rw[e0]at q;exact q.elim
  |some z=>
   rw[e0]at q;obtain⟨a,U,g,d,r⟩:=S.lstOf e0;obtain⟨b1,f1,rfl⟩:=R.locE;rw[g]at f1;cases f1
   have Y:=r.len;refine Ln W s B H _ v vl vu lo D sl Q I J O pl pu ⟨_,U,rfl,d,λp2 hp2=>?_⟩;have rc:RelWs X.K μ H (oM z lo D) (vC U lo D):=by unfold oM vC;rw[Y];exact(r.drop _).take _
   exact q (μ++[p2]) _ _ (aq _ _) (gg.same (ca hp2 _)) (S.newLst hp2 rc) (ny S)
 |_=>exact q.elim
theorem UJ{lo D:Option i9}{fl fh:FO}(O:SE X a fa)(I:SO X lo fl)(hh:SO X D fh):SE X (.Subscript a (.Slice lo D cg p2) pos) (xw fa fl fh):=⟨(G6 Xq O.h I.h hh.h).imp λB H Q h=>by
 obtain⟨R,V,J,l,h⟩:=h;refine⟨R,V,J,l,RK.bind h l λd W x v H1 p1 x1 l1 w Z=>⟨d,V,W,l1,RK.bind Z l1 λμ2 U y u H2 p2 x2 l2 q2 Y=>⟨μ2,V,U,l2,RK.bind Y l2 λμ3 fP z t H3 p3 x3 l3 q3 h3=>?_⟩⟩⟩
 cases q2;cases q3
 exact⟨μ3,fP,x,l3.sto,(w.mono p2 x2).mono p3 x3,rV h3 (UI _ _ _ _)⟩⟩
def X9(X:Cx)(F:List W->List al->R W):List V->Hp->VK->Prop:=λvs H Q=>∃μ st ws,gk X.K X.mg μ st H/\RelWs X.K μ H ws vs/\Fx X μ H Q (F ws st)
structure qi(X:Cx)(f:gs)(F:List W->List al->R W):Prop where
 h:ju X f (X9 X F)
 n:∀ws st,q_ (F ws st)
def bC(F:List W->List al->R W)(fs:FA):FE:=λV st=>(fs V st).bind λws st=>F ws st
theorem DN{Q:VK}(n:∀ws st,q_ (F ws st))(h:tE X (bC F fs) σ H Q):W' (X9 X F) (Uq X fs) σ H Q:=by obtain⟨t,V,st,l,h⟩:=h;exact⟨t,V,st,l,RK.bind h l λd W x v H1 R J y w Z=>⟨d,W,x,y.sto,w,rV Z (n _ _)⟩⟩
theorem gX{id:String}(J:qi X (.builtin id) F)(y:X.mg x=cg)(W:ZI x=bi (.builtin id))(D:SA X (e::es) fs)(d:Gl X x:=by rfl)(R:x ≠ "__name__":=by decide)(Y:(x==("__debug__":Str))=dw:=by decide)
  (O:ow (e::es) X.env=(dw,eval e X.env)::ow es X.env:=by rfl) (Z:(YR pos (ow es X.env)).any (·.1)=dw:=by rfl):SE X (.Call (.Name x p) (e::es) [] pos) (bC F fs):=⟨(Ar J.h d y W D.h R Y O Z).imp λ_ _ _ h=>DN J.n h⟩
theorem jE(J:qi X (.type T) F)(y:X.mg x=cg)(W:ZI x=bi (.type T))(D:SA X (e::es) fs)(d:Gl X x:=by rfl)(R:x ≠ "__name__":=by decide)(Y:(x==("__debug__":Str))=dw:=by decide)
  (O:ow (e::es) X.env=(dw,eval e X.env)::ow es X.env:=by rfl) (Z:(YR pos (ow es X.env)).any (·.1)=dw:=by rfl):SE X (.Call (.Name x p) (e::es) [] pos) (bC F fs):=⟨(nM J.h d y W D.h R Y O Z).imp λ_ _ _ h=>DN J.n h⟩
theorem RelWs.two{a b:W}(r:RelWs K μ H [a,b] vs):∃x y,vs=[x,y]/\bh K μ H a x/\bh K μ H b y:=by obtain⟨x,d,rfl,R,t⟩:=r.consE;obtain⟨y,U,rfl,w,z⟩:=t.consE;rw[z.nilE];exact⟨x,y,rfl,R,w⟩
theorem RelWs.one{a:W}(r:RelWs K μ H [a] vs):∃x,vs=[x]/\bh K μ H a x:=by obtain⟨x,d,rfl,R,t⟩:=r.consE;rw[t.nilE];exact⟨x,rfl,R⟩
def e7(ws:List W)(st:List al):R W:=match ws with
 |[.tup xs]=>.ok (.int xs.length) st
 |[.str l]=>if l.length<=lw then .ok (.int l.length) st else .bad
 |[.loc n]=>sK (lstOf st n) λxs=>.ok (.int xs.length) st
 |_=>.bad
theorem qj:qi X (.builtin "len") e7:=⟨λW s B H U d Q I J y=>by
 obtain⟨t,Y,O,S,r,q⟩:=y;unfold e7 at q
 split at q
 .obtain⟨x,rfl,R⟩:=r.one;obtain⟨p,V,rfl,Z,D⟩:=R.tupE;exact sy W s B H _ d Q I J ⟨p,V,rfl,.inr Z,by rw[<- D.len];exact mT S q⟩
 .obtain⟨x,rfl,R⟩:=r.one
  split at q
  .rename_i c
   exact yH W s B H _ d Q I J ⟨_,by rw[R.strE],by rw[kU];exact jk c,by rw[kU];exact mT S q⟩
  .exact q.elim
 .obtain⟨x,rfl,R⟩:=r.one;unfold sK at q
  split at q
  .rename_i V w
   obtain⟨a,U,g,Z,D⟩:=S.lstOf w;obtain⟨b1,z,rfl⟩:=R.locE;rw[g]at z;cases z
   exact sy W s B H _ d Q I J ⟨_,U,rfl,.inl Z,by rw[<- D.len];exact mT S q⟩
  .exact q.elim
 .exact q.elim,λO Y=>by
 unfold e7 sK
 repeat' split
 all_goals trivial⟩
noncomputable def FD(ws:List W)(st:List al):R W:=match ws with
 |[.int i,.int j]=>.ok (.int (if j>i then j else i)) st
 |_=>.bad
theorem UK(J:X.calm=cT:=by rfl):qi X (.builtin "max") FD:=⟨λW s B H U d Q I z Z=>by
 obtain⟨t,Y,O,S,r,q⟩:=Z;unfold FD at q
 split at q
 .obtain⟨x,y,rfl,R,w⟩:=r.two;exact E_ J W s B H _ d Q I z ⟨_,_,by rw[R.intE,w.intE],mT S q⟩
 .exact q.elim,λO Y=>by unfold FD;split<;>trivial⟩
def eJ(ws:List W)(st:List al):R W:=match ws with
 |[.tup xs]=>.ok (.tup xs) st
 |[.loc n]=>sK (lstOf st n) λxs=>.ok (.tup xs) st
 |_=>.bad
theorem mU:qi X (.type "tuple") eJ:=⟨λW s B H U d Q I J y=>by
 obtain⟨t,Y,O,S,r,q⟩:=y;unfold eJ at q
 split at q
 .obtain⟨x,rfl,R⟩:=r.one;obtain⟨p,V,rfl,Z,r'⟩:=id R.tupE;exact As W s B H _ d Q I J ⟨p,V,rfl,Z,q t _ H (ah _) dH.refl S R⟩
 .obtain⟨x,rfl,R⟩:=r.one;unfold sK at q
  split at q
  .rename_i V w
   obtain⟨a,U,g,Z,r'⟩:=S.lstOf w;obtain⟨b1,z,rfl⟩:=R.locE;rw[g]at z;cases z
   refine Av W s B H _ d Q I J ⟨_,U,rfl,Z,λl H2 D e=>?_⟩;subst e;have x:=gg.same (K:=X.K) (ca D (.tup U));exact q t _ _ (ah _) x (S.same (ca D _)) (.tupI gg.new (r'.mono (ah _) x))
  .exact q.elim
 .exact q.elim,λO Y=>by
 unfold eJ sK
 repeat' split
 all_goals trivial⟩
noncomputable def HD(ws:List W)(st:List al):R W:=match ws with
 |[.int i]=>.ok (.int i) st
 |[.bl k]=>.ok (.int (if k then 1 else 0)) st
 |_=>.bad
theorem UL:qi X (.type "int") HD:=⟨λW s B H U d Q I J Z=>by
 obtain⟨t,Y,O,S,r,q⟩:=Z;unfold HD at q
 split at q
 .obtain⟨x,rfl,R⟩:=r.one;exact xL W s B H _ d Q I J (.inl ⟨_,by rw[R.intE],mT S q⟩)
 .obtain⟨x,rfl,R⟩:=r.one;exact xL W s B H _ d Q I J (.inr ⟨_,by rw[R.blE],mT S q⟩)
 .exact q.elim,λO Y=>by unfold HD;split<;>trivial⟩
end
section
variable{a b c o:i9}{fa fb fc fe:FE}{fs:FA}{ft:FT}{st1:qd}{sr sa sb:List qd}{g g':FS}
def a9(g g':FS):FS:=λV st=>match g V st with
 |.nx R bF=>g' R bF
 |r=>r
def eK:FS:=λV st=>.nx V st
theorem rX:SB X [] eK:=⟨K5.imp λD B H h=>by obtain⟨t,V,Y,l,h⟩:=h;exact h t B H (ah _) dH.refl l⟩
theorem e_(Z:SS X st1 g):SB X [st1] g:=⟨K6 Z.h⟩
theorem cw(Z:SS X st1 g)(Y:SB X sr g'):SB X (st1::sr) (a9 g g'):=⟨(GR Z.h Y.h).imp λD B H h=>by
 obtain⟨t,V,J,l,h⟩:=h;refine⟨t,V,J,l,?_⟩;unfold a9 at h
 cases e:g V J with
 |nx R U=>rw[e]at h;exact λz O H' p x I=>⟨z,R,U,I,SK.mono h p x⟩
 |rt w U=>rw[e]at h;exact h
 |bk R U=>rw[e]at h;exact h
 |ct R U=>rw[e]at h;exact h
 |ex c R U=>rw[e]at h;exact h
 |bad=>rw[e]at h;exact h⟩
def R.stmt(r:R α)(ρ:cE)(k:α->List al->RS):RS:=match r with
 |.ok a st=>k a st
 |.ex c st=>.ex c ρ st
 |.bad=>.bad
@[simp] theorem R.stmt_ok{α:Type}(a:α)(st:List al)(ρ:cE)(k:α->List al->RS):(R.ok a st).stmt ρ k=k a st:=rfl
theorem RK.stmt{z:List i0->Hp->α->β->Prop}{ρ:cE}{D:yB}{r:R α}{k:α->List al->RS}{T:β->Hp->Prop}
  (h:SK X μ H D (r.stmt ρ k)) (l:Rl X μ ρ st σ H)
  (B:∀μ' bF x v H',μ <+: μ'->dH X.K H H'->Rl X μ' ρ bF σ H'->z μ' H' x v->SK X μ' H' D (k x bF)->T v H'):RK X z μ σ H T r:=by
 cases r with
 |ok a bF=>exact λμ' b H' p x s q=>B μ' bF a b H' p x (l.to p x s) q (SK.mono h p x)
 |ex c bF=>exact XS.toE h l
 |bad=>exact h
def gU(fe:FE):FS:=λV st=>(fe V st).stmt V λ_ st=>.nx V st
theorem lF(J:SE X e fe)(O:swapsWith e cg pos.line X.env=pure dw:=by rfl):SS X (.Expr e pos) (gU fe):=⟨(K7 J.h O).imp λD B H h=>by obtain⟨t,V,Y,l,h⟩:=h;exact⟨t,V,Y,l,RK.stmt h l λd W x v H1 R z y w Z=>Z d B H1 (ah _) dH.refl y⟩⟩
def dS(fe:FE):FS:=λV st=>(fe V st).stmt V λw st=>.rt w st
theorem oN(J:SE X e fe):SS X (.Return (bi e) pos) (dS fe):=⟨(Px J.h).imp λD B H h=>by obtain⟨t,V,Y,l,h⟩:=h;exact⟨t,V,Y,l,RK.stmt h l λd W x v H1 R z y w Z=>Z d v H1 (ah _) dH.refl y.sto w⟩⟩
def lK(t:FT)(g g':FS):FS:=λV st=>(t V st).stmt V λk st=>if k then g V st else g' V st
theorem vL(J:ST X c ft)(O:SB X sa g)(U:SB X sb g'):SS X (.If c sa sb pos) (lK ft g g'):=⟨(TD J.h O.h U.h).imp λD B H h=>by
 obtain⟨t,V,Y,l,h⟩:=h;refine⟨t,V,Y,l,RK.stmt h l λd W x v H1 R z y w Z=>?_⟩
 cases w
 cases x with
 |true=>exact⟨d,V,W,y,Z⟩
 |false=>exact⟨d,V,W,y,Z⟩⟩
abbrev FG:=W->cE->Option cE
abbrev Nv:=List W->cE->Option cE
def Wy(X:Cx)(f:FG):TG:=λv σ H Q=>∃μ V st w R,Rl X μ V st σ H/\bh X.K μ H w v/\f w V=bi R/\∀O,Rl X μ R st O H->Q O H
def Xr(X:Cx)(f:Nv):K8:=λvs σ H Q=>∃μ V st ws R,Rl X μ V st σ H/\RelWs X.K μ H ws vs/\f ws V=bi R/\∀O,Rl X μ R st O H->Q O H
theorem PG.imp{t t':TG}(h:PG X e t)(i:∀v σ H Q,t' v σ H Q->t v σ H Q):PG X e t':=λW s σ H x u Q I r q=>h W s σ H x u Q I r (i _ _ _ _ q)
theorem Ni.imp{e:List i9}{t t':K8}(h:Ni X e t)(i:∀v σ H Q,t' v σ H Q->t v σ H Q):Ni X e t':=λW s σ H x u Q I r q=>h W s σ H x u Q I r (i _ _ _ _ q)
structure SG(X:Cx)(e:i9)(f:FG):Prop where
 h:PG X e (Wy X f)
structure Wz(X:Cx)(e:List i9)(f:Nv):Prop where
 h:Ni X e (Xr X f)
def gi(i:Nat):FG:=λw V=>bi (V.set i (bi w))
theorem yS(z:X.N.Nodup)(D:X.N[i]?=bi x)(O:GK X.env.scope x)(J:X.fn x=cT\/X.env.scope.names.lookup x=bi .local:=by first|exact .inl rfl|exact .inr rfl|assumption):SG X (.Name x pos) (gi i):=⟨(K_ z D O J).imp λv B H Q h=>by
 obtain⟨t,V,Y,w,R,l,r,e,q⟩:=h
 cases e
 exact q _ ⟨sE r i l.env,l.sto⟩⟩
def j_:Nv:=λws V=>match ws with
 |[]=>bi V
 |_=>cg
def dg(f:FG)(fs:Nv):Nv:=λws V=>match ws with
 |w::ws=>(f w V).bind λR=>fs ws R
 |[]=>cg
theorem yT:Wz X [] j_:=⟨K'.imp λU B H Q h=>by
 obtain⟨t,V,Y,O,R,l,r,e,q⟩:=h
 cases O with
 |nil=>cases e;exact⟨r.nilE,q B l⟩
 |cons _ _=>cases e⟩
theorem nR{f:FG}{fs:Nv}(Z:SG X e f)(Y:Wz X es fs)(O:(Zn (e::es) X.env).map (·.2)=assign e X.env::(Zn es X.env).map (·.2):=by rfl):Wz X (e::es) (dg f fs):=⟨(GT Z.h Y.h O).imp λU B H Q h=>by
 obtain⟨t,V,J,z,D,l,r,e,q⟩:=h
 cases z with
 |nil=>cases e
 |cons w z=>
  obtain⟨x,I,rfl,R,W⟩:=r.consE;simp only[dg]at e
  cases d:f w V with
  |none=>rw[d]at e;cases e
  |some ρ1=>
   rw[d]at e;exact⟨x,I,rfl,t,V,J,w,ρ1,l,R,d,λσ1 y=>⟨t,ρ1,J,z,D,y,W,e,q⟩⟩⟩
def yU(n:Nat)(fs:Nv):FG:=λw V=>match w with
 |.tup ws=>if ws.length=n then fs ws V else cg
 |_=>cg
theorem Cw{k:Nat}{fs:Nv}(J:X.calm=cT)(h:Wz X es fs)(R:(Zn es X.env).length=n:=by rfl)(z:(Zn es X.env).findIdx? (·.1)=cg:=by rfl):SG X (.Tuple es k pos) (yU n fs):=⟨(Pz J h.h R z).imp λv B H Q h=>by
 obtain⟨t,V,Y,w,D,l,r,e,q⟩:=h
 cases w with
 |tup O=>
  obtain⟨p,U,rfl,W,y⟩:=r.tupE;simp only[yU]at e
  by_cases c:O.length=n
  .rw[ax c]at e;exact⟨p,U,rfl,W,by rw[<- y.len];exact c,t,V,Y,O,D,l,y,e,q⟩
  .rw[aF c]at e;cases e
 |_=>cases e⟩
def FF(fe:FE)(f:FG):FS:=λV st=>(fe V st).stmt V λw st=>match f w V with
 |some R=>.nx R st
 |none=>.bad
theorem UM{f:FG}{D:yB}(h:Ur X (FF fe f) D σ H):PD (tE X fe) (Wy X f) D σ H:=by
 obtain⟨t,V,Y,l,h⟩:=h;refine⟨t,V,Y,l,RK.stmt h l λJ W x v H1 I z y w Z=>?_⟩
 cases d:f x V with
 |none=>rw[d]at Z;exact Z.elim
 |some R=>rw[d]at Z;exact⟨J,V,W,x,R,y,w,d,λO U=>Z J O H1 (ah _) dH.refl U⟩
theorem Qy{f:FG}(J:SE X e fe)(d:SG X tg f)(O:swapsWithSole [tg] e pos.line X.env=pure dw:=by rfl)(y:swappedStores [tg] e X.env=pure cg:=by rfl)(Z:(Zn [tg] X.env).map (·.2)=[assign tg X.env]:=by rfl):SS X (.Assign [tg] e pos) (FF fe f):=⟨(GU J.h d.h O y Z).imp λD B H h=>UM h⟩
def bZ(i:Nat)(fe:FE):FS:=λV st=>(fe V st).stmt V λw st=>.nx (V.set i (bi w)) st
theorem Qz(hN:X.N.Nodup)(w:X.N[i]?=bi x)(O:GK X.env.scope x)(J:SE X e fe)(z:swapsWith e (bi (.Name x kP)) pos.line X.env=pure dw:=by rfl)(y:X.fn x=cT\/X.env.scope.names.lookup x=bi .local:=by first|exact .inl rfl|exact .inr rfl|assumption) :
  SS X (.Assign [.Name x kP] e pos) (bZ i fe):=⟨(PF hN w O J.h z y).imp λD B H h=>by obtain⟨t,V,Y,l,h⟩:=h;exact⟨t,V,Y,l,RK.stmt h l λd W x v H1 R x1 U I Z=>Z d _ H1 (ah _) dH.refl ⟨sE I i U.env,U.sto⟩⟩⟩
def AQ(z fi fe:FE)(f:W->W->W->List al->Option (List al)):FS:=λV st=>(fe V st).stmt V λv st=>(z V st).stmt V λx st=>(fi V st).stmt V λi st=>match f x i v st with
 |some bF=>.nx V bF
 |none=>.bad
def Nw(X:Cx)(f:W->W->W->List al->Option (List al)):K9:=λo i v H Q=>∃μ st w t U bF,gk X.K X.mg μ st H/\bh X.K μ H w o/\bh X.K μ H t i/\bh X.K μ H U v/\f w t U st=bi bF/\∀H',dH X.K H H'->gk X.K X.mg μ bF H'->Q H'
theorem Cy{f:W->W->W->List al->Option (List al)}{i:i9}{fi:FE}{fo:FE}(SH:Py X (Nw X f))(z:SE X e fe)(R:SE X o fo)(w:SE X i fi)
  (y:∀v,assign (.Subscript o i kP) X.env v=(do
   let ov <- holding [v] (eval o X.env)
   let iv <- holding [v,ov] (eval i X.env)
   standAt kP
   holding [v,ov,iv] (setItem ov iv v)
   release [v,ov,iv] []):=by intro _;rfl)
  (O:swapsWithSole [.Subscript o i kP] e pos.line X.env=pure dw:=by rfl) (hw:swappedStores [.Subscript o i kP] e X.env=pure cg:=by rfl) (Z:(Zn [.Subscript o i kP] X.env).map (·.2)=[assign (.Subscript o i kP) X.env]:=by rfl) :
  SS X (.Assign [.Subscript o i kP] e pos) (AQ fo fi fe f):=⟨(GU z.h (PB R.h w.h SH y) O hw Z).imp λD B H h=>by
 obtain⟨μ,V,J,l,h⟩:=h;refine⟨μ,V,J,l,RK.stmt h l λU st1 v vv H1 p1 x1 l1 I Z=>⟨U,V,st1,l1,RK.stmt Z l1 λμ2 t x xv H2 p2 x2 l2 q2 Y=>⟨μ2,V,t,l2,RK.stmt Y l2 λμ3 fP i iv H3 p3 x3 l3 q3 h3=>?_⟩⟩⟩
 cases d:f x i v fP with
 |none=>rw[d]at h3;exact h3.elim
 |some bF=>
  rw[d]at h3;exact⟨μ3,fP,x,i,v,bF,l3.sto,q2.mono p3 x3,q3,(I.mono p2 x2).mono p3 x3,d,λH' xx S'=>h3 μ3 B H' (ah _) xx (l3.to (ah _) xx S')⟩⟩
end
def kK(st:List al):Option (Nat×List W)->Prop
 |none=>True
 |some (n,ws)=>lstOf st n=bi ws
noncomputable abbrev FH:=List W×Option (Nat×List W)
abbrev FI:=cE->List al->R FH
def yV(X:Cx)(J:It)(k:FH)(μ:List i0)(H:Hp):Prop:=
 ∀(i:Nat) μ' bF H',μ <+: μ'->dH X.K H H'->gk X.K X.mg μ' bF H'->kK bF k.2 ->
  (∀w,k.1[i]?=bi w->J.go i H'/\∀x H'',J.yld i H' x H''->dH X.K H' H''/\gk X.K X.mg μ' bF H''/\bh X.K μ' H'' w x)/\(k.1.length<=i->J.stop i H')
abbrev UN(X:Cx):List i0->Hp->FH->It->Prop:=λμ H k J=>yV X J k μ H
structure SI(X:Cx)(tg it:i9)(f:FI):Prop where
 h:PI X tg it (λσ H R=>tG X (UN X) f σ H R)
theorem PI.imp{it:i9}{t t':TI}(h:PI X tg it t)(i:∀σ H Q,t' σ H Q->t σ H Q):PI X tg it t':=λW s σ H Q I q=>h W s σ H Q I (i _ _ _ q)
open Classical in
def vM(f:FG)(body:FS)(ck:Option (Nat×List W)):List W->FS
 |[],ρ,st=>if kK st ck then .nx ρ st else .bad
 |w::ws,ρ,st=>if kK st ck then(match f w ρ with
  |none=>.bad
  |some R=>(match body R st with
   |.nx D U=>vM f body ck ws D U
   |.ct D U=>vM f body ck ws D U
   |.bk D U=>.nx D U
   |.rt w U=>.rt w U
   |.ex c D U=>.ex c D U
   |.bad=>.bad))else .bad
def iC(fi:FI)(f:FG)(body:FS):FS:=λV st=>(fi V st).stmt V λk st=>vM f body k.2 k.1 V st
section
variable{a b c o:i9}{fa fb fe:FE}{fs:FA}{ft:FT}{g:FS}{f:FG}{fi:FI}
theorem kW(I:SI X tg d9 fi)(hg:SG X tg f)(U:SB X body g)(R:X.calm=cT:=by rfl)(z:PassesOwn #[3] X.A X.env X.xe:=by passes_own)(O:∀x,ZB d9 X.env x=pure x:=by intro _;rfl):SS X (.For tg d9 body [] pos) (iC fi f g):=⟨(PJ z R I.h hg.h U.h O).imp λD B H h=>by
 obtain⟨μ,V,Y,l,h⟩:=h;refine⟨μ,V,Y,l,RK.stmt h l λd st1 k J H1 p1 x1 l1 wk Z=>?_⟩;refine⟨λi m σ' H'=>i<=k.1.length/\m=k.1.length-i/\∃μ' ρ' bF,d <+: μ'/\dH X.K H1 H'/\Rl X μ' ρ' bF σ' H'/\SK X μ' H' D (vM f g k.2 (k.1.drop i) ρ' bF),
  ⟨_,dy _,rfl,d,V,st1,ah _,dH.refl,l1,Z⟩,?_⟩
 rintro i m σ' H' ⟨I,rfl,μ',ρ',bF,pm,xm,lm,y⟩
 by_cases hlt:i<k.1.length
 .rw[gz hlt]at y;unfold vM at y
  by_cases ck:kK bF k.2
  .rw[ax ck]at y;obtain⟨go,yld⟩:=(wk i μ' bF H' pm xm lm.sto ck).1 _ (ar hlt)
   cases hf:f k.1[i] ρ' with
   |none=>rw[hf]at y;exact y.elim
   |some ρ2=>
    rw[hf]at y;simp only at y;refine .inr ⟨go,λσ2 H2=>∃μ2 ρ3 W,μ' <+: μ2/\dH X.K H' H2/\Rl X μ2 ρ3 W σ2 H2/\SK X μ2 H2 D (vM f g k.2 (k.1.drop (i+1)) ρ3 W),λσ2 H2 ⟨μ2,ρ3,W,t,q2,q3,q4⟩=>
     ⟨_,by omega,hlt,rfl,μ2,ρ3,W,pm.trans t,xm.trans q2,q3,q4⟩,λx H2 hy=>?_⟩
    obtain⟨y1,y2,y3⟩:=yld x H2 hy;refine⟨μ',ρ',bF,k.1[i],ρ2,lm.to (ah _) y1 y2,y3,hf,λσ2 l2=>⟨μ',ρ2,bF,l2,?_⟩⟩
    cases e:g ρ2 bF with
    |nx ρ3 fP=>rw[e]at y;exact λμ4 σ4 H4 p4 x4 l4=>⟨μ4,ρ3,fP,p4,y1.trans x4,l4,SK.mono y p4 (y1.trans x4)⟩
    |ct ρ3 fP=>rw[e]at y;exact λμ4 σ4 H4 p4 x4 l4=>⟨μ4,ρ3,fP,p4,y1.trans x4,l4,SK.mono y p4 (y1.trans x4)⟩
    |bk ρ3 fP=>rw[e]at y;exact λμ4 σ4 H4 p4 x4 l4=>y μ4 σ4 H4 p4 (y1.trans x4) l4
    |rt w fP=>rw[e]at y;exact λμ4 v4 H4 p4 x4=>y μ4 v4 H4 p4 (y1.trans x4)
    |ex c ρ3 fP=>rw[e]at y;exact XS.mono y (ah _) y1
    |bad=>rw[e]at y;exact y
  .rw[aF ck]at y;exact y.elim
 .have hi':i=k.1.length:=by omega
  subst hi';rw[pe (am _)]at y;unfold vM at y
  by_cases ck:kK bF k.2
  .rw[ax ck]at y;exact .inl ⟨(wk _ μ' bF H' pm xm lm.sto ck).2 (am _),y μ' σ' H' (ah _) dH.refl lm⟩
  .rw[aF ck]at y;exact y.elim⟩
def hJ(t:FT)(body:FS):Nat->FS
 |0,_,_=>.bad
 |n+1,ρ,st=>(t ρ st).stmt ρ λk st=>if k then(match body ρ st with
   |.nx D U=>hJ t body n D U
   |.ct D U=>hJ t body n D U
   |.bk D U=>.nx D U
   |.rt w U=>.rt w U
   |.ex c D U=>.ex c D U
   |.bad=>.bad)else .nx ρ st
open Classical in
def nz(t:FT)(body:FS):FS:=λV st=>if h:∃n,hJ t body n V st≠.bad then hJ t body h.choose V st else .bad
theorem qk(t:FT)(g:FS):∀(n:Nat) (V:cE) (st:List al),hJ t g n V st≠.bad->hJ t g (n+1) V st=hJ t g n V st
 |0,_,_,h=>absurd rfl h
 |n+1,V,st,h=>by
  unfold hJ at h ⊢
  cases e:t V st with
  |ex c W=>rfl
  |bad=>rfl
  |ok k W=>
   rw[e]at h;simp only[R.stmt_ok]at h ⊢
   cases k with
   |false=>rfl
   |true=>
    simp only[gu]at h ⊢
    cases e2:g V W with
    |nx D U=>rw[e2]at h;exact qk t g n D U h
    |ct D U=>rw[e2]at h;exact qk t g n D U h
    |_=>rfl
theorem xZ{t:FT}{n m:Nat}{ρ:cE}(h:hJ t g n ρ st≠.bad)(y:n<=m):hJ t g m ρ st=hJ t g n ρ st:=by
 induction y with
 |refl=>rfl
 |@step m _ ih=>rw[qk t g m ρ st (by rw[ih];exact h),ih]
theorem FJ{t:FT}{ρ:cE}{r:RS}(h:hJ t g n ρ st=r)(R:r≠.bad):nz t g ρ st=r:=by
 have O:∃n,hJ t g n ρ st≠.bad:=⟨n,by rw[h];exact R⟩
 unfold nz;rw[ph O];have c:=O.choose_spec;have a:=xZ c (Nat.le_max_left O.choose n);have b:=xZ (n:=n) (m:=max O.choose n) (by rw[h];exact R) (Nat.le_max_right _ _);rw[<- a,b,h]
theorem AR{t:FT}{D:yB}:∀(n:Nat) (σ:St) (H:Hp) (μ:List i0) (V:cE) (st:List al),Rl X μ V st σ H->SK X μ H D (hJ t g n V st)->GV (tT X t) (Ur X g) D σ H:=by
 intro n σ H μ V st l h;refine⟨λm O H'=>∃J R bF,Rl X J R bF O H'/\SK X J H' D (hJ t g m R bF),⟨n,μ,V,st,l,h⟩,?_⟩;rintro m O H' ⟨J,R,bF,l',h'⟩
 cases m with
 |zero=>exact h'.elim
 |succ m=>
  refine⟨J,R,bF,l',RK.stmt h' l' λd W k v H1 p1 x1 y I Z=>?_⟩
  cases I
  cases k with
  |false=>exact Z d O H1 (ah _) dH.refl y
  |true=>
   refine⟨λσ2 H2=>∃B Y U,Rl X B Y U σ2 H2/\SK X B H2 D (hJ t g m Y U),λσ2 H2 z=>⟨m,fz m,z⟩,d,R,W,y,?_⟩;simp only[gu]at Z
   cases e:g R W with
   |nx ρ3 fP=>rw[e]at Z;exact λμ4 σ4 H4 p4 x4 l4=>⟨μ4,ρ3,fP,l4,SK.mono Z p4 x4⟩
   |ct ρ3 fP=>rw[e]at Z;exact λμ4 σ4 H4 p4 x4 l4=>⟨μ4,ρ3,fP,l4,SK.mono Z p4 x4⟩
   |bk ρ3 fP=>rw[e]at Z;exact Z
   |rt w fP=>rw[e]at Z;exact Z
   |ex c ρ3 fP=>rw[e]at Z;exact Z
   |bad=>rw[e]at Z;exact Z
theorem AS{t:FT}(J:ST X c t)(U:SB X body g)(Z:PassesOwn #[3] X.A X.env X.xe:=by passes_own):SS X (.While c body [] pos) (nz t g):=⟨(GW Z J.h U.h).imp λD B H h=>by
 obtain⟨w,V,Y,l,h⟩:=h;unfold nz at h
 by_cases O:∃n,hJ t g n V Y≠.bad
 .rw[ph O]at h;exact AR _ B H w V Y l h
 .rw[dif_neg O]at h;exact h.elim⟩
def HE(fe:FE):FI:=λV st=>(fe V st).bind λx st=>match x with
 |.tup ws=>.ok (ws,cg) st
 |_=>.bad
theorem HF(J:SE X e fe):SI X tg e (HE fe):=⟨(PH J.h).imp λB H R h=>by
 obtain⟨D,V,Y,l,h⟩:=h;refine⟨D,V,Y,l,RK.bind h l λd W x v H1 p1 x1 l1 t Z=>?_⟩
 cases x with
 |tup ws=>
  obtain⟨p,U,rfl,hS,r⟩:=t.tupE;refine⟨p,rfl,⟨U,hS⟩,Z d _ H1 (ah _) dH.refl l1.sto λi μ' bF H' pp xx S _=>⟨λw O=>?_,λI=>⟨U,xx _ _ hS,by rw[<- r.len];exact I⟩⟩⟩;have r':=r.mono pp xx;obtain⟨v,g1,g2⟩:=r'.get O;refine⟨⟨U,v,xx _ _ hS,g1⟩,λy H'' z=>?_⟩;obtain⟨rfl,z⟩:=z;have:=z U (xx _ _ hS);rw[g1]at this;cases this
  exact⟨dH.refl,S,g2⟩
 |_=>exact Z.elim⟩
def Nx(fe:FE):FI:=λV st=>(fe V st).bind λx st=>match x with
 |.loc n=>(match lstOf st n with
  |some ws=>.ok (ws,bi (n,ws)) st
  |none=>.bad)
 |_=>.bad
theorem QB(O:SE X e fe):SI X tg e (Nx fe):=⟨(La O.h).imp λB H R h=>by
 obtain⟨μ,V,Y,l,h⟩:=h;refine⟨μ,V,Y,l,RK.bind h l λJ st1 x v H1 p1 x1 l1 t Z=>?_⟩
 cases x with
 |loc n=>
  obtain⟨a,D,rfl⟩:=t.locE;simp only at Z
  cases d:lstOf st1 n with
  |none=>rw[d]at Z;exact Z.elim
  |some ws=>
   rw[d]at Z;obtain⟨a',vs0,g0,hS0,r0⟩:=l1.sto.lstOf d;rw[D]at g0;cases g0
   refine⟨a,rfl,⟨vs0,hS0⟩,Z J _ H1 (ah _) dH.refl l1.sto λi μ' bF H' pp xx S ck=>?_⟩;obtain⟨a2,U,g2,hS,r⟩:=S.lstOf (show lstOf bF n=bi ws from ck);have:μ'[n]?=bi a:=cJ pp D;rw[g2]at this;cases this
   refine⟨λw W=>?_,λI=>⟨U,hS,by rw[<- r.len];exact I⟩⟩;obtain⟨v,g1,g3⟩:=r.get W;refine⟨⟨U,v,hS,g1⟩,λy H'' z=>?_⟩;obtain⟨rfl,z⟩:=z;have:=z U hS;rw[g1]at this;cases this
   exact⟨dH.refl,S,g3⟩
 |_=>exact Z.elim⟩
noncomputable def bO(lo:Int)(n:Nat):List W:=(vr n).map λ(i:Nat)=>W.int (lo+i)
theorem bM(lo:Int)(n:Nat):(bO lo n).length=n:=by simp[bO]
theorem Cz{lo:Int}:yV X (Wv lo n) (bO lo n,cg) μ H:=λi J U H' d t S _=>by
 refine⟨λw B=>?_,λI=>by rw[bM]at I;exact I⟩;have D:i<n:=by have:=(ak.mp B).1;rw[bM]at this;exact this
 refine⟨D,λy H'' Z=>?_⟩;obtain⟨rfl,rfl⟩:=Z;have e:w=.int (lo+i):=by unfold bO at B;rw[ao,eT D]at B;exact(bg B).symm
 subst e;exact⟨dH.refl,S,.int⟩
def bJ(fs:FA):FI:=λV st=>(fs V st).bind λws st=>match ws with
 |[.int j]=>if -(2^62)<=j/\j<2^62 then .ok (bO 0 j.toNat,cg) st else .bad
 |_=>.bad
theorem iX(w:X.mg "range"=cg)(D:SA X [a] fs)(z:Gl X "range":=by rfl)(O:ow [a] X.env=[(dw,eval a X.env)]:=by rfl):SI X tg (.Call (.Name "range" p) [a] [] pos) (bJ fs):=⟨(E7 z w D.h O).imp λB H R h=>by
 obtain⟨t,V,Y,l,h⟩:=h;refine⟨t,V,Y,l,RK.bind h l λd W x v H1 p1 x1 J I Z=>?_⟩
 split at Z
 .obtain⟨y,rfl,U⟩:=I.one
  split at Z
  .rename_i c
   exact⟨_,by rw[U.intE],c.1,c.2,Z d _ H1 (ah _) dH.refl J.sto Cz⟩
  .exact Z.elim
 .exact Z.elim⟩
end
mutual
noncomputable def W.und(n:Nat):W->Bool
 |.loc m=>decide (m<n)
 |.tup ws=>undWs n ws
 |_=>cT
noncomputable def undWs(n:Nat):List W->Bool
 |[]=>cT
 |w::ws=>w.und n&&undWs n ws
end
def al.und(n:Nat):al->Bool
 |.lst ws=>undWs n ws
 |.ro ws=>undWs n ws
 |.exc _=>cT
 |.dct kvs=>undWs n (kvs.map λp=>p.2)
 |.rod kvs=>undWs n (kvs.map λp=>p.2)
 |.dcx kvs=>undWs n (kvs.map λp=>p.2)
 |.rox kvs=>undWs n (kvs.map λp=>p.2)
 |.obj _ fs=>undWs n (fs.map λp=>p.2)
 |.tab _ _ _=>cT
 |.pin _ _ _ w=>w.und n
 |.gone=>cT
section
mutual
theorem bh.und:∀{w:W} {v:V},bh K μ H w v->w.und μ.length=cT
 |.non,_,_=>by simp[W.und]
 |.bl _,_,_=>by simp[W.und]
 |.int _,_,_=>by simp[W.und]
 |.str _,_,_=>by simp[W.und]
 |.tup _,_,r=>by obtain⟨p,U,_,_,c⟩:=r.tupE;unfold W.und;exact RelWs.und c
 |.loc _,_,r=>by obtain⟨a,e,_⟩:=r.locE;unfold W.und;exact bb (ak.mp e).1
theorem RelWs.und:∀{ws:List W} {vs:List V},RelWs K μ H ws vs->undWs μ.length ws=cT
 |[],_,_=>by unfold undWs;rfl
 |_::_,_,r=>by obtain⟨x,d,_,b,c⟩:=r.consE;unfold undWs;rw[bh.und b,RelWs.und c];rfl
end
mutual
theorem bh.take:∀{w:W} {v:V},bh K μ H w v->w.und n=cT->bh K (μ.take n) H w v
 |.non,_,r,_=>by rw[r.nonE];exact .non
 |.bl _,_,r,_=>by rw[r.blE];exact .bl
 |.int _,_,r,_=>by rw[r.intE];exact .int
 |.str _,_,r,_=>by rw[r.strE];exact .str
 |.tup _,_,r,b=>by obtain⟨p,U,rfl,h,c⟩:=r.tupE;unfold W.und at b;exact .tupI h (RelWs.takeN c b)
 |.loc _,_,r,b=>by obtain⟨a,e,rfl⟩:=r.locE;unfold W.und at b;exact .locI (by rw[bY (of_decide_eq_true b)];exact e)
theorem RelWs.takeN:∀{ws:List W} {vs:List V},RelWs K μ H ws vs->undWs n ws=cT->RelWs K (μ.take n) H ws vs
 |[],_,r,_=>by rw[r.nilE];exact .nilI
 |_::_,_,r,b=>by obtain⟨x,d,rfl,y,B⟩:=r.consE;unfold undWs at b;rw[bc]at b;exact .consI (bh.take y b.1) (RelWs.takeN B b.2)
end
theorem KX.und_w(k:KX)(n:Nat):k.w.und n=cT:=by
 have D:∀J:List Int,undWs n (J.map W.int)=cT:=λJ=>by
  induction J with
  |nil=>rfl
  |cons a l U=>show(cT&&undWs n (l.map W.int))=cT;rw[U];rfl
 cases k with
 |bo b=>rfl
 |fl J=>unfold KX.w W.und;exact D J
 |pr i J=>unfold KX.w W.und undWs;rw[show(W.int i).und n=cT from rfl];unfold undWs;rw[show(W.tup (J.map W.int)).und n=cT by unfold W.und;exact D J];rfl
theorem vN:∀{kvs:List (KX×W)} {es:List YV},Paired (qg K μ H) kvs es->undWs μ.length (kvs.map λp=>p.2)=cT
 |_,_,.nil=>rfl
 |_,_,.cons r t=>by obtain⟨_,_,v,h,_⟩:=r;show(_&&undWs _ _)=cT;rw[h.und,vN t];rfl
theorem ua:∀{kvs:List (KX×W)} {es:List YV},Paired (qg K μ H) kvs es->undWs n (kvs.map λp=>p.2)=cT->Paired (qg K (μ.take n) H) kvs es
 |_,_,.nil,_=>.nil
 |_,_,.cons r t,b=>by obtain⟨a,⟨u,c,d⟩,v,h,g⟩:=r;have b:(_&&undWs n _)=cT:=b;rw[bc]at b;exact .cons ⟨a,⟨u,bh.take c (KX.und_w _ n),d⟩,v,bh.take h b.1,g⟩ (ua t b.2)
theorem lS.und{c:al}(r:lS K mg μ H c a):c.und μ.length=cT:=by
 cases c with
 |lst O=>obtain⟨U,_,y⟩:=r;exact y.und
 |ro O=>obtain⟨U,_,y⟩:=r;exact y.und
 |exc c=>rfl
 |dct W=>obtain⟨U,_,y⟩:=r;exact y.und
 |rod W=>obtain⟨U,_,_,y⟩:=r;exact y.und
 |dcx W=>obtain⟨J,_,_,y,_⟩:=r;exact vN y
 |rox W=>obtain⟨J,_,_,_,y,_⟩:=r;exact vN y
 |obj _ fs=>obtain⟨_,_,U,_,_,y⟩:=r;exact y.und
 |tab _ _ _=>rfl
 |pin _ _ _ _=>obtain⟨_,_,_,v,y,_⟩:=r;exact y.und
 |gone=>rfl
theorem lS.take{c:al}(r:lS K mg μ H c a)(b:c.und n=cT):lS K mg (μ.take n) H c a:=by
 cases c with
 |lst O=>obtain⟨U,x,y⟩:=r;exact⟨U,x,y.takeN b⟩
 |ro O=>obtain⟨U,x,y⟩:=r;exact⟨U,x,y.takeN b⟩
 |exc c=>exact r
 |dct W=>obtain⟨U,x,y⟩:=r;exact⟨U,x,y.takeN b⟩
 |rod W=>obtain⟨U,o,x,y⟩:=r;exact⟨U,o,x,y.takeN b⟩
 |dcx W=>obtain⟨J,x,d,y,z⟩:=r;exact⟨J,x,d,ua y b,z⟩
 |rox W=>obtain⟨J,o,x,d,y,z⟩:=r;exact⟨J,o,x,d,ua y b,z⟩
 |obj _ fs=>obtain⟨C,B,U,m,x,y⟩:=r;exact⟨C,B,U,m,x,y.takeN b⟩
 |tab _ _ _=>exact r
 |pin _ _ _ _=>obtain⟨I,p,g,v,y,z⟩:=r;exact⟨I,p,g,v,y.take b,z⟩
 |gone=>trivial
end
theorem fG.ex{w:ms}{o:HO}(x:fG P w H h a o):∃R,h.get? a=bi R:=by
 cases o with
 |lst d=>obtain⟨_,_,_,_,e⟩:=x;exact⟨_,e⟩
 |tup d=>obtain⟨_,_,_,o,e,_⟩:=x;exact⟨_,e⟩
 |dK W=>obtain⟨_,_,_,_,o,_,_,e,_⟩:=x;exact⟨_,e⟩
 |dT W=>obtain⟨_,_,_,_,o,_,_,e,_⟩:=x;exact⟨_,e⟩
 |set S n=>obtain⟨o,_,_,_,e,_⟩:=x;exact⟨_,e⟩
 |ins C B fs=>obtain⟨_,_,_,e,_⟩:=x;exact⟨_,e⟩
 |own y=>obtain⟨_,e⟩:=x;exact⟨_,e⟩
 |xd fs=>obtain⟨_,⟨_,_,_,e,_⟩,_⟩:=x;exact⟨_,e⟩
 |rng J D=>obtain⟨_,_,_,e⟩:=x;exact⟨_,e⟩
 |frz R u=>obtain⟨e,_⟩:=x;exact⟨_,e⟩
 |tbl Z=>exact⟨_,(show h.get? a=bi _ from x)⟩
 |met f y=>exact⟨_,(show h.get? a=bi _ from x)⟩
 |ext z=>obtain⟨_,⟨_,e⟩,_⟩:=x;exact⟨_,e⟩
def DO(st bF:List al)(ws:List W):Prop:=undWs st.length ws=cT/\st.length<=bF.length/\∀(i:Nat),i<st.length->bF[i]?=st[i]?\/∃c,bF[i]?=bi c/\c.und st.length=cT
open Classical in
noncomputable def iJ(st bF:List al)(ws:List W):List al:=if DO st bF ws then bF.take st.length else bF
theorem iP{ws:List W}{vs:List V}(S:gk K mg μ st H)(S':gk K mg μ' bF H')(p:μ <+: μ')(r:RelWs K μ' H' ws vs) :
  ∃B,μ <+: B/\gk K mg B (iJ st bF ws) H'/\RelWs K B H' ws vs:=by
 unfold iJ
 by_cases k:DO st bF ws
 .rw[ax k];obtain⟨d,w,J⟩:=k;have e:μ'.take st.length=μ:=by obtain⟨t,rfl⟩:=p;rw[S.len,List.take_left]
  refine⟨μ'.take st.length,by rw[e];exact ah _,⟨λi j a ci cj Z Y z O U y=>?_,by rw[a_,a_,S'.len],λi c a Z Y=>?_⟩,r.takeN d⟩
  .have D:i<st.length:=by have:=(ak.mp Z).1;rw[a_]at this;omega
   have I:j<st.length:=by have:=(ak.mp Y).1;rw[a_]at this;omega
   rw[bY D]at Z U;rw[bY I]at Y y;exact S'.nd i j a ci cj Z Y z O U y
  .have D:i<st.length:=by have:=(ak.mp Z).1;rw[a_]at this;omega
   rw[bY D]at Z Y;refine(S'.at' i c a Z Y).take ?_;rcases J i D with q|⟨c',q,b⟩
   .rw[Z]at q;obtain⟨a0,R,r0⟩:=S.get q.symm;have:=r0.und;rw[S.len];exact this
   .rw[Z]at q;cases q;exact b
 .rw[aF k];exact⟨μ',p,S',r⟩
def fK(N:Nat)(body:FS)(ws:List W)(st:List al):R W:=match body (ws.map bi++pw (N-ws.length) cg) st with
 |.rt w bF=>.ok w (iJ st bF [w])
 |.nx _ bF=>.ok .non (iJ st bF [])
 |.ex c _ bF=>.ex c (iJ st bF [])
 |_=>.bad
def iM(P:YW)(w:ms):Fb:=λouter H s E e d=>∃x C t B H',e=.ref x/\E C cg H'/\d.os=s.os/\Zp d.gens/\Un (t5 outer) [] H H' s.heap d.heap/\mI P w H' d.heap/\H' x=cg/\Heap.FlyingW B outer x C (.ref t) d.heap /\
 ∀b o,d.heap.get? b=bi o->(H' b≠cg\/((∃y,s.heap.get? b=bi y)/\b∉t5 outer))->B.get? b=bi o
def mF(K:uR)(mg:Str->Option gs)(n:Nat)(F:List W->List al->R W):Sp:=λvs H Q E=>vs.length=n/\∃μ ws st,gk K mg μ st H/\RelWs K μ H ws vs/\(match F ws st with
 |.ok w bF=>∀μ' v H',μ <+: μ'->dH K H H'->gk K mg μ' bF H'->bh K μ' H' w v->Q v H'
 |.ex c bF=>∀C μ' H',mg c=bi C->μ <+: μ'->dH K H H'->gk K mg μ' bF H'->E C cg H'
 |.bad=>False)
theorem xX.noted{c:Str}{e:gs}{Q:Unit->i2->Prop}{E:gs->i2->Prop}{M:Model}(f:xX X aj σ c H e s)(wV:X.stack=X.env::outer)(R:X.env.frame=bi X.env.locals)(W:X.A.frames=bi X.stack)
  (h:∀x C t B h',e=.ref x->X.mg c=bi C->H x=cg->Heap.FlyingW B X.stack x C (.ref t) h'->s.heap.UpToSlots h' ->
   (∀b o,s.heap.get? b=bi o->(H b≠cg\/((∃o0,X.s₀.heap.get? b=bi o0)/\b∉X.fs/\b∉X.ex)\/((∃y,X.env.cells.lookup y=bi b)/\b∉t5 X.stack)\/∃p∈X.pn++aj,p.1=b)->B.get? b=bi o)->Q () { s with heap:=h' }) :
  i1 M X.A (leaving X.env e) Q E s:=by
 obtain⟨x,C,t,B,rfl,hC,O,Y,nx,ff,tr,cov⟩:=f.ex;rw[wV]at ff W;rcases tr with tr|⟨oe,U,J,rfl,_,D,Z,z⟩|⟨L,V,tr⟩
 .refine wpAny_leaving_nextW W ff R tr Y nx λh' V=>?_;obtain⟨d,w,k3,k4⟩:=V;exact h x C t B h' rfl hC O ⟨d,nx,by rw[wV];exact w,k3⟩ k4 cov
 .refine wpAny_leaving_firstW W ff R J Y nx D Z z λh' V=>?_;obtain⟨d,w,k3,k4⟩:=V;exact h x _ t B h' rfl hC O ⟨d,nx,by rw[wV];exact w,k3⟩ k4 cov
 .unfold leaving;refine aa (wpAny_noteFrame_againW V tr (wpAny_landsW ⟨Y,nx,ff,tr⟩ λh' I up=>?_));exact h x C t B h' rfl hC O (by rw[wV];exact I) up cov
theorem xX.leaves{c:Str}{e:gs}{E:XK}{E':gs->i2->Prop}(f:xX X aj σ c H e s)(wV:X.stack=X.env::X.outer)(pU:X.env.frame=bi X.env.locals)(hA:X.A.frames=bi X.stack)(vx:X.ex=[])
  (hE:∀C,X.mg c=bi C->E C cg H):i1 M X.A (leaving X.env e) (λ_ s''=>iM X.prog X.w X.outer X.H₀ X.s₀ E e s'') E' s:=by
 refine f.noted wV pU hA λx C t B y J hC O fl up cov=>?_;have I:=f.inv;have un:=I.base;rw[vx]at un;have fsE:X.fs=t5 X.outer:=rfl;obtain⟨Z,f2,f3,f4⟩:=fl;rw[wV]at f3;obtain⟨_,_,f3'⟩:=f3;have frames:∀b∈t5 X.outer,∀o,s.heap.get? b=bi o->∃sl,y.get? b=bi { o with slots:=sl }:=λb U o V=>by
  obtain⟨_,o',yA,D⟩:=I.funs.mem U;rw[V]at yA;cases yA
  exact up b o V D
 have kept:∀b o,s.heap.get? b=bi o->(∃o0,X.s₀.heap.get? b=bi o0)->b∉t5 X.outer->y.get? b=bi o:=λb o V Y U=>Z b o (cov b o V (.inr (.inl ⟨Y,U,by rw[vx];simp⟩)));have keptH:∀b o,s.heap.get? b=bi o->H b≠cg->y.get? b=bi o:=λb o V Y=>Z b o (cov b o V (.inl Y));refine⟨x,C,t,B,H,J,hE C hC,I.os,I.bare,⟨λb o q n U O=>?_,λb o q n U O=>?_,λb o q n O=>un.free b o q n O,λb o q O=>?_,un.tups,un.frzs,un.tbls⟩,λb u U=>?_,O,⟨Z,f2,f3',f4⟩,λb o V R=>?_⟩
 .exact kept b o (un.keep b o q n U O) ⟨o,q⟩ U
 .obtain⟨sl,w⟩:=un.slot b o q n U O;obtain⟨sl2,z⟩:=frames b U _ w;exact⟨sl2,z⟩
 .obtain⟨o',w⟩:=un.there b o q O
  by_cases U:b∈t5 X.outer
  .obtain⟨sl2,z⟩:=frames b U _ w;exact⟨_,z⟩
  .exact⟨o',kept b o' w ⟨o,q⟩ U⟩
 .refine(I.hok b u U).stay (λc v hc q=>?_) (λ_ q=>q) λ_ _ q=>q;refine keptH c v q ?_;rcases hc with rfl|hc
  .rw[U];simp
  .rw[hc];simp
 .rcases R with R|⟨⟨o0,Y⟩,U⟩
  .cases d:H b with
   |none=>exact absurd d R
   |some u=>
    have lt:=I.hok.lt d;obtain⟨W,Dk⟩:∃W,s.heap.get? b=bi W:=by exact(I.hok b u d).ex
    have:=keptH b W Dk R;rw[V]at this;cases this
    exact cov b o Dk (.inl R)
  .obtain⟨o',w⟩:=un.there b o0 Y #[5];have:=kept b o' w ⟨o0,Y⟩ U;rw[V]at this;cases this
   exact cov b o w (.inr (.inl ⟨⟨o0,Y⟩,U,by rw[vx];simp⟩))
structure dG(P:YW)(w:ms)(K:uR)(mg:Str->Option gs)(base:pk)(k:Nat)(x:Str)(n:Nat)(F:List W->List al->R W):Prop where
 ex:∃(f:i0) (fd:Zl) (ps:List Str),mg x=bi (.ref f)/\keepIn K (.ref f)=cT/\ps.length=n/\xM K fd ps []/\fQ P w K mg base (iM P w) k f fd ps (mF K mg n F)
theorem dG.mono{w:ms}(h:dG P w K mg base j x n F)(I:j<=k):dG P w K mg base k x n F:=by obtain⟨f,y,Z,a,b,c,d,e⟩:=h.ex;exact⟨f,y,Z,a,b,c,d,e.mono I⟩
def cV(n:Nat)(F:List W->List al->R W)(fs:FA):FE:=λV st=>(fs V st).bind λws st=>if ws.length=n then F ws st else .bad
section
theorem HG{Q:VK}
  (Fn:fQ X.prog X.w X.K X.mg X.base (iM X.prog X.w) k f fd ps (mF X.K X.mg n F)) (W:ps.length=n) (R:ic k X.A) (U:xM X.K fd ps []) (I:bH X aj σ H s) (S:gk X.K X.mg μ st H) (r:RelWs X.K μ H ws vs) (rv:cR vs us) (D:ws.length=n)
  (h:RK X (q9 X) μ σ H Q (F ws st)):i1 #[3] X.A (call (.ref f) us) (EP X aj σ Q) X.xe s:=by
 have hl':(us++([]:List gs)).length=ps.length:=by rw[bD,<- rv.length,<- r.len,D,W]
 cases e:F ws st with
 |bad=>rw[e]at h;exact h.elim
 |ok w bF=>
  rw[e]at h;refine mo (gN (Fn.run X.A X.stack s H ⟨us,[]⟩ us vs Q (λ_ _ _=>False) R I.env0 (by have:=U s us I.kIn hl';rwa[bD]at this) rv ⟨by rw[<- r.len];exact D,μ,ws,st,S,r,by rw[e];exact h⟩) λr d hq=>?_)
  cases r with
  |error e=>obtain⟨_,_,_,_,_,_,z,_⟩:=hq;exact z.elim
  |ok fl=>
   cases fl with
   |ret u=>exact I.after hq
   |next=>exact YY hq
   |brk=>exact YY hq
   |cont=>exact YY hq
 |ex c bF=>
  rw[e]at h;refine mo (gN (Fn.run X.A X.stack s H ⟨us,[]⟩ us vs (λ_ _=>False) (λC _ H'=>X.mg c=bi C/\∃μ',μ <+: μ'/\dH X.K H H'/\gk X.K X.mg μ' bF H') R I.env0 (by have:=U s us I.kIn hl';rwa[bD]at this) rv
   ⟨by rw[<- r.len];exact D,μ,ws,st,S,r,by rw[e];exact λC μ' H' hC p x S'=>⟨hC,μ',p,x,S'⟩⟩) λr d hq=>?_)
  cases r with
  |ok fl=>
   cases fl with
   |ret u=>obtain⟨_,_,_,_,_,_,_,z⟩:=hq;exact z.elim
   |next=>exact YY hq
   |brk=>exact YY hq
   |cont=>exact YY hq
  |error ev=>
   obtain⟨x,C,t,B,H',rfl,⟨hC,μ',p,xx,S'⟩,os,bare,un,hok,O,fl,cov⟩:=hq;have I':bH X aj σ H' d:=I.call' os un hok bare λb U=>absurd U #[5];refine h aj μ' H' (.ref x) d p xx S' ⟨I',x,C,t,B,rfl,hC,O,fl.1,fl.2.1,fl.2.2.1,.inl fl.2.2.2,λb o V hrel=>?_⟩;refine cov b o V ?_;rcases hrel with q|⟨⟨o0,h0⟩,U,hbx⟩|⟨⟨y,Y⟩,U⟩|⟨pp,Z,rfl⟩
   .exact .inl q
   .refine .inr ⟨?_,λz=>?_⟩
    .obtain⟨o',J⟩:=I.base.there b o0 h0 hbx;exact⟨o',J⟩
    .rcases aG.mp (I.stkSub b z)with z|z
     .rw[z]at h0;exact absurd (aR (aB h0) I.ok.above) (bX _)
     .exact U z
   .obtain⟨v,ov,hov,_⟩:=I.cell y b Y;exact .inr ⟨⟨_,hov⟩,U⟩
   .obtain⟨g1,g2,g3,g4,_⟩:=I.pin pp Z;refine .inr ⟨⟨_,g1⟩,λz=>?_⟩;rcases aG.mp (I.stkSub _ z)with z|z
    .exact g3 z
    .exact g4 z
variable{fs:FA}
theorem rD{k':Nat}(Fn:dG X.prog X.w X.K X.mg X.base k x n F)(R:ic k' X.A)(J:k<=k')(D:SA X (e::es) fs)(hg:Gl X x:=by rfl)(tI:(x==("__debug__":Str))=dw:=by decide)
  (O:ow (e::es) X.env=(dw,eval e X.env)::ow es X.env:=by rfl) (mH:(YR pos (ow es X.env)).any (·.1)=dw:=by rfl):SE X (.Call (.Name x p) (e::es) [] pos) (cV n F fs):=⟨by
 intro W s B H Q I h;obtain⟨f,fd,ps,y,hkp,w,U,Fo⟩:=(Fn.mono J).ex;refine db (oE I hg y ?_ tI);obtain⟨μ,V,Y,l,h⟩:=h;have h':Uq X fs B H λt H1=>∃d st1 ws,Rl X d V st1 B H1/\RelWs X.K d H1 ws t/\RK X (q9 X) d B H1 Q (if ws.length=n then F ws st1 else .bad):=
  ⟨μ,V,Y,l,RK.bind h l λd st1 x v H1 p1 x1 l1 q1 Z=>⟨d,st1,x,l1,q1,Z⟩⟩
 refine Z7 (h₀:=X.base) I.ok.mod.kin hkp (ii (D.h pos W s B H _ I h') λus z zv=>?_) O mH;obtain⟨t,H1,I1,r,d,st1,ws,l1,r1,q⟩:=zv;refine⟨I1.kIn,?_⟩
 by_cases c:ws.length=n
 .rw[ax c]at q;exact HG Fo w R U I1 l1.sto r1 r c q
 .rw[aF c]at q;exact q.elim⟩
end
theorem DP{w:ms}{st:qd}{N:List Str}{k:Nat}{g:FS}(F:lB K x qual st f fd)(S:bS N ps (aI st))(B:ps.length=n)
  (n6:∀(gr:gs) (A:yy) (outer:List Env) (s:i2) (H:Hp) (E:XK),fd.code=gr->ic k (A.deeper (Zt qual (aI st) s.heap.objs.size f gr)) ->
   SB (oF (iM P w) P w K mg base N qual (aI st) f gr A outer s H E) (dq st) g):fQ P w K mg base (iM P w) (k+1) f fd ps (mF K mg n (fK N.length g)):=by
 obtain⟨oc,od,kV,jN,pm,an,gr,ct,M8,rfl,lk,mG⟩:=F.ex;refine TW lk mG S (λU H Q E h=>by rw[B];exact h.1) λA outer s H U Q E R GF=>?_;obtain⟨I,t,Z,EW,Sr,r,h⟩:=GF;refine⟨_,(n6 gr A outer s H E rfl R).h,t,Z.map bi++pw (N.length-Z.length) cg,EW,⟨?_,Sr⟩,?_⟩
 .unfold gT;rw[<- r.len];have base:∀(Z:List W) (U:List V) (m:Nat),RelWs K t H Z U->Paired (λ(o:Option W) (s:Option V)=>∀w,o=bi w->∃v,s=bi v/\bh K t H w v) (Z.map bi++pw m cg) (U.map bi++pw m cg):=by
   intro Z
   induction Z with
   |nil=>
    intro U m r;rw[r.nilE]
    induction m with
    |zero=>exact .nil
    |succ m ih=>exact .cons (λw z=>nomatch z) ih
   |cons w Z ih=>
    intro U m r;obtain⟨y,ys,rfl,ry,rys⟩:=r.consE;exact .cons (λw' z=>⟨y,rfl,by cases z;exact ry⟩) (ih ys m rys)
  exact base Z U _ r
 .unfold fK at h
  cases e:g (Z.map bi++pw (N.length-Z.length) cg) EW with
  |rt w bF=>
   rw[e]at h;intro J v H' p x S' oD;obtain⟨μ2,p2,S2,r2⟩:=iP Sr S' p (.consI oD .nilI);obtain⟨_,e2,r3⟩:=r2.one
   cases e2
   exact h μ2 v H' p2 x S2 r3
  |nx D bF=>
   rw[e]at h;intro J Y H' p x l';obtain⟨μ2,p2,S2,_⟩:=iP (ws:=[]) (vs:=[]) Sr l'.sto p .nilI;exact h μ2 .non H' p2 x S2 .non
  |ex c D bF=>
   rw[e]at h;intro O J Y H' ev d p x l' fl;obtain⟨μ2,p2,S2,_⟩:=iP (ws:=[]) (vs:=[]) Sr l'.sto p .nilI;exact fl.leaves rfl rfl fl.inv.ok.frames rfl λC hC=>h C μ2 H' hC p2 x S2
  |bk D bF=>rw[e]at h;exact h.elim
  |ct D bF=>rw[e]at h;exact h.elim
  |bad=>rw[e]at h;exact h.elim
theorem du{w:ms}{st:qd}{N:List Str}{k:Nat}{g:FS}(F:lB K x qual st f fd)(S:bS N ps (aI st))(B:ps.length=n)
  (J:∀(Z:gs) (A:yy) (outer:List Env) (s:i2) (H:Hp) (E:XK),ic k (A.deeper (Zt qual (aI st) s.heap.objs.size f Z)) ->
   SB (oF (iM P w) P w K mg base N qual (aI st) f Z A outer s H E) (dq st) g):fQ P w K mg base (iM P w) (k+1) f fd ps (mF K mg n (fK N.length g)):=DP F S B λZ A outer s H E _ R=>J Z A outer s H E R
theorem u_{w:ms}{st:qd}{ps:List Str}{G:List W->List al->R W}
  (F:lB K x x st f fd) (y:mg x=bi (.ref f)) (B:ps.length=n)
  (U:∀(kV J I:gs) (O:Option i0) (Z V:gs) (us:List gs),us.length=ps.length->ZJ (fnOf x x (dZ st) (dq st) (aI st) .none kV J I O Z V) ⟨us,[]⟩=pure (ps.zip us))
  (ok:fQ P w K mg base (iM P w) k f fd ps (mF K mg n G)):dG P w K mg base k x n G:=⟨f,fd,ps,y,F.kp,B,F.binds U,ok⟩
section
variable{a b c o:i9}{fa fb fe fo:FE}{fs:FA}{id:String}
structure Td(X:Cx)(id:String)(F:W->List W->List al->R W):Prop where
 h:KL X id (λx vs H Q=>∃μ st wx ws,gk X.K X.mg μ st H/\bh X.K μ H wx x/\RelWs X.K μ H ws vs/\Fx X μ H Q (F wx ws st))
 n:∀x ws st,q_ (F x ws st)
noncomputable def vO(st:List al):W->Bool
 |.loc n=>(match st[n]? with|some (.lst _)=>cT|_=>dw)
 |_=>dw
noncomputable def HH:W->Bool
 |.str _=>cT
 |_=>dw
theorem HI{w:W}{v:V}(S:gk X.K X.mg μ st H)(r:bh X.K μ H w v)(h:vO st w=cT):∃l ys,v=.ref l/\H l=bi (.lst ys):=by
 cases w with
 |loc n=>
  obtain⟨a,D,rfl⟩:=r.locE;simp only[vO]at h
  cases d:st[n]? with
  |none=>rw[d]at h;cases h
  |some t=>
   rw[d]at h
   cases t with
   |lst O=>obtain⟨Y,z,U,y,_⟩:=S.get d;rw[D]at z;cases z;exact⟨_,U,rfl,y⟩
   |_=>cases h
 |_=>cases h
def vc(F:W->List W->List al->R W)(fo:FE)(fs:FA):FE:=λV st=>(fo V st).bind λx st=>if vO st x then(fs V st).bind λws st=>F x ws st else .bad
def GL(F:W->List W->List al->R W)(fo:FE)(fs:FA):FE:=λV st=>(fo V st).bind λx st=>if HH x then(fs V st).bind λws st=>F x ws st else .bad
theorem yW{F:W->List W->List al->R W}(slot:Slot "list" name id)(GD:typeOf (.builtin id)=pure (.type "method_descriptor"))(y:Td X id F)(w:SE X o fo)(D:SA X (e::es) fs)
  (tP:aac o name X.env (eval o X.env)=eval o X.env:=by rfl)
  (wW:((YR hW (ow (e::es) X.env)).all (λx=>!x.1)&&(backToKw hW (Z5 [] X.env)).all (λx=>x.1.isSome)
   && decide ((e::es).length+([]:List Keyword).length+(if ([]:List Keyword).isEmpty then 0 else 1)<30))=cT:=by rfl)
  (tN:(kY.endLine==hW.line)=cT:=by rfl) (O:ow (e::es) X.env=(dw,eval e X.env)::ow es X.env:=by rfl) (oX:(YR hW (ow es X.env)).any (·.1)=dw:=by rfl) :
  SE X (.Call (.Attribute o name kY) (e::es) [] hW) (vc F fo fs):=⟨(Ue slot GD y.h w.h D.h tP wW tN O oX).imp λB H Q h=>by
 obtain⟨μ,V,J,l,h⟩:=h;refine⟨μ,V,J,l,RK.bind h l λd z x v H1 p1 x1 l1 I Z=>?_⟩
 by_cases c:vO z x=cT
 .rw[ax c]at Z;refine⟨HI l1.sto I c,d,V,z,l1,RK.bind Z l1 λμ2 U ws t H2 p2 x2 l2 q2 Y=>?_⟩;exact⟨μ2,U,x,ws,l2.sto,I.mono p2 x2,q2,rV Y (y.n _ _ _)⟩
 .rw[aF c]at Z;exact Z.elim⟩
theorem QC{F:W->List W->List al->R W}(slot:Slot "str" name id)(GD:typeOf (.builtin id)=pure (.type "method_descriptor"))(y:Td X id F)(w:SE X o fo)(D:SA X (e::es) fs)
  (tP:aac o name X.env (eval o X.env)=eval o X.env:=by rfl)
  (wW:((YR hW (ow (e::es) X.env)).all (λx=>!x.1)&&(backToKw hW (Z5 [] X.env)).all (λx=>x.1.isSome)
   && decide ((e::es).length+([]:List Keyword).length+(if ([]:List Keyword).isEmpty then 0 else 1)<30))=cT:=by rfl)
  (tN:(kY.endLine==hW.line)=cT:=by rfl) (O:ow (e::es) X.env=(dw,eval e X.env)::ow es X.env:=by rfl) (oX:(YR hW (ow es X.env)).any (·.1)=dw:=by rfl) :
  SE X (.Call (.Attribute o name kY) (e::es) [] hW) (GL F fo fs):=⟨(Uf slot GD y.h w.h D.h tP wW tN O oX).imp λB H Q h=>by
 obtain⟨μ,V,J,l,h⟩:=h;refine⟨μ,V,J,l,RK.bind h l λd st1 x v H1 p1 x1 l1 I Z=>?_⟩
 cases x with
 |str z=>
  rw[ax (show HH (W.str z)=cT from rfl)]at Z;refine⟨⟨z,I.strE⟩,d,V,st1,l1,RK.bind Z l1 λμ2 U ws t H2 p2 x2 l2 q2 Y=>?_⟩;exact⟨μ2,U,_,ws,l2.sto,I.mono p2 x2,q2,rV Y (y.n _ _ _)⟩
 |_=>exact Z.elim⟩
def dP(x:W)(ws:List W)(st:List al):R W:=match x,ws with
 |.loc n,[y]=>(match st[n]? with
  |some (.lst zs)=>if zs.length<lw then .ok .non (st.set n (.lst (zs++[y])))else .bad
  |_=>.bad)
 |_,_=>.bad
theorem jw:Td X "list.append" dP:=⟨λW s B H x U v V Q I J rus Z=>by
 obtain⟨t,Y,wx,O,S,R,rs,q⟩:=Z;unfold dP at q
 split at q
 .rename_i n y
  obtain⟨y1,rfl,w⟩:=rs.one
  split at q
  .rename_i D d
   split at q
   .rename_i c
    obtain⟨a1,z,U,k1,r⟩:=S.get d;obtain⟨b1,f1,rfl⟩:=R.locE;rw[z]at f1;cases f1
    refine Cp W s B H _ _ v V Q I J rus ⟨a1,U,y1,rfl,rfl,k1,by rw[<- r.len];exact Ql (cx c),λH2 e=>?_⟩;subst e;exact q t _ _ (ah _) (gg.but mQ k1) (S.set d z k1 (r.app (.consI w .nilI))) .non
   .exact q.elim
  .exact q.elim
 .exact q.elim,λx O Y=>by
 unfold dP
 repeat' split
 all_goals trivial⟩
def qJ(x:W)(ws:List W)(st:List al):R W:=match x,ws with
 |.loc n,[.loc m]=>(match st[n]?,st[m]? with
  |some (.lst zs),bi (.lst ys)=>if zs.length+ys.length<=lw then .ok .non (st.set n (.lst (zs++ys)))else .bad
  |_,_=>.bad)
 |_,_=>.bad
theorem x6:Td X "list.extend" qJ:=⟨λW s B H x U v us Q I J rus Z=>by
 obtain⟨t,Y,wx,O,S,R,rs,q⟩:=Z;unfold qJ at q
 split at q
 .rename_i n m
  obtain⟨y1,rfl,w⟩:=rs.one
  split at q
  .rename_i D ys d e2
   split at q
   .rename_i c
    obtain⟨a1,V,vs1,k1,z⟩:=S.get d;obtain⟨a2,y,vs2,k2,r2⟩:=S.get e2;obtain⟨b1,f1,rfl⟩:=R.locE;obtain⟨b2,f2,rfl⟩:=w.locE;rw[V]at f1;cases f1
    rw[y]at f2;cases f2
    refine Fe W s B H _ _ v us Q I J rus ⟨a1,a2,vs1,vs2,rfl,rfl,k1,k2,by rw[<- z.len,<- r2.len];exact jk c,?_⟩;exact q t _ _ (ah _) (gg.but mQ k1) (S.set d V k1 (z.app r2)) .non
   .exact q.elim
  .exact q.elim
 .exact q.elim,λx O Y=>by
 unfold qJ
 repeat' split
 all_goals trivial⟩
noncomputable def pz:List W->Option (List (List Nat))
 |[]=>bi []
 |.str l::ws=>(pz ws).map (l :: ·)
 |_=>cg
theorem vP:∀{ws:List W} {ls:List (List Nat)} {vs:List V},pz ws=bi ls->RelWs K μ H ws vs->vs=ls.map λl=>V.str (tx l)
 |[],ls,vs,h,r=>by simp only[pz]at h;cases h;exact r.nilE
 |w::ws,ls,vs,h,r=>by
  obtain⟨x,d,rfl,R,y⟩:=r.consE
  cases w with
  |str l=>
   simp only[pz]at h
   cases e:pz ws with
   |none=>rw[e]at h;cases h
   |some z=>rw[e]at h;cases h;rw[R.strE,vP e y];rfl
  |_=>simp only[pz]at h;cases h
theorem x8(ls:List (List Nat)):pz (ls.map W.str)=bi ls:=by
 induction ls with
 |nil=>rfl
 |cons a r U=>show(pz (r.map W.str)).map (a :: ·)=_;rw[U];rfl
def mV(x:W)(ws:List W)(st:List al):R W:=match x,ws with
 |.str sep,[.loc n]=>sK (lstOf st n) λD=>sK (pz D) λls=>if (ls.map Y8).sum+ls.length*sep.length<=lw then .ok (.str (qf sep ls)) st else .bad
 |_,_=>.bad
theorem yX:Td X "str.join" mV:=⟨λW s B H x U v V Q I J rus y=>by
 obtain⟨t,Y,wx,O,S,R,rs,q⟩:=y;unfold mV at q
 split at q
 .rename_i sep n
  obtain⟨y1,rfl,w⟩:=rs.one
  cases d:lstOf Y n with
  |none=>rw[d]at q;exact q.elim
  |some D=>
   rw[d,cO]at q
   cases e2:pz D with
   |none=>rw[e2]at q;exact q.elim
   |some ls=>
    rw[e2,cO]at q
    split at q
    .rename_i c
     obtain⟨a,U,g,Z,r⟩:=S.lstOf d;obtain⟨b1,z,rfl⟩:=w.locE;rw[g]at z;cases z
     have:=vP e2 r;subst this;exact Lv W s B H _ _ v V Q I J rus ⟨sep,_,ls,R.strE,rfl,Z,aT c #[1],sI S q⟩
    .exact q.elim
 .exact q.elim,λx O Y=>by
 unfold mV
 split
 .exact lT λ_=>lT λ_=>by split<;>trivial
 .trivial⟩
end
def pR(cap:List (Option Nat))(ρ:cE):cE:=cap.map λo=>o.bind λj=>(ρ[j]?).join
theorem UO{ρ:cE}(r:Paired (λ(o:Option W) (s:Option V)=>∀w,o=bi w->∃v,s=bi v/\bh X.K μ H w v) ρ σ):∀cap:List (Option Nat),
  Paired (λ(o:Option W) (s:Option V)=>∀w,o=bi w->∃v,s=bi v/\bh X.K μ H w v) (pR cap ρ) (rA cap σ)
 |[]=>.nil
 |o::cap=>by
  refine .cons (λw e=>?_) (UO r cap)
  cases o with
  |none=>cases e
  |some j=>
   have R:(ρ[j]?).join=bi w:=e;have e2:ρ[j]?=bi (bi w):=by
    cases h:ρ[j]? with
    |none=>rw[h]at R;cases R
    |some y=>rw[h]at R;simp at R;rw[R]
   obtain⟨v,z,J⟩:=qh r e2;exact⟨v,by show(σ[j]?).join=bi v;rw[z];rfl,J⟩
open Classical in
def pA(f:FG)(t:FT)(el:FE)(ck:Option (Nat×List W))(ρ0:cE):List W->List W->List al->R (List W)
 |[],hZ,st=>if kK st ck then .ok hZ st else .bad
 |w::ws,hZ,st=>if kK st ck then(match f w ρ0 with
  |none=>.bad
  |some D=>(match t D st with
   |.ok cT st1=>(match el D st1 with
    |.ok y U=>pA f t el ck ρ0 ws (hZ++[y]) U
    |_=>.bad)
   |.ok dw st1=>pA f t el ck ρ0 ws hZ st1
   |_=>.bad))else .bad
def fS(cap:List (Option Nat))(fi:FI)(f:FG)(t:FT)(el:FE):FE:=λV st=>(fi V st).bind λk st=>if k.1.length<=lw then(pA f t el k.2 (pR cap V) k.1 [] st).bind λys st=>nP ys st else .bad
def WA(X:Cx)(z:List i0->Hp->α->β->Prop)(f:cE->List al->R α)(σ:St)(H:Hp)(Q:β->Hp->Prop):Prop:=
 ∃μ V st a bF,Rl X μ V st σ H/\f V st=.ok a bF/\∀μ' b H',μ <+: μ'->dH X.K H H'->gk X.K X.mg μ' bF H'->z μ' H' a b->Q b H'
def jF:FT:=λ_ st=>.ok cT st
structure Te(X:Cx)(es:List i9)(f:FT):Prop where
 h:KM X es (tT X f)
theorem KM.imp{e:List i9}{t t':TT}(h:KM X e t)(i:∀σ H Q,t' σ H Q->t σ H Q):KM X e t':=λW s σ H Q I q=>h W s σ H Q I (i _ _ _ q)
theorem vd:Te X [] jF:=⟨Lq.imp λB H Q h=>by obtain⟨t,V,Y,l,h⟩:=h;exact h t cT H (ah _) dH.refl l.sto rfl⟩
theorem LO{c:i9}{t:FT}(J:ST X c t):Te X [c] t:=⟨Lr J.h⟩
theorem HJ{fi:FI}{f:FG}{t:FT}{el:FE}{Q:VK}(h:tE X (fS cap fi f t el) σ H Q) :
  xR cap (λσ H R=>tG X (UN X) fi σ H R) (Wy X f) (WA X Qm t) (WA X (q9 X) el) σ H Q:=by
 obtain⟨B,V,Y,l,h⟩:=h;refine⟨B,V,Y,l,RK.bind h l λd I k J H1 p1 x1 l1 wk Z=>?_⟩
 by_cases hz:k.1.length<=lw
 .rw[ax hz]at Z;refine⟨λi m ys H'=>i<=k.1.length/\m=k.1.length-i/\ys.length<=i/\∃μ' hZ bF,d <+: μ'/\dH X.K H1 H'/\Rl X μ' V bF σ H'/\RelWs X.K μ' H' hZ ys/\RK X (q9 X) μ' σ H' Q ((pA f t el k.2 (pR cap V) (k.1.drop i) hZ bF).bind λys Y=>nP ys Y),
   ⟨_,dy _,rfl,am _,d,[],I,ah _,dH.refl,l1,.nilI,Z⟩,?_⟩
  rintro i m ys H' ⟨D,rfl,z,μ',hZ,bF,pm,xm,lm,ra,y⟩
  by_cases hlt:i<k.1.length
  .rw[gz hlt]at y;unfold pA at y
   by_cases ck:kK bF k.2
   .rw[ax ck]at y;obtain⟨go,yld⟩:=(wk i μ' bF H' pm xm lm.sto ck).1 _ (ar hlt);refine .inr ⟨go,λx H2 hy2=>?_⟩;obtain⟨y1,y2,y3⟩:=yld x H2 hy2
    cases hf:f k.1[i] (pR cap V)with
    |none=>rw[hf]at y;exact y.elim
    |some ρ2=>
     rw[hf]at y;simp only at y;have lb:Rl X μ' (pR cap V) bF (rA cap σ) H2:=⟨UO (lm.to (ah _) y1 y2).env cap,y2⟩
     refine⟨μ',pR cap V,bF,k.1[i],ρ2,lb,y3,hf,λσ2 l2=>?_⟩
     cases ht:t ρ2 bF with
     |bad=>rw[ht]at y;exact y.elim
     |ex c s=>rw[ht]at y;exact y.elim
     |ok kk W=>
      rw[ht]at y;refine⟨μ',ρ2,bF,kk,W,l2,ht,λμ3 b3 H3 p3 x3 S3 q3=>?_⟩
      cases q3
      cases kk with
      |false=>
       exact⟨_,by omega,hlt,rfl,by omega,μ3,hZ,W,pm.trans p3,xm.trans (y1.trans x3),lm.to p3 (y1.trans x3) S3,ra.mono p3 (y1.trans x3),RK.mono y p3 (y1.trans x3)⟩
      |true=>
       rw[ax rfl];simp only at y
       cases O:el ρ2 W with
       |bad=>rw[O]at y;exact y.elim
       |ex c s=>rw[O]at y;exact y.elim
       |ok w fP=>
        rw[O]at y;refine⟨μ3,ρ2,W,w,fP,l2.to p3 x3 S3,O,λμ4 b4 H4 p4 x4 S4 q4=>?_⟩;have pp:=p3.trans p4;have xx:=y1.trans (x3.trans x4);exact⟨jr z (aR hlt (jk hz)),_,by omega,hlt,rfl,by simp;omega,μ4,hZ++[w],fP,pm.trans pp,xm.trans xx,lm.to pp xx S4,(ra.mono pp xx).app (.consI q4 .nilI),RK.mono y pp xx⟩
   .rw[aF ck]at y;exact y.elim
  .have hi':i=k.1.length:=by omega
   subst hi';rw[pe (am _)]at y;unfold pA at y
   by_cases ck:kK bF k.2
   .rw[ax ck]at y;obtain⟨z1,z2⟩:=sH lm.sto ra y;exact .inl ⟨(wk _ μ' bF H' pm xm lm.sto ck).2 (am _),z1,λp U=>z2 p _ U rfl⟩
   .rw[aF ck]at y;exact y.elim
 .rw[aF hz]at Z;exact Z.elim
section
variable{nm:List Str}{fi:FI}{f:FG}{t:FT}{el:FE}
theorem X_{X X':Cx}{f:FE}(z:X'.K=X.K)(y:X'.mg=X.mg)(h:SE X' e f):QE X' e (WA X (q9 X) f):=⟨h.h.imp λB H Q zw=>by obtain⟨D,V,Y,a,U,l,e,q⟩:=zw;exact ⟨D,V,Y,⟨by rw[z];exact l.env,by rw[z,y];exact l.sto⟩,by rw[e];exact λJ b H' p x S r=>q J b H' p (by rw[<- z];exact x) (by rw[<- z,<- y];exact S) (by show bh X.K J H' a b;rw[<- z];exact r)⟩⟩
theorem Ya{X X':Cx}{e:List i9}{f:FT}(z:X'.K=X.K)(y:X'.mg=X.mg)(h:Te X' e f):Xj X' e (WA X Qm f):=⟨h.h.imp λB H Q zx=>by obtain⟨D,V,Y,a,U,l,e,q⟩:=zx;exact ⟨D,V,Y,⟨by rw[z];exact l.env,by rw[z,y];exact l.sto⟩,by rw[e];exact λJ b H' p x S r=>q J b H' p (by rw[<- z];exact x) (by rw[<- z,<- y];exact S) r⟩⟩
theorem Yb{X X':Cx}(z:X'.K=X.K)(y:X'.mg=X.mg)(h:SG X' e f):QG X' e (Wy X f):=⟨h.h.imp λv B H Q zy=>by obtain⟨D,V,Y,w,R,l,r,e,q⟩:=zy;exact ⟨D,V,Y,w,R,⟨by rw[z];exact l.env,by rw[z,y];exact l.sto⟩,by rw[z];exact r,e,λO I=>q O ⟨by rw[<- z];exact I.env,by rw[<- z,<- y];exact I.sto⟩⟩⟩
theorem CA(w:Cq X.env.scope.names scope.names nm cap X.N=cT)(y:X.env.cells=wh m X.env.scope.names [])(D:SI X tg d9 fi)(d:∀cl C Y H0 fp,SG (dz X nm scope cl C Y H0 fp) tg f)(Z:∀cl C Y H0 fp,Te (dz X nm scope cl C Y H0 fp) qx t)
  (J:∀cl C Y H0 fp,SE (dz X nm scope cl C Y H0 fp) tM el) (R:X.calm=cT:=by rfl) (V:scope.kind=.function:=by rfl) (O:∀x,ZB d9 X.env x=pure x:=by intro _;rfl) :
  SE X (.ListComp tM [⟨tg,d9,qx,0⟩] scope pos) (fS cap fi f t el):=
 ⟨(Qi R y V w ⟨D.h⟩ (λcl C Y H0 fp=>Yb (X:=X) rfl rfl (d cl C Y H0 fp)) (λcl C Y H0 fp=>Ya (X:=X) rfl rfl (Z cl C Y H0 fp)) (λcl C Y H0 fp=>X_ (X:=X) rfl rfl (J cl C Y H0 fp)) O).h.imp λ_ _ _ h=>HJ h⟩
end
section
variable{a b c o:i9}{fa fb fc fe fo:FE}{fs:FA}
theorem FK{D:List V}(R:∀μ H,RelWs X.K μ H ws D):yV X (Xg D) (ws,cg) μ H:=λi J U H' d t S _=>by
 have I:ws.length=D.length:=(R μ H).len;refine⟨λw B=>?_,λh=>by show D.length<=i;rw[<- I];exact h⟩;obtain⟨v,z,Y⟩:=(R J H').get B;refine⟨(ak.mp z).1,λy H'' Z=>?_⟩;obtain⟨rfl,Z⟩:=Z;rw[z]at Z;cases Z
 exact⟨dH.refl,S,Y⟩
noncomputable def ij(l:List Nat):List W:=l.map λc=>.str [c]
theorem x9(l:List Nat)(μ:List i0)(H:Hp):RelWs X.K μ H (ij l) (kq l):=by
 induction l with
 |nil=>exact .nilI
 |cons a r U=>exact .consI .str U
def Ny(fe:FE):FI:=λV st=>(fe V st).bind λx st=>match x with
 |.str l=>.ok (ij l,cg) st
 |_=>.bad
theorem QD(J:SE X e fe):SI X tg e (Ny fe):=⟨(Qf J.h).imp λB H R h=>by
 obtain⟨t,V,Y,l,h⟩:=h;refine⟨t,V,Y,l,RK.bind h l λd W x v H1 I D y w Z=>?_⟩
 cases x with
 |str z=>exact⟨z,w.strE,Z d _ H1 (ah _) dH.refl y.sto (FK (x9 z))⟩
 |_=>exact Z.elim⟩
def fT(fe:FE):FI:=λV st=>(fe V st).bind λx st=>match x with
 |.tup ws=>.ok (ws,cg) st
 |.loc n=>(match lstOf st n with
  |some ws=>.ok (ws,bi (n,ws)) st
  |none=>.bad)
 |.str l=>.ok (ij l,cg) st
 |_=>.bad
theorem yY(J:SE X e fe):SI X tg e (fT fe):=⟨λW s B H Rr I h=>by
 obtain⟨t,V,Y,l,h⟩:=h
 cases d:fe V Y with
 |bad=>simp only[fT,d,R.bind_bad]at h;exact h.elim
 |ex c O=>
  refine(HF (tg:=tg) J).h W s B H Rr I ⟨t,V,Y,l,?_⟩;simp only[fT,HE,d,R.bind_ex]at h ⊢;exact h
 |ok w O=>
  cases w with
  |tup Z=>
   refine(HF (tg:=tg) J).h W s B H Rr I ⟨t,V,Y,l,?_⟩;simp only[fT,HE,d,R.bind_ok]at h ⊢;exact h
  |loc n=>
   refine(QB (tg:=tg) J).h W s B H Rr I ⟨t,V,Y,l,?_⟩;simp only[fT,Nx,d,R.bind_ok]at h ⊢;exact h
  |str z=>
   refine(QD (tg:=tg) J).h W s B H Rr I ⟨t,V,Y,l,?_⟩;simp only[fT,Ny,d,R.bind_ok]at h ⊢;exact h
  |_=>simp only[fT,d,R.bind_ok]at h;exact h.elim⟩
def vQ(f f':W->W->List al->R W)(fa fb fc:FE):FE:=λV st=>(fa V st).bind λx st=>(fb V st).bind λy st=>(f x y st).bind λz st=>match z with
 |.bl cT=>(fc V st).bind λw st=>f' y w st
 |.bl dw=>.ok (.bl dw) st
 |_=>.bad
theorem LP{f:W->W->List al->R W}{Q:VK}(n:∀x y st,q_ (f x y st))(n':∀x y st,q_ (f' x y st))(h:tE X (vQ f f' fa fb fc) σ H Q):G3 (Uu X f) (Uu X f') (tE X fa) (tE X fb) (tE X fc) σ H Q:=by
 obtain⟨D,V,st,l,h⟩:=h;refine⟨D,V,st,l,RK.bind h l λd O x v H1 p1 x1 J I Z=>⟨d,V,O,J,RK.bind Z J λμ2 U y u H2 p2 x2 l2 q2 Y=>⟨μ2,U,x,y,l2.sto,I.mono p2 x2,q2,rV (σ:=σ) (RK.bind Y l2 λμ3 fP z t H3 p3 x3 l3 q3 B=>?_) (n _ _ _)⟩⟩⟩
 cases z with
 |bl k=>
  refine⟨k,q3.blE,?_⟩
  cases k with
  |false=>exact B μ3 _ H3 (ah _) dH.refl l3.sto .bl
  |true=>
   refine⟨μ3,V,fP,l3,RK.bind B l3 λμ4 rJ w s H4 p4 x4 l4 q4 h4=>?_⟩;exact⟨μ4,rJ,y,w,l4.sto,(q2.mono p3 x3).mono p4 x4,q4,rV h4 (n' _ _ _)⟩
 |_=>exact B.elim
theorem LQ{SJ:CmpOp}{f:W->W->List al->R W}(V:sF X (YS op) f)(Y:sF X (YS SJ) f')(D:SE X a fa)(U:SE X b fb)(J:SE X c fc)(y:lastMarks [op,SJ] [b,c]=dw:=by with_unfolding_all rfl):SE X (.Compare a [op,SJ] [b,c] pos) (vQ f f' fa fb fc):=⟨(G4 V.h Y.h D.h U.h J.h y).imp λ_ _ _ h=>LP V.n Y.n h⟩
def LR(fa:FE):FE:=λV st=>(fa V st).bind λx st=>match x with
 |.int i=>.ok (.int (-i)) st
 |_=>.bad
theorem UP(D:SE X a fa):SE X (.UnaryOp .USub a pos) (LR fa):=⟨(TM P1 D.h).imp λB H Q h=>by
 obtain⟨t,V,Y,l,h⟩:=h;refine⟨t,V,Y,l,RK.bind h l λd W x v H1 R J y w Z=>?_⟩
 cases x with
 |int k=>exact⟨k,w.intE,Z d _ H1 (ah _) dH.refl y.sto .int⟩
 |_=>exact Z.elim⟩
noncomputable def FL(x y:W)(st:List al):R W:=match x,y with
 |.int i,.int j=>.ok (.bl (decide (i<=j))) st
 |.str [c],.str [d]=>.ok (.bl (decide (c<=d))) st
 |_,_=>.bad
theorem DQ:sF X (YS .LtE) FL:=⟨λW s B H x y v u Q I J D Z=>by
 obtain⟨t,Y,z,U,S,R,w,q⟩:=Z;unfold FL at q
 split at q
 .exact TQ W s B H x y v u Q I J D ⟨_,_,R.intE,w.intE,i8 S q⟩
 .exact Fm W s B H x y v u Q I J D ⟨_,_,R.strE,w.strE,i8 S q⟩
 .exact q.elim,λx y Y=>by unfold FL;split<;>trivial⟩
end
noncomputable def yZ(c:Nat):List Nat->List Nat
 |[]=>[c]
 |d::r=>if c<d then c::d::r else if c=d then d::r else d::yZ c r
def fH(l:List Nat):List Nat:=l.foldr yZ []
theorem vR{c x:Nat}:∀{l:List Nat},x∈yZ c l↔x=c\/x∈l
 |[]=>by simp[yZ]
 |d::r=>by
  unfold yZ
  split
  .simp
  .split
   .rename_i h;subst h;simp
   .simp only[aG,vR];constructor
    .rintro(h|h|h)<;>simp[h]
    .rintro(h|h|h)<;>simp[h]
theorem DR{c:Nat}:∀{l:List Nat},l.Pairwise (· < ·)->(yZ c l).Pairwise (· < ·)
 |[],_=>by simp[yZ]
 |d::r,h=>by
  obtain⟨Z,Y⟩:=bp.mp h;unfold yZ
  split
  .rename_i J
   refine bp.mpr ⟨λx hx=>?_,h⟩;rcases aG.mp hx with rfl|hx
   .exact J
   .exact tV J (Z x hx)
  .split
   .exact h
   .rename_i J D
    refine bp.mpr ⟨λx hx=>?_,DR Y⟩;rcases vR.mp hx with rfl|hx
    .omega
    .exact Z x hx
theorem gB{x:Nat}:x∈fH l↔x∈l:=by
 induction l with
 |nil=>simp[fH]
 |cons a r U=>show x∈yZ a (fH r)↔_;rw[vR,U];simp
theorem gm(l:List Nat):(fH l).Pairwise (· < ·):=by
 induction l with
 |nil=>exact Z4
 |cons a r U=>exact DR U
theorem rY:∀{l m:List Nat},l.Pairwise (· < ·)->m.Pairwise (· < ·)->(∀x,x∈l↔x∈m)->l=m
 |[],[],_,_,_=>rfl
 |[],b::m,_,_,h=>by have:=(h b).mpr (by simp);simp at this
 |a::l,[],_,_,h=>by have:=(h a).mp (by simp);simp at this
 |a::l,b::m,h1,h2,h=>by
  obtain⟨R,W⟩:=bp.mp h1;obtain⟨w,t⟩:=bp.mp h2;have e:a=b:=by
   rcases aG.mp ((h a).mp #[5])with z|z
   .exact z
   .rcases aG.mp ((h b).mpr #[5])with y|y
    .exact y.symm
    .have:=R b y;have:=w a z;omega
  subst e;rw[rY W t λx=>?_];constructor
  .intro O;rcases aG.mp ((h x).mp (aC _ O))with z|z
   .subst z;exact absurd (R x O) (bX _)
   .exact z
  .intro O;rcases aG.mp ((h x).mpr (aC _ O))with z|z
   .subst z;exact absurd (w x O) (bX _)
   .exact z
noncomputable def CB(c:List Nat):List (List Nat)->List (List Nat)
 |[]=>[c]
 |d::r=>if c<d then c::d::r else d::CB c r
def kb(l:List (List Nat)):List (List Nat):=l.foldr CB []
theorem ub(c:List Nat):∀l:List (List Nat),(CB c l).Perm (c::l)
 |[]=>fY _
 |d::r=>by
  unfold CB
  split
  .exact fY _
  .exact((ub c r).cons d).trans (aad c d r)
theorem ik(l:List (List Nat)):(kb l).Perm l:=by
 induction l with
 |nil=>exact fY _
 |cons a r U=>exact(ub a _).trans (U.cons a)
def LS:List (List Nat)->Prop:=List.Pairwise λa b=>¬ b<a
theorem DS(c:List Nat):∀{l:List (List Nat)},LS l->LS (CB c l)
 |[],_=>by simp[CB,LS]
 |d::r,h=>by
  obtain⟨Z,Y⟩:=bp.mp h;unfold CB
  split
  .rename_i J
   refine bp.mpr ⟨λx hx=>?_,h⟩;rcases aG.mp hx with rfl|hx
   .exact λz=>mx _ (kI z J)
   .exact λz=>Z x hx (kI z J)
  .rename_i J
   refine bp.mpr ⟨λx hx=>?_,DS c Y⟩;rcases aG.mp ((ub c r).mem_iff.mp hx)with rfl|hx
   .exact J
   .exact Z x hx
theorem vS(l:List (List Nat)):LS (kb l):=by
 induction l with
 |nil=>exact Z4
 |cons a r U=>exact DS a U
theorem y0:∀{l m:List (List Nat)},LS l->LS m->l.Perm m->l=m
 |[],m,_,_,h=>(List.Perm.nil_eq h)
 |a::l,[],_,_,h=>(by have:=h.length_eq;simp at this)
 |a::l,b::m,h1,h2,h=>by
  obtain⟨R,W⟩:=bp.mp h1;obtain⟨w,t⟩:=bp.mp h2;have e:a=b:=by
   rcases aG.mp (h.mem_iff.mp (by simp:a∈a::l))with z|z
   .exact z
   .rcases aG.mp (h.mem_iff.mpr (by simp:b∈b::m))with y|y
    .exact y.symm
    .exact oi (show a<=b from R b y) (show b<=a from w a z)
  subst e;rw[y0 W t (List.perm_cons a |>.mp h)]
theorem vT:∀{D:List (List Nat)},sortedS (D.map tx)=cT->LS D:=by
 have key:∀(D:List (List Nat)) (p:List Nat),risingS (tx p) (D.map tx)=cT->LS (p::D):=by
  intro D
  induction D with
  |nil=>intro p _;simp[LS]
  |cons a r U=>
   intro p h;have w:(!ltCps a p&&risingS (tx a) (r.map tx))=cT:=h;rw[bc,iK,ltCps_eq,om]at w;have u:=U a w.2;refine bp.mpr ⟨λx hx=>?_,u⟩;rcases aG.mp hx with rfl|hx
   .exact w.1
   .have:=(bp.mp u).1 x hx;exact iT.mpr (List.le_trans (iT.mp w.1) (iT.mp this))
 intro D h
 cases D with
 |nil=>exact Z4
 |cons a r=>exact key r a h
section
variable{a b c o:i9}{fa fb fc fe fo:FE}{fs:FA}
def qK(ws:List W)(st:List al):R W:=match ws with
 |[.loc n]=>sK (lstOf st n) λD=>sK (pz D) λls=>if ls.length<64 then .ok (.loc st.length) (st++[.lst ((kb ls).map W.str)])else .bad
 |_=>.bad
theorem AT(ls:List (List Nat)):RelWs K μ H (ls.map W.str) (ls.map λl=>V.str (tx l)):=by
 induction ls with
 |nil=>exact .nilI
 |cons a r U=>exact .consI .str U
theorem AU:qi X (.builtin "sorted") qK:=⟨λW s B H R us Q I J zq=>by
 obtain⟨t,Y,Z,S,r,q⟩:=zq;unfold qK at q
 split at q
 .rename_i n
  obtain⟨y,rfl,w⟩:=r.one
  cases d:lstOf Y n with
  |none=>rw[d]at q;exact q.elim
  |some V=>
   rw[d,cO]at q
   cases e2:pz V with
   |none=>rw[e2]at q;exact q.elim
   |some ls=>
    rw[e2,cO]at q
    split at q
    .rename_i c
     obtain⟨a,R,g,z,rz⟩:=S.lstOf d;obtain⟨b1,f1,rfl⟩:=w.locE;rw[g]at f1;cases f1
     have:=vP e2 rz;subst this;refine xo.h W s B H _ us Q I J ⟨_,ls,rfl,z,c,λV U O l H2 D eH=>?_⟩;subst eH;have ez:V=kb ls:=y0 (vT O) (vS ls) (U.trans (ik ls).symm);subst ez;exact q (t++[l]) _ _ (aq _ _) (gg.same (ca D _)) (S.newLst D (AT _)) (ny S)
    .exact q.elim
 .exact q.elim,λZ Y=>by
 unfold qK
 split
 .exact lT λ_=>lT λ_=>by split<;>trivial
 .trivial⟩
noncomputable def lL:List W->Option (List Nat)
 |[]=>bi []
 |.str [c]::ws=>(lL ws).map (c :: ·)
 |_=>cg
theorem sL:∀{ws:List W} {l:List Nat} {vs:List V},lL ws=bi l->RelWs K μ H ws vs->vs=kq l
 |[],l,vs,h,r=>by simp only[lL]at h;cases h;exact r.nilE
 |w::ws,l,vs,h,r=>by
  obtain⟨x,d,rfl,R,y⟩:=r.consE;unfold lL at h
  split at h
  .rename_i e;cases e
  .rename_i c SX e
   cases e
   cases e2:lL ws with
   |none=>rw[e2]at h;cases h
   |some I=>rw[e2]at h;cases h;rw[R.strE,sL e2 y];rfl
  .cases h
def sM:W->Option (List Nat)
 |.str l=>bi l
 |.tup ws=>lL ws
 |_=>cg
def lU(fe:FE):FE:=λV st=>(fe V st).bind λx st=>sK (sM x) λl=>if l.length<4000/\(fH l).length<64 then .ok (.loc st.length) (st++[.lst (ij (fH l))])else .bad
theorem d_{m:List Nat}(y:m.Nodup)(h:∀c∈m,c∈l):m.length<=l.length:=by
 induction m generalizing l with
 |nil=>exact dy _
 |cons a r U=>
  obtain⟨Z,Y⟩:=bR.mp y;have D:a∈l:=h a #[5];have:=U Y (l:=l.erase a) λc J=>by have:c≠a:=λz=>Z (z▸J);exact(List.mem_erase_of_ne this).mpr (h c (aC _ J))
  rw[List.length_erase_of_mem D]at this;have:0<l.length:=List.length_pos_of_mem D;simp;omega
theorem x_{p1 p2 SU pos2:Pos}(Z:X.mg "sorted"=cg)(h3:X.mg "set"=cg)(O:SE X e fe)(J:X.calm=cT:=by rfl)
  (XU:Gl X "sorted":=by rfl) (Kq:Gl X "set":=by rfl) (WU:ow [e] X.env=(dw,eval e X.env)::ow [] X.env:=by rfl):SE X (.Call (.Name "sorted" p1) [.Call (.Name "set" p2) [e] [] pos2] [] SU) (lU fe):=⟨(Fv Z h3 ⟨O.h⟩ J XU Kq WU).h.imp λB H Q h=>by
 obtain⟨t,V,Y,l,h⟩:=h;refine⟨t,V,Y,l,RK.bind h l λU W x v H1 p1 x1 l1 w Z=>?_⟩
 cases d:sM x with
 |none=>rw[d]at Z;exact Z.elim
 |some ll=>
  rw[d,cO]at Z
  split at Z
  .rename_i c
   refine⟨ll,?_,c.1,λm y hsub=>?_,λm jB hup hmem a H2 D eH=>?_⟩
   .cases x with
    |str z=>cases d;exact .inl w.strE
    |tup I=>obtain⟨p,R,rfl,hS,r⟩:=w.tupE;have:=sL d r;subst this;exact .inr ⟨p,rfl,hS⟩
    |_=>cases d
   .exact jr (d_ y λc J=>gB.mpr (hsub c J)) c.2
   .subst eH;have em:m=fH ll:=by refine rY ((List.Pairwise.and hup jB).imp λz=>Nat.lt_of_le_of_ne z.1 z.2) (gm ll) λx=>?_;rw[hmem,gB]
    subst em;exact Z (U++[a]) _ _ (aq _ _) (gg.same (ca D _)) (l1.sto.newLst D (x9 (X:=X) _ _ _)) (ny l1.sto)
  .exact Z.elim⟩
noncomputable def sN:List W->Option (List Bool)
 |[]=>bi []
 |.bl k::ws=>(sN ws).map (k :: ·)
 |_=>cg
theorem vf:∀{ws:List W} {ls:List Bool} {vs:List V},sN ws=bi ls->RelWs K μ H ws vs->vs=ls.map V.bl
 |[],ls,vs,h,r=>by simp only[sN]at h;cases h;exact r.nilE
 |w::ws,ls,vs,h,r=>by
  obtain⟨x,d,rfl,R,y⟩:=r.consE
  cases w with
  |bl l=>
   simp only[sN]at h
   cases e:sN ws with
   |none=>rw[e]at h;cases h
   |some z=>rw[e]at h;cases h;rw[R.blE,vf e y];rfl
  |_=>simp only[sN]at h;cases h
def y4(ws:List W)(st:List al):R W:=match ws with
 |[.loc n]=>sK (lstOf st n) λD=>sK (sN D) λls=>.ok (.bl (ls.all id)) st
 |_=>.bad
theorem UQ(J:X.calm=cT:=by rfl):qi X (.builtin "all") y4:=⟨λW s B H U V Q I z R=>by
 obtain⟨t,Y,O,S,r,q⟩:=R;unfold y4 at q
 split at q
 .rename_i n
  obtain⟨y,rfl,w⟩:=r.one
  cases d:lstOf Y n with
  |none=>rw[d]at q;exact q.elim
  |some D=>
   rw[d,cO]at q
   cases e2:sN D with
   |none=>rw[e2]at q;exact q.elim
   |some ls=>
    rw[e2,cO]at q;obtain⟨a,U,g,Z,rz⟩:=S.lstOf d;obtain⟨b1,f1,rfl⟩:=w.locE;rw[g]at f1;cases f1
    have:=vf e2 rz;subst this;exact(Ul J).h W s B H _ V Q I z ⟨_,ls,rfl,Z,i8 S q⟩
 .exact q.elim,λO Y=>by
 unfold y4
 split
 .exact lT λ_=>lT λ_=>trivial
 .trivial⟩
end
noncomputable def W.ty:W->Option String
 |.non=>bi "NoneType" | .bl _=>bi "bool" | .int _=>bi "int" | .str _=>bi "str" | .tup _=>bi "tuple" | .loc _=>cg
noncomputable def LU(t T:String):Bool:=(t==T)||(t == "bool" && T == "int")
theorem UR{K:uR}(h:He T){w:W}{t:String}(y:w.ty=bi t):PySem.W.kitOne K (.type t) (.type T)=bi (LU t T):=by
 cases w<;>simp only[W.ty]at y<;>cases y<;>(rcases h with rfl|rfl|rfl|rfl<;>rfl)
def vU(T:String)(z:FE):FE:=λV st=>(z V st).bind λx st=>match x.ty with
 |some t=>.ok (.bl (LU t T)) st
 |none=>.bad
section
variable{a b c o:i9}{fa fb fc fe fo:FE}{fs:FA}
theorem DT{xT:Str}(y:X.mg "isinstance"=cg)(hT:X.mg xT=cg)(hv:ZI xT=bi (.type T))(O:SE X a fa)(D:He T:=by first|exact .inl rfl|exact .inr (.inl rfl)|exact .inr (.inr (.inl rfl))|exact .inr (.inr (.inr rfl)))
  (hg:Gl X "isinstance":=by rfl) (YG:Gl X xT:=by rfl) (R:xT ≠ "__name__":=by decide) (hd:(xT==("__debug__":Str))=dw:=by decide)
  (he:ow [a,.Name xT p2] X.env=(dw,eval a X.env)::ow [.Name xT p2] X.env:=by rfl) (Aj:ow [.Name xT p2] X.env=(dw,eval (.Name xT p2) X.env)::ow [] X.env:=by rfl) (mH:(YR pos (ow [.Name xT p2] X.env)).any (·.1)=dw:=by rfl) :
  SE X (.Call (.Name "isinstance" p) [a,.Name xT p2] [] pos) (vU T fa):=by
 have C:ju X (.builtin "isinstance") (λxs H Q=>∃x μ J w t,xs=[x,.ty T]/\gk X.K X.mg μ J H/\bh X.K μ H w x/\w.ty=bi t/\Q (.bl (LU t T)) H):=by
  intro W s B H xs us Q I r h;obtain⟨x,μ,J,w,t,rfl,S,rx,ht,q⟩:=h;obtain⟨u,u2,rfl,r1,r2⟩:=cR.two r;obtain rfl:u2=.type T:=r2;have e:=UR (K:=X.K) D ht
  cases w with
  |tup ws=>
   cases ht
   obtain⟨p,vs,rfl,hS,_⟩:=rx.tupE
   cases(show u=YT p from r1)
   obtain⟨bx,_,U,_⟩:=I.tuple hS;obtain⟨o,Z,Y,_⟩:=U;exact Zj PySem.W.kitx_tuple I.kIn ⟨o,Z,Y⟩ e (λz=>nomatch z) λtk=>⟨.bl _,H,I.tok tk,rfl,q⟩
  |non=>cases ht;cases rx.nonE;exact qF I r1 .non e λtk=>⟨.bl _,H,I.tok tk,rfl,q⟩
  |bl b=>cases ht;cases rx.blE;exact qF I r1 (.bl _) e λtk=>⟨.bl _,H,I.tok tk,rfl,q⟩
  |int b=>cases ht;cases rx.intE;exact qF I r1 (.int _) e λtk=>⟨.bl _,H,I.tok tk,rfl,q⟩
  |str b=>cases ht;cases rx.strE;exact qF I r1 (.str _) e λtk=>⟨.bl _,H,I.tok tk,rfl,q⟩
  |loc b=>cases ht
 refine⟨(Ar C hg y boot_isinstance (iI O.h (iI (K3 YG hT hv (v:=.ty T) rfl R hd) rR Aj) he) #[1] #[1] he mH).imp λB H Q h=>?_⟩;obtain⟨μ,V,J,l,h⟩:=h;refine⟨μ,V,J,l,RK.bind h l λd st1 x v H1 p1 x1 l1 q1 Z=>?_⟩
 cases ht:x.ty with
 |none=>rw[ht]at Z;exact Z.elim
 |some t=>
  rw[ht]at Z;exact⟨v,d,st1,x,t,rfl,l1.sto,q1,ht,Z d _ H1 (ah _) dH.refl l1.sto .bl⟩
theorem HK{w:ms}{st:qd}{ps:List Str}
  (F:lB K x x st f fd) (y:mg x=bi (.ref f)) (R:ps.length=n)
  (U:∀(kV J I:gs) (O:Option i0) (Z V:gs) (us:List gs),us.length=ps.length->ZJ (fnOf x x (dZ st) (dq st) (aI st) .none kV J I O Z V) ⟨us,[]⟩=pure (ps.zip us)) :
  dG P w K mg base k x n (λ_ _=>.bad):=u_ F y R U ⟨λY H Q E h=>by rw[R];exact h.1,λ_ _ _ _ _ _ _ _ _ _ _ _ _ h=>by obtain⟨_,_,_,_,_,_,z⟩:=h;exact z.elim⟩
end
abbrev US:List gs:=[.type "ValueError",.type "Exception",.type "BaseException",.type "object"]
abbrev Nz:String:="ValueError.__new__"
def QF(K:uR)(C:i0):List gs:=match K.lookup C with
 |some ⟨_,_,.cls cd,_⟩=>cd.mro
 |_=>[]
theorem LV{C:i0}{Yj:List gs}{Kx:String}(X:K.In h)(q:excIn K C Yj Kx=cT) :
  ∃Y N nm qn bs B sn I ab col U k0 d w J k5 mN,h.get? C=bi (excClassObj nm qn C N bs Y B sn I ab col U k0 d w J k5 Kx)/\h.Ns N mN/\mN "__init__"=cg/\OwnTail h Yj Y/\QF K C=.ref C::Y:=by
 have q0:=q;unfold excIn at q
 split at q
 .rename_i U W z V
  split at q
  .rename_i C' Y k0 d w J n k5 y O
   simp only[bc,jo,iK]at q;obtain⟨⟨⟨⟨⟨rfl,rfl⟩,hdel⟩,Z⟩,R⟩,hni⟩:=q;have hmro:QF K C'=W.mro:=by unfold QF;rw[V]
   obtain⟨nm,bs,mro,t,qn,D,sn,I,ab,col,del⟩:=W;dsimp only at y hdel R hni hmro;subst y hdel;have hsl:z=#[k0,d,w,J,bi (.builtin n),k5]:=by obtain⟨l⟩:=z;simp only at O;rw[O]
   subst hsl;exact⟨Y,t,nm,qn,bs,D,sn,I,ab,col,U,k0,d,w,J,k5,_,X _ _ V,.of_isNs (PySem.W.isNs_of_in X R),PySem.W.nsMap_none_of_in X R hni,PySem.W.tail_of_in X Z,hmro⟩
  .cases q
 .cases q
structure UT(K:uR)(mg:Str->Option gs)(x:Str):Prop where
 ex:∃C,mg x=bi (.ref C)/\excIn K C US Nz=cT
def y6(c:Str):FS:=λV st=>.ex c V st
theorem vV{np hW pos p':Pos}{z:Str}{j:Nat}(hC:UT X.K X.mg x)(kh:X.calm=cT:=by rfl)(hg:Gl X x:=by rfl)(hd:(x==("__debug__":Str))=dw:=by decide)
  (he:ow [.Constant (.str z) j p'] X.env=(dw,eval (.Constant (.str z) j p') X.env)::ow [] X.env:=by rfl):SS X (.Raise (bi (.Call (.Name x np) [.Constant (.str z) j p'] [] hW)) cg pos) (y6 x):=⟨by
 intro W s B H D I h;obtain⟨μ,V,J,l,h⟩:=h;obtain⟨C,w,q⟩:=hC.ex;have hh:X.A.handled=cg:=I.ok.hd kh;obtain⟨bm,N,nm,qn,bs,hdct,sn,sub,ab,col,dd,k0,k1,k2,k3,k5,mN,g1,g2,g3,g4,g5⟩:=LV I.kIn q;refine wpAny_Raise_call_subT (C:=C) (nm:=nm) (q:=qn) (N:=N) (bs:=bs) (bm:=bm) (hdct:=hdct) (sn:=sn) (sub:=sub) (ab:=ab) (col:=col) (dd:=dd) (k0:=k0) (k1:=k1) (k2:=k2) (k3:=k3) (k5:=k5)
  F.excBase_ValueError (mN:=mN) (g4.hasType F.excBase_ValueError.hasBase) hh (by rw[he];rfl) g3 (oE I hg w ⟨rfl,?_⟩ hd)
 rw[he];refine Calls.evalArgs_plain ?_;show i1 _ _ (spliced ((dw,eval (.Constant (.str z) j p') X.env)::[])) _ _ s;refine jm (wpAny_Constant_str (jQ ?_));refine⟨rfl,(by show 1<=sizeLine;decide),g1,g2,g4,λh' e O=>?_⟩;have I2:bH X W B H { s with heap:=h',toks:=s.toks+1 }:=I.kept O.keeps;have en:H e=cg:=by
  cases hu:H e with
  |none=>rfl
  |some u=>
   obtain⟨ob,Dk⟩:=(I.hok e u hu).ex;have:=O.new;rw[show({ s with toks:=s.toks+1 }:i2).heap=s.heap from rfl]at this;rw[Dk]at this;cases this
 obtain⟨t,Tq,ht2,ht3⟩:=O.there;have hin:∀env∈X.stack,∀b,env.frame=bi b->b∈t5 X.stack:=λenv he b U=>mh.mpr ⟨env,he,U⟩;refine h W μ B H (.ref e) _ (ah _) dH.refl l ⟨I2,e,.ref C,t,hideAll s.heap (t5 X.stack),rfl,w,en,λb o U=>O.keeps b o (PySem.W.of_hideAll _ U),?_,?_,.inr (.inl ⟨_,_,Tq,rfl,rfl,rfl,rfl,rfl⟩),λb o U R=>?_⟩
 .cases hq:(hideAll s.heap (t5 X.stack)).get? e with
  |none=>rfl
  |some o=>have z:=PySem.W.of_hideAll _ hq;have y:=O.new;rw[show({ s with toks:=s.toks+1 }:i2).heap=s.heap from rfl,z]at y;cases y
 .exact(PySem.W.funFrames_hide I.stack hin).of_keeps λb o U _=>⟨o,O.keeps b o U,rfl⟩
 .have old:∀o0,s.heap.get? b=bi o0->s.heap.get? b=bi o:=λo0 h0=>by have Z:h'.get? b=bi o0:=O.keeps b o0 h0;have Y:h'.get? b=bi o:=U;rw[Z]at Y;rw[<- Y];exact h0
  have jM:∀o0,s.heap.get? b=bi o0->b∉t5 X.stack->(hideAll s.heap (t5 X.stack)).get? b=bi o:=λo0 h0 d=>PySem.W.hideAll_get _ (old o0 h0) d;rcases R with R|⟨⟨o0,h0⟩,hf,hbx⟩|⟨⟨y,hy⟩,hf⟩|⟨pp,hp,rfl⟩
  .cases hu:H b with
   |none=>exact absurd hu R
   |some u=>
    obtain⟨ob,Dk⟩:=(I.hok b u hu).ex;exact jM ob Dk λz=>by have:=I.stkFree b z;rw[hu]at this;cases this
  .obtain⟨o1,Z⟩:=I.base.there b o0 h0 hbx;refine jM o1 Z λz=>?_;rcases aG.mp (I.stkSub b z)with z|z
   .rw[z]at h0;exact absurd (aR (aB h0) I.ok.above) (bX _)
   .exact hf z
  .obtain⟨v,ov,hov,_⟩:=I.cell y b hy;exact jM ov hov hf
  .obtain⟨p1,p2,p3,p4,_⟩:=I.pin pp hp;refine jM _ p1 λz=>?_;rcases aG.mp (I.stkSub _ z)with z|z
   .exact p3 z
   .exact p4 z⟩
section
end
open AutoSeq1 (wpAny_loadPart')
theorem AV(l:i0)(items:Array gs)(n:Nat)(b:i0)(xb:Array gs)(Y:Nat)(dd:Option i0)(sl:Array (Option gs))(KW:¬(!items.isEmpty&&aab (items.size+xb.size))=cT)(I:items.size<=sizeLine)(t:items.size+xb.size<=sizeLine+1) :
  Meets (Builtin.«list.extend» ⟨[.ref l,.ref b],[]⟩) (λ_ R s=>s.heap.get? l=bi { cls:=.type "list",dict:=cg,data:=.seq items n,slots:=#[] }/\s.heap.get? b=bi { cls:=.type "tuple",dict:=dd,data:=.seq xb Y,slots:=sl }
   /\ R (.ok (.ret Zb)) { s with heap:=s.heap.update l (Zh λx=>x++xb),toks:=s.toks }):=
 .of_wp λprog w A R s h=>by
  have z:=AutoSeq1.idx_int;have J:=AutoSeq1.sub_tuple_tuple;have y:=AutoSeq1.sub_list_list;have O:=AutoSeq1.sub_tuple_list;have W:=AutoSeq1.sub_list_tuple;obtain⟨Z,gl,d,V,B⟩:=s;obtain⟨D,U,q⟩:=h;have fits:(items++xb).size<=sizeLine+1:=by rw[Array.size_append];exact t
  wp_walk using (lg D rfl (hz:=I) (_hz':=fits)),bE D,bE U
  exact⟨_,rfl,q⟩
def HL(K:uR):V->List V->Hp->VK->Prop:=λx vs H Q=>∃l b xs D,x=.ref l/\vs=[.ref b]/\H l=bi (.lst xs)/\gg K H b D/\xs.length+D.length<=sizeLine/\Q .non (fF H l (.lst (xs++D)))
section
theorem CC:Xc X "list.extend" (HL X.K):=by
 intro W s B H x U v w Q I R Z h;obtain⟨l,b,d,t,rfl,rfl,hH,hB,V,q⟩:=h
 cases R
 obtain⟨u,rfl,y⟩:=Z.one
 cases y
 obtain⟨z,O,n,r,D,e⟩:=I.lstM hH;obtain⟨its2,r2,⟨o,e2,J,n2,Y⟩,z2⟩:=I.tuple hB;have hl2:=r2.length;have hsz:O.toArray.size+its2.toArray.size<=sizeLine:=by rw[aS,aS];omega
 have hlong:¬ (!O.toArray.isEmpty&&aab (O.toArray.size+its2.toArray.size))=cT:=by rw[vD hsz,Bool.and_false];exact bG
 obtain⟨cls,dd,data,sl⟩:=o;dsimp only at J Y;subst J Y;refine jn F.slot_list_extend ⟨_,e,rfl⟩ F.entry_list_extend (F.args_list_extend_2 _ _)
  (AV l O.toArray n b its2.toArray n2 dd sl hlong (by rw[aS];omega) #[0]) ⟨e,e2,?_⟩
 refine⟨.non,_,I.lset (its':=O++its2) hH e #[5] (r.append r2) ?_,rfl,q⟩;rw[ay];omega
def lV(x:W)(ws:List W)(st:List al):R W:=match x,ws with
 |.loc n,[.tup ys]=>(match st[n]? with
  |some (.lst zs)=>if zs.length+ys.length<=lw then .ok .non (st.set n (.lst (zs++ys)))else .bad
  |_=>.bad)
 |_,_=>qJ x ws st
theorem CD:Td X "list.extend" lV:=⟨λW s B H x U v us Q I J rus y=>by
 obtain⟨t,Y,wx,O,S,R,rs,q⟩:=y;unfold lV at q
 split at q
 .rename_i n ys
  obtain⟨y1,rfl,w⟩:=rs.one
  split at q
  .rename_i D d
   split at q
   .rename_i c
    obtain⟨a1,V,vs1,k1,z⟩:=S.get d;obtain⟨b1,f1,rfl⟩:=R.locE;rw[V]at f1;cases f1
    obtain⟨p,vs2,rfl,Z,r2⟩:=w.tupE;refine CC W s B H _ _ v us Q I J rus ⟨a1,p,vs1,vs2,rfl,rfl,k1,Z,by rw[<- z.len,<- r2.len];exact jk c,?_⟩;exact q t _ _ (ah _) (gg.but mQ k1) (S.set d V k1 (z.app r2)) .non
   .exact q.elim
  .exact q.elim
 .exact x6.h W s B H x U v us Q I J rus ⟨t,Y,wx,O,S,R,rs,q⟩,λx O Y=>by
 unfold lV
 split
 .repeat' split
  all_goals trivial
 .exact(x6 (X:=X)).n x O Y⟩
end
section
variable{a b c o:i9}{fa fb fe fo:FE}{fs:FA}
end
section
variable{w:ms}{g:Array GenState}{d:Drawn}{t:Nat}{os:OsState}
 {nm q:Str} {C N:i0} {bs bm:List gs} {hdct:Bool} {sn:List Str} {sub:List gs} {ab:Bool} {col:Option Bool} {dd:Option i0} {k0 k1 k2 k3 k5:Option gs} {Kx:String} {K:uR}
end
section
variable{a:i9}{fa:FE}
end
section
variable{a:i9}{fa:FE}
end
section
end
section
theorem vW(l:List α):∀(k:Nat) (Z:List α),Z2 (λJ y=>J++y) Z.toArray (pw k l.toArray)=(Z++(pw k l).flatten).toArray
 |0,Z=>by simp
 |k+1,Z=>by
  have e:Z.toArray++l.toArray=(Z++l).toArray:=by simp
  rw[cC,pI,e,vW l k (Z++l),cC,dm,aN]
theorem QH(l:List Nat)(n:Int):Txt.mul (tx l) n=tx (pw n.toNat l).flatten:=by
 unfold Txt.mul
 by_cases h:n<1
 .rw[ax h,show n.toNat=0 by omega];rfl
 .rw[aF h]
  split
  .rename_i hc
   rw[pJ,jo,jo,kU]at hc;rcases hc with rfl|hc
   .simp
   .have:l=[]:=List.length_eq_zero_iff.mp hc;subst this;simp
  .have:=vW l n.toNat []
   rw[f6]at this;show Str.mk _=Str.mk _
   congr 1
theorem LW:nr X (yz .Mult) (λx y H Q=>∃(l:List Nat) (k:Int),x=.str (tx l)/\y=.int k/\-(2^62)<=k/\k<2^62/\l.length*k.toNat<=1000000/\Q (.str (tx (pw k.toNat l).flatten)) H):=by
 intro W s B H x y v u Q I R w h;obtain⟨l,k,rfl,rfl,Z,Y,z,q⟩:=h;obtain⟨t,rfl⟩:=R;obtain⟨D,rfl⟩:=w;refine SB.mul ⟨?_,?_,?_⟩ λt2 V=>⟨.str _,H,I.tok _,⟨t2,?_⟩,q⟩
 .simp;omega
 .intro J O;rw[kU];intro d;have hk1:1<=k:=by omega
  have:k*((2^63-1)/k)<=2^63-1:=Int.mul_ediv_self_le #[0];have U:(2^63-1)<k*(l.length:Int):=by have:=Int.lt_mul_of_ediv_lt (a:=2^63-1) (b:=(l.length:Int)) (c:=k) #[0] d;rw[t0];exact this
  have h5:k*(l.length:Int)=((l.length*k.toNat:Nat):Int):=by rw[iE,lA #[0],t0]
  rw[h5]at U;omega
 .intro J O;rw[kU];unfold Builtin.Str.tooLong;rw[aQ];have:(1000000:Nat)<=sizeLine:=by decide
  omega
 .rw[QH]
def hV:W->W->List al->R W
 |.int i,.int j,st=>if FB i j then .ok (.int (i*j)) st else .bad
 |.str l,.int k,st=>if -(2^62)<=k/\k<2^62/\l.length*k.toNat<=lw then .ok (.str (pw k.toNat l).flatten) st else .bad
 |_,_,_=>.bad
theorem uc:sF X (yz .Mult) hV:=⟨λW s B H x y v u Q I J D Z=>by
 obtain⟨t,Y,z,U,S,R,w,q⟩:=Z
 cases z with
 |int i=>
  cases U with
  |int j=>
   have d:Fx X t H Q (UC (.int i) (.int j) Y):=q;exact UE.h W s B H x y v u Q I J D ⟨t,Y,.int i,.int j,S,R,w,d⟩
  |_=>exact q.elim
 |str l=>
  cases U with
  |int k=>
   simp only[hV]at q
   split at q
   .rename_i V
    exact LW W s B H x y v u Q I J D ⟨l,k,R.strE,w.intE,V.1,V.2.1,V.2.2,sI S q⟩
   .exact q.elim
  |_=>exact q.elim
 |_=>cases U<;>exact q.elim,λx y Y=>by
 unfold hV
 repeat' split
 all_goals trivial⟩
end
section
variable{fs:FA}
end
section
variable{w:ms}
theorem vX:∀(l:List Nat) (vs:List gs),vs.length=l.length->(∀(j:Nat) (v:gs),vs[j]?=bi v->∃c u,l[j]?=bi c/\v=.str (tx [c]) u)->StrsAre vs (l.map λc=>tx [c])
 |[],[],_,_=>.nil
 |c::l,v::vs,hl,h=>by
  obtain⟨d,u,e,rfl⟩:=h 0 v rfl
  cases e
  exact .cons _ _ (vX l vs (Nat.succ.inj hl) λj v I=>h (j+1) v I)
 |[],_::_,hl,_=>nomatch hl
 |_::_,[],hl,_=>nomatch hl
theorem AW{t:Tok}(few:l.length<64)(d:A.handled=cg)
  (q:∀(s1:i2) (z:pk) (out:Array gs) (ss:List Str) (e:Nat),(∀b o,s.heap.get? b=bi o->s1.heap.get? b=bi o)->s1.gens=s.gens->s1.drawn=s.drawn->s1.os=s.os->(∀b o,s1.heap.get? b=bi o->z.get? b=bi o)->z.get? s1.heap.objs.size=bi (Y5 "list" out e) ->
   StrsAre out.toList ss->ss.Perm (l.map λc=>tx [c])->sortedS ss=cT->Q (.ref s1.heap.objs.size) { s1 with heap:=z }):i1 #[2] A (call (.builtin "sorted") [.str (tx l) t]) Q E s:=by
 have R:(tx l).cps.size=l.length:=by simp[tx]
 apply i7 kind_sorted tW tX (tY _);show i1 _ _ (checkCount "sorted" 1 1 _ >>= _) _ _ _;refine aa (ae (aa (wpAny_collect_str (by simpa using d) _ _ (λs1 y W eg ed eo V=>?_) (by rw[jz];omega))));have wV:StrsAre y.toList (l.map λc=>tx [c]):=by refine vX l _ (by rw[cB,V.1,R]) λj v I=>?_;obtain⟨c,u,J,e⟩:=V.2 j v (by simpa using I);exact⟨c,u,by simpa[tx]using J,e⟩
 have hvl:y.toList.length<64:=by rw[cB,V.1,R];exact few
 refine aa (nJ ?_ (by rw[jz];omega));have oL:(s1.heap.push (Y5 "list" y.toList.toArray 0)).get? s1.heap.objs.size=bi (Y5 "list" y.toList.toArray 0):=av _ rfl;refine aa (c8 (bj qB ⟨_,oL,rfl⟩ pM (list_sort_treeK strKind_oneLt oL wV.keysOf (λa b r e=>keyKind_strs (by rw[<- e];exact wV)) hvl λD a1 a2=>⟨_,rfl,?_⟩) (qC _)));obtain⟨ss,Z,Y,B⟩:=sorted_out_str wV a1 a2;obtain⟨e,O⟩:=sortedHeap_at (out:=(rn D).map (·.2)) oL;refine ae ⟨_,rfl,q s1 _ _ ss e W eg ed eo (λb o U=>?_) O Z Y B⟩;rw[sortedHeap_old (aJ (aB U)) (by rw[bt];exact c9 (aB U))];exact ai _ U
end
section
def lW(ws:List W)(st:List al):R W:=match ws with
 |[.str l]=>if l.length<64 then .ok (.loc st.length) (st++[.lst ((kb (l.map λc=>[c])).map W.str)])else .bad
 |[.loc n]=>qK [.loc n] st
 |_=>.bad
theorem LX(J:X.calm=cT:=by rfl):qi X (.builtin "sorted") lW:=⟨λW s B H R us Q I Z zq=>by
 obtain⟨D,Y,O,S,r,q⟩:=zq;unfold lW at q
 split at q
 .rename_i l
  split at q
  .rename_i c
   obtain⟨y,rfl,w⟩:=r.one;have:=w.strE;subst this;obtain⟨u,rfl,ru⟩:=lR Z;obtain⟨t,rfl⟩:=ru;refine AW c (I.ok.hd J) λd g1 out ss e kp eg ed eo k1 gL wV U hsr=>?_;have es:d={ s with heap:=d.heap,toks:=d.toks }:=by cases d;cases s;cases eg;cases ed;cases eo;rfl
   generalize d.heap=g0,d.toks=tk at es kp k1 gL ⊢;subst es;have I2:bH X W B H { s with heap:=g0,toks:=tk }:=I.kept2 (d':=s.drawn) λb o e=>kp b o e;have pU:H g0.objs.size=cg:=I2.hok.fresh (am _);have hmap:(ss.map λz=>z.cps.toList).map tx=ss:=by rw[aU];have:(tx∘λz:Str=>z.cps.toList)=id:=funext λz=>DA z;rw[this,nj]
   have hperm:(ss.map λz=>z.cps.toList).Perm (l.map λc=>[c]):=by have e:=U.map λz:Str=>z.cps.toList;rw[aU]at e;exact e
   have ez:(ss.map λz=>z.cps.toList)=kb (l.map λc=>[c]):=y0 (vT (by rw[hmap];exact hsr)) (vS _) (hperm.trans (ik _).symm);have hvals:cR ((kb (l.map λc=>[c])).map λl=>V.str (tx l)) out.toList:=by have e:=oH wV;rw[<- hmap,ez,aU]at e;exact e
   refine⟨.ref g0.objs.size,_,I2.laid (o:=.lst ((kb (l.map λc=>[c])).map λl=>V.str (tx l))) (t':=tk) k1 (am _) ⟨?_,out.toList,e,hvals,gL⟩,rfl,?_⟩
   .rw[ag,(ik _).length_eq,ag];exact aT (cx c) #[1]
   .exact q (D++[g0.objs.size]) _ _ (aq _ _) (gg.same (ca pU _)) (S.newLst pU (AT _)) (ny S)
  .exact q.elim
 .exact AU.h W s B H _ us Q I Z ⟨D,Y,_,S,r,q⟩
 .exact q.elim,λO Y=>by
 unfold lW
 split
 .split<;>trivial
 .exact(AU (X:=X)).n _ _
 .trivial⟩
end
section
variable{a b c:i9}{fs:FA}
end
theorem LY{pos:Pos}{nm:List Str}{t:TI}{g:TG}{U:TT}(R:X.calm=cT)
  (V:scope.kind=.function) (w:Cq X.env.scope.names scope.names nm cap X.N=cT)
  (D:QI X tg d9 t) (d:∀cl C Y H0 fp,QG (dz X nm scope cl C Y H0 fp) tg g) (Z:∀cl C Y H0 fp,Xj (dz X nm scope cl C Y H0 fp) qx U)
  (J:∀cl C Y H0 fp,QE (dz X nm scope cl C Y H0 fp) tM te) (O:∀x,ZB d9 X.env x=pure x:=by intro _;rfl) :
  QE X (.ListComp tM [⟨tg,d9,qx,0⟩] scope pos) (xR cap t g U te):=by refine⟨λW s B H Q I h=>?_⟩;have F:=Uj (nm:=nm) (cap:=cap) (λx z=>I.ok.has x (.inl z)) w;exact Dx R F.clos F.cl V F.nms F.cell F.has F.cp F.len D.h (λC Y H0 fp=>(d _ C Y H0 fp).h) (λC Y H0 fp=>(Z _ C Y H0 fp).h) (λC Y H0 fp=>(J _ C Y H0 fp).h) O W s B H Q I h
section
variable{nm:List Str}{fi:FI}{f:FG}{t:FT}{el:FE}
theorem LZ(w:Cq X.env.scope.names scope.names nm cap X.N=cT)(D:SI X tg d9 fi)(d:∀cl C Y H0 fp,SG (dz X nm scope cl C Y H0 fp) tg f)(Z:∀cl C Y H0 fp,Te (dz X nm scope cl C Y H0 fp) qx t)
  (J:∀cl C Y H0 fp,SE (dz X nm scope cl C Y H0 fp) tM el) (R:X.calm=cT:=by rfl) (V:scope.kind=.function:=by rfl) (O:∀x,ZB d9 X.env x=pure x:=by intro _;rfl) :
  SE X (.ListComp tM [⟨tg,d9,qx,0⟩] scope pos) (fS cap fi f t el):=
 ⟨(LY R V w ⟨D.h⟩ (λcl C Y H0 fp=>Yb (X:=X) rfl rfl (d cl C Y H0 fp)) (λcl C Y H0 fp=>Ya (X:=X) rfl rfl (Z cl C Y H0 fp)) (λcl C Y H0 fp=>X_ (X:=X) rfl rfl (J cl C Y H0 fp)) O).h.imp λ_ _ _ h=>HJ h⟩
end
theorem bH.turnedL{s:i2}{t':Nat}{ch:List i0}(I:bH X aj σ H s)(k:∀b o,b∉ch->s.heap.get? b=bi o->h'.get? b=bi o)
  (f:∀b∈ch,xk X aj H b):bH X aj σ H { s with heap:=h',toks:=t' }:=by
 have d:∀b u,H b=bi u->b∉ch:=λb u q z=>by rw[(f b z).1]at q;cases q
 refine I.step (g':=s.gens) (d':=s.drawn) (ch:=ch) (λb U=>?_) (λb o _ _ J q _=>k b o J q) (λb o _ _ J q _=>⟨o.slots,k b o J q⟩) (λ_ _ _ _ n=>n)
  (λb o J q=>⟨o,k b o J q⟩) (λ_ _ q=>q) (λ_ _ _ q=>q) (λb Z q=>⟨#[],by rw[q];simp⟩) (λm R=>?_) (λb u q=>?_) I.bare
 .exact⟨(f b U).2.2.2.1,(f b U).2.1,(f b U).2.2.2.2.1,(f b U).2.2.2.2.2⟩
 .obtain⟨o,w,W,V,r⟩:=R;exact⟨o,w,W,k _ o (λz=>(f _ z).2.1 rfl) V,r⟩
 .refine(I.hok b u q).stay (λc v J z=>?_) (λ_ z=>z) λ_ _ z=>z;rcases J with y|y
  .rw[y]at z ⊢;exact k b v (d b u q) z
  .exact k c v (d c _ y) z
section
variable{w:ms}
variable{z P O i j:i0}{xs:Array gs}{x y:gs}
theorem L0(D:ZipApart z P O i j a b)(qz:YX s.heap z P O .none)(qP:Y4 s.heap P (.ref i) (.ref j))(qO:Y4 s.heap O u v)
  (I:s.heap.IsTupleIter i a n) (t:s.heap.IsTupleIter j b m) (ta:s.heap.IsTuple a xs) (tb:s.heap.IsTuple b ys) (R:xs[n]?=bi x) (Z:ys[m]?=bi y)
  (hQ:∀g,YX g z P O (yx s.heap.objs.size)->Y4 g O x y->g.IsTupleIter i a (n+1)->g.IsTupleIter j b (m+1)->Y4 g s.heap.objs.size x y ->
   (∀c o,c≠z->c≠O->c≠i->c≠j->s.heap.get? c=bi o->g.get? c=bi o)->Q (.ref s.heap.objs.size) { s with heap:=g }) :
  i1 #[2] A (Builtin.«zip.__next__» ⟨[.ref z],[]⟩) (λjM d=>∃v,jM=.done (.ret v)/\Q v d) E s:=by
 show i1 _ _ (field (.ref z) 2 >>= _) _ _ _;refine aa (cf qz rfl (x:=.bool dw) rfl ?_);show i1 _ _ (field (.ref z) 3 >>= _) _ _ _;refine aa (cf qz rfl (x:=.ref P) rfl (aa (bP qP rfl ?_)));show i1 _ _ (ZV (.ref z) >>= _) _ _ _;refine aa ?_;unfold ZV;refine aa (cf qz rfl (x:=.none) rfl (ae ?_));simp only[gu];refine aa (fC (aa (cf qz rfl (x:=.ref O) rfl ?_)));refine aa (bA qz #[5] λW z1 V=>?_)
 replace z1:YX W z P O .ellipsis:=z1
 refine aa ?_;simp only[i3,lh,eY,jY];refine aa (aa (fO ?_));show i1 _ _ (Zi (.ref i) >>= _) _ _ _;refine aa (iF (I.extBut V.extBut D.i1z) (ta.extBut V.extBut D.l1z) R λJ k2 Y=>ae ?_);have O2:Y4 J O u v:=Y.extBut _ _ D.TOi1 (V.extBut _ _ D.TOz qO);refine aa (bP O2 rfl (aa (kR O2 λg3 O3 U=>?_)))
 replace O3:Y4 g3 O x v:=O3
 refine aa (iU (ae (aa (aa (fO ?_)))));show i1 _ _ (Zi (.ref j) >>= _) _ _ _;refine aa (iF (((t.extBut V.extBut D.i2z).extBut Y.extBut D.i12.symm).extBut U.extBut D.TOi2.symm)
  (((tb.extBut V.extBut D.l2z).extBut Y.extBut D.l2i1).extBut U.extBut D.l2TO) Z λg4 k4 s4=>ae ?_)
 have O4:Y4 g4 O x v:=s4.extBut _ _ D.TOi2 O3;refine aa (bP O4 rfl (aa (kR O4 λg5 O5 s5=>?_)))
 replace O5:Y4 g5 O x y:=O5
 refine aa (iU (ae (ae (aa (bP O5 rfl (aa (mq ?_)))))));have sz:g5.objs.size=s.heap.objs.size:=by rw[s5.1,s4.1,U.1,Y.1,V.1]
 have z5:YX g5 z P O .ellipsis:=s5.extBut _ _ D.TOz.symm (s4.extBut _ _ D.i2z.symm (U.extBut _ _ D.TOz.symm (Y.extBut _ _ D.i1z.symm z1)));have kp:∀c o,c≠z->c≠O->c≠i->c≠j->s.heap.get? c=bi o->g5.get? c=bi o:=λc o B c2 c3 c4 e=>
  s5.extBut _ _ c2 (s4.extBut _ _ c4 (U.extBut _ _ c2 (Y.extBut _ _ c3 (V.extBut _ _ B e))))
 have k5:g5.IsTupleIter i a (n+1):=((k2.extBut U.extBut D.TOi1.symm).extBut s4.extBut D.i12).extBut s5.extBut D.TOi1.symm;have l5:g5.IsTupleIter j b (m+1):=k4.extBut s5.extBut D.TOi2.symm;have zlt:z<g5.objs.size:=aB z5;show i1 _ _ (aah (.ref z) (.ref g5.objs.size) >>= _) _ _ _;refine aa ?_;unfold aah;have z6:YX (g5.push { cls:=.type "tuple",data:=.seq #[x,y] }) z P O .ellipsis:=ai _ z5;refine aa (bA z6 #[5] λg7 z7 s7=>?_)
 replace z7:YX g7 z P O (yx g5.objs.size):=z7
 refine bA z7 #[5] λg8 z8 s8=>?_
 replace z8:YX g8 z P O (yx g5.objs.size):=z8
 have up:∀c o,c≠z->g5.get? c=bi o->g8.get? c=bi o:=λc o B e=>s8.extBut _ _ B (s7.extBut _ _ B (ai _ e));have T8:Y4 g8 g5.objs.size x y:=s8.extBut _ _ (eM zlt) (s7.extBut _ _ (eM zlt) (av _ rfl));rw[sz]at z8 T8;refine ae ⟨_,rfl,?_⟩;show Q (.ref g5.objs.size) _;rw[sz];exact hQ g8 z8 (up _ _ D.TOz O5) (k5.at λo e=>up _ o D.i1z e) (l5.at λo e=>up _ o D.i2z e) T8 λc o B c2 c3 c4 e=>up c o B (kp c o B c2 c3 c4 e)
theorem QJ{Q:Fin->i2->Prop}(hh:A.handled=cg)(D:ZipApart z P O i j a b)(qz:YX s.heap z P O .none)(qP:Y4 s.heap P (.ref i) (.ref j))(qO:Y4 s.heap O u v)
  (I:s.heap.IsTupleIter i a n) (B:s.heap.IsTupleIter j b m) (ta:s.heap.IsTuple a xs) (tb:s.heap.IsTuple b ys) (J:xs[n]?=cg\/ys[m]?=cg)
  (hE:∀g e,(∀c o,c≠z->c≠O->c≠i->c≠j->s.heap.get? c=bi o->g.get? c=bi o)->(∃o,g.get? e=bi o/\o.cls=.type "StopIteration")->E (.ref e) { s with heap:=g }) :
  i1 #[2] A (Builtin.«zip.__next__» ⟨[.ref z],[]⟩) Q E s:=by
 show i1 _ _ (field (.ref z) 2 >>= _) _ _ _;refine aa (cf qz rfl (x:=.bool dw) rfl ?_);show i1 _ _ (field (.ref z) 3 >>= _) _ _ _;refine aa (cf qz rfl (x:=.ref P) rfl (aa (bP qP rfl ?_)));show i1 _ _ (ZV (.ref z) >>= _) _ _ _;refine aa ?_;unfold ZV;refine aa (cf qz rfl (x:=.none) rfl (ae ?_));simp only[gu];refine aa (fC (aa (cf qz rfl (x:=.ref O) rfl ?_)));refine aa (bA qz #[5] λW z1 V=>?_)
 replace z1:YX W z P O .ellipsis:=z1
 refine aa ?_;simp only[i3,lh,eY,jY];refine aa (aa (fO ?_));show i1 _ _ (Zi (.ref i) >>= _) _ _ _
 cases R:xs[n]? with
 |none=>
  refine aa (lD hh (I.extBut V.extBut D.i1z) (ta.extBut V.extBut D.l1z) R λd e t ye=>?_);obtain⟨oe,Z,Y⟩:=ye;have z2:YX d z P O .ellipsis:=t _ _ D.i1z.symm z1;have nez:e≠z:=λq=>by subst q;rw[z2]at Z;cases Z;simp at Y
  exact bA z2 #[5] λg3 _ s3=>hE g3 e (λc o c1 _ c3 _ q=>s3.extBut _ _ c1 (t _ _ c3 (V.extBut _ _ c1 q))) ⟨oe,s3.extBut _ _ nez Z,Y⟩
 |some x=>
  have U:ys[m]?=cg:=by rcases J with h|h;rw[R]at h;cases h;exact h
  refine aa (iF (I.extBut V.extBut D.i1z) (ta.extBut V.extBut D.l1z) R λd k2 t=>ae ?_);have O2:Y4 d O u v:=t.extBut _ _ D.TOi1 (V.extBut _ _ D.TOz qO);refine aa (bP O2 rfl (aa (kR O2 λg3 O3 s3=>?_)));refine aa (iU (ae (aa (aa (fO ?_)))));show i1 _ _ (Zi (.ref j) >>= _) _ _ _;refine aa (lD hh (((B.extBut V.extBut D.i2z).extBut t.extBut D.i12.symm).extBut s3.extBut D.TOi2.symm)
   (((tb.extBut V.extBut D.l2z).extBut t.extBut D.l2i1).extBut s3.extBut D.l2TO) U λg4 e s4 ye=>?_)
  obtain⟨oe,Z,Y⟩:=ye;have z4:YX g4 z P O .ellipsis:=s4 _ _ D.i2z.symm (s3.extBut _ _ D.TOz.symm (t.extBut _ _ D.i1z.symm z1));have nez:e≠z:=λq=>by subst q;rw[z4]at Z;cases Z;simp at Y
  exact bA z4 #[5] λg5 _ s5=>hE g5 e (λc o c1 c2 c3 c4 q=>s5.extBut _ _ c1 (s4 _ _ c4 (s3.extBut _ _ c2 (t.extBut _ _ c3 (V.extBut _ _ c1 q))))) ⟨oe,s5.extBut _ _ nez Z,Y⟩
theorem L3{Q:Option gs->i2->Prop}(D:ZipApart z P O i j a b)(d:YX s.heap z P O .none)(J:Y4 s.heap P (.ref i) (.ref j))(B:Y4 s.heap O u v)
  (I:s.heap.IsTupleIter i a n) (t:s.heap.IsTupleIter j b m) (Y:s.heap.IsTuple a xs) (tb:s.heap.IsTuple b ys) (R:xs[n]?=bi x) (Z:ys[m]?=bi y)
  (W:∀g,YX g z P O (yx s.heap.objs.size)->Y4 g O x y->g.IsTupleIter i a (n+1)->g.IsTupleIter j b (m+1)->Y4 g s.heap.objs.size x y ->
   (∀c o,c≠z->c≠O->c≠i->c≠j->s.heap.get? c=bi o->g.get? c=bi o)->Q (bi (.ref s.heap.objs.size)) { s with heap:=g }) :
  i1 #[2] A (Y2 (.ref z)) Q E s:=by
 have T:s.TypeIs (.ref z) "zip":=⟨_,d,rfl⟩
 unfold Y2;exact aa (fM (bz (name:=Zk "__next__") T f9 (bj f9 T kB
   (L0 D d J B I t Y tb R Z λg U V a3 a4 a5 a6=>ae (W g U V a3 a4 a5 a6)) (jZ _))))
theorem L4{Q:Option gs->i2->Prop}(Y:A.handled=cg)(D:ZipApart z P O i j a b)(U:YX s.heap z P O .none)(qP:Y4 s.heap P (.ref i) (.ref j))(qO:Y4 s.heap O u v)
  (I:s.heap.IsTupleIter i a n) (t:s.heap.IsTupleIter j b m) (d:s.heap.IsTuple a xs) (tb:s.heap.IsTuple b ys) (Z:xs[n]?=cg\/ys[m]?=cg)
  (W:∀g,(∀c o,c≠z->c≠O->c≠i->c≠j->s.heap.get? c=bi o->g.get? c=bi o)->Q cg { s with heap:=g }):i1 #[2] A (Y2 (.ref z)) Q E s:=by
 have T:s.TypeIs (.ref z) "zip":=⟨_,U,rfl⟩
 unfold Y2;refine aa (fM (bz (name:=Zk "__next__") T f9 (bj f9 T kB (QJ Y D U qP qO I t d tb Z λg e B R=>?_) (jZ _))));obtain⟨o,V,J⟩:=R;exact aa (dY (T:="StopIteration") (b:=cT) ⟨o,V,J⟩ jU (ae (W _ B)))
end
open AutoSeq1 (wpAny_loadPart')
abbrev WB(h:pk)(a:i0):pk:=h.push (qH a)
abbrev WC(h:pk)(a b:i0):pk:=(WB h a).push (qH b)
abbrev WD(h:pk)(a b:i0):pk:=(WC h a b).push { cls:=.type "tuple",data:=.seq #[.ref h.objs.size,.ref (WB h a).objs.size] }
abbrev WE(h:pk)(a b:i0):pk:=(WD h a b).push { cls:=.type "tuple",data:=.seq #[.none,.none] }
abbrev Tf(h:pk)(a b:i0):pk:=(WE h a b).push { cls:=.type "zip",data:=.fields #[.none,.bool dw,.bool dw,.ref (WC h a b).objs.size,.ref (WD h a b).objs.size] }
theorem QK     (a b : i0) (xs ys : Array gs) : Meets (Builtin.«zip.__new__» ⟨[.type "zip", .ref a, .ref b], []⟩) (λ_ R s => s.heap.IsTuple a xs /\ s.heap.IsTuple b ys /\
      R (.ok (.ret (.ref (WE  s.heap a b).objs.size))) { s with heap := Tf  s.heap a b }) :=
  .of_wp λW w A R s h => by
    obtain ⟨Z, g, d, V, B⟩ := s;obtain ⟨D, U, h⟩ := h;have y := sub_zip;have hA : Heap.IsTuple (ZQ ⟨Z, g, d, V, B⟩) a xs := D;have hB : Heap.IsTuple (ZQ ⟨Z.push (qH      a), g, d, V, B⟩) b ys := U.at λo e => ai                     _ e
    wp_walk using fw                 hA, fw                 hB
    exact ⟨_, rfl, h⟩
section
variable{w:ms}
theorem L5{xs:Array gs}(D:s.heap.IsTuple a xs)(U:s.heap.IsTuple b ys)
  (q:∀g,YX g (s.heap.objs.size+4) (s.heap.objs.size+2) (s.heap.objs.size+3) .none->Y4 g (s.heap.objs.size+2) (.ref s.heap.objs.size) (.ref (s.heap.objs.size+1)) ->
   Y4 g (s.heap.objs.size+3) .none .none->g.IsTupleIter s.heap.objs.size a 0->g.IsTupleIter (s.heap.objs.size+1) b 0->(∀c o,s.heap.get? c=bi o->g.get? c=bi o)->Q (.ref (s.heap.objs.size+4)) { s with heap:=g }) :
  i1 #[2] A (call (.type "zip") [.ref a,.ref b]) Q E s:=by
 refine callType_new F.called_zip #[1] (F.typeCall_zip_2 _ _) (F.newCall_zip_2 _ _) (λR=>F.args_object_init_3 R _ _) F.entry_zip_new (QK a b xs ys) ⟨D,U,?_⟩;have Z:(WB s.heap a).objs.size=s.heap.objs.size+1:=bt ..;have I:(WC s.heap a b).objs.size=s.heap.objs.size+2:=by rw[bt,Z]
 have B:(WD s.heap a b).objs.size=s.heap.objs.size+3:=by rw[bt,I]
 have t:(WE s.heap a b).objs.size=s.heap.objs.size+4:=by rw[bt,B]
 have p:∀{h:pk} {c:i0} {o u:Obj},h.get? c=bi o->(h.push u).get? c=bi o:=λe=>ai _ e;have W:(Tf s.heap a b).get? (WE s.heap a b).objs.size=bi _:=av _ rfl;have O:(Tf s.heap a b).get? (WD s.heap a b).objs.size=bi _:=p (av _ rfl);have y:(Tf s.heap a b).get? (WC s.heap a b).objs.size=bi _:=p (p (av _ rfl));have J:(Tf s.heap a b).get? (WB s.heap a).objs.size=bi _:=p (p (p (av _ rfl)));have z:(Tf s.heap a b).get? s.heap.objs.size=bi _:=p (p (p (p (av _ rfl))));show _/\_;rw[I,B,t]at W;rw[Z,I]at y;rw[B]at O;rw[Z]at J;rw[t];exact⟨⟨_,W,rfl⟩,q _ W y O ⟨_,z,rfl,rfl⟩ ⟨_,J,rfl,rfl⟩ λc o e=>p (p (p (p (p e))))⟩
end
def Yc(K:uR)(a b:i0):It:=
  ⟨λi H=>∃xs ys x y,gg K H a xs/\gg K H b ys/\xs[i]?=bi x/\ys[i]?=bi y,
   λi H v H'=>∃p,H p=cg/\v=.ref p/\∀xs ys x y,gg K H a xs->gg K H b ys->xs[i]?=bi x->ys[i]?=bi y->H'=fF H p (.tup [x,y]),
   λi H=>∃xs ys,gg K H a xs/\gg K H b ys/\(xs.length<=i\/ys.length<=i)⟩
theorem L6{w:ms}{z T O i j:i0}(D:ZipApart z T O i j a b) :
  Ap P w K (.Tuple wY kk pos) (Yc K a b) [z,T,O,i,j] z (λk h=>YX h z T O .none/\Y4 h T (.ref i) (.ref j)/\(∃u v,Y4 h O u v)/\h.IsTupleIter i a k/\h.IsTupleIter j b k) where
 mem:=by simp
 obj:=λk h t c J=>by
  obtain⟨Z,Y,⟨u,v,h3⟩,⟨o4,e4,_,d4⟩,⟨o5,e5,_,d5⟩⟩:=t;have q:c=z\/c=T\/c=O\/c=i\/c=j:=by simpa using J
  rcases q with rfl|rfl|rfl|rfl|rfl
  .exact⟨_,Z,λv q=>by cases q⟩
  .exact⟨_,Y,λv q=>by cases q⟩
  .exact⟨_,h3,λv q=>by cases q⟩
  .exact⟨_,e4,λv q=>by rw[d4]at q;cases q⟩
  .exact⟨_,e5,λv q=>by rw[d5]at q;cases q⟩
 keep:=λk h h' t kp=>by obtain⟨Z,Y,⟨u,v,h3⟩,h4,h5⟩:=t;exact⟨kp z #[5] _ Z,kp T #[5] _ Y,⟨u,v,kp O #[5] _ h3⟩,h4.at λo e=>kp i #[5] o e,h5.at λo e=>kp j #[5] o e⟩
 item:=by
  intro X hP hw hK J k W s B H E I hf t hg;subst hP hw hK;obtain⟨xs,ys,x,y,hq,d,R,hy⟩:=hg;obtain⟨bx,rv,p1,_⟩:=I.tuple hq;obtain⟨jts,oD,p2,_⟩:=I.tuple d;obtain⟨u,hu,ru⟩:=rv.get R;obtain⟨v,hv,rv'⟩:=oD.get hy;obtain⟨Z,Y,⟨c1,c2,h3⟩,h4,h5⟩:=t;refine L3 D Z Y h3 h4 h5 (show s.heap.IsTuple a bx.toArray from p1) (show s.heap.IsTuple b jts.toArray from p2) (x:=u) (y:=v) (by simpa using hu) (by simpa using hv) λg a1 a2 a3 a4 a5 kp=>⟨_,rfl,?_⟩
  refine mM a1 λg2 b1 s2=>?_;have pU:H s.heap.objs.size=cg:=I.hok.fresh (am _);have I1:bH X W B (fF H s.heap.objs.size (.tup [x,y])) { s with heap:=s.heap.push { cls:=.type "tuple",data:=.seq #[u,v] },toks:=s.toks }:=I.laid (λc o q=>ai _ q) (am _)
   ⟨by show 2<=sizeLine;decide,[u,v],.cons ru (.cons rv' .nil),⟨_,av _ rfl,rfl,_,rfl⟩⟩
  have lt:∀{c o},s.heap.get? c=bi o->c≠s.heap.objs.size:=λe=>aJ (aB e);have nf:∀c∈[z,T,O,i,j],c≠s.heap.objs.size:=λc U=>by
   have q:c=z\/c=T\/c=O\/c=i\/c=j:=by simpa using U
   rcases q with rfl|rfl|rfl|rfl|rfl
   .exact lt Z
   .exact lt Y
   .exact lt h3
   .obtain⟨_,e,_⟩:=h4;exact lt e
   .obtain⟨_,e,_⟩:=h5;exact lt e
  have fp:∀c∈[z,T,O,i,j],xk X W (fF H s.heap.objs.size (.tup [x,y])) c:=λc U=>by obtain⟨f0,f⟩:=hf c U;exact⟨by rw[cA (nf c U)];exact f0,f⟩
  have I2:bH X W B (fF H s.heap.objs.size (.tup [x,y])) { s with heap:=g2,toks:=s.toks }:=bH.turnedL (s:={ s with heap:=s.heap.push { cls:=.type "tuple",data:=.seq #[u,v] },toks:=s.toks }) (ch:=[z,O,i,j]) (t':=s.toks) I1 (λc o U q=>?_) λc U=>fp c (by
   have q:c=z\/c=O\/c=i\/c=j:=by simpa using U
   rcases q with rfl|rfl|rfl|rfl<;>simp)
  .refine⟨.ref s.heap.objs.size,_,I2,rfl,⟨_,pU,rfl,λxs' To x' y' V e2 e3 e4=>?_⟩,⟨b1,s2.extBut _ _ D.TIz (kp _ _ D.TIz D.TITO D.TIi1 D.TIi2 Y),⟨_,_,s2.extBut _ _ D.TOz a2⟩,a3.extBut s2.extBut D.i1z,a4.extBut s2.extBut D.i2z⟩,λc U=>(fp c U).1⟩;have q1:=I.tuple_inj V hq;have q2:=I.tuple_inj e2 d;subst q1 q2;rw[R]at e3;rw[hy]at e4;cases e3;cases e4;rfl
  .have q':(s.heap.push { cls:=.type "tuple",data:=.seq #[u,v] }).get? c=bi o:=q;have hn:c≠z/\c≠O/\c≠i/\c≠j:=by simpa using U
   refine s2.extBut c o hn.1 ?_
   by_cases hb':c=s.heap.objs.size
   .subst hb';have V:=av s.heap (o:={ cls:=.type "tuple",data:=.seq #[u,v] }) rfl;rw[V]at q';cases q'
    exact a5
   .rw[j0 _ _ _ hb']at q';exact kp c o hn.1 hn.2.1 hn.2.2.1 hn.2.2.2 q'
 done:=by
  intro X hP hw hK J k W s B H E I hf t hg;subst hP hw hK;obtain⟨xs,ys,hq,d,he⟩:=hg;obtain⟨bx,rv,p1,_⟩:=I.tuple hq;obtain⟨jts,oD,p2,_⟩:=I.tuple d;obtain⟨Z,Y,⟨c1,c2,h3⟩,h4,h5⟩:=t;have l1:=rv.length;have l2:=oD.length;refine L4 (I.ok.hd J) D Z Y h3 h4 h5 (show s.heap.IsTuple a bx.toArray from p1) (show s.heap.IsTuple b jts.toArray from p2) (by
   rcases he with q|q
   .exact .inl (by simp;omega)
   .exact .inr (by simp;omega)) λg kp=>⟨rfl,?_⟩
  exact I.turnedL (ch:=[z,O,i,j]) (t':=s.toks) (λc o U q=>by
   have hn:c≠z/\c≠O/\c≠i/\c≠j:=by simpa using U
   exact kp c o hn.1 hn.2.1 hn.2.2.1 hn.2.2.2 q) λc U=>hf c (by
   have q:c=z\/c=O\/c=i\/c=j:=by simpa using U
   rcases q with rfl|rfl|rfl|rfl<;>simp)
 self:=λA k s Q E t h=>kC t.1 h
def Xs(K:uR)(Y:TA):TI:=λσ H R=>Y σ H λvs H1=>∃a b,vs=[.ref a,.ref b]/\(∃xs,gg K H1 a xs)/\(∃ys,gg K H1 b ys)/\R (Yc K a b) H1
theorem L7{a b:i9}{ta:TA}{p pos tp:Pos}{wY:List i9}{kk:Nat}(y:X.mg "zip"=cg)(D:QA X [a,b] ta)(hg:Gl X "zip":=by rfl)(O:ow [a,b] X.env=(dw,eval a X.env)::ow [b] X.env:=by rfl)
  (nZ:(YR pos (ow [b] X.env)).any (·.1)=dw:=by rfl):QI X (.Tuple wY kk tp) (.Call (.Name "zip" p) [a,b] [] pos) (Xs X.K ta):=⟨by
 intro W s B H R I h;refine Call_ (qe I hg y boot_zip (d7 (ii (D.h pos W s B H _ I h) λus V zz=>?_) O nZ));obtain⟨Y,H1,I1,r1,w⟩:=zz;obtain⟨t,t',e,⟨xs,hq⟩,⟨ys,d⟩,q⟩:=w;subst e
 cases r1 with
 |cons x1 r1=>cases r1 with
  |cons x2 r1=>
   cases r1
   cases x1
   cases x2
   obtain⟨bx,rv,p1,_⟩:=I1.tuple hq;obtain⟨jts,oD,p2,_⟩:=I1.tuple d;have lt1:t<V.heap.objs.size:=by obtain⟨_,e,_⟩:=(show V.heap.IsTuple t bx.toArray from p1);exact aB e
   have lt2:t'<V.heap.objs.size:=by obtain⟨_,e,_⟩:=(show V.heap.IsTuple t' jts.toArray from p2);exact aB e
   refine L5 (show V.heap.IsTuple t bx.toArray from p1) (show V.heap.IsTuple t' jts.toArray from p2) λg Z e2 e3 e4 e5 kp=>?_;refine kC Z ?_;refine⟨V.heap.objs.size+4,[V.heap.objs.size+4,V.heap.objs.size+2,V.heap.objs.size+3,V.heap.objs.size,V.heap.objs.size+1],_,_,H1,rfl,I1.kept (t':=V.toks) kp,L6 (zipApart_new lt1 lt2),⟨Z,e2,⟨_,_,e3⟩,e4,e5⟩,λc U=>?_,q⟩;have J:V.heap.objs.size<=c:=by
    have z:c=V.heap.objs.size+4\/c=V.heap.objs.size+2\/c=V.heap.objs.size+3\/c=V.heap.objs.size\/c=V.heap.objs.size+1:=by simpa using U
    rcases z with rfl|rfl|rfl|rfl|rfl<;>simp
   exact I1.fpOk J (I1.hok.fresh J)⟩
noncomputable def nS:List W->List W->List W
 |x::xs,y::ys=>.tup [x,y]::nS xs ys
 |_,_=>[]
theorem ql:∀{xs ys:List W} {i:Nat} {w:W},(nS xs ys)[i]?=bi w->∃x y,xs[i]?=bi x/\ys[i]?=bi y/\w=.tup [x,y]
 |x::xs,y::ys,0,w,h=>by simp[nS]at h;exact⟨x,y,rfl,rfl,h.symm⟩
 |x::xs,y::ys,i+1,w,h=>by simp[nS]at h;simpa using ql h
 |[],_,i,w,h=>by simp[nS]at h
 |_::_,[],i,w,h=>by simp[nS]at h
theorem sO:∀(xs ys:List W),(nS xs ys).length=min xs.length ys.length
 |x::xs,y::ys=>by simp[nS,sO xs ys]
 |[],_=>by simp[nS]
 |_::_,[]=>by simp[nS]
section
variable{a b:i9}{fs:FA}
def rZ(fs:FA):FI:=λV st=>(fs V st).bind λws st=>match ws with
 |[.tup xs,.tup ys]=>.ok (nS xs ys,cg) st
 |_=>.bad
theorem L8{wY:List i9}{kk:Nat}{tp:Pos}(W:X.mg "zip"=cg)(D:SA X [a,b] fs)(hg:Gl X "zip":=by rfl)(J:ow [a,b] X.env=(dw,eval a X.env)::ow [b] X.env:=by rfl)(mH:(YR pos (ow [b] X.env)).any (·.1)=dw:=by rfl) :
  SI X (.Tuple wY kk tp) (.Call (.Name "zip" p) [a,b] [] pos) (rZ fs):=⟨(L7 W ⟨D.h⟩ hg J mH).h.imp λB H R h=>by
 obtain⟨μ,V,Y,l,h⟩:=h;refine⟨μ,V,Y,l,RK.bind h l λd st1 x v H1 p1 x1 l1 q1 Z=>?_⟩
 split at Z
 .rename_i zs ws
  obtain⟨y,ys,rfl,ry,r1⟩:=q1.consE;obtain⟨w,rfl,oD⟩:=r1.one;obtain⟨t,U,rfl,hS,r⟩:=ry.tupE;obtain⟨t',xI,rfl,hS',r'⟩:=oD.tupE;refine⟨t,t',rfl,⟨U,hS⟩,⟨xI,hS'⟩,Z d _ H1 (ah _) dH.refl l1.sto λi μ' bF H' pp xx S _=>⟨λw hw=>?_,λI=>⟨U,xI,xx _ _ hS,xx _ _ hS',by rw[sO]at I;rw[<- r.len,<- r'.len];omega⟩⟩⟩;obtain⟨x,y,O,hy,rfl⟩:=ql hw;have m1:=r.mono pp xx;have m2:=r'.mono pp xx;obtain⟨v1,g1,g2⟩:=m1.get O;obtain⟨v2,g3,g4⟩:=m2.get hy;refine⟨⟨U,xI,v1,v2,xx _ _ hS,xx _ _ hS',g1,g3⟩,λz H'' hz=>?_⟩;obtain⟨q,hq,rfl,hH⟩:=hz;have e:=hH U xI v1 v2 (xx _ _ hS) (xx _ _ hS') g1 g3;subst e;have ex:=gg.same (K:=X.K) (ca hq (.tup [v1,v2]));exact⟨ex,S.same (ca hq _),.tupI gg.new (.consI (g2.mono (ah _) ex) (.consI (g4.mono (ah _) ex) .nilI))⟩
 .exact Z.elim⟩
end
open Builtin.Str (tooLong)
section
variable{w:ms}
end
section
end
section
noncomputable def kc:List W->Option (List Int)
 |[]=>bi []
 |.int z::ws=>(kc ws).map (z :: ·)
 |_=>cg
theorem AX:∀{ws:List W} {l:List Int} {vs:List V},kc ws=bi l->RelWs K μ H ws vs->vs=l.map V.int
 |[],l,vs,h,r=>by simp only[kc]at h;cases h;exact r.nilE
 |w::ws,l,vs,h,r=>by
  obtain⟨x,d,rfl,R,y⟩:=r.consE;unfold kc at h
  split at h
  .rename_i e;cases e
  .rename_i z SX e
   cases e
   cases e2:kc ws with
   |none=>rw[e2]at h;cases h
   |some I=>rw[e2]at h;cases h;rw[R.intE,AX e2 y];rfl
  .cases h
end
section
theorem RelWs.rep{a:List W}(r:RelWs K μ H a vs):∀k:Nat,RelWs K μ H (pw k a).flatten (pw k vs).flatten
 |0=>.nilI
 |k+1=>by rw[cC,cC,dm,dm];exact r.app (RelWs.rep r k)
def AY:W->W->List al->R W
 |.int i,.int j,st=>hV (.int i) (.int j) st
 |.str l,.int k,st=>hV (.str l) (.int k) st
 |.loc n,.int k,st=>(match st[n]? with
  |some (.lst ws)=>if -(2^63)<=k/\k<2^63/\ws.length*k.toNat<=lw then nP (pw k.toNat ws).flatten st else .bad
  |_=>.bad)
 |_,_,_=>.bad
theorem HM:sF X (yz .Mult) AY:=⟨λW s B H x y v u Q I J D Z=>by
 obtain⟨t,Y,wx,wy,S,R,w,q⟩:=Z
 cases wx with
 |int i=>
  cases wy with
  |int j=>exact uc.h W s B H x y v u Q I J D ⟨t,Y,.int i,.int j,S,R,w,q⟩
  |_=>exact q.elim
 |str l=>
  cases wy with
  |int k=>exact uc.h W s B H x y v u Q I J D ⟨t,Y,.str l,.int k,S,R,w,q⟩
  |_=>exact q.elim
 |loc n=>
  cases wy with
  |int k=>
   simp only[AY]at q
   cases d:Y[n]? with
   |none=>rw[d]at q;exact q.elim
   |some c1=>
    cases c1 with
    |lst a=>
     rw[d]at q;dsimp only at q
     split at q
     .rename_i cc
      obtain⟨a1,O,vs1,k1,z⟩:=S.get d;obtain⟨b1,f1,rfl⟩:=R.locE;rw[O]at f1;cases f1
      obtain⟨V,qq⟩:=sH (σ:=B) S (z.rep k.toNat) (Ht q);exact Qa W s B H _ _ v u Q I J D ⟨a1,k,vs1,rfl,w.intE,k1,cc.1,cc.2.1,by rw[<- z.len];exact jk cc.2.2,λp U=>qq p _ U rfl⟩
     .exact q.elim
    |_=>rw[d]at q;exact q.elim
  |_=>exact q.elim
 |_=>cases wy<;>exact q.elim,λx y Y=>by
 unfold AY
 split
 .exact(uc (X:=X)).n _ _ _
 .exact(uc (X:=X)).n _ _ _
 .split
  .split
   .exact DF _ _
   .trivial
  .trivial
 .trivial⟩
end
noncomputable abbrev UU:=List W×List (Nat×List W)
abbrev Yd:=cE->List al->R UU
section
variable{nm:List Str}{fi:Yd}{f:FG}{t:FT}{el:FE}
end
section
variable{a b:i9}{fs:FA}
end
section
end
section
variable{nm:List Str}{wi:TI}{g:TG}{te:Cx->TE}
end
section
variable{nm:List Str}{fi:FI}{f:FG}{el:FE}
end
noncomputable def keyOf:W->Option DK
 |.int z=>bi (.i z)
 |.str l=>bi (.s l)
 |_=>cg
theorem L9{w:W}{k:DK}{v:V}(h:keyOf w=bi k)(r:bh K μ H w v):v=kV k.key:=by
 cases w with
 |int z=>cases h;exact r.intE
 |str l=>cases h;exact r.strE
 |_=>cases h
abbrev dV(kvs:List (DK×W))(vs:List V):List (sv×V):=(kvs.map λp=>p.1.key).zip vs
section
theorem gg.butD{l:i0}{xs:List (sv×V)}(e:Uc l H H')(I:H l=bi (.dK xs)):dH K H H':=by
 have Y:∀{p:i0} {o:HO},H p=bi o->(∀D,o≠.dK D)->p≠l:=λ{p o} q hn z=>by subst z;rw[I]at q;cases q;exact hn _ rfl
 refine⟨λp U h=>?_,λb o u h=>e _ _ (Y h (λ_ z=>by cases z)) h⟩;rcases h with(h|⟨o,h⟩)|h
 .exact .inl (.inl (e _ _ (Y h (λ_ z=>by cases z)) h))
 .exact .inl (.inr ⟨o,e _ _ (Y h (λ_ z=>by cases z)) h⟩)
 .exact .inr h
end
section
variable{a b c d o i:i9}{fa fb fc fe fo fi:FE}{fs:FA}
def DU:FE:=λ_ st=>.ok (.loc st.length) (st++[.dct []])
theorem HN:SE X (.Dict [] [] pos) DU:=⟨G7.imp λB H Q h=>by obtain⟨t,V,Y,l,h⟩:=h;intro p U;have O:oG H (fF H p (.dK [])):=ca U _;exact h (t++[p]) (.ref p) _ (aq _ _) (gg.same O) (l.sto.push (c:=.dct []) U ⟨[],dr,.nilI⟩) (ny l.sto)⟩
end
def sP(h:pk)(mg:Str->Option gs):Prop:=∃Y o,mg "__builtins__"=bi (.ref Y)/\Y≠Z8/\h.get? Y=bi o/\o.cls=.type "module"/\o.dict=bi Z8/\o.data=.plain
structure NA(ts:List i0)(H:Hp):Prop where
 all:∀b,H b=cg\/(∃o xs,H b=bi (.frz o (.lst xs)))\/(b∈ts/\H b=bi (.tbl #[]))
 tab:∀T∈ts,H T=bi (.tbl #[])
theorem FM{P:YW}{w:ms}{mb:Str->Option gs}{CX:Fb}{fa:i0}{fd:Zl}{sp:Sp}{y:i2}{vs:List gs}{ts:List i0}
  (KX:K.In y.heap) (S8:y.heap.Ns wU mg) (U:y.heap.Ns Z8 mb) (YB:∀x:Str,x ≠ "__name__"->mb x=ZI x) (SQ:y.heap.NoLimit) (hg:y.gens=#[])
  (O:y.heap.get? a=bi { cls:=.type "list",data:=.seq vs.toArray }) (D:ZM vs ns) (I:ns.length<=sizeLine) (R:ic k callerA)
  (t:∀T∈ts,y.heap.get? T=bi { cls:=.none,data:=.fields #[] }) (XT:∀T∈ts,K.lookup T=cg) (Ws:∀T∈ts,isCodeTable y.heap T)
  (YC:sP y.heap mg) (F:∀base:pk,K.In base->base.Ns wU mg->sP base mg->fQ P w K mg base CX k fa fd [x] sp) (KB:∀(s:i2) (u:gs),BindsTo s fd ⟨[u],[]⟩ [(x,u)])
  (GF:∀H:Hp,NA ts H->sw K H a (ns.map V.int)->sp [.ref a] H (λv _=>v=.bl cT) λ_ _ _=>False)
  (YF:∀H e W,CX [] H y (λ_ _ _=>False) e W->False) :
  ZC (model P w) callerA (.call (.ref fa) ⟨[.ref a],[]⟩) (λr W=>r=.ok (.ret (.bool cT))/\OldK y.heap W.heap/\W.os=y.os/\Zp W.gens) y:=by
 have J:=xQ D;have lenV:=D.length;have Wk:∀T∈ts,T≠a:=λT hT z=>by
  have:=t T hT;rw[z,O]at this;have Y:=cP Obj.cls (bg this)
  cases Y
 have core:∀H:Hp,NA ts H->sw K H a (ns.map V.int)->mI P w H y.heap->(∀b,H b≠cg->b=a\/b∈ts)->(H a≠cg->K.lookup a=cg) ->
   ZC (model P w) callerA (.call (.ref fa) ⟨[.ref a],[]⟩) (λr W=>r=.ok (.ret (.bool cT))/\OldK y.heap W.heap/\W.os=y.os/\Zp W.gens) y:=by
  intro H hO hS hok hA hK;have base_of:∀{b:i0} {o:Obj},y.heap.get? b=bi o->H b=cg->(xj y.heap H).get? b=bi o:=λe n=>GP e n;have noA:∀{b:i0} {o:Obj} {es:Array YV} {ep:Nat},y.heap.get? b=bi o->o.data=.dict es ep->H b=cg:=λ{b o es ep} e d=>by
   cases q:H b with
   |none=>rfl
   |some u=>
    rcases hA b (by rw[q];simp)with e'|e'
    .subst e';rw[O]at e;cases e
     have d':Data.seq vs.toArray _=Data.dict es ep:=d
     cases d'
    .rw[t b e']at e;cases e
     have d':Data.fields _=Data.dict es ep:=d
     cases d'
  have nsK:∀{b:i0} {m:Str->Option gs},y.heap.Ns b m->(xj y.heap H).Ns b m:=λ{b m} ⟨o,es,ep,e,d,r⟩=>⟨o,es,ep,base_of e (noA e d),d,r⟩
  have hKb:K.In (xj y.heap H):=λb o e=>base_of (KX b o e) (by
   cases q:H b with
   |none=>rfl
   |some u=>
    rcases hA b (by rw[q];simp)with e'|e'
    .subst e';rw[hK (by rw[q];simp)]at e;cases e
    .rw[XT b e']at e;cases e)
  have hbk':sP (xj y.heap H) mg:=by
   obtain⟨bm,o,b1,b2,b3,b4,b5,b6⟩:=YC;refine⟨bm,o,b1,b2,base_of b3 ?_,b4,b5,b6⟩
   cases q:H bm with
   |none=>rfl
   |some u=>
    rcases hA bm (by rw[q];simp)with e'|e'
    .subst e';rw[O]at b3;cases b3;exact absurd b4 #[5]
    .rw[t bm e']at b3;cases b3;cases b4
  have hM:Mod K mg (xj y.heap H):=⟨hKb,nsK S8,⟨mb,nsK U,YB⟩,let ⟨mc,h1,Y⟩:=SQ;⟨mc,nsK h1,Y⟩⟩
  have e0:yE P w K mg (xj y.heap H) callerA [] y H:=⟨rfl,hM,λb o e=>KY e,pi (E3 _ _),trivial,λb U=>absurd (show b∈([]:List i0)from U) #[5],hok,.of_eq hg⟩
  refine gN ((F _ hKb (nsK S8) hbk').run callerA [] y H ⟨[.ref a],[]⟩ [.ref a] [.ref a] _ _ R e0 (KB y (.ref a)) (.cons rfl .nil) (GF H hO hS)) λr W h=>?_
  cases r with
  |error e=>exact(YF H e W h).elim
  |ok fl=>
   cases fl with
   |next=>exact YY h
   |brk=>exact YY h
   |cont=>exact YY h
   |ret u=>
    obtain⟨v,H',os,bare,un,hok',r',q⟩:=h;have q':v=.bl cT:=q;subst q';obtain rfl:u=ZP cT:=r';have was:∀b o,y.heap.get? b=bi o->asItWas y.heap W.heap b o/\∃o',W.heap.get? b=bi o':=λb o e=>by
     cases q:H b with
     |none=>
      have:=un.keep b o e q (by intro z;exact absurd (show b∈([]:List i0)from z) #[5]) #[5];exact⟨.inl this,_,this⟩
     |some u=>
      rcases hO.all b with z|⟨ob,xs,z⟩|⟨hbt,z⟩
      .rw[q]at z;cases z
      .have z2:=un.frzs b ob _ z;obtain⟨Z,_⟩:=hok b _ z;obtain⟨e2,_⟩:=hok' b _ z2;rw[e]at Z;cases Z
       exact⟨.inl e2,_,e2⟩
      .obtain⟨more,z2⟩:=un.tbls b _ z;have e2:W.heap.get? b=bi { cls:=.none,data:=.fields (#[]++more) }:=hok' b _ z2;rw[t b hbt]at e
       cases e
       exact⟨.inr (.inl ⟨Ws b hbt,rfl,#[],more,rfl,e2⟩),_,e2⟩
    exact⟨rfl,⟨λb o e=>(was b o e).1,λb o e=>(was b o e).2⟩,os,bare⟩
 have tb:∀(f:Hp),(∀T∈ts,f T=bi (.tbl #[]))->∀T∈ts,fG P w f y.heap T (.tbl #[]):=λf _ T hT=>t T hT;have dec:∀b:i0,b∈ts\/b∉ts:=λb=>Classical.em _
 open Classical in
 cases B:K.lookup a with
 |some o=>
  have e:=KX a o B;rw[O]at e
  cases e
  refine core (λb=>if b∈ts then bi (.tbl #[])else cg) ⟨λb=>?_,λT hT=>ax hT⟩ (.inr ⟨_,vs.toArray,_,B,rfl,rfl,rfl,by rw[aS,lenV];exact I,by simpa using J⟩) (λb u z=>?_) (λb z=>?_) (λz=>?_)
  .by_cases U:b∈ts
   .exact .inr (.inr ⟨U,ax U⟩)
   .exact .inl (aF U)
  .by_cases U:b∈ts
   .have z':=(ax U).symm.trans z
    cases z'
    exact t b U
   .have z':=(aF U).symm.trans z
    cases z'
  .by_cases U:b∈ts
   .exact .inr U
   .exact absurd (aF U) z
  .exact absurd (aF (λq=>Wk a q rfl)) z
 |none=>
  refine core (λb=>if b=a then bi (.frz { cls:=.type "list",data:=.seq vs.toArray } (.lst (ns.map V.int)))else if b∈ts then bi (.tbl #[])else cg) ⟨λb=>?_,λT hT=>(aF (Wk T hT)).trans (ax hT)⟩ (.inl (.inr ⟨{ cls:=.type "list",data:=.seq vs.toArray },ax rfl⟩)) (λb u z=>?_) (λb z=>?_) (λ_=>B)
  .by_cases U:b=a
   .exact .inr (.inl ⟨_,_,ax U⟩)
   .by_cases hb2:b∈ts
    .exact .inr (.inr ⟨hb2,(aF U).trans (ax hb2)⟩)
    .exact .inl ((aF U).trans (aF hb2))
  .by_cases U:b=a
   .have z':=(ax U).symm.trans z
    cases z'
    subst U;exact⟨O,by rw[ag];exact I,vs,_,J,O⟩
   .by_cases hb2:b∈ts
    .have z':=((aF U).trans (ax hb2)).symm.trans z
     cases z'
     exact t b hb2
    .have z':=((aF U).trans (aF hb2)).symm.trans z
     cases z'
  .by_cases U:b=a
   .exact .inl U
   .by_cases hb2:b∈ts
    .exact .inr hb2
    .exact absurd ((aF U).trans (aF hb2)) z
def HP(U:List al)(F:List W->List al->R W):Prop:=∀ns:List Int,ns.length<=63->∃bF,F [.loc 0] (.ro (ns.map W.int)::U)=.ok (.bl cT) bF
noncomputable def uW(L:List (i0×Pos×Str)):List al:=L.map λt=>.tab t.1 t.2.1 t.2.2
theorem walkT{l:PySem.W.OpenLaw}{q:YW}{EV:List Str}{XP:(Str->Option gs)->pk->Prop}{d:DefRec}{K:Params->uR}{x:Str}{G:List W->List al->R W}(L:List (i0×Pos×Str))(hL:(L.map λt=>t.1).Nodup)(B:l.most=bi 63)(XW:d.params.defaults=[])(I:ic k callerA)
  (hY:∀(w:ms) (h:pk),YP w h->(K w.params).In h) (hT:∀(w:ms) (h:pk),YP w h->∀T∈L.map (λt=>t.1),h.get? T=bi { cls:=.none,data:=.fields #[] })
  (XT:∀(w:ms),∀T∈L.map (λt=>t.1),(K w.params).lookup T=cg) (Ws:∀(w:ms),∀T∈L.map (λt=>t.1),∃c,Zm (K w.params) c T=cT)
  (F:∀(w:ms) (mg:Str->Option gs) (fa:i0) (h:pk),(K w.params).In h->h.Ns wU mg->mg d.name=bi (.ref fa) ->
   ∃fd:Zl,(∀(s:i2) (u:gs),BindsTo s fd ⟨[u],[]⟩ [(x,u)])/\∀base:pk,(K w.params).In base->base.Ns wU mg->sP base mg->fQ l.prog w (K w.params) mg base (iM l.prog w) k fa fd [x] (mF (K w.params) mg 1 G))
  (ok:HP (uW L) G):PySem.W.WalkO q EV XP YP l.row.toRowW d [] (λf vs=>PySem.call f vs):=by
 refine Att.attach_call B XW λw s₀ s₁ mg mb fa o pm cd jN a vs ns G' Y ho hd mG hmg hobj hints dC hg=>?_;have KX:=hY w _ Y;obtain⟨fd,U,hF⟩:=F w mg fa _ KX G'.T.g hmg;refine FM (ts:=L.map λt=>t.1) (CX:=iM l.prog w) (sp:=mF (K w.params) mg 1 G) KX G'.T.g G'.T.b G'.T.builtins G'.T.nolimit hg hobj hints (aT dC #[1]) I (hT w _ Y) (XT w) (λT hT'=>?_) G'.T.bmain hF U (λH hO hS=>?_) λH e D z=>?_
 .obtain⟨c,J⟩:=Ws w T hT';obtain⟨o,vs,_,_,_,_,_,_,_,Z,e2,e3,e4,_⟩:=PySem.W.codeHd_of_K KX J;exact⟨c,o,vs,Z,e2,e3,e4⟩
 .obtain⟨bF,e⟩:=ok ns dC;have Ag:Wx (K w.params) H a (ns.map V.int):=by
   rcases hS with(z|⟨o,z⟩)|z
   .rcases hO.all a with y|⟨o,xs,y⟩|⟨_,y⟩
    .rw[z]at y;cases y
    .rw[z]at y;cases y
    .rw[z]at y;cases y
   .exact .inl ⟨o,z⟩
   .exact .inr z
  have Wk:∀T∈L.map (λt=>t.1),T≠a:=λT hT' z=>by
   have:=hT w _ Y T hT';rw[z,hobj]at this;have O:=cP Obj.cls (bg this)
   cases O
  have hri:∀μ:List i0,RelWs (K w.params) μ H (ns.map W.int) (ns.map V.int):=λμ=>by
   clear hS Ag e dC hints
   induction ns with
   |nil=>exact .nilI
   |cons n r ih=>exact .consI .int ih
  refine⟨rfl,a::L.map (λt=>t.1),[.loc 0],.ro (ns.map W.int)::uW L,⟨λi j b ci cj c1 c2 r1 r2 m1 m2=>?_,by simp[uW],λi c b c1 c2=>?_⟩,.consI (.locI rfl) .nilI,?_⟩
  .cases i with
   |zero=>cases c1;cases r1
   |succ i=>
    cases j with
    |zero=>cases c2;cases r2
    |succ j=>
     simp only[oo]at m1 m2;rw[(no (ak.mp m1).1 hL).mp (m1.trans m2.symm)]
  .cases i with
   |zero=>cases c1;cases c2;exact⟨_,Ag,hri _⟩
   |succ i=>
    simp only[oo]at c1 c2;unfold uW at c1;rw[ao]at c1 c2
    cases Z:L[i]? with
    |none=>rw[Z]at c1;cases c1
    |some t=>
     rw[Z]at c1 c2
     cases c1;cases c2
     exact⟨rfl,#[],hO.tab _ (aE.mpr ⟨t,az Z,rfl⟩),trivial,.inl rfl⟩
  .rw[e];intro μ' v H' _ _ _ rv;exact rv.blE
 .obtain⟨_,_,_,_,_,_,z,_⟩:=z;exact z
section
end
def UV(K:uR)(fd:Zl)(P:i0):Prop:=∃c,fd.code=.ref c/\Zm K c P=cT/\K.lookup P=cg
theorem y7{a b:Int}{t u:Tok}{c:gs}(l:List gs)(h:Z0 l):Z0 (l++[.int a t,.int b u,c]):=by
 fun_induction Z0 l with
 |case1=>exact trivial
 |case2 _ _ _ _ _ d8 U=>exact U h
 |case3=>exact h.elim
section
abbrev vY(H:Hp)(P W:i0)(q:Str)(ps:Array gs)(pos:Pos):Hp:=fF (fF H W (jC W q)) P (.tbl (ps++#[yx pos.line,yx pos.col,.ref W]))
theorem y8{P W:i0}{ps:Array gs}(Z:b≠P)(I:b≠W):vY H P W q ps pos b=H b:=by show fF (fF H W _) P _ b=_;rw[cA Z,cA I]
theorem HQ{P W:i0}{ps:Array gs}:vY H P W q ps pos P=bi (.tbl (ps++#[yx pos.line,yx pos.col,.ref W])):=dr
theorem vg{P W:i0}{ps:Array gs}(h:P≠W):vY H P W q ps pos W=bi (jC W q):=by show fF (fF H W _) P _ W=_;rw[cA (YU h),dr]
theorem gg.butT{l:i0}{xs:Array gs}(e:Uc l H H')(I:H l=bi (.tbl xs)):dH K H H':=by
 have Y:∀{p:i0} {o:HO},H p=bi o->(∀D,o≠.tbl D)->p≠l:=λ{p o} q hn z=>by subst z;rw[I]at q;cases q;exact hn _ rfl
 refine⟨λp U h=>?_,λb o u h=>e _ _ (Y h (λ_ z=>by cases z)) h⟩;rcases h with(h|⟨o,h⟩)|h
 .exact .inl (.inl (e _ _ (Y h (λ_ z=>by cases z)) h))
 .exact .inl (.inr ⟨o,e _ _ (Y h (λ_ z=>by cases z)) h⟩)
 .exact .inr h
theorem vZ{l:List α}{x:α}(h:l[i]?=bi x):l.set i x=l:=by
 refine jW λj=>?_
 by_cases e:i=j
 .subst e;rw[cn (ak.mp h).1,h]
 .rw[bQ e]
theorem gk.tabbed{P W:i0}{ps:Array gs}(S:gk K mg μ st H)(D:st[i]?=bi (.tab P pos q))(w:H P=bi (.tbl ps))(U:H W=cg)(Z:Z0 ps.toList)(R:ZH pos ps.toList=cg) :
  gk K mg μ st (vY H P W q ps pos)/\dH K H (vY H P W q ps pos):=by
 have B:oG H (fF H W (jC W q)):=ca U _;have Y:P≠W:=λz=>by rw[z,U]at w;cases w
 have t:fF H W (jC W q) P=bi (.tbl ps):=B _ _ w;have O:dH K (fF H W (jC W q)) (vY H P W q ps pos):=gg.butT mQ t;obtain⟨a,y,I,_⟩:=S.get D;subst I;have:=(S.same B).setG (c':=.tab a pos q) D rfl y t (λ_ _ z=>by cases z) (λ_ z=>by cases z) O rfl ⟨rfl,_,dr,?_,.inr ⟨W,?_,?_⟩⟩
 .rw[vZ D]at this;exact⟨this,(gg.same B).trans O⟩
 .rw[Array.toList_append];exact y7 _ Z
 .rw[Array.toList_append];exact codeAmong_snoc _ Z R
 .exact vg Y
end
section
theorem bH.tabbed{t':Nat}{P W:i0}{ps:Array gs}(I:bH X aj σ H s)(hP:H P=bi (.tbl ps))(E0:s.heap.objs.size<=W)(O:∀b o,b≠P->s.heap.get? b=bi o->h'.get? b=bi o)
  (KG:h'.CodeRec (.ref W) q) (So:h'.get? P=bi { cls:=.none,data:=.fields (ps++#[yx pos.line,yx pos.col,.ref W]) }):bH X aj σ (vY H P W q ps pos) { s with heap:=h',toks:=t' }:=by
 have mG:H W=cg:=I.hok.fresh E0;have nY:P≠W:=λz=>by rw[z,mG]at hP;cases hP
 have notP:∀b,H b=cg->b≠P:=λb n z=>by rw[z,hP]at n;cases n
 have w:∀b o,s.heap.get? b=bi o->b≠W:=λb o e=>aJ (aR (aB e) E0);have keepH:∀b u,H b=bi u->b≠P->vY H P W q ps pos b=bi u:=λb u e n=>by rw[y8 n (λz=>by rw[z,mG]at e;cases e)];exact e
 have Hcd:vY H P W q ps pos W=bi (jC W q):=vg nY;refine I.call' (ch:=[]) rfl ⟨λb o e n U hx'=>O b o (notP b n) e,λb o e n U hx'=>⟨o.slots,O b o (notP b n) e⟩,λb o e n hx'=>?_,λb o e hx'=>?_,λb d e=>?_,λb o u e=>?_,λb ps' e=>?_⟩ (λb u e=>?_) I.bare λb U=>absurd U #[5]
 .rw[y8 (notP b n) (w b o e)];exact n
 .by_cases U:b=P
  .subst U;exact⟨_,So⟩
  .exact⟨o,O b o U e⟩
 .exact keepH b _ e λz=>by rw[z,hP]at e;cases e
 .exact keepH b _ e λz=>by rw[z,hP]at e;cases e
 .by_cases U:b=P
  .subst U;rw[hP]at e;cases e
   exact⟨_,HQ⟩
  .exact⟨#[],by rw[keepH b _ e U];simp⟩
 .by_cases U:b=P
  .subst U;rw[HQ]at e;cases e
   exact So
  .by_cases hb2:b=W
   .subst hb2;rw[Hcd]at e;cases e
    obtain⟨J,oc,R,t,e2,hoc,D,y⟩:=KG
    cases e2
    refine⟨⟨oc,R,t,hoc,D,y⟩,⟨oc,hoc⟩,λZ Y p k=>?_⟩;obtain⟨o,R,t,V,r⟩:=p;exact⟨o,R,t,k o V,r⟩
   .rw[y8 U hb2]at e;refine(I.hok b u e).stay (λc v hc B=>O c v (λz=>?_) B) (λc B=>keepH c _ B λz=>by rw[z,hP]at B;cases B) λc d B=>keepH c _ B λz=>by rw[z,hP]at B;cases B
    rcases hc with rfl|hc
    .exact U z
    .rw[z,hP]at hc;cases hc
end
def lX(st:List al)(j:Nat)(P:i0)(pos:Pos)(q:Str):Prop:=st[j]?=bi (.tab P pos q)
section
variable{en dn:Str}{pr:Y7}{p1 p3 p4 ie XX:Pos}{P:i0}
end
noncomputable def AZ(o:Obj):Nat:=match o.data with
 |.dict _ ep=>ep
 |_=>0
section
variable{o f:i9}{fo fk fd fe:FE}
end
section
variable{y:Str}{a b:i9}{fs:FA}
end
inductive DefIn(K:uR)(x:Str)(st:qd):Prop
 |mk {ad:i0} {od an:Option i0} {sl:Array (Option gs)} {oc kV dc pm cd ct:gs} (a:YZ K wU x=bi (bi (.ref ad)))
   (l:K.lookup ad=bi ⟨oc,od,.func (fnOf x x (dZ st) (dq st) (aI st) .none kV dc pm an cd ct),sl⟩) (c:codeIn K cd x=cT) (k:keepIn K (.ref ad)=cT):DefIn K x st
theorem DefIn.fn{st:qd}(d:DefIn K x st)(X:K.In h)(G:h.Ns wU mg):∃f fd,lB K x x st f fd/\mg x=bi (.ref f):=by obtain⟨a,l,c,k⟩:=d;exact⟨_,_,yJ (st:=st) l c k,mg_of X G a⟩
theorem UW{l:List gs}(h:l.length=n+1):∃a t,l=a::t/\t.length=n:=by
 cases l with
 |nil=>cases h
 |cons a t=>exact⟨a,t,rfl,Nat.succ.inj h⟩
theorem WF{l:List gs}(h:l.length=1):∃a,l=[a]:=jV.mp h
theorem Tg{l:List gs}(h:l.length=2):∃a b,l=[a,b]:=by obtain⟨a,t,rfl,k⟩:=UW h;obtain⟨b,rfl⟩:=WF k;exact⟨a,b,rfl⟩
theorem WG{l:List gs}(h:l.length=3):∃a b c,l=[a,b,c]:=by obtain⟨a,t,rfl,k⟩:=UW h;obtain⟨b,c,rfl⟩:=Tg k;exact⟨a,b,c,rfl⟩
theorem WH{l:List gs}(h:l.length=4):∃a b c d,l=[a,b,c,d]:=by obtain⟨a,t,rfl,k⟩:=UW h;obtain⟨b,c,d,rfl⟩:=WG k;exact⟨a,b,c,d,rfl⟩
theorem Xt{l:List gs}(h:l.length=5):∃a b c d e,l=[a,b,c,d,e]:=by obtain⟨a,t,rfl,k⟩:=UW h;obtain⟨b,c,d,e,rfl⟩:=WH k;exact⟨a,b,c,d,e,rfl⟩
theorem Ye{l:List gs}(h:l.length=6):∃a b c d e f,l=[a,b,c,d,e,f]:=by obtain⟨a,t,rfl,k⟩:=UW h;obtain⟨b,c,d,e,f,rfl⟩:=Xt k;exact⟨a,b,c,d,e,f,rfl⟩
section
variable{P:YW}{w:ms}{K:uR}{mg:Str->Option gs}{base:pk}{k n:Nat}{x:Str}{st:qd}{f:i0}{fd:Zl}{ps:List Str}{G:List W->List al->R W}
theorem QL(F:lB K x x st f fd)(y:mg x=bi (.ref f))(ok:fQ P w K mg base (iM P w) k f fd ps (mF K mg n G))(B:ps.length=n:=by rfl)
  (U:∀(kV J I:gs) (O:Option i0) (Z V:gs) (us:List gs),us.length=ps.length->ZJ (fnOf x x (dZ st) (dq st) (aI st) .none kV J I O Z V) ⟨us,[]⟩=pure (ps.zip us):=by(intro _ _ _ _ _ _ _ q;first|(obtain⟨_,rfl⟩:=WF q;rfl)|(obtain⟨_,_,rfl⟩:=Tg q;rfl)|(obtain⟨_,_,_,rfl⟩:=WG q;rfl)|(obtain⟨_,_,_,_,rfl⟩:=WH q;rfl)|(obtain⟨_,_,_,_,_,rfl⟩:=Xt q;rfl)|(obtain⟨_,_,_,_,_,_,rfl⟩:=Ye q;rfl))):dG P w K mg base k x n G:=u_ F y B U ok
theorem QM{h:pk}(d:DefIn K x st)(X:K.In h)(Gs:h.Ns wU mg)(ok:∀{f:i0} {fd:Zl},lB K x x st f fd->fQ P w K mg base (iM P w) k f fd ps (mF K mg n G))(B:ps.length=n:=by rfl)
  (U:∀(kV J I:gs) (O:Option i0) (Z V:gs) (us:List gs),us.length=ps.length->ZJ (fnOf x x (dZ st) (dq st) (aI st) .none kV J I O Z V) ⟨us,[]⟩=pure (ps.zip us):=by(intro _ _ _ _ _ _ _ q;first|(obtain⟨_,rfl⟩:=WF q;rfl)|(obtain⟨_,_,rfl⟩:=Tg q;rfl)|(obtain⟨_,_,_,rfl⟩:=WG q;rfl)|(obtain⟨_,_,_,_,rfl⟩:=WH q;rfl)|(obtain⟨_,_,_,_,_,rfl⟩:=Xt q;rfl)|(obtain⟨_,_,_,_,_,_,rfl⟩:=Ye q;rfl))):dG P w K mg base k x n G:=let ⟨_,_,F,m⟩:=d.fn X Gs;u_ F m B U (ok F)
end
noncomputable def QN:List Str->Bool
 |[]=>cT
 |x::r=>!(r.any λy=>y==x)&&QN r
theorem v3:∀{l:List Str},QN l=cT->l.Nodup
 |[],_=>.nil
 |x::r,h=>by simp only[QN,bc,iK,jP,jo]at h;exact bR.mpr ⟨λm=>h.1 x m rfl,v3 h.2⟩
section
variable{fe:FE}{sp:Y0}
theorem pS{N:List Str}(a:sp.kind=.function:=by rfl)(b:sp.isCoroutine=dw:=by rfl)(c:sp.isGenerator=dw:=by rfl)(d:N.Nodup:=by decide +kernel)(f:N.take ps.length=ps:=by rfl)(g:∀x∈ps,sp.names.lookup x=bi .local\/sp.names.lookup x=bi .cell:=by decide +kernel)(h:∀y∈sp.names,y.2≠.free:=by decide +kernel):bS N ps sp:=⟨a,b,c,d,f,g,h⟩
theorem sS(i:Nat){kP:Pos}(sc:bS X.N ps sp)(J:SE X e fe)(D:X.N[i]?=bi x:=by rfl)(O:GK X.env.scope x:=by first|exact .inl rfl|exact .inr rfl)(B:swapsWith e (bi (.Name x kP)) pos.line X.env=pure dw:=by rfl)(I:X.fn x=cT\/X.env.scope.names.lookup x=bi .local:=by first|exact .inl rfl|exact .inr rfl|assumption) :
  SS X (.Assign [.Name x kP] e pos) (bZ i fe):=Qz sc.nd D O J B I
theorem sG(i:Nat)(sc:bS X.N ps sp)(D:X.N[i]?=bi x:=by rfl)(O:GK X.env.scope x:=by first|exact .inl rfl|exact .inr rfl)(J:X.fn x=cT\/X.env.scope.names.lookup x=bi .local:=by first|exact .inl rfl|exact .inr rfl|assumption):SG X (.Name x pos) (gi i):=yS sc.nd D O J
theorem sC{nm:List Str}{cl:List (Str×i0)}{C s0 H0 fp}(i:Nat)(z:nm.Nodup:=by decide +kernel)(D:nm[i]?=bi x:=by rfl)(O:GK (dz X nm scope cl C s0 H0 fp).env.scope x:=by first|exact .inl rfl|exact .inr rfl)(J:(dz X nm scope cl C s0 H0 fp).fn x=cT\/(dz X nm scope cl C s0 H0 fp).env.scope.names.lookup x=bi .local:=by first|exact .inl rfl|exact .inr rfl|assumption) :
  SG (dz X nm scope cl C s0 H0 fp) (.Name x pos) (gi i):=yS (X:=dz X nm scope cl C s0 H0 fp) z D O J
theorem Yx{nm:List Str}{cl:List (Str×i0)}{C s0 H0 fp}(i:Nat)(z:QN nm=cT:=by first|rfl|kernel_rfl)(D:nm[i]?=bi x:=by rfl)(O:GK (dz X nm scope cl C s0 H0 fp).env.scope x:=by first|exact .inl rfl|exact .inr rfl)(J:(dz X nm scope cl C s0 H0 fp).fn x=cT\/(dz X nm scope cl C s0 H0 fp).env.scope.names.lookup x=bi .local:=by first|exact .inl rfl|exact .inr rfl|assumption) :
  SG (dz X nm scope cl C s0 H0 fp) (.Name x pos) (gi i):=yS (X:=dz X nm scope cl C s0 H0 fp) (v3 z) D O J
end
noncomputable def L_:i9->List Str
 |.Name x _=>[x]
 |.Tuple es _ _=>es.filterMap λe=>match e with
  |.Name x _=>bi x
  |_=>cg
 |_=>[]
noncomputable def QO(N:List Str):List Str->List (Option Nat)->List Str
 |_,[]=>[]
 |ts,bi j::r=>N.getD j "" :: QO N ts r
 |ts,cg::r=>ts.headD "" :: QO N ts.tail r
abbrev WI(X:Cx)(tg:i9)(cap:List (Option Nat)):List Str:=QO X.N (L_ tg) cap
section
variable{fi:FI}{f:FG}{t:FT}{el:FE}
theorem DV(y:X.env.cells=wh m X.env.scope.names [])(D:SI X tg d9 fi)(d:∀cl C Y H0 fp,SG (dz X (WI X tg cap) scope cl C Y H0 fp) tg f)(Z:∀cl C Y H0 fp,Te (dz X (WI X tg cap) scope cl C Y H0 fp) qx t)
  (J:∀cl C Y H0 fp,SE (dz X (WI X tg cap) scope cl C Y H0 fp) tM el) (w:Cq X.env.scope.names scope.names (WI X tg cap) cap X.N=cT:=by first|rfl|kernel_rfl) (R:X.calm=cT:=by rfl) (V:scope.kind=.function:=by rfl) (O:∀x,ZB d9 X.env x=pure x:=by intro _;rfl) :
  SE X (.ListComp tM [⟨tg,d9,qx,0⟩] scope pos) (fS cap fi f t el):=CA w y D d Z J R V O
end
end L2
variable{t:L2.FT}{ρ:L2.cE}{fa fb fe el:L2.FE}{fi:L2.FI}
namespace HT
open PySem PyProof.Rows
section
open PySem.SeqAt
open PySem.AutoSeq1 (wpAny_loadPart')
open PySem.MeetsSeq PySem.MeetsSeq2 PySem.MeetsSeq3
end
end HT
namespace L2
open PySem PySem.Spec PyProof.Rows
mutual
def HR:W->W->Option Bool
 |.int i,.int j=>bi (decide (i<j))
 |.tup a,.tup b=>ltWs a b
 |_,_=>cg
def ltWs:List W->List W->Option Bool
 |[],[]=>bi dw
 |[],_::_=>bi cT
 |_::_,[]=>bi dw
 |x::xs,y::ys=>match kJ x y with
  |some cT=>ltWs xs ys
  |some dw=>HR x y
  |none=>cg
end
section
end
end L2
namespace PK
open PySem
section
variable{w:ms}{K1 K2:Type}[DecidableEq K1][DecidableEq K2](knd:KeyKind prog w K1)(hk:ZS prog w K2)
def Is(h:pk)(k:K1×K2)(a:i0):Prop:=∃o v b n,h.get? a=bi o/\o.cls=.type "tuple"/\o.data=.seq #[v,.ref b] n/\knd.is k.1 v=cT/\hk.is h k.2 b
noncomputable def hash(k:K1×K2):Int:=reduceHash (ZU [knd.hash k.1,hk.hash k.2])
variable{knd hk}
theorem Is.typeIs{k:K1×K2}(x:Is knd hk s.heap k a):s.TypeIs (.ref a) "tuple":=let ⟨o,_,_,_,ho,hc,_⟩:=x;⟨o,ho,hc⟩
theorem Is.inj{x y:K1×K2}(O:Is knd hk h x a)(z:Is knd hk h y a):x=y:=by obtain⟨o,v,b,n,V,_,D,Z,Y⟩:=O;obtain⟨B,U,d,J,W,_,R,h1',I⟩:=z;obtain rfl:o=B:=bg (V.symm.trans W);rw[D]at R;injection R with e _;have e:=cP Array.toList e;simp only[lj,Value.ref.injEq,and_true]at e;obtain⟨rfl,rfl⟩:=e;exact Prod.ext (knd.inj _ _ _ Z h1') (hk.inj Y I)
theorem Is.keeps{k:K1×K2}{d:i0}{es ep}(x:Is knd hk h k a)(V:h.get? d=bi o)(D:o.data=.dict es ep)(O:Zy d h h'):Is knd hk h' k a:=by
 obtain⟨B,v,b,n,W,J,R,Z,Y⟩:=x;have z:a≠d:=by rintro rfl;obtain rfl:B=o:=bg (W.symm.trans V);rw[D]at R;exact nomatch R
 exact⟨B,v,b,n,(O.2 a z).trans W,J,R,Z,hk.keeps Y V D O⟩
theorem pyHash{k:K1×K2}{Q:Int->i2->Prop}(z:A.units<Y3)(R:hk.room A.in1)(O:Is knd hk s.heap k a)(h:Q (hash knd hk k) { s with toks:=s.toks+(1+hk.draws k.2+1) }) :
  i1 #[2] A (PySem.pyHash (.ref a)) Q E s:=by
 have B:=O.typeIs;obtain⟨o,v,b,n,V,_,D,Z,Y⟩:=O;unfold PySem.pyHash
 first|unfold pyHashByItsType|skip
 first|refine aa (wpAny_cRoomFor_or (.inr z) ?_)|skip
 refine aa (f7 B F.slot_tuple_hash.lookup ?_);show i1 _ _ (if (bi (Value.builtin "tuple.__hash__")==bi Zb)=cT then _ else _) Q E s;rw[aF (by rw[beq_builtin_none];exact bG)];refine aa (f7 B F.slot_tuple_hash.lookup ?_);show i1 _ _ (callSpecialIfBoundUnlessNone? (.ref a) "__hash__" _ >>= _) Q E s;refine aa (iH B F.slot_tuple_hash (bj F.slot_tuple_hash B F.entry_tuple_hash ?_ (F.args_tuple_hash_1 _)));show i1 _ _ (aaj (.ref a) >>= _) _ _ s;refine aa (my V D ?_);refine aa ?_;rw[<- mz];refine kD _
  (λd8 (c:Array Int) d=>(d8=[v,.ref b]/\c.toList=[]/\d=s)\/(d8=[.ref b]/\c.toList=[knd.hash k.1]/\d={ s with toks:=s.toks+1 })\/(d8=[]/\c.toList=[knd.hash k.1,hk.hash k.2]/\d={ s with toks:=s.toks+1+hk.draws k.2 }))
  _ ?_ ?_ _ _ (.inl ⟨rfl,rfl,rfl⟩)
 .rintro x d8 c d (⟨e,J,rfl⟩|⟨e,J,rfl⟩|⟨e,_⟩)
  .injection e with e1 e2;subst e1;subst e2;refine aa (knd.pyHash Z ?_)
   first
    |exact ae (.inr (.inl ⟨rfl,by simp[J],rfl⟩))
    |exact aa (ae (ae (.inr (.inl ⟨rfl,by simp[J],rfl⟩))))
  .injection e with e1 e2;subst e1;subst e2;refine aa (hk.pyHash (k:=k.2) R Y ?_)
   first
    |exact ae (.inr (.inr ⟨rfl,by simp[J],rfl⟩))
    |exact aa (ae (ae (.inr (.inr ⟨rfl,by simp[J],rfl⟩))))
  .cases e
 .rintro c d (⟨e,_⟩|⟨e,_⟩|⟨_,J,rfl⟩)
  .cases e
  .cases e
  show i1 _ _ (retInt (ZU c.toList)) _ _ _;rw[J];refine wpAny_ret_mkInt ?_;show i1 _ _ (if (decide (-(2:Int)^63<=ZU [knd.hash k.1,hk.hash k.2])&&decide (ZU [knd.hash k.1,hk.hash k.2]<2^63))=cT then _ else _) Q E _;unfold hash reduceHash at h
  by_cases R:(decide (-(2:Int)^63<=ZU [knd.hash k.1,hk.hash k.2])&&decide (ZU [knd.hash k.1,hk.hash k.2]<2^63))=cT
  .rw[ax R];rw[ax R]at h;exact ae (by simpa[Nat.add_assoc]using h)
  .rw[aF R];rw[aF R]at h;exact aa (fC (ae (by simpa[Nat.add_assoc]using h)))
theorem Ma{x y:K1×K2}{P:Fin->i2->Prop}(R:hk.room A)(O:Is knd hk s.heap x a)(U:Is knd hk s.heap y b)(h:P (.done (.ret (.bool (decide (x=y))))) s) :
  i1 #[2] A (Builtin.«tuple.__eq__» ⟨[.ref a,.ref b],[]⟩) P E s:=by
 have hTb:=U.typeIs;obtain⟨oa,v,c,na,hoa,_,hda,Z,Y⟩:=O;obtain⟨ob,u,d,nb,Dk,_,tI,V,I⟩:=U;show i1 _ _ (isInstance (.ref b) (.type "tuple") >>= _) _ _ s;refine aa (dY hTb km ?_);simp only[fN,bu,dM];refine aa (my hoa hda ?_);refine aa (my Dk tI ?_);refine aa ?_;refine kD _
  (λd8 r W=>r.1=cg/\W=s/\((d8=[(v,u),(.ref c,.ref d)])\/(d8=[(.ref c,.ref d)]/\x.1=y.1)\/(d8=[]/\x=y)))
  _ ?_ ?_ _ _ ⟨rfl,rfl,.inl rfl⟩
 .rintro⟨p,q⟩ d8 r W ⟨hr0,rfl,e|⟨e,e0⟩|⟨e,_⟩⟩
  .injection e with e1 e2;injection e1 with e3 e4;subst e3;subst e4;subst e2;refine aa (knd.eqBool (a:=x.1) (b:=y.1) Z V ?_)
   by_cases z:x.1=y.1
   .rw[bb z];simp only[fN,bu,dM];exact ae ⟨rfl,rfl,.inr (.inl ⟨by first|rfl|trivial,z⟩)⟩
   .rw[aQ z];simp only[mw,gu];have J:decide (x=y)=dw:=aQ λe=>z (by rw[e]);rw[J]at h;exact aa (ae (ae (ae h)))
  .injection e with e1 e2;injection e1 with e3 e4;subst e3;subst e4;subst e2;refine aa (hk.eqBool (x:=x.2) (y:=y.2) R Y I ?_)
   by_cases z:x.2=y.2
   .rw[bb z];simp only[fN,bu,dM];exact ae ⟨rfl,rfl,.inr (.inr ⟨by first|rfl|trivial,Prod.ext e0 z⟩)⟩
   .rw[aQ z];simp only[mw,gu];have J:decide (x=y)=dw:=aQ λe=>z (by rw[e]);rw[J]at h;exact aa (ae (ae (ae h)))
  .cases e
 .rintro⟨B,D⟩ W ⟨hr0,rfl,e|⟨e,_⟩|⟨_,e⟩⟩
  .cases e
  .cases e
  simp only at hr0;subst hr0;refine ae ?_;rw[bb e]at h;exact h
theorem eqBool{x y:K1×K2}{a b:i0}{Q:Bool->i2->Prop}(d:A.units<Y3)(R:hk.room A.in1)(O:Is knd hk s.heap x a)(Z:Is knd hk s.heap y b)(h:Q (decide (x=y)) s) :
  i1 #[2] A (PySem.eqBool (.ref a) (.ref b)) Q E s:=by
 unfold PySem.eqBool
 try with_reducible refine c8 ?_
 show i1 _ _ (if (YT a==YT b)=cT then _ else _) Q E s
 by_cases Nb:(YT a==YT b)=cT
 .rw[ax Nb];have e:a=b:=by have:=ky Nb;injection this
  subst e;obtain rfl:=O.inj Z;exact aa (fC (ae (by simpa using h)))
 .rw[aF Nb];exact aa (wpAny_richCompare_same_room (op:=.Eq) O.typeIs Z.typeIs F.slot_tuple_eq
   (bj F.slot_tuple_eq O.typeIs F.entry_tuple_eq (Ma R O Z ⟨_,rfl,(λe=>nomatch e),cZ h⟩) (F.args_tuple_eq_2 _ _)) d)
theorem quiet{k:K1×K2}{Q:Bool->i2->Prop}(J:∀{b:i0} {Q:Bool->i2->Prop},hk.is s.heap k.2 b->Q cT s->i1 #[2] A (eqIsQuiet 7 (.ref b)) Q E s)(O:Is knd hk s.heap k a)(h:Q cT s):i1 #[2] A (eqIsQuiet 8 (.ref a)) Q E s:=by
 have B:=O.typeIs;obtain⟨o,v,b,n,V,_,D,Z,Y⟩:=O;unfold eqIsQuiet;refine aa (f7 B F.slot_tuple_eq.lookup ?_);show i1 _ _ (isInstance (.ref a) (.type "tuple") >>= _) _ _ s;refine aa (dY B km ?_);simp only[fN,bu,dM];refine aa (bP V D ?_);refine aa ?_;show i1 _ _ (forIn #[v,YT b] _ _) _ _ s;rw[<- mz];refine kD _ (λd8 r d=>r.1=cg/\d=s/\(d8=[v,.ref b]\/d8=[.ref b]\/d8=[])) _ ?_ ?_ _ _ ⟨rfl,rfl,.inl rfl⟩
 .rintro x d8 r d ⟨R,rfl,e|e|e⟩
  .injection e with e1 e2;subst e1;subst e2;rw[eqIsQuiet_byValue _ (knd.byValue _ _ Z)];refine aa (ae ?_);simp only[fN,bu,dM];exact ae ⟨rfl,rfl,.inr (.inl (by first|rfl|trivial))⟩
  .injection e with e1 e2;subst e1;subst e2;refine aa (J Y ?_);simp only[fN,bu,dM];exact ae ⟨rfl,rfl,.inr (.inr (by first|rfl|trivial))⟩
  .cases e
 .rintro⟨z,W⟩ d ⟨R,rfl,_⟩;simp only at R;subst R;exact ae h
end
theorem FN{w:ms}{K:Type}[DecidableEq K]{knd:KeyKind prog w K}(f:Nat){ks:List K}{Q:Bool->i2->Prop}(B:IsTupleKey knd s.heap ks a)(h:Q cT s):i1 #[2] A (eqIsQuiet (f+1) (.ref a)) Q E s:=by
 have y:=B.typeIs;obtain⟨o,U,n,V,_,Y,D⟩:=B;unfold eqIsQuiet;refine aa (f7 y F.slot_tuple_eq.lookup ?_);show i1 _ _ (isInstance (.ref a) (.type "tuple") >>= _) _ _ s;refine aa (dY y km ?_);simp only[fN,bu,dM];refine aa (bP V Y ?_);refine aa ?_;show i1 _ _ (forIn U _ _) _ _ s;rw[<- mz];refine kD _ (λd8 r d=>r.1=cg/\d=s/\∀v∈d8,carriedByValue v=cT) _ ?_ ?_ _ _ ⟨rfl,rfl,D.byValue⟩
 .rintro v d8 r d ⟨R,rfl,W⟩;rw[eqIsQuiet_byValue _ (W v aX)];refine aa (ae ?_);simp only[fN,bu,dM];exact ae ⟨rfl,rfl,λu Z=>W u (aC _ Z)⟩
 .rintro⟨z,O⟩ d ⟨R,rfl,_⟩;simp only at R;subst R;exact ae h
def kind{w:ms}{K1 K:Type}[DecidableEq K1][DecidableEq K](knd:KeyKind prog w K1)(kd:KeyKind prog w K):ZS prog w (K1×List K) where
 is:=Is knd (tupleKind kd)
 hash:=hash knd (tupleKind kd)
 draws:=λk=>1+(k.2.length+1)+1
 room:=λA=>A.units+1<Y3
 inj:=λO Z=>O.inj Z
 keeps:=λx V D B=>x.keeps V D B
 pyHash:=λd J h=>pyHash (Nat.lt_of_succ_lt d) d J h
 eqBool:=λd O Z h=>eqBool (Nat.lt_of_succ_lt d) d O Z h
 quiet:=λJ h=>quiet (λU Y=>FN 6 U Y) J h
section
variable{w:ms}{K:Type}[DecidableEq K]{knd:ZS prog w K}
end
end PK
namespace L2
open PySem PySem.Spec PyProof.Rows
section
variable{w:ms}{es:List YV}
theorem NB(ok:mI P w H h)(e:H a=bi (yP a es)):DX a es h:=(show fG P w H h a (.ext (DX a es))from ok a _ e).1
theorem HS(d:DX a es h):fG P w H h a (yP a es):=by refine⟨d,?_,λZ Y ⟨o,W,e,x,y⟩ k=>⟨o,W,k o e,x,y⟩⟩;obtain⟨o,W,e,_⟩:=d;exact⟨o,e⟩
theorem QP(ok:mI P w H h)(e:H a=bi (.dK [])):DX a [] h/\(a==Zf)=dw:=by
 obtain⟨_,D,U,z,R⟩:=T_ ok e
 cases z
 obtain⟨o,J,W,Z,Y,B,_,O,_⟩:=R;refine⟨⟨o,W,Z,Y,?_⟩,D⟩;rw[B];have:J.toList=[]:=by
  cases d:J.toList with
  |nil=>rfl
  |cons x l=>rw[d]at O;cases O
 rw[show J=[].toArray from by apply Array.ext';rw[this]]
theorem DW(d:DX a es h)(q:Str):yP a es≠jC a q:=λz=>by
 injection z with z;have:=congrFun z h;have c:∃o U t,h.get? a=bi o/\o.data=.fields U/\U[1]?=bi (.str q t):=this▸d;obtain⟨o,W,e,_,y⟩:=d;obtain⟨B,U,t,R,V,_⟩:=c;rw[e]at R;cases R
 rw[y]at V;cases V
end
section
variable{K:Type}[DecidableEq K]{knd:ZS X.prog X.w K}{xs:List (K×i0×gs)}{k:K}
noncomputable abbrev y9(knd:ZS X.prog X.w K)(xs:List (K×i0×gs)):List YV:=xs.map (entryOfKey knd)
theorem A0(d:DX a (y9 knd xs) s.heap)(w:∀x∈xs,knd.is s.heap x.1 x.2.1)(R:(xs.map (·.1)).Nodup):s.heap.DictOfH knd a xs:=by obtain⟨o,W,Z,Y,B⟩:=d;exact⟨o,_,W,Z,Y,B,by simp,w,R⟩
theorem DY{ys:List (K×i0×gs)}(d:h'.DictOfH knd a ys):DX a (y9 knd ys) h':=by obtain⟨o,J,W,Z,Y,B,O,_⟩:=d;refine⟨o,W,Z,Y,?_⟩;rw[B,show J=(y9 knd ys).toArray from by apply Array.ext';rw[O]]
structure XD(knd:ZS X.prog X.w K)(H:Hp)(s:i2)(a:i0)(xs:List (K×i0×gs)):Prop where
 d:DX a (y9 knd xs) s.heap
 is:∀x∈xs,knd.is s.heap x.1 x.2.1
 nd:(xs.map (·.1)).Nodup
 sm:(a==Zf)=dw
 z:xs.length<=sizeLine
 mu:Pg (H a)
theorem UX(V:knd.room A.in1)(I:bH X aj σ H s)(x:XD knd H s a xs)(B:knd.is s.heap k b){p:i0×gs}(U:atKey xs k=bi p)(h:∀d,bH X aj σ H d->Q p.2 d):i1 #[3] A (Zr (.ref a) (.ref b)) Q E s:=
 wpAny_getItem_heap V B (A0 x.d x.is x.nd) U (h _ (I.tok _))
theorem Mb(V:knd.room A.in1)(I:bH X aj σ H s)(x:XD knd H s a xs)(B:knd.is s.heap k b)(h:∀d,bH X aj σ H d->Q (.bool (!(atKey xs k).isSome)) d):i1 #[3] A (YS .NotIn (.ref b) (.ref a)) Q E s:=
 wpAny_notIn_heap V B x.sm (A0 x.d x.is x.nd) (h _ (I.tok _))
theorem UY{Q:Unit->i2->Prop}(V:knd.room A.in1)(I:bH X aj σ H s)(x:XD knd H s a xs)(B:knd.is s.heap k b)(h:∀W,bH X aj σ (fF H a (yP a (y9 knd (storedH xs k b v)))) W->Q () W):i1 #[3] A (setItem (.ref a) (.ref b) v) Q E s:=by refine wpAny_setItem_heap (hsz:=x.z) V B (A0 x.d x.is x.nd) λw R O=>h _ ?_;have d:=DY R;exact Dv I x.mu O (let ⟨q,_,hq,_⟩:=d;⟨q,hq⟩) (HS d)
end
theorem sQ:∀{ws:List W} {l:List Int},kc ws=bi l->ws=l.map W.int
 |[],l,h=>by simp only[kc]at h;cases h;rfl
 |w::ws,l,h=>by
  cases w with
  |int z=>
   unfold kc at h
   cases e:kc ws with
   |none=>rw[e]at h;cases h
   |some r=>
    rw[e]at h
    cases h
    rw[sQ e];rfl
  |_=>unfold kc at h;cases h
def nC:W->Option KX
 |.bl b=>bi (.bo b)
 |.tup ws=>(match kc ws,ws with
  |some ks,_=>bi (.fl ks)
  |none,[.int i,.tup vs]=>(kc vs).map (KX.pr i)
  |_,_=>cg)
 |_=>cg
theorem v5{w:W}{k:KX}(h:nC w=bi k):w=k.w:=by
 cases w with
 |bl b=>cases h;rfl
 |tup O=>
  simp only[nC]at h
  cases e:kc O with
  |some J=>rw[e]at h;cases h;show _=W.tup _;rw[sQ e]
  |none=>
   rw[e]at h
   split at h
   .rename_i z
    cases z
   .rename_i i U e2
    cases I:kc U with
    |none=>rw[I]at h;cases h
    |some J=>rw[I]at h;cases h;show _=W.tup [_,.tup _];rw[sQ I]
   .cases h
 |_=>cases h
structure HV(X:Cx)(K:Type)[DecidableEq K] where
 knd:ZS X.prog X.w K
 em:K->KX
 inj:∀{a b:K},em a=em b->a=b
 hash:∀k,(em k).hash=knd.hash k
 is:∀{aj:List (i0×Obj)} {σ:St} {H:Hp} {s:i2} {μ:List i0} {k:K} {v:V} {u:gs},bH X aj σ H s->bh X.K μ H (em k).w v->cN v u->∃b,u=.ref b/\knd.is s.heap k b
 room:∀{A:yy},A.units+2<Y3->knd.room A.in1
theorem items_int{w:ms}:∀{ks:List Int} {bx:List gs},cR (ks.map V.int) bx->ItemsAre (intKind P w) ks bx
 |[],_,r=>by cases r;exact .nil
 |k::ks,_,r=>by
  cases r with
  |cons h t=>
   obtain⟨q,rfl⟩:=h;exact .cons (by simp[intKind,Value.isInt]) (items_int t)
theorem HU:∀{ks:List Int} {vs:List V},RelWs K μ H (ks.map W.int) vs->vs=ks.map V.int
 |[],vs,r=>r.nilE
 |k::ks,vs,r=>by obtain⟨x,d,rfl,a,b⟩:=r.consE;rw[a.intE,HU b];rfl
theorem HW{ks:List Int}{v:V}(I:bH X aj σ H s)(r:bh X.K μ H (.tup (ks.map W.int)) v)(y:cN v u):∃b,u=.ref b/\IsTupleKey (intKind X.prog X.w) s.heap ks b:=by
 obtain⟨p,U,rfl,Z,q⟩:=r.tupE
 cases y
 rw[HU q]at Z;obtain⟨O,r,⟨o,w,J,n,D⟩,_⟩:=I.tuple Z;exact⟨p,rfl,o,O.toArray,n,w,J,D,items_int r⟩
def NC(X:Cx):HV X (List Int) where
 knd:=tupleKind (intKind X.prog X.w)
 em:=KX.fl
 inj:=λh=>by injection h
 hash:=λk=>rfl
 is:=λI r D=>HW I r D
 room:=λ{A} h=>by show A.units+1<Y3;omega
def ND(X:Cx):HV X (Int×List Int) where
 knd:=PK.kind (intKind X.prog X.w) (intKind X.prog X.w)
 em:=λk=>.pr k.1 k.2
 inj:=λ{a b} h=>by injection h with h1 h2;exact Prod.ext h1 h2
 hash:=λk=>rfl
 is:=λ{aj σ H s μ k v u} I r ru=>by
  obtain⟨p,vs,rfl,W,q⟩:=bh.tupE r
  cases ru
  obtain⟨x,xs,rfl,a,b⟩:=q.consE;obtain⟨y,ys,rfl,c,d⟩:=b.consE;have:=d.nilE;subst this
  cases a.intE
  obtain⟨bx,w,⟨o,V,J,n,D⟩,_⟩:=I.tuple W;obtain⟨Z,us,rfl,z,O⟩:∃Z us,bx=Z::us/\cN (.int k.1) Z/\cR [y] us:=by cases w with|cons h t=>exact⟨_,_,rfl,h,t⟩
  obtain⟨R,rfl,Y⟩:∃R,us=[R]/\cN y R:=by
   cases O with
   |cons h t=>cases t;exact⟨_,rfl,h⟩
  obtain⟨b,rfl,U⟩:=HW I c Y;obtain⟨t,rfl⟩:=z;exact⟨p,rfl,o,_,b,n,V,J,D,by simp[intKind,Value.isInt],U⟩
 room:=λ{A} h=>by show A.units+1+1<Y3;omega
noncomputable def fL(kvs:List (KX×W))(k:KX):Option W:=(kvs.find? λp=>decide (p.1=k)).map λp=>p.2
def j8(kvs:List (KX×W))(k:KX)(v:W):List (KX×W):=if (fL kvs k).isSome=cT then kvs.map λp=>if p.1=k then(p.1,v)else p else kvs++[(k,v)]
section
variable{K:Type}[DecidableEq K](G:HV X K)
def Vw(μ:List i0)(H:Hp):List (KX×W)->List (K×i0×gs)->Prop:=Paired λp x=>p.1=G.em x.1/\bh X.K μ H p.1.w (.ref x.2.1)/\∃v,bh X.K μ H p.2 v/\cN v x.2.2
theorem qm{v:V}(h:cN v (.ref b)):v=.ref b:=by
 cases v with
 |ref a=>cases h;rfl
 |non=>cases h
 |bl _=>cases h
 |ty _=>cases h
 |int _=>obtain⟨_,h⟩:=h;cases h
 |str _=>obtain⟨_,h⟩:=h;cases h
 |byt _=>obtain⟨_,h⟩:=h;cases h
 |flt _=>obtain⟨_,h⟩:=h;cases h
theorem y_(I:bH X aj σ H s):∀{kvs:List (KX×W)} {es:List YV},Paired (qg X.K μ H) kvs es->(∀p∈kvs,∃k,p.1=G.em k)->∃xs,es=y9 G.knd xs/\Vw G μ H kvs xs/\∀x∈xs,G.knd.is s.heap x.1 x.2.1
 |_,_,.nil,_=>⟨[],rfl,.nil,λx hx=>by cases hx⟩
 |_,_,.cons (a:=p) (b:=e) r t,hk=>by
  obtain⟨xs,d,z,w⟩:=y_ I t λp Z=>hk p (aC _ Z);obtain⟨k,hpk⟩:=hk p (aX ..);obtain⟨Y,⟨v,O,J⟩,u,y,R⟩:=r;obtain⟨b,U,D⟩:=G.is (k:=k) I (by rw[<- hpk];exact O) J;have V:v=.ref b:=qm (by rw[<- U];exact J);subst V;refine⟨(k,b,e.val)::xs,?_,.cons ⟨hpk,O,u,y,R⟩ z,λx hx=>?_⟩
  .rw[d];show e::_=entryOfKey G.knd (k,b,e.val)::_
   congr 1
   obtain⟨eh,B,V⟩:=e;simp only at Y U;subst U;rw[Y,hpk,G.hash];rfl
  .rcases aG.mp hx with rfl|hx
   .exact D
   .exact w x hx
variable{G}
theorem vh:∀{kvs:List (KX×W)} {xs:List (K×i0×gs)} (k:K),Vw G μ H kvs xs->(∃w p v,fL kvs (G.em k)=bi w/\atKey xs k=bi p/\bh X.K μ H w v/\cN v p.2)\/(fL kvs (G.em k)=cg/\atKey xs k=cg)
 |_,_,k,.nil=>.inr ⟨rfl,rfl⟩
 |_,_,k,.cons (a:=p) (b:=x) (l₁:=kvs) (l₂:=xs) ⟨h1,_,v,h3,h4⟩ t=>by
  by_cases e:x.1=k
  .refine .inl ⟨p.2,x.2,v,?_,?_,h3,h4⟩
   .unfold fL;rw[eZ];simp[h1,e]
   .unfold atKey;rw[eZ];simp[e]
  .have e2:p.1≠G.em k:=λz=>e (G.inj (h1.symm.trans z));have U:fL (p::kvs) (G.em k)=fL kvs (G.em k):=by unfold fL;rw[eZ];simp[e2]
   have V:atKey (x::xs) k=atKey xs k:=by unfold atKey;rw[eZ];simp[e]
   rw[U,V];exact vh k t
theorem ud:∀{kvs:List (KX×W)} {xs:List (K×i0×gs)},Vw G μ H kvs xs->kvs.map (λp=>p.1)=(xs.map (·.1)).map G.em
 |_,_,.nil=>rfl
 |_,_,.cons ⟨h1,_⟩ t=>by simp only[aK];rw[h1,ud t]
theorem ya:∀{kvs:List (KX×W)} {xs:List (K×i0×gs)},Vw G μ H kvs xs->Paired (qg X.K μ H) kvs (y9 G.knd xs)
 |_,_,.nil=>.nil
 |_,_,.cons ⟨h1,h2,h3⟩ t=>.cons ⟨by rw[h1,G.hash];rfl,⟨_,h2,rfl⟩,h3⟩ (ya t)
theorem A1{k:K}{w:W}{v:V}(R:bh X.K μ H w v)(D:cN v u):∀{kvs:List (KX×W)} {xs:List (K×i0×gs)},Vw G μ H kvs xs->Vw G μ H (kvs.map λp=>if p.1=G.em k then(p.1,w)else p) (xs.map (putAt k u))
 |_,_,.nil=>.nil
 |_,_,.cons (a:=p) (b:=x) ⟨h1,h2,h3⟩ t=>by
  refine .cons ?_ (A1 R D t)
  by_cases e:x.1=k
  .simp only[];rw[ax (by rw[h1,e])];unfold putAt;rw[ax e];exact⟨h1,h2,v,R,D⟩
  .simp only[];rw[aF λz=>e (G.inj (h1.symm.trans z))];unfold putAt;rw[aF e];exact⟨h1,h2,h3⟩
theorem HX{k:K}{w:W}{v:V}{xs:List (K×i0×gs)}(z:Vw G μ H kvs xs)(y:bh X.K μ H (G.em k).w (.ref b))(R:bh X.K μ H w v)(D:cN v u):Vw G μ H (j8 kvs (G.em k) w) (storedH xs k b u):=by
 unfold j8 storedH;rcases vh (G:=G) k z with⟨O,p,Y,d,e2,_⟩|⟨d,e2⟩
 .rw[d,e2];exact A1 R D z
 .rw[d,e2];simp only[Option.isSome_none,bu,dM];exact Paired.snoc z ⟨rfl,y,v,R,D⟩
end
noncomputable def KX.tag:KX->Nat
 |.bo _=>0
 |.fl _=>1
 |.pr _ _=>2
noncomputable def A2(kvs:List (KX×W))(k:KX):Bool:=decide (k.tag≠0)&&kvs.all λp=>p.1.tag==k.tag
noncomputable def gW(st:List al):W->Option (Nat×List (KX×W))
 |.loc n=>(match st[n]? with
  |some (.dcx kvs)=>bi (n,kvs)
  |some (.dct [])=>bi (n,[])
  |_=>cg)
 |_=>cg
section
structure Dc(X:Cx)(μ:List i0)(H:Hp)(s:i2)(st:List al)(n:Nat)(kvs:List (KX×W))(a:i0)(es:List YV):Prop where
 m:μ[n]?=bi a
 c:∃c,st[n]?=bi c/\c.isRo=dw
 o:∃o,H a=bi o/\(∀q u,o≠.frz q u)/\∀q,o≠jC a q
 d:DX a es s.heap
 sm:(a==Zf)=dw
 p:Paired (qg X.K μ H) kvs es
 nd:(kvs.map λp=>p.1).Nodup
 mu:Pg (H a)
 sq:∀es',dH X.K H (fF H a (yP a es'))
theorem gg.butE{l:i0}(e:Uc l H H')(I:H l=bi (.ext φ)):dH K H H':=by
 have Y:∀{p:i0} {o:HO},H p=bi o->(∀D,o≠.ext D)->p≠l:=λ{p o} q hn z=>by subst z;rw[I]at q;cases q;exact hn _ rfl
 refine⟨λp U h=>?_,λb o u h=>e _ _ (Y h (λ_ z=>by cases z)) h⟩;rcases h with(h|⟨o,h⟩)|h
 .exact .inl (.inl (e _ _ (Y h (λ_ z=>by cases z)) h))
 .exact .inl (.inr ⟨o,e _ _ (Y h (λ_ z=>by cases z)) h⟩)
 .exact .inr h
theorem qo(I:bH X aj σ H s)(S:gk X.K X.mg μ st H){x:W}{v:V}(h:gW st x=bi (n,kvs))(r:bh X.K μ H x v):∃a es,v=.ref a/\Dc X μ H s st n kvs a es:=by
 cases x with
 |loc m=>
  simp only[gW]at h
  cases e:st[m]? with
  |none=>rw[e]at h;cases h
  |some c=>
   rw[e]at h
   cases c with
   |dcx z=>
    cases h
    obtain⟨a,g,es,k,D,p,nd⟩:=S.get e;obtain⟨b,f,rfl⟩:=r.locE;rw[g]at f;cases f
    have d:=NB I.hok k;exact⟨a,es,rfl,g,⟨_,e,rfl⟩,⟨_,k,(λ_ _ z=>by cases z),DW d⟩,d,D,p,nd,by rw[k];trivial,λO=>gg.butE mQ k⟩
   |dct z=>
    cases z with
    |cons _ _=>cases h
    |nil=>
     cases h
     obtain⟨a,g,U,k,y⟩:=S.get e;obtain⟨b,f,rfl⟩:=r.locE;rw[g]at f;cases f
     have k:H a=bi (.dK []):=k;obtain⟨d,D⟩:=QP I.hok k;exact⟨a,[],rfl,g,⟨_,e,rfl⟩,⟨_,k,(λ_ _ z=>by cases z),λ_ z=>by cases z⟩,d,D,.nil,ia,by rw[k];trivial,λO=>gg.butD mQ k⟩
   |_=>cases h
 |_=>cases h
theorem vi{K:Type}[DecidableEq K](G:HV X K){es:List YV}(I:bH X aj σ H s)(D:Dc X μ H s st n kvs a es)(B:∀p∈kvs,∃k,p.1=G.em k)(Y:kvs.length<=sizeLine):∃xs,XD G.knd H s a xs/\Vw G μ H kvs xs:=by
 obtain⟨xs,e,z,w⟩:=y_ G I D.p B;have R:(xs.map (·.1)).Nodup:=by have:=D.nd;rw[ud z]at this;exact(dE.mp this).imp λh e=>h (cP _ e)
 exact⟨xs,⟨by rw[<- e];exact D.d,w,R,D.sm,by rw[<- Paired.length z];exact Y,D.mu⟩,z⟩
theorem v6{k:KX}(h:A2 kvs k=cT):(∃ks,k=.fl ks/\∀p∈kvs,∃q,p.1=(NC X).em q)\/∃i ks,k=.pr i ks/\∀p∈kvs,∃q,p.1=(ND X).em q:=by
 unfold A2 at h;rw[bc,fB]at h;obtain⟨Y,Z⟩:=h
 cases k with
 |bo b=>simp[KX.tag]at Y
 |fl ks=>
  refine .inl ⟨ks,rfl,λp U=>?_⟩;have:=Z p U
  cases e:p.1 with
  |fl q=>exact⟨q,rfl⟩
  |bo _=>rw[e]at this;simp[KX.tag]at this
  |pr _ _=>rw[e]at this;simp[KX.tag]at this
 |pr i ks=>
  refine .inr ⟨i,ks,rfl,λp U=>?_⟩;have:=Z p U
  cases e:p.1 with
  |pr j q=>exact⟨(j,q),rfl⟩
  |bo _=>rw[e]at this;simp[KX.tag]at this
  |fl _=>rw[e]at this;simp[KX.tag]at this
def vj(kvs:List (KX×W))(k:KX):Bool:=A2 kvs k&&decide (kvs.length<lw)
theorem HY{Pr:Prop}{es:List YV}{k:KX}{v:V}(I:bH X aj σ H s)(D:Dc X μ H s st n kvs a es)(h:vj kvs k=cT)(O:bh X.K μ H k.w v)(y:cN v u)
  (d:∀(K:Type) [DecidableEq K] (G:HV X K) (q:K) (b:i0) (xs:List (K×i0×gs)),k=G.em q->v=.ref b->u=.ref b->G.knd.is s.heap q b->XD G.knd H s a xs->Vw G μ H kvs xs->Pr):Pr:=by
 unfold vj at h;rw[bc,df]at h;have Y:kvs.length<=sizeLine:=jk (cx h.2);rcases v6 (X:=X) h.1 with⟨J,rfl,B⟩|⟨i,J,rfl,B⟩
 .obtain⟨xs,w,z⟩:=vi (NC X) I D B Y;obtain⟨b,rfl,U⟩:=(NC X).is (k:=J) I O y;exact d _ (NC X) J b xs rfl (qm y) rfl U w z
 .obtain⟨xs,w,z⟩:=vi (ND X) I D B Y;obtain⟨b,rfl,U⟩:=(ND X).is (k:=(i,J)) I O y;exact d _ (ND X) (i,J) b xs rfl (qm y) rfl U w z
def CF(Ak:Bool)(x y:W)(st:List al):R W:=match gW st y,nC x with
 |some (_,kvs),bi k=>if vj kvs k=cT then .ok (.bl (if Ak then !(fL kvs k).isSome else(fL kvs k).isSome)) st else .bad
 |_,_=>.bad
theorem HZ(Ak:Bool)(x y:W)(st:List al):q_ (CF Ak x y st):=by
 unfold CF
 split
 .split<;>trivial
 .trivial
theorem yb{K:Type}[DecidableEq K]{G:HV X K}{xs:List (K×i0×gs)}(k:K)(z:Vw G μ H kvs xs):(atKey xs k).isSome=(fL kvs (G.em k)).isSome:=by rcases vh k z with⟨w,p,v,d,e2,_⟩|⟨d,e2⟩<;>rw[d,e2]<;>rfl
theorem H9(R:ic kk X.A):sF X (YS .NotIn) (CF cT):=⟨λW s B H x y v u Q I Z ru zq=>by
 obtain⟨w,Y,wx,wy,S,V,ry,q⟩:=zq;unfold CF at q
 cases e:gW Y wy with
 |none=>rw[e]at q;exact q.elim
 |some nk=>
  obtain⟨n,kvs⟩:=nk
  cases ek:nC wx with
  |none=>rw[e,ek]at q;exact q.elim
  |some k=>
   rw[e,ek]at q;simp only at q
   by_cases O:vj kvs k=cT
   .rw[ax O]at q;obtain⟨a,es,rfl,D⟩:=qo I S e ry;obtain rfl:u=YT a:=ru;have:=v5 ek;subst this;refine HY I D O V Z λK inst G z b xs J _ U u4 xd vw=>?_;subst U;refine Mb (G.room (by have:=R.units;omega)) I xd u4 λd I'=>?_;rw[yb z vw,<- J];exact⟨.bl _,H,I',rfl,i8 S q⟩
   .rw[aF O]at q;exact q.elim,HZ cT⟩
end
theorem FP{k:KX}(h:fL kvs k=cg):k∉kvs.map λp=>p.1:=λz=>by obtain⟨p,U,e⟩:=aE.mp z;unfold fL at h;rw[Option.map_eq_none_iff,List.find?_eq_none]at h;exact h p U (bb e)
theorem Md(k:KX)(v:W)(h:(kvs.map λp=>p.1).Nodup):((j8 kvs k v).map λp=>p.1).Nodup:=by
 unfold j8
 by_cases z:(fL kvs k).isSome=cT
 .rw[ax z,aU];have:((λp:KX×W=>p.1)∘λp:KX×W=>if p.1=k then(p.1,v)else p)=λp=>p.1:=by
   funext p
   show(if p.1=k then(p.1,v)else p).1=p.1
   split<;>rfl
  rw[this];exact h
 .rw[aF z,bN,gQ];have R:fL kvs k=cg:=by
   cases e:fL kvs k with
   |none=>rfl
   |some _=>rw[e]at z;exact(z rfl).elim
  refine⟨h,by simp,λa D b U=>?_⟩;have:b=k:=by simpa using U
  subst this;exact λe=>FP R (e▸D)
def qp(x i v:W)(st:List al):Option (List al):=match gW st x,nC i with
 |some (n,kvs),bi k=>if vj kvs k=cT then bi (st.set n (.dcx (j8 kvs k v)))else cg
 |_,_=>cg
section
theorem Dc.put{K:Type}[DecidableEq K]{G:HV X K}{es:List YV}(D:Dc X μ H s st n kvs a es)(S:gk X.K X.mg μ st H)
  {xs:List (K×i0×gs)} {z:K} {b:i0} {U:W} {v:V} {u:gs} (Y:Vw G μ H kvs xs) (O:bh X.K μ H (G.em z).w (.ref b)) (Z:bh X.K μ H U v) (y:cN v u) :
  gk X.K X.mg μ (st.set n (.dcx (j8 kvs (G.em z) U))) (fF H a (yP a (y9 G.knd (storedH xs z b u)))):=by obtain⟨c,J,Ag⟩:=D.c;obtain⟨o,w,I,d⟩:=D.o;exact S.setG J Ag D.m w I d (D.sq _) rfl ⟨_,dr,D.sm,Paired.imp' (λ_ _ q=>q.mono (ah _) (D.sq _)) (ya (HX Y O Z y)),Md _ _ D.nd⟩
theorem CG(R:ic kk X.A):Py X (Nw X qp):=λW s B H o i v ov iv u Q I y r2 r3 zq=>by
 obtain⟨w,Y,wo,wi,wv,bF,S,ro,ri,Z,e,q⟩:=zq;unfold qp at e
 cases d:gW Y wo with
 |none=>rw[d]at e;cases e
 |some nk=>
  obtain⟨n,kvs⟩:=nk
  cases e2:nC wi with
  |none=>rw[d,e2]at e;cases e
  |some k=>
   rw[d,e2]at e;simp only at e
   split at e
   .rename_i O
    cases e
    obtain⟨a,es,rfl,D⟩:=qo I S d ro;obtain rfl:ov=YT a:=y;have:=v5 e2;subst this;refine HY I D O ri r2 λK inst G z b xs J hv U u4 xd vw=>?_;subst J;subst hv;subst U;refine UY (G.room (by have:=R.units;omega)) I xd u4 λV I'=>⟨_,I',?_⟩
    exact q _ (D.sq _) (D.put S vw ri Z r3)
   .cases e
def PX(X:Cx)(x y:V)(H:Hp)(Q:VK):Prop:=∃a,x=.ref a/\∀(aj:List (i0×Obj)) (σ:St) (s:i2) (u:gs) (E:gs->i2->Prop) (Qv:gs->i2->Prop),bH X aj σ H s->cN y u ->
 (∀v O d,bH X aj σ H d->cN v O->Q v H->Qv O d)->s.TypeIs (.ref a) "dict"/\i1 #[3] X.A (Zr (.ref a) u) Qv E s
def UZ(X:Cx)(d ty:TE):TE:=λσ H Q=>d σ H λx H1=>ty σ H1 λy H2=>PX X x y H2 Q
theorem Me{o i:i9}{td ty:TE}(V:PE X o td)(D:PE X i ty)(O:Qb i):PE X (.Subscript o i pos) (UZ X td ty):=by intro W s B H Q I h;refine Lp PySem.F.slot_dict_getitem.lookup O (ii (V W s B H _ I h) λu d zv=>?_);obtain⟨x,H1,I1,R,w⟩:=zv;refine ii (D W d B H1 _ I1 w) λiv Y Z=>?_;obtain⟨y,H2,I2,U,a,ex,g⟩:=Z;subst ex;obtain rfl:u=YT a:=R;exact g W B Y iv _ _ I2 U λv w' z I3 oD J=>⟨v,H2,I3,oD,J⟩
theorem yd{es:List YV}(D:Dc X μ H s st n kvs a es):s.TypeIs (.ref a) "dict":=by obtain⟨o,W,Z,Y,_⟩:=D.d;exact⟨o,Z,Y.1⟩
def Yy(X:Cx)(x:V)(H:Hp):Prop:=∃a,x=.ref a/\∀(aj:List (i0×Obj)) (σ:St) (s:i2),bH X aj σ H s->s.TypeIs (.ref a) "dict"/\∀b,YT a=.ref b->∃R,s.heap.get? b=bi R/\R.dict=cg
theorem QQ{x:W}{v:V}{w:Nat×List (KX×W)}(S:gk X.K X.mg μ st H)(e:gW st x=bi w)(r:bh X.K μ H x v):Yy X v H:=by
 have⟨a,z,_⟩:∃a,v=.ref a/\True:=by
  cases x with
  |loc m=>obtain⟨a,_,e⟩:=r.locE;exact⟨a,e,trivial⟩
  |_=>simp only[gW]at e;cases e
 subst z;refine⟨a,rfl,λO B s I=>?_⟩;obtain⟨y,J,z,D⟩:=qo I S (n:=w.1) (kvs:=w.2) e r
 cases z
 refine⟨yd D,λb U=>?_⟩
 cases U
 obtain⟨o,d,Z,Y,_⟩:=D.d;exact⟨o,Z,Y.2.1⟩
end
end L2
namespace PK
open PySem
section
variable{w:ms}
theorem FQ{b:Bool}{Q:Int->i2->Prop}(h:Q (hashInt (if b then 1 else 0)) { s with toks:=s.toks+1 }):i1 #[2] A (PySem.pyHash (.bool b)) Q E s:=by
 have R:=rawHash_range (if b then 1 else 0);unfold PySem.pyHash;have W:[ZP b].any Value.onHeap=dw:=rfl;refine aa ?_;rw[cRoomFor,aF (by rw[W];exact bG)];refine ae ?_;refine aa (f7 (typeIs_bool s b) F.slot_bool_hash.lookup ?_);show i1 _ _ (if (bi (Value.builtin "int.__hash__")==bi Zb)=cT then _ else _) Q E s;rw[aF (by rw[beq_builtin_none];exact bG)];refine aa (f7 (typeIs_bool s b) F.slot_bool_hash.lookup ?_);show i1 _ _ (callSpecialIfBoundUnlessNone? (.bool b) "__hash__" _ >>= _) Q E s;refine aa (iH (typeIs_bool s b) F.slot_bool_hash
  (bj F.slot_bool_hash (typeIs_bool s b) entry_int_hash
   (show i1 _ _ (do ret (<- mkInt (rawHash (if b then 1 else 0)))) _ _ s from wpAny_ret_mkInt ?_) (args_int_hash _)))
 show i1 _ _ (if (decide (-(2:Int)^63<=rawHash (if b then 1 else 0))&&decide (rawHash (if b then 1 else 0)<2^63))=cT then _ else _) Q E _;rw[ax (by rw[bb R.1,bb R.2];rfl)];exact ae h
end
noncomputable def isBool:Bool->gs->Bool
 |b,.bool c=>b==c
 |_,_=>dw
theorem iY           {b:Bool}  (h : isBool b v = cT) : v = .bool b := by
  cases v with
  | bool c => have : b = c := by simpa [isBool] using h
              rw [this]
  | _ => cases h
def boolKind(prog:YW)(w:ms):KeyKind prog w Bool where
 is:=isBool
 hash:=λb=>hashInt (if b then 1 else 0)
 inj:=λv a b D U=>by have Z:=iY D;have Y:=iY U;rw[Z]at Y;injection Y
 byValue:=λk v h=>by rw[iY h];rfl
 pyHash:=λW h=>by rw[iY W];exact FQ h
 eqBool:=λ{A E s a b u v Q} hu W h=>by
  rw[iY hu,iY W];have:decide (a=b)=(a==b):=by cases a<;>cases b<;>rfl
  rw[this]at h;exact SeqAt.EqAt.bool_bool a b _ _ _ _ h
 «strs»:=λk x t v h=>by cases h
end PK
namespace L2
open PySem PySem.Spec PyProof.Rows
section
variable{w:ms}{K:Type}[DecidableEq K]{knd:KeyKind prog w K}{es:List YV}{k:K}{key dflt:gs}
end
section
def WJ(kvs:List (KX×W))(k:KX):Bool:=decide (k.tag=0)&&(kvs.all λp=>p.1.tag==0)&&decide (kvs.length<lw)
theorem H_:∀{kvs:List (KX×W)} {es:List YV},Paired (qg X.K μ H) kvs es->(kvs.all λp=>p.1.tag==0)=cT->∀e∈es,∃b,(PK.boolKind X.prog X.w).is b e.key=cT/\e.hash=(PK.boolKind X.prog X.w).hash b
 |_,_,.nil,_=>λe he=>by cases he
 |_,_,.cons (a:=p) (b:=e) r t,h=>λR he=>by
  rw[rO,bc]at h;rcases aG.mp he with rfl|he
  .obtain⟨Y,⟨v,O,J⟩,_⟩:=r;obtain⟨Z,d⟩:=p
   cases Z with
   |bo b=>
    cases bh.blE O
    have B:_=ZP b:=J;exact⟨b,by rw[B];simp[PK.boolKind,PK.isBool],Y⟩
   |fl _=>simp[KX.tag]at h
   |pr _ _=>simp[KX.tag]at h
  .exact H_ t h.2 R he
theorem Ia(b:Bool):∀{kvs:List (KX×W)} {es:List YV},Paired (qg X.K μ H) kvs es->(kvs.all λp=>p.1.tag==0)=cT ->
  (∃w e v,fL kvs (.bo b)=bi w/\(es.find? λe=>(PK.boolKind X.prog X.w).is b e.key)=bi e/\bh X.K μ H w v/\cN v e.val)\/(fL kvs (.bo b)=cg/\(es.find? λe=>(PK.boolKind X.prog X.w).is b e.key)=cg)
 |_,_,.nil,_=>.inr ⟨rfl,rfl⟩
 |_,_,.cons (a:=p) (b:=e) (l₁:=kvs) (l₂:=es) r t,h=>by
  rw[rO,bc]at h;obtain⟨Y,⟨v,O,J⟩,u,D,R⟩:=r;obtain⟨Z,d⟩:=p
  cases Z with
  |bo c=>
   cases bh.blE O
   have y:e.key=.bool c:=J
   by_cases z:c=b
   .subst z;refine .inl ⟨d,e,u,?_,?_,D,R⟩
    .unfold fL;rw[eZ];simp
    .rw[eZ,y];simp[PK.boolKind,PK.isBool]
   .have U:fL ((KX.bo c,d)::kvs) (.bo b)=fL kvs (.bo b):=by unfold fL;rw[eZ];simp[z]
    have V:((e::es).find? λe=>(PK.boolKind X.prog X.w).is b e.key)=es.find? λe=>(PK.boolKind X.prog X.w).is b e.key:=by rw[eZ,y,show(PK.boolKind X.prog X.w).is b (.bool c)=dw by simp[PK.boolKind,PK.isBool,YU z]]
    rw[U,V];exact Ia b t h.2
  |fl _=>simp[KX.tag]at h
  |pr _ _=>simp[KX.tag]at h
end
section
variable{w:ms}{es:List YV}
end
section
theorem U0{es:List YV}(D:Dc X μ H s st n kvs a es)(h:(kvs.all λp=>p.1.tag==0)=cT):s.heap.MapOf (PK.boolKind X.prog X.w) a (findBy (PK.boolKind X.prog X.w).is es.toArray):=by obtain⟨o,W,Z,Y,B⟩:=D.d;exact⟨o,_,W,Z,Y,B,λe J=>H_ D.p h e (by simpa using J),λ_=>rfl⟩
theorem U1{k:KX}(h:WJ kvs k=cT):(∃b,k=.bo b)/\(kvs.all λp=>p.1.tag==0)=cT/\kvs.length<=sizeLine:=by
 unfold WJ at h;rw[bc,bc,df,df]at h;refine⟨?_,h.1.2,jk (cx h.2)⟩
 cases k with
 |bo b=>exact⟨b,rfl⟩
 |fl _=>simp[KX.tag]at h
 |pr _ _=>simp[KX.tag]at h
def CI(x y:W)(st:List al):R W:=match gW st x,nC y with
 |some (_,kvs),bi k=>if (vj kvs k||WJ kvs k)=cT then sK (fL kvs k) λw=>.ok w st else .bad
 |_,_=>.bad
theorem NE{a b:i9}{pos:Pos}(R:ic kk X.A)(ha:SE X a fa)(U:SE X b fb)(O:Qb b:=by intro _ _;rfl):SE X (.Subscript a b pos) (e2 CI fa fb):=⟨(Me ha.h U.h O).imp λB H Q h=>by
 obtain⟨μ,V,J,l,h⟩:=h;refine⟨μ,V,J,l,RK.bind h l λμ1 st1 x v H1 p1 x1 l1 q1 Z=>⟨μ1,V,st1,l1,RK.bind Z l1 λμ2 st2 y u H2 p2 x2 l2 q2 Y=>?_⟩⟩;unfold CI at Y
 cases d:gW st2 x with
 |none=>rw[d]at Y;exact Y.elim
 |some nk=>
  obtain⟨n,kvs⟩:=nk
  cases e2:nC y with
  |none=>rw[d,e2]at Y;exact Y.elim
  |some k=>
   rw[d,e2]at Y;simp only at Y
   by_cases hx:(vj kvs k||WJ kvs k)=cT
   .rw[ax hx]at Y;have:=v5 e2;subst this;obtain⟨a,ea,_⟩:=QQ l2.sto d (q1.mono p2 x2);refine⟨a,ea,λW B s iv E Qv I ry hq=>?_⟩;obtain⟨a',es,ea',D⟩:=qo I l2.sto d (q1.mono p2 x2);rw[ea]at ea'
    cases ea'
    refine⟨yd D,?_⟩;rw[pJ]at hx;rcases hx with hx|hx
    .refine HY I D hx q2 ry λK inst G z b xs hk hv U u4 xd vw=>?_;subst hk;subst U;rcases vh z vw with⟨w,p,v',g1,g2,g3,g4⟩|⟨g1,g2⟩
     .rw[g1]at Y;exact UX (G.room (by have:=R.units;omega)) I xd u4 g2 λs' I'=>hq v' _ s' I' g4 (Y μ2 v' H2 (ah _) dH.refl l2.sto g3)
     .rw[g1]at Y;exact Y.elim
    .obtain⟨⟨b,rfl⟩,hall,_⟩:=U1 hx
     cases bh.blE q2
     obtain rfl:iv=ZP b:=ry;rcases Ia b D.p hall with⟨w,e,v',g1,g2,g3,g4⟩|⟨g1,g2⟩
     .rw[g1]at Y;refine wpAny_getItem_of (knd:=PK.boolKind X.prog X.w) (k:=b) (by simp[PK.boolKind,PK.isBool]) (U0 D hall) (v:=e.val) ?_ (hq v' _ _ (I.tok _) g4 (Y μ2 v' H2 (ah _) dH.refl l2.sto g3));unfold findBy;rw[show(es.toArray.find? λe=>(PK.boolKind X.prog X.w).is b e.key)=es.find? λe=>(PK.boolKind X.prog X.w).is b e.key by simp,g2];rfl
     .rw[g1]at Y;exact Y.elim
   .rw[aF hx]at Y;exact Y.elim⟩
end
open AutoSeq1 (wpAny_loadPart')
noncomputable abbrev za(t:i0):Obj:={ cls:=.type "list_iterator",data:=.fields #[.ref t,.int 0 0] }
section
variable{w:ms}
end
section
end
section
variable{a:i9}{fs:FA}
end
section
end
section
end
section
end
section
end
theorem sR{w:ms}(e:h.get? a=bi o):fG P w H h a (lE a o):=⟨e,⟨o,e⟩,λZ Y p k=>k o p⟩
theorem FR{u:Option gs}(e:h.get? a=bi o)(D:o.data=.cell u)(q:Str):lE a o≠jC a q:=λz=>by have:=congrFun (HO.ext.inj z) h;have t:∃B U t,h.get? a=bi B/\B.data=.fields U/\U[1]?=bi (.str q t):=cast this e;obtain⟨B,U,_,d,e2,_⟩:=t;rw[e]at d;cases d;rw[D]at e2;cases e2
def drp(H:Hp)(c:i0):Hp:=λb=>if b=c then cg else H b
theorem nE(h:b≠c):drp H c b=H b:=by unfold drp;rw[aF h]
theorem sT:drp H c c=cg:=by unfold drp;rw[ax rfl]
section
variable{w:ms}
theorem dH.drp(I:H c=bi (.ext φ)):dH K H (drp H c):=by
 have Y:∀{p:i0} {o:HO},H p=bi o->(∀z,o≠.ext z)->p≠c:=λ{p o} q hn z=>by subst z;rw[I]at q;cases q;exact hn _ rfl
 refine⟨λp U h=>?_,λb o u h=>by rw[nE (Y h (λ_ z=>by cases z))];exact h⟩;rcases h with(h|⟨o,h⟩)|h
 .exact .inl (.inl (by rw[nE (Y h (λ_ z=>by cases z))];exact h))
 .exact .inl (.inr ⟨o,by rw[nE (Y h (λ_ z=>by cases z))];exact h⟩)
 .exact .inr h
theorem mI.drp(R:mI P w H h)(I:H c=bi (.ext φ)):mI P w (drp H c) h:=λb u e=>by
 by_cases U:b=c
 .subst U;rw[sT]at e;cases e
 .rw[nE U]at e;refine(R b u e).stay (λ_ _ _ q=>q) (λx q=>?_) λx d q=>?_
  .rw[nE (by rintro rfl;rw[I]at q;cases q)];exact q
  .rw[nE (by rintro rfl;rw[I]at q;cases q)];exact q
theorem mI.put(R:mI P w H h)(J:H c=cg)(e:h.get? c=bi o):mI P w (fF H c (lE c o)) h:=λb u q=>by
 by_cases U:b=c
 .subst U;rw[dr]at q;cases q;exact sR e
 .rw[cA U]at q;refine(R b u q).stay (λ_ _ _ z=>z) (λx z=>?_) λx d z=>?_
  .rw[cA (by rintro rfl;rw[J]at z;cases z)];exact z
  .rw[cA (by rintro rfl;rw[J]at z;cases z)];exact z
theorem oO{l:List α}{x d:α}(e:(l.set j x)[i]?=bi d):(i=j/\d=x/\j<l.length)\/(i≠j/\l[i]?=bi d):=by
 by_cases q:j=i
 .subst q;have I:j<l.length:=by have:=(ak.mp e).1;simpa using this
  rw[cn I]at e;exact .inl ⟨rfl,(bg e).symm,I⟩
 .rw[bQ q]at e;exact .inr ⟨YU q,e⟩
theorem gk.hide{k:Bool}{x:W}{u:Option gs}(S:gk K mg μ st H)(I:st[j]?=bi (.pin k c o x))(e:h.get? c=bi o)(D:o.data=.cell u):gk K mg μ (st.set j .gone) (L2.drp H c):=by
 obtain⟨a,y,rfl,J,_⟩:=S.get I;have xt:dH K H (L2.drp H a):=dH.drp J;refine⟨λi i' b ci cj Z Y B r2 m1 m2=>?_,by simp[S.len],λi d b Z Y=>?_⟩
 .rcases oO Z with⟨rfl,rfl,_⟩|⟨_,Z⟩
  .cases B
  .rcases oO Y with⟨rfl,rfl,_⟩|⟨_,Y⟩
   .cases r2
   .exact S.nd i i' b ci cj Z Y B r2 m1 m2
 .rcases oO Z with⟨rfl,rfl,_⟩|⟨hij,Z⟩
  .trivial
  .have r:=S.at' i d b Z Y
   by_cases hrd:d.isRo=cT
   .cases d with
    |ro R=>
     obtain⟨O,p,q⟩:=r;refine⟨O,?_,q.mono (ah _) xt⟩;rcases p with⟨o2,p⟩|p
     .exact .inl ⟨o2,xt.z _ _ _ p⟩
     .exact .inr p
    |gone=>trivial
    |lst _=>cases hrd
    |exc _=>cases hrd
    |dct _=>cases hrd
    |rod _=>cases hrd
    |dcx _=>cases hrd
    |rox _=>cases hrd
    |obj _ _=>cases hrd
    |tab _ _ _=>cases hrd
    |pin _ _ _ _=>cases hrd
   .have U:b≠a:=by rintro rfl;exact hij (S.nd i j b d _ Z I (by simpa using hrd) rfl Y y)
    refine r.keep (ah _) xt (λo' V=>by rw[nE U];exact V) λb' q z=>?_;rw[nE (by rintro rfl;rw[J]at z;exact FR e D _ (bg z))];exact z
theorem gk.take'{x:W}{v:V}(S:gk K mg μ st H)(hj:st[j]?=bi .gone)(y:μ[j]?=bi c)(J:H c=cg)(R:bh K μ H x v)(U:∃u,o.data=.cell (bi u)/\cN v u):gk K mg μ (st.set j (.pin cT c o x)) (fF H c (lE c o)):=by
 have O:oG H (fF H c (lE c o)):=ca J _;have S':=S.same O;refine⟨λi i' b ci cj Z Y B r2 m1 m2=>?_,by simp[S.len],λi d b Z Y=>?_⟩
 .rcases oO Z with⟨y1,y2,_⟩|⟨D,I⟩
  .rcases oO Y with⟨z1,_,_⟩|⟨hi2,g2⟩
   .rw[y1,z1]
   .rw[y1,y]at m1;cases m1
    obtain⟨o',z⟩:=(S.at' i' cj c g2 m2).ro_ne r2;rw[J]at z;cases z
  .rcases oO Y with⟨z1,_,_⟩|⟨_,g2⟩
   .rw[z1,y]at m2;cases m2
    obtain⟨o',z⟩:=(S.at' i ci c I m1).ro_ne B;rw[J]at z;cases z
   .exact S.nd i i' b ci cj I g2 B r2 m1 m2
 .rcases oO Z with⟨rfl,rfl,_⟩|⟨_,Z⟩
  .rw[y]at Y;cases Y
   exact⟨rfl,dr,(λz=>by cases z),v,R.mono (ah _) (gg.same O),λ_=>U⟩
  .exact S'.at' i d b Z Y
noncomputable abbrev kr:=Nat×i0×Obj×W
def sU:List Nat->List al->Option (List kr×List al)
 |[],st=>bi ([],st)
 |j::js,st=>match st[j]? with
  |some (.pin cT c o x)=>(match sU js (st.set j .gone)with
   |some (l,bF)=>bi ((j,c,o,x)::l,bF)
   |none=>cg)
  |_=>cg
def oP:List kr->Hp->Hp
 |[],H=>H
 |x::l,H=>oP l (drp H x.2.1)
theorem jG:∀{l:List kr} {H:Hp} {b:i0},(∀x∈l,x.2.1≠b)->oP l H b=H b
 |[],_,_,_=>rfl
 |x::l,H,b,n=>by show oP l (drp H x.2.1) b=_;rw[jG λy Z=>n y (aC _ Z),nE (YU (n x aX))]
theorem vk{l:List kr}(h:∃x∈l,x.2.1=b):oP l H b=cg:=by
 induction l generalizing H with
 |nil=>obtain⟨y,Z,_⟩:=h;exact absurd Z (by simp)
 |cons x l U=>
  unfold oP
  by_cases q:∃z∈l,z.2.1=b
  .exact U q
  .rw[jG λz V R=>q ⟨z,V,R⟩];obtain⟨y,Z,e⟩:=h;rcases aG.mp Z with r|r
   .rw[<- e,r];exact sT
   .exact absurd ⟨y,r,e⟩ q
def A3(K:uR)(μ:List i0)(H:Hp)(h:pk)(x:kr):Prop:=μ[x.1]?=bi x.2.1/\h.get? x.2.1=bi x.2.2.1/\∃u v,x.2.2.1.data=.cell (bi u)/\cN v u/\bh K μ H x.2.2.2 v
theorem v7:∀{js:List Nat} {st bF:List al} {H:Hp} {l:List kr},gk K mg μ st H->mI P w H h->sU js st=bi (l,bF) ->
  gk K mg μ bF (oP l H)/\mI P w (oP l H) h/\dH K H (oP l H)/\(∀x∈l,A3 K μ (oP l H) h x/\H x.2.1=bi (lE x.2.1 x.2.2.1))/\(l.map λx=>x.2.1).Nodup
 |[],st,bF,H,l,S,hok,e=>by cases e;exact⟨S,hok,dH.refl,λ_ z=>absurd z (by simp),ia⟩
 |j::js,st,bF,H,l,S,hok,e=>by
  unfold sU at e
  split at e
  .rename_i c o x O
   split at e
   .rename_i Y W Z
    cases e
    obtain⟨a,R,rfl,J,_,v,V,g⟩:=S.get O;obtain⟨u,d,D⟩:=g rfl;obtain⟨ge,_⟩:=hok _ _ J;have x1:dH K H (L2.drp H a):=dH.drp J;obtain⟨B,r2,r3,r4,r5⟩:=v7 (S.hide O ge d) (hok.drp J) Z;refine⟨B,r2,x1.trans r3,λy hy=>?_,bR.mpr ⟨λz=>?_,r5⟩⟩
    .rcases aG.mp hy with rfl|hy
     .exact⟨⟨R,ge,u,v,d,D,V.mono (ah _) (x1.trans r3)⟩,J⟩
     .obtain⟨I,q2⟩:=r4 y hy;refine⟨I,?_⟩
      by_cases U:y.2.1=a
      .rw[U,sT]at q2;cases q2
      .rw[nE U]at q2;exact q2
    .obtain⟨y,hy,e2⟩:=aE.mp z;have:=(r4 y hy).2;rw[show y.2.1=a from e2,sT]at this;cases this
   .cases e
  .cases e
def CJ:List kr->List al->Option (List al)
 |[],st=>bi st
 |(j,c,o,x)::l,st=>match st[j]? with
  |some .gone=>CJ l (st.set j (.pin cT c o x))
  |_=>cg
def rd:List kr->Hp->Hp
 |[],H=>H
 |x::l,H=>rd l (fF H x.2.1 (lE x.2.1 x.2.2.1))
theorem fU:∀{l:List kr} {H:Hp} {b:i0},(∀x∈l,x.2.1≠b)->rd l H b=H b
 |[],_,_,_=>rfl
 |x::l,H,b,n=>by show rd l (fF H x.2.1 _) b=_;rw[fU λy Z=>n y (aC _ Z),cA (YU (n x aX))]
theorem DZ:∀{l:List kr} {st bF:List al} {H:Hp},gk K mg μ st H->mI P w H h->(∀x∈l,A3 K μ H h x/\H x.2.1=cg)->(l.map λx=>x.2.1).Nodup->CJ l st=bi bF ->
  gk K mg μ bF (rd l H)/\mI P w (rd l H) h/\dH K H (rd l H)
 |[],st,bF,H,S,hok,_,_,e=>by cases e;exact⟨S,hok,dH.refl⟩
 |(j,c,o,x)::l,st,bF,H,S,hok,ha,nd,e=>by
  unfold CJ at e
  split at e
  .rename_i I
   obtain⟨⟨m,g,u,v,d,D,V⟩,R⟩:=ha _ aX;have O:oG H (fF H c (lE c o)):=ca R _;have J:dH K H (fF H c (lE c o)):=gg.same O;have ha':∀y∈l,A3 K μ (fF H c (lE c o)) h y/\fF H c (lE c o) y.2.1=cg:=λy Z=>by obtain⟨⟨U,g',u',v',d',ru',rx'⟩,hn'⟩:=ha y (aC _ Z);refine⟨⟨U,g',u',v',d',ru',rx'.mono (ah _) J⟩,?_⟩;rw[cA λz=>(bR.mp nd).1 (aE.mpr ⟨y,Z,z⟩)];exact hn'
   obtain⟨B,W,Y⟩:=DZ (l:=l) (S.take' I m R V ⟨u,d,D⟩) (hok.put R g) ha' (bR.mp nd).2 e;exact⟨B,W,J.trans Y⟩
  .cases e
def cY:List kr->List al:=λl=>l.map λx=>.pin cT x.2.1 x.2.2.1 x.2.2.2
theorem v8:∀{l:List kr} {st:List al} {μ:List i0} {H:Hp},gk K mg μ st H->mI P w H h->(∀x∈l,H x.2.1=cg/\h.get? x.2.1=bi x.2.2.1/\∃u v,x.2.2.1.data=.cell (bi u)/\cN v u/\bh K μ H x.2.2.2 v)->(l.map λx=>x.2.1).Nodup ->
  gk K mg (μ++l.map λx=>x.2.1) (st++cY l) (rd l H)/\mI P w (rd l H) h/\dH K H (rd l H)
 |[],st,μ,H,S,hok,_,_=>by simp only[cY,io,bD];exact⟨S,hok,dH.refl⟩
 |(j,c,o,x)::l,st,μ,H,S,hok,ha,nd=>by
  obtain⟨R,g,u,v,d,D,V⟩:=ha _ aX;have O:oG H (fF H c (lE c o)):=ca R _;have J:dH K H (fF H c (lE c o)):=gg.same O;have S1:gk K mg (μ++[c]) (st++[.pin cT c o x]) (fF H c (lE c o)):=S.push R ⟨rfl,dr,(λz=>by cases z),v,V.mono (aq _ _) J,λ_=>⟨u,d,D⟩⟩;obtain⟨B,W,I⟩:=v8 (l:=l) S1 (hok.put R g) (λy Z=>by obtain⟨hn',U,u',Y,d',ru',rx'⟩:=ha y (aC _ Z);refine⟨?_,U,u',Y,d',ru',rx'.mono (aq _ _) J⟩;rw[cA λz=>(bR.mp nd).1 (aE.mpr ⟨y,Z,z⟩)];exact hn') (bR.mp nd).2
  rw[aN,aN]at B;exact⟨B,W,J.trans I⟩
end
section
theorem FU{P:i0}{pr:Y7}{fl:Nat}{ps:Array gs}(kO:X.env.code=.ref c)(GH:Zm X.K c P=cT)(w:sP X.base X.mg)
  (kT:ZD sc X.env=pure cl) (I:bH X aj σ H s) (hP:H P=bi (.tbl ps)) (Z:Z0 ps.toList) (Nd:ZH pos ps.toList=cg\/∃W,ZH pos ps.toList=bi (.ref W)/\H W=bi (jC W q))
  (h:∀f W jN ct h' t H',((ZH pos ps.toList=cg/\H W=cg/\H'=vY H P W q ps pos)\/H'=H)->H' f=cg->H' W=bi (jC W q) ->
   bH X aj σ (fF H' f (lE f (Zs name q pr body sc cl jN ((X.mg "__name__").getD .none) W ct))) { s with heap:=h',toks:=t }->Q (.ref f) { s with heap:=h',toks:=t }) :
  i1 #[3] X.A (makeFunction name q pr (.stmts body) sc X.env [] [] [] pos fl) Q E s:=by
 have hPo:s.heap.get? P=bi { cls:=.none,data:=.fields ps }:=I.hok P _ hP;have hgs:s.heap.Ns wU X.mg:=I.mod.glob.keeps I.bk;have hgP:wU≠P:=λz=>by obtain⟨o,J,d,e,D,_⟩:=hgs;rw[z,hPo]at e;cases e;cases D
 obtain⟨bm,Y,b1,b2,b4,b5,b6,b7⟩:=w;have b4':=I.bk _ _ b4;have hbP:bm≠P:=λz=>by rw[z,hPo]at b4';cases b4';cases b5
 have b3:bm≠wU:=λz=>by obtain⟨o,J,d,e,D,_⟩:=hgs;rw[z,e]at b4';cases b4';rw[b7]at D;cases D
 have U:s.heap.BuiltinsAt X.mg P:=⟨bm,Y,b1,b2,b3,hbP,b4',b5,b6,b7⟩
 have CH:=PySem.W.codeHd_of_K I.kIn GH;rcases Nd with R|⟨W,hhit,hH⟩
 .refine PySem.W.makeFunction_K (mg:=X.mg) kT I.ok.glob hgs kO CH hPo Z R hgP U λW ct jN h' V O E0 y KG So=>?_;have hcdn:H W=cg:=I.hok.fresh E0;have hPc:P≠W:=λz=>by rw[z,hcdn]at hP;cases hP
  have I1:=I.tabbed (t':=V) hP E0 (λb o U e=>O b o U e) KG So;have I2:=bH.laid (t':=V) (o:=lE h'.objs.size (Zs name q pr body sc cl jN ((X.mg "__name__").getD .none) W ct)) I1 (λb u e=>ai _ e) (am _) (sR (av _ rfl));exact h _ W jN ct _ V _ (.inl ⟨R,hcdn,rfl⟩) (I1.hok.fresh (am _)) (vg hPc) I2
 .refine PySem.W.makeFunction_hit (mg:=X.mg) kT I.ok.glob hgs kO CH hPo Z hhit U λct jN h' V B hsz=>?_;have I1:=I.kept (t':=V) B;have I2:=bH.laid (t':=V) (o:=lE h'.objs.size (Zs name q pr body sc cl jN ((X.mg "__name__").getD .none) W ct)) I1 (λb u e=>ai _ e) (am _) (sR (av _ rfl));exact h _ W jN ct _ V _ (.inr rfl) (I1.hok.fresh (am _)) hH I2
end
def QR(name q:Str)(pr:Y7)(body:List qd)(sc:Y0)(xs:List Str)(o:Obj):Prop:=∃cl J I W V,cl.map (·.1)=xs/\(cl.map (·.2)).Nodup/\o=Zs name q pr body sc cl J I W V
def Xu(X:Cx)(name q:Str)(pr:Y7)(body:List qd)(sc:Y0)(o:Obj):Prop:=∃J W V,o=Zs name q pr body sc (bU X.env sc.names []) J ((X.mg "__name__").getD .none) W V
open Classical in
noncomputable def QS(ok:α->Prop)(f:α->RS):RS:=if h:∃r,∀a,ok a->f a=r then h.choose else .bad
section
variable{pr:Y7}{d8:List qd}{P:i0}{g:i0->Obj->FS}
def Mf(X:Cx)(name q:Str)(pr:Y7)(body:List qd)(sc:Y0)(xs:List Str)(j:Nat)(P:i0)(pos:Pos)(i:Nat):TS:=λD σ H=>∃μ ρ st,Rl X μ ρ st σ H/\lX st j P pos q /\
 ∀f o H',Xu X name q pr body sc o->QR name q pr body sc xs o->dH X.K H H'->gk X.K X.mg (μ++[f]) (st++[.pin dw f o .non]) H'->D.nx (σ.set i (bi (.ref f))) H'
theorem Mg(kO:X.env.code=.ref c)(GH:Zm X.K c P=cT)(hB:sP X.base X.mg)(hX:X.env.cells=wh m X.env.scope.names [])(pU:∀x∈sc.names,x.2=.free->X.env.scope.names.lookup x.1=bi .cell)
  (Ca:(bU X.env sc.names []).map (·.1)=xs) (jB:xs.Nodup) (hq:qualnameIn X.env name name=q) (hN:X.N.Nodup) (w:X.N[i]?=bi name) (O:GK X.env.scope name) (hf:X.fn name=cT\/X.env.scope.names.lookup name=bi .local)
  (V2:pr.defaults=[]:=by rfl) (X1:pr.kw_defaults=[]:=by rfl) (d:annTrees pr cg X.env=[]:=by rfl) :
  PS X (.FunctionDef name pr body [] cg [] sc cg name pos) (Mf X name q pr body sc xs j P pos i):=λW s B H D I h=>by
 obtain⟨R,V,Y,l,e4,h⟩:=h;obtain⟨aP,hP0,eP,ps,hP,ht,Nd⟩:=l.sto.get e4;subst eP;have has:∀x∈sc.names,x.2=.free->∃c,X.env.cells.lookup x.1=bi c:=λx O hf=>by rw[hX];exact iA (pU x O hf)
 have kT:ZD sc X.env=pure (bU X.env sc.names []):=Hf has;refine PySem.W.nestDef_K V2 X1 d ?_;rw[hq];refine FU (P:=aP) kO GH hB kT I hP ht Nd λf cd jN ct h' t H' hH xf mG I2=>?_;refine vy I2 hN w O (v:=.ref f) rfl (λZ I3=>?_) hf;have ok:Xu X name q pr body sc (Zs name q pr body sc (bU X.env sc.names []) jN ((X.mg "__name__").getD .none) cd ct):=⟨jN,cd,ct,rfl⟩
 have hcl':∀y∈bU X.env sc.names [],X.env.cells.lookup y.1=bi y.2:=lJ sc.names [] has #[5];have nd2:((bU X.env sc.names []).map (·.2)).Nodup:=by
  have nd1:((bU X.env sc.names []).map (·.1)).Nodup:=by rw[Ca];exact jB
  have gen:∀l:List (Str×i0),(∀y∈l,X.env.cells.lookup y.1=bi y.2)->(l.map (·.1)).Nodup->(l.map (·.2)).Nodup:=by
   intro l
   induction l with
   |nil=>intro _ _;exact ia
   |cons y l ih=>
    intro a b;rw[aK,bR]at b ⊢;refine⟨λz=>b.1 ?_,ih (λy U=>a y (aC _ U)) b.2⟩;obtain⟨y',hy',e⟩:=aE.mp z;have:=I.ok.inj _ _ _ (a y aX) (by rw[<- e];exact a y' (aC _ hy'));rw[this];exact aE.mpr ⟨y',hy',rfl⟩
  exact gen _ hcl' nd1
 have hS':gk X.K X.mg R Y H'/\dH X.K H H':=by
  rcases hH with⟨g1,g2,rfl⟩|rfl
  .exact l.sto.tabbed e4 hP g2 ht g1
  .exact⟨l.sto,dH.refl⟩
 obtain⟨S',X'⟩:=hS';have J:oG H' (fF H' f (lE f (Zs name q pr body sc (bU X.env sc.names []) jN ((X.mg "__name__").getD .none) cd ct))):=ca xf _;refine⟨_,_,I3,h f _ _ ok ⟨_,jN,_,cd,ct,Ca,nd2,rfl⟩ (X'.trans (gg.same J)) (S'.push xf ⟨rfl,dr,λ_=>⟨_,cd,rfl,rfl,?_⟩,.non,.non,λz=>by cases z⟩)⟩;rw[cA (by rintro rfl;rw[xf]at mG;cases mG)];exact mG
end
structure CK(N ps xs:List Str)(sc:Y0):Prop where
 kind:sc.kind=.function
 co:sc.isCoroutine=dw
 gen:sc.isGenerator=dw
 nd:N.Nodup
 pre:N.take ps.length=ps
 mid:(N.drop ps.length).take xs.length=xs
 par:∀x∈ps,sc.names.lookup x=bi .local
 nocell:∀y∈sc.names,y.2≠.cell
 fre:∀y∈sc.names,y.2=.free->y.1∈xs
 xfr:∀x∈xs,sc.names.lookup x=bi .free
noncomputable abbrev CL(q:Str)(sc:Y0)(L f:i0)(W:gs)(cl:List (Str×i0)):Env:=PySem.W.envX q sc L f W cl
def lY(CX:Fb)(P:YW)(w:ms)(K:uR)(mg:Str->Option gs)(base:pk)(N:List Str)(qual:Str)(scope:Y0)(f:i0)(W:gs)(cl:List (Str×i0))(A:yy)(outer:List Env)(s:i2)(H:Hp)(E:XK):Cx where
 prog:=P
 w:=w
 K:=K
 mg:=mg
 base:=base
 A:=A.deeper (CL qual scope s.heap.objs.size f W cl)
 N:=N
 s₀:=s
 H₀:=H
 env:=CL qual scope s.heap.objs.size f W cl
 outer:=outer
 stack:=CL qual scope s.heap.objs.size f W cl::outer
 ex:=[]
 calm:=cT
 fn:=λ_=>dw
 pn:=[]
 xe:=λe d=>i1 (model P w) (A.deeper (CL qual scope s.heap.objs.size f W cl)) (leaving (CL qual scope s.heap.objs.size f W cl) e) (λ_ Z=>CX outer H s E e Z) (λR Z=>CX outer H s E R Z) d
theorem lM:∀{l:List (Str×α)} {x:Str} {a:α},(l.map (·.1)).Nodup->(x,a)∈l->l.lookup x=bi a
 |[],_,_,_,h=>absurd h (by simp)
 |(y,b)::l,x,a,nd,h=>by
  rw[aK,bR]at nd;rcases aG.mp h with e|h2
  .cases e;simp[h_]
  .have:(x==y)=dw:=by rw[dk];intro z;exact nd.1 (aE.mpr ⟨_,h2,z⟩)
   rw[h_,this];exact lM nd.2 h2
theorem lZ{R:α->β->Prop}:∀{l:List α} {m:List β} {i:Nat} {a:α},Paired R l m->l[i]?=bi a->∃b,m[i]?=bi b/\R a b
 |_,_,_,_,.nil,e=>by simp at e
 |_,_,0,_,.cons r _,e=>by simp at e;subst e;exact⟨_,rfl,r⟩
 |_,_,i+1,_,.cons _ t,e=>by simpa using lZ (i:=i) t (by simpa using e)
theorem zb:∀{l:List (Str×i0)} {x y:Str} {c:i0},(l.map (·.2)).Nodup->(x,c)∈l->(y,c)∈l->x=y
 |[],_,_,_,_,h,_=>absurd h (by simp)
 |(z,b)::l,x,y,c,nd,h1,h2=>by
  rw[aK,bR]at nd;rcases aG.mp h1 with e|h1
  .rcases aG.mp h2 with e2|h2
   .cases e;cases e2;rfl
   .cases e;exact absurd (aE.mpr ⟨_,h2,rfl⟩) nd.1
  .rcases aG.mp h2 with e2|h2
   .cases e2;exact absurd (aE.mpr ⟨_,h1,rfl⟩) nd.1
   .exact zb nd.2 h1 h2
section
variable{w:ms}
theorem Ib{N:List Str}{cd:gs}{h₁:pk}{tk:Nat}{E:XK}{xg:List gs}{qc:List V}
  (S:CK N ps xs scope) (hd:A.handled=cg) (e0:yE P w K mg base A outer s H) (I:vs.length=ps.length) (r:cR vs us) (rc:cR qc xg) (O:cl.map (·.1)=xs) (W:(cl.map (·.2)).Nodup)
  (J:Paired (λ(y:Str×i0) (u:gs)=>s.heap.IsCell y.2 (bi u)/\H y.2=cg) cl xg)
  (S8:h₁.Ns s.heap.objs.size (λx=>(ps.zip us).reverse.lookup x)) (B:∀b o,s.heap.get? b=bi o->h₁.get? b=bi o) :
  bH (lY CX P w K mg base N qual scope f cd cl A outer s H E) [] (gT N (vs++qc)) H { s with heap:=h₁,toks:=tk }:=by
 have mH:ps.length<=N.length:=by have:=cP Y8 S.pre;rw[a_]at this;omega
 have hxl:xs.length<=N.length-ps.length:=by have:=cP Y8 S.mid;rw[a_,dA]at this;omega
 have kT:qc.length=xs.length:=by rw[rc.length,<- J.length,<- O,ag]
 have ndx:xs.Nodup:=by rw[<- S.mid];exact(S.nd.sublist (nq _ _)).sublist (eN _ _)
 have ndP:ps.Nodup:=by rw[<- S.pre];exact S.nd.sublist (eN _ _)
 have look:∀x∈xs,∃c,cl.lookup x=bi c:=λx hx'=>by rw[<- O]at hx';obtain⟨y,hy,rfl⟩:=aE.mp hx';exact⟨y.2,lM (by rw[O];exact ndx) hy⟩
 have Zu:∀x c,cl.lookup x=bi c->∃u,s.heap.IsCell c (bi u)/\H c=cg:=λx c e=>by have R:=PySem.mem_of_lookup e;obtain⟨i,D⟩:=cM R;obtain⟨u,_,q⟩:=lZ J D;exact⟨u,q⟩
 have noA:∀b:i0,b∉(lY CX P w K mg base N qual scope f cd cl A outer s H E).ex:=λb z=>absurd (show b∈([]:List i0)from z) #[5];refine⟨⟨e0.mod,S.kind,rfl,rfl,am _,λy z c Z Y=>?_,λy hy=>?_,λy c z _=>?_,λ_=>hd,kQ e0.frames,.inr ⟨rfl,rfl⟩,λb z=>absurd z (noA b),e0.bs,e0.bsz,λb _ _=>noA b,λb z=>absurd z (noA b),e0.funs,e0.frf⟩,
  rfl,e0.bare,Un.kept B,⟨_,S8,λi y v Z Y h3=>?_⟩,λy c h=>?_,e0.hok.fresh (am _),λy c h=>?_,λp U=>absurd (show p∈([]:List (i0×Obj))from U) #[5],e0.hok.kept B,?_⟩
 .exact zb W (PySem.mem_of_lookup (show cl.lookup y=bi c from Z)) (PySem.mem_of_lookup (show cl.lookup z=bi c from Y))
 .have hy:scope.names.lookup y=bi .cell\/scope.names.lookup y=bi .free:=hy;rcases hy with hy|hy
  .exact absurd rfl (S.nocell _ (PySem.mem_of_lookup hy))
  .exact look y (S.fre _ (PySem.mem_of_lookup hy) rfl)
 .cases z
 .have Z:N[i]?=bi y:=Z;have D:i<(vs++qc).length:=by
   unfold gT at Y
   by_cases D:i<(vs++qc).length
   .exact D
   .rw[aY (by simpa using D)]at Y;rw[cX]at Y
    split at Y<;>cases Y
  have d:(vs++qc)[i]?=bi v:=by
   unfold gT at Y;rw[aV (by simpa using D),ao]at Y
   cases e:(vs++qc)[i]? with
   |none=>rw[e]at Y;cases Y
   |some a=>rw[e]at Y;cases Y;rfl
  obtain⟨u,hu,rv⟩:=(r.append rc).get d;refine⟨u,rv,?_⟩
  by_cases hip:i<ps.length
  .have U:ps[i]?=bi y:=by rw[<- S.pre,bY hip];exact Z
   have hu':us[i]?=bi u:=by rw[aV (by rw[<- r.length,I];exact hip)]at hu;exact hu
   refine .inl ⟨S.par y (az U),?_⟩;have hz:(ps.zip us)[i]?=bi (y,u):=by rw[List.getElem?_zip_eq_some];exact⟨U,hu'⟩
   refine lM ?_ (List.mem_reverse.mpr (az hz));rw[List.map_reverse];have:(ps.zip us).map (·.1)=ps:=oq (by rw[<- r.length,I];exact am _);rw[this];exact p7.mpr (ndP.imp λh=>YU h)
  .have hx':xs[i-ps.length]?=bi y:=by rw[<- S.mid,bY (by rw[ay,I,kT]at D;omega),List.getElem?_drop];rw[show ps.length+(i-ps.length)=i by omega];exact Z
   have hu':xg[i-ps.length]?=bi u:=by rw[aY (by rw[<- r.length,I];omega),<- r.length,I]at hu;exact hu
   rw[<- O,ao]at hx';obtain⟨yc,ey,e2⟩:=a8.mp hx';obtain⟨u',eu,q1,q2⟩:=lZ J ey;rw[hu']at eu;cases eu
   have hin:y∈xs:=by rw[<- O,<- e2];exact aE.mpr ⟨yc,az ey,rfl⟩
   refine .inr ⟨.inr (S.xfr y hin),yc.2,?_,q1.keeps B⟩;exact lM (l:=cl) (by rw[O];exact ndx) (by rw[<- e2];exact az ey)
 .obtain⟨u,q,_⟩:=Zu y c h;exact⟨_,q.keeps B⟩
 .obtain⟨u,_,q⟩:=Zu y c h;exact q
 .unfold gT;show _=N.length;rw[ay,ag,ki,ay,I,kT];omega
noncomputable def dB(o:Obj):List (Str×i0):=match o.data with
 |.func fd=>fd.closure
 |_=>[]
structure l6(P:YW)(w:ms)(K:uR)(mg:Str->Option gs)(base:pk)(k n m:Nat)(ok:Obj->Prop)(F:List W->List al->R W):Prop where
 run:∀(A:yy) (outer:List Env) (s:i2) (H:Hp) (f:i0) (o:Obj) (fd:Zl) (us xg:List gs) (vs qc:List V) (Q:VK) (E:XK),ic k A->yE P w K mg base A outer s H->s.heap.get? f=bi o->ok o->o.data=.func fd->s.heap.CodeRec fd.code fd.qualname ->
  cR vs us->cR qc xg->us.length=n->Paired (λ(y:Str×i0) (u:gs)=>s.heap.IsCell y.2 (bi u)/\H y.2=cg) (dB o) xg->mF K mg (n+m) F (vs++qc) H Q E ->
  ZC (model P w) A (.call (.ref f) ⟨us,[]⟩) (CR (iM P w) outer P w H s Q E) s
theorem l6.mono{ok:Obj->Prop}(h:l6 P w K mg base j n m ok F)(I:j<=k):l6 P w K mg base k n m ok F:=
 ⟨λA z s H f o y d W U Y Q E R=>h.run A z s H f o y d W U Y Q E (R.mono I)⟩
end
noncomputable def jH(c:i0):al->Bool
 |.pin cT a _ _=>a==c
 |_=>dw
open Classical in
def kL(ok:Obj->Prop)(F:List W->List al->R W)(m:Nat)(ws:List W)(st:List al):R W:=match st[m]? with
 |some (.pin dw _ o _)=>if ok o then(match sU ((dB o).map λy=>(st.findIdx? (jH y.2)).getD 0) st with
   |some (l,st1)=>if (l.map λx=>x.2.1)=(dB o).map (·.2)then(match F (ws++l.map λx=>x.2.2.2) st1 with
     |.ok w U=>(match CJ l U with
      |some J=>.ok w J
      |none=>.bad)
     |_=>.bad)else .bad
   |none=>.bad)else .bad
 |_=>.bad
def nF(i n:Nat)(ok:Obj->Prop)(F:List W->List al->R W)(fs:FA):FE:=λρ st=>match ρ[i]? with
 |some (bi (.loc m))=>(match st[m]? with
  |some (.pin dw _ _ _)=>(fs ρ st).bind λws st1=>if ws.length=n then kL ok F m ws st1 else .bad
  |_=>.bad)
 |_=>.bad
theorem lN{l:List kr}(h:H b=cg):oP l H b=cg:=by
 by_cases q:∃x∈l,x.2.1=b
 .exact vk q
 .rw[jG λx O e=>q ⟨x,O,e⟩];exact h
theorem A4:∀{l:List kr},(∀x∈l,A3 K μ H h x)->∃Y W,cR Y W/\RelWs K μ H (l.map λx=>x.2.2.2) Y/\Paired (λ(x:kr) (u:gs)=>h.IsCell x.2.1 (bi u)) l W
 |[],_=>⟨[],[],.nil,.nilI,.nil⟩
 |x::l,ha=>by obtain⟨Y,W,a,b,c⟩:=A4 (l:=l) λy Z=>ha y (aC _ Z);obtain⟨_,g,u,v,d,D,R⟩:=ha x aX;exact⟨v::Y,u::W,.cons D a,.consI R b,.cons ⟨_,g,d⟩ c⟩
theorem yf{R:i0->α->Prop}:∀{l:List kr} {cl:List (Str×i0)} {m:List α},(l.map λx=>x.2.1)=cl.map (·.2)->Paired (λ(x:kr) u=>R x.2.1 u) l m->Paired (λ(y:Str×i0) u=>R y.2 u) cl m
 |[],[],_,_,.nil=>.nil
 |[],_::_,_,e,_=>by simp at e
 |_::_,[],_,e,_=>by simp at e
 |x::l,y::cl,_,e,.cons r t=>by simp only[aK,lj]at e;exact .cons (by rw[<- e.1];exact r) (yf e.2 t)
theorem A5{R T:α->β->Prop}:∀{l:List α} {m:List β},Paired R l m->(∀a∈l,∀b,T a b)->Paired (λa b=>R a b/\T a b) l m
 |_,_,.nil,_=>.nil
 |_,_,.cons r t,h=>.cons ⟨r,h _ aX _⟩ (A5 t λa D=>h a (aC _ D))
section
variable{fs:FA}
theorem zc(i:Nat){k':Nat}{ok:Obj->Prop}(Nk:l6 X.prog X.w X.K X.mg X.base k n m ok F)(hm:∀o,ok o->(dB o).length=m)(w:ic k' X.A)(hk:k<=k')(ha:SA X (e::es) fs)
  (hN:X.N[i]?=bi x:=by rfl) (hv:Nh X.env.scope x:=by first|exact Or.inl rfl|exact Zv (Or.inl rfl)|exact Zv (Zv rfl)) (tI:(x==("__debug__":Str))=dw:=by decide)
  (mG:(x==("__classdict__":Str))=dw:=by decide) (he:ow (e::es) X.env=(dw,eval e X.env)::ow es X.env:=by rfl) (mH:(YR pos (ow es X.env)).any (·.1)=dw:=by rfl) :
  SE X (.Call (.Name x p) (e::es) [] pos) (nF i n ok F fs):=⟨by
 intro W s B H Q I h;obtain⟨μ,V,D,l,h⟩:=h;unfold nF at h
 split at h
 .rename_i mm J
  split at h
  .rename_i f0 o0 w0 e2
   obtain⟨v,hσ,rx⟩:=qh l.env J;obtain⟨f,hmu,rfl⟩:=rx.locE;obtain⟨a0,hmu0,ea,hH0,hf0,_⟩:=l.sto.get e2;rw[hmu]at hmu0;cases hmu0
   subst ea;refine db (ii ((pv i hN hv tI mG) W s B H (λv H1=>v=.ref f/\H1=H) I ⟨_,hσ,rfl,rfl⟩) λu s1 sj=>?_);obtain⟨v1,H1,I1,ru,rfl,rfl⟩:=sj;obtain rfl:u=YT f:=ru;have fnAt:∀{H2:Hp} {Y:pk} {o:Obj},mI X.prog X.w H2 Y->H2 f=bi (lE f o)->(∃fd cd,o.data=.func fd/\fd.code=.ref cd/\H2 cd=bi (jC cd fd.qualname))->PySem.W.FnAt f Y:=λ{H2 Y o} hok q r=>by
    obtain⟨g,_⟩:=hok _ _ q;obtain⟨fd,_,d,_⟩:=r;obtain⟨c1,c2,c3,c4⟩:=o
    cases d
    exact⟨c1,c2,fd,c4,g⟩
   have h':Uq X fs B H1 λvs H2=>∃μ1 st1 ws,Rl X μ1 V st1 B H2/\μ <+: μ1/\RelWs X.K μ1 H2 ws vs/\RK X (q9 X) μ1 B H2 Q (if ws.length=n then kL ok F mm ws st1 else .bad):=
    ⟨μ,V,D,l,RK.bind h l λμ1 st1 x v H1 p1 x1 l1 q1 Z=>⟨μ1,st1,x,l1,p1,q1,Z⟩⟩
   refine PySem.W.callWith_F (q:=f) (fnAt I1.hok hH0 (hf0 rfl)) (ii (ha.h pos W s1 B H1 _ I1 h') λus s2 zw=>?_) he mH;obtain⟨vs,H2,I2,r,μ1,st1,ws,l1,p1,r1,q⟩:=zw
   by_cases c:ws.length=n
   .rw[ax c]at q;unfold kL at q
    split at q
    .rename_i f1 o1 w1 e3
     obtain⟨a1,hmu1,ea1,hH1,hf1,_⟩:=l1.sto.get e3;rw[cJ p1 hmu]at hmu1;cases hmu1
     subst ea1;have xf:=hf1 rfl;refine⟨fnAt I2.hok hH1 xf,?_⟩;obtain⟨go,_⟩:=I2.hok _ _ hH1;obtain⟨fd,cd,hd,kO,hHc⟩:=xf;obtain⟨⟨oc,vsc,tc,hoc,hdc,hvc⟩,_⟩:=I2.hok _ _ hHc
     by_cases hok:ok o1
     .rw[ax hok]at q
      split at q
      .rename_i lv st2 e4
       by_cases had:(lv.map λx=>x.2.1)=(dB o1).map (·.2)
       .rw[ax had]at q
        split at q
        .rename_i wv fP e5
         split at q
         .rename_i rJ e6
          obtain⟨S1,hok1,x1,la,nd⟩:=v7 l1.sto I2.hok e4;have inH:∀y∈lv,H2 y.2.1≠cg:=λy hy=>by rw[(la y hy).2];simp
          have out:∀{b:i0},H2 b=cg->∀y∈lv,y.2.1≠b:=λ{b} n y hy z=>inH y hy (by rw[z];exact n);have outT:∀{b:i0} {u:HO},H2 b=bi u->(∀φ,u≠.ext φ)->∀y∈lv,y.2.1≠b:=λ{b u} n ne y hy z=>by have:=(la y hy).2;rw[z,n]at this;cases this;exact ne _ rfl
          obtain⟨qc,xg,rc,rwc,pc⟩:=A4 λy hy=>(la y hy).1;have e0:=I2.env0;have e0':yE X.prog X.w X.K X.mg X.base X.A X.stack s2 (oP lv H2):=⟨e0.frames,e0.mod,λb o q=>⟨(e0.bs b o q).1,lN (e0.bs b o q).2⟩,e0.bsz,e0.funs,λb U=>lN (e0.frf b U),hok1,e0.bare⟩
          have kT:Paired (λ(y:Str×i0) (u:gs)=>s2.heap.IsCell y.2 (bi u)/\oP lv H2 y.2=cg) (dB o1) xg:=
           yf (R:=λa u=>s2.heap.IsCell a (bi u)/\oP lv H2 a=cg) had (A5 pc λy hy _=>vk ⟨y,hy,rfl⟩)
          have dC:(ws++lv.map λx=>x.2.2.2).length=n+m:=by rw[ay,c,ag];have:=cP Y8 had;rw[ag,ag,hm o1 hok]at this;rw[this]
          have rall:RelWs X.K μ1 (oP lv H2) (ws++lv.map λx=>x.2.2.2) (vs++qc):=(RelWs.pr.mpr (Paired.imp' (λ_ _ z=>z.mono (ah _) x1) (RelWs.pr.mp r1))).app rwc;refine mo (gN ((Nk.mono hk).run X.A X.stack s2 (oP lv H2) f o1 fd us xg vs qc (λv H'=>∃μ',μ1 <+: μ'/\dH X.K (oP lv H2) H'/\gk X.K X.mg μ' fP H'/\bh X.K μ' H' wv v) (λ_ _ _=>False) w e0' go hok hd ⟨cd,oc,vsc,tc,kO,hoc,hdc,hvc⟩ r rc (by rw[<- r.length,<- r1.len,c]) kT
           ⟨by rw[<- rall.len];exact dC,μ1,_,st2,S1,rall,by rw[e5];exact λμ' v H' a b c d=>⟨μ',a,b,c,d⟩⟩) λrr s' hq=>?_)
          cases rr with
          |error ev=>obtain⟨_,_,_,_,_,_,z,_⟩:=hq;exact z.elim
          |ok fl=>
           cases fl with
           |next=>exact YY hq
           |brk=>exact YY hq
           |cont=>exact YY hq
           |ret u=>
            obtain⟨v,H',os,bare,un,hok',rv,μ',pm,xm,Sm,rm⟩:=hq;have hla:∀y∈lv,A3 X.K μ' H' s'.heap y/\H' y.2.1=cg:=λy hy=>by obtain⟨⟨g1,g2,u1,v1,g3,g4,g5⟩,_⟩:=la y hy;have hn:oP lv H2 y.2.1=cg:=vk ⟨y,hy,rfl⟩;exact⟨⟨cJ pm g1,un.keep _ _ g2 hn (λz=>inH y hy (I2.stkFree _ z)) #[5],u1,v1,g3,g4,g5.mono pm xm⟩,un.free _ _ g2 hn #[5]⟩
            obtain⟨Sp,hokp,xp⟩:=DZ Sm hok' hla nd e6;have un':Un (t5 X.stack) [] H2 (rd lv H') s2.heap s'.heap:=by
             refine⟨λb o q n U O=>un.keep b o q (lN n) U O,λb o q n U O=>un.slot b o q (lN n) U O,λb o q n O=>?_,un.there,λb xs q=>?_,λb o u q=>?_,λb ps q=>?_⟩
             .rw[fU (out n)];exact un.free b o q (lN n) O
             .have ot:=outT q (λ_ z=>by cases z);rw[fU ot];exact un.tups b xs (by rw[jG ot];exact q)
             .have ot:=outT q (λ_ z=>by cases z);rw[fU ot];exact un.frzs b o u (by rw[jG ot];exact q)
             .have ot:=outT q (λ_ z=>by cases z);rw[fU ot];exact un.tbls b ps (by rw[jG ot];exact q)
            have I3:bH X W B (rd lv H') s':=I2.call' os un' hokp bare λb U=>absurd U #[5];exact⟨v,_,I3,rv,q μ' v _ pm (x1.trans (xm.trans xp)) Sp (rm.mono (ah _) xp)⟩
         .exact q.elim
        .exact q.elim
       .rw[aF had]at q;exact q.elim
      .exact q.elim
     .rw[aF hok]at q;exact q.elim
    .exact q.elim
   .rw[aF c]at q;exact q.elim
  .exact h.elim
 .exact h.elim⟩
end
open Classical in
noncomputable def sV(ok:α->Prop)(f:α->R W):R W:=if h:∃r,∀a,ok a->f a=r then h.choose else .bad
theorem sW{ok:α->Prop}{f:α->R W}{r:R W}(z:α)(Y:ok z)(h:∀a,ok a->f a=r):sV ok f=r:=by
 have e:∃r,∀a,ok a->f a=r:=⟨r,h⟩
 unfold sV;rw[ph e,<- e.choose_spec z Y,h z Y]
def f_:List (Str×i0)->List Obj->List W->List kr
 |y::cl,o::os,w::ws=>(0,y.2,o,w)::f_ cl os ws
 |_,_,_=>[]
def pB:List Nat->cE->Option (List W)
 |[],_=>bi []
 |i::is,ρ=>match ρ[i]? with
  |some (bi w)=>(match pB is ρ with
   |some ws=>bi (w::ws)
   |none=>cg)
  |_=>cg
theorem sX{ok:α->Prop}{f:α->R W}(a:α)(h:ok a):sV ok f=f a\/sV ok f=.bad:=by
 unfold sV
 by_cases e:∃r,∀a,ok a->f a=r
 .rw[ph e];exact .inl (e.choose_spec a h).symm
 .rw[dif_neg e];exact .inr rfl
open Classical in
def D0(F:List W->List al->R W)(C:List (Str×i0))(cws ws:List W)(st1:List al)(os:List Obj):R W:=match F ws (st1++cY (f_ C os cws))with
  |.ok w U=>(match sU (Zw st1.length C.length) U with
   |some (l',fP)=>if (l'.map λx=>(x.2.1,x.2.2.1))=(f_ C os cws).map λx=>(x.2.1,x.2.2.1)then .ok w (iJ st1 fP [w])else .bad
   |none=>.bad)
  |_=>.bad
def A6(F:List W->List al->R W)(o:Obj)(cws ws:List W)(st1:List al):R W:=sV (λB:List Obj=>B.length=(dB o).length) (D0 F (dB o) cws ws st1)
section
theorem CM(I:bH X aj σ H s)(l:Rl X μ ρ st σ H):∀{cl:List (Str×i0)} {is:List Nat} {cws:List W},(∀y∈cl,X.env.cells.lookup y.1=bi y.2/\X.env.scope.names.lookup y.1=bi .cell)->Paired (λ(i:Nat) (y:Str×i0)=>X.N[i]?=bi y.1) is cl->pB is ρ=bi cws ->
  ∃os:List Obj,os.length=cl.length/\((f_ cl os cws).map λx=>x.2.1)=cl.map (·.2)/\∀x∈f_ cl os cws,H x.2.1=cg/\s.heap.get? x.2.1=bi x.2.2.1/\∃u v,x.2.2.1.data=.cell (bi u)/\cN v u/\bh X.K μ H x.2.2.2 v
 |[],[],cws,_,.nil,e=>by cases e;exact⟨[],rfl,rfl,λ_ h=>absurd h (by simp[f_])⟩
 |y::cl,i::is,cws,ha,.cons hi t,e=>by
  unfold pB at e
  split at e
  .rename_i w d
   split at e
   .rename_i O e2
    cases e
    obtain⟨os,U,Y,q3⟩:=CM I l (λy Z=>ha y (aC _ Z)) t e2;obtain⟨v,hσ,R⟩:=qh l.env d;obtain⟨J,B⟩:=ha y aX;obtain⟨mm,S8,X3⟩:=id I.loc;obtain⟨u,z,lk⟩:=X3 i y.1 v hi hσ (.inr (.inl B));obtain⟨o,V,D⟩:s.heap.IsCell y.2 (bi u):=by
     rcases lk with⟨kl,_⟩|⟨_,c1,hc1,hcc⟩
     .have:X.env.scope.names.lookup y.1=bi .local:=kl;rw[B]at this;cases this
     .rw[J]at hc1;cases hc1;exact hcc
    refine⟨o::os,by simp[U],by simp only[f_,aK,Y],λx hx=>?_⟩;rcases aG.mp (show x∈(0,y.2,o,w)::f_ cl os O from hx)with rfl|hx
    .exact⟨I.freeC _ _ J,V,u,v,D,z,R⟩
    .exact q3 x hx
   .cases e
  .cases e
variable{fs:FA}
end
theorem qr:∀{ns:List (Str×Y1)} {z:List (Str×i0)} {y:Str×i0},y∈bU env ns z->y∈z\/∃x∈ns,x.1=y.1/\x.2=.free
 |[],z,y,h=>.inl h
 |(n,k)::r,z,y,h=>by
  unfold bU at h;rcases qr h with h|⟨x,O,e⟩
  .by_cases B:(k==Ze)=cT
   .rw[ax B]at h;rcases aG.mp h with rfl|h
    .exact .inr ⟨(n,k),aX,rfl,ky B⟩
    .exact .inl h
   .rw[aF B]at h;exact .inl h
  .exact .inr ⟨x,aC _ O,e⟩
theorem D3{pr:Y7}(h:xs.length=m)(o:Obj)(ok:QR name q pr body sc xs o):(dB o).length=m:=by obtain⟨y,J,I,W,V,O,_,rfl⟩:=ok;rw[<- h,<- O,ag];rfl
noncomputable def WK(a b:List (Str×Y1)):Bool:=b.all λx=>!(x.2==.free)||a.lookup x.1==bi .cell
theorem v9{a b:List (Str×Y1)}(h:WK a b=cT):∀x∈b,x.2=.free->a.lookup x.1=bi .cell:=λx O e=>by have:=fB.mp h x O;rw[e]at this;have t:(!(Ze==Ze)||a.lookup x.1==bi .cell)=cT:=this;simpa using t
abbrev Ti(name q:Str)(st:qd)(xs:List Str):Obj->Prop:=QR name q (dZ st) (dq st) (aI st) xs
section
variable{st:qd}{d8:List qd}{P:i0}{g:i0->Obj->FS}
variable{fs:FA}
end
section
variable{a:i9}
end
end L2
namespace L2
open PySem PySem.Spec PyProof.Rows PySem.W
section
end
end L2
namespace L2
open PySem PySem.Spec PyProof.Rows
section
theorem Ic:ju X (.type "range") (λxs H Q=>∃j:Int,xs=[.int j]/\∀l,H l=cg->Q (.ref l) (fF H l (.rng 0 j))):=by intro W s B H xs d Q I r h;obtain⟨j,rfl,q⟩:=h;obtain⟨u,rfl,R⟩:=lR r;obtain⟨t,rfl⟩:=R;exact call_range_1 ⟨.ref s.heap.objs.size,_,I.laid (λb o e=>ai _ e) (am _) (show fG X.prog X.w _ _ _ (.rng 0 j)from⟨_,_,_,av _ rfl⟩),rfl,q _ (I.hok.fresh (am _))⟩
theorem CN(Y:X.A.handled=cg):ju X (.type "list") (λxs H Q=>∃(p:i0) (n:Nat),xs=[.ref p]/\H p=bi (.rng 0 n)/\n<=1000000/\∀l,H l=cg->Q (.ref l) (fF H l (.lst ((vr n).map λi:Nat=>V.int (i:Int))))):=by
 intro W s B H xs y Q I r h;obtain⟨p,n,rfl,U,R,q⟩:=h;obtain⟨u,rfl,O⟩:=lR r
 cases O
 obtain⟨t,u,v,w⟩:=(show fG X.prog X.w H s.heap p (.rng 0 n)from I.hok p _ U)
 have hsz:aam 0 (n:Int) 1=(n:Int):=by
  rw[rK]
  split<;>omega
 refine call_list_range Y w (small_one #[0] #[0] #[0] #[0]) hsz (aT R #[1]) λh' z hZ c J Z hacc=>?_;obtain⟨ha1,ha2⟩:=hacc;refine⟨.ref s.heap.objs.size,_,I.laid (t':=z) J (am _) (show fG X.prog X.w _ h' _ (.lst ((vr n).map λi:Nat=>V.int (i:Int)))from⟨by rw[ag,eQ];exact aT R #[1],hZ.toList,c,?_,by rw[Z]⟩),rfl,q _ (I.hok.fresh (am _))⟩;obtain⟨l⟩:=hZ;have D:l.length=n:=ha1;have key:∀(k:Nat) (l:List gs),(∀j v,l[j]?=bi v->∃t,v=ZO (((k+j:Nat):Int)) t)->cR ((Zw k l.length).map λi:Nat=>V.int (i:Int)) l:=by
  intro k l
  induction l generalizing k with
  |nil=>intro;exact .nil
  |cons a r d=>
   intro h;refine .cons (h 0 a rfl) (d (k+1) λj v e=>?_);have:=h (j+1) v e;rw[show k+1+j=k+(j+1) by omega];exact this
 have:=key 0 l λj v e=>by obtain⟨t,e⟩:=ha2 j v (by simpa using e);exact⟨t,by rw[e];congr 1;omega⟩
 rw[D,<- List.range_eq_range']at this;exact this
def ue(ws:List W)(st:List al):R W:=match ws with
 |[.int q]=>if 0<=q/\q<=1000000 then .ok (.loc st.length) (st++[.lst (bO 0 q.toNat)])else .bad
 |_=>.bad
theorem FV(n:Nat):RelWs K μ H (bO 0 n) ((vr n).map λi:Nat=>V.int (i:Int)):=by
 unfold bO;generalize vr n=l
 induction l with
 |nil=>exact .nilI
 |cons a r U=>
  refine .consI ?_ U;show bh K μ H (.int (0+(a:Int))) (.int (a:Int));rw[i4];exact .int
theorem Mh{a:i9}{fs:FA}{p p2 pos pos2:Pos}(R:ic kk X.A)(I:X.mg "list"=cg)(w:X.mg "range"=cg)(D:SA X [a] fs)(hg:Gl X "list":=by rfl)(Kq:Gl X "range":=by rfl)
  (J:ow [a] X.env=[(dw,eval a X.env)]:=by rfl) (Aj:ow [Expr.Call (.Name "range" p2) [a] [] pos2] X.env=[(dw,eval (.Call (.Name "range" p2) [a] [] pos2) X.env)]:=by rfl) :
  SE X (.Call (.Name "list" p) [.Call (.Name "range" p2) [a] [] pos2] [] pos) (bC ue fs):=⟨(nM (CN R.hd) hg I boot_list (iI (nM Ic Kq w boot_range D.h #[1] #[1] J rfl) rR Aj) #[1] #[1] Aj rfl).imp λB H Q h=>by
 obtain⟨O,V,Y,l,h⟩:=h;refine⟨O,V,Y,l,RK.bind h l λd W x v H1 p1 x1 l1 U Z=>?_⟩;unfold ue at Z
 split at Z
 .rename_i q
  obtain⟨y,rfl,ry⟩:=U.one
  split at Z
  .rename_i c
   refine⟨q,by rw[ry.intE],λl0 hl0=>⟨l0,q.toNat,rfl,?_,by omega,λl2 hl2=>?_⟩⟩
   .unfold fF;rw[ax rfl,lA c.1]
   .have S':=l1.sto.same (ca hl0 (.rng 0 q));exact Z (d++[l2]) _ _ (aq _ _) (gg.same λb u z=>ca hl2 _ b u (ca hl0 _ b u z)) (S'.newLst hl2 (FV _)) (ny S')
  .exact Z.elim
 .exact Z.elim⟩
end
noncomputable abbrev lO(n:Nat):Option W:=bi (.loc n)
noncomputable abbrev iO(z:Int):Option W:=bi (.int z)
section
end
section
end
section
variable{pr:Y7}{M_ ie:Pos}{P:i0}{dst:qd}
theorem Mi{Q:VK}(I:bH X [] σ H s)(l:Rl X μ ρ st σ H)
  (zY:PS X dst (Mf X name q pr body sc xs j P pos i)) (w:lX st j P pos q) (J:pB is (ρ.set i (bi (.loc st.length)))=bi cws)
  (hX:X.env.cells=wh m X.env.scope.names []) (pU:∀x∈sc.names,x.2=.free->X.env.scope.names.lookup x.1=bi .cell) (jB:((bU X.env sc.names []).map (·.1)).Nodup) (u4:Paired (λ(i:Nat) (y:Str×i0)=>X.N[i]?=bi y.1) is (bU X.env sc.names []))
  (KH:∀y∈bU X.env sc.names [],X.env.scope.names.lookup y.1=bi .cell) (xf:∀x,X.fn x=cT)
  (hN:X.N[i]?=bi name) (hv:Nh X.env.scope name) (tI:(name==("__debug__":Str))=dw) (mG:(name==("__classdict__":Str))=dw)
  (hQ:∀f o os H',QR name q pr body sc xs o->os.length=(dB o).length->dH X.K H H'->gk X.K X.mg (μ++[f]++(f_ (dB o) os cws).map λx=>x.2.1) (st++[.pin dw f o .non]++cY (f_ (dB o) os cws)) H'->Q (.ref f) H') :
  i1 #[3] X.A (execs [dst,.Return (bi (.Name name ie)) M_] X.env) (λfl d=>∃f H',fl=.ret (.ref f)/\d.os=X.s₀.os/\Zp d.gens/\Un X.fs X.ex X.H₀ H' X.s₀.heap d.heap/\mI X.prog X.w H' d.heap/\Q (.ref f) H') X.xe s:=by
 refine iZ (ii (zY [] s σ H { nx:=λσ2 H2=>∃f o,σ2=σ.set i (bi (.ref f))/\Xu X name q pr body sc o/\QR name q pr body sc xs o/\dH X.K H H2/\gk X.K X.mg (μ++[f]) (st++[.pin dw f o .non]) H2,rt:=λ_ _=>False } I ⟨μ,ρ,st,l,w,λf o H' on ok x S=>⟨f,o,rfl,on,ok,x,S⟩⟩) λfl V B=>?_)
 cases fl with
 |ret u=>obtain⟨_,_,_,_,_,z⟩:=B;exact z.elim
 |brk=>obtain⟨_,_,_,z⟩:=B;exact z.elim
 |cont=>obtain⟨_,_,_,z⟩:=B;exact z.elim
 |next=>
  obtain⟨σ2,H2,I2,f,o,rfl,on,ok,x2,S2⟩:=B;have hil:i<σ.length:=by rw[I.len];exact(ak.mp hN).1
  refine iZ (wpAny_Return_some (ii ((pv i hN hv tI mG) [] V _ H2 (λv H1=>v=.ref f/\H1=H2) I2 ⟨_,by rw[cn hil],rfl,rfl⟩) λu W nZ=>?_));obtain⟨v1,H1,I3,ru,rfl,rfl⟩:=nZ;obtain rfl:u=YT f:=ru;have l2:Rl X (μ++[f]) (ρ.set i (bi (.loc st.length))) (st++[.pin dw f o .non]) (σ.set i (bi (.ref f))) H1:=⟨sE (.locI (by rw[l.sto.len];simp)) i (t8 (aq _ _) x2 l.env),S2⟩
  have has:∀x∈sc.names,x.2=.free->∃c,X.env.cells.lookup x.1=bi c:=λx O hf=>by rw[hX];exact iA (pU x O hf)
  have hcl':∀y∈bU X.env sc.names [],X.env.cells.lookup y.1=bi y.2:=lJ sc.names [] has #[5];obtain⟨os,ol,oa,ol2⟩:=CM I3 l2 (λy Z=>⟨hcl' y Z,KH y Z⟩) u4 J;obtain⟨jN,D,ct,rfl⟩:=on;have hclo:dB (Zs name q pr body sc (bU X.env sc.names []) jN ((X.mg "__name__").getD .none) D ct)=bU X.env sc.names []:=rfl;have ndc:((f_ (bU X.env sc.names []) os cws).map λx=>x.2.1).Nodup:=by
   rw[oa];have gen:∀l:List (Str×i0),(∀y∈l,X.env.cells.lookup y.1=bi y.2)->(l.map (·.1)).Nodup->(l.map (·.2)).Nodup:=by
    intro l
    induction l with
    |nil=>intro _ _;exact ia
    |cons y l ih=>
     intro a b;rw[aK,bR]at b ⊢;refine⟨λz=>b.1 ?_,ih (λy Z=>a y (aC _ Z)) b.2⟩;obtain⟨y',hy',e⟩:=aE.mp z;have:=I.ok.inj _ _ _ (a y aX) (by rw[<- e];exact a y' (aC _ hy'));rw[this];exact aE.mpr ⟨y',hy',rfl⟩
   exact gen _ hcl' jB
  obtain⟨S4,hok4,x4⟩:=v8 l2.sto I3.hok ol2 ndc;have Y:=hQ f _ os _ ok (by rw[hclo];exact ol) (x2.trans x4) (by rw[hclo];exact S4);generalize f_ (bU X.env sc.names []) os cws=L at *;have isCell:∀y∈L,∃z,X.env.cells.lookup z=bi y.2.1:=λy Z=>by
   have:y.2.1∈(bU X.env sc.names []).map (·.2):=by rw[<- oa];exact aE.mpr ⟨y,Z,rfl⟩
   obtain⟨z,hz,e⟩:=aE.mp this;exact⟨z.1,by rw[<- e];exact hcl' z hz⟩
  have big:∀y∈L,X.s₀.heap.objs.size<=y.2.1:=λy Z=>by obtain⟨z,hz⟩:=isCell y Z;exact I3.ok.cab z _ (xf z) hz
  have inL:∀{b:i0} {u:HO},H1 b=bi u->∀y∈L,y.2.1≠b:=λ{b u} e y Z z=>by have:=(ol2 y Z).1;rw[z,e]at this;cases this
  have un:=I3.base;refine⟨f,rd L H1,rfl,I3.os,I3.bare,⟨un.keep,un.slot,λb o' U R O=>?_,un.there,λb xs' U=>?_,λb o' u' U=>?_,λb ps U=>?_⟩,hok4,Y⟩
  .rw[fU λy Z z=>?_]
   .exact un.free b o' U R O
   .have:=aB U;rw[<- z]at this;exact absurd (aR this (big y Z)) (bX _)
  .have t:=un.tups b xs' U;rw[fU (inL t)];exact t
  .have t:=un.frzs b o' u' U;rw[fU (inL t)];exact t
  .obtain⟨more,t⟩:=un.tbls b ps U;exact⟨more,by rw[fU (inL t)];exact t⟩
end
def WL(K:uR)(mg:Str->Option gs)(n:Nat)(qy:Obj->Prop)(F:List W->List al->R (List W)):Sp:=λvs H Q E=>vs.length=n/\∃μ ws st,gk K mg μ st H/\RelWs K μ H ws vs/\(match F ws st with
 |.ok cws bF=>∀μ' f o B H0 H',μ <+: μ'->dH K H H0->gk K mg μ' bF H0->dH K H0 H'->qy o->B.length=(dB o).length->gk K mg (μ'++[f]++(f_ (dB o) B cws).map λx=>x.2.1) (bF++[.pin dw f o .non]++cY (f_ (dB o) B cws)) H'->Q (.ref f) H'
 |_=>False)
open Classical in
def Ie(N:Nat)(g:FS)(is:List Nat)(i j:Nat)(P:i0)(pos:Pos)(q:Str):List W->List al->R (List W):=λws st=>match g (ws.map bi++pw (N-ws.length) cg) st with
 |.nx ρ bF=>if lX bF j P pos q then(match pB is (ρ.set i (bi (.loc bF.length)))with
  |some cws=>.ok cws bF
  |none=>.bad)else .bad
 |_=>.bad
theorem QT{w:ms}{st:qd}{N:List Str}{k m:Nat}{g:FS}{dst s1:qd}{M_ ie:Pos}{Pt:i0}
  (F:lB K x qual st f fd) (S:bS N ps (aI st)) (B:ps.length=n) (YI:dq st=[s1,dst,.Return (bi (.Name name ie)) M_])
  (n6:∀(gr:gs) (A:yy) (outer:List Env) (s:i2) (H:Hp) (E:XK),fd.code=gr->ic k (A.deeper (Zt qual (aI st) s.heap.objs.size f gr)) ->
   SS (oF (iM P w) P w K mg base N qual (aI st) f gr A outer s H E) s1 g/\PS (oF (iM P w) P w K mg base N qual (aI st) f gr A outer s H E) dst (Mf (oF (iM P w) P w K mg base N qual (aI st) f gr A outer s H E) name q (dZ dst) (dq dst) (aI dst) xs j Pt pos i) /\
   (∃m,(oF (iM P w) P w K mg base N qual (aI st) f gr A outer s H E).env.cells=wh m (aI st).names [])/\((bU (oF (iM P w) P w K mg base N qual (aI st) f gr A outer s H E).env (aI dst).names []).map (·.1))=xs/\Paired (λ(i:Nat) (y:Str×i0)=>N[i]?=bi y.1) is (bU (oF (iM P w) P w K mg base N qual (aI st) f gr A outer s H E).env (aI dst).names []))
  (pU:WK (aI st).names (aI dst).names=cT) (Ca:QN xs=cT) (hN:N[i]?=bi name) (hv:Nh (aI st) name) (tI:(name==("__debug__":Str))=dw:=by decide) (XQ:(name==("__classdict__":Str))=dw:=by decide) :
  fQ P w K mg base (iM P w) (k+1) f fd ps (WL K mg n (Ti name q dst xs) (Ie N.length g is i j Pt pos q)):=by
 obtain⟨oc,od,kV,jN,pm,an,gr,ct,M8,rfl,lk,mG⟩:=F.ex;refine⟨λY H Q E h=>by rw[B];exact h.1,λA outer s H args us Y Q E R e0 U r GF=>?_⟩;have D:Y.length=ps.length:=by rw[B];exact GF.1
 have KX:K.In s.heap:=e0.mod.kin.keeps λb o e=>(e0.bs b o e).1;have lim:s.heap.NoLimit:=e0.mod.nolimit.keeps λb o e=>(e0.bs b o e).1;have i6:∀y∈ps.zip us,(aI st).names.lookup y.1=bi .local\/((aI st).names.lookup y.1=bi .cell/\((wh (s.heap.objs.size+1) (aI st).names []).lookup y.1).isSome=cT):=λzq hy=>by
  obtain⟨n,v⟩:=zq;rcases S.par n (eX hy).1 with q|q
  .exact .inl q
  .exact .inr ⟨q,PySem.W.cellsFrom_some _ _ _ (.inl q)⟩
 refine kj R.depth (KX _ _ lk) rfl S.co S.gen rfl (PySem.W.codeRec_of KX mG) (U _ _ _ _ ?_);refine mj S.kind i6 λenv Z s1' x=>?_;subst Z;refine⟨lim.keeps x.toInCall.keep,tR ?_⟩;have I:bH (oF (iM P w) P w K mg base N qual (aI st) f gr A outer s H E) [] (gT N Y) H s1':=xP S R.hd e0 D r x;obtain⟨b1,b2,⟨m,b3⟩,b4,b5⟩:=n6 gr A outer s H E rfl (R.deeper _);obtain⟨_,μ,ws,EW,Sr,rws,h⟩:=GF;unfold Ie at h
 cases e:g (ws.map bi++pw (N.length-ws.length) cg) EW with
 |nx ρ1 st1=>
  rw[e]at h;simp only at h
  by_cases ht:lX st1 j Pt pos q
  .rw[ax ht]at h
   cases ec:pB is (ρ1.set i (bi (.loc st1.length)))with
   |none=>rw[ec]at h;exact h.elim
   |some cws=>
    rw[ec]at h;simp only at h;have l0:Rl (oF (iM P w) P w K mg base N qual (aI st) f gr A outer s H E) μ (ws.map bi++pw (N.length-ws.length) cg) EW (gT N Y) H:=by
     refine⟨?_,Sr⟩;unfold gT;rw[<- rws.len];have base:∀(ws:List W) (Y:List V) (m:Nat),RelWs K μ H ws Y->Paired (λ(o:Option W) (s:Option V)=>∀w,o=bi w->∃v,s=bi v/\bh K μ H w v) (ws.map bi++pw m cg) (Y.map bi++pw m cg):=by
      intro ws
      induction ws with
      |nil=>
       intro Y m r;rw[r.nilE]
       induction m with
       |zero=>exact .nil
       |succ m ih=>exact .cons (λw z=>nomatch z) ih
      |cons w ws ih=>
       intro Y m r;obtain⟨y,ys,rfl,ry,rys⟩:=r.consE;exact .cons (λw' z=>⟨y,rfl,by cases z;exact ry⟩) (ih ys m rys)
     exact base ws Y _ rws
    have key:i1 (model P w) (oF (iM P w) P w K mg base N qual (aI st) f gr A outer s H E).A (execs [s1,dst,.Return (bi (.Name name ie)) M_] (oF (iM P w) P w K mg base N qual (aI st) f gr A outer s H E).env) (λfl s'=>∃f' H',fl=.ret (.ref f')/\s'.os=s.os/\Zp s'.gens/\Un (t5 outer) [] H H' s.heap s'.heap/\mI P w H' s'.heap/\Q (.ref f') H') (oF (iM P w) P w K mg base N qual (aI st) f gr A outer s H E).xe s1':=by
     refine iZ (ii (b1.h [] s1' (gT N Y) H { nx:=λσ1 H1=>∃J,μ <+: J/\dH K H H1/\Rl (oF (iM P w) P w K mg base N qual (aI st) f gr A outer s H E) J ρ1 st1 σ1 H1,rt:=λ_ _=>False } I ⟨μ,_,EW,l0,by rw[e];exact λμ' σ' H' p x l=>⟨μ',p,x,l⟩⟩) λfl s2 O=>?_)
     cases fl with
     |ret u=>obtain⟨_,_,_,_,_,z⟩:=O;exact z.elim
     |brk=>obtain⟨_,_,_,z⟩:=O;exact z.elim
     |cont=>obtain⟨_,_,_,z⟩:=O;exact z.elim
     |next=>
      obtain⟨σ1,H1,I1,J,p1,x1,l1⟩:=O;exact Mi I1 l1 b2 ht ec b3 (v9 pU) (by rw[b4];exact v3 Ca) b5 (λy hy=>by
       rcases qr hy with z|⟨z,hz,d,e2⟩
       .exact absurd z #[5]
       .rw[<- d];exact v9 pU z hz e2) (λ_=>rfl) hN hv tI XQ λf' o os H' ok D x S=>h J f' o os H1 H' p1 x1 l1.sto x ok D S
    rw[<- YI]at key;refine eL key (λfl s' O=>?_) λe s' O=>O;obtain⟨f',H',rfl,a1,a2,a3,a4,a5⟩:=O;exact⟨.ref f',H',a1,a2,a3,a4,rfl,a5⟩
  .rw[aF ht]at h;exact h.elim
 |rt _ _=>rw[e]at h;exact h.elim
 |bk _ _=>rw[e]at h;exact h.elim
 |ct _ _=>rw[e]at h;exact h.elim
 |ex _ _ _=>rw[e]at h;exact h.elim
 |bad=>rw[e]at h;exact h.elim
structure xy(P:YW)(w:ms)(K:uR)(mg:Str->Option gs)(base:pk)(k:Nat)(x:Str)(n:Nat)(qy:Obj->Prop)(G:List W->List al->R (List W)):Prop where
 ex:∃(f:i0) (fd:Zl) (ps:List Str),mg x=bi (.ref f)/\keepIn K (.ref f)=cT/\ps.length=n/\xM K fd ps []/\fQ P w K mg base (iM P w) k f fd ps (WL K mg n qy G)
theorem xy.mono{w:ms}(h:xy P w K mg base j x n qy G)(I:j<=k):xy P w K mg base k x n qy G:=by obtain⟨f,y,Z,a,b,c,d,e⟩:=h.ex;exact⟨f,y,Z,a,b,c,d,e.mono I⟩
section
variable{c:i9}{cs:List i9}{pos2:Pos}{y:Str}{fs:FA}
def QU(X:Cx)(fs:FA)(m:Nat)(qy:Obj->Prop)(G:List W->List al->R (List W)):TE:=λσ H Q=>Uq X fs σ H λvs H1=>∃d ws st1,gk X.K X.mg d st1 H1/\RelWs X.K d H1 ws vs/\ws.length=m/\(match G ws st1 with
 |.ok cws bF=>∀μ' f o B H0 H',d <+: μ'->dH X.K H1 H0->gk X.K X.mg μ' bF H0->dH X.K H0 H'->qy o->B.length=(dB o).length->gk X.K X.mg (μ'++[f]++(f_ (dB o) B cws).map λx=>x.2.1) (bF++[.pin dw f o .non]++cY (f_ (dB o) B cws)) H'->Q (.ref f) H'
 |_=>False)
theorem Ig{k':Nat}(Fn:xy X.prog X.w X.K X.mg X.base k y m qy G)(R:ic k' X.A)(J:k<=k')(V:SA X (c::cs) fs)(hg:Gl X y)(tI:(y==("__debug__":Str))=dw)
  (O:ow (c::cs) X.env=(dw,eval c X.env)::ow cs X.env) (mH:(YR pos2 (ow cs X.env)).any (·.1)=dw):PE X (.Call (.Name y p2) (c::cs) [] pos2) (QU X fs m qy G):=by
 intro W s B H Q I h;obtain⟨f,fd,ps,w,hkp,Z,U,Fo⟩:=(Fn.mono J).ex;refine db (oE I hg w ?_ tI);refine Z7 (h₀:=X.base) I.ok.mod.kin hkp (ii (V.h pos2 W s B H _ I h) λus s1 zx=>?_) O mH;obtain⟨Y,H1,I1,r,d,ws,st1,S1,r1,D,q⟩:=zx;refine⟨I1.kIn,?_⟩;have hl':(us++([]:List gs)).length=ps.length:=by rw[bD,<- r.length,<- r1.len,D,Z]
 refine mo (gN (Fo.run X.A X.stack s1 H1 ⟨us,[]⟩ us Y Q (λ_ _ _=>False) R I1.env0 (by have:=U s1 us I1.kIn hl';rwa[bD]at this) r ⟨by rw[<- r1.len];exact D,d,ws,st1,S1,r1,q⟩) λr s' hq=>?_)
 cases r with
 |error e=>obtain⟨_,_,_,_,_,_,z,_⟩:=hq;exact z.elim
 |ok fl=>
  cases fl with
  |ret u=>exact I1.after hq
  |next=>exact YY hq
  |brk=>exact YY hq
  |cont=>exact YY hq
def A7(F:List W->List al->R W)(fa:FE)(m:Nat)(qy:Obj->Prop)(G:List W->List al->R (List W))(fs:FA)(fb:FE):FE:=λρ st=>(fa ρ st).bind λV st1=>(fs ρ st1).bind λZ U=>if Z.length=m then(match G Z U with
  |.ok cws J=>sV (λp:i0×Obj×List Obj=>qy p.2.1/\p.2.2.length=(dB p.2.1).length) (λp=>match fb ρ (J++[.pin dw p.1 p.2.1 .non]++cY (f_ (dB p.2.1) p.2.2 cws))with
   |.ok Y z=>(match F [V,.loc J.length,Y] z with
    |.ok w d=>.ok w (iJ J d [w])
    |_=>.bad)
   |_=>.bad)
  |_=>.bad)else .bad
variable{ea eb:i9}
theorem QV{k2 k':Nat}(Fn:dG X.prog X.w X.K X.mg X.base k x 3 F)(Fc:xy X.prog X.w X.K X.mg X.base k2 y m qy G)(R:ic k' X.A)(hk:k<=k')(VV:k2<=k')(ha:SE X ea fa)(z:SA X (c::cs) fs)(U:SE X eb fb)
  (hg:Gl X x:=by rfl) (Kq:Gl X y:=by rfl) (tI:(x==("__debug__":Str))=dw:=by decide) (SD:(y==("__debug__":Str))=dw:=by decide)
  (Aj:ow (c::cs) X.env=(dw,eval c X.env)::ow cs X.env:=by rfl) (S7:(YR pos2 (ow cs X.env)).any (·.1)=dw:=by rfl)
  (he:ow [ea,.Call (.Name y p2) (c::cs) [] pos2,eb] X.env=(dw,eval ea X.env)::ow [.Call (.Name y p2) (c::cs) [] pos2,eb] X.env:=by rfl) (mH:(YR pos (ow [.Call (.Name y p2) (c::cs) [] pos2,eb] X.env)).any (·.1)=dw:=by rfl)
  (XR:ow [.Call (.Name y p2) (c::cs) [] pos2,eb] X.env=(dw,eval (.Call (.Name y p2) (c::cs) [] pos2) X.env)::ow [eb] X.env:=by rfl) (XJ:ow [eb] X.env=(dw,eval eb X.env)::ow [] X.env:=by rfl) :
  SE X (.Call (.Name x p) [ea,.Call (.Name y p2) (c::cs) [] pos2,eb] [] pos) (A7 F fa m qy G fs fb):=⟨by
 intro O s B H Q I h;obtain⟨f,fd,ps,hm,hkp,hn,hbi,Fo⟩:=(Fn.mono hk).ex;refine db (oE I hg hm ?_ tI);obtain⟨μ,V,J,l,h⟩:=h;have PAll:=iI ha.h (iI (Ig (p2:=p2) (pos2:=pos2) Fc R VV z Kq SD Aj S7) (iI U.h (rR (X:=X)) XJ) XR) he;have h':vA (tE X fa) (vA (QU X fs m qy G) (vA (tE X fb) P4)) B H λvs H1=>∃(fP rJ:List al) (μ3 μ4:List i0) (H0:Hp) (ws:List W),gk X.K X.mg μ3 fP H0/\μ3 <+: μ4/\gk X.K X.mg μ4 rJ H1/\RelWs X.K μ4 H1 ws vs/\ws.length=3/\RK X (q9 X) μ3 B H1 Q (match F ws rJ with
   |.ok w u8=>.ok w (iJ fP u8 [w])
   |_=>.bad):=by
  unfold A7 at h;refine⟨μ,V,J,l,RK.bind h l λd st1 wa va H1 p1 x1 l1 q1 Z=>⟨d,V,st1,l1,RK.bind Z l1 λμ2 st2 xJ vcas H2 p2 x2 l2 q2 Y=>?_⟩⟩
  by_cases cl:xJ.length=m
  .rw[ax cl]at Y;refine⟨μ2,xJ,st2,l2.sto,q2,cl,?_⟩
   cases eG:G xJ st2 with
   |ok cws fP=>
    rw[eG]at Y;simp only at Y ⊢;intro μ3 fA o os H0 H3 p3 x3 S0 x4 ok D S3;rcases sX (ok:=λp:i0×Obj×List Obj=>qy p.2.1/\p.2.2.length=(dB p.2.1).length) (f:=λp=>match fb V (fP++[.pin dw p.1 p.2.1 .non]++cY (f_ (dB p.2.1) p.2.2 cws))with
      |.ok wb rJ=>(match F [wa,.loc fP.length,wb] rJ with
       |.ok w u8=>.ok w (iJ fP u8 [w])
       |_=>.bad)
      |_=>.bad) (fA,o,os) ⟨ok,D⟩with hp|hp
    .rw[hp]at Y;simp only at Y;have p30:μ3 <+: μ3++[fA]++(f_ (dB o) os cws).map λx=>x.2.1:=by rw[aN];exact aq _ _
     have l3:Rl X (μ3++[fA]++(f_ (dB o) os cws).map λx=>x.2.1) V (fP++[.pin dw fA o .non]++cY (f_ (dB o) os cws)) B H3:=l2.to (p3.trans p30) (x3.trans x4) S3;refine⟨_,V,_,l3,?_⟩
     cases e4:fb V (fP++[.pin dw fA o .non]++cY (f_ (dB o) os cws))with
     |ok wb rJ=>
      rw[e4]at Y;simp only at Y;intro μ4 vb H4 p4 x5 S4 rb;have pm:μ3 <+: μ4:=p30.trans p4;refine⟨fP,rJ,μ3,μ4,H0,[wa,.loc fP.length,wb],S0,pm,S4,.consI (q1.mono (p2.trans (p3.trans pm)) (x2.trans (x3.trans (x4.trans x5)))) (.consI ?_ (.consI rb .nilI)),rfl,Y.mono p3 (x3.trans (x4.trans x5))⟩;refine .locI ?_;rw[S0.len];refine cJ p4 ?_;rw[aN,aY (am _),iy];rfl
     |ex _ _=>rw[e4]at Y;exact Y.elim
     |bad=>rw[e4]at Y;exact Y.elim
    .rw[hp]at Y;exact Y.elim
   |ex _ _=>rw[eG]at Y;exact Y.elim
   |bad=>rw[eG]at Y;exact Y.elim
  .rw[aF cl]at Y;exact Y.elim
 refine Z7 (h₀:=X.base) I.ok.mod.kin hkp (ii (PAll pos O s B H _ I h') λus s1 zy=>?_) he mH;obtain⟨vs,H1,I1,r,fP,rJ,μ3,μ4,H0,ws,S0,p34,S4,r4,hl3,q⟩:=zy;refine⟨I1.kIn,?_⟩;refine HG Fo hn R hbi I1 S4 r4 r hl3 ?_
 cases eF:F ws rJ with
 |ok w u8=>
  rw[eF]at q;simp only at q;intro μ5 v H5 p5 x5 S5 r5;obtain⟨μ6,p6,S6,r6⟩:=iP S0 S5 (p34.trans p5) (.consI r5 .nilI);obtain⟨_,e6,r7⟩:=r6.one
  cases e6
  exact q μ6 v H5 p6 x5 S6 r7
 |ex _ _=>rw[eF]at q;exact q.elim
 |bad=>rw[eF]at q;exact q.elim⟩
end
open AutoSeq1 (wpAny_loadPart')
abbrev lx(h:pk)(T:i0)(a b c:gs):Prop:=h.get? T=bi { cls:=.type "tuple",data:=.seq #[a,b,c] }
theorem FW(a b c:gs):checkTypeCall "zip" ⟨[a,b,c],[]⟩=pure ():=by kernel_rfl
theorem Ih(a b c:gs):checkBuiltinCall "zip.__new__" ⟨[.type "zip",a,b,c],[]⟩=pure ():=by kernel_rfl
theorem FX(a b c d:gs):argsOk "object.__init__" ⟨[a,b,c,d],[]⟩:=by unfold argsOk;rw[signature?_of (id:="object.__init__") (n:=['_','_','t','i','n','i','_','_']) (o:=['t','c','e','j','b','o']) (by kernel_rfl) F.owner_object];kernel_rfl
section
variable{w:ms}
theorem sY{T:i0}{a b c x:gs}{Q:Unit->i2->Prop}(B:lx s.heap T a b c)
  (h:∀h',h'.get? T=bi { cls:=.type "tuple",data:=.seq ((#[a,b,c]:Array gs).setIfInBounds k x) }->Zy T s.heap h'->Q () { s with heap:=h' }) :
  i1 #[2] A (updateSeq T (·.setIfInBounds k x)) Q E s:=by refine lg B rfl (h _ ?_ (eS ..));rw[dI _ B rfl];simp[Zh]
structure Z3(h:pk)(n a b c:i0)(k:Nat)(f:gs):Prop where
 z:YX h (n+5) (n+3) (n+4) f
 P:lx h (n+3) (.ref n) (.ref (n+1)) (.ref (n+2))
 O:∃u v w,lx h (n+4) u v w
 i:h.IsListIter n a k
 j:h.IsTupleIter (n+1) b k
 l:h.IsTupleIter (n+2) c k
variable{n:i0}{xs zs:Array gs}{x y t:gs}
theorem Mj(D:a<n)(U:b<n)(J:c<n)(q:Z3 s.heap n a b c k .none)(la:s.heap.IsList a xs)(lb:s.heap.IsTuple b ys)(lc:s.heap.IsTuple c zs)
  (O:xs[k]?=bi x) (Z:ys[k]?=bi y) (B:zs[k]?=bi t)
  (hQ:∀g,Z3 g n a b c (k+1) (yx s.heap.objs.size)->lx g s.heap.objs.size x y t ->
   (∀d o,d≠n+5->d≠n+4->d≠n->d≠n+1->d≠n+2->s.heap.get? d=bi o->g.get? d=bi o)->Q (.ref s.heap.objs.size) { s with heap:=g }) :
  i1 #[2] A (Builtin.«zip.__next__» ⟨[.ref (n+5)],[]⟩) (λjM W=>∃v,jM=.done (.ret v)/\Q v W) E s:=by
 obtain⟨qz,qP,⟨u0,v0,w0,qO⟩,I,q2,q3⟩:=q;have N:∀{p q:Nat},p≠q->n+p≠n+q:=λh e=>h (eV e);have M:∀{d p:Nat},d<n->d≠n+p:=λh=>aJ (aR h (ou _ _));show i1 _ _ (field (.ref (n+5)) 2 >>= _) _ _ _;refine aa (cf qz rfl (x:=.bool dw) rfl ?_);show i1 _ _ (field (.ref (n+5)) 3 >>= _) _ _ _;refine aa (cf qz rfl (x:=.ref (n+3)) rfl (aa (bP qP rfl ?_)));show i1 _ _ (ZV (.ref (n+5)) >>= _) _ _ _;refine aa ?_;unfold ZV;refine aa (cf qz rfl (x:=.none) rfl (ae ?_));simp only[gu];refine aa (fC (aa (cf qz rfl (x:=.ref (n+4)) rfl ?_)));refine aa (bA qz #[5] λz z1 V=>?_)
 replace z1:YX z (n+5) (n+3) (n+4) .ellipsis:=z1
 refine aa ?_;simp only[i3,lh,eY,jY];refine aa (aa (fO ?_));show i1 _ _ (Zi (.ref n) >>= _) _ _ _;have n0:∀p,p≠0->n≠n+p:=λp h e=>h (eV (e.symm.trans (iu n).symm));refine aa (pj (I.extBut V.extBut (n0 5 #[1])) (la.extBut V.extBut (M D)) O λR k2 Y=>ae ?_);have O2:lx R (n+4) u0 v0 w0:=Y.extBut _ _ (n0 4 #[1]).symm (V.extBut _ _ (N #[1]) qO);refine aa (bP O2 rfl (aa (sY O2 λg3 O3 s3=>?_)))
 replace O3:lx g3 (n+4) x v0 w0:=O3
 refine aa (iU (ae (aa (aa (fO ?_)))));show i1 _ _ (Zi (.ref (n+1)) >>= _) _ _ _;refine aa (iF (((q2.extBut V.extBut (N #[1])).extBut Y.extBut (n0 1 #[1]).symm).extBut s3.extBut (N #[1]))
  (((lb.extBut V.extBut (M U)).extBut Y.extBut (aJ U)).extBut s3.extBut (M U)) Z λg4 k4 s4=>ae ?_)
 have O4:lx g4 (n+4) x v0 w0:=s4.extBut _ _ (N #[1]) O3;refine aa (bP O4 rfl (aa (sY O4 λg5 O5 s5=>?_)))
 replace O5:lx g5 (n+4) x y w0:=O5
 refine aa (iU (ae (aa (aa (fO ?_)))));show i1 _ _ (Zi (.ref (n+2)) >>= _) _ _ _;refine aa (iF (((((q3.extBut V.extBut (N #[1])).extBut Y.extBut (n0 2 #[1]).symm).extBut s3.extBut (N #[1])).extBut s4.extBut (N #[1])).extBut s5.extBut (N #[1]))
  (((((lc.extBut V.extBut (M J)).extBut Y.extBut (aJ J)).extBut s3.extBut (M J)).extBut s4.extBut (M J)).extBut s5.extBut (M J)) B λg6 k6 s6=>ae ?_)
 have O6:lx g6 (n+4) x y w0:=s6.extBut _ _ (N #[1]) O5;refine aa (bP O6 rfl (aa (sY O6 λg7 O7 s7=>?_)))
 replace O7:lx g7 (n+4) x y t:=O7
 refine aa (iU (ae (ae (aa (bP O7 rfl (aa (mq ?_)))))));have sz:g7.objs.size=s.heap.objs.size:=by rw[s7.1,s6.1,s5.1,s4.1,s3.1,Y.1,V.1]
 have kp:∀d o,d≠n+4->d≠n->d≠n+1->d≠n+2->z.get? d=bi o->g7.get? d=bi o:=λd o c2 c3 c4 c5 e=>
  s7.extBut _ _ c2 (s6.extBut _ _ c5 (s5.extBut _ _ c2 (s4.extBut _ _ c4 (s3.extBut _ _ c2 (Y.extBut _ _ c3 e)))))
 have z7:YX g7 (n+5) (n+3) (n+4) .ellipsis:=kp _ _ (N #[1]) (n0 5 #[1]).symm (N #[1]) (N #[1]) z1;have P7:lx g7 (n+3) (.ref n) (.ref (n+1)) (.ref (n+2)):=kp _ _ (N #[1]) (n0 3 #[1]).symm (N #[1]) (N #[1]) (V.extBut _ _ (N #[1]) qP);have a7:g7.IsListIter n a (k+1):=((((k2.extBut s3.extBut (n0 4 #[1])).extBut s4.extBut (n0 1 #[1])).extBut s5.extBut (n0 4 #[1])).extBut s6.extBut (n0 2 #[1])).extBut s7.extBut (n0 4 #[1]);have b7:g7.IsTupleIter (n+1) b (k+1):=((k4.extBut s5.extBut (N #[1])).extBut s6.extBut (N #[1])).extBut s7.extBut (N #[1]);have c7:g7.IsTupleIter (n+2) c (k+1):=k6.extBut s7.extBut (N #[1]);have zlt:n+5<g7.objs.size:=aB z7;show i1 _ _ (aah (.ref (n+5)) (.ref g7.objs.size) >>= _) _ _ _;refine aa ?_;unfold aah;have z8:YX (g7.push { cls:=.type "tuple",data:=.seq #[x,y,t] }) (n+5) (n+3) (n+4) .ellipsis:=ai _ z7;refine aa (bA z8 #[5] λg9 z9 s9=>?_)
 replace z9:YX g9 (n+5) (n+3) (n+4) (yx g7.objs.size):=z9
 refine bA z9 #[5] λgA zA sA=>?_
 replace zA:YX gA (n+5) (n+3) (n+4) (yx g7.objs.size):=zA
 have up:∀d o,d≠n+5->g7.get? d=bi o->gA.get? d=bi o:=λd o c1 e=>sA.extBut _ _ c1 (s9.extBut _ _ c1 (ai _ e));have TA:lx gA g7.objs.size x y t:=sA.extBut _ _ (eM zlt) (s9.extBut _ _ (eM zlt) (av _ rfl));rw[sz]at zA TA;refine ae ⟨_,rfl,?_⟩;show Q (.ref g7.objs.size) _;rw[sz];exact hQ gA ⟨zA,up _ _ (N #[1]) P7,⟨_,_,_,up _ _ (N #[1]) O7⟩,a7.at λo e=>up _ o (n0 5 #[1]) e,b7.at λo e=>up _ o (N #[1]) e,c7.at λo e=>up _ o (N #[1]) e⟩ TA
  λd o c1 c2 c3 c4 c5 e=>up d o c1 (kp d o c2 c3 c4 c5 (V.extBut _ _ c1 e))
theorem QW{Q:Fin->i2->Prop}(hh:A.handled=cg)(D:a<n)(U:b<n)(J:c<n)(q:Z3 s.heap n a b c k .none)(la:s.heap.IsList a xs)(lb:s.heap.IsTuple b ys)(lc:s.heap.IsTuple c zs)
  (z:xs[k]?=cg\/ys[k]?=cg\/zs[k]?=cg)
  (hE:∀g e,(∀d o,d≠n+5->d≠n+4->d≠n->d≠n+1->d≠n+2->s.heap.get? d=bi o->g.get? d=bi o)->(∃o,g.get? e=bi o/\o.cls=.type "StopIteration")->E (.ref e) { s with heap:=g }) :
  i1 #[2] A (Builtin.«zip.__next__» ⟨[.ref (n+5)],[]⟩) Q E s:=by
 obtain⟨qz,qP,⟨u0,v0,w0,qO⟩,I,q2,q3⟩:=q;have N:∀{p q:Nat},p≠q->n+p≠n+q:=λh e=>h (eV e);have M:∀{d p:Nat},d<n->d≠n+p:=λh=>aJ (aR h (ou _ _));have n0:∀p,p≠0->n≠n+p:=λp h e=>h (eV (e.symm.trans (iu n).symm));show i1 _ _ (field (.ref (n+5)) 2 >>= _) _ _ _;refine aa (cf qz rfl (x:=.bool dw) rfl ?_);show i1 _ _ (field (.ref (n+5)) 3 >>= _) _ _ _;refine aa (cf qz rfl (x:=.ref (n+3)) rfl (aa (bP qP rfl ?_)));show i1 _ _ (ZV (.ref (n+5)) >>= _) _ _ _;refine aa ?_;unfold ZV;refine aa (cf qz rfl (x:=.none) rfl (ae ?_));simp only[gu];refine aa (fC (aa (cf qz rfl (x:=.ref (n+4)) rfl ?_)));refine aa (bA qz #[5] λg1 z1 V=>?_)
 replace z1:YX g1 (n+5) (n+3) (n+4) .ellipsis:=z1
 refine aa ?_;simp only[i3,lh,eY,jY];refine aa (aa (fO ?_));show i1 _ _ (Zi (.ref n) >>= _) _ _ _;have jM:∀(g2:pk) (e:i0),(∀d o,d≠n+4->d≠n->d≠n+1->d≠n+2->g1.get? d=bi o->g2.get? d=bi o)->(∃o,g2.get? e=bi o/\o.cls=.type "StopIteration")->i1 #[2] A (setField (.ref (n+5)) 0 .none) (λ_ W=>E (.ref e) W) E { s with heap:=g2 }:=λg2 e kp ye=>by
  obtain⟨oe,Z,Y⟩:=ye;have z2:YX g2 (n+5) (n+3) (n+4) .ellipsis:=kp _ _ (N #[1]) (n0 5 #[1]).symm (N #[1]) (N #[1]) z1;have nez:e≠n+5:=λq=>by subst q;rw[z2]at Z;cases Z;simp at Y
  exact bA z2 #[5] λg3 _ s3=>hE g3 e (λd o c1 c2 c3 c4 c5 q=>s3.extBut _ _ c1 (kp d o c2 c3 c4 c5 (V.extBut _ _ c1 q))) ⟨oe,s3.extBut _ _ nez Z,Y⟩
 cases O:xs[k]? with
 |none=>
  exact aa (wpAny_nextOf_list_end hh (I.extBut V.extBut (n0 5 #[1])) (la.extBut V.extBut (M D)) O λg2 e s2 ye=>jM g2 e (λd o _ c3 _ _ q=>s2 _ _ c3 q) ye)
 |some x=>
  have he':ys[k]?=cg\/zs[k]?=cg:=by rcases z with h|h;rw[O]at h;cases h;exact h
  refine aa (pj (I.extBut V.extBut (n0 5 #[1])) (la.extBut V.extBut (M D)) O λg2 k2 s2=>ae ?_);have O2:lx g2 (n+4) u0 v0 w0:=s2.extBut _ _ (n0 4 #[1]).symm (V.extBut _ _ (N #[1]) qO);refine aa (bP O2 rfl (aa (sY O2 λg3 O3 s3=>?_)))
  replace O3:lx g3 (n+4) x v0 w0:=O3
  refine aa (iU (ae (aa (aa (fO ?_)))));show i1 _ _ (Zi (.ref (n+1)) >>= _) _ _ _;have j3:=((q2.extBut V.extBut (N #[1])).extBut s2.extBut (n0 1 #[1]).symm).extBut s3.extBut (N #[1]);have b3:=((lb.extBut V.extBut (M U)).extBut s2.extBut (aJ U)).extBut s3.extBut (M U)
  cases R:ys[k]? with
  |none=>exact aa (lD hh j3 b3 R λg4 e s4 ye=>jM g4 e (λd o c2 c3 c4 _ q=>s4 _ _ c4 (s3.extBut _ _ c2 (s2.extBut _ _ c3 q))) ye)
  |some y=>
   have B:zs[k]?=cg:=by rcases he' with h|h;rw[R]at h;cases h;exact h
   refine aa (iF j3 b3 R λg4 k4 s4=>ae ?_);have O4:lx g4 (n+4) x v0 w0:=s4.extBut _ _ (N #[1]) O3;refine aa (bP O4 rfl (aa (sY O4 λg5 O5 s5=>?_)));refine aa (iU (ae (aa (aa (fO ?_)))));show i1 _ _ (Zi (.ref (n+2)) >>= _) _ _ _;exact aa (lD hh (((((q3.extBut V.extBut (N #[1])).extBut s2.extBut (n0 2 #[1]).symm).extBut s3.extBut (N #[1])).extBut s4.extBut (N #[1])).extBut s5.extBut (N #[1]))
    (((((lc.extBut V.extBut (M J)).extBut s2.extBut (aJ J)).extBut s3.extBut (M J)).extBut s4.extBut (M J)).extBut s5.extBut (M J)) B λg6 e s6 ye=>jM g6 e (λd o c2 c3 c4 c5 q=>s6 _ _ c5 (s5.extBut _ _ c2 (s4.extBut _ _ c4 (s3.extBut _ _ c2 (s2.extBut _ _ c3 q))))) ye)
theorem Mk{Q:Option gs->i2->Prop}(D:a<n)(U:b<n)(J:c<n)(q:Z3 s.heap n a b c k .none)(z:s.heap.IsList a xs)(R:s.heap.IsTuple b ys)(lc:s.heap.IsTuple c zs)
  (O:xs[k]?=bi x) (Z:ys[k]?=bi y) (B:zs[k]?=bi t)
  (I:∀g,Z3 g n a b c (k+1) (yx s.heap.objs.size)->lx g s.heap.objs.size x y t ->
   (∀d o,d≠n+5->d≠n+4->d≠n->d≠n+1->d≠n+2->s.heap.get? d=bi o->g.get? d=bi o)->Q (bi (.ref s.heap.objs.size)) { s with heap:=g }) :
  i1 #[2] A (Y2 (.ref (n+5))) Q E s:=by
 have T:s.TypeIs (.ref (n+5)) "zip":=⟨_,q.z,rfl⟩
 unfold Y2;exact aa (fM (bz (name:=Zk "__next__") T f9 (bj f9 T kB
   (Mj D U J q z R lc O Z B λg Y V W=>ae (I g Y V W)) (jZ _))))
theorem Ml{Q:Option gs->i2->Prop}(Y:A.handled=cg)(D:a<n)(U:b<n)(J:c<n)(q:Z3 s.heap n a b c k .none)(z:s.heap.IsList a xs)(R:s.heap.IsTuple b ys)(lc:s.heap.IsTuple c zs)
  (O:xs[k]?=cg\/ys[k]?=cg\/zs[k]?=cg)
  (I:∀g,(∀d o,d≠n+5->d≠n+4->d≠n->d≠n+1->d≠n+2->s.heap.get? d=bi o->g.get? d=bi o)->Q cg { s with heap:=g }):i1 #[2] A (Y2 (.ref (n+5))) Q E s:=by
 have T:s.TypeIs (.ref (n+5)) "zip":=⟨_,q.z,rfl⟩
 unfold Y2;refine aa (fM (bz (name:=Zk "__next__") T f9 (bj f9 T kB (QW Y D U J q z R lc O λg e B Z=>?_) (jZ _))));obtain⟨o,V,W⟩:=Z;exact aa (dY (T:="StopIteration") (b:=cT) ⟨o,V,W⟩ jU (ae (I _ B)))
end
abbrev WM(h:pk)(a:i0):pk:=h.push (za a)
abbrev WN(h:pk)(a b:i0):pk:=(WM h a).push (qH b)
abbrev WO(h:pk)(a b c:i0):pk:=(WN h a b).push (qH c)
abbrev WP(h:pk)(a b c:i0):pk:=(WO h a b c).push { cls:=.type "tuple",data:=.seq #[.ref h.objs.size,.ref (WM h a).objs.size,.ref (WN h a b).objs.size] }
abbrev WQ(h:pk)(a b c:i0):pk:=(WP h a b c).push { cls:=.type "tuple",data:=.seq #[.none,.none,.none] }
abbrev QX(h:pk)(a b c:i0):pk:=(WQ h a b c).push { cls:=.type "zip",data:=.fields #[.none,.bool dw,.bool dw,.ref (WO h a b c).objs.size,.ref (WP h a b c).objs.size] }
theorem QY     (a b c : i0) (xs ys V : Array gs) : Meets (Builtin.«zip.__new__» ⟨[.type "zip", .ref a, .ref b, .ref c], []⟩) (λ_ R s => s.heap.IsList a xs /\ s.heap.IsTuple b ys /\ s.heap.IsTuple c V /\
      R (.ok (.ret (.ref (WQ  s.heap a b c).objs.size))) { s with heap := QX  s.heap a b c }) :=
  .of_wp λW w A R s h => by
    obtain ⟨Z, g, d, z, B⟩ := s;obtain ⟨D, U, J, h⟩ := h;have y := sub_zip;have hA : Heap.IsList (ZQ ⟨Z, g, d, z, B⟩) a xs := D;have hB : Heap.IsTuple (ZQ ⟨Z.push (za      a), g, d, z, B⟩) b ys := U.at λo e => ai                     _ e;have hC : Heap.IsTuple (ZQ ⟨(Z.push (za      a)).push (qH      b), g, d, z, B⟩) c V := J.at λo e => ai                     _ (ai                     _ e)
    wp_walk using jO                hA, fw                 hB, fw                 hC
    exact ⟨_, rfl, h⟩
section
variable{w:ms}
theorem Mm{xs V:Array gs}(D:s.heap.IsList a xs)(U:s.heap.IsTuple b ys)(J:s.heap.IsTuple c V)
  (q:∀g,Z3 g s.heap.objs.size a b c 0 .none->(∀d o,s.heap.get? d=bi o->g.get? d=bi o)->Q (.ref (s.heap.objs.size+5)) { s with heap:=g }) :
  i1 #[2] A (call (.type "zip") [.ref a,.ref b,.ref c]) Q E s:=by
 refine callType_new F.called_zip #[1] (FW _ _ _) (Ih _ _ _) (λR=>FX R _ _ _) F.entry_zip_new (QY a b c xs ys V) ⟨D,U,J,?_⟩;have Z:(WM s.heap a).objs.size=s.heap.objs.size+1:=bt ..;have I:(WN s.heap a b).objs.size=s.heap.objs.size+2:=by rw[bt,Z]
 have B:(WO s.heap a b c).objs.size=s.heap.objs.size+3:=by rw[bt,I]
 have n4:(WP s.heap a b c).objs.size=s.heap.objs.size+4:=by rw[bt,B]
 have n5:(WQ s.heap a b c).objs.size=s.heap.objs.size+5:=by rw[bt,n4]
 have p:∀{h:pk} {c:i0} {o u:Obj},h.get? c=bi o->(h.push u).get? c=bi o:=λe=>ai _ e;have g6:(QX s.heap a b c).get? (WQ s.heap a b c).objs.size=bi _:=av _ rfl;have W:(QX s.heap a b c).get? (WP s.heap a b c).objs.size=bi _:=p (av _ rfl);have O:(QX s.heap a b c).get? (WO s.heap a b c).objs.size=bi _:=p (p (av _ rfl));have y:(QX s.heap a b c).get? (WN s.heap a b).objs.size=bi _:=p (p (p (av _ rfl)));have Y:(QX s.heap a b c).get? (WM s.heap a).objs.size=bi _:=p (p (p (p (av _ rfl))));have z:(QX s.heap a b c).get? s.heap.objs.size=bi _:=p (p (p (p (p (av _ rfl)))));show _/\_;rw[B,n4,n5]at g6;rw[Z,I,B]at O;rw[n4]at W;rw[I]at y;rw[Z]at Y;rw[n5];exact⟨⟨_,g6,rfl⟩,q _ ⟨g6,O,⟨_,_,_,W⟩,⟨_,z,rfl,rfl⟩,⟨_,Y,rfl,rfl⟩,⟨_,y,rfl,rfl⟩⟩ λd o e=>p (p (p (p (p (p e)))))⟩
end
def Yf(K:uR)(a b c:i0):It:=
  ⟨λi H=>∃xs ys D x y z,sw K H a xs/\gg K H b ys/\gg K H c D/\xs[i]?=bi x/\ys[i]?=bi y/\D[i]?=bi z,
   λi H v H'=>∃p,H p=cg/\v=.ref p/\∀xs ys D x y z,sw K H a xs->gg K H b ys->gg K H c D->xs[i]?=bi x->ys[i]?=bi y->D[i]?=bi z->H'=fF H p (.tup [x,y,z]),
   λi H=>∃xs ys D,sw K H a xs/\gg K H b ys/\gg K H c D/\(xs.length<=i\/ys.length<=i\/D.length<=i)⟩
theorem Mn{w:ms}{n:i0}(ha:a<n)(U:b<n)(J:c<n) :
  Ap P w K (.Tuple wY kk pos) (Yf K a b c) [n+5,n+3,n+4,n,n+1,n+2] (n+5) (λk h=>Z3 h n a b c k .none) where
 mem:=by simp
 obj:=λk h D d hd=>by
  obtain⟨Z,Y,⟨u,v,w,h3⟩,⟨o4,e4,_,d4⟩,⟨o5,e5,_,d5⟩,⟨o6,e6,_,d6⟩⟩:=D;have q:d=n+5\/d=n+3\/d=n+4\/d=n\/d=n+1\/d=n+2:=by simpa using hd
  rcases q with rfl|rfl|rfl|rfl|rfl|rfl
  .exact⟨_,Z,λv q=>by cases q⟩
  .exact⟨_,Y,λv q=>by cases q⟩
  .exact⟨_,h3,λv q=>by cases q⟩
  .exact⟨_,e4,λv q=>by rw[d4]at q;cases q⟩
  .exact⟨_,e5,λv q=>by rw[d5]at q;cases q⟩
  .exact⟨_,e6,λv q=>by rw[d6]at q;cases q⟩
 keep:=λk h h' D kp=>by obtain⟨Z,Y,⟨u,v,w,h3⟩,h4,h5,h6⟩:=D;exact⟨kp (n+5) #[5] _ Z,kp (n+3) #[5] _ Y,⟨u,v,w,kp (n+4) #[5] _ h3⟩,h4.at λo e=>kp n #[5] o e,h5.at λo e=>kp (n+1) #[5] o e,h6.at λo e=>kp (n+2) #[5] o e⟩
 item:=by
  intro X hP hw hK hc' k W s B H E I hf D hg;subst hP hw hK;obtain⟨xs,ys,zs,x,y,z,hq,R,ht,O,hy,hz⟩:=hg;obtain⟨bx,r1,p1,_⟩:=I.list hq;obtain⟨jts,r2,p2,_⟩:=I.tuple R;obtain⟨kts,r3,p3,_⟩:=I.tuple ht;obtain⟨u,hu,ru⟩:=r1.get O;obtain⟨v,hv,rv⟩:=r2.get hy;obtain⟨t,hT,rt⟩:=r3.get hz;refine Mk ha U J D (show s.heap.IsList a bx.toArray from p1.isList) (show s.heap.IsTuple b jts.toArray from p2) (show s.heap.IsTuple c kts.toArray from p3) (x:=u) (y:=v) (t:=t) (by simpa using hu) (by simpa using hv) (by simpa using hT) λg a1 a5 kp=>⟨_,rfl,?_⟩
  refine mM a1.z λg2 b1 s2=>?_;have pU:H s.heap.objs.size=cg:=I.hok.fresh (am _);have I1:bH X W B (fF H s.heap.objs.size (.tup [x,y,z])) { s with heap:=s.heap.push { cls:=.type "tuple",data:=.seq #[u,v,t] },toks:=s.toks }:=I.laid (λc o q=>ai _ q) (am _)
   ⟨by show 3<=sizeLine;decide,[u,v,t],.cons ru (.cons rv (.cons rt .nil)),⟨_,av _ rfl,rfl,_,rfl⟩⟩
  have lt:∀{c o},s.heap.get? c=bi o->c≠s.heap.objs.size:=λe=>aJ (aB e);have nf:∀d∈[n+5,n+3,n+4,n,n+1,n+2],d≠s.heap.objs.size:=λd hd=>by
   obtain⟨Z,Y,⟨u,v,w,h3⟩,⟨o4,e4,_,d4⟩,⟨o5,e5,_,d5⟩,⟨o6,e6,_,d6⟩⟩:=D;have q:d=n+5\/d=n+3\/d=n+4\/d=n\/d=n+1\/d=n+2:=by simpa using hd
   rcases q with rfl|rfl|rfl|rfl|rfl|rfl
   .exact lt Z
   .exact lt Y
   .exact lt h3
   .exact lt e4
   .exact lt e5
   .exact lt e6
  have fp:∀d∈[n+5,n+3,n+4,n,n+1,n+2],xk X W (fF H s.heap.objs.size (.tup [x,y,z])) d:=λd U=>by obtain⟨f0,f⟩:=hf d U;exact⟨by rw[cA (nf d U)];exact f0,f⟩
  have N:∀{p q:Nat},p≠q->n+p≠n+q:=λh e=>h (eV e);have n0:∀p,p≠0->n≠n+p:=λp h e=>h (eV (e.symm.trans (iu n).symm));have I2:bH X W B (fF H s.heap.objs.size (.tup [x,y,z])) { s with heap:=g2,toks:=s.toks }:=bH.turnedL (s:={ s with heap:=s.heap.push { cls:=.type "tuple",data:=.seq #[u,v,t] },toks:=s.toks }) (ch:=[n+5,n+4,n,n+1,n+2]) (t':=s.toks) I1 (λd o U q=>?_) λd U=>fp d (by
   have q:d=n+5\/d=n+4\/d=n\/d=n+1\/d=n+2:=by simpa using U
   rcases q with rfl|rfl|rfl|rfl|rfl<;>simp)
  .obtain⟨c1,c2,c3⟩:=id a1;refine⟨.ref s.heap.objs.size,_,I2,rfl,⟨_,pU,rfl,λxs' To zs' x' y' z' V e2 e3 e4 e5 e6=>?_⟩,⟨b1,s2.extBut _ _ (N #[1]) a1.P,let ⟨_,_,_,q⟩:=a1.O;⟨_,_,_,s2.extBut _ _ (N #[1]) q⟩,a1.i.extBut s2.extBut (n0 5 #[1]),a1.j.extBut s2.extBut (N #[1]),a1.l.extBut s2.extBut (N #[1])⟩,λd U=>(fp d U).1⟩;have q1:=I.list_inj V hq;have q2:=I.tuple_inj e2 R;have q3:=I.tuple_inj e3 ht;subst q1 q2 q3;rw[O]at e4;rw[hy]at e5;rw[hz]at e6;cases e4;cases e5;cases e6;rfl
  .have q':(s.heap.push { cls:=.type "tuple",data:=.seq #[u,v,t] }).get? d=bi o:=q;have hn:d≠n+5/\d≠n+4/\d≠n/\d≠n+1/\d≠n+2:=by simpa using U
   refine s2.extBut d o hn.1 ?_
   by_cases hb':d=s.heap.objs.size
   .subst hb';have V:=av s.heap (o:={ cls:=.type "tuple",data:=.seq #[u,v,t] }) rfl;rw[V]at q';cases q'
    exact a5
   .rw[j0 _ _ _ hb']at q';exact kp d o hn.1 hn.2.1 hn.2.2.1 hn.2.2.2.1 hn.2.2.2.2 q'
 done:=by
  intro X hP hw hK hc' k W s B H E I hf D hg;subst hP hw hK;obtain⟨xs,ys,zs,hq,R,ht,he⟩:=hg;obtain⟨bx,r1,p1,_⟩:=I.list hq;obtain⟨jts,r2,p2,_⟩:=I.tuple R;obtain⟨kts,r3,p3,_⟩:=I.tuple ht;have l1:=r1.length;have l2:=r2.length;have l3:=r3.length;refine Ml (I.ok.hd hc') ha U J D (show s.heap.IsList a bx.toArray from p1.isList) (show s.heap.IsTuple b jts.toArray from p2) (show s.heap.IsTuple c kts.toArray from p3) (by
   rcases he with q|q|q
   .exact .inl (by simp;omega)
   .exact .inr (.inl (by simp;omega))
   .exact .inr (.inr (by simp;omega))) λg kp=>⟨rfl,?_⟩
  exact I.turnedL (ch:=[n+5,n+4,n,n+1,n+2]) (t':=s.toks) (λd o U q=>by
   have hn:d≠n+5/\d≠n+4/\d≠n/\d≠n+1/\d≠n+2:=by simpa using U
   exact kp d o hn.1 hn.2.1 hn.2.2.1 hn.2.2.2.1 hn.2.2.2.2 q) λd U=>hf d (by
   have q:d=n+5\/d=n+4\/d=n\/d=n+1\/d=n+2:=by simpa using U
   rcases q with rfl|rfl|rfl|rfl|rfl<;>simp)
 self:=λA k s Q E D h=>kC D.z h
def Xv(K:uR)(Y:TA):TI:=λσ H R=>Y σ H λvs H1=>∃a b c,vs=[.ref a,.ref b,.ref c]/\(∃xs,sw K H1 a xs)/\(∃ys,gg K H1 b ys)/\(∃D,gg K H1 c D)/\R (Yf K a b c) H1
theorem Mo{a b c:i9}{ta:TA}{p pos tp:Pos}{wY:List i9}{kk:Nat}(y:X.mg "zip"=cg)(D:QA X [a,b,c] ta)(hg:Gl X "zip":=by rfl)(O:ow [a,b,c] X.env=(dw,eval a X.env)::ow [b,c] X.env:=by rfl)
  (nZ:(YR pos (ow [b,c] X.env)).any (·.1)=dw:=by rfl):QI X (.Tuple wY kk tp) (.Call (.Name "zip" p) [a,b,c] [] pos) (Xv X.K ta):=⟨by
 intro W s B H R I h;refine Call_ (qe I hg y boot_zip (d7 (ii (D.h pos W s B H _ I h) λus V zz=>?_) O nZ));obtain⟨Y,H1,I1,r1,w⟩:=zz;obtain⟨t,t',t2,e,⟨xs,hq⟩,⟨ys,d⟩,⟨zs,hz⟩,q⟩:=w;subst e
 cases r1 with
 |cons x1 r1=>cases r1 with
  |cons x2 r1=>cases r1 with
   |cons x3 r1=>
   cases r1
   cases x1
   cases x2
   cases x3
   obtain⟨bx,rv,p1,_⟩:=I1.list hq;obtain⟨jts,oD,p2,_⟩:=I1.tuple d;obtain⟨kts,rz,p3,_⟩:=I1.tuple hz;have lt1:t<V.heap.objs.size:=by obtain⟨_,e,_⟩:=(show V.heap.IsList t bx.toArray from p1.isList);exact aB e
   have lt2:t'<V.heap.objs.size:=by obtain⟨_,e,_⟩:=(show V.heap.IsTuple t' jts.toArray from p2);exact aB e
   have lt3:t2<V.heap.objs.size:=by obtain⟨_,e,_⟩:=(show V.heap.IsTuple t2 kts.toArray from p3);exact aB e
   refine Mm (show V.heap.IsList t bx.toArray from p1.isList) (show V.heap.IsTuple t' jts.toArray from p2) (show V.heap.IsTuple t2 kts.toArray from p3) λg Z kp=>?_;refine kC Z.z ?_;refine⟨V.heap.objs.size+5,[V.heap.objs.size+5,V.heap.objs.size+3,V.heap.objs.size+4,V.heap.objs.size,V.heap.objs.size+1,V.heap.objs.size+2],_,_,H1,rfl,I1.kept (t':=V.toks) kp,Mn lt1 lt2 lt3,Z,λc U=>?_,q⟩;have J:V.heap.objs.size<=c:=by
    have z:c=V.heap.objs.size+5\/c=V.heap.objs.size+3\/c=V.heap.objs.size+4\/c=V.heap.objs.size\/c=V.heap.objs.size+1\/c=V.heap.objs.size+2:=by simpa using U
    rcases z with rfl|rfl|rfl|rfl|rfl|rfl<;>simp
   exact I1.fpOk J (I1.hok.fresh J)⟩
noncomputable def l7:List W->List W->List W->List W
 |x::xs,y::ys,z::zs=>.tup [x,y,z]::l7 xs ys zs
 |_,_,_=>[]
theorem uf:∀{xs ys D:List W} {i:Nat} {w:W},(l7 xs ys D)[i]?=bi w->∃x y z,xs[i]?=bi x/\ys[i]?=bi y/\D[i]?=bi z/\w=.tup [x,y,z]
 |x::xs,y::ys,z::D,0,w,h=>by simp[l7]at h;exact⟨x,y,z,rfl,rfl,rfl,h.symm⟩
 |x::xs,y::ys,z::D,i+1,w,h=>by simp[l7]at h;simpa using uf h
 |[],_,_,i,w,h=>by simp[l7]at h
 |_::_,[],_,i,w,h=>by simp[l7]at h
 |_::_,_::_,[],i,w,h=>by simp[l7]at h
theorem ug:∀(xs ys D:List W),(l7 xs ys D).length=min xs.length (min ys.length D.length)
 |x::xs,y::ys,z::D=>by simp[l7,ug xs ys D]
 |[],_,_=>by simp[l7]
 |_::_,[],_=>by simp[l7]
 |_::_,_::_,[]=>by simp[l7]
section
variable{a b c:i9}{fs:FA}
def v_(fs:FA):FI:=λρ st=>(fs ρ st).bind λws st=>match ws with
 |[.loc n,.tup ys,.tup zs]=>(match lstOf st n with
  |some xs=>.ok (l7 xs ys zs,bi (n,xs)) st
  |none=>.bad)
 |_=>.bad
theorem Mp{wY:List i9}{kk:Nat}{tp:Pos}(W:X.mg "zip"=cg)(D:SA X [a,b,c] fs)(hg:Gl X "zip":=by rfl)(J:ow [a,b,c] X.env=(dw,eval a X.env)::ow [b,c] X.env:=by rfl)(mH:(YR pos (ow [b,c] X.env)).any (·.1)=dw:=by rfl) :
  SI X (.Tuple wY kk tp) (.Call (.Name "zip" p) [a,b,c] [] pos) (v_ fs):=⟨(Mo W ⟨D.h⟩ hg J mH).h.imp λB H R h=>by
 obtain⟨μ,V,Y,l,h⟩:=h;refine⟨μ,V,Y,l,RK.bind h l λU st1 x v H1 p1 x1 l1 q1 Z=>?_⟩
 split at Z
 .rename_i n ws us
  obtain⟨y,ys,rfl,ry,r1⟩:=q1.consE;obtain⟨y2,ys2,rfl,ry2,r2⟩:=r1.consE;obtain⟨y3,rfl,ry3⟩:=r2.one;obtain⟨t1,ha1,rfl⟩:=ry.locE;obtain⟨t,vs,rfl,hS,r⟩:=ry2.tupE;obtain⟨t',xI,rfl,hS',r'⟩:=ry3.tupE
  cases d:lstOf st1 n with
  |none=>rw[d]at Z;exact Z.elim
  |some xs=>
   rw[d]at Z;obtain⟨a',vs0,g0,hS0,r0⟩:=l1.sto.lstOf d;rw[ha1]at g0;cases g0
   refine⟨t1,t,t',rfl,⟨vs0,hS0⟩,⟨vs,hS⟩,⟨xI,hS'⟩,Z U _ H1 (ah _) dH.refl l1.sto λi μ' bF H' pp xx S ck=>?_⟩;obtain⟨a2,vl,g2,hL,rl⟩:=S.lstOf (show lstOf bF n=bi xs from ck);have:μ'[n]?=bi t1:=cJ pp ha1;rw[g2]at this;cases this
   refine⟨λw hw=>?_,λI=>⟨vl,vs,xI,hL,xx _ _ hS,xx _ _ hS',by rw[ug]at I;rw[<- rl.len,<- r.len,<- r'.len];omega⟩⟩;obtain⟨x,y,z,O,hy,hz,rfl⟩:=uf hw;have m1:=r.mono pp xx;have m2:=r'.mono pp xx;obtain⟨v0,f1,f2⟩:=rl.get O;obtain⟨v1,g1,g2⟩:=m1.get hy;obtain⟨v2,g3,g4⟩:=m2.get hz;refine⟨⟨vl,vs,xI,v0,v1,v2,hL,xx _ _ hS,xx _ _ hS',f1,g1,g3⟩,λu H'' hu=>?_⟩;obtain⟨q,hq,rfl,hH⟩:=hu;have e:=hH vl vs xI v0 v1 v2 hL (xx _ _ hS) (xx _ _ hS') f1 g1 g3;subst e;have ex:=gg.same (K:=X.K) (ca hq (.tup [v0,v1,v2]));exact⟨ex,S.same (ca hq _),.tupI gg.new (.consI (f2.mono (ah _) ex) (.consI (g2.mono (ah _) ex) (.consI (g4.mono (ah _) ex) .nilI)))⟩
 .exact Z.elim⟩
end
section
variable{w:ms}{d:i0}{es:Array YV}
theorem QZ(O:(d==Zf)=dw)(V:s.heap.get? d=bi o)(J:o.ExactDict)(D:o.data=.dict es ep)
  (I:Q (.ref s.heap.objs.size) { s with heap:=s.heap.push { cls:=.type "dict_keyiterator",data:=.fields #[.ref d,.int 0 0,.int es.size 0,.int ep 0] } }) :
  i1 #[2] A (Zq (.ref d)) Q E s:=by
 have T:s.TypeIs (.ref d) "dict":=⟨o,V,J.1⟩
 refine nn T F.slot_dict_iter (bj F.slot_dict_iter T F.entry_dict_iter ?_ (F.args_dict_iter_1 _));unfold Builtin.«dict.__iter__» Builtin.Dict.dictSlotNone;refine aa (aa (wpAny_notOrdered_dict T ?_));show i1 _ _ (pure (YT d)) _ _ s;refine ae ?_;show i1 _ _ (Builtin.Dict.showsAll d >>= _) _ _ s;unfold Builtin.Dict.showsAll;rw[aF (by rw[O];exact bG)];refine aa (ae (aa (wpAny_dictEntries V D (aa (wpAny_dictEpoch V D (aa (bT (ae ⟨_,rfl,"dict_keyiterator",_,⟨_,av _ rfl,rfl⟩,lq.lookup,?_⟩))))))));simpa[yx]using I
theorem Ii{Q:Option gs->i2->Prop}(Z:s.heap.IsKeyIter it d i es.size ep)(V:s.heap.get? d=bi o)(D:o.data=.dict es ep)
  (W:∀e,es[i]?=bi e->∀g,g.IsKeyIter it d (i+1) es.size ep->Zy it s.heap g->Q (bi e.key) { s with heap:=g })
  (R:es[i]?=cg->A.handled=cg/\∀g,Heap.ExtBut it s.heap g->Q cg { s with heap:=g }):i1 #[2] A (Y2 (.ref it)) Q E s:=by
 obtain⟨p,U,z,J⟩:=id Z;have T:=Z.typeIs;unfold Y2;refine aa (fM (bz (name:=Zk "__next__") T lq (bj lq T F.entry_dict_keyiterator_next ?_ (F.args_dict_keyiterator_next_1 _))));refine aa (ae (aa (aa (aa ?_))));refine ig T (ae (aa (jT U J ?_)));simp only[show Builtin.Dict_items.ownsTuple "dict_keyiterator"=dw by decide,bu,dM];show i1 _ _ (if (YT d==Zb)=cT then _ else _) _ _ s;rw[aF (show ¬ ((YT d==Zb)=cT)from bG)];refine aa (ae (aa (wpAny_dictEntries V D ?_)));rw[aF #[5]];refine aa (ae (aa (wpAny_dictEpoch V D ?_)));rw[aF #[5]];refine ae ?_;simp only[show ¬ ((i:Int)<0)from by omega,dM,aH]
 cases e:es[i]? with
 |some x=>
  refine aa (aa (ig T (ae (aa (p8 T ?_)))));show i1 _ _ (setField (.ref it) 1 (yx ((i:Int)+1)) >>= _) _ _ s;refine aa (ml U J #[5] ?_);have y:(s.heap.update it (Obj.mapFields (·.setIfInBounds 1 (yx ((i:Int)+1))))).IsKeyIter it d (i+1) es.size ep:=
   ⟨_,dI _ U (pX (jp J _)),(Obj.cls_mapFields ..).trans z,by rw[jp J];simp[yx]⟩
  refine aa (c8 (aa (p8 (s:={ s with heap:=s.heap.update it (Obj.mapFields (·.setIfInBounds 1 (yx ((i:Int)+1)))) }) y.typeIs ?_)));show i1 _ _ (pure x.key) _ _ _;exact ae (ae ⟨_,rfl,ae (W x e _ y (eS ..))⟩)
 |none=>
  obtain⟨Y,I⟩:=R e;refine aa (aa (ig T (ae ?_)));show i1 _ _ (setField (.ref it) 0 .none >>= _) _ _ s;refine aa (ml U J #[5] ?_);show i1 _ _ (newExc (.type "StopIteration") [] >>= _) _ _ _;refine aa ?_;simp only[newExc,newTuple];refine aa (bT ?_ (by size_fits));refine aa (m:=Z6 _ _) (qA (a:=Zb) (by first|rfl|(simp only[Z6];rfl)) ?_);refine bT ?_ (by size_fits);simp only[raiseNew];refine aa (rN ?_);rw[show A.in1.handled=cg from Y];refine aa (ae (wpAny_throw ?_));refine aa (dY (T:="StopIteration") (b:=cT) ⟨_,av _ rfl,rfl⟩ jU ?_);exact ae (I _ (((eS ..).extBut.push _).push _))
end
theorem bH.freezeX(I:bH X aj σ H s)(D:H a=bi (.ext φ))(V:s.heap.get? a=bi o):bH X aj σ (fF H a (.frz o (.ext φ))) s:=by
 have y:∀b u,H b=bi u->(∀z,u≠.ext z)->fF H a (.frz o (.ext φ)) b=bi u:=λb u e n=>by rw[cA (λz=>by rw[z,D]at e;cases e;exact n _ rfl)];exact e
 have:bH X aj σ (fF H a (.frz o (.ext φ))) { s with heap:=s.heap,toks:=s.toks }:=by
  refine I.un ⟨λb o e n U O=>e,λb o e n U O=>⟨o.slots,e⟩,λb o e n O=>?_,λb o e O=>⟨o,e⟩,λb d e=>y b _ e λ_ z=>(by cases z),λb o u e=>y b _ e λ_ z=>(by cases z),λb Z e=>⟨#[],by rw[y b _ e λ_ z=>(by cases z)];simp⟩⟩ λb u e=>?_
  .rw[cA (λz=>by rw[z,D]at n;cases n)];exact n
  .by_cases U:b=a
   .subst U;rw[dr]at e;cases e
    exact⟨V,I.hok b _ D⟩
   .rw[cA U]at e;exact(I.hok b u e).stay (λ_ _ _ q=>q) (λc q=>y c _ q λ_ z=>(by cases z)) λc d q=>y c _ q λ_ z=>(by cases z)
 exact this
def Tj(a:i0)(o:Obj)(es:List YV):It where
 go:=λi H=>H a=bi (.frz o (yP a es))/\∃e b,es[i]?=bi e/\e.key=.ref b
 yld:=λi H x H'=>H'=H/\∃e b,es[i]?=bi e/\e.key=.ref b/\x=.ref b
 stop:=λi H=>H a=bi (.frz o (yP a es))/\es.length<=i
theorem zd{es:List YV}(I:bH X aj σ H s)(D:H a=bi (.frz o (yP a es))):s.heap.get? a=bi o/\o.ExactDict/\o.data=.dict es.toArray (AZ o):=by
 obtain⟨e,d,_⟩:=(show fG X.prog X.w H s.heap a (.frz o (.ext (DX a es)))from I.hok a _ D)
 obtain⟨B,W,R,x,y⟩:=d;rw[e]at R;cases R
 refine⟨e,x,?_⟩;have:AZ o=W:=by unfold AZ;rw[y]
 rw[this];exact y
theorem CO{w:ms}(a it:i0)(o:Obj)(es:List YV):Ap P w K tg (Tj a o es) [it] it (λi h=>h.IsKeyIter it a i es.length (AZ o)) where
 mem:=by simp
 obj:=λi h Y b U=>by
  have e:b=it:=by simpa using U
  subst e;obtain⟨o,e,c,d⟩:=Y;exact⟨o,e,λv z=>by rw[d]at z;cases z⟩
 keep:=λi h h' Y k=>Y.at λo e=>k it #[5] o e
 item:=by
  intro X hP hw hK J i W s B H E I hf Y hg;subst hP hw hK;obtain⟨V,e,b,he,U⟩:=hg;obtain⟨ho,O,hd⟩:=zd I V;obtain⟨f0,f1,f2,f3,f4,f5⟩:=hf it #[5];have st1:s.heap.IsKeyIter it a i es.toArray.size (AZ o):=by simpa using Y
  refine Ii st1 ho hd (λe' he' g bF sb=>?_) λR=>absurd R (by simp[he]);have Z:e'=e:=by
   have:es[i]?=bi e':=by simpa using he'
   rw[he]at this;exact(bg this).symm
  subst Z;have I1:bH X W B H { s with heap:=g }:=I.turned (t':=s.toks) (λb o U e=>sb.extBut b o U e) f0 f1 f3 f4 f5;have y:g.IsKeyIter it a (i+1) es.length (AZ o):=by simpa using bF
  obtain⟨o2,e2,c2,d2⟩:=id y;exact⟨e'.key,rfl,Aq (s:={ s with heap:=g }) e2 c2 d2 #[1] ⟨.ref b,H,I1,by rw[U];rfl,⟨rfl,_,b,he,U,rfl⟩,y,λb U=>(hf b U).1⟩⟩
 done:=by
  intro X hP hw hK J i W s B H E I hf Y hg;subst hP hw hK;obtain⟨V,D⟩:=hg;obtain⟨ho,O,hd⟩:=zd I V;obtain⟨f0,f1,f2,f3,f4,f5⟩:=hf it #[5];have st1:s.heap.IsKeyIter it a i es.toArray.size (AZ o):=by simpa using Y
  exact Ii st1 ho hd (λe' he'=>absurd he' (by simp[cQ D])) λ_=>⟨I.ok.hd J,λg eb=>⟨rfl,I.turned (t':=s.toks) (λb o U e=>eb b o U e) f0 f1 f3 f4 f5⟩⟩
 self:=λ_ _ _ _ _ Y h=>wpAny_pyIter_keyiter Y h
def Q0(te:TE):TI:=λσ H R=>te σ H λx H1=>∃a es,x=.ref a/\(a==Zf)=dw/\((H1 a=bi (yP a es)/\∀o h,DX a es h->R (Tj a o es) (fF H1 a (.frz o (yP a es))))\/∃o,H1 a=bi (.frz o (yP a es))/\R (Tj a o es) H1)
theorem Ij(Z:PE X d9 te):PI X tg d9 (Q0 te):=λW s B H R I h=>by
 refine ii (Z W s B H _ I h) λu d hh=>?_;obtain⟨x,H1,I1,y,a,w,rfl,z,J⟩:=hh;obtain rfl:u=YT a:=y;have walk:∀(o:Obj) (H2:Hp),bH X W B H2 d->H2 a=bi (.frz o (yP a w))->R (Tj a o w) H2->i1 #[3] X.A (Zq (.ref a)) (Wu X W B tg R) X.xe d:=λo H2 I2 D q=>by
  obtain⟨V,O,Y⟩:=zd I2 D;refine QZ z V O Y ?_;have k1:∀b o',d.heap.get? b=bi o'->(d.heap.push { cls:=.type "dict_keyiterator",data:=.fields #[.ref a,.int 0 0,.int w.toArray.size 0,.int (AZ o) 0] }).get? b=bi o':=λb o' e=>ai _ e;refine⟨d.heap.objs.size,[d.heap.objs.size],_,Tj a o w,H2,rfl,I2.kept k1,CO a _ o w,?_,λb U=>?_,q⟩
  .exact⟨_,av _ rfl,rfl,by simp⟩
  .have e:b=d.heap.objs.size:=by simpa using U
   subst e;exact I2.fpOk (am _) I2.fresh
 rcases J with⟨D,q⟩|⟨o,D,q⟩
 .have dd:=NB I1.hok D;obtain⟨o,ep,V,_⟩:=id dd;exact walk o _ (I1.freezeX D V) dr (q o _ dd)
 .exact walk o H1 I1 D q
noncomputable def Ik(st:List al):W->Option (Nat×List (KX×W))
 |.loc n=>(match st[n]? with
  |some (.dcx kvs)=>bi (n,kvs)
  |some (.rox kvs)=>bi (n,kvs)
  |_=>cg)
 |_=>cg
noncomputable def FY(kvs:List (KX×W)):Bool:=kvs.all λp=>decide (p.1.tag≠0)
def jf(fe:FE):FI:=λρ st=>(fe ρ st).bind λx st=>match Ik st x with
 |some (n,kvs)=>if FY kvs=cT then .ok (kvs.map (λp=>p.1.w),cg) (st.set n (.rox kvs))else .bad
 |none=>.bad
theorem Mq{k:KX}{v:V}(Z:k.tag≠0)(r:bh K μ H k.w v)(D:cN v u):∃b,v=.ref b/\u=.ref b:=by
 cases k with
 |bo _=>exact absurd rfl Z
 |fl J=>obtain⟨p,U,rfl,_⟩:=r.tupE;exact⟨p,rfl,D⟩
 |pr i J=>obtain⟨p,U,rfl,_⟩:=r.tupE;exact⟨p,rfl,D⟩
theorem Paired.at1{r:α->β->Prop}:∀{D:List α} {bs:List β},Paired r D bs->∀{i:Nat} {a:α},D[i]?=bi a->∃b,bs[i]?=bi b/\r a b
 |_,_,.nil,i,a,h=>by simp at h
 |_,_,.cons h t,0,a,e=>by simp at e;subst e;exact⟨_,rfl,h⟩
 |_,_,.cons h t,i+1,a,e=>by simpa using Paired.at1 t (by simpa using e)
theorem wc(he:SE X d9 fe):SI X tg d9 (jf fe):=⟨λW s B H R I h=>(Ij he.h) W s B H R I (by
 obtain⟨μ,V,Y,l,h⟩:=h;refine⟨μ,V,Y,l,RK.bind h l λJ st1 x v H1 p1 x1 l1 q1 Z=>?_⟩
 cases e:Ik st1 x with
 |none=>rw[e]at Z;exact Z.elim
 |some nk=>
  obtain⟨n,kvs⟩:=nk;rw[e]at Z;simp only at Z
  by_cases hT:FY kvs=cT
  .rw[ax hT]at Z;have wk:∀(a:i0) (es:List YV) (o:Obj) (H2:Hp),H2 a=bi (.frz o (yP a es))->Paired (qg X.K J H2) kvs es->yV X (Tj a o es) (kvs.map (λp=>p.1.w),cg) J H2:=λa es o H2 hz pr i μ' bF H' pm xm S _=>by
    have hz':=xm.z _ _ _ hz;have dC:kvs.length=es.length:=Paired.length pr;refine⟨λw hw=>?_,λD=>⟨hz',by rw[<- dC];simpa using D⟩⟩;rw[ao]at hw;obtain⟨p,y,rfl⟩:=a8.mp hw;obtain⟨en,hen,_,⟨v1,r1,r2⟩,_⟩:=Paired.at1 pr y;have tg0:p.1.tag≠0:=by have:=fB.mp hT p (az y);simpa using this
    obtain⟨b,rfl,U⟩:=Mq tg0 r1 r2;refine⟨⟨hz',en,b,hen,U⟩,λx H'' hy=>?_⟩;obtain⟨rfl,e2,b2,Aj,hb2,rfl⟩:=hy;rw[hen]at Aj;cases Aj
    rw[U]at hb2;cases hb2
    exact⟨dH.refl,S,r1.mono pm xm⟩
   cases x with
   |loc m=>
    simp only[Ik]at e
    cases d:st1[m]? with
    |none=>rw[d]at e;cases e
    |some c=>
     rw[d]at e
     cases c with
     |dcx z=>
      cases e
      obtain⟨a,g,es,k,hd,p,nd⟩:=l1.sto.get d;obtain⟨b,f,rfl⟩:=q1.locE;rw[g]at f;cases f
      refine⟨a,es,rfl,hd,.inl ⟨k,λo hp0 dd=>?_⟩⟩;have O:dH X.K H1 (fF H1 a (.frz o (yP a es))):=gg.butE mQ k;have pr:=Paired.imp' (λ_ _ q=>qg.mono (ah _) O q) p;have S2:gk X.K X.mg J (st1.set n (.rox kvs)) (fF H1 a (.frz o (yP a es))):=l1.sto.setG d rfl g k (λ_ _ z=>by cases z) (DW dd) O rfl ⟨es,o,dr,hd,pr,nd⟩;exact Z J _ _ (ah _) O S2 (wk a es o _ dr pr)
     |rox z=>
      cases e
      obtain⟨a,g,es,o,k,hd,p,nd⟩:=l1.sto.get d;obtain⟨b,f,rfl⟩:=q1.locE;rw[g]at f;cases f
      refine⟨a,es,rfl,hd,.inr ⟨o,k,?_⟩⟩;rw[vZ d]at Z;exact Z J _ H1 (ah _) dH.refl l1.sto (wk a es o H1 k p)
     |_=>cases e
   |_=>cases e
  .rw[aF hT]at Z;exact Z.elim)⟩
noncomputable def sZ(st:List al):W->Option (Nat×List (KX×W))
 |.loc n=>(match st[n]? with
  |some (.rox kvs)=>bi (n,kvs)
  |_=>cg)
 |_=>cg
def re(Ak:Bool)(x y:W)(st:List al):R W:=match sZ st y with
 |some (_,kvs)=>(match nC x with
  |some k=>if vj kvs k=cT then .ok (.bl (if Ak then !(fL kvs k).isSome else(fL kvs k).isSome)) st else .bad
  |none=>.bad)
 |none=>CF Ak x y st
theorem Q1(Ak:Bool)(x y:W)(st:List al):q_ (re Ak x y st):=by
 unfold re
 split
 .split
  .split<;>trivial
  .trivial
 .exact HZ Ak x y st
section
theorem Il(I:bH X aj σ H s)(S:gk X.K X.mg μ st H){x:W}{v:V}(h:sZ st x=bi (n,kvs))(r:bh X.K μ H x v) :
  ∃a es,v=.ref a/\DX a es s.heap/\(a==Zf)=dw/\Paired (qg X.K μ H) kvs es/\(kvs.map λp=>p.1).Nodup:=by
 cases x with
 |loc m=>
  simp only[sZ]at h
  cases e:st[m]? with
  |none=>rw[e]at h;cases h
  |some c=>
   rw[e]at h
   cases c with
   |rox z=>
    cases h
    obtain⟨a,g,es,o,k,D,p,nd⟩:=S.get e;obtain⟨b,f,rfl⟩:=r.locE;rw[g]at f;cases f
    obtain⟨d,e2,J⟩:=zd I k;exact⟨a,es,rfl,⟨o,_,d,e2,J⟩,D,p,nd⟩
   |_=>cases h
 |_=>cases h
theorem Q2{Pr:Prop}{es:List YV}{k:KX}{v:V}(I:bH X aj σ H s)(d:DX a es s.heap)(p:Paired (qg X.K μ H) kvs es)(nd:(kvs.map λp=>p.1).Nodup)(h:vj kvs k=cT)(O:bh X.K μ H k.w v)(D:cN v u)
  (Y:∀(K:Type) [DecidableEq K] (G:HV X K) (q:K) (b:i0) (xs:List (K×i0×gs)),k=G.em q->u=.ref b->G.knd.is s.heap q b->s.heap.DictOfH G.knd a xs->Vw G μ H kvs xs->Pr):Pr:=by
 unfold vj at h;rw[bc,df]at h;have go:∀(K:Type) [DecidableEq K] (G:HV X K) (q:K),k=G.em q->(∀p∈kvs,∃k,p.1=G.em k)->Pr:=λK _ G q B Z=>by
  obtain⟨xs,e,z,w⟩:=y_ G I p Z;have R:(xs.map (·.1)).Nodup:=by have:=nd;rw[ud z]at this;exact(dE.mp this).imp λh e=>h (cP _ e)
  subst B;obtain⟨b,rfl,U⟩:=G.is (k:=q) I O D;exact Y K G q b xs rfl rfl U (A0 (by rw[<- e];exact d) w R) z
 rcases v6 (X:=X) h.1 with⟨J,rfl,B⟩|⟨i,J,rfl,B⟩
 .exact go _ (NC X) J rfl B
 .exact go _ (ND X) (i,J) rfl B
theorem nT(R:ic kk X.A):sF X (YS .NotIn) (re cT):=⟨λW s B H x y v u Q I Z ru zq=>by
 obtain⟨w,Y,wx,wy,S,V,ry,q⟩:=zq
 cases e:sZ Y wy with
 |none=>
  have:re cT wx wy Y=CF cT wx wy Y:=by unfold re;rw[e]
  rw[this]at q;exact(H9 R).h W s B H x y v u Q I Z ru ⟨w,Y,wx,wy,S,V,ry,q⟩
 |some nk=>
  obtain⟨n,kvs⟩:=nk;unfold re at q;rw[e]at q;simp only at q
  cases ek:nC wx with
  |none=>rw[ek]at q;exact q.elim
  |some k=>
   rw[ek]at q;simp only at q
   by_cases O:vj kvs k=cT
   .rw[ax O]at q;obtain⟨a,es,rfl,d,J,p,nd⟩:=Il I S e ry;obtain rfl:u=YT a:=ru;have:=v5 ek;subst this;refine Q2 I d p nd O V Z λK inst G z b xs D U u4 xd vw=>?_;subst U;refine wpAny_notIn_heap (G.room (by have:=R.units;omega)) u4 J xd ?_;rw[yb z vw,<- D];exact⟨.bl _,H,I.tok _,rfl,i8 S q⟩
   .rw[aF O]at q;exact q.elim,Q1 cT⟩
end
open AutoSeq1 (wpAny_loadPart')
theorem uh:fillsNumberSlot (.type "tuple") "mul"=pure dw:=
 PySem.fillsNumberSlot_seq (id:="tuple.__mul__") (r:=bi (.builtin "tuple.__rmul__")) F.slot_tuple_mul.lookup (by decide +kernel) F.slot_tuple_rmul.lookup (by decide +kernel)
theorem ze:seqRepeat? (.type "tuple")=pure (bi (.builtin "tuple.__mul__")):=by unfold seqRepeat?;rw[PySem.seqSlot_of (T:="tuple") (name:="__mul__") (id:="tuple.__mul__") F.slot_tuple_mul.lookup (by decide +kernel),PySem.seqSlot_of (T:="tuple") (name:="__rmul__") (id:="tuple.__rmul__") F.slot_tuple_rmul.lookup (by decide +kernel)];rfl
theorem CP(a:Int)(t:Tok)(l:i0)(items:Array gs)(n:Nat)(z:Option i0)(sl:Array (Option gs)) :
  Meets (Builtin.«int.__rmul__» ⟨[.int a t,.ref l],[]⟩) (λ_ R s=>s.heap.get? l=bi { cls:=.type "tuple",dict:=z,data:=.seq items n,slots:=sl }/\R (.ok (.ret Value.notImplemented)) s):=
 .of_wp λW w A R s h=>by obtain⟨U,g,d,V,B⟩:=s;obtain⟨I,h⟩:=h;wp_walk;exact⟨_,rfl,h⟩
theorem FZ(l:i0)(items:Array gs)(n:Nat)(dc:Option i0)(sl:Array (Option gs))(k:Int)(t:Tok)(Y:items.isEmpty=dw)(Z:2<=k)(hz:items.size*k.toNat<=sizeLine) :
  Meets (Builtin.«tuple.__mul__» ⟨[.ref l,.int k t],[]⟩) (λ_ R s=>s.heap.get? l=bi { cls:=.type "tuple",dict:=dc,data:=.seq items n,slots:=sl } /\
   R (.ok (.ret (.ref s.heap.objs.size))) { s with heap:=s.heap.push { cls:=.type "tuple",data:=.seq ((pw k.toNat items).foldl (·++·) #[]) } }):=
 .of_wp λprog w A R s h=>by
  obtain⟨U,g,d,V,B⟩:=s;obtain⟨I,h⟩:=h;have p0:1<=items.size:=by
   rcases Nat.eq_zero_or_pos items.size with z|z
   .have:items=#[]:=kA z;rw[this]at Y;cases Y
   .exact z
  have kz:(items.size:Int)*k<=sizeLine:=by have:((items.size*k.toNat:Nat):Int)<=((sizeLine:Nat):Int):=Int.ofNat_le.mpr hz;rw[iE,lA #[0]]at this;exact this
  have kl:k<=sizeLine:=Int.le_trans (by have:=Int.mul_le_mul_of_nonneg_right (Int.ofNat_le.mpr p0) (show(0:Int)<=k by omega);simpa using this) kz;have O:((sizeLine:Nat):Int)<2^60-1:=by decide
  have y:¬ ((decide (k < -2^63)||decide (k≥2^63))=cT):=by simp;omega
  have D:¬ ((items.isEmpty||k==1)=cT):=by rw[Y];simp;omega
  have c3:¬ ((decide (k<=0)||items.isEmpty)=cT):=by rw[Y];simp;omega
  have c4:¬ ((items.size:Int)*k>(2^63-1)/8):=by
   have:((2:Int)^63-1)/8=2^60-1:=by decide
   omega
  have c5:¬ (Builtin.Tuple.tupleTooMany ((items.size:Int)*k)=cT):=by unfold Builtin.Tuple.tupleTooMany;simp;omega
  have c6:¬ ((Z2 (λJ W=>J++W) #[] (pw k.toNat items)).size>sizeLine):=by
   have e:=qG items.toList k.toNat []
   simp only[f6]at e;have e':(Z2 (λJ W=>J++W) #[] (pw k.toNat items))=(pw k.toNat items.toList).flatten.toArray:=e;rw[e',aS,yI,cB,ip];omega
  wp_walk using bE I
  rw[aF y]
  wp_walk using bE I
  rw[aF D]
  wp_walk using bE I
  rw[aF c3]
  wp_walk using bE I
  rw[aF c4]
  wp_walk using bE I
  exact⟨_,rfl,h⟩
section
def U2(K:uR):R2:=λx y H Q=>∃a k xs,x=.ref a/\y=.int k/\gg K H a xs/\xs≠[]/\2<=k/\xs.length*k.toNat<=sizeLine/\∀p,H p=cg->Q (.ref p) (fF H p (.tup (pw k.toNat xs).flatten))
theorem Mr:nr X (yz .Mult) (U2 X.K):=by
 intro W s B H x y v u Q I R z h;obtain⟨l,k,w,rfl,rfl,hH,h0,Z,V,q⟩:=h
 cases R
 obtain⟨t,rfl⟩:=z;obtain⟨O,r,p,_⟩:=I.tuple hH;obtain⟨⟨c,dc,dt,sl⟩,e,J,n,Y⟩:=id (show s.heap.IsTuple l O.toArray from p);obtain rfl:c=.type "tuple":=J;obtain rfl:dt=.seq O.toArray n:=Y;have D:=r.length;have hE:O.toArray.isEmpty=dw:=by
  cases O with
  |nil=>cases r;exact absurd rfl h0
  |cons _ _=>rfl
 have dC:O.toArray.size*k.toNat<=sizeLine:=by rw[aS,<- D];exact V
 refine mJ (T:="tuple") (U:="int") #[1] ⟨_,e,rfl⟩ (λd=>o_ d k t) uh F.fills_int_mul k8 ze F.slot_int_index.lookup
  (jn k8 (o_ s k t) F.entry_int_rmul (F.args_int_rmul_2 _ _) (CP k t l O.toArray n dc sl)
   ⟨e,rfl,⟨_,e,rfl⟩,jn F.slot_tuple_mul ⟨_,e,rfl⟩ F.entry_tuple_mul (F.args_tuple_mul_2 _ _) (FZ l O.toArray n dc sl k t hE Z dC) ⟨e,?_⟩⟩)
 have hnew:Z2 (λx1 x2=>x1++x2) #[] (pw k.toNat O.toArray)=(pw k.toNat O).flatten.toArray:=by
  have:=qG O k.toNat []
  rw[f6]at this;exact this
 rw[hnew];exact⟨.ref _,_,I.laid (t':=s.toks) (o:=.tup (pw k.toNat w).flatten) (λc o q=>ai _ q) (am _) ⟨by rw[yI,ip];exact V,_,r.rep k.toNat,⟨_,av _ rfl,rfl,_,rfl⟩⟩,rfl,q _ I.fresh⟩
def A8(x y:W)(st:List al):R W:=match x,y with
 |.tup ws,.int k=>if ws≠[]/\2<=k/\ws.length*k.toNat<=lw then .ok (.tup (pw k.toNat ws).flatten) st else .bad
 |x,y=>AY x y st
theorem Q3:sF X (yz .Mult) A8:=⟨λW s B H x y v u Q I J ru zq=>by
 obtain⟨D,Y,wx,wy,S,R,V,q⟩:=zq;have other:A8 wx wy Y=AY wx wy Y->i1 #[3] X.A (yz .Mult v u) (λr d=>∃x' H',bH X W B H' d/\cN x' r/\Q x' H') X.xe s:=λe=>by rw[e]at q;exact HM.h W s B H x y v u Q I J ru ⟨D,Y,wx,wy,S,R,V,q⟩
 cases wx with
 |tup O=>
  cases wy with
  |int k=>
   have q':Fx X D H Q (if O≠[]/\2<=k/\O.length*k.toNat<=lw then .ok (.tup (pw k.toNat O).flatten) Y else .bad):=q
   by_cases c:O≠[]/\2<=k/\O.length*k.toNat<=lw
   .rw[ax c]at q';obtain⟨p1,vs1,rfl,Z,w⟩:=R.tupE;refine Mr W s B H _ _ v u Q I J ru ⟨p1,k,vs1,rfl,V.intE,Z,λz=>?_,c.2.1,by rw[<- w.len];exact jk c.2.2,λp U=>?_⟩
    .have:=w.len;rw[z]at this;exact c.1 (fW this)
    .have e:=ca U (.tup (pw k.toNat vs1).flatten);exact q' D _ _ (ah _) (gg.same e) (S.same e) (.tupI (gg.of dr) ((w.rep k.toNat).mono (ah _) (gg.same e)))
   .rw[aF c]at q';exact q'.elim
  |_=>exact other rfl
 |_=>exact other rfl,λx y Y=>by
 unfold A8
 split
 .split<;>trivial
 .exact HM (X:=X) |>.n _ _ _⟩
end
section
variable{st:qd}{P:i0}
theorem Im(d:X.env.code=.ref c)(GH:Zm X.K c P=cT)(w:sP X.base X.mg)(y:X.env.cells=wh m X.env.scope.names [])(z:X.N.Nodup)
  (Wg:st=.FunctionDef name (dZ st) (dq st) [] cg [] (aI st) cg name pos:=by rfl)
  (R:WK X.env.scope.names (aI st).names=cT:=by first|rfl|kernel_rfl) (Ca:(bU X.env (aI st).names []).map (·.1)=xs:=by rfl) (I:QN xs=cT:=by first|rfl|kernel_rfl) (Y:qualnameIn X.env name name=q:=by rfl)
  (D:X.N[i]?=bi name:=by rfl) (O:GK X.env.scope name:=by first|exact Or.inl rfl|exact Zv rfl) (J:X.fn name=cT\/X.env.scope.names.lookup name=bi .local:=by exact .inl rfl)
  (V2:(dZ st).defaults=[]:=by rfl) (X1:(dZ st).kw_defaults=[]:=by rfl) (V:annTrees (dZ st) cg X.env=[]:=by rfl) :
  PS X st (Mf X name q (dZ st) (dq st) (aI st) xs j P pos i):=by have Z:=Mg (j:=j) (P:=P) (pos:=pos) (i:=i) (body:=dq st) d GH w y (v9 R) Ca (v3 I) Y z D O J V2 X1 V;rw[Wg];exact Z
end
section
variable{w:ms}{st:qd}
theorem Q4(F:lB K x x st f fd)(y:mg x=bi (.ref f))(ok:fQ P w K mg base (iM P w) k f fd ps (WL K mg n qy G))(R:ps.length=n:=by rfl)
  (U:∀(kV J I:gs) (O:Option i0) (Z V:gs) (us:List gs),us.length=ps.length->ZJ (fnOf x x (dZ st) (dq st) (aI st) .none kV J I O Z V) ⟨us,[]⟩=pure (ps.zip us):=by(intro _ _ _ _ _ _ _ q;first|(obtain⟨_,rfl⟩:=WF q;rfl)|(obtain⟨_,_,rfl⟩:=Tg q;rfl)|(obtain⟨_,_,_,rfl⟩:=WG q;rfl)|(obtain⟨_,_,_,_,rfl⟩:=WH q;rfl))):xy P w K mg base k x n qy G:=⟨f,fd,ps,y,F.kp,R,F.binds U,ok⟩
end
section
variable{nm:List Str}{fi:Yd}{f:FG}
end
theorem we{f g:Str×gs->PUnit->Sem (ForInStep PUnit)}:∀{l:List (Str×gs)},(∀x∈l,∀u,f x u=g x u)->∀u:PUnit,forIn l u f=forIn l u g
 |[],_,_=>rfl
 |x::l,h,u=>by
  rw[eY,eY,h x aX u]
  congr 1
  funext r
  cases r with
  |done b=>rfl
  |yield b=>exact we (λy Z=>h y (aC _ Z)) b
theorem CQ{e R:Env}(Z:R.scope=e.scope)(Y:R.locals=e.locals)(B:R.globals=e.globals)(U:R.cells.lookup x=e.cells.lookup x):ZW e x v=ZW R x v:=by obtain⟨a,b,c,d,w,J,y,q4,q5⟩:=e;obtain⟨V,D,c',W,z,O,I,r4,r5⟩:=R;simp only at Z Y B U;subst Z Y B;simp only[ZW,Zu,localSet,Env.kindOf,Env.blockKind,U]
section
theorem F0{scope:Y0}{z:i0}{cl:List (Str×i0)}{binds:List (Str×gs)}{Z:Option i0}{Y:gs}{w:i0}{Q:Env->i2->Prop}(B:scope.kind=.function)
  (V:∀x∈binds,scope.names.lookup x.1=bi .local\/(scope.names.lookup x.1=bi .cell/\((wh (s.heap.objs.size+1) scope.names []).lookup x.1).isSome=cT))
  (W:∀x∈binds,cl.lookup x.1=cg)
  (I:∀d,InCallC s s.heap.objs.size (bindL (λx=>scope.names.lookup x) binds λ_=>cg) (wh (s.heap.objs.size+1) scope.names []) (bindC (λx=>scope.names.lookup x) binds λ_=>cg) d ->
   Q (newEnv scope s.heap.objs.size z (wh (s.heap.objs.size+1) scope.names []++cl) qual Z Y cg w) d) :
  i1 M A (aae scope z cl binds qual Z Y cg w) Q E s:=by
 simp only[aae,Option.isSome_none,bu,dM];refine aa (wpAny_alloc ?_);refine aa (wpAny_layCells _ (λname kind U=>by cases D:kind==ZR<;>simp[D]) _ _ _ _ ?_);have ok:=cellsFrom_ok scope.names (s.heap.push { cls:=.type "frame",data:=.dict #[] }) (s.heap.objs.size+1) [] ⟨λ_ _ R=>(nomatch R),Z4⟩ (by rw[bt];exact am _);rw[bt]at ok;rw[show({ s with heap:=s.heap.push { cls:=.type "frame",data:=.dict #[] } }:i2).heap.objs.size=s.heap.objs.size+1 from bt ..,jb _ _ cl];refine aa ?_;rw[we (g:=λ(x:Str×gs) (_:PUnit)=>(do ZW (newEnv scope s.heap.objs.size z (wh (s.heap.objs.size+1) scope.names []) qual Z Y cg w) x.1 x.2;pure (.yield ⟨⟩))) (λx O u=>?_)]
 .exact wpAny_bindParams (s₀:=s) (env:=newEnv scope s.heap.objs.size z (wh (s.heap.objs.size+1) scope.names []) qual Z Y cg w)
   _ (λ_ _ _=>rfl) B binds (λ_=>cg) (λ_=>cg) _ _
   ⟨⟨⟨_,_,rfl⟩,(Heap.Ns.new s.heap (.type "frame")).keeps (k9 _ _),λb o e=>k9 _ _ b o (ai _ e),am _⟩,
    λn c J=>(ok.empty n c (PySem.mem_of_lookup J)).1,ok.apart,λn c R=>(ok.empty n c R).2⟩
   V λd x=>ae (I d x)
 .obtain⟨y,v⟩:=x;show(do ZW _ y v;pure _)=_
  congr 1
  refine CQ rfl rfl rfl ?_;show(wh (s.heap.objs.size+1) scope.names []).lookup y=(wh (s.heap.objs.size+1) scope.names []++cl).lookup y;rw[dQ,W _ O]
  cases(wh (s.heap.objs.size+1) scope.names []).lookup y<;>rfl
end
structure zf(N ps xs:List Str)(sc:Y0):Prop where
 kind:sc.kind=.function
 co:sc.isCoroutine=dw
 gen:sc.isGenerator=dw
 nd:N.Nodup
 pre:N.take ps.length=ps
 mid:(N.drop ps.length).take xs.length=xs
 par:∀x∈ps,sc.names.lookup x=bi .local\/sc.names.lookup x=bi .cell
 sep:∀y∈sc.names,y.2=.cell->y.1∉xs
 apx:∀x∈ps,x∉xs
 fre:∀y∈sc.names,y.2=.free->y.1∈xs
 xfr:∀x∈xs,sc.names.lookup x=bi .free
section
variable{w:ms}
theorem F4{N:List Str}{cd:gs}{s1:i2}{E:XK}{xg:List gs}{qc:List V}
  (S:zf N ps xs scope) (hd:A.handled=cg) (e0:yE P w K mg base A outer s H) (I:vs.length=ps.length) (r:cR vs us) (rc:cR qc xg) (O:cl.map (·.1)=xs) (W:(cl.map (·.2)).Nodup)
  (J:Paired (λ(y:Str×i0) (u:gs)=>s.heap.IsCell y.2 (bi u)/\H y.2=cg) cl xg)
  (x:InCallC s s.heap.objs.size (bindL (λx=>scope.names.lookup x) (ps.zip us) λ_=>cg) (wh (s.heap.objs.size+1) scope.names []) (bindC (λx=>scope.names.lookup x) (ps.zip us) λ_=>cg) s1) :
  bH (lY CX P w K mg base N qual scope f cd (wh (s.heap.objs.size+1) scope.names []++cl) A outer s H E) [] (gT N (vs++qc)) H s1:=by
 have mH:ps.length<=N.length:=by have:=cP Y8 S.pre;rw[a_]at this;omega
 have hxl:xs.length<=N.length-ps.length:=by have:=cP Y8 S.mid;rw[a_,dA]at this;omega
 have kT:qc.length=xs.length:=by rw[rc.length,<- J.length,<- O,ag]
 have ndx:xs.Nodup:=by rw[<- S.mid];exact(S.nd.sublist (nq _ _)).sublist (eN _ _)
 have ndP:ps.Nodup:=by rw[<- S.pre];exact S.nd.sublist (eN _ _)
 obtain⟨h₁,tk,rfl,B⟩:=x.done;have ownx:∀y c,(wh (s.heap.objs.size+1) scope.names []).lookup y=bi c->y∉xs/\s.heap.objs.size<c:=λy c e=>by
  have R:=PySem.mem_of_lookup e;refine⟨?_,x.above y c R⟩;rcases kG _ _ _ R with q|q
  .exact S.sep _ q rfl
  .cases q
 have both:∀y c,(wh (s.heap.objs.size+1) scope.names []++cl).lookup y=bi c->(wh (s.heap.objs.size+1) scope.names []).lookup y=bi c\/cl.lookup y=bi c:=λy c e=>by
  rw[dQ]at e
  cases h:(wh (s.heap.objs.size+1) scope.names []).lookup y with
  |none=>rw[h]at e;exact .inr e
  |some b=>rw[h]at e;exact .inl e
 have first:∀y c,(wh (s.heap.objs.size+1) scope.names []).lookup y=bi c->(wh (s.heap.objs.size+1) scope.names []++cl).lookup y=bi c:=λy c e=>by rw[dQ,e];rfl
 have second:∀y c,y∈xs->cl.lookup y=bi c->(wh (s.heap.objs.size+1) scope.names []++cl).lookup y=bi c:=λy c hy e=>by
  rw[dQ]
  cases h:(wh (s.heap.objs.size+1) scope.names []).lookup y with
  |none=>exact e
  |some b=>exact absurd hy (ownx y b h).1
 have look:∀y∈xs,∃c,cl.lookup y=bi c:=λy hx'=>by rw[<- O]at hx';obtain⟨z,hz,rfl⟩:=aE.mp hx';exact⟨z.2,lM (by rw[O];exact ndx) hz⟩
 have Zu:∀y c,cl.lookup y=bi c->∃u,s.heap.IsCell c (bi u)/\H c=cg:=λy c e=>by have R:=PySem.mem_of_lookup e;obtain⟨i,D⟩:=cM R;obtain⟨u,_,q⟩:=lZ J D;exact⟨u,q⟩
 have low:∀y c,cl.lookup y=bi c->c<s.heap.objs.size:=λy c e=>by obtain⟨u,q,_⟩:=Zu y c e;exact q.lt
 have noA:∀b:i0,b∉(lY CX P w K mg base N qual scope f cd (wh (s.heap.objs.size+1) scope.names []++cl) A outer s H E).ex:=λb z=>absurd (show b∈([]:List i0)from z) #[5];refine⟨⟨e0.mod,S.kind,rfl,rfl,am _,λy z c Z Y=>?_,λy hy=>?_,λy c z _=>?_,λ_=>hd,kQ e0.frames,.inr ⟨rfl,rfl⟩,λb z=>absurd z (noA b),e0.bs,e0.bsz,λb _ _=>noA b,λb z=>absurd z (noA b),e0.funs,e0.frf⟩,
  rfl,e0.bare,Un.kept B,⟨_,x.toInCall.ns,λi y v Z Y h3=>?_⟩,λy c h=>?_,e0.hok.fresh (am _),λy c h=>?_,λp U=>absurd (show p∈([]:List (i0×Obj))from U) #[5],e0.hok.kept B,?_⟩
 .rcases both y c Z with q1|q1<;>rcases both z c Y with q2|q2
  .exact tQ x.apart (PySem.mem_of_lookup q1) (PySem.mem_of_lookup q2)
  .exact absurd (low z c q2) (iq.mpr (cx (ownx y c q1).2))
  .exact absurd (low y c q1) (iq.mpr (cx (ownx z c q2).2))
  .exact zb W (PySem.mem_of_lookup q1) (PySem.mem_of_lookup q2)
 .have hy:scope.names.lookup y=bi .cell\/scope.names.lookup y=bi .free:=hy;rcases hy with hy|hy
  .obtain⟨c,e⟩:=iA (n:=s.heap.objs.size+1) hy;exact⟨c,first y c e⟩
  .have hin:=S.fre _ (PySem.mem_of_lookup hy) rfl;obtain⟨c,e⟩:=look y hin;exact⟨c,second y c hin e⟩
 .cases z
 .have Z:N[i]?=bi y:=Z;have D:i<(vs++qc).length:=by
   unfold gT at Y
   by_cases D:i<(vs++qc).length
   .exact D
   .rw[aY (by simpa using D)]at Y;rw[cX]at Y
    split at Y<;>cases Y
  have d:(vs++qc)[i]?=bi v:=by
   unfold gT at Y;rw[aV (by simpa using D),ao]at Y
   cases e:(vs++qc)[i]? with
   |none=>rw[e]at Y;cases Y
   |some a=>rw[e]at Y;cases Y;rfl
  obtain⟨u,hu,rv⟩:=(r.append rc).get d;refine⟨u,rv,?_⟩
  by_cases hip:i<ps.length
  .have U:ps[i]?=bi y:=by rw[<- S.pre,bY hip];exact Z
   have hu':us[i]?=bi u:=by rw[aV (by rw[<- r.length,I];exact hip)]at hu;exact hu
   rcases S.par y (az U)with k|k
   .exact .inl ⟨k,t6 ndP U hu' k⟩
   .obtain⟨c,e⟩:=iA (n:=s.heap.objs.size+1) k;refine .inr ⟨.inl k,c,first y c e,?_⟩;have q:=x.cell y c e;rw[t7 ndP U hu' (by show scope.names.lookup y≠_;rw[k];decide)]at q;exact q
  .have hx':xs[i-ps.length]?=bi y:=by rw[<- S.mid,bY (by rw[ay,I,kT]at D;omega),List.getElem?_drop];rw[show ps.length+(i-ps.length)=i by omega];exact Z
   have hu':xg[i-ps.length]?=bi u:=by rw[aY (by rw[<- r.length,I];omega),<- r.length,I]at hu;exact hu
   rw[<- O,ao]at hx';obtain⟨yc,ey,e2⟩:=a8.mp hx';obtain⟨u',eu,q1,q2⟩:=lZ J ey;rw[hu']at eu;cases eu
   have hin:y∈xs:=by rw[<- O,<- e2];exact aE.mpr ⟨yc,az ey,rfl⟩
   refine .inr ⟨.inr (S.xfr y hin),yc.2,second y _ hin ?_,q1.keeps B⟩;exact lM (l:=cl) (by rw[O];exact ndx) (by rw[<- e2];exact az ey)
 .rcases both y c h with q|q
  .exact⟨_,x.cell y c q⟩
  .obtain⟨u,q1,_⟩:=Zu y c q;exact⟨_,q1.keeps B⟩
 .rcases both y c h with q|q
  .exact e0.hok.fresh (cx (ownx y c q).2)
  .obtain⟨u,_,q1⟩:=Zu y c q;exact q1
 .unfold gT;show _=N.length;rw[ay,ag,ki,ay,I,kT];omega
theorem Io{pr:Y7}{N:List Str}{k:Nat}{g:FS}(S:zf N ps xs scope)(hn:ps.length=n)(Y:xs.length=m)
  (U:∀(cl:List (Str×i0)) (jN pm:gs) (cd:i0) (ct:gs) (us:List gs),us.length=ps.length->ZJ (PySem.W.fnX name qual pr body scope cl .none .none jN pm cg (.ref cd) ct) ⟨us,[]⟩=pure (ps.zip us))
  (n6:∀(f:i0) (cd:gs) (cl:List (Str×i0)) (A:yy) (outer:List Env) (s:i2) (H:Hp) (E:XK),ic k (A.deeper (CL qual scope s.heap.objs.size f cd cl)) ->
   SB (lY (iM P w) P w K mg base N qual scope f cd cl A outer s H E) body g):l6 P w K mg base (k+1) n m (QR name qual pr body scope xs) (fK N.length g):=⟨λA outer s H f o fd us xg vs qc Q E d e0 ho ok hd mG r rc hul R GF=>by
 obtain⟨cl,jN,pm,cd,ct,O,jB,rfl⟩:=ok
 cases hd
 have KX:K.In s.heap:=e0.mod.kin.keeps λb o e=>(e0.bs b o e).1;have lim:s.heap.NoLimit:=e0.mod.nolimit.keeps λb o e=>(e0.bs b o e).1;have D:vs.length=ps.length:=by rw[r.length,hul,hn]
 refine kj (fd:=PySem.W.fnX name qual pr body scope cl .none .none jN pm cg (.ref cd) ct) (body:=body) d.depth ho rfl S.co S.gen rfl mG (BindsTo.of_eq (U cl jN pm cd ct us (by rw[hul,hn])) _ _ _ _ ?_);refine F0 (s:=s) (scope:=scope) (cl:=cl) (binds:=ps.zip us) S.kind (λy hy=>?_) (λy hy=>?_) λs1 x=>⟨lim.keeps x.toInCall.keep,tR ?_⟩
 .rcases S.par _ (eX hy).1 with k|k
  .exact .inl k
  .obtain⟨c,e⟩:=iA (n:=s.heap.objs.size+1) k;exact .inr ⟨k,by rw[e];rfl⟩
 .cases e:cl.lookup y.1 with
  |none=>rfl
  |some c=>
   have Y:=PySem.mem_of_lookup e;exact absurd (by rw[<- O];exact aE.mpr ⟨_,Y,rfl⟩) (S.apx _ (eX hy).1)
 have I:bH (lY (iM P w) P w K mg base N qual scope f (.ref cd) (wh (s.heap.objs.size+1) scope.names []++cl) A outer s H E) [] (gT N (vs++qc)) H s1:=F4 S d.hd e0 D r rc O jB R x;obtain⟨hl2,μ,ws,EW,Sr,rw0,h⟩:=GF;have hq:Ur (lY (iM P w) P w K mg base N qual scope f (.ref cd) (wh (s.heap.objs.size+1) scope.names []++cl) A outer s H E) g { nx:=λ_ H'=>Q .non H',rt:=Q } (gT N (vs++qc)) H:=by
  refine⟨μ,ws.map bi++pw (N.length-ws.length) cg,EW,⟨?_,Sr⟩,?_⟩
  .unfold gT;rw[<- rw0.len];have base:∀(ws:List W) (vs:List V) (m:Nat),RelWs K μ H ws vs->Paired (λ(o:Option W) (s:Option V)=>∀w,o=bi w->∃v,s=bi v/\bh K μ H w v) (ws.map bi++pw m cg) (vs.map bi++pw m cg):=by
    intro ws
    induction ws with
    |nil=>
     intro vs m r;rw[r.nilE]
     induction m with
     |zero=>exact .nil
     |succ m ih=>exact .cons (λw z=>nomatch z) ih
    |cons w ws ih=>
     intro vs m r;obtain⟨y,ys,rfl,ry,rys⟩:=r.consE;exact .cons (λw' z=>⟨y,rfl,by cases z;exact ry⟩) (ih ys m rys)
   exact base ws _ _ rw0
  .unfold fK at h
   cases e:g (ws.map bi++pw (N.length-ws.length) cg) EW with
   |rt w bF=>
    rw[e]at h;intro μ' v H' p x S' oD;obtain⟨μ2,p2,S2,r2⟩:=iP Sr S' p (.consI oD .nilI);obtain⟨_,e2,r3⟩:=r2.one
    cases e2
    exact h μ2 v H' p2 x S2 r3
   |nx ρ' bF=>
    rw[e]at h;intro μ' σ' H' p x l';obtain⟨μ2,p2,S2,_⟩:=iP (ws:=[]) (vs:=[]) Sr l'.sto p .nilI;exact h μ2 .non H' p2 x S2 .non
   |ex c ρ' bF=>
    rw[e]at h;intro Z μ' σ' H' ev s' p x l' fl;obtain⟨μ2,p2,S2,_⟩:=iP (ws:=[]) (vs:=[]) Sr l'.sto p .nilI;exact fl.leaves rfl rfl fl.inv.ok.frames rfl λC hC=>h C μ2 H' hC p2 x S2
   |bk ρ' bF=>rw[e]at h;exact h.elim
   |ct ρ' bF=>rw[e]at h;exact h.elim
   |bad=>rw[e]at h;exact h.elim
 refine eL ((n6 f (.ref cd) (wh (s.heap.objs.size+1) scope.names []++cl) A outer s H E (d.deeper _)).h [] _ (gT N (vs++qc)) H _ I hq) (λfl s' B=>?_) λe s' B=>B;have jM:∀{σ':St} {H':Hp} {v:V} {u:gs},bH (lY (iM P w) P w K mg base N qual scope f (.ref cd) (wh (s.heap.objs.size+1) scope.names []++cl) A outer s H E) [] σ' H' s'->cN v u->Q v H'->CE outer P w H s Q u s':=
  λ{σ' H' v u} J rv q=>⟨v,H',J.os,J.bare,J.base,J.hok,rv,q⟩
 cases fl with
 |ret u=>
  obtain⟨v,σ',H',J,rv,q⟩:=B;exact jM J rv q
 |next=>
  obtain⟨σ',H',J,q⟩:=B;exact jM (v:=V.non) (u:=Zb) J rfl q
 |brk=>
  obtain⟨_,_,_,q⟩:=B;exact YY q
 |cont=>
  obtain⟨_,_,_,q⟩:=B;exact YY q⟩
end
section
variable{nm:List Str}{f:FG}
end
section
end
end L2
namespace L2
open PySem PyProof.Rows
section
variable{w:ms}{YQ:Array Y6}
end
end L2
namespace L2
open PySem PySem.Spec PyProof.Rows
section
end
section
variable{w:ms}{d:i0}{es:Array YV}
end
section
end
section
end
section
variable{w:ms}{R:Result->i2->Prop}{K:Type}[DecidableEq K]{knd:KeyKind prog w K}
end
section
variable{w:ms}
variable{K:Type}[DecidableEq K]{knd:KeyKind prog w K}
end
def ui:List W->Option (List (DK×W))
 |[]=>bi []
 |.tup [k,v]::r=>match keyOf k,ui r with
  |some k,bi r=>bi ((k,v)::r)
  |_,_=>cg
 |_=>cg
theorem A9{x:W}{r:List W}{kvs:List (DK×W)}(h:ui (x::r)=bi kvs):∃k v O D,x=.tup [k,v]/\keyOf k=bi O/\ui r=bi D/\kvs=(O,v)::D:=by
 unfold ui at h
 split at h
 .rename_i J;cases J
 .rename_i k v z J
  cases J
  cases d:keyOf k with
  |none=>rw[d]at h;cases h
  |some O=>
   cases e2:ui r with
   |none=>rw[d,e2]at h;cases h
   |some D=>rw[d,e2]at h;cases h;exact⟨k,v,O,D,rfl,d,rfl,rfl⟩
 .cases h
section
theorem wf(I:bH X aj σ H s):∀{ys:List W} {kvs:List (DK×W)} {vs:List V} {bx:List gs},ui ys=bi kvs->RelWs X.K μ H ys vs->cR vs bx ->
  ∃(us:List V) (ps:List (sv×gs)),RelWs X.K μ H (kvs.map λp=>p.2) us/\KV (dV kvs us) ps/\bx.length=ps.length /\
   ∀(j:Nat) (x:gs),bx[j]?=bi x->∃p key k v,x=.ref p/\(∃o m,s.heap.get? p=bi o/\o.cls=.type "tuple"/\o.data=.seq #[key,v] m)/\ps[j]?=bi (k,v)/\(mP X.prog X.w).is k key=cT
 |[],kvs,vs,bx,h,r,hv=>by
  cases h
  have e:vs=[]:=r.nilE;subst e
  cases hv
  exact⟨[],[],.nilI,.nil,rfl,λj x h=>by simp at h⟩
 |y::ys,kvs,vs,bx,h,r,hv=>by
  obtain⟨k,w,k',r',rfl,ek,er,rfl⟩:=A9 h;obtain⟨x,U,rfl,R,rxs⟩:=r.consE
  cases hv with
  |cons O Ca=>
  rename_i u bx
  obtain⟨us,ps,a1,a2,a3,a4⟩:=wf I er rxs Ca;obtain⟨p,D,rfl,Z,rz⟩:=id R.tupE;obtain⟨z1,z2,rfl,rk,rz2⟩:=rz.consE;obtain⟨z3,rfl,oD⟩:=rz2.one;obtain⟨its2,hv2,hT,_⟩:=I.tuple Z
  cases hv2 with
  |cons z J=>
  cases J with
  |cons J g3=>
  cases g3
  rename_i k1 v1
  have:=L9 ek rk;subst this;obtain⟨o,d,e2,m,Y⟩:=hT;refine⟨z3::us,(k'.key,v1)::ps,.consI oD a1,.cons ⟨rfl,J⟩ a2,by simp[a3],λj x B=>?_⟩
  cases j with
  |zero=>
   cases B
   obtain rfl:u=YT p:=O;exact⟨p,k1,k'.key,v1,rfl,⟨o,m,d,e2,Y⟩,rfl,T6 z⟩
  |succ j=>exact a4 j x B
end
end L2
namespace TS
open PySem PyProof.Rows
def Mt(κ:KeyKind)(kd:ZF)(prog:YW)(w:ms)(s:i2):Prop:=∀(A:yy) (E:gs->i2->Prop) (p q:Y6) (a b:κ.α) (z:Y9) {Q:Option Bool->Y9->Prop},
 κ.keyOf p.1=bi a->κ.keyOf q.1=bi b->kindOf z=kd->Q (bi (κ.blt a b)) z->wpS #[2] A E s (lt' p q) Q z
structure SB(κ:KeyKind)(kd:ZF)(x0:Array Y6)(z:Y9):Prop where
 pm:(rn z).Perm x0
 kd:kindOf z=kd
 ok:failedOf z=cg
abbrev oG(xs ys:Array Y6)(i j:Nat):Prop:=∀k,k<i\/j<=k->ys[k]?=xs[k]?
structure Ch(κ:KeyKind)(kd:ZF)(x0:Array Y6)(i j:Nat)(z z':Y9):Prop where
 b:SB κ kd x0 z'
 o:oG (rn z) (rn z') i j
 p:Zc z'=Zc z
def Up(κ:KeyKind)(xs:Array Y6)(i j:Nat):Prop:=∀p q,i<=p->p<=q->q<j->κ.kle (KK κ xs p) (KK κ xs q)
def Dn(κ:KeyKind)(xs:Array Y6)(i j:Nat):Prop:=∀p q,i<=p->p<=q->q<j->κ.kle (KK κ xs q) (KK κ xs p)
section
variable{κ:KeyKind}{kd:ZF}{x0:Array Y6}{w:ms}{z z1 z2:Y9}{lo:Nat}
theorem Ch.refl(h:SB κ kd x0 z):Ch κ kd x0 i j z z:=⟨h,λ_ _=>rfl,rfl⟩
theorem Ch.trans(h:Ch κ kd x0 i j z z1)(Y:Ch κ kd x0 i j z1 z2):Ch κ kd x0 i j z z2:=⟨Y.b,λk c=>(Y.o k c).trans (h.o k c),Y.p.trans h.p⟩
theorem SB.sz(h:SB κ kd x0 z):(rn z).size=x0.size:=h.pm.size_eq
theorem SB.at(h:SB κ kd x0 z)(Y:KeysOf κ x0)(D:i<x0.size):∃p,(rn z)[i]?=bi p/\κ.keyOf p.1=bi (KK κ (rn z) i):=by
 have I:i<(rn z).size:=by rw[h.sz];exact D
 have e:(rn z)[i]?=bi (rn z)[i]:=getElem?_pos _ i I;obtain⟨a,V⟩:=Y _ ((iV.mp h.pm).mem_iff.mp (show(rn z)[i]∈(rn z).toList by simp));refine⟨_,e,?_⟩;unfold KK;rw[e];simp[V]
theorem SB.arr(h:SB κ kd x0 z){ys:Array Y6}(e:ys.Perm (rn z)):SB κ kd x0 (setArr z ys):=⟨e.trans h.pm,h.kd,h.ok⟩
theorem A_{Q:Option Bool->Y9->Prop}(V:Mt κ kd prog w s)(Y:KeysOf κ x0)(hz:SB κ kd x0 z)(D:i<x0.size)(I:j<x0.size)(h:Q (bi (κ.blt (KK κ (rn z) i) (KK κ (rn z) j))) z):wpS #[2] A E s (ltAt' i j) Q z:=by obtain⟨p,d,y⟩:=hz.at Y D;obtain⟨q,e2,Z⟩:=hz.at Y I;rw[ltAt'_eq];refine cv (t4 ?_);refine cv ?_;rw[elem'_eq,d];refine dN (cv ?_);rw[elem'_eq,e2];exact dN (V A E p q _ _ z y Z hz.kd h)
theorem Up.snoc{xs:Array Y6}(h:Up κ xs i j)(B:i<j->κ.kle (KK κ xs (j-1)) (KK κ xs j)):Up κ xs i (j+1):=λp q U y Y=>by
 rcases nK.mp Y with c|c
 .exact h p q U y c
 .subst c;rcases eR p q with d|d
  .exact kE (h p (q-1) U #[0] #[0]) (B #[0])
  .rw[show p=q by omega];exact gH _
theorem Dn.snoc{xs:Array Y6}(h:Dn κ xs i j)(B:i<j->κ.kle (KK κ xs j) (KK κ xs (j-1))):Dn κ xs i (j+1):=λp q U y Y=>by
 rcases nK.mp Y with c|c
 .exact h p q U y c
 .subst c;rcases eR p q with d|d
  .exact kE (B #[0]) (h p (q-1) U #[0] #[0])
  .rw[show p=q by omega];exact gH _
theorem rY{xs:Array Y6}:Up κ xs i (i+1):=λp q U y Y=>by rw[show p=q by omega];exact gH _
theorem Q5{xs:Array Y6}:Dn κ xs i (i+1):=λp q U y Y=>by rw[show p=q by omega];exact gH _
theorem Ip{r:Nat}{f:Nat->Option (Option Nat)×Nat->StateT Y9 Sem (ForInStep (Option (Option Nat)×Nat))}{Q:Option (Option Nat)×Nat->Y9->Prop}(V:Mt κ kd prog w s)(Y:KeysOf κ x0)(hz:SB κ kd x0 z)(R:lo+r<=x0.size)(W:1<=n)(XZ:n<=r)
  (J:∀x y,f x (cg,y)=(ltAt' (lo+y) (lo+y-1) >>= λc=>match c with|some b=>if b=cT then pure (.done (cg,y))else pure (.yield (cg,y+1))|none=>pure (.done (bi cg,y))))
  (d:Up κ (rn z) lo (lo+n)) (h:∀m,n<=m->m<=r->Up κ (rn z) lo (lo+m)->(m=r\/κ.klt (KK κ (rn z) (lo+m)) (KK κ (rn z) (lo+m-1)))->Q (cg,m) z):wpS #[2] A E s (forIn [n:r] (cg,n) f) Q z:=by
 refine j4 (I:=λk c y=>y=z/\c=(cg,k)/\Up κ (rn z) lo (lo+k)) ?_ ?_ ⟨rfl,rfl,d⟩
 .rintro k c y U O ⟨rfl,rfl,B⟩;rw[J];refine cv (A_ V Y hz #[0] #[0] ?_)
  cases e:κ.blt (KK κ (rn y) (lo+k)) (KK κ (rn y) (lo+k-1))with
  |true=>exact dN (h k U (by omega) B (.inr e))
  |false=>exact dN ⟨rfl,rfl,B.snoc λ_=>e⟩
 .rintro c y ⟨rfl,rfl,B⟩;rw[show max n r=r by omega]at B ⊢;exact h r XZ (am _) B (.inl rfl)
theorem zg{Q:Unit->Y9->Prop}(h:Q () (setArr z (mirror (rn z) i j ((j-i)/2)))):wpS #[2] A E s (reverseSlice' i j) Q z:=by rw[reverseSlice'_eq];exact su h
theorem zh(hz:SB κ kd x0 z){y d:Nat}(I:j<=x0.size)(a:y<=i)(b:j<=d):Ch κ kd x0 y d z (setArr z (mirror (rn z) i j ((j-i)/2))):=by refine⟨hz.arr (mirror_perm _ _ _ _),λk c=>?_,rfl⟩;show(mirror (rn z) i j ((j-i)/2))[k]?=_;rw[getElem?_mirror_all (by rw[hz.sz];exact I),aF #[0]]
end
section
variable{κ:KeyKind}{kd:ZF}{x0:Array Y6}{w:ms}{z z1 z2:Y9}{lo:Nat}
theorem Dn.cong{xs ys:Array Y6}(h:Dn κ xs i j)(e:∀k,KK κ ys k=KK κ xs k):Dn κ ys i j:=λp q a b c=>by rw[e,e];exact h p q a b c
abbrev Fl(κ:KeyKind)(xs:Array Y6)(i j:Nat):Prop:=∀p,i<=p->p<j->KK κ xs p=KK κ xs (j-1)
noncomputable abbrev WR:=Option (Option Nat)×Nat×Nat
theorem Mu{r:Nat}{f:Nat->WR->StateT Y9 Sem (ForInStep WR)}{Q:WR->Y9->Prop}(hL:Mt κ kd prog w s)(h0:KeysOf κ x0)(hz:SB κ kd x0 z)(R:lo+r<=x0.size)(W:1<=n)(XZ:n<=r)
  (V:∀x y e,f x (cg,y,e)=(ltAt' (lo+y) (lo+y-1) >>= λc=>match c with
   |some b=>if b=cT then(if e>0 then(reverseSlice' (lo+y-(e+1)) (lo+y) >>= λ_=>pure (.yield (cg,y+1,0)))else pure (.yield (cg,y+1,0)))
    else(ltAt' (lo+y-1) (lo+y) >>= λc=>match c with|some b=>if b=cT then pure (.done (cg,y,e))else pure (.yield (cg,y+1,e+1))|none=>pure (.done (bi cg,y,e)))
   |none=>pure (.done (bi cg,y,e))))
  (D:Dn κ (rn z) lo (lo+n))
  (h:∀m e y,Ch κ kd x0 lo (lo+r) z y->n<=m->m<=r->Dn κ (rn y) lo (lo+m)->e+1<=m->Fl κ (rn y) (lo+m-(e+1)) (lo+m)->Q (cg,m,e) y):wpS #[2] A E s (forIn [n:r] (cg,n,0) f) Q z:=by
 refine j4 (I:=λk c y=>∃e,c=(cg,k,e)/\Ch κ kd x0 lo (lo+r) z y/\Dn κ (rn y) lo (lo+k)/\e+1<=k/\Fl κ (rn y) (lo+k-(e+1)) (lo+k)) ?_ ?_ ⟨0,rfl,.refl hz,D,by omega,λp a b=>by rw[show p=lo+n-1 by omega]⟩
 .rintro k c y a1 a2 ⟨e,rfl,J,B,O,hfl⟩;rw[V];have U:=J.b;refine cv (A_ hL h0 U #[0] #[0] ?_)
  cases c1:κ.blt (KK κ (rn y) (lo+k)) (KK κ (rn y) (lo+k-1))with
  |true=>
   simp only[gu];have one:∀y',Ch κ kd x0 lo (lo+r) z y'->(∀q,KK κ (rn y') q=KK κ (rn y) q)->∃e,((cg,k+1,0):WR)=(cg,k+1,e)/\Ch κ kd x0 lo (lo+r) z y'/\Dn κ (rn y') lo (lo+(k+1))/\e+1<=k+1/\Fl κ (rn y') (lo+(k+1)-(e+1)) (lo+(k+1)):=λy' Z Y=>
    ⟨0,rfl,Z,(B.snoc λ_=>j5 c1).cong Y,by omega,λp a b=>by rw[show p=lo+(k+1)-1 by omega]⟩
   by_cases c2:e>0
   .rw[ax c2];refine cv (zg (dN (one _ (J.trans (zh U #[0] #[0] #[0])) λq=>?_)));exact pN (by rw[U.sz];omega) hfl q
   .rw[aF c2];exact dN (one y J λ_=>rfl)
  |false=>
   simp only[bu,dM];refine cv (A_ hL h0 U #[0] #[0] ?_)
   cases c2:κ.blt (KK κ (rn y) (lo+k-1)) (KK κ (rn y) (lo+k))with
   |true=>
    simp only[gu];exact dN (h k e y J a1 #[0] B O hfl)
   |false=>
    simp only[bu,dM];have eq:=κ.total _ _ c2 c1;refine dN ⟨e+1,rfl,J,B.snoc λ_=>c2,by omega,λp a b=>?_⟩;rw[show lo+(k+1)-1=lo+k by omega];rcases eR p (lo+k)with d|d
    .rw[hfl p #[0] d];exact eq
    .rw[show p=lo+k by omega]
 .rintro c y ⟨e,rfl,J,B,O,hfl⟩;rw[show max n r=r by omega]at *;exact h r e y J XZ (am _) B O hfl
theorem Q6{r:Nat}{Q:Option Nat->Y9->Prop}(hL:Mt κ kd prog w s)(Y:KeysOf κ x0)(hz:SB κ kd x0 z)(R:lo+r<=x0.size)(Z:1<=r)
  (h:∀m y,Ch κ kd x0 lo (lo+r) z y->1<=m->m<=r->Up κ (rn y) lo (lo+m)->Q (bi m) y):wpS #[2] A E s (countRun' lo r) Q z:=by
 rw[countRun'_eq];refine cv (Ip hL Y hz R (am 1) Z (λ_ _=>by dsimp only;refine cP (Bind.bind _) (funext λc=>?_);cases c<;>rfl) rY λn n1 n2 nu nd=>?_);dsimp only
 by_cases B:n=r
 .rw[ax (by simpa using B)];exact dN (h n z (.refl hz) n1 n2 nu)
 rw[aF (by simpa using B)];have U:=nd.resolve_left B
 suffices key:∀y,Ch κ kd x0 lo (lo+r) z y->Dn κ (rn y) lo (lo+(n+1))->wpS #[2] A E s _ Q y by
  by_cases W:n>1
  .rw[ax W];refine cv (A_ hL Y hz #[0] #[0] ?_)
   cases c1:κ.blt (KK κ (rn z) lo) (KK κ (rn z) (lo+n-1))with
   |true=>
    simp only[gu];exact dN (h n z (.refl hz) n1 n2 nu)
   |false=>
    simp only[bu,dM];have hfl:Fl κ (rn z) lo (lo+n):=λp a b=>KeyOrd.kle_antisymm (nu p (lo+n-1) a #[0] #[0]) (kE c1 (nu lo p (am _) a b));refine cv (zg (key _ (zh hz #[0] (am _) #[0]) ?_));have D:Dn κ (rn z) lo (lo+n):=λp q a b c=>by rw[hfl p a #[0],hfl q #[0] c];exact gH _
    exact(D.snoc λ_=>j5 U).cong (pN (by rw[hz.sz];omega) hfl)
  .rw[aF W];have e:n=1:=by omega
   subst e;exact key z (.refl hz) (Q5.snoc λ_=>j5 U)
 intro y J D;refine cv (wpS_lift (fC ⟨rfl,?_⟩));refine cv (Mu hL Y J.b R #[0] #[0] (λ_ _ _=>by
  dsimp only;refine cP (Bind.bind _) (funext λc=>?_);rcases c with _|b
  .rfl
  .dsimp only
   split
   .rfl
   .refine cP (Bind.bind _) (funext λc=>?_);cases c<;>rfl) D λm e y2 c2 m1 m2 d2 d f2=>?_)
 dsimp only
 suffices key:∀y3,Ch κ kd x0 lo (lo+r) z y3->Dn κ (rn y3) lo (lo+m)->wpS #[2] A E s _ Q y3 by
  by_cases O:e>0
  .rw[ax O];refine cv (zg (key _ ((J.trans c2).trans (zh c2.b #[0] #[0] #[0])) ?_));exact d2.cong (pN (by rw[c2.b.sz];omega) f2)
  .rw[aF O];exact key y2 (J.trans c2) d2
 intro y3 c3 d3;refine cv (zg ?_);have c4:=c3.trans (zh (i:=lo) (j:=lo+m) c3.b #[0] (am _) (show lo+m<=lo+r by omega));refine cv (Ip hL Y c4.b R #[0] m2 (λ_ _=>by dsimp only;refine cP (Bind.bind _) (funext λc=>?_);cases c<;>rfl) ?_ λq I V qu _=>?_)
 .intro p q a b c;show κ.kle (KK κ (mirror (rn y3) lo (lo+m) ((lo+m-lo)/2)) p) (KK κ (mirror (rn y3) lo (lo+m) ((lo+m-lo)/2)) q);have hsz:lo+m<=(rn y3).size:=by rw[c3.b.sz];omega
  rw[KK_mirror hsz,KK_mirror hsz,ax #[0],ax #[0]];exact d3 _ _ #[0] #[0] #[0]
 .exact dN (h q _ c4 #[0] V qu)
end
section
variable{κ:KeyKind}{kd:ZF}{x0:Array Y6}{w:ms}{z z1 z2:Y9}{lo:Nat}
theorem Q7{n b:Nat}{Q:Bool->Y9->Prop}(W:Mt κ kd prog w s)(Y:KeysOf κ x0)(hz:SB κ kd x0 z)(R:lo+n<=x0.size)(U:b<=n)(YO:1<=b)(V:Up κ (rn z) lo (lo+b))
  (h:∀y,Ch κ kd x0 lo (lo+n) z y->Up κ (rn y) lo (lo+n)->Q cT y):wpS #[2] A E s (binarySort' lo n b) Q z:=by
 rw[binarySort'_eq];rw[show max b 1=b by omega];refine cv (wpS_mono (j4 (I:=λk c y=>c=(cg,())/\Ch κ kd x0 lo (lo+n) z y/\Up κ (rn y) lo (lo+k))
  (Q:=λc y=>c=(cg,())/\Ch κ kd x0 lo (lo+n) z y/\Up κ (rn y) lo (lo+n)) ?_ ?_ ⟨rfl,.refl hz,V⟩) ?_)
 .rintro k c y a1 a2 ⟨rfl,J,B⟩;have D:=J.b;refine cv (wpS_mono (j4 (I:=λx c y'=>y'=y/\∃l r,c=(cg,l,r)/\l<=r/\r<=k/\r-l<=k-x/\(∀p,p<l->κ.kle (KK κ (rn y) (lo+p)) (KK κ (rn y) (lo+k)))/\∀p,r<=p->p<k->κ.klt (KK κ (rn y) (lo+k)) (KK κ (rn y) (lo+p)))
   (Q:=λc y'=>y'=y/\∃l r,c=(cg,l,r)/\l<=k/\(∀p,p<l->κ.kle (KK κ (rn y) (lo+p)) (KK κ (rn y) (lo+k)))/\∀p,l<=p->p<k->κ.klt (KK κ (rn y) (lo+k)) (KK κ (rn y) (lo+p))) ?_ ?_ ⟨rfl,0,k,rfl,by omega,by omega,by omega,λp q=>by omega,λp q=>by omega⟩) ?_)
  .rintro x c y' _ O ⟨rfl,l,r,rfl,Z,l2,l3,l4,l5⟩;dsimp only
   by_cases g:l≥r
   .rw[ax g];exact dN ⟨rfl,l,r,rfl,by omega,l4,λp a c=>l5 p #[0] c⟩
   .rw[aF g];refine cv (A_ W Y D #[0] #[0] ?_)
    cases e:κ.blt (KK κ (rn y') (lo+k)) (KK κ (rn y') (lo+(l+r)/2))with
    |true=>exact dN ⟨rfl,l,(l+r)/2,rfl,by omega,by omega,by omega,l4,λp a c=>KeyOrd.klt_of_klt_of_kle e (B _ _ (by omega) (by omega) (by omega))⟩
    |false=>exact dN ⟨rfl,(l+r)/2+1,r,rfl,by omega,by omega,by omega,λp a=>kE (B _ (lo+(l+r)/2) (by omega) (by omega) (by omega)) e,l5⟩
  .rintro c y' ⟨rfl,l,r,rfl,Z,l2,l3,l4,l5⟩;exact⟨rfl,l,r,rfl,by omega,l4,λp a c=>l5 p #[0] c⟩
  .rintro c y' ⟨rfl,l,r,rfl,Z,l4,l5⟩;show wpS _ _ _ _ (moveDown' (lo+k) (lo+l) >>= λ_=>pure (ZT (cg,()))) _ _;rw[moveDown'_eq];have hsz:lo+k<(rn y').size:=by rw[D.sz];omega
   refine cv (su (dN ⟨rfl,J.trans ⟨D.arr (bubble_perm _ _ _),λq c=>?_,rfl⟩,λp q a c d=>?_⟩))
   .show(bubble (rn y') (lo+k) (lo+k-(lo+l)))[q]?=_;rw[getElem?_bubble hsz _ #[0],aF #[0],aF #[0]]
   .show κ.kle (KK κ (bubble (rn y') (lo+k) (lo+k-(lo+l))) p) (KK κ (bubble (rn y') (lo+k) (lo+k-(lo+l))) q);rw[KK_bubble hsz #[0],KK_bubble hsz #[0]];have m4:∀p,lo<=p->p<lo+l->κ.kle (KK κ (rn y') p) (KK κ (rn y') (lo+k)):=λp a c=>by have:=l4 (p-lo) #[0];rwa[show lo+(p-lo)=p by omega]at this
    have m5:∀p,lo+l<=p->p<lo+k->κ.klt (KK κ (rn y') (lo+k)) (KK κ (rn y') p):=λp a c=>by have:=l5 (p-lo) #[0] #[0];rwa[show lo+(p-lo)=p by omega]at this
    repeat' split
    all_goals first
     |(exfalso;omega)
     |exact gH _
     |exact m4 _ (by omega) (by omega)
     |exact j5 (m5 _ (by omega) (by omega))
     |exact B _ _ (by omega) (by omega) (by omega)
 .rintro c y ⟨rfl,J,B⟩;rw[show max b n=n by omega]at B;exact⟨rfl,J,B⟩
 .rintro c y ⟨rfl,J,B⟩;exact dN (h y J B)
theorem Mv{Q:Unit->Y9->Prop}(V:Mt κ kd prog w s)(Y:KeysOf κ x0)(hz:SB κ kd x0 z)(U:Zc z=#[])(Z:1<=x0.size)(XM:x0.size<64)
  (h:∀y,(rn y).Perm x0->failedOf y=cg->Up κ (rn y) 0 x0.size->Q () y):wpS #[2] A E s sortRuns' Q z:=by
 rw[sortRuns'_eq];refine cv (t4 ?_);dsimp only;have mr:minRun' x0.size x0.size 0=x0.size:=by
  obtain⟨f,J⟩:∃f,x0.size=f+1:=⟨x0.size-1,by omega⟩
  have:minRun' (f+1) x0.size 0=x0.size:=by rw[minRun'_succ,ax XM];rfl
  rwa[<- J]at this
 rw[hz.sz,mr];have jM:∀y,SB κ kd x0 y->Zc y=#[]->Up κ (rn y) 0 x0.size->(SB κ kd x0 (setPending y ((Zc y).push (0,x0.size,0)))/\(setPending y ((Zc y).push (0,x0.size,0)) |> Zc).size<=1/\Up κ (rn (setPending y ((Zc y).push (0,x0.size,0)))) 0 x0.size):=λy b e u=>⟨⟨b.pm,b.kd,b.ok⟩,by show((Zc y).push _).size<=1;rw[e];exact am _,u⟩
 refine cv (wpS_mono (j4 (I:=λx c y=>(x=0/\c=(cg,0)/\y=z)\/(1<=x/\c=(cg,x0.size)/\SB κ kd x0 y/\(Zc y).size<=1/\Up κ (rn y) 0 x0.size))
  (Q:=λc y=>c=(cg,x0.size)/\SB κ kd x0 y/\(Zc y).size<=1/\Up κ (rn y) 0 x0.size) ?_ ?_ (.inl ⟨rfl,rfl,rfl⟩)) ?_)
 .rintro x c y _ O (⟨rfl,rfl,rfl⟩|⟨hx1,rfl,r⟩)
  .dsimp only;rw[aF #[0]];simp only[Nat.sub_zero,Nat.min_self,gf];refine cv (Q6 (lo:=0) V Y hz #[0] #[0] λm y1 B m1 m2 u1=>?_);rw[gf]at u1;dsimp only
   by_cases D:m<x0.size
   .rw[ax D];refine cv (wpS_lift (fC ⟨rfl,cv (Q7 (lo:=0) (n:=x0.size) V Y B.b #[0] m2 m1 (by rw[gf];exact u1) λy3 c3 u3=>?_)⟩));rw[gf]at u3;have W:Zc y3=#[]:=c3.p.trans (B.p.trans U);rw[aF #[5]];refine cv (t4 ?_);rw[show(Zc y3).back?=cg by rw[W];rfl];exact cv (su (dN (.inr ⟨by omega,rfl,jM y3 c3.b W u3⟩)))
   .rw[aF D];have d:Zc y1=#[]:=B.p.trans U;obtain rfl:m=x0.size:=by omega
    refine cv (t4 ?_);rw[show(Zc y1).back?=cg by rw[d];rfl];exact cv (su (dN (.inr ⟨by omega,rfl,jM y1 B.b d u1⟩)))
  .dsimp only;rw[ax (am _)];exact dN ⟨rfl,r⟩
 .rintro c y (⟨h,_,_⟩|⟨_,e,r⟩)
  .omega
  .exact⟨e,r⟩
 .rintro c y ⟨rfl,b,R,u⟩;dsimp only;refine cv (wpS_mono (j4 (I:=λ_ c y'=>y'=y/\c=(cg,())) (Q:=λc y'=>y'=y/\c=(cg,())) ?_ (λ_ _ q=>q) ⟨rfl,rfl⟩) ?_)
  .rintro x c y' _ _ ⟨rfl,rfl⟩;refine cv (t4 ?_);rw[ax R];exact dN ⟨rfl,rfl⟩
  .rintro c y' ⟨rfl,rfl⟩;exact dN (h _ b.pm b.ok u)
end
def RowAt(h:pk)(v:gs)(ns:List Int):Prop:=∃a o bx n,v=.ref a/\h.get? a=bi o/\o.cls=.type "tuple"/\o.data=.seq bx n/\ZM bx.toList ns
theorem RowAt.one{V:List Int}(x:RowAt h v ns)(y:RowAt h v V):ns=V:=by
 obtain⟨a,o,O,n,rfl,Z,_,Y,B⟩:=x;obtain⟨b,W,w,I,e,z,_,J,U⟩:=y
 cases e
 rw[Z]at z;cases z
 rw[Y]at J;cases J
 rw[<- B.nums,<- U.nums]
theorem RowAt.keep(x:RowAt h v ns)(k:∀a o,v=.ref a->h.get? a=bi o->h'.get? a=bi o):RowAt h' v ns:=by obtain⟨a,o,O,n,rfl,Z,r⟩:=x;exact⟨a,o,O,n,rfl,k a o rfl Z,r⟩
open Classical in
noncomputable def D4(h:pk)(v:gs):Option (List Int):=if x:∃ns,RowAt h v ns then bi x.choose else cg
theorem kM:D4 h v=bi ns↔RowAt h v ns:=by
 unfold D4;constructor
 .intro e
  split at e
  .rename_i x
   have:=x.choose_spec
   cases e;exact this
  .cases e
 .intro x;have O:∃ns,RowAt h v ns:=⟨ns,x⟩
  rw[ph O,O.choose_spec.one x]
@[reducible] noncomputable def tK(h:pk):KeyKind where
 α:=List Int
 blt a b:=decide (a<b)
 irrefl a:=by simpa using mx a
 trans a b c h1 h2:=by simp only[decide_eq_true_eq]at *;exact kI h1 h2
 negTrans a b c h:=by
  simp only[decide_eq_true_eq]at *
  by_cases Nb:a<b
  .exact .inl Nb
  .exact .inr (List.lt_of_le_of_lt (iT.mp Nb) h)
 total a b h1 h2:=by simp only[om]at *;exact oi (iT.mp h2) (iT.mp h1)
 keyOf v:=D4 h v
 dflt:=[]
section
variable{w:ms}
theorem F5{a b:Int}{t u:Tok}{k:Bool}{Q:Bool->i2->Prop}(h:Q (decide (a<b)) s):i1 #[2] A (oneLt' k (.int a t) (.int b u)) Q E s:=by
 cases k with
 |true=>exact oneLt_int h
 |false=>
  rw[oneLt'_eq];simp only[bu,dM];refine aa (wpAny_lt_int ?_);exact cZ h
theorem xz(k:Bool)(x y:gs):keyLt' (tuples' k) x y=(do
  let xs <- aan x;let ys <- aan y
  for ((p,q),i) in (xs.toList.zip ys.toList).zipIdx do
   if !(<- eqBool p q)then return <- oneLt' (k&&i==0) p q
  return xs.size<ys.size):=rfl
theorem Ba{k:Bool}{Q:Bool->i2->Prop}{N M:Nat}{B:(gs×gs)×Nat->Option Bool×Unit->Sem (ForInStep (Option Bool×Unit))}{G:Option Bool×Unit->Sem Bool}
  (D:∀p q i r,B ((p,q),i) r=(eqBool p q >>= λb=>if (!b)=cT then(oneLt' (k&&i==0) p q >>= λr=>pure (ForInStep.done (bi r,())))else pure (ZT (cg,())))) (Z:∀r,G (bi r,())=pure r) (Y:G (cg,())=pure (decide (N<M))) :
  ∀{us vs:List gs} {ns V:List Int} {i:Nat},ZM us ns->ZM vs V->N=i+us.length->M=i+vs.length->Q (decide (ns<V)) s ->
  i1 #[2] A (forIn (m:=Sem) ((us.zip vs).zipIdx i) ((cg,()):Option Bool×Unit) B) (λz d=>i1 #[2] A (G z) Q E d) E s
 |[],vs,_,_,i,.nil,g,hp,hq,h=>by
  rw[List.zip_nil_left];refine ae ?_;rw[Y];refine ae ?_
  cases g with
  |nil=>rw[aQ (by rw[hp,hq];exact bX _)];rw[aQ (mx _)]at h;exact h
  |cons n t g=>rw[bb (by rw[hp,hq];simp)];rw[bb (List.nil_lt_cons _ _)]at h;exact h
 |_::_,[],_,_,i,.cons n t f,.nil,hp,hq,h=>by rw[List.zip_nil_right];refine ae ?_;rw[Y];refine ae ?_;rw[aQ (by rw[hp,hq];simp)];rw[aQ (List.not_lt_nil _)]at h;exact h
 |_::us,_::vs,_,_,i,.cons a t f,.cons b u g,hp,hq,h=>by
  rw[List.zip_cons_cons,i3,eY,D];refine aa (aa (wpAny_eqBool_int ?_))
  by_cases e:a=b
  .subst e;rw[aF #[5]];refine ae (Ba D Z Y f g (by rw[hp,fD];omega) (by rw[hq,fD];omega) ?_);simpa[p9]using h
  .rw[ax (by simpa using e)];refine aa (F5 (ae (ae ?_)));rw[Z];refine ae ?_;simpa[p9,e]using h
theorem zi{k:Bool}{x y:gs}{D:List Int}{Q:Bool->i2->Prop}(O:RowAt s.heap x ns)(z:RowAt s.heap y D)(h:Q (decide (ns<D)) s):i1 #[2] A (keyLt' (tuples' k) x y) Q E s:=by obtain⟨a,o,d,n,rfl,Z,_,Y,B⟩:=O;obtain⟨b,W,R,I,rfl,V,_,J,U⟩:=z;rw[xz];refine aa (pq Z Y (aa (pq V J ?_)));exact aa (Ba (k:=k) (Q:=Q) (N:=d.size) (M:=R.size) (λ_ _ _ _=>rfl) (λ_=>rfl) rfl B U (by rw[gf,cB]) (by rw[gf,cB]) h)
theorem CS(k:Bool):Mt (tK s.heap) (tuples' k) prog w s:=λA E p q a b z Q D U V Y=>by rw[lt'_eq];refine cv (t4 ?_);rw[V];refine cv (wpS_lift (fM ?_));exact zi (kM.mp D) (kM.mp U) ⟨rfl,dN Y⟩
theorem zj{m:α->Sem β}{f:α->β}:∀{l:List α} {Q:List β->i2->Prop},(∀x∈l,∀Q:β->i2->Prop,Q (f x) s->i1 #[2] A (m x) Q E s)->Q (l.map f) s->i1 #[2] A (l.mapM m) Q E s
 |[],Q,_,h=>by rw[List.mapM_nil];exact ae h
 |x::l,Q,hm,h=>by rw[List.mapM_cons];refine aa (hm x #[5] _ ?_);exact aa (zj (λy Z=>hm y (aC _ Z)) (ae h))
theorem wg{vs:List gs}{Q:ZF->i2->Prop}(z:vs≠[])(W:∀v∈vs,∃n ns,RowAt s.heap v (n::ns))(h:Q (tuples' cT) s):i1 #[2] A (keyKind' vs.toArray) Q E s:=by
 rw[keyKind'_eq,List.mapM_toArray];have I:∀v∈vs,∃u n t,u=ZO n t/\∀Q:Option gs->i2->Prop,Q (bi u) s->i1 #[2] A (firstOfTuple' v) Q E s:=λv y=>by
  obtain⟨n,ns,a,o,O,e,rfl,Z,J,Y,B⟩:=W v y
  cases D:O.toList with
  |nil=>rw[D]at B;cases B
  |cons u r=>
   rw[D]at B
   cases B with
   |cons n t B=>
    refine⟨_,n,t,rfl,λQ R=>?_⟩;have ty:s.TypeIs (.ref a) "tuple":=⟨o,Z,J⟩
    show i1 _ _ (typeOf (.ref a) >>= λx=>if (x != .type "tuple")=cT then pure cg else(aan (.ref a) >>= λU=>pure U[0]?)) _ _ _;refine aa (jR ty ?_);rw[aF #[5]];refine aa (pq Z Y (ae ?_));rw[<- fj,D];exact R
 obtain⟨F,V⟩:∃F:gs->gs,∀v∈vs,(∃n t,F v=ZO n t)/\∀Q:Option gs->i2->Prop,Q (bi (F v)) s->i1 #[2] A (firstOfTuple' v) Q E s:=by refine⟨λv=>if h:v∈vs then(I v h).choose else .none,λv y=>?_⟩;obtain⟨n,t,e,q⟩:=(I v y).choose_spec;dsimp only;rw[ph y];exact⟨⟨n,t,e⟩,q⟩
 rw[map_eq_pure_bind];refine aa (aa (zj (f:=λv=>bi (F v)) (λv y Q R=>(V v y).2 Q R) (ae ?_)));rw[ax #[5]];refine aa (fC (aa ?_));have e:(vs.map λv=>bi (F v)).toArray.filterMap id=(vs.map F).toArray:=by
  rw[List.filterMap_toArray,List.filterMap_map]
  congr 1
  rw[<- List.filterMap_eq_map];rfl
 rw[e,oneTypeOnly'_eq,List.mapM_toArray,map_eq_pure_bind];refine aa (aa (zj (f:=λ_=>Zo "int") (λv y Q R=>?_) (ae ?_)))
 .obtain⟨u,d,rfl⟩:=aE.mp y;obtain⟨⟨n,t,e⟩,_⟩:=V u d;rw[e];exact ae R
 .obtain⟨v,r,rfl⟩:∃v r,vs=v::r:=by
   cases vs with
   |nil=>exact absurd rfl z
   |cons v r=>exact⟨v,r,rfl⟩
  have Z:(((v::r).map F).map λ_=>Zo "int").toArray[0]?=bi (Zo "int"):=by simp
  rw[Z];have Y:(((v::r).map F).map λ_=>Zo "int").toArray.all (· == Zo "int")=cT:=by simp only[List.all_toArray,tZ,fB];intro _ _;rfl
  dsimp only;rw[ax Y];exact ae (ae h)
end
section
variable{w:ms}{κ:KeyKind}{kd:ZF}
theorem Iq{l:i0}{R:Fin->i2->Prop}(I:s.heap.get? l=bi (Y5 "list" us.toArray m))(W:us.length<64)
  (B:2<=us.length->∀g:pk,(∀b o,b≠l->s.heap.get? b=bi o->g.get? b=bi o)->∀(A:yy) (E:gs->i2->Prop) (Q:ZF->i2->Prop),Q kd { s with heap:=g }->i1 #[2] A (keyKind' us.toArray) Q E { s with heap:=g })
  (hL:∀g:pk,(∀b o,b≠l->s.heap.get? b=bi o->g.get? b=bi o)->Mt κ kd prog w { s with heap:=g }) (h0:KeysOf κ (pairsOf us))
  (h:∀xs:Array Y6,xs.Perm (pairsOf us)->Up κ xs 0 us.length->R (.done (.ret .none)) { s with heap:=sortedHeap s.heap l us (xs.map (·.2)) }) :
  i1 #[2] A (Builtin.«list.sort» ⟨[.ref l],[]⟩) R E s:=by
 rw[list_sort_plain];have hls:l<s.heap.objs.size:=aB I;have big:us.length<=sizeLine:=by rw[jz];omega
 have hz:us.toArray.size=us.length:=by simp
 have hps:=pairsOf_size us;refine aa (pq I rfl (aa (listUpdate_at I rfl ?_ (hsz:=by rw[hz];exact big))));obtain⟨e,J⟩:∃e,(s.heap.update l (Zh λ_=>#[])).get? l=bi (Y5 "list" #[] e):=⟨_,get?_update_seq I (λ_=>#[])⟩
 refine aa (seqEpoch_at J rfl (aa (mq (aa (nJ (c8 ?_))))));have h6:(((s.heap.update l (Zh λ_=>#[])).push (Y5 "tuple" us.toArray 0)).push (Y5 "list" #[] 0)).get? l=bi (Y5 "list" #[] e):=by
  have V:l≠((s.heap.update l (Zh λ_=>#[])).push (Y5 "tuple" us.toArray 0)).objs.size:=by rw[size_push',oy];exact aJ (c9 hls)
  have q2:l≠(s.heap.update l (Zh λ_=>#[])).objs.size:=by rw[oy];exact aJ hls
  rw[j0 _ _ _ V,j0 _ _ _ q2];exact J
 show i1 _ _ _ R E { s with heap:=((s.heap.update l (Zh λ_=>#[])).push (Y5 "tuple" us.toArray 0)).push (Y5 "list" #[] 0) };dsimp only;have old:∀b o,b≠l->s.heap.get? b=bi o->(((s.heap.update l (Zh λ_=>#[])).push (Y5 "tuple" us.toArray 0)).push (Y5 "list" #[] 0)).get? b=bi o:=λb o U e=>
  ai _ (ai _ ((de _ _ (YU U)).trans e))
 have jM:∀y:Y9,(rn y).Perm (pairsOf us)->failedOf y=cg->Up κ (rn y) 0 us.length->i1 #[2] A (do
   let touched:=(<- seqEpoch l) != e
   Builtin.List.listUpdate (.ref l) λ_=>(rn y).map (·.2)
   if let bi e:=failedOf y then rule "list.sort.comparison-raised";throw e
   if touched then rule "list.sort.modified";raiseError "ValueError" "list modified during sort"
   ret .none) R E { s with heap:=((s.heap.update l (Zh λ_=>#[])).push (Y5 "tuple" us.toArray 0)).push (Y5 "list" #[] 0) }:=λy Z hf O=>by
  have hys:(Array.map (λx:Y6=>x.2) (rn y)).size<=sizeLine+1:=by rw[Array.size_map,Z.size_eq,hps];exact Nat.le_succ_of_le big
  refine aa (seqEpoch_at h6 rfl (aa (listUpdate_at h6 rfl ?_ (hsz:=dy _) (hsz2:=hys))));rw[hf];simp only[bne_self_eq_false,bu,dM];exact ae (h _ Z O)
 by_cases Y:us.toArray.size<2
 .rw[ax Y,ax Y];refine aa (ae ?_);rw[StateT.run_pure];refine aa (ae (jM _ (Array.Perm.refl _) rfl λp q _ hpq D=>?_));have hlt:us.length<2:=by rw[hz]at Y;exact Y
  obtain rfl:p=q:=by omega
  exact gH _
 .rw[aF Y,aF Y];have h2':2<=us.length:=by rw[hz]at Y;omega
  refine aa (B h2' _ old _ _ _ ?_);refine aa (eL (Mv (κ:=κ) (kd:=kd) (x0:=pairsOf us) (z:=SortSt.mk' kd (us.toArray.zip us.toArray) #[] 7 cg)
   (Q:=λ_ y=>(rn y).Perm (pairsOf us)/\failedOf y=cg/\Up κ (rn y) 0 us.length) (hL _ old) h0 ⟨Array.Perm.refl _,rfl,rfl⟩ rfl (by rw[hps];omega) (by rw[hps];exact W) λy a b c=>⟨a,b,by rw[hps]at c;exact c⟩) ?_ λ_ _ z=>z)
  rintro⟨⟨⟩,y⟩ d ⟨rfl,Z,hf,O⟩;exact jM y Z hf O
theorem CU{l:i0}{R:gs->i2->Prop}(I:s.heap.IsList l us.toArray)(W:us.length<64)
  (B:2<=us.length->∀g:pk,(∀b o,s.heap.get? b=bi o->g.get? b=bi o)->∀(A:yy) (E:gs->i2->Prop) (Q:ZF->i2->Prop),Q kd { s with heap:=g }->i1 #[2] A (keyKind' us.toArray) Q E { s with heap:=g })
  (V:∀g:pk,(∀b o,s.heap.get? b=bi o->g.get? b=bi o)->Mt κ kd prog w { s with heap:=g }) (z:KeysOf κ (pairsOf us))
  (h:∀xs:Array Y6,xs.Perm (pairsOf us)->Up κ xs 0 us.length->R (.ref (s.heap.objs.size+1)) { s with heap:=sortedAll s.heap us (xs.map (·.2)) }) :
  i1 #[2] A (call (.builtin "sorted") [.ref l]) R E s:=by
 refine i7 kind_sorted tW tX (tY _) ?_;unfold Builtin.«sorted»;refine aa (m:=checkCount "sorted" 1 1 _) (ae (aa (collect_list I (aa (nJ ?_)) (by rw[jz];omega))));obtain⟨g,d⟩:∃g,g=(s.heap.push (Y5 "list" #[] 0)).update s.heap.objs.size (Zh (·++us.toArray)):=⟨_,rfl⟩
 have Z:g.objs.size=s.heap.objs.size+1:=by rw[d,oy,size_push']
 have go:(g.push (Y5 "list" us.toArray 0)).get? (s.heap.objs.size+1)=bi (Y5 "list" us.toArray 0):=by rw[<- Z];exact av _ rfl
 have y:∀b o,s.heap.get? b=bi o->(g.push (Y5 "list" us.toArray 0)).get? b=bi o/\b≠s.heap.objs.size+1:=λb o e=>by have U:=aB e;refine⟨ai _ ?_,aJ (c9 U)⟩;rw[d];exact(de _ _ (eM U)).trans (ai _ e)
 rw[d]at Z go y;show i1 _ _ _ _ _ { s with heap:=((s.heap.push (Y5 "list" #[] 0)).update s.heap.objs.size (Zh (·++us.toArray))).push (Y5 "list" us.toArray 0) };rw[Z];exact aa (c8 (bj qB ⟨_,go,rfl⟩ pM (Iq go W (λY g k=>B Y g λb o e=>k b o (y b o e).2 (y b o e).1) (λg k=>V g λb o e=>k b o (y b o e).2 (y b o e).1) z λxs a b=>⟨_,rfl,ae ⟨_,rfl,h xs a b⟩⟩) (qC _)))
theorem sorted_rows{l:i0}{us:List gs}{R:gs->i2->Prop}(I:s.heap.IsList l us.toArray)(W:us.length<64)(hv:∀v∈us,∃n ns,RowAt s.heap v (n::ns))
  (h:∀zs:Array gs,zs.toList.Perm us->zs.toList.Pairwise (λu v=>∀a b,RowAt s.heap u a->RowAt s.heap v b->¬ b<a)->R (.ref (s.heap.objs.size+1)) { s with heap:=sortedAll s.heap us zs }) :
  i1 #[2] A (call (.builtin "sorted") [.ref l]) R E s:=by
 have up:∀{g:pk},(∀b o,s.heap.get? b=bi o->g.get? b=bi o)->∀{v ns},RowAt s.heap v ns->RowAt g v ns:=λk v ns x=>x.keep λa o _ e=>k a o e;refine CU (κ:=tK s.heap) (kd:=tuples' cT) I W (λY g k A E Q J=>wg (by intro e;rw[e]at Y;simp at Y) (λv y=>by obtain⟨n,ns,x⟩:=hv v y;exact⟨n,ns,up k x⟩) J)
  (λg k A E p q a b z Q V U hz J=>CS (s:={ s with heap:=g }) cT A E p q a b z (kM.mpr (up k (kM.mp V))) (kM.mpr (up k (kM.mp U))) hz J)
  (λp Z=>?_) λxs Z O=>h _ ?_ ?_
 .have y:p.1∈us:=by have:=qD us▸Z;exact(eX this).1
  obtain⟨n,ns,x⟩:=hv _ y;exact⟨n::ns,kM.mpr x⟩
 .have I:xs.toList.Perm (us.zip us):=by rw[<- qD];exact iV.mp Z
  rw[Array.toList_map];refine(I.map _).trans (.of_eq ?_);exact oz (am _)
 .have I:xs.toList.Perm (us.zip us):=by rw[<- qD];exact iV.mp Z
  have hsz:xs.size=us.length:=by rw[Z.size_eq,pairsOf_size]
  rw[Array.toList_map];refine dE.mpr (List.pairwise_iff_getElem.mpr λi j D hj hij a b V U=>?_);have same:∀k (B:k<xs.toList.length),xs.toList[k].1=xs.toList[k].2:=λk B=>(mem_zip_self (I.mem_iff.mp (dX B))).1;have key:∀k (B:k<xs.toList.length) (r:List Int),RowAt s.heap xs.toList[k].2 r->KK (tK s.heap) xs k=r:=λk B r x=>by
   have d:xs[k]?=bi xs.toList[k]:=by rw[<- fj];exact ar B
   unfold KK;rw[d];show(D4 s.heap xs.toList[k].1).getD []=r;rw[same k B,kM.mpr x];rfl
  have z:=O i j (dy _) (cx hij) (by rw[<- hsz,<- cB];exact hj);rw[key i D a V,key j hj b U]at z;exact jq z
end
end TS
namespace L2
open PySem PySem.Spec PyProof.Rows
theorem yg{f:α->β}:∀{l m:List β},l.Perm m->∀{T:List α},T.map f=m->∃T':List α,T'.Perm T/\T'.map f=l:=by
 intro l m h
 induction h with
 |nil=>intro T e;exact⟨T,.refl _,e⟩
 |cons x _ U=>
  intro T e
  cases T with
  |nil=>cases e
  |cons t T=>
   obtain⟨d,e2⟩:=List.cons.inj e;obtain⟨T',p,q⟩:=U e2;exact⟨t::T',p.cons t,by rw[aK,q,d]⟩
 |swap x y l=>
  intro T e
  match T,e with
  |[],e=>cases e
  |[_],e=>simp at e
  |t::u::T,e=>
   simp only[aK,lj]at e;obtain⟨d,e2,I⟩:=e;exact⟨u::t::T,aad _ _ _,by simp only[aK,d,e2,I]⟩
 |trans _ _ O Z=>
  intro T e;obtain⟨T1,R,w⟩:=Z e;obtain⟨T2,W,J⟩:=O w;exact⟨T2,W.trans R,J⟩
noncomputable def CV(c:List Int):List (List Int)->List (List Int)
 |[]=>[c]
 |d::r=>if c<d then c::d::r else d::CV c r
def Bb(l:List (List Int)):List (List Int):=l.foldr CV []
theorem uj(c:List Int):∀l:List (List Int),(CV c l).Perm (c::l)
 |[]=>fY _
 |d::r=>by
  unfold CV
  split
  .exact fY _
  .exact((uj c r).cons d).trans (aad c d r)
theorem wj(l:List (List Int)):(Bb l).Perm l:=by
 induction l with
 |nil=>exact fY _
 |cons a r U=>exact(uj a _).trans (U.cons a)
abbrev GM:List (List Int)->Prop:=List.Pairwise λa b=>¬ b<a
theorem D5(c:List Int):∀{l:List (List Int)},GM l->GM (CV c l)
 |[],_=>by simp[CV,GM]
 |d::r,h=>by
  obtain⟨Z,Y⟩:=bp.mp h;unfold CV
  split
  .rename_i J
   refine bp.mpr ⟨λb hb=>?_,h⟩;rcases aG.mp hb with rfl|hb
   .exact λz=>mx _ (kI J z)
   .exact λz=>Z b hb (kI z J)
  .rename_i J
   refine bp.mpr ⟨λb hb=>?_,D5 c Y⟩;rcases aG.mp ((uj c r).mem_iff.mp hb)with rfl|hb
   .exact J
   .exact Z b hb
theorem Bc(l:List (List Int)):GM (Bb l):=by
 induction l with
 |nil=>exact Z4
 |cons a r U=>exact D5 a U
theorem zk:∀{l m:List (List Int)},GM l->GM m->l.Perm m->l=m
 |[],m,_,_,h=>(List.Perm.nil_eq h)
 |a::l,[],_,_,h=>(by have:=h.length_eq;simp at this)
 |a::l,b::m,h1,h2,h=>by
  obtain⟨R,W⟩:=bp.mp h1;obtain⟨w,J⟩:=bp.mp h2;have e:a=b:=by
   rcases aG.mp (h.mem_iff.mp (by simp:a∈a::l))with z|z
   .exact z
   .rcases aG.mp (h.mem_iff.mpr (by simp:b∈b::m))with y|y
    .exact y.symm
    .exact oi (iT.mp (R b y)) (iT.mp (w a z))
  subst e;rw[zk W J ((List.perm_cons a).mp h)]
noncomputable abbrev CW(r:List Int):W:=.tup (r.map W.int)
def uK:List W->Option (List (List Int))
 |[]=>bi []
 |.tup zs::ws=>match kc zs,uK ws with
  |some (n::ns),bi l=>bi ((n::ns)::l)
  |_,_=>cg
 |_=>cg
section
structure Xw(X:Cx)(μ:List i0)(H:Hp)(s:i2)(t:List Int×V×gs):Prop where
 w:bh X.K μ H (CW t.1) t.2.1
 v:cN t.2.1 t.2.2
 r:TS.RowAt s.heap t.2.2 t.1
 n:t.1≠[]
theorem Be(I:bH X aj σ H s):∀{ws:List W} {l:List (List Int)} {vs:List V} {us:List gs},uK ws=bi l->RelWs X.K μ H ws vs->cR vs us ->
  ∃T:List (List Int×V×gs),(∀t∈T,Xw X μ H s t)/\T.map (·.1)=l/\T.map (·.2.1)=vs/\T.map (·.2.2)=us
 |[],l,vs,us,h,r,rv=>by
  cases h
  cases r.nilE
  cases rv
  exact⟨[],by simp,rfl,rfl,rfl⟩
 |w::ws,l,vs,us,h,r,rv=>by
  obtain⟨x,U,rfl,R,rs⟩:=r.consE;unfold uK at h
  split at h
  .rename_i e;cases e
  .rename_i zs SX e
   cases e
   split at h
   .rename_i n ns l' d e2
    cases h
    cases rv with
    |cons ru rus=>
     obtain⟨T,Z,Y,z,h4⟩:=Be I e2 rs rus;obtain⟨p,xI,rfl,hT,rz⟩:=R.tupE;have ev:=AX d rz;subst ev;have ru':=ru
     cases ru
     obtain⟨O,rv',⟨o,B,J,m,D⟩,_⟩:=I.tuple hT;have y:W.tup _=CW (n::ns):=cP W.tup (sQ d);refine⟨(n::ns,.ref p,.ref p)::T,λt ht=>?_,by rw[aK,Y],by rw[aK,z],by rw[aK,h4]⟩;rcases aG.mp ht with rfl|ht
     .exact⟨by rw[<- y];exact R,ru',⟨p,o,O.toArray,m,rfl,B,J,D,by simpa using Cj rv'⟩,by simp⟩
     .exact Z t ht
   .cases h
  .cases h
def r9(ws:List W)(st:List al):R W:=match ws with
 |[.loc n]=>sK (lstOf st n) λD=>sK (uK D) λl=>if l.length<64 then .ok (.loc st.length) (st++[.lst ((Bb l).map CW)])else .bad
 |_=>.bad
theorem yh:∀{T:List (List Int×V×gs)},(∀t∈T,Xw X μ H s t)->RelWs X.K μ H (T.map λt=>CW t.1) (T.map (·.2.1))/\cR (T.map (·.2.1)) (T.map (·.2.2))
 |[],_=>⟨.nilI,.nil⟩
 |t::T,h=>by obtain⟨a,b⟩:=yh (T:=T) λu d=>h u (aC _ d);have z:=h t #[5];exact⟨.consI z.w a,.cons z.v b⟩
theorem Mw:qi X (.builtin "sorted") r9:=⟨λW s B H R us Q I rv zq=>by
 obtain⟨D,J,ws,S,r,q⟩:=zq;unfold r9 at q
 split at q
 .rename_i n
  obtain⟨y,rfl,ry⟩:=r.one
  cases d:lstOf J n with
  |none=>rw[d]at q;exact q.elim
  |some zs=>
   rw[d,cO]at q
   cases e2:uK zs with
   |none=>rw[e2]at q;exact q.elim
   |some l=>
    rw[e2,cO]at q
    split at q
    .rename_i c
     obtain⟨a,R,g,hS,rz⟩:=S.lstOf d;obtain⟨b1,f1,rfl⟩:=ry.locE;rw[g]at f1;cases f1
     obtain⟨u,rfl,ru⟩:=lR rv
     cases ru
     obtain⟨bx,rv',pl,hz⟩:=I.list hS;obtain⟨T,hT,Z,Y,h3⟩:=Be I e2 rz rv';have dC:bx.length=l.length:=by rw[<- h3,<- Z,ag,ag]
     refine TS.sorted_rows (us:=bx) pl.isList #[0] (λv hv=>?_) λzs U hu=>?_
     .rw[<- h3]at hv;obtain⟨t,w,rfl⟩:=aE.mp hv;have z:=hT t w;obtain⟨n,ns,e⟩:=List.exists_cons_of_ne_nil z.n;exact⟨n,ns,by rw[<- e];exact z.r⟩
     .obtain⟨T',p1,p2⟩:=yg U h3;have hT':∀t∈T',Xw X D H s t:=λt w=>hT t (p1.mem_iff.mp w);obtain⟨r1,r2⟩:=yh hT';have O:T'.map (·.1)=Bb l:=by
       refine zk ?_ (Bc l) ?_
       .rw[<- p2]at hu;refine dE.mpr ((dE.mp hu).imp_of_mem λ{t u} w hu' h=>h _ _ (hT' t w).r (hT' u hu').r)
       .rw[<- Z];exact(p1.map _).trans ((wj _).symm)
      have V:(T'.map λt=>CW t.1)=(Bb l).map CW:=by rw[<- O,aU];rfl
      rw[V]at r1;obtain⟨ep,hat⟩:=sortedAll_at s.heap bx zs;have pU:H (s.heap.objs.size+1)=cg:=I.hok.fresh (iS _);refine⟨.ref (s.heap.objs.size+1),_,I.laid (o:=.lst (T'.map (·.2.1))) (t':=s.toks) (λb o e=>sortedAll_old e) (iS _) ?_,rfl,q (D++[s.heap.objs.size+1]) _ _ (aq _ _) (gg.same (ca pU _)) (S.newLst pU r1) (ny S)⟩;refine⟨?_,zs.toList,ep,by rw[<- p2];exact r2,hat⟩;have:T'.length=bx.length:=by rw[<- U.length_eq,<- p2,ag]
      rw[ag,this,dC];exact aT (cx c) #[1]
    .exact q.elim
 .exact q.elim,λws J=>by
 unfold r9
 split
 .exact lT λ_=>lT λ_=>by split<;>trivial
 .trivial⟩
end
section
variable{w:ms}
theorem Ir{R:Result->i2->Prop}{body:i9}{y:Args}{binds:List (Str×gs)}
  (EY:A.depth<recursionLimit) (V:s.heap.get? a=bi o) (Wj:o.data=.func fd) (SQ:s.heap.NoLimit) (U:s.heap.CodeRec fd.code fd.qualname)
  (J:fd.body=.expr body) (KB:BindsTo s fd y binds)
  (Y:∀x∈fd.scope.names,x.2≠.cell) (XY:∀x∈binds,fd.scope.names.lookup x.1=bi .local)
  (h:∀W,W.Ns s.heap.objs.size (λx=>binds.reverse.lookup x)->(∀b o,s.heap.get? b=bi o->W.get? b=bi o) ->
   i1 #[2] (A.deeper (callEnv fd s.heap.objs.size a)) (eval body (callEnv fd s.heap.objs.size a)) (λv d=>R (.ok (.ret v)) d)
    (λe d=>i1 #[2] (A.deeper (callEnv fd s.heap.objs.size a)) (leaving (callEnv fd s.heap.objs.size a) e) (λ_ Z=>R (.error e) Z) (λz Z=>R (.error z) Z) d)
    { s with heap:=W,toks:=s.toks+binds.length })
  (Nd:fd.scope.isCoroutine=dw) (X4:fd.scope.isGenerator=dw) (B:fd.scope.kind=.function) :
  ZC #[2] A (.call (.ref a) y) R s:=by refine PySem.W.kla_callFunE EY V Wj Nd X4 J U (KB _ _ _ _ ?_);refine wpAny_newFunctionEnv Y XY (λW I O=>⟨SQ.fresh _ O,PySem.W.kla_codeExpr (h W I λb o e=>?_)⟩) B;exact O.extBut b o (aJ (aB e)) (ai _ e)
end
def NF(q:Str)(pr:Y7)(b:i9)(sc:Y0)(xs:List Str)(o:Obj):Prop:=∃cl I W V,cl.map (·.1)=xs/\(cl.map (·.2)).Nodup/\o=kla_obj "<lambda>" q pr b sc cl I W V
def Mx(N:Nat)(fe:FE)(ws:List W)(st:List al):R W:=match fe (ws.map bi++pw (N-ws.length) cg) st with
 |.ok w bF=>.ok w (iJ st bF [w])
 |_=>.bad
section
variable{w:ms}
theorem Iu{pr:Y7}{b:i9}{N:List Str}{k:Nat}(S:CK N ps xs scope)(hn:ps.length=n)(Y:xs.length=m)
  (U:∀(cl:List (Str×i0)) (pm:gs) (cd:i0) (ct:gs) (us:List gs),us.length=ps.length->ZJ (PySem.W.kla_fn "<lambda>" qual pr b scope cl pm (.ref cd) ct) ⟨us,[]⟩=pure (ps.zip us))
  (n6:∀(f:i0) (cd:gs) (cl:List (Str×i0)) (A:yy) (outer:List Env) (s:i2) (H:Hp) (E:XK),ic k (A.deeper (CL qual scope s.heap.objs.size f cd cl)) ->
   SE (lY (iM P w) P w K mg base N qual scope f cd cl A outer s H E) b fe):l6 P w K mg base (k+1) n m (NF qual pr b scope xs) (Mx N.length fe):=⟨λA outer s H f o fd us xg vs qc Q E d e0 ho ok hd mG r rc hul R GF=>by
 obtain⟨cl,pm,cd,ct,O,jB,rfl⟩:=ok
 cases hd
 have KX:K.In s.heap:=e0.mod.kin.keeps λb o e=>(e0.bs b o e).1;have lim:s.heap.NoLimit:=e0.mod.nolimit.keeps λb o e=>(e0.bs b o e).1;have D:vs.length=ps.length:=by rw[r.length,hul,hn]
 refine Ir (fd:=PySem.W.kla_fn "<lambda>" qual pr b scope cl pm (.ref cd) ct) (body:=b) (binds:=ps.zip us) d.depth ho rfl lim mG rfl (.of_eq (U cl pm cd ct us (by rw[hul,hn]))) S.nocell (λy hy=>S.par _ (eX hy).1) (λh₁ S8 Z=>?_) S.co S.gen S.kind;have I:bH (lY (iM P w) P w K mg base N qual scope f (.ref cd) cl A outer s H E) [] (gT N (vs++qc)) H { s with heap:=h₁,toks:=s.toks+(ps.zip us).length }:=Ib S d.hd e0 D r rc O jB R S8 Z;obtain⟨hl2,μ,ws,EW,Sr,rw0,h⟩:=GF;have hq:tE (lY (iM P w) P w K mg base N qual scope f (.ref cd) cl A outer s H E) fe (gT N (vs++qc)) H Q:=by
  refine⟨μ,ws.map bi++pw (N.length-ws.length) cg,EW,⟨?_,Sr⟩,?_⟩
  .unfold gT;rw[<- rw0.len];have base:∀(ws:List W) (vs:List V) (m:Nat),RelWs K μ H ws vs->Paired (λ(o:Option W) (s:Option V)=>∀w,o=bi w->∃v,s=bi v/\bh K μ H w v) (ws.map bi++pw m cg) (vs.map bi++pw m cg):=by
    intro ws
    induction ws with
    |nil=>
     intro vs m r;rw[r.nilE]
     induction m with
     |zero=>exact .nil
     |succ m ih=>exact .cons (λw z=>nomatch z) ih
    |cons w ws ih=>
     intro vs m r;obtain⟨y,ys,rfl,ry,rys⟩:=r.consE;exact .cons (λw' z=>⟨y,rfl,by cases z;exact ry⟩) (ih ys m rys)
   exact base ws _ _ rw0
  .unfold Mx at h
   cases e:fe (ws.map bi++pw (N.length-ws.length) cg) EW with
   |ok w bF=>
    rw[e]at h;intro μ' v H' p x S' oD;obtain⟨μ2,p2,S2,r2⟩:=iP Sr S' p (.consI oD .nilI);obtain⟨_,e2,r3⟩:=r2.one
    cases e2
    exact h μ2 v H' p2 x S2 r3
   |ex c bF=>rw[e]at h;exact h.elim
   |bad=>rw[e]at h;exact h.elim
 refine eL ((n6 f (.ref cd) cl A outer s H E (d.deeper _)).h [] _ (gT N (vs++qc)) H _ I hq) (λu s' B=>?_) λe s' B=>B;obtain⟨v,H',J,rv,q⟩:=B;exact⟨v,H',J.os,J.bare,J.base,J.hok,rv,q⟩⟩
end
section
theorem F6{P:i0}{pr:Y7}{b:i9}{ie:Pos}{ps:Array gs}(zY:defaultsOf pr X.env=([],[]))(Y:X.env.qual++"<lambda>"=q)(kO:X.env.code=.ref c)(GH:Zm X.K c P=cT)(w:sP X.base X.mg)
  (kT:ZD sc X.env=pure cl) (I:bH X aj σ H s) (hP:H P=bi (.tbl ps)) (Z:Z0 ps.toList) (Nd:ZH ie ps.toList=cg\/∃W,ZH ie ps.toList=bi (.ref W)/\H W=bi (jC W q))
  (h:∀f W ct h' t H',((ZH ie ps.toList=cg/\H W=cg/\H'=vY H P W q ps ie)\/H'=H)->H' f=cg->H' W=bi (jC W q) ->
   bH X aj σ (fF H' f (lE f (kla_obj "<lambda>" q pr b sc cl ((X.mg "__name__").getD .none) W ct))) { s with heap:=h',toks:=t }->Q (.ref f) { s with heap:=h',toks:=t }) :
  i1 #[3] X.A (eval (.Lambda pr b sc ie) X.env) Q E s:=by
 subst Y;have hPo:s.heap.get? P=bi { cls:=.none,data:=.fields ps }:=I.hok P _ hP;have hgs:s.heap.Ns wU X.mg:=I.mod.glob.keeps I.bk;have hgP:wU≠P:=λz=>by obtain⟨o,J,ep,e,D,_⟩:=hgs;rw[z,hPo]at e;cases e;cases D
 obtain⟨bm,d,b1,b2,b4,b5,b6,b7⟩:=w;have b4':=I.bk _ _ b4;have hbP:bm≠P:=λz=>by rw[z,hPo]at b4';cases b4';cases b5
 have b3:bm≠wU:=λz=>by obtain⟨o,J,ep,e,D,_⟩:=hgs;rw[z,e]at b4';cases b4';rw[b7]at D;cases D
 have U:s.heap.BuiltinsAt X.mg P:=⟨bm,d,b1,b2,b3,hbP,b4',b5,b6,b7⟩
 have CH:=PySem.W.codeHd_of_K I.kIn GH;refine PySem.W.kla_eval zY ?_;rcases Nd with R|⟨W,hhit,hH⟩
 .refine PySem.W.kla_makeFunction (mg:=X.mg) kT I.ok.glob hgs kO CH hPo Z R hgP U λW ct h' V O E0 y KG So=>?_;have hcdn:H W=cg:=I.hok.fresh E0;have hPc:P≠W:=λz=>by rw[z,hcdn]at hP;cases hP
  have I1:=I.tabbed (t':=V) hP E0 (λb o U e=>O b o U e) KG So;have I2:=bH.laid (t':=V) (o:=lE h'.objs.size (kla_obj "<lambda>" (X.env.qual++"<lambda>") pr b sc cl ((X.mg "__name__").getD .none) W ct)) I1 (λb u e=>ai _ e) (am _) (sR (av _ rfl));exact h _ W ct _ V _ (.inl ⟨R,hcdn,rfl⟩) (I1.hok.fresh (am _)) (vg hPc) I2
 .refine PySem.W.kla_makeFunctionHit (mg:=X.mg) kT I.ok.glob hgs kO CH hPo Z hhit U λct h' V B hsz=>?_;have I1:=I.kept (t':=V) B;have I2:=bH.laid (t':=V) (o:=lE h'.objs.size (kla_obj "<lambda>" (X.env.qual++"<lambda>") pr b sc cl ((X.mg "__name__").getD .none) W ct)) I1 (λb u e=>ai _ e) (am _) (sR (av _ rfl));exact h _ W ct _ V _ (.inr rfl) (I1.hok.fresh (am _)) hH I2
end
section
variable{pr:Y7}{b:i9}{ie:Pos}{P:i0}
def Xx(X:Cx)(q:Str)(pr:Y7)(b:i9)(sc:Y0)(xs:List Str)(j:Nat)(P:i0)(ie:Pos):TE:=λσ H Q=>∃μ ρ st,Rl X μ ρ st σ H/\lX st j P ie q /\
 ∀f o H',dB o=bU X.env sc.names []->NF q pr b sc xs o->dH X.K H H'->gk X.K X.mg (μ++[f]) (st++[.pin dw f o .non]) H'->Q (.ref f) H'
theorem Q8(zY:defaultsOf pr X.env=([],[]))(kO:X.env.code=.ref c)(GH:Zm X.K c P=cT)(hB:sP X.base X.mg)(hX:X.env.cells=wh m X.env.scope.names [])(pU:∀x∈sc.names,x.2=.free->X.env.scope.names.lookup x.1=bi .cell)
  (Ca:(bU X.env sc.names []).map (·.1)=xs) (jB:xs.Nodup) (R:X.env.qual++"<lambda>"=q):PE X (.Lambda pr b sc ie) (Xx X q pr b sc xs j P ie):=λW s B H Q I h=>by
 obtain⟨D,V,Y,l,e4,h⟩:=h;obtain⟨aP,hP0,eP,ps,hP,w,Nd⟩:=l.sto.get e4;subst eP;have has:∀x∈sc.names,x.2=.free->∃c,X.env.cells.lookup x.1=bi c:=λx O d=>by rw[hX];exact iA (pU x O d)
 have kT:ZD sc X.env=pure (bU X.env sc.names []):=Hf has;refine F6 (P:=aP) zY R kO GH hB kT I hP w Nd λf U ct h' t H' hH xf mG I2=>?_;have hcl':∀y∈bU X.env sc.names [],X.env.cells.lookup y.1=bi y.2:=lJ sc.names [] has #[5];have nd2:((bU X.env sc.names []).map (·.2)).Nodup:=by
  have nd1:((bU X.env sc.names []).map (·.1)).Nodup:=by rw[Ca];exact jB
  have gen:∀l:List (Str×i0),(∀y∈l,X.env.cells.lookup y.1=bi y.2)->(l.map (·.1)).Nodup->(l.map (·.2)).Nodup:=by
   intro l
   induction l with
   |nil=>intro _ _;exact ia
   |cons y l ih=>
    intro a b;rw[aK,bR]at b ⊢;refine⟨λz=>b.1 ?_,ih (λy Z=>a y (aC _ Z)) b.2⟩;obtain⟨y',hy',e⟩:=aE.mp z;have:=I.ok.inj _ _ _ (a y aX) (by rw[<- e];exact a y' (aC _ hy'));rw[this];exact aE.mpr ⟨y',hy',rfl⟩
  exact gen _ hcl' nd1
 have hS':gk X.K X.mg D Y H'/\dH X.K H H':=by
  rcases hH with⟨g1,g2,rfl⟩|rfl
  .exact l.sto.tabbed e4 hP g2 w g1
  .exact⟨l.sto,dH.refl⟩
 obtain⟨S',X'⟩:=hS';have J:oG H' (fF H' f (lE f (kla_obj "<lambda>" q pr b sc (bU X.env sc.names []) ((X.mg "__name__").getD .none) U ct))):=ca xf _;refine⟨.ref f,_,I2,rfl,h f _ _ rfl ⟨_,_,U,ct,Ca,nd2,rfl⟩ (X'.trans (gg.same J)) (S'.push xf ⟨rfl,dr,λ_=>⟨_,U,rfl,rfl,?_⟩,.non,.non,λz=>by cases z⟩)⟩;rw[cA (by rintro rfl;rw[xf]at mG;cases mG)];exact mG
variable{fs:FA}
def r_(o:Obj)(st:List al):Prop:=∀y∈dB o,∀d∈st,jH y.2 d=dw
theorem F7(S:gk K mg μ st H)(R:H c=cg)(d:al)(Y:d∈st):jH c d=dw:=by
 obtain⟨i,D,e⟩:=ja Y;have r:=S.at' i d _ (by rw[ar D,e]) (ar (S.len▸D))
 cases d with
 |pin k y o w=>
  cases k with
  |false=>rfl
  |true=>
   obtain⟨B,O,_⟩:=r;show(y==c)=dw
   by_cases z:y=c
   .rw[B,z,R]at O;cases O
   .exact beq_false_of_ne z
 |_=>rfl
theorem Iv{k':Nat}{is:List Nat}{ta:TA}(Fn:dG X.prog X.w X.K X.mg X.base k x n F)(R:ic k' X.A)(B:k<=k')(D:PA X (e::es) ta)
  (hX:X.env.cells=wh m X.env.scope.names []) (pU:∀x∈sc.names,x.2=.free->X.env.scope.names.lookup x.1=bi .cell) (jB:((bU X.env sc.names []).map (·.1)).Nodup) (u4:Paired (λ(i:Nat) (y:Str×i0)=>X.N[i]?=bi y.1) is (bU X.env sc.names []))
  (KH:∀y∈bU X.env sc.names [],X.env.scope.names.lookup y.1=bi .cell) (xf:∀x,X.fn x=cT)
  (hg:Gl X x) (tI:(x==("__debug__":Str))=dw)
  (Z:ow (e::es) X.env=(dw,eval e X.env)::ow es X.env) (mH:(YR pos (ow es X.env)).any (·.1)=dw) {aj:List (i0×Obj)} {s:i2} {σ:St} {H:Hp} {Q:VK} (I:bH X aj σ H s)
  (Wk:ta σ H λvs H1=>∃J ρ st1 ws o cws,Rl X J ρ st1 σ H1/\RelWs X.K J H1 ws vs/\ws.length=n/\pB is ρ=bi cws/\dB o=bU X.env sc.names []/\(r_ o st1->RK X (q9 X) J σ H1 Q (A6 F o cws ws st1))) :
  i1 #[3] X.A (eval (.Call (.Name x p) (e::es) [] pos) X.env) (EP X aj σ Q) X.xe s:=by
 obtain⟨f,fd,ps,w,hkp,W,hb,Fo⟩:=(Fn.mono B).ex;refine db (oE I hg w ?_ tI);refine Z7 (h₀:=X.base) I.ok.mod.kin hkp (ii (D pos aj s σ H _ I Wk) λus s1 zv=>?_) Z mH;obtain⟨vs,H1,I1,r,J,ρ,st1,ws,o,cws,l1,r1,c,ec,hclo,q⟩:=zv;refine⟨I1.kIn,?_⟩;have has:∀x∈sc.names,x.2=.free->∃c,X.env.cells.lookup x.1=bi c:=λx O hf=>by rw[hX];exact iA (pU x O hf)
 have hcl':∀y∈bU X.env sc.names [],X.env.cells.lookup y.1=bi y.2:=lJ sc.names [] has #[5];obtain⟨os,ol,oa,ol2⟩:=CM I1 l1 (λy hy=>⟨hcl' y hy,KH y hy⟩) u4 ec;have q:=q λy hy d Y=>by
  rw[hclo]at hy;have hy2:y.2∈(f_ (bU X.env sc.names []) os cws).map λx=>x.2.1:=by rw[oa];exact aE.mpr ⟨y,hy,rfl⟩
  obtain⟨x,O,ex⟩:=aE.mp hy2;have hn0:=(ol2 x O).1;rw[ex]at hn0;exact F7 l1.sto hn0 d Y
 unfold A6 at q;generalize hC:bU X.env sc.names []=C at *;rw[hclo]at q;rcases sX (ok:=λos:List Obj=>os.length=C.length) (f:=D0 F C cws ws st1) os ol with vx|vx
 .rw[vx]at q;unfold D0 at q;have ndc:((f_ C os cws).map λx=>x.2.1).Nodup:=by
   rw[oa];have gen:∀l:List (Str×i0),(∀y∈l,X.env.cells.lookup y.1=bi y.2)->(l.map (·.1)).Nodup->(l.map (·.2)).Nodup:=by
    intro l
    induction l with
    |nil=>intro _ _;exact ia
    |cons y l ih=>
     intro a b;rw[aK,bR]at b ⊢;refine⟨λz=>b.1 ?_,ih (λy hy=>a y (aC _ hy)) b.2⟩;obtain⟨y',hy',e⟩:=aE.mp z;have:=I.ok.inj _ _ _ (a y aX) (by rw[<- e];exact a y' (aC _ hy'));rw[this];exact aE.mpr ⟨y',hy',rfl⟩
   exact gen _ hcl' jB
  split at q
  .rename_i wv U e5
   split at q
   .rename_i l' fP e6
    split at q
    .rename_i hll
     obtain⟨S1,hok1,x1⟩:=v8 l1.sto I1.hok ol2 ndc;generalize hL:f_ C os cws=L at *;have isCell:∀y∈L,∃z,X.env.cells.lookup z=bi y.2.1:=λy hy=>by
      have:y.2.1∈C.map (·.2):=by rw[<- oa];exact aE.mpr ⟨y,hy,rfl⟩
      obtain⟨z,hz,e⟩:=aE.mp this;exact⟨z.1,by rw[<- e];exact hcl' z hz⟩
     have big:∀y∈L,X.s₀.heap.objs.size<=y.2.1:=λy hy=>by obtain⟨z,hz⟩:=isCell y hy;exact I1.ok.cab z _ (xf z) hz
     have noStk:∀y∈L,y.2.1∉t5 X.stack:=λy hy z=>by
      rcases aG.mp (I1.stkSub _ z)with e|hb
      .obtain⟨z',hz⟩:=isCell y hy;exact I1.cne z' _ hz e
      .obtain⟨_,ob,Dk,_⟩:=I1.ok.funs.mem hb;exact absurd (aR (aB Dk) (big y hy)) (bX _)
     have e0:=I1.env0;have e0':yE X.prog X.w X.K X.mg X.base X.A X.stack s1 (rd L H1):=⟨e0.frames,e0.mod,λb o q=>⟨(e0.bs b o q).1,by
      rw[fU λy hy z=>?_]
      .exact(e0.bs b o q).2
      .have:=aB (I1.ok.bs b o q).1;rw[<- z]at this;exact absurd (aR this (big y hy)) (bX _)⟩,e0.bsz,e0.funs,λb hb=>by rw[fU λy hy z=>noStk y hy (by rw[z];exact hb)];exact e0.frf b hb,hok1,e0.bare⟩
     have hl':(us++([]:List gs)).length=ps.length:=by rw[bD,<- r.length,<- r1.len,c,W]
     have rall:RelWs X.K (J++L.map λx=>x.2.1) (rd L H1) ws vs:=RelWs.pr.mpr (Paired.imp' (λ_ _ z=>z.mono (aq _ _) x1) (RelWs.pr.mp r1));refine mo (gN (Fo.run X.A X.stack s1 (rd L H1) ⟨us,[]⟩ us vs (λv H'=>∃μ',(J++L.map λx=>x.2.1) <+: μ'/\dH X.K (rd L H1) H'/\gk X.K X.mg μ' U H'/\bh X.K μ' H' wv v) (λ_ _ _=>False) R e0' (by have:=hb s1 us I1.kIn hl';rwa[bD]at this) r
      ⟨by rw[<- r1.len];exact c,_,ws,_,S1,rall,by rw[e5];exact λμ' v H' a b c d=>⟨μ',a,b,c,d⟩⟩) λrr V hq=>?_)
     cases rr with
     |error ev=>obtain⟨_,_,_,_,_,_,z,_⟩:=hq;exact z.elim
     |ok fl=>
      cases fl with
      |next=>exact YY hq
      |brk=>exact YY hq
      |cont=>exact YY hq
      |ret u=>
       obtain⟨v,H',os',bare,un,hok',rv,μ',pm,xm,Sm,rm⟩:=hq;obtain⟨Sh,hokh,xh,la,ndl⟩:=v7 Sm hok' e6;have pm1:J <+: μ':=(aq _ _).trans pm;obtain⟨μ2,p2,S2,r2⟩:=iP l1.sto Sh pm1 (.consI (rm.mono (ah _) xh) .nilI);obtain⟨_,ee,r3⟩:=r2.one
       cases ee
       have both1:∀y∈L,∃z∈l',z.2.1=y.2.1/\z.2.2.1=y.2.2.1:=λy hy=>by
        have:(y.2.1,y.2.2.1)∈l'.map λx=>(x.2.1,x.2.2.1):=by rw[hll];exact aE.mpr ⟨y,hy,rfl⟩
        obtain⟨z,hz,e⟩:=aE.mp this;exact⟨z,hz,(jA e).1,(jA e).2⟩
       have both2:∀z∈l',∃y∈L,y.2.1=z.2.1:=λz hz=>by
        have:(z.2.1,z.2.2.1)∈L.map λx=>(x.2.1,x.2.2.1):=by rw[<- hll];exact aE.mpr ⟨z,hz,rfl⟩
        obtain⟨y,hy,e⟩:=aE.mp this;exact⟨y,hy,(jA e).1⟩
       have inL:∀{b:i0} {u:HO},H1 b=bi u->∀y∈L,y.2.1≠b:=λ{b u} e y hy z=>by have:=(ol2 y hy).1;rw[z,e]at this;cases this
       have outT:∀{b:i0} {u:HO},H' b=bi u->(∀φ,u≠.ext φ)->∀y∈l',y.2.1≠b:=λ{b u} n ne y hy z=>by have:=(la y hy).2;rw[z,n]at this;cases this;exact ne _ rfl
       have un':Un (t5 X.stack) [] H1 (oP l' H') s1.heap V.heap:=by
        refine⟨λb o q n hb O=>?_,λb o q n hb O=>?_,λb o q n O=>?_,un.there,λb xs q=>?_,λb o u q=>?_,λb ps q=>?_⟩
        .by_cases hbL:∃y∈L,y.2.1=b
         .obtain⟨y,hy,rfl⟩:=hbL;obtain⟨z,hz,z1,z2⟩:=both1 y hy;have g1:=(ol2 y hy).2.1;rw[q]at g1;cases g1
          have g2:=(la z hz).1.2.1;rw[z1,z2]at g2;exact g2
         .exact un.keep b o q (by rw[fU λy hy z=>hbL ⟨y,hy,z⟩];exact n) hb O
        .exact un.slot b o q (by rw[fU λy hy z=>noStk y hy (by rw[z];exact hb)];exact n) hb O
        .by_cases hbL:∃y∈L,y.2.1=b
         .obtain⟨y,hy,rfl⟩:=hbL;obtain⟨z,hz,z1,_⟩:=both1 y hy;exact vk ⟨z,hz,z1⟩
         .exact lN (un.free b o q (by rw[fU λy hy z=>hbL ⟨y,hy,z⟩];exact n) O)
        .have t:=un.tups b xs (by rw[fU (inL q)];exact q);rw[jG (outT t (λ_ z=>by cases z))];exact t
        .have t:=un.frzs b o u (by rw[fU (inL q)];exact q);rw[jG (outT t (λ_ z=>by cases z))];exact t
        .obtain⟨more,t⟩:=un.tbls b ps (by rw[fU (inL q)];exact q);exact⟨more,by rw[jG (outT t (λ_ z=>by cases z))];exact t⟩
       have I3:bH X aj σ (oP l' H') V:=I1.call' os' un' hokh bare λb hb=>absurd hb #[5];exact⟨v,_,I3,rv,q μ2 v _ p2 (x1.trans (xm.trans xh)) S2 r3⟩
    .exact q.elim
   .exact q.elim
  .exact q.elim
 .rw[vx]at q;exact q.elim
variable{a b':i9}
def Iw(st:List al):R W->R W
 |.ok w U=>.ok w (iJ st U [w])
 |_=>.bad
open Classical in
def uk(n:Nat)(F:List W->List al->R W)(V':Obj->Prop)(j:Nat)(P:i0)(ie:Pos)(q:Str)(is:List Nat)(fa fb:FE):FE:=λρ st=>(fa ρ st).bind λx st1=>(fb ρ st1).bind λy U=>
 if 3=n/\lX U j P ie q then sK (pB is ρ) λcws=>sV (λp:i0×Obj=>V' p.2/\r_ p.2 U) λp=>Iw U (A6 F p.2 cws [x,y,.loc U.length] (U++[.pin dw p.1 p.2 .non]))else .bad
theorem My{k':Nat}(Fn:dG X.prog X.w X.K X.mg X.base k x n F)(R:ic k' X.A)(D:k<=k')(O:SE X a fa)(U:SE X b' fb)
  (zY:defaultsOf pr X.env=([],[])) (kO:X.env.code=.ref c) (GH:Zm X.K c P=cT) (hB:sP X.base X.mg) (hX:X.env.cells=wh m X.env.scope.names []) (pU:∀x∈sc.names,x.2=.free->X.env.scope.names.lookup x.1=bi .cell)
  (Ca:(bU X.env sc.names []).map (·.1)=xs) (jB:xs.Nodup) (hq:X.env.qual++"<lambda>"=q) (u4:Paired (λ(i:Nat) (y:Str×i0)=>X.N[i]?=bi y.1) is (bU X.env sc.names []))
  (KH:∀y∈bU X.env sc.names [],X.env.scope.names.lookup y.1=bi .cell) (xf:∀x,X.fn x=cT)
  (hg:Gl X x:=by rfl) (tI:(x==("__debug__":Str))=dw:=by decide)
  (he:ow [a,b',.Lambda pr b sc ie] X.env=(dw,eval a X.env)::ow [b',.Lambda pr b sc ie] X.env:=by rfl) (Aj:ow [b',.Lambda pr b sc ie] X.env=(dw,eval b' X.env)::ow [.Lambda pr b sc ie] X.env:=by rfl)
  (Wc:ow [.Lambda pr b sc ie] X.env=(dw,eval (.Lambda pr b sc ie) X.env)::ow [] X.env:=by rfl) (mH:(YR pos (ow [b',.Lambda pr b sc ie] X.env)).any (·.1)=dw:=by rfl) :
  SE X (.Call (.Name x p) [a,b',.Lambda pr b sc ie] [] pos) (uk n F (NF q pr b sc xs) j P ie q is fa fb):=⟨by
 intro W s B H Q I h;obtain⟨μ,V,J,l,h⟩:=h;refine Iv (is:=is) Fn R D (iI O.h (iI U.h (iI (Q8 (j:=j) (P:=P) zY kO GH hB hX pU Ca jB hq) rR Wc) Aj) he) hX pU (by rw[Ca];exact jB) u4 KH xf hg tI he mH I ?_;refine⟨μ,V,J,l,RK.bind h l λz st1 x v H1 p1 x1 l1 q1 Z=>⟨z,V,st1,l1,RK.bind Z l1 λμ2 st2 y v2 H2 p2 x2 l2 q2 Y=>?_⟩⟩
 by_cases cc:3=n/\lX st2 j P ie q
 .rw[ax cc]at Y
  cases ec:pB is V with
  |none=>rw[ec]at Y;exact Y.elim
  |some cws=>
   rw[ec,cO]at Y;refine⟨μ2,V,st2,l2,cc.2,λf o H' kT ok x3 S3=>?_⟩;have pf:μ2 <+: μ2++[f]:=aq _ _;refine⟨μ2++[f],V,st2++[.pin dw f o .non],[x,y,.loc st2.length],o,cws,l2.to pf x3 S3,.consI ((q1.mono p2 x2).mono pf x3) (.consI (q2.mono pf x3) (.consI (.locI (by rw[l2.sto.len];simp)) .nilI)),cc.1,ec,kT,λfr=>?_⟩;rcases sX (ok:=λp:i0×Obj=>NF q pr b sc xs p.2/\r_ p.2 st2) (f:=λp=>Iw st2 (A6 F p.2 cws [x,y,.loc st2.length] (st2++[.pin dw p.1 p.2 .non]))) (f,o) ⟨ok,λy hy d hd=>fr y hy d (c_ _ hd)⟩with e|e
   .rw[e]at Y;dsimp only at Y
    cases hd:A6 F o cws [x,y,.loc st2.length] (st2++[.pin dw f o .non])with
    |ok w fP=>
     rw[hd]at Y;intro μ' bv H4 a1 x4 S4 r4;obtain⟨μ3,p3,S5,r5⟩:=iP l2.sto S4 (pf.trans a1) (.consI r4 .nilI);obtain⟨_,e2,r6⟩:=r5.one
     cases e2
     exact Y μ3 bv H4 p3 (x3.trans x4) S5 r6
    |ex c fP=>rw[hd]at Y;exact Y.elim
    |bad=>rw[hd]at Y;exact Y.elim
   .rw[e]at Y;exact Y.elim
 .rw[aF cc]at Y;exact Y.elim⟩
theorem Iy{O:Nat}(Fn:dG X.prog X.w X.K X.mg X.base k x n F)(R:ic O X.A)(B:k<=O)(D:SE X a fa)(U:SE X b' fb)
  (kO:X.env.code=.ref c) (GH:Zm X.K c P=cT) (w:sP X.base X.mg) (hX:X.env.cells=wh m X.env.scope.names []) (u4:Paired (λ(i:Nat) (y:Str×i0)=>X.N[i]?=bi y.1) is (bU X.env sc.names []))
  (zY:defaultsOf pr X.env=([],[]):=by rfl) (pU:WK X.env.scope.names sc.names=cT:=by first|rfl|kernel_rfl) (Ca:(bU X.env sc.names []).map (·.1)=xs:=by rfl) (I:QN xs=cT:=by first|rfl|kernel_rfl) (Y:X.env.qual++"<lambda>"=q:=by rfl) (xf:∀x,X.fn x=cT:=by exact λ_=>rfl)
  (W:Gl X x:=by rfl) (tI:(x==("__debug__":Str))=dw:=by decide)
  (J:ow [a,b',.Lambda pr b sc ie] X.env=(dw,eval a X.env)::ow [b',.Lambda pr b sc ie] X.env:=by rfl) (Aj:ow [b',.Lambda pr b sc ie] X.env=(dw,eval b' X.env)::ow [.Lambda pr b sc ie] X.env:=by rfl)
  (Wc:ow [.Lambda pr b sc ie] X.env=(dw,eval (.Lambda pr b sc ie) X.env)::ow [] X.env:=by rfl) (mH:(YR pos (ow [b',.Lambda pr b sc ie] X.env)).any (·.1)=dw:=by rfl) :
  SE X (.Call (.Name x p) [a,b',.Lambda pr b sc ie] [] pos) (uk n F (NF q pr b sc xs) j P ie q is fa fb):=
 My Fn R B D U zY kO GH w hX (v9 pU) Ca (v3 I) Y u4 (λy Z=>by
  rcases qr Z with h|⟨z,V,d,e2⟩
  .exact absurd h #[5]
  .rw[<- d];exact v9 pU z V e2) xf W tI J Aj Wc mH
end
noncomputable def Q9:qd->i9
 |.Assign _ (.Call _ [_,_,l] _ _) _=>l
 |_=>.Constant .none 0 ⟨0,0,0,0⟩
def Xy(st:qd):Y7:=match Q9 st with|.Lambda pr _ _ _=>pr|_=>⟨[],[],cg,[],[],cg,[]⟩
def Xz(st:qd):i9:=match Q9 st with|.Lambda _ b _ _=>b|e=>e
def U3(st:qd):Y0:=match Q9 st with|.Lambda _ _ sc _=>sc|_=>aI st
theorem Mz{pr:Y7}{b:i9}(h:xs.length=m)(o:Obj)(ok:NF q pr b sc xs o):(dB o).length=m:=by obtain⟨y,I,W,V,O,_,rfl⟩:=ok;rw[<- h,<- O,ag];rfl
end L2
namespace L2
open PySem
open Classical in
def wn(st bF:List al)(w:W):R W:=if DO st bF []then(match w with
 |.tup [.loc n,T]=>(match bF[n]? with
  |some (.lst ws)=>if st.length<=n/\undWs 0 ws=cT/\T.und 0=cT then .ok (.tup [.loc st.length,T]) (bF.take st.length++[.lst ws])else .bad
  |_=>.bad)
 |_=>.bad)else .bad
theorem Iz{T:W}{v:V}(S:gk K mg μ st H)(S':gk K mg μ' bF H')(p:μ <+: μ')(r:bh K μ' H' (.tup [.loc n,T]) v)
  (k:DO st bF []) (J:bF[n]?=bi (.lst ws)) (R:st.length<=n) (B:undWs 0 ws=cT) (hT:T.und 0=cT) :
  ∃D,μ <+: D/\gk K mg D (bF.take st.length++[.lst ws]) H'/\bh K D H' (.tup [.loc st.length,T]) v:=by
 have t:=iP (ws:=[]) (vs:=[]) S S' p .nilI;unfold iJ at t;rw[ax k]at t;obtain⟨D,p2,S2,_⟩:=t;have I:(bF.take st.length).length=st.length:=by rw[a_];have:=k.2.1;omega
 have e2:μ=D:=p2.eq_of_length (by rw[<- S.len,<- S2.len,I]);subst e2;obtain⟨pp,U,rfl,h,c⟩:=r.tupE;obtain⟨x,w,rfl,b1,c1⟩:=c.consE;obtain⟨y,ys,rfl,b2,c2⟩:=c1.consE;have e0:=c2.nilE;subst e0;obtain⟨a,ea,rfl⟩:=b1.locE;obtain⟨us,g1,g2⟩:=S'.at' n _ a J ea;have up:∀{ws us},undWs 0 ws=cT->RelWs K μ' H' ws us->RelWs K (μ++[a]) H' ws us:=λu q=>by have:=q.takeN u;rw[mv]at this;exact this.mono (List.nil_prefix) dH.refl
 have hTT:bh K (μ++[a]) H' T y:=by have:=b2.take hT;rw[mv]at this;exact this.mono (List.nil_prefix) dH.refl
 have pre:μ <+: μ++[a]:=aq _ _;have cl:∀{i:Nat} {d:al} {b:i0},(bF.take st.length++[al.lst ws])[i]?=bi d->(μ++[a])[i]?=bi b->(i<st.length/\(bF.take st.length)[i]?=bi d/\μ[i]?=bi b/\bF[i]?=bi d/\μ'[i]?=bi b)\/(i=st.length/\d=.lst ws/\b=a):=λ{i d b} Z Y=>by
  rcases eR i st.length with hi|hi
  .rw[aV #[0]]at Z;rw[aV (by rw[<- S.len];exact hi)]at Y;have O:=Z;rw[bY hi]at O;obtain⟨t,rfl⟩:=p;exact .inl ⟨hi,Z,Y,O,by rw[aV (by rw[<- S.len];exact hi)];exact Y⟩
  .have hi':i=st.length:=by have:=(ak.mp Z).1;rw[ay,I,ce]at this;omega
   subst hi';rw[aY #[0],I,iy]at Z;rw[aY (by rw[<- S.len];exact am _),S.len,iy]at Y;exact .inr ⟨rfl,(bg Z).symm,(bg Y).symm⟩
 refine⟨μ++[a],pre,⟨λi j b ci cj Z Y z r2 m1 m2=>?_,by rw[ay,I,ay,S.len];rfl,λi d b Z Y=>?_⟩,.tupI h (.consI (.locI ?_) (.consI hTT .nilI))⟩
 .rcases cl Z m1 with⟨hi,_,_,x1,x2⟩|⟨rfl,rfl,rfl⟩
  .rcases cl Y m2 with⟨hj,_,_,y1,y2⟩|⟨rfl,rfl,rfl⟩
   .exact S'.nd i j b ci cj x1 y1 z r2 x2 y2
   .have:=S'.nd i n _ ci _ x1 J z r2 x2 ea;omega
  .rcases cl Y m2 with⟨hj,_,_,y1,y2⟩|⟨rfl,_,_⟩
   .have:=S'.nd n j _ _ cj J y1 z r2 ea y2;omega
   .rfl
 .rcases cl Z Y with⟨hi,x1,x2,_,_⟩|⟨rfl,rfl,rfl⟩
  .exact lS.keep pre dH.refl (λ_ h=>h) (λ_ _ h=>h) (S2.at' i d b x1 x2)
  .exact⟨us,g1,up B g2⟩
 .rw[S.len,aY (am _),iy];rfl
section
variable{c:i9}{cs:List i9}{pos2:Pos}{y:Str}{fs:FA}
def ul(F:List W->List al->R W)(fa:FE)(m:Nat)(qy:Obj->Prop)(G:List W->List al->R (List W))(fs:FA)(fb:FE):FE:=λρ st=>(fa ρ st).bind λV st1=>(fs ρ st1).bind λZ U=>if Z.length=m then(match G Z U with
  |.ok cws J=>sV (λp:i0×Obj×List Obj=>qy p.2.1/\p.2.2.length=(dB p.2.1).length) (λp=>match fb ρ (J++[.pin dw p.1 p.2.1 .non]++cY (f_ (dB p.2.1) p.2.2 cws))with
   |.ok Y z=>(match F [V,.loc J.length,Y] z with
    |.ok w d=>wn J d w
    |_=>.bad)
   |_=>.bad)
  |_=>.bad)else .bad
variable{ea eb:i9}
theorem MA{k2 k':Nat}(Fn:dG X.prog X.w X.K X.mg X.base k x 3 F)(Fc:xy X.prog X.w X.K X.mg X.base k2 y m qy G)(R:ic k' X.A)(hk:k<=k')(VV:k2<=k')(ha:SE X ea fa)(z:SA X (c::cs) fs)(U:SE X eb fb)
  (hg:Gl X x:=by rfl) (Kq:Gl X y:=by rfl) (tI:(x==("__debug__":Str))=dw:=by decide) (SD:(y==("__debug__":Str))=dw:=by decide)
  (Aj:ow (c::cs) X.env=(dw,eval c X.env)::ow cs X.env:=by rfl) (S7:(YR pos2 (ow cs X.env)).any (·.1)=dw:=by rfl)
  (he:ow [ea,.Call (.Name y p2) (c::cs) [] pos2,eb] X.env=(dw,eval ea X.env)::ow [.Call (.Name y p2) (c::cs) [] pos2,eb] X.env:=by rfl) (mH:(YR pos (ow [.Call (.Name y p2) (c::cs) [] pos2,eb] X.env)).any (·.1)=dw:=by rfl)
  (XR:ow [.Call (.Name y p2) (c::cs) [] pos2,eb] X.env=(dw,eval (.Call (.Name y p2) (c::cs) [] pos2) X.env)::ow [eb] X.env:=by rfl) (XJ:ow [eb] X.env=(dw,eval eb X.env)::ow [] X.env:=by rfl) :
  SE X (.Call (.Name x p) [ea,.Call (.Name y p2) (c::cs) [] pos2,eb] [] pos) (ul F fa m qy G fs fb):=⟨by
 intro O s B H Q I h;obtain⟨f,fd,ps,hm,hkp,hn,hbi,Fo⟩:=(Fn.mono hk).ex;refine db (oE I hg hm ?_ tI);obtain⟨μ,V,J,l,h⟩:=h;have PAll:=iI ha.h (iI (Ig (p2:=p2) (pos2:=pos2) Fc R VV z Kq SD Aj S7) (iI U.h (rR (X:=X)) XJ) XR) he;have h':vA (tE X fa) (vA (QU X fs m qy G) (vA (tE X fb) P4)) B H λvs H1=>∃(fP rJ:List al) (μ3 μ4:List i0) (H0:Hp) (ws:List W),gk X.K X.mg μ3 fP H0/\μ3 <+: μ4/\gk X.K X.mg μ4 rJ H1/\RelWs X.K μ4 H1 ws vs/\ws.length=3/\RK X (q9 X) μ3 B H1 Q (match F ws rJ with
   |.ok w u8=>wn fP u8 w
   |_=>.bad):=by
  unfold ul at h;refine⟨μ,V,J,l,RK.bind h l λd st1 wa va H1 p1 x1 l1 q1 Z=>⟨d,V,st1,l1,RK.bind Z l1 λμ2 st2 xJ vcas H2 p2 x2 l2 q2 Y=>?_⟩⟩
  by_cases cl:xJ.length=m
  .rw[ax cl]at Y;refine⟨μ2,xJ,st2,l2.sto,q2,cl,?_⟩
   cases eG:G xJ st2 with
   |ok cws fP=>
    rw[eG]at Y;simp only at Y ⊢;intro μ3 fA o os H0 H3 p3 x3 S0 x4 ok D S3;rcases sX (ok:=λp:i0×Obj×List Obj=>qy p.2.1/\p.2.2.length=(dB p.2.1).length) (f:=λp=>match fb V (fP++[.pin dw p.1 p.2.1 .non]++cY (f_ (dB p.2.1) p.2.2 cws))with
      |.ok wb rJ=>(match F [wa,.loc fP.length,wb] rJ with
       |.ok w u8=>wn fP u8 w
       |_=>.bad)
      |_=>.bad) (fA,o,os) ⟨ok,D⟩with hp|hp
    .rw[hp]at Y;simp only at Y;have p30:μ3 <+: μ3++[fA]++(f_ (dB o) os cws).map λx=>x.2.1:=by rw[aN];exact aq _ _
     have l3:Rl X (μ3++[fA]++(f_ (dB o) os cws).map λx=>x.2.1) V (fP++[.pin dw fA o .non]++cY (f_ (dB o) os cws)) B H3:=l2.to (p3.trans p30) (x3.trans x4) S3;refine⟨_,V,_,l3,?_⟩
     cases e4:fb V (fP++[.pin dw fA o .non]++cY (f_ (dB o) os cws))with
     |ok wb rJ=>
      rw[e4]at Y;simp only at Y;intro μ4 vb H4 p4 x5 S4 rb;have pm:μ3 <+: μ4:=p30.trans p4;refine⟨fP,rJ,μ3,μ4,H0,[wa,.loc fP.length,wb],S0,pm,S4,.consI (q1.mono (p2.trans (p3.trans pm)) (x2.trans (x3.trans (x4.trans x5)))) (.consI ?_ (.consI rb .nilI)),rfl,Y.mono p3 (x3.trans (x4.trans x5))⟩;refine .locI ?_;rw[S0.len];refine cJ p4 ?_;rw[aN,aY (am _),iy];rfl
     |ex _ _=>rw[e4]at Y;exact Y.elim
     |bad=>rw[e4]at Y;exact Y.elim
    .rw[hp]at Y;exact Y.elim
   |ex _ _=>rw[eG]at Y;exact Y.elim
   |bad=>rw[eG]at Y;exact Y.elim
  .rw[aF cl]at Y;exact Y.elim
 refine Z7 (h₀:=X.base) I.ok.mod.kin hkp (ii (PAll pos O s B H _ I h') λus s1 zw=>?_) he mH;obtain⟨vs,H1,I1,r,fP,rJ,μ3,μ4,H0,ws,S0,p34,S4,r4,hl3,q⟩:=zw;refine⟨I1.kIn,?_⟩;refine HG Fo hn R hbi I1 S4 r4 r hl3 ?_
 cases eF:F ws rJ with
 |ok w u8=>
  rw[eF]at q;simp only at q;intro μ5 v H5 p5 x5 S5 r5;unfold wn at q
  split at q
  .rename_i hk
   split at q
   .rename_i n T
    split at q
    .rename_i wl gp
     split at q
     .rename_i hh
      obtain⟨μ6,p6,S6,r6⟩:=Iz S0 S5 (p34.trans p5) r5 hk gp hh.1 hh.2.1 hh.2.2;exact q μ6 v H5 p6 x5 S6 r6
     .exact q.elim
    .exact q.elim
   .exact q.elim
  .exact q.elim
 |ex _ _=>rw[eF]at q;exact q.elim
 |bad=>rw[eF]at q;exact q.elim⟩
end
theorem MB{fs:FA}{st2 y:List al}{wa T:W}{xJ rs:List W}(V:fa ρ st=.ok wa st1)(O:fs ρ st1=.ok xJ st2)(I:xJ.length=m)(hG:G xJ st2=.ok cws y)(w:∃o,qy o)(d:undWs 0 rs=cT)(hT:T.und 0=cT)
  (h:∀f o z,qy o->z.length=(dB o).length->∃wb x n,fb ρ (y++[.pin dw f o .non]++cY (f_ (dB o) z cws))=.ok wb (y++[.pin dw f o .non]++cY (f_ (dB o) z cws))/\F [wa,.loc y.length,wb] (y++[.pin dw f o .non]++cY (f_ (dB o) z cws))=.ok (.tup [.loc n,T]) (y++x)/\y.length<=n/\(y++x)[n]?=bi (.lst rs)) :
  ul F fa m qy G fs fb ρ st=.ok (.tup [.loc y.length,T]) (y++[.lst rs]):=by obtain⟨o0,Y⟩:=w;unfold ul;rw[V];simp only[R.bind_ok];rw[O];simp only[R.bind_ok];rw[ax I,hG];simp only;refine sW (0,o0,pw (dB o0).length { cls:=.none,data:=.cell cg }) ⟨Y,by simp⟩ λp U=>?_;obtain⟨wb,x,n,Z,e2,B,J⟩:=h p.1 p.2.1 p.2.2 U.1 U.2;simp only[Z,e2];unfold wn;rw[ax ⟨rfl,by simp,λi D=>.inl (aV D)⟩];simp only[J];rw[ax ⟨B,d,hT⟩,List.take_left]
end L2
namespace L2
open PySem PySem.Spec PyProof.Rows
theorem yi{bs:List Bool}{P:Nat->gs->Prop}(J:cR (bs.map V.bl) bx)(w:∀i v,P i v->bx[i]?=bi v):TruthOf X.prog X.w A P λi=>bs.getD i dw:=by
 intro i v s Q E U I;have D:=w i v U;have z:bx.length=bs.length:=by have:=J.length;rw[ag]at this;exact this.symm
 have Z:i<bs.length:=by have:=(ak.mp D).1;rw[<- z];exact this
 have O:(bs.map V.bl)[i]?=bi (.bl bs[i]):=by rw[ao,ar Z];rfl
 obtain⟨u,d,y⟩:=J.get O;rw[D]at d;obtain rfl:v=.bool bs[i]:=(bg d).trans y;refine cZ ?_;have e:bs.getD i dw=bs[i]:=by rw[aA,ar Z];rfl
 rw[<- e];exact I
theorem D6(bs:List Bool):(vr bs.length).any (λi=>bs.getD i dw)=bs.any id:=by
 conv=>rhs;rw[<- range_getD bs dw]
 rw[List.any_map];rfl
section
def yj(ws:List W)(st:List al):R W:=match ws with
 |[.tup D]=>sK (sN D) λls=>.ok (.bl (ls.any id)) st
 |[.loc n]=>sK (lstOf st n) λD=>sK (sN D) λls=>.ok (.bl (ls.any id)) st
 |_=>.bad
theorem U4(J:X.calm=cT:=by rfl):qi X (.builtin "any") yj:=⟨λW s B H U us Q I z zq=>by
 obtain⟨w,Y,O,S,r,q⟩:=zq;unfold yj at q;have hh:=I.ok.hd J
 split at q
 .rename_i zs
  obtain⟨y,rfl,ry⟩:=r.one;obtain⟨u,rfl,ru⟩:=lR z
  cases e2:sN zs with
  |none=>rw[e2]at q;exact q.elim
  |some ls=>
   rw[e2,cO]at q;obtain⟨p,U,rfl,hT,rz⟩:=ry.tupE;have:=vf e2 rz;subst this
   cases ru
   obtain⟨bx,rv',Z,hz⟩:=I.tuple hT;have hlt:p<s.heap.objs.size:=by obtain⟨o,V,_⟩:=Z;exact aB V
   have dC:bx.toArray.size=ls.length:=by have:=rv'.length;rw[ag]at this;simpa using this.symm
   refine call_any_walk (fw Z ?_);refine⟨_,_,_,_,_,_,λi=>ls.getD i dw,rfl,Walks.tuple (A:=X.A.in1) (by simpa using hh) _ p (aJ hlt) bx.toArray,⟨⟨_,av _ rfl,rfl,rfl⟩,Heap.IsTuple.push Z _⟩,yi rv' λi v h=>by simpa using h,λh' tk kp=>?_⟩;rw[dC,D6];refine⟨.bl _,H,I.kept (t':=tk) λb o eb=>kp b o (λR=>?_) (ai _ eb),rfl,?_⟩
   .rw[aM]at R;exact absurd (aB eb) (by rw[R];exact bX _)
   .exact i8 S q
 .rename_i n
  obtain⟨y,rfl,ry⟩:=r.one;obtain⟨u,rfl,ru⟩:=lR z
  cases d:lstOf Y n with
  |none=>rw[d]at q;exact q.elim
  |some zs=>
   rw[d,cO]at q
   cases e2:sN zs with
   |none=>rw[e2]at q;exact q.elim
   |some ls=>
    rw[e2,cO]at q;obtain⟨p,U,g,hS,rz⟩:=S.lstOf d;obtain⟨b1,f1,rfl⟩:=ry.locE;rw[g]at f1;cases f1
    have:=vf e2 rz;subst this
    cases ru
    obtain⟨bx,rv',pl,hz⟩:=I.list hS;have D:s.heap.IsList p bx.toArray:=pl.isList;have hlt:p<s.heap.objs.size:=by obtain⟨o,V,_⟩:=D;exact aB V
    have dC:bx.toArray.size=ls.length:=by have:=rv'.length;rw[ag]at this;simpa using this.symm
    refine call_any_walk (jO D ?_);refine⟨_,_,_,_,_,_,λi=>ls.getD i dw,rfl,Walks.list (A:=X.A.in1) (by simpa using hh) _ p (aJ hlt) bx.toArray,⟨⟨_,av _ rfl,rfl,rfl⟩,D.at λo e=>ai _ e⟩,yi rv' λi v h=>by simpa using h,λh' tk kp=>?_⟩;rw[dC,D6];refine⟨.bl _,H,I.kept (t':=tk) λb o eb=>kp b o (λR=>?_) (ai _ eb),rfl,i8 S q⟩;rw[aM]at R;exact absurd (aB eb) (by rw[R];exact bX _)
 .exact q.elim,λO Y=>by
 unfold yj
 split
 .exact lT λ_=>trivial
 .exact lT λ_=>lT λ_=>trivial
 .trivial⟩
end
section
theorem F8:ju X (.type "range") (λxs H Q=>∃i j:Int,xs=[.int i,.int j]/\∀l,H l=cg->Q (.ref l) (fF H l (.rng i j))):=by intro W s B H xs d Q I r h;obtain⟨i,j,rfl,q⟩:=h;obtain⟨u,v,rfl,R,w⟩:=Nl r;obtain⟨t,rfl⟩:=R;obtain⟨Y,rfl⟩:=w;exact call_range_2 ⟨.ref s.heap.objs.size,_,I.laid (λb o e=>ai _ e) (am _) (show fG X.prog X.w _ _ _ (.rng i j)from⟨_,_,_,av _ rfl⟩),rfl,q _ (I.hok.fresh (am _))⟩
theorem Bf(hh:X.A.handled=cg):ju X (.type "list") (λxs H Q=>∃(p:i0) (a b:Int),xs=[.ref p]/\H p=bi (.rng a b)/\-1000000<=a/\b<=1000000/\b-a<=1000000/\-1000000<=b/\a<=1000000/\∀l,H l=cg->Q (.ref l) (fF H l (.lst ((vr (b-a).toNat).map λi:Nat=>V.int (a+(i:Int)))))):=by
 intro W s B H xs us Q I r h;obtain⟨p,a,b,rfl,U,Z,Y,z,h4,h5,q⟩:=h;obtain⟨u,rfl,O⟩:=lR r
 cases O
 obtain⟨t,u,v,w⟩:=(show fG X.prog X.w H s.heap p (.rng a b)from I.hok p _ U)
 have hsz:aam a b 1=(((b-a).toNat:Nat):Int):=by
  rw[rK]
  split<;>omega
 have R:(b-a).toNat<=1000000:=by omega
 generalize (b-a).toNat=n at hsz R q;refine call_list_range hh w (small_one #[0] #[0] #[0] #[0]) hsz (aT R #[1]) λh' tk hZ c J y hacc=>?_;obtain⟨ha1,ha2⟩:=hacc;refine⟨.ref s.heap.objs.size,_,I.laid (t':=tk) J (am _) (show fG X.prog X.w _ h' _ (.lst ((vr n).map λi:Nat=>V.int (a+(i:Int))))from⟨by rw[ag,eQ];exact aT R #[1],hZ.toList,c,?_,by rw[y]⟩),rfl,q _ (I.hok.fresh (am _))⟩;obtain⟨l⟩:=hZ;have D:l.length=n:=ha1;have key:∀(k:Nat) (l:List gs),(∀j v,l[j]?=bi v->∃t,v=ZO (a+((k+j:Nat):Int)) t)->cR ((Zw k l.length).map λi:Nat=>V.int (a+(i:Int))) l:=by
  intro k l
  induction l generalizing k with
  |nil=>intro;exact .nil
  |cons x r d=>
   intro h;refine .cons (h 0 x rfl) (d (k+1) λj v e=>?_);have:=h (j+1) v e;rw[show k+1+j=k+(j+1) by omega];exact this
 have:=key 0 l λj v e=>by obtain⟨t,e⟩:=ha2 j v (by simpa using e);exact⟨t,by first|(rw[e];congr 1;omega)|(rw[e];congr 1)⟩
 rw[D,<- List.range_eq_range']at this;exact this
def qL(ws:List W)(st:List al):R W:=match ws with
 |[.int a,.int b]=>if -1000000<=a/\b<=1000000/\b-a<=1000000/\-1000000<=b/\a<=1000000 then .ok (.loc st.length) (st++[.lst (bO a (b-a).toNat)])else .bad
 |_=>.bad
theorem CY(a:Int)(n:Nat):RelWs K μ H (bO a n) ((vr n).map λi:Nat=>V.int (a+(i:Int))):=by
 unfold bO;generalize vr n=l
 induction l with
 |nil=>exact .nilI
 |cons x r U=>exact .consI .int U
theorem IA{a b:i9}{fs:FA}{p p2 pos pos2:Pos}(R:ic kk X.A)(I:X.mg "list"=cg)(w:X.mg "range"=cg)(D:SA X [a,b] fs)(hg:Gl X "list":=by rfl)(Kq:Gl X "range":=by rfl)
  (J:ow [a,b] X.env=(dw,eval a X.env)::ow [b] X.env:=by rfl) (Wc:(YR pos2 (ow [b] X.env)).any (·.1)=dw:=by rfl) (Aj:ow [Expr.Call (.Name "range" p2) [a,b] [] pos2] X.env=[(dw,eval (.Call (.Name "range" p2) [a,b] [] pos2) X.env)]:=by rfl) :
  SE X (.Call (.Name "list" p) [.Call (.Name "range" p2) [a,b] [] pos2] [] pos) (bC qL fs):=⟨(nM (Bf R.hd) hg I boot_list (iI (nM F8 Kq w boot_range D.h #[1] #[1] J Wc) rR Aj) #[1] #[1] Aj rfl).imp λB H Q h=>by
 obtain⟨O,V,Y,l,h⟩:=h;refine⟨O,V,Y,l,RK.bind h l λd W x v H1 p1 x1 l1 U Z=>?_⟩;unfold qL at Z
 split at Z
 .rename_i i j
  obtain⟨y,ys,rfl,ry,rys⟩:=U.consE;obtain⟨z,rfl,rz⟩:=rys.one
  split at Z
  .rename_i c
   refine⟨i,j,by rw[ry.intE,rz.intE],λl0 hl0=>⟨l0,i,j,rfl,?_,c.1,c.2.1,c.2.2.1,c.2.2.2.1,c.2.2.2.2,λl2 hl2=>?_⟩⟩
   .unfold fF;rw[ax rfl]
   .have S':=l1.sto.same (ca hl0 (.rng i j));exact Z (d++[l2]) _ _ (aq _ _) (gg.same λb u z=>ca hl2 _ b u (ca hl0 _ b u z)) (S'.newLst hl2 (CY _ _)) (ny S')
  .exact Z.elim
 .exact Z.elim⟩
end
section
variable{K:Type}[DecidableEq K]{knd:ZS X.prog X.w K}{xs:List (K×i0×gs)}{k:K}
theorem Q_{Q:Unit->i2->Prop}(V:knd.room A)(I:bH X aj σ H s)(x:XD knd H s a xs)(B:knd.is s.heap k b)(h:∀W,bH X aj σ (fF H a (yP a (y9 knd (storedH xs k b v)))) W->Q () W):i1 #[3] A (dictSet a (.ref b) v) Q E s:=by refine wpAny_dictSet_heap (hsz:=x.z) V B (A0 x.d x.is x.nd) λw R O=>h _ ?_;have d:=DY R;exact Dv I x.mu O (let ⟨q,_,hq,_⟩:=d;⟨q,hq⟩) (HS d)
end
section
variable{ke ve:i9}{fk fv:FE}
def zl(fk fv:FE):FE:=λρ st=>(fk ρ (st++[.dct []])).bind λx st1=>(fv ρ st1).bind λy U=>match gW U (.loc st.length),nC x with
 |some (n,[]),bi k=>if n=st.length/\vj [] k=cT then .ok (.loc st.length) (U.set st.length (.dcx (j8 [] k y)))else .bad
 |_,_=>.bad
theorem MC(R:ic kk X.A)(hk:SE X ke fk)(hv:SE X ve fv):SE X (.Dict [bi ke] [ve] pos) (zl fk fv):=⟨λw s B H Q I h=>by
 obtain⟨μ,V,J,l,h⟩:=h;have hn:=I.hok.fresh (am s.heap.objs.size);have hs:oG H (fF H s.heap.objs.size (.dK [])):=ca hn _;have I1:=I.laid (a:=s.heap.objs.size) (o:=.dK []) (h':=s.heap.push { cls:=.type "dict",data:=.dict #[] }) (t':=s.toks) (λ_ _ q=>ai _ q) (am _) (At s.heap I.big);have p0:μ <+: μ++[s.heap.objs.size]:=aq _ _;have S1:gk X.K X.mg (μ++[s.heap.objs.size]) (J++[.dct []]) (fF H s.heap.objs.size (.dK [])):=l.sto.push (c:=.dct []) hn ⟨[],dr,.nilI⟩;have l1:Rl X (μ++[s.heap.objs.size]) V (J++[.dct []]) B (fF H s.heap.objs.size (.dK [])):=l.to p0 (gg.same hs) S1;have r0:bh X.K (μ++[s.heap.objs.size]) (fF H s.heap.objs.size (.dK [])) (.loc J.length) (.ref s.heap.objs.size):=ny l.sto;have Z:=RK.mono h p0 (gg.same hs);refine wpAny_Dict_any rfl rfl #[5] #[5] (pairTrees_cons_walk (ii (hk.h w _ B _ (λv H1=>∃μ1 st1 x,(μ++[s.heap.objs.size]) <+: μ1/\dH X.K (fF H s.heap.objs.size (.dK [])) H1/\Rl X μ1 V st1 B H1/\bh X.K μ1 H1 x v/\RK X (q9 X) μ1 B H1 Q ((fv V st1).bind λy st2=>match gW st2 (.loc J.length),nC x with
  |some (n,[]),bi k=>if n=J.length/\vj [] k=cT then .ok (.loc J.length) (st2.set J.length (.dcx (j8 [] k y)))else .bad
  |_,_=>.bad)) I1 ⟨_,V,_,l1,RK.bind Z l1 λμ1 st1 x v H1 p1 x1 l1 q1 Z=>⟨μ1,st1,x,p1,x1,l1,q1,Z⟩⟩) λu s1 zq=>?_))
 obtain⟨v,H1,I2,ru,μ1,st1,x,p1,x1,l2,q1,Y⟩:=zq;refine ii (hv.h w _ B _ (λv' H2=>∃μ2 st2 y,μ1 <+: μ2/\dH X.K H1 H2/\Rl X μ2 V st2 B H2/\bh X.K μ2 H2 y v'/\RK X (q9 X) μ2 B H2 Q (match gW st2 (.loc J.length),nC x with
  |some (n,[]),bi k=>if n=J.length/\vj [] k=cT then .ok (.loc J.length) (st2.set J.length (.dcx (j8 [] k y)))else .bad
  |_,_=>.bad)) I2 ⟨μ1,V,st1,l2,RK.bind Y l2 λμ2 st2 y v' H2 p2 x2 l2 q2 Y=>⟨μ2,st2,y,p2,x2,l2,q2,Y⟩⟩) λu' s2 zq=>?_
 obtain⟨v',H2,I3,ru',μ2,st2,y,p2,x2,l3,q2,h3⟩:=zq;refine pairTrees_nil_walk ?_;unfold storeAll;rw[eY]
 cases d:gW st2 (.loc J.length)with
 |none=>rw[d]at h3;exact h3.elim
 |some nk=>
  obtain⟨n,kvs⟩:=nk
  cases e2:nC x with
  |none=>
   rw[d,e2]at h3
   cases kvs with
   |nil=>exact h3.elim
   |cons p r=>exact h3.elim
  |some k=>
   rw[d,e2]at h3
   cases kvs with
   |cons p r=>exact h3.elim
   |nil=>
    simp only at h3
    split at h3
    .rename_i cc
     obtain⟨rfl,O⟩:=cc;have ra:bh X.K μ2 H2 (.loc J.length) (.ref s.heap.objs.size):=(r0.mono p1 x1).mono p2 x2;obtain⟨a,es,ea,D⟩:=qo I3 l3.sto d ra
     cases ea
     have hkw:=v5 e2;subst hkw;have rk:bh X.K μ2 H2 k.w v:=q1.mono p2 x2;refine aa (aa ?_);have jM:∀(K:Type) [DecidableEq K] (G:HV X K) (z:K) (b:i0) (xs:List (K×i0×gs)),G.knd.room X.A->k=G.em z->v=.ref b->u=.ref b->G.knd.is s2.heap z b->XD G.knd H2 s2 s.heap.objs.size xs->Vw G μ2 H2 [] xs ->
       i1 #[3] X.A (dictSet s.heap.objs.size u u') (λ_ s₁=>i1 #[3] X.A (pure (ZT PUnit.unit)) (λr s₂=>i1 #[3] X.A (match r with|.done b=>pure b|.yield b=>forIn [] b λ(x:gs×gs) (_:PUnit)=>(do dictSet s.heap.objs.size x.1 x.2;pure (ZT PUnit.unit):Sem (ForInStep PUnit))) (λ_ s₃=>EP X w B Q (.ref s.heap.objs.size) s₃) X.xe s₂) X.xe s₁) X.xe s2:=by intro K inst G z b xs EY hkk hvv U u4 xd vw;subst hkk;subst hvv;subst U;refine Q_ EY I3 xd u4 λs' I'=>?_;refine ae ?_;dsimp only;rw[jY];refine ae ⟨.ref s.heap.objs.size,_,I',rfl,?_⟩;exact h3 μ2 _ _ (ah _) (D.sq _) (D.put l3.sto vw rk q2 ru') (ra.mono (ah _) (D.sq _))
     unfold vj at O;rw[bc,df]at O;have hl:([]:List (KX×W)).length<=sizeLine:=jk (cx O.2);have hun:=R.un;rcases v6 (X:=X) O.1 with⟨ks,rfl,hk⟩|⟨i,ks,rfl,hk⟩
     .obtain⟨xs,xd,vw⟩:=vi (NC X) I3 D hk hl;obtain⟨b,rfl,U⟩:=(NC X).is (k:=ks) I3 rk ru;exact jM _ (NC X) ks b xs (by show X.A.units<Y3;omega) rfl (qm ru) rfl U xd vw
     .obtain⟨xs,xd,vw⟩:=vi (ND X) I3 D hk hl;obtain⟨b,rfl,U⟩:=(ND X).is (k:=(i,ks)) I3 rk ru;exact jM _ (ND X) (i,ks) b xs (by show X.A.units+1<Y3;omega) rfl (qm ru) rfl U xd vw
    .exact h3.elim⟩
end
section
end
section
variable{a o value:i9}{c f m:Str}{fl:List Str}{fo:FE}{fs:FA}
end
section
variable{w:ms}{c m:Str}{st:qd}{C:i0}{G:List W->List al->R W}
end
open AutoSeq1 (wpAny_loadPart')
section
variable{c:Bool}{n d:i0}{xs:Array gs}
end
section
variable{w:ms}{c:Bool}
variable{c1 c2:Bool}{n:i0}{xs:Array gs}{x y:gs}
end
section
variable{w:ms}
end
section
variable{xs ys:List V}{c:Bool}
end
section
variable{a b:i9}{fs:FA}
end
theorem mW(st x:List al)(k:Nat):(st++x)[st.length+k]?=x[k]?:=by rw[aY #[0]];congr 1;omega
theorem qs(st x:List al):(st++x)[st.length]?=x[0]?:=mW st x 0
theorem s_(st x:List al)(k:Nat)(c:al):(st++x).set (st.length+k) c=st++x.set k c:=by rw[p_ _ _ #[0]];congr 2;omega
theorem jx(st x:List al)(c:al):(st++x).set st.length c=st++x.set 0 c:=s_ st x 0 c
theorem b0{x:List al}{c:al}(h:st[n]?=bi c):(st++x)[n]?=bi c:=by rw[aV (ak.mp h).1];exact h
theorem wp(st:List al)(ws:List W):iJ st st ws=st:=by unfold iJ;split<;>simp
theorem yk{st x:List al}{ws:List W}(h:undWs st.length ws=cT):iJ st (st++x) ws=st:=by unfold iJ;rw[ax ⟨h,by simp,λi D=>.inl (aV D)⟩];simp
theorem um(h:undWs st.length ws=dw):iJ st bF ws=bF:=by unfold iJ;rw[aF λk=>by have:=k.1;rw[h]at this;cases this]
theorem qM{body:FS}{w:W}(h:body (ws.map bi++pw (N-ws.length) cg) st=.rt w bF):fK N body ws st=.ok w (iJ st bF [w]):=by unfold fK;rw[h]
theorem qN{body:FS}{w:W}(h:body (ws.map bi++pw (N-ws.length) cg) st=.rt w st):fK N body ws st=.ok w st:=by rw[qM h,wp]
theorem Bg{body:FS}{x:List al}{w:W}(h:body (ws.map bi++pw (N-ws.length) cg) st=.rt w (st++x))(d:undWs st.length [w]=cT):fK N body ws st=.ok w st:=by rw[qM h,yk d]
theorem IB{body:FS}{x:List al}(h:body (ws.map bi++pw (N-ws.length) cg) st=.rt (.loc (st.length+k)) (st++x)):fK N body ws st=.ok (.loc (st.length+k)) (st++x):=by rw[qM h,um (by simp[undWs,W.und])]
theorem IC{g g':FS}{ρ':cE}(h:g ρ st=.nx ρ' bF):a9 g g' ρ st=g' ρ' bF:=by unfold a9;rw[h]
theorem D7{f:FG}{body:FS}{k:FH}(h:fi ρ st=.ok k bF):iC fi f body ρ st=vM f body k.2 k.1 ρ bF:=by unfold iC;rw[h];rfl
theorem wq{f:FG}{body:FS}{ck:Option (Nat×List W)}(I:Nat->cE->List al->Prop):∀{ws:List W} {ρ:cE} {st:List al} (O:Nat),I O ρ st->(∀i ρ st,I i ρ st->kK st ck) ->
  (∀i w ρ st,ws[i]?=bi w->I (O+i) ρ st->∃R D U,f w ρ=bi R/\body R st=.nx D U/\I (O+i+1) D U) ->
  ∃D U,vM f body ck ws ρ st=.nx D U/\I (O+ws.length) D U
 |[],ρ,st,O,h0,hc,hs=>⟨ρ,st,by unfold vM;rw[ax (hc _ _ _ h0)],h0⟩
 |w::ws,ρ,st,O,h0,hc,hs=>by
  obtain⟨R,D,U,V,e2,Z⟩:=hs 0 w ρ st rfl h0;obtain⟨Y,J,z,B⟩:=wq I (ws:=ws) (ρ:=D) (st:=U) (O+1) Z hc λi w ρ st y hI=>by obtain⟨a,b,c,d,e,g⟩:=hs (i+1) w ρ st (by simpa using y) (by rw[show O+(i+1)=O+1+i by omega];exact hI);exact⟨a,b,c,d,e,by rw[show O+1+i+1=O+(i+1)+1 by omega];exact g⟩
  refine⟨Y,J,?_,by rw[fD,show O+(ws.length+1)=O+1+ws.length by omega];exact B⟩;unfold vM;rw[ax (hc _ _ _ h0),V];simp only[e2];exact z
theorem F9{t:FT}{g:FS}(I:Nat->cE->List al->Prop):∀(n:Nat) {ρ:cE} {st:List al},I n ρ st ->
  (∀n ρ st,I n ρ st->t ρ st=.ok dw st\/(t ρ st=.ok cT st/\∃D U m,g ρ st=.nx D U/\m<n/\I m D U)) ->
  ∃m D U,nz t g ρ st=.nx D U/\I m D U/\t D U=.ok dw U:=by
 intro n ρ st h O;have key:∀(k n:Nat) (ρ:cE) (st:List al),n<k->I n ρ st->∃m D U,hJ t g k ρ st=.nx D U/\I m D U/\t D U=.ok dw U:=by
  intro k
  induction k with
  |zero=>intro n _ _ h;exact absurd h (gG _)
  |succ k d=>
   intro n ρ st B V;rcases O n ρ st V with e|⟨e,D,U,m,e2,y,Y⟩
   .exact⟨n,ρ,st,by unfold hJ;rw[e];rfl,V,e⟩
   .obtain⟨Z,w,J,W,z⟩:=d m D U #[0] Y;exact⟨Z,w,J,by unfold hJ;rw[e];simp only[R.stmt_ok,gu,e2];exact W,z⟩
 obtain⟨m,D,U,e,Y⟩:=key (n+1) n ρ st (fz n) h;exact⟨m,D,U,FJ e #[5],Y⟩
section
variable{ρ':cE}{st2 fP rJ:List al}{fo fi:FE}{fs:FA}{u:FT}{x y z w v:W}{xs zs:List W}{a b k:Bool}{g g':FS}
theorem jI(h:ρ[i]?=bi (bi w)):af i ρ st=.ok w st:=by unfold af;rw[h]
theorem cu:eC w ρ st=.ok w st:=rfl
theorem cq{f:W->W->List al->R W}(Z:fa ρ st=.ok x st1)(Y:fb ρ st1=.ok y st2)(B:f x y st2=.ok z fP):e2 f fa fb ρ st=.ok z fP:=by unfold e2;rw[Z];simp only[R.bind_ok];rw[Y];exact B
theorem be:aD ρ st=.ok [] st:=rfl
theorem au(Z:fa ρ st=.ok x st1)(Y:fs ρ st1=.ok xs st2):ac fa fs ρ st=.ok (x::xs) st2:=by unfold ac;rw[Z];simp only[R.bind_ok];rw[Y];rfl
theorem Ra:UB ls ρ st=.ok (ls.map W.str) st:=rfl
theorem fI(Z:fs ρ st=.ok ws st1)(Y:ws.length<=lw):fJ fs ρ st=.ok (.tup ws) st1:=by unfold fJ;rw[Z];simp only[R.bind_ok,rC];rw[ax Y]
theorem Bh(Z:fs ρ st=.ok ws st1)(Y:ws.length<=lw):nw fs ρ st=.ok (.loc st1.length) (st1++[.lst ws]):=by unfold nw;rw[Z];simp only[R.bind_ok,nP];rw[ax Y]
theorem b_(Z:fs ρ st=.ok ws st1)(Y:F ws st1=.ok w st2):bC F fs ρ st=.ok w st2:=by unfold bC;rw[Z];exact Y
theorem cy(Z:fs ρ st=.ok ws st1)(Y:F ws st1=.ok w st2)(B:ws.length=n):cV n F fs ρ st=.ok w st2:=by unfold cV;rw[Z];simp only[R.bind_ok];rw[ax B];exact Y
theorem dJ(h:fa ρ st=.ok (.bl k) st1):jc fa ρ st=.ok k st1:=by unfold jc;rw[h];rfl
theorem D8(Z:t ρ st=.ok cT st1)(Y:u ρ st1=.ok k st2):Qp t u ρ st=.ok k st2:=by unfold Qp;rw[Z];exact Y
theorem D9(Z:t ρ st=.ok dw st1):Qp t u ρ st=.ok dw st1:=by unfold Qp;rw[Z];rfl
theorem zm(Z:t ρ st=.ok dw st1)(Y:u ρ st1=.ok k st2):Qq t u ρ st=.ok k st2:=by unfold Qq;rw[Z];exact Y
theorem D_(Z:t ρ st=.ok cT st1):Qq t u ρ st=.ok cT st1:=by unfold Qq;rw[Z];rfl
theorem wu(Z:t ρ st=.ok a st1)(Y:(!a)=k):KN t ρ st=.ok k st1:=by unfold KN;rw[Z,<- Y];rfl
theorem vm(Z:fa ρ st=.ok (.bl cT) st1)(Y:fb ρ st1=.ok w st2):xu fa fb ρ st=.ok w st2:=by unfold xu;rw[Z];exact Y
theorem MD(Z:fa ρ st=.ok (.bl dw) st1):xu fa fb ρ st=.ok (.bl dw) st1:=by unfold xu;rw[Z];rfl
theorem Rb(Z:fa ρ st=.ok (.bl dw) st1)(Y:fb ρ st1=.ok w st2):Tb fa fb ρ st=.ok w st2:=by unfold Tb;rw[Z];exact Y
theorem Rc(Z:fa ρ st=.ok (.bl cT) st1):Tb fa fb ρ st=.ok (.bl cT) st1:=by unfold Tb;rw[Z];rfl
theorem ID(Z:fa ρ st=.ok (.bl a) st1)(Y:(!a)=k):Cu fa ρ st=.ok (.bl k) st1:=by unfold Cu;rw[Z,<- Y];rfl
theorem sd{F:W->List W->List al->R W}(Z:fo ρ st=.ok x st1)(I:vO st1 x=cT)(Y:fs ρ st1=.ok ws st2)(B:F x ws st2=.ok w fP):vc F fo fs ρ st=.ok w fP:=by unfold vc;rw[Z];simp only[R.bind_ok];rw[ax I,Y];exact B
theorem CZ{F:W->List W->List al->R W}(Z:fo ρ st=.ok x st1)(I:HH x=cT)(Y:fs ρ st1=.ok ws st2)(B:F x ws st2=.ok w fP):GL F fo fs ρ st=.ok w fP:=by unfold GL;rw[Z];simp only[R.bind_ok];rw[ax I,Y];exact B
theorem gY(h:st[n]?=bi (.lst ws)):vO st (.loc n)=cT:=by simp only[vO,h]
theorem NG{q:Int}(h:fa ρ st=.ok (.int q) st1):LR fa ρ st=.ok (.int (-q)) st1:=by unfold LR;rw[h];rfl
theorem U5{c:String}(h:fa ρ st=.ok x st1)(O:x.ty=bi c)(B:LU c T=k):vU T fa ρ st=.ok (.bl k) st1:=by unfold vU;rw[h];simp only[R.bind_ok,O,B]
theorem U6(h:fa ρ st=.ok x st1)(B:x.isNon=k):AH fa ρ st=.ok (.bl k) st1:=by unfold AH;rw[h,<- B];rfl
theorem Re(h:fa ρ st=.ok x st1)(B:(!x.isNon)=k):Nq fa ρ st=.ok (.bl k) st1:=by unfold Nq;rw[h,<- B];rfl
theorem F_:jD ρ st=.ok cg st:=rfl
theorem Bi{q:Int}(h:fa ρ st=.ok (.int q) st1):i5 fa ρ st=.ok (bi q) st1:=by unfold i5;rw[h];rfl
theorem C0{I d:FO}{l h:Option Int}(Z:fa ρ st=.ok x st1)(Y:I ρ st1=.ok l st2)(B:d ρ st2=.ok h fP)(O:KO x l h fP=.ok w rJ):xw fa I d ρ st=.ok w rJ:=by unfold xw;rw[Z];simp only[R.bind_ok];rw[Y];simp only[R.bind_ok];rw[B];exact O
theorem cb(h:fe ρ st=.ok w st1):bZ i fe ρ st=.nx (ρ.set i (bi w)) st1:=by unfold bZ;rw[h];rfl
theorem iG(h:fe ρ st=.ok w st1):gU fe ρ st=.nx ρ st1:=by unfold gU;rw[h];rfl
theorem IE(h:fe ρ st=.ok w st1):dS fe ρ st=.rt w st1:=by unfold dS;rw[h];rfl
theorem Bj{f:W->W->W->List al->Option (List al)}(Z:fe ρ st=.ok v st1)(Y:fo ρ st1=.ok x st2)(B:fi ρ st2=.ok y fP)(O:f x y v fP=bi rJ):AQ fo fi fe f ρ st=.nx ρ rJ:=by unfold AQ;rw[Z];simp only[R.stmt_ok];rw[Y];simp only[R.stmt_ok];rw[B];simp only[R.stmt_ok];rw[O]
theorem zn{r:RS}(Z:t ρ st=.ok cT st1)(Y:g ρ st1=r):lK t g g' ρ st=r:=by unfold lK;rw[Z];exact Y
theorem zo{r:RS}(Z:t ρ st=.ok dw st1)(Y:g' ρ st1=r):lK t g g' ρ st=r:=by unfold lK;rw[Z];exact Y
theorem zp:eK ρ st=.nx ρ st:=rfl
theorem NH{r:RS}(h:g ρ st=.nx ρ' st1)(Y:g' ρ' st1=r):a9 g g' ρ st=r:=by rw[IC h];exact Y
theorem IF(h:g ρ st=.rt w st1):a9 g g' ρ st=.rt w st1:=by unfold a9;rw[h]
theorem gy{p q:Int}:da (.int p) (.int q) st=.ok (.int (p+q)) st:=rfl
theorem ww{p q:List Nat}(h:p.length+q.length<=lw):da (.str p) (.str q) st=.ok (.str (p++q)) st:=by simp only[da];rw[ax h]
theorem IG(Z:st[n]?=bi (.lst ws))(Y:st[m]?=bi (.lst xs))(h:(ws++xs).length<=lw):da (.loc n) (.loc m) st=.ok (.loc st.length) (st++[.lst (ws++xs)]):=by unfold da;simp only[Z,Y,nP];rw[ax h]
theorem nU{C:Int->Int->Prop}[∀i j,Decidable (C i j)]{f:Int->Int->Int}{p q:Int}(h:C p q):Fy C f (.int p) (.int q) st=.ok (.int (f p q)) st:=by simp only[Fy];rw[ax h]
theorem nG{p q:Int}(h:FB p q):hV (.int p) (.int q) st=.ok (.int (p*q)) st:=by simp only[hV];rw[ax h]
theorem uL{f:Int->Int->Bool}{p q:Int}(h:f p q=k):Fz f (.int p) (.int q) st=.ok (.bl k) st:=by rw[<- h];rfl
theorem NI{p q:Int}(h:decide (p<=q)=k):FL (.int p) (.int q) st=.ok (.bl k) st:=by rw[<- h];rfl
theorem rE{p q:Int}(h:(p==q)=k):oJ (.int p) (.int q) st=.ok (.bl k) st:=by rw[<- h];rfl
theorem U7{p q:Int}(h:(!(p==q))=k):LK (.int p) (.int q) st=.ok (.bl k) st:=by rw[<- h];rfl
theorem U8{p q:List Nat}(h:(p==q)=k):oJ (.str p) (.str q) st=.ok (.bl k) st:=by rw[<- h];rfl
theorem l8{q:Int}(h:u9 ws q=bi w):b9 (.tup ws) (.int q) st=.ok w st:=by unfold b9;simp only[h,cO]
theorem kv(h:ρ[i]?=bi (bi w):=by rfl):af i ρ st=.ok w st:=jI h
theorem ox{q:Int}(h:u9 ws q=bi w:=by rfl):b9 (.tup ws) (.int q) st=.ok w st:=l8 h
theorem kn(h:ρ[i]?=bi (bi w):=by rfl):ac (af i) aD ρ st=.ok [w] st:=au (jI h) be
theorem Ea{q:Int}{c:Nat}(I:l.length<=lw)(h:u9 l q=bi c):b9 (.str l) (.int q) st=.ok (.str [c]) st:=by unfold b9;simp only[h,cO];rw[ax I]
theorem uM{q:Int}(I:lstOf st n=bi ws)(h:u9 ws q=bi w):b9 (.loc n) (.int q) st=.ok w st:=by unfold b9;simp only[I,h,cO]
theorem se:e7 [.tup ws] st=.ok (.int ws.length) st:=rfl
theorem l9(h:l.length<=lw):e7 [.str l] st=.ok (.int l.length) st:=by unfold e7;simp only;rw[ax h]
theorem oQ(I:lstOf st n=bi ws):e7 [.loc n] st=.ok (.int ws.length) st:=by unfold e7;simp only[I,cO]
theorem br(h:st[n]?=bi (.lst ws)):lstOf st n=bi ws:=by unfold lstOf;rw[h]
theorem vn(h:st[n]?=bi (.ro ws)):lstOf st n=bi ws:=by unfold lstOf;rw[h]
theorem Eb(h:st[n]?=bi (.lst ws))(I:ws.length<lw):dP (.loc n) [y] st=.ok .non (st.set n (.lst (ws++[y]))):=by unfold dP;simp only[h];rw[ax I]
theorem uo{sep:List Nat}{ls:List (List Nat)}(h:lstOf st n=bi (ls.map W.str))(I:(ls.map Y8).sum+ls.length*sep.length<=lw):mV (.str sep) [.loc n] st=.ok (.str (qf sep ls)) st:=by unfold mV;simp only[h,cO,x8];rw[ax I]
theorem Ec{l h:Option Int}{z:List Nat}(I:z.length<=lw):KO (.str z) l h st=.ok (.str (oM z l h)) st:=by unfold KO;simp only;rw[ax I]
theorem Ed{l h:Option Int}:KO (.tup ws) l h st=.ok (.tup (oM ws l h)) st:=rfl
theorem Ee(h:fe ρ st=.ok (.tup ws) st1):fT fe ρ st=.ok (ws,cg) st1:=by unfold fT;rw[h];rfl
theorem mX(h:fe ρ st=.ok (.loc n) st1)(I:lstOf st1 n=bi ws):fT fe ρ st=.ok (ws,bi (n,ws)) st1:=by unfold fT;rw[h];simp only[R.bind_ok,I]
theorem dU{q:Int}(h:fs ρ st=.ok [.int q] st1)(Y:-(2^62)<=q/\q<2^62):bJ fs ρ st=.ok (bO 0 q.toNat,cg) st1:=by unfold bJ;rw[h];simp only[R.bind_ok];rw[ax Y]
theorem gn{l:List α}{q:Nat}{x:α}(h:l[q]?=bi x):u9 l (q:Int)=bi x:=by have Y:q<l.length:=(ak.mp h).1;unfold u9 Lk;rw[ax #[0],ax #[0]];simpa using h
def jd(P:RS->Prop)(r:RS):Prop:=P r
def C1(I:cE->List al->Prop):RS->Prop:=λr=>∃ρ st,r=.nx ρ st/\I ρ st
def B9(I:W->List al->Prop):RS->Prop:=λr=>∃w st,r=.rt w st/\I w st
variable{P:RS->Prop}{d8:FS}
theorem dL{r D:RS}(h:r=D)(Y:P D):jd P r:=by rw[h];exact Y
theorem aO(h:g ρ st=.nx ρ' st1)(Y:jd P (g' ρ' st1)):jd P (a9 g g' ρ st):=by rw[IC h];exact Y
theorem rF(Z:t ρ st=.ok cT st1)(Y:jd P (g ρ st1)):jd P (lK t g g' ρ st):=by rw[zn Z rfl];exact Y
theorem mY(Z:t ρ st=.ok dw st1)(Y:jd P (g' ρ st1)):jd P (lK t g g' ρ st):=by rw[zo Z rfl];exact Y
theorem fq(Z:t ρ st=.ok cT st1)(Y:jd P (a9 g d8 ρ st1)):jd P (a9 (lK t g g') d8 ρ st):=by unfold a9 at Y ⊢;rw[zn Z rfl];exact Y
theorem bV(Z:t ρ st=.ok dw st1)(Y:jd P (a9 g' d8 ρ st1)):jd P (a9 (lK t g g') d8 ρ st):=by unfold a9 at Y ⊢;rw[zo Z rfl];exact Y
theorem uq{h:FS}(Y:jd P (a9 g (a9 g' h) ρ st)):jd P (a9 (a9 g g') h ρ st):=by
 unfold a9 at Y ⊢
 cases e:g ρ st<;>simp only[e]at Y ⊢ <;> exact Y
theorem cI(Y:jd P (d8 ρ st)):jd P (a9 eK d8 ρ st):=Y
theorem cS(h:fe ρ st=.ok w st1)(Y:P (.rt w st1)):jd P (dS fe ρ st):=by rw[IE h];exact Y
theorem dW(h:fe ρ st=.ok w st1)(Y:P (.rt w st1)):jd P (a9 (dS fe) d8 ρ st):=by rw[IF (IE h)];exact Y
theorem gc{fi:FI}{f:FG}{body:FS}{k:FH}(I:Nat->cE->List al->Prop)(h:fi ρ st=.ok k st1)(V:I 0 ρ st1)(J:∀i ρ st,I i ρ st->kK st k.2)
  (O:∀i w ρ st,k.1[i]?=bi w->I i ρ st->∃ρ',f w ρ=bi ρ'/\jd (C1 (I (i+1))) (body ρ' st)) (Z:∀ρ st,I k.1.length ρ st->jd P (d8 ρ st)):jd P (a9 (iC fi f body) d8 ρ st):=by
 obtain⟨D,U,e,Y⟩:=wq (f:=f) (body:=body) (ck:=k.2) I (ws:=k.1) (ρ:=ρ) (st:=st1) 0 V J λi w ρ st B R=>by rw[gf]at R ⊢;obtain⟨ρ',d,D,U,e2,Y⟩:=O i w ρ st B R;exact⟨ρ',D,U,d,e2,Y⟩
 rw[gf]at Y;exact aO (by rw[D7 h];exact e) (Z _ _ Y)
theorem wz{body:FS}(I:Nat->cE->List al->Prop)(n:Nat)(Z:I n ρ st)
  (O:∀n ρ st,I n ρ st->t ρ st=.ok dw st\/(t ρ st=.ok cT st/\jd (C1 λD st2=>∃m,m<n/\I m D st2) (body ρ st))) (J:∀m ρ st,I m ρ st->t ρ st=.ok dw st->P (.nx ρ st)):jd P (nz t body ρ st):=by
 obtain⟨m,D,st2,e,Y,B⟩:=F9 (t:=t) (g:=body) I n Z λn ρ st V=>by
  rcases O n ρ st V with e|⟨e,D,st2,e2,m,R,Y⟩
  .exact .inl e
  .exact .inr ⟨e,D,st2,m,e2,R,Y⟩
 rw[e];exact J _ _ _ Y B
theorem tj{body:FS}{Q:W->Prop}(h:jd (B9 λw bF=>(∃x,bF=st++x)/\undWs st.length [w]=cT/\Q w) (body (ws.map bi++pw (N-ws.length) cg) st)):∃w,Q w/\fK N body ws st=.ok w st:=by obtain⟨w,bF,e,⟨x,rfl⟩,d,q⟩:=h;exact⟨w,q,Bg e d⟩
theorem im{N:Nat}{body:FS}(h:jd (B9 λO bF=>O=w/\∃x,bF=st++x) (body (ws.map bi++pw (N-ws.length) cg) st))(d:undWs st.length [w]=cT):fK N body ws st=.ok w st:=by obtain⟨w,bF,e,rfl,x,rfl⟩:=h;exact Bg e d
theorem qQ{N:Nat}{body:FS}{Q:Nat->List al->Prop}(h:jd (B9 λw bF=>∃j x,w=.loc (st.length+j)/\bF=st++x/\Q j x) (body (ws.map bi++pw (N-ws.length) cg) st)):∃j x,Q j x/\fK N body ws st=.ok (.loc (st.length+j)) (st++x):=by obtain⟨w,bF,e,j,x,rfl,rfl,q⟩:=h;exact⟨j,x,q,IB e⟩
theorem kt{q:Nat}{lo:Int}(h:(bO lo q)[i]?=bi w):i<q/\w=.int (lo+i):=by unfold bO at h;obtain⟨Z,Y⟩:=ak.mp h;simp only[ag,eQ]at Z;exact⟨Z,by rw[<- Y];simp⟩
theorem qR{l:List α}{q:Nat}(h:q<=l.length):oM l cg (bi (q:Int))=l.take q:=by unfold oM;rw[HT.sIx_none,HT.sIx_nat,lr h];simp
theorem tm{l:List α}{q:Nat}(h:q<=l.length):oM l (bi (q:Int)) cg=l.drop q:=by unfold oM;rw[HT.sIx_none,HT.sIx_nat,lr h];rw[iw #[5]]
theorem qS{q:Int}{n:Nat}(h:0<n):∃m:Nat,m<n/\q%(n:Int)=m:=by have Y:0<=q%(n:Int):=ji _ #[0];have Z:q%(n:Int)<n:=mB _ #[0];exact⟨(q%(n:Int)).toNat,by omega,by omega⟩
end
section
variable{u:FT}{a b k:Bool}{P:RS->Prop}{g g' d8:FS}{w:W}
theorem IH(Z:t ρ st=.ok a st)(Y:u ρ st=.ok b st):Qp t u ρ st=.ok (a&&b) st:=by cases a;exact D9 Z;exact D8 Z Y
theorem Rf(Z:t ρ st=.ok a st)(Y:u ρ st=.ok b st):Qq t u ρ st=.ok (a||b) st:=by cases a;exact zm Z Y;exact D_ Z
theorem Rg(Z:t ρ st=.ok a st):KN t ρ st=.ok (!a) st:=wu Z rfl
theorem qT{N:Nat}{body:FS}(h:jd (B9 λO bF=>O=w/\bF=st) (body (ws.map bi++pw (N-ws.length) cg) st)):fK N body ws st=.ok w st:=by obtain⟨w,bF,e,rfl,rfl⟩:=h;exact qN e
end
end L2
open L2
local macro_rules | `(tactic| walk_at "ev1") => `(tactic| first
 | (with_reducible apply jI) <;> rfl
 | (with_reducible apply l8) <;> rfl
 | with_reducible first
  | exact cu | exact be | exact Ra | exact F_ | exact gy | exact se | exact zp | exact Ed
  | apply cq | apply au | apply fI | apply Bh | apply b_ | apply cy | apply dJ | apply wu | apply ID
  | apply sd | apply CZ | apply NG | apply U5 | apply U6 | apply Re | apply Bi | apply C0 | apply cb | apply iG | apply IE | apply Bj
  | apply nU | apply nG | apply uL | apply NI | apply rE | apply U7 | apply U8 | apply ww
 | decide
 | (show Y8 _ <= lw; exact aw rfl)
 | (show @Eq Nat _ _; exact rfl)
 | (show @Eq Bool _ _; exact rfl)
 | (show @Eq (Option String) _ _; exact rfl)
 | (show @Eq _ _ _; with_reducible assumption))
local macro_rules | `(tactic| walk_at "evs") => `(tactic| repeat' walk_at "ev1")
local macro_rules | `(tactic| walk_at "tst") => `(tactic| first
 | (walk_at "evs"; done)
 | (apply D9; (focus walk_at "tst"); done)
 | (apply D8; (focus walk_at "tst"); (focus walk_at "tst"); done)
 | (apply D_; (focus walk_at "tst"); done)
 | (apply zm; (focus walk_at "tst"); (focus walk_at "tst"); done))
local macro_rules | `(tactic| walk_at "go1") => `(tactic| first
 | apply cI
 | (apply dW; (focus (walk_at "evs"; done)))
 | (apply cS; (focus (walk_at "evs"; done)))
 | (apply fq; (focus walk_at "tst"))
 | (apply bV; (focus walk_at "tst"))
 | (apply rF; (focus walk_at "tst"))
 | (apply mY; (focus walk_at "tst"))
 | (apply aO; (focus (walk_at "evs"; done))))
local macro_rules | `(tactic| walk_at "go") => `(tactic| repeat walk_at "go1")
local macro_rules | `(tactic| walk_at "tb") => `(tactic| repeat' (first | with_reducible apply IH | with_reducible apply Rf | with_reducible apply Rg | walk_at "ev1"))
local macro_rules | `(tactic| walk_at "len") => `(tactic| (simp only [ay, fD, pO]; show _ <= 1000000; omega))
namespace L2
open PySem PySem.Spec PyProof.Rows
section
variable{ρ' ρ2:cE}{st2:List al}{fs:FA}{g gh d8:FS}{w:W}{c:Str}{cs:List Str}{P:RS->Prop}{b:Bool}
theorem Bm{N:Nat}{body:FS}(h:jd (C1 λ_ bF=>∃x,bF=st++x) (body (ws.map bi++pw (N-ws.length) cg) st)):fK N body ws st=.ok .non st:=by obtain⟨V,bF,e,x,rfl⟩:=h;unfold fK;rw[e];simp only[yk (st:=st) (x:=x) (ws:=[]) rfl]
theorem NJ{p q:Bool}(h:(p==q)=b):oJ (.bl p) (.bl q) st=.ok (.bl b) st:=by rw[<- h];rfl
theorem mZ(I:cE->List al->Prop)(h:jd (C1 I) (g ρ st))(Y:∀ρ st,I ρ st->jd P (d8 ρ st)):jd P (a9 g d8 ρ st):=by obtain⟨R,U,e,D⟩:=h;exact aO e (Y _ _ D)
end
section
variable{f:FG}
theorem Bn{ρ0:cE}(J:kK st ck)(T:W->Bool)(Y:W->W):∀(ws Z:List W),(∀w∈ws,∃R,f w ρ0=bi R/\t R st=.ok (T w) st/\(T w=cT->el R st=.ok (Y w) st)) ->
  pA f t el ck ρ0 ws Z st=.ok (Z++(ws.filter T).map Y) st
 |[],Z,_=>by unfold pA;rw[ax J];simp
 |w::ws,Z,h=>by
  obtain⟨R,d,e2,I⟩:=h w #[5];have U:=λZ=>Bn J T Y ws Z λO z=>h O (by simp[z]);unfold pA;rw[ax J,d];simp only[e2]
  cases B:T w with
  |true=>
   simp only[I B];rw[U];simp[List.filter_cons,B]
  |false=>
   simp only;rw[U];simp[List.filter_cons,B]
theorem II(T:W->Bool)(Y:W->W)(h:fi ρ st=.ok (ws,ck) st1)(I:ws.length<=lw)(J:kK st1 ck)
  (O:∀w∈ws,∃D,f w (pR cap ρ)=bi D/\t D st1=.ok (T w) st1/\(T w=cT->el D st1=.ok (Y w) st1)):fS cap fi f t el ρ st=.ok (.loc st1.length) (st1++[.lst ((ws.filter T).map Y)]):=by unfold fS;rw[h];simp only[R.bind_ok];rw[ax I,Bn J T Y ws [] O];simp only[R.bind_ok,f6,nP];rw[ax];rw[ag];exact aT (qa _ _) I
theorem qU(Y:W->W)(h:fi ρ st=.ok (ws,ck) st1)(I:ws.length<=lw)(J:kK st1 ck)
  (O:∀w∈ws,∃R,f w (pR cap ρ)=bi R/\el R st1=.ok (Y w) st1):fS cap fi f jF el ρ st=.ok (.loc st1.length) (st1++[.lst (ws.map Y)]):=by
 have:=II (fi:=fi) (f:=f) (t:=jF) (el:=el) (cap:=cap) (λ_=>cT) Y h I J λw y=>by obtain⟨R,d,e2⟩:=O w y;exact⟨R,d,rfl,λ_=>e2⟩
 rw[List.filter_eq_self.mpr (λ_ _=>rfl)]at this;exact this
theorem yl{q:Nat}{lo:Int}{w:W}(h:w∈bO lo q):∃i:Nat,i<q/\w=.int (lo+i):=by unfold bO at h;obtain⟨i,D,rfl⟩:=aE.mp h;exact⟨i,cK.mp D,rfl⟩
theorem iQ(h:lstOf st n=bi ws):eJ [.loc n] st=.ok (.tup ws) st:=by unfold eJ;simp only[h,cO]
theorem zt{xs:List W}(h:(ws++xs).length<=lw):da (.tup ws) (.tup xs) st=.ok (.tup (ws++xs)) st:=by simp only[da,rC];rw[ax h]
theorem U9{p q:Int}:FD [.int p,.int q] st=.ok (.int (if q>p then q else p)) st:=rfl
theorem Rh{l:List α}(I:j<=l.length)(D:i<=j):oM l (bi (i:Int)) (bi (j:Int))=(l.drop i).take (j-i):=by unfold oM;rw[HT.sIx_nat,HT.sIx_nat,lr I,lr #[0]]
end
def rG:Nat->List kr->List kr
 |_,[]=>[]
 |n,(_,c,o,w)::l=>(n,c,o,w)::rG (n+1) l
def ym(l:List kr):List al:=l.map λ_=>.gone
theorem Ef(a b:List α)(x y:α):(a++x::b).set a.length y=a++y::b:=by rw[p_ _ _ (am _),iy];rfl
theorem Eg(a b:List α)(x:α):(a++x::b)[a.length]?=bi x:=by rw[aY (am _),iy];rfl
theorem oR:∀(l:List kr) (a b:List al),sU (Zw a.length l.length) (a++(cY l++b))=bi (rG a.length l,a++(ym l++b))
 |[],a,b=>rfl
 |(j,c,o,w)::l,a,b=>by show sU (Zw a.length (l.length+1)) (a++(.pin cT c o w::(cY l++b)))=_;rw[List.range'_succ];unfold sU;rw[Eg,Ef];have U:=oR l (a++[.gone]) b;rw[ay,aN,aN]at U;have U:sU (Zw (a.length+1) l.length) (a++(.gone::(cY l++b)))=bi (rG (a.length+1) l,a++(.gone::(ym l++b))):=U;simp only[U];rfl
theorem ur:∀(l:List kr) (a b:List al),CJ (rG a.length l) (a++(ym l++b))=bi (a++(cY l++b))
 |[],a,b=>rfl
 |(j,c,o,w)::l,a,b=>by show CJ ((a.length,c,o,w)::rG (a.length+1) l) (a++(.gone::(ym l++b)))=_;unfold CJ;rw[Eg,Ef];have U:=ur l (a++[.pin cT c o w]) b;rw[ay,aN,aN]at U;exact U
theorem lP(f:i0×Obj×W->α):∀(n:Nat) (l:List kr),((rG n l).map λx=>f x.2)=l.map λx=>f x.2
 |_,[]=>rfl
 |n,(j,c,o,w)::l=>by show f (c,o,w)::_=f (c,o,w)::_;rw[lP f (n+1) l]
def gK(st:List al):Prop:=∀d∈st,∀c,jH c d=dw
theorem ut:∀(l:List kr) (a b:List al),(∀d∈a,∀x∈l,jH x.2.1 d=dw)->(l.map λx=>x.2.1).Nodup->(l.map λx=>(((a++(cY l++b))).findIdx? (jH x.2.1)).getD 0)=Zw a.length l.length
 |[],a,b,_,_=>rfl
 |(j,c,o,w)::l,a,b,hn,nd=>by
  rw[aK,bR]at nd;show((a++(.pin cT c o w::(cY l++b))).findIdx? (jH c)).getD 0::(l.map λx=>((a++(.pin cT c o w::(cY l++b))).findIdx? (jH x.2.1)).getD 0)=Zw a.length (l.length+1);rw[List.range'_succ];have Z:(a++(.pin cT c o w::(cY l++b))).findIdx? (jH c)=bi a.length:=by rw[List.findIdx?_append,mK.mpr λx O=>by simp[hn x O (j,c,o,w) aX]];rw[List.findIdx?_cons,show jH c (.pin cT c o w)=cT from n_ _];simp
  rw[Z];have U:=ut l (a++[.pin cT c o w]) b (λd hd x O=>by
   rcases aZ.mp hd with hd|hd
   .exact hn d hd x (aC _ O)
   .rw[aM.mp hd];show(c==x.2.1)=dw;rw[dk];intro z;exact nd.1 (aE.mpr ⟨x,O,z.symm⟩)) nd.2
  rw[ay,aN]at U;have U:(l.map λx=>((a++(.pin cT c o w::(cY l++b))).findIdx? (jH x.2.1)).getD 0)=Zw (a.length+1) l.length:=U;rw[U];rfl
theorem uv{x:List al}(h:undWs st.length ws=cT):iJ st (st++x) ws=st:=by unfold iJ;rw[ax ⟨h,by simp,λi D=>.inl (by rw[aV D])⟩];simp
theorem IJ{os:List Obj}(Z:os.length=C.length)(Y:cws.length=C.length):(f_ C os cws).length=C.length:=by
 induction C generalizing os cws with
 |nil=>cases os with
  |nil=>cases cws with
   |nil=>rfl
   |cons w O=>simp at Y
  |cons o os=>simp at Z
 |cons y C U=>cases os with
  |nil=>simp at Z
  |cons o os=>cases cws with
   |nil=>simp at Y
   |cons w O=>
    have e:=U (os:=os) (cws:=O) (by simpa using Z) (by simpa using Y);show(f_ C os O).length+1=C.length+1;rw[e]
theorem C2{C:List (Str×i0)}{os:List Obj}{cws:List W}(Z:os.length=C.length)(Y:cws.length=C.length):((f_ C os cws).map λx=>x.2.1)=C.map (·.2):=by
 induction C generalizing os cws with
 |nil=>cases os with
  |nil=>cases cws with
   |nil=>rfl
   |cons w O=>simp at Y
  |cons o os=>simp at Z
 |cons y C U=>cases os with
  |nil=>simp at Z
  |cons o os=>cases cws with
   |nil=>simp at Y
   |cons w O=>
    have e:=U (os:=os) (cws:=O) (by simpa using Z) (by simpa using Y);show y.2::((f_ C os O).map λx=>x.2.1)=y.2::C.map (·.2);rw[e]
theorem C3{C:List (Str×i0)}{os:List Obj}{cws:List W}(Z:os.length=C.length)(Y:cws.length=C.length):((f_ C os cws).map λx=>x.2.2.2)=cws:=by
 induction C generalizing os cws with
 |nil=>cases os with
  |nil=>cases cws with
   |nil=>rfl
   |cons w O=>simp at Y
  |cons o os=>simp at Z
 |cons y C U=>cases os with
  |nil=>simp at Z
  |cons o os=>cases cws with
   |nil=>simp at Y
   |cons w O=>
    have e:=U (os:=os) (cws:=O) (by simpa using Z) (by simpa using Y);show w::((f_ C os O).map λx=>x.2.2.2)=w::O;rw[e]
theorem ME{w:W}(I:cws.length=(dB o).length)(d:undWs st.length [w]=cT)
  (Y:∀B:List Obj,B.length=(dB o).length->F ws (st++(cY (f_ (dB o) B cws)++[]))=.ok w (st++(cY (f_ (dB o) B cws)++[]))):A6 F o cws ws st=.ok w st:=by unfold A6;refine sW (pw (dB o).length { cls:=.none,data:=.cell cg }) #[5] λB V=>?_;have e:=Y B V;unfold D0;rw[bD]at e;rw[e];simp only;have h:=oR (f_ (dB o) B cws) st [];rw[IJ V I,bD,bD]at h;rw[h];simp only;rw[ax (lP (λy=>(y.1,y.2.1)) _ _),uv d]
theorem IK(name q:Str)(pr:Y7)(body:List qd)(sc:Y0)(xs:List Str):∃o,QR name q pr body sc xs o:=by
 refine⟨_,xs.zip (vr xs.length),.none,.none,0,.none,?_,?_,rfl⟩
 .exact oq #[5]
 .rw[oz #[5]];exact List.nodup_range
theorem zu{m:Nat}{ok:Obj->Prop}{fs:FA}{w0 v:W}(D:ρ[i]?=bi (bi (.loc m)))(y:st[m]?=bi (.pin dw f o w0))(V:fs ρ st=.ok ws st1)(I:ws.length=n)(h:kL ok F m ws st1=.ok v st1) :
  nF i n ok F fs ρ st=.ok v st1:=by unfold nF;rw[D];simp only;rw[y];simp only;rw[V];simp only[R.bind_ok];rw[ax I,h]
theorem Bo{ok:Obj->Prop}{a b:List al}{l:List kr}{w0 v:W}(R:(a++(cY l++b))[m]?=bi (.pin dw f o w0))(V:ok o)(J:(dB o).map (·.2)=l.map λx=>x.2.1)(nd:(l.map λx=>x.2.1).Nodup)(B:gK a)
  (Y:F (ws++l.map λx=>x.2.2.2) (a++(ym l++b))=.ok v (a++(ym l++b))):kL ok F m ws (a++(cY l++b))=.ok v (a++(cY l++b)):=by
 have Z:((dB o).map λy=>((a++(cY l++b)).findIdx? (jH y.2)).getD 0)=Zw a.length l.length:=by
  rw[<- ut l a b (λd D x _=>B d D _) nd];have:∀(g:i0->Nat),(dB o).map (λy=>g y.2)=l.map λx=>g x.2.1:=λg=>by have:=cP (List.map g) J;rw[aU,aU]at this;exact this
  exact this λc=>((a++(cY l++b)).findIdx? (jH c)).getD 0
 unfold kL;rw[R];simp only;rw[ax V,Z,oR];simp only;have e2:((rG a.length l).map λx=>x.2.1)=l.map λx=>x.2.1:=lP (λy=>y.1) _ _;have I:((rG a.length l).map λx=>x.2.2.2)=l.map λx=>x.2.2.2:=lP (λy=>y.2.2) _ _;rw[ax (by rw[e2,J]),I,Y];simp only[ur]
theorem Ri{fs:FA}{st1 st2 J:List al}{wa w:W}{Z:List W}(D:fa ρ st=.ok wa st1)(O:fs ρ st1=.ok Z st2)(I:Z.length=m)(hG:G Z st2=.ok cws J)(V:∃o,qy o)(z:undWs J.length [w]=cT)
  (h:∀f o B,qy o->B.length=(dB o).length->∃wb x,fb ρ (J++[.pin dw f o .non]++cY (f_ (dB o) B cws))=.ok wb (J++[.pin dw f o .non]++cY (f_ (dB o) B cws))/\F [wa,.loc J.length,wb] (J++[.pin dw f o .non]++cY (f_ (dB o) B cws))=.ok w (J++x)) :
  A7 F fa m qy G fs fb ρ st=.ok w J:=by obtain⟨y,Y⟩:=V;unfold A7;rw[D];simp only[R.bind_ok];rw[O];simp only[R.bind_ok];rw[ax I,hG];simp only;refine sW (0,y,pw (dB y).length { cls:=.none,data:=.cell cg }) ⟨Y,by simp⟩ λp U=>?_;obtain⟨wb,x,d,e2⟩:=h p.1 p.2.1 p.2.2 U.1 U.2;simp only[d,e2];rw[uv z]
theorem Rj{g:FS}{P:i0}(h:g (ws.map bi++pw (N-ws.length) cg) st=.nx ρ bF)(Z:lX bF j P pos q)(J:pB is (ρ.set i (bi (.loc bF.length)))=bi cws):Ie N g is i j P pos q ws st=.ok cws bF:=by unfold Ie;rw[h];simp only;rw[ax Z,J]
section
theorem oS{f:FG}{cap:List (Option Nat)}(vs:List W)(h:fi ρ st=.ok (ws,ck) st1)(I:ws.length<=lw)(J:kK st1 ck)(V:vs.length=ws.length)
  (B:∀(i:Nat) (w:W),ws[i]?=bi w->∃v R,vs[i]?=bi v/\f w (pR cap ρ)=bi R/\el R st1=.ok v st1):fS cap fi f jF el ρ st=.ok (.loc st1.length) (st1++[.lst vs]):=by
 let Y:W->W:=λw=>match f w (pR cap ρ)with
  |some R=>(match el R st1 with
   |.ok v _=>v
   |_=>.non)
  |none=>.non
 have hY:∀(i:Nat) (w v:W),ws[i]?=bi w->vs[i]?=bi v->Y w=v:=λi w v y hv'=>by
  obtain⟨U,R,d,e2,z⟩:=B i w y;rw[hv']at d;cases d
  show(match f w (pR cap ρ)with|some R=>(match el R st1 with|.ok v _=>v|_=>.non)|none=>.non)=v;rw[e2];simp only[z]
 rw[qU Y h I J λw y=>by obtain⟨i,D⟩:=cM y;obtain⟨v,R,d,e2,z⟩:=B i w D;exact⟨R,e2,by rw[hY i w v D d];exact z⟩]
 congr 3
 congr 1
 refine List.ext_getElem (by rw[ag,V]) λi Z O=>?_;rw[kF];exact hY i _ _ (ar (by rw[ag]at Z;exact Z)) (ar O)
theorem Rk{fs:FA}{xs ys D:List W}(h:fs ρ st=.ok [.loc n,.tup ys,.tup D] st1)(Z:lstOf st1 n=bi xs):v_ fs ρ st=.ok (l7 xs ys D,bi (n,xs)) st1:=by unfold v_;rw[h];simp only[R.bind_ok,Z]
theorem Eh{fe:FE}(h:fe ρ st=.ok (.loc n) st1)(h1:st1[n]?=bi (.dcx kvs)\/st1[n]?=bi (.rox kvs))(Z:FY kvs=cT):jf fe ρ st=.ok (kvs.map (λp=>p.1.w),cg) (st1.set n (.rox kvs)):=by
 have e:Ik st1 (.loc n)=bi (n,kvs):=by rcases h1 with h1|h1<;>simp only[Ik,h1]
 unfold jf;rw[h];simp only[R.bind_ok,e];rw[ax Z]
theorem Ei{fe:FE}(h:fe ρ st=.ok (.loc n) st1)(Z:st1[n]?=bi (.rox kvs))(B:FY kvs=cT):jf fe ρ st=.ok (kvs.map (λp=>p.1.w),cg) st1:=by rw[Eh h (.inr Z) B,vZ Z]
theorem NK{Ak:Bool}{x:W}{k:KX}(h:st[n]?=bi (.rox kvs))(B:nC x=bi k)(ok:vj kvs k=cT):re Ak x (.loc n) st=.ok (.bl (if Ak then !(fL kvs k).isSome else(fL kvs k).isSome)) st:=by
 have e:sZ st (.loc n)=bi (n,kvs):=by simp only[sZ,h]
 unfold re;rw[e];simp only[B];rw[ax ok]
theorem Rm{ws:List W}{k:Nat}(Y:ws≠[])(B:2<=k)(I:ws.length*k<=1000000):A8 (.tup ws) (.int k) st=.ok (.tup (pw k ws).flatten) st:=by show(if ws≠[]/\(2:Int)<=(k:Int)/\ws.length*(k:Int).toNat<=lw then R.ok (W.tup (pw (k:Int).toNat ws).flatten) st else .bad)=_;rw[ax ⟨Y,by omega,by rw[aH];exact I⟩,aH]
theorem zv:∀l:List Bool,sN (l.map W.bl)=bi l
 |[]=>rfl
 |b::l=>by simp only[aK,sN,zv l,Option.map_some]
theorem NL{l:List Bool}(h:lstOf st n=bi (l.map W.bl)):y4 [.loc n] st=.ok (.bl (l.all id)) st:=by unfold y4;simp only[h,cO,zv]
theorem wA{y v:W}{k:KX}(D:gW st (.loc n)=bi (n,kvs))(B:nC y=bi k)(ok:vj kvs k=cT):qp (.loc n) y v st=bi (st.set n (.dcx (j8 kvs k v))):=by unfold qp;simp only[D,B];rw[ax ok]
end
end L2
namespace P
open PySem L2
open PyProof.Rows (boot_sorted boot_set boot_ord boot_all boot_enumerate boot_int boot_str boot_bool boot_list boot_tuple boot_isinstance boot_max boot_min boot_zip boot_any)
noncomputable def lQ(i:Nat):qd:=PySem.Challenge.pw_trunksay_k55_whole_alike_paper.main.body.getD i (.Pass ⟨0,0,0,0⟩)
abbrev Rn:qd:=lQ 4
noncomputable abbrev C4:List Str:=["letters"]
noncomputable abbrev U_:List Str:=["letters"]
theorem U':bS C4 U_ (aI Rn):=pS
abbrev Ro:qd:=lQ 5
noncomputable abbrev IL:List Str:=["exponent","power","each"]
noncomputable abbrev Va:List Str:=["exponent"]
theorem NM:bS IL Va (aI Ro):=pS
abbrev Rp:qd:=lQ 8
noncomputable abbrev wB:List Str:=["rooms","names"]
noncomputable abbrev Vb:List Str:=["rooms","names"]
theorem NN:bS wB Vb (aI Rp):=pS
abbrev Rq:qd:=lQ 9
noncomputable abbrev uX:List Str:=["rooms","names"]
noncomputable abbrev Vc:List Str:=["rooms","names"]
theorem Vd:bS uX Vc (aI Rq):=pS
abbrev Rs:qd:=lQ 10
noncomputable abbrev C5:List Str:=["letters","rooms","lead","table","letter","leads","left"]
noncomputable abbrev Ve:List Str:=["letters","rooms","lead"]
theorem Bp:bS C5 Ve (aI Rs):=pS
abbrev Rt:qd:=lQ 11
noncomputable abbrev xA:List Str:=["names","own","numbers","name","further","number"]
noncomputable abbrev Vf:List Str:=["names","own"]
theorem NO:bS xA Vf (aI Rt):=pS
abbrev Ru:qd:=lQ 12
noncomputable abbrev zw:List Str:=["machine","names"]
noncomputable abbrev Vg:List Str:=["machine","names"]
theorem NP:bS zw Vg (aI Ru):=pS
abbrev Rv:qd:=lQ 14
noncomputable abbrev zx:List Str:=["newest"]
noncomputable abbrev Vh:List Str:=["newest"]
theorem NQ:bS zx Vh (aI Rv):=pS
abbrev Rw:qd:=lQ 15
noncomputable abbrev Rx:List Str:=["word","truths"]
noncomputable abbrev Vi:List Str:=["word","truths"]
theorem NR:bS Rx Vi (aI Rw):=pS
abbrev Bq:qd:=lQ 16
noncomputable abbrev wC:List Str:=["machines","names","tables","lead"]
noncomputable abbrev Vj:List Str:=["machines","names"]
theorem IM:bS wC Vj (aI Bq):=pS
abbrev IN:qd:=lQ 17
noncomputable abbrev C6:List Str:=["machines","row"]
noncomputable abbrev NS:List Str:=["machines","row"]
theorem IP:bS C6 NS (aI IN):=pS
abbrev wD:qd:=lQ 18
noncomputable abbrev MF:List Str:=["start","lead","names","found","numbers","leads","letters","newest","left","right","letter","led","table"]
noncomputable abbrev NT:List Str:=["start","lead","names"]
theorem kX:bS MF NT (aI wD):=pS
abbrev IQ:qd:=lQ 19
noncomputable abbrev Ga:List Str:=["word","one","other","names","parts","whole","good"]
noncomputable abbrev NU:List Str:=["word","one","other"]
theorem IR:bS Ga NU (aI IQ):=pS
abbrev IS:qd:=lQ 21
noncomputable abbrev zy:List Str:=["one","other","couple"]
noncomputable abbrev NV:List Str:=["one","other"]
theorem IT:bS zy NV (aI IS):=pS
abbrev IU:qd:=lQ 25
noncomputable abbrev xB:List Str:=["rows","names"]
noncomputable abbrev NW:List Str:=["rows","names"]
theorem Ry:bS xB NW (aI IU):=pS
abbrev IV:qd:=lQ 26
noncomputable abbrev Gb:List Str:=["machine","number"]
noncomputable abbrev NX:List Str:=["machine","number"]
theorem IW:bS Gb NX (aI IV):=pS
abbrev IX:qd:=lQ 27
noncomputable abbrev Br:List Str:=["machines","row"]
noncomputable abbrev NY:List Str:=["machines","row"]
theorem IY:bS Br NY (aI IX):=pS
abbrev IZ:qd:=lQ 28
noncomputable abbrev I0:List Str:=["rows","lead","letters","left","right","letter"]
noncomputable abbrev NZ:List Str:=["rows","lead","letters"]
theorem zz:bS I0 NZ (aI IZ):=pS
abbrev I_:qd:=lQ 29
noncomputable abbrev Gd:List Str:=["word","parts","made","row"]
noncomputable abbrev N0:List Str:=["word","parts","made","row"]
theorem Ja:bS Gd N0 (aI I_):=pS
abbrev Jb:qd:=lQ 30
noncomputable abbrev MG:List Str:=["word","parts","made","rows","machines","names","known","row"]
noncomputable abbrev N1:List Str:=["word","parts","made","rows"]
theorem Jc:bS MG N1 (aI Jb):=pS
abbrev Jd:qd:=lQ 32
noncomputable abbrev Bs:List Str:=["_law_script","_law_k"]
noncomputable abbrev N2:List Str:=["_law_script","_law_k"]
theorem Je:bS Bs N2 (aI Jd):=pS
abbrev Jf:qd:=lQ 33
noncomputable abbrev zB:List Str:=["_law_cell_here","_law_k","_law_salt","_law_first"]
noncomputable abbrev N3:List Str:=["_law_cell_here","_law_k","_law_salt"]
theorem Jg:bS zB N3 (aI Jf):=pS
abbrev Jh:qd:=lQ 34
noncomputable abbrev zC:List Str:=["_law_cell_here","_law_many","_law_salt","_law_found","_law_rest","_law_k"]
noncomputable abbrev N4:List Str:=["_law_cell_here","_law_many","_law_salt"]
theorem Ji:bS zC N4 (aI Jh):=pS
abbrev Jj:qd:=lQ 35
noncomputable abbrev Bt:List Str:=["_law_found","_law_due","_law_k"]
noncomputable abbrev Jk:List Str:=["_law_found","_law_due"]
theorem Jl:bS Bt Jk (aI Jj):=pS
abbrev Jm:qd:=lQ 36
noncomputable abbrev Bu:List Str:=["_law_cell_here","_law_many","_law_salt","_law_rest","_law_found","_law_d","_law_at"]
noncomputable abbrev N5:List Str:=["_law_cell_here","_law_many","_law_salt"]
theorem Jn:bS Bu N5 (aI Jm):=pS
abbrev Jo:qd:=lQ 37
noncomputable abbrev zD:List Str:=["_law_pool_here","_law_number"]
noncomputable abbrev N6:List Str:=["_law_pool_here","_law_number"]
theorem Jp:bS zD N6 (aI Jo):=pS
abbrev Jq:qd:=lQ 38
noncomputable abbrev wE:List Str:=["_law_names","_law_many","_law_top","_law_draws_here","_law_good","_law_table","_law_at","_law_letter_here","_law_rows","_law_l"]
noncomputable abbrev N7:List Str:=["_law_names","_law_many","_law_top","_law_draws_here"]
theorem Jr:bS wE N7 (aI Jq):=pS
abbrev Js:qd:=lQ 39
noncomputable abbrev xC:List Str:=["_law_names","_law_marks_here","_law_found","_law_name"]
noncomputable abbrev N8:List Str:=["_law_names","_law_marks_here"]
theorem Jt:bS xC N8 (aI Js):=pS
abbrev Ju:qd:=lQ 40
noncomputable abbrev tu:List Str:=["_law_names","_law_number"]
noncomputable abbrev N9:List Str:=["_law_names","_law_number"]
theorem Jv:bS tu N9 (aI Ju):=pS
abbrev Jw:qd:=lQ 41
noncomputable abbrev Bv:List Str:=["_law_machine_here","_law_letter_here","_law_names","_law_table","_law_number"]
noncomputable abbrev N_:List Str:=["_law_machine_here","_law_letter_here"]
theorem Jx:bS Bv N_ (aI Jw):=pS
abbrev Jy:qd:=lQ 42
noncomputable abbrev wF:List Str:=["_law_machine_here","_law_letter_here","_law_l","_law_r","_law_room","_law_rows","_law_row"]
noncomputable abbrev N':List Str:=["_law_machine_here","_law_letter_here","_law_l","_law_r","_law_room"]
theorem Jz:bS wF N' (aI Jy):=pS
abbrev JA:qd:=lQ 43
noncomputable abbrev wG:List Str:=["_law_machine_here","_law_draws_here","_law_copies","_law_many","_law_all_rooms","_law_good","_law_homes","_law_table","_law_at","_law_rows","_law_made","_law_l","_law_row","_law_r","_law_room"]
noncomputable abbrev Oa:List Str:=["_law_machine_here","_law_draws_here","_law_copies"]
theorem jl:bS wG Oa (aI JA):=pS
abbrev JB:qd:=lQ 44
noncomputable abbrev C7:List Str:=["_law_script","_law_pool_here","_law_ways","_law_many","_law_names","_law_one","_law_draws_here","_law_other","_law_rooms","_law_letter_here","_law_room","_law_at"]
noncomputable abbrev Ob:List Str:=["_law_script"]
theorem JC:bS C7 Ob (aI JB):=pS
abbrev JD:qd:=lQ 45
noncomputable abbrev zE:List Str:=["_law_script","_law_draws_here","_law_many","_law_rows","_law_l","_law_good","_law_pool_here","_law_names","_law_rooms","_law_other"]
noncomputable abbrev Oc:List Str:=["_law_script"]
theorem JE:bS zE Oc (aI JD):=pS
abbrev JF:qd:=lQ 46
noncomputable abbrev rg:List Str:=["_law_one","_law_other","_law_names","_law_found","_law_number","_law_marks_here"]
noncomputable abbrev Od:List Str:=["_law_one","_law_other"]
theorem wH:bS rg Od (aI JF):=pS
abbrev JG:qd:=lQ 47
noncomputable abbrev zF:List Str:=["_law_one","_law_other","_law_letters","_law_found","_law_newest","_law_k","_law_first","_law_second","_law_l","_law_r","_law_a","_law_b"]
noncomputable abbrev Oe:List Str:=["_law_one","_law_other"]
theorem JH:bS zF Oe (aI JG):=pS
abbrev tz:qd:=lQ 48
noncomputable abbrev Vk:List Str:=["_law_script","_law_one","_law_other","_law_pairs_here","_law_due","_law_a","_law_b","_law_found","_law_turned"]
noncomputable abbrev JI:List Str:=["_law_script"]
theorem JJ:bS Vk JI (aI tz):=pS
structure Bl(mg:Str->Option gs):Prop where
 all:mg "all"=Zg
 any:mg "any"=Zg
 bool:mg "bool"=Zg
 int:mg "int"=Zg
 isinstance:mg "isinstance"=Zg
 len:mg "len"=Zg
 list:mg "list"=Zg
 max:mg "max"=Zg
 range:mg "range"=Zg
 set:mg "set"=Zg
 sorted:mg "sorted"=Zg
 str:mg "str"=Zg
 tuple:mg "tuple"=Zg
 zip:mg "zip"=Zg
noncomputable def l_:W:=.int 10000
noncomputable def oT:W:=.int 13
noncomputable def oU:W:=.int 40000
structure Gc(K:uR)(mg:Str->Option gs):Prop where
 MOST_ENTRIES:∃u v,mg "MOST_ENTRIES"=bi u/\cN v u/\∀μ H,bh K μ H l_ v
 MOST_NAMES:∃u v,mg "MOST_NAMES"=bi u/\cN v u/\∀μ H,bh K μ H oT v
 MOST_LOOKS:∃u v,mg "MOST_LOOKS"=bi u/\cN v u/\∀μ H,bh K μ H oU v
structure P3(K:uR)(mg:Str->Option gs):Prop where
 TooGreat:UT K mg "TooGreat"
theorem Rz{us:List gs}(d:us.length=2):∃a b,us=[a,b]:=by
 cases us with
 |nil=>cases d
 |cons a t=>
  cases t with
  |nil=>cases d
  |cons b t=>
   cases t with
   |nil=>exact⟨a,b,rfl⟩
   |cons _ _=>cases d
theorem Vl(d:us.length=3):∃a b c,us=[a,b,c]:=by
 cases us with
 |nil=>cases d
 |cons a t=>
  obtain⟨b,c,rfl⟩:=Rz (us:=t) (by injection d);exact⟨a,b,c,rfl⟩
noncomputable def tabL:List (i0×Pos×Str):=[(98,⟨58,4,59,99⟩,"side_by_side.<locals>.lead"),(108,⟨79,42,79,96⟩,"grown.<locals>.<lambda>")]
section
variable{w:ms}
local macro_rules | `(tactic| walk_at "w1") => `(tactic| first | exact ba _ | refine aW ?_ ?_ | exact iN | exact bI | refine cw ?_ ?_ | refine nQ ?_ ?_ | refine e_ ?_ | refine sS _ ‹_› ?_ | refine t9 (by first | exact vK | exact Hw | exact uc | exact Q3 | exact Hy | exact Qw | exact UF | exact Nt | exact UG | exact Qx) ?_ ?_ | refine rD ‹_› ‹_› (by omega) ?_ | refine QV ‹_› ‹_› ‹_› (by omega) (by omega) ?_ ?_ ?_ | refine MA ‹_› ‹_› ‹_› (by omega) (by omega) ?_ ?_ ?_ | refine oN ?_ | refine xY ?_ | exact sG _ ‹_› | refine gX qj ‹Bl _›.len je ?_ | refine gX UK ‹Bl _›.max boot_max ?_ | refine gX LX ‹Bl _›.sorted boot_sorted ?_ | refine gX Mw ‹Bl _›.sorted boot_sorted ?_ | refine gX UQ ‹Bl _›.all boot_all ?_ | refine gX U4 ‹Bl _›.any boot_any ?_ | refine oI (by first | exact HC ‹_› | exact LM ‹_› | exact LN ‹_› | exact DI ‹_› | exact nT ‹_› | exact w_lt | exact DQ | exact AK | exact LI) ?_ ?_ | refine Uv (by first | exact HC ‹_› | exact LM ‹_› | exact LN ‹_› | exact DI ‹_› | exact nT ‹_› | exact w_lt | exact DQ | exact AK | exact LI) ?_ ?_ | refine LQ (by first | exact HC ‹_› | exact LM ‹_› | exact LN ‹_› | exact DI ‹_› | exact nT ‹_› | exact w_lt | exact DQ | exact AK | exact LI) (by first | exact HC ‹_› | exact LM ‹_› | exact LN ‹_› | exact DI ‹_› | exact nT ‹_› | exact w_lt | exact DQ | exact AK | exact LI) ?_ ?_ ?_ | refine vL ?_ ?_ ?_ | exact rX | refine kW ?_ ?_ ?_ | refine nR ?_ ?_ | exact yT | refine Cw rfl ?_ | refine lF ?_ | refine uH ?_ | exact Qn | exact Hr | exact Ut | refine jE UL ‹Bl _›.int boot_int ?_ | refine jE mU ‹Bl _›.tuple iz ?_ | refine yW PySem.F.slot_list_append PySem.F.type_list_append jw ?_ ?_ | refine yW PySem.F.slot_list_extend PySem.F.type_list_extend CD ?_ ?_ | refine QC PySem.F.slot_str_join PySem.F.type_str_join yX ?_ ?_ | refine iX ‹Bl _›.range ?_ | refine L8 ‹Bl _›.zip ?_ | refine DV rfl ?_ (λ_ _ _ _ _ => ?_) (λ_ _ _ _ _ => ?_) (λ_ _ _ _ _ => ?_) | refine DV (m := 0) rfl ?_ (λ_ _ _ _ _ => ?_) (λ_ _ _ _ _ => ?_) (λ_ _ _ _ _ => ?_) | exact Yx _ | exact vd | refine LO ?_ | refine wc ?_ | refine yY ?_ | refine Qu ?_ | refine UA ?_ | refine Qt ?_ | refine Qs (Ct ?_ ?_) | refine Qs (Np ?_ ?_) | refine Ct ?_ ?_ | refine Np ?_ ?_ | refine DE ?_ | refine Qr ?_ | refine Qo ?_ | refine Uy ?_ | refine UP ?_ | refine Ux ?_ ?_ | refine Xn ?_ ?_ | refine Uw ?_ | refine DM ?_ | exact DL | refine UJ ?_ ?_ ?_ | refine Cy (CG ‹_›) ?_ ?_ ?_ | refine AS ?_ ?_ | refine Qy ?_ ?_ | exact HN | exact Fw ‹Gc _ _›.MOST_NAMES | exact Fw ‹Gc _ _›.MOST_LOOKS | exact Fw ‹Gc _ _›.MOST_ENTRIES | refine DT ‹Bl _›.isinstance ‹Bl _›.bool boot_bool ?_ | refine DT ‹Bl _›.isinstance ‹Bl _›.int boot_int ?_ | refine DT ‹Bl _›.isinstance ‹Bl _›.str boot_str ?_ | refine DT ‹Bl _›.isinstance ‹Bl _›.tuple iz ?_)
local macro_rules | `(tactic| walk_at "w") => `(tactic| repeat' walk_at "w1")
def XA:FS:=(dS (GL mV (eC (.str [])) (ac (lU (af 0)) aD)))
def Ge:List W->List al->R W:=fK 1 XA
theorem Vm(F:lB K "in_order" "in_order" Rn f fd)(B:Bl mg) :fQ P w K mg base (iM P w) 1 f fd U_ (mF K mg 1 Ge):=
 du (k:=0) F U' rfl λZ A z s H E R=>(e_ (oN (QC PySem.F.slot_str_join PySem.F.type_str_join yX Hr (aW (x_ B.sorted B.set (ba 0)) bI))))
def Vn:FS:=(a9 (bZ 1 (eI 1)) (a9 (iC (bJ (ac (af 0) aD)) (gi 2) (bZ 1 (e2 hV (af 1) (eI 2)))) (dS (af 1))))
def Bw:List W->List al->R W:=fK 3 Vn
theorem Vo(F:lB K "two_to" "two_to" Ro f fd)(B:Bl mg) :fQ P w K mg base (iM P w) 1 f fd Va (mF K mg 1 Bw):=
 du (k:=0) F NM rfl λZ A z s H E R=>by have y:=NM;walk_at "w"
def Vp:FS:=(dS (e2 hV (e2 hV (af 0) (af 0)) (cV 1 Bw (ac (bC e7 (ac (af 1) aD)) aD))))
def Gf:List W->List al->R W:=fK 2 Vp
theorem Vq(F:lB K "entries_many" "entries_many" Rp f fd)(B:Bl mg)(Dq:dG P w K mg base 1 "two_to" 1 Bw):fQ P w K mg base (iM P w) 2 f fd Vb (mF K mg 2 Gf):=
 du (k:=1) F NN rfl λZ A z s H E R=>by have y:=NN;walk_at "w"
def RA:FS:=(lK (jc (e2 Nu (cV 2 Gf (ac (af 0) (ac (af 1) aD))) (eC l_))) (y6 "TooGreat") eK)
def C8:List W->List al->R W:=fK 2 RA
theorem Vr(F:lB K "check_entries" "check_entries" Rq f fd)(G:Gc K mg)(C:P3 K mg)(GJ:dG P w K mg base 2 "entries_many" 2 Gf):fQ P w K mg base (iM P w) 3 f fd Vc (mF K mg 2 C8):=
 du (k:=2) F Vd rfl λZ A z s H E R=>(e_ (vL (oI AK (rD GJ R #[0] (aW (ba 0) (aW (ba 1) bI))) (Fw G.MOST_ENTRIES)) (e_ (vV C.TooGreat)) rX))
abbrev jg:qd:=(dq wD).getD 6 (.Pass ⟨0,0,0,0⟩)
abbrev dv:Obj->Prop:=NF "grown.<locals>.<lambda>" (Xy jg) (Xz jg) (U3 jg) ["leads"]
theorem uw:CK ["letter","left","right","leads"] ["letter","left","right"] ["leads"] (U3 jg):=⟨rfl,rfl,rfl,by decide +kernel,rfl,rfl,by decide +kernel,by decide +kernel,by decide +kernel,by decide +kernel⟩
def jJ:FE:=(e2 CI (af 3) (fJ (ac (af 0) (ac (af 1) (ac (af 2) aD)))))
def dD:List W->List al->R W:=Mx 4 jJ
theorem sf  :l6 P w K mg base 1 3 1 dv dD:=
 Iu (k:=0) uw rfl rfl (λ_ _ _ _ d I=>by obtain⟨a,b,c,rfl⟩:=Vl I;rfl) λf W y A z s H E R=>(NE R (ba 3) (xY (aW (ba 0) (aW (ba 1) (aW (ba 2) bI)))))
def Vs:FS:=(a9 (bZ 3 (nw aD)) (a9 (iC (bJ (ac (af 0) aD)) (gi 4) (a9 (bZ 5 (nw aD)) (a9 (iC (bJ (ac (af 1) aD)) (gi 6) (gU (vc dP (af 5) (ac (bC eJ (ac (fS [cg,bi 2,bi 4,bi 6] (bJ (ac (af 1) aD)) (gi 0) jF (nF 1 3 dv dD (ac (af 2) (ac (af 3) (ac (af 0) aD))))) aD)) aD)))) (gU (vc dP (af 3) (ac (bC eJ (ac (af 5) aD)) aD)))))) (dS (bC eJ (ac (af 3) aD)))))
def JK:List W->List al->R W:=fK 7 Vs
theorem Vt(F:lB K "table_by" "table_by" Rs f fd)(B:Bl mg)(y:l6 P w K mg base 1 3 1 dv dD) :fQ P w K mg base (iM P w) 2 f fd Ve (mF K mg 3 JK):=
 du (k:=1) F Bp rfl λZ A z s H E R=>(cw (sS 3 Bp (uH bI)) (cw (kW (iX B.range (aW (ba 0) bI)) (sG 4 Bp) (cw (sS 5 Bp (uH bI)) (cw (kW (iX B.range (aW (ba 1) bI)) (sG 6 Bp) (e_ (lF (yW PySem.F.slot_list_append PySem.F.type_list_append jw (ba 5) (aW (jE mU B.tuple iz (aW (CA (nm:=["right","lead","letter","left"]) (cap:=[cg,bi 2,bi 4,bi 6]) (by first|rfl|kernel_rfl) rfl (iX B.range (aW (ba 1) bI)) (λ_ _ _ _ _=>(sC 0)) (λ_ _ _ _ _=>vd) (λ_ _ _ _ _=>(zc 1 y (Mz rfl) R #[0] (aW (ba 2) (aW (ba 3) (aW (ba 0) bI)))))) bI)) bI))))) (e_ (lF (yW PySem.F.slot_list_append PySem.F.type_list_append jw (ba 3) (aW (jE mU B.tuple iz (aW (ba 5) bI)) bI))))))) (e_ (oN (jE mU B.tuple iz (aW (ba 3) bI))))))
def Vu:FS:=(a9 (bZ 2 (nw (ac (eI 0) aD))) (a9 (iC (fT (af 0)) (gi 3) (a9 (bZ 4 (nw aD)) (a9 (iC (fT (af 2)) (gi 5) (lK (jc (e2 (AM dw) (af 3) (af 1))) (gU (vc lV (af 4) (ac (nw (ac (e2 hV (af 5) (eI 2)) (ac (e2 da (e2 hV (af 5) (eI 2)) (eI 1)) aD))) aD))) (gU (vc lV (af 4) (ac (nw (ac (af 5) (ac (af 5) aD))) aD))))) (bZ 2 (af 4))))) (dS (af 2))))
def JL:List W->List al->R W:=fK 6 Vu
theorem Vv(F:lB K "own_numbers" "own_numbers" Rt f fd)  :fQ P w K mg base (iM P w) 1 f fd Vf (mF K mg 2 JL):=
 du (k:=0) F NO rfl λZ A z s H E R=>by have y:=NO;walk_at "w"
def Vx:FS:=(dS (bC eJ (ac (fS [cg,bi 0] (fT (cV 2 JL (ac (af 1) (ac (e2 b9 (af 0) (eI 0)) aD)))) (gi 0) jF (e2 b9 (e2 b9 (af 1) (eI 2)) (af 0))) aD)))
def JM:List W->List al->R W:=fK 2 Vx
theorem Vy(F:lB K "table_over" "table_over" Ru f fd)(B:Bl mg)(Wf:dG P w K mg base 1 "own_numbers" 2 JL):fQ P w K mg base (iM P w) 2 f fd Vg (mF K mg 2 JM):=
 du (k:=1) F NP rfl λZ A z s H E R=>by have y:=NP;walk_at "w"
def Vz:FS:=(dS (e2 da (fS [cg,bi 0] (bJ (ac (e2 da (af 0) (eI 1)) aD)) (gi 0) jF (fJ (ac (af 1) (ac (af 0) aD)))) (fS [cg,bi 0] (bJ (ac (af 0) aD)) (gi 0) jF (fJ (ac (af 0) (ac (af 1) aD))))))
def Gh:List W->List al->R W:=fK 1 Vz
theorem VA(F:lB K "pairs_with" "pairs_with" Rv f fd)(B:Bl mg) :fQ P w K mg base (iM P w) 1 f fd Vh (mF K mg 1 Gh):=
 du (k:=0) F NQ rfl λZ A z s H E R=>by have y:=NQ;walk_at "w"
def RB:FS:=(a9 (lK (jc (e2 oJ (af 0) (eC (.str [115,97,109,101])))) (dS (e2 b9 (af 1) (eI 0))) eK) (a9 (lK (jc (e2 oJ (af 0) (eC (.str [110,111,116])))) (dS (Cu (e2 b9 (af 1) (eI 0)))) eK) (a9 (lK (jc (e2 oJ (af 0) (eC (.str [97,110,100])))) (dS (xu (e2 b9 (af 1) (eI 0)) (e2 b9 (af 1) (eI 1)))) eK) (a9 (lK (jc (e2 oJ (af 0) (eC (.str [111,114])))) (dS (Tb (e2 b9 (af 1) (eI 0)) (e2 b9 (af 1) (eI 1)))) eK) (dS (e2 LK (e2 b9 (af 1) (eI 0)) (e2 b9 (af 1) (eI 1))))))))
def zG:List W->List al->R W:=fK 2 RB
theorem VB(F:lB K "says" "says" Rw f fd)  :fQ P w K mg base (iM P w) 1 f fd Vi (mF K mg 2 zG):=
 du (k:=0) F NR rfl λZ A z s H E R=>by have y:=NR;walk_at "w"
abbrev bK:qd:=(dq Bq).getD 1 (.Pass ⟨0,0,0,0⟩)
abbrev aL:Obj->Prop:=Ti "lead" "side_by_side.<locals>.lead" bK ["tables"]
theorem pT:zf ["letter","left","right","tables"] ["letter","left","right"] ["tables"] (aI bK):=⟨rfl,rfl,rfl,by decide +kernel,rfl,rfl,by decide +kernel,by decide +kernel,by decide +kernel,by decide +kernel,by decide +kernel⟩
def jK:FS:=(dS (bC eJ (ac (fS [cg,cg,cg,bi 0] (v_ (ac (af 3) (ac (af 1) (ac (af 2) aD)))) (yU 3 (dg (gi 0) (dg (gi 1) (dg (gi 2) j_)))) jF (e2 b9 (e2 b9 (e2 b9 (af 0) (af 3)) (af 1)) (af 2))) aD)))
def bq:List W->List al->R W:=fK 4 jK
theorem jy(B:Bl mg) :l6 P w K mg base 1 3 1 aL bq:=
 Io (k:=0) pT rfl rfl (λ_ _ _ _ _ d I=>by obtain⟨a,b,c,rfl⟩:=Vl I;rfl) λf W y A z s H E R=>(e_ (oN (jE mU B.tuple iz (aW (LZ (nm:=["table","one","other","letter"]) (cap:=[cg,cg,cg,bi 0]) (by first|rfl|kernel_rfl) (Mp B.zip (aW (ba 3) (aW (ba 1) (aW (ba 2) bI)))) (λ_ _ _ _ _=>(Cw rfl (nR (sC 0) (nR (sC 1) (nR (sC 2) yT))))) (λ_ _ _ _ _=>vd) (λ_ _ _ _ _=>(nQ (nQ (nQ (ba 0) (ba 3)) (ba 1)) (ba 2)))) bI))))
def Of:FS:=(a9 (iC (jf (af 0)) (gi 3) (iC (jf (af 0)) (gi 4) (iC (bJ (ac (af 2) aD)) (gi 5) (lK (jc (e2 (re cT) (nF 1 3 aL bq (ac (af 5) (ac (af 3) (ac (af 4) aD)))) (af 0))) (dS (eC (.bl dw))) eK)))) (dS (eC (.bl cT))))
def Ej:List W->List al->R W:=fK 6 Of
theorem RC(F:lB K "closed" "closed" IZ f fd)(B:Bl mg)(O:l6 P w K mg base 1 3 1 aL bq) :fQ P w K mg base (iM P w) 2 f fd NZ (mF K mg 3 Ej):=
 du (k:=1) F zz rfl λZ A z s H E R=>(cw (kW (wc (ba 0)) (sG 3 zz) (e_ (kW (wc (ba 0)) (sG 4 zz) (e_ (kW (iX B.range (aW (ba 2) bI)) (sG 5 zz) (e_ (vL (oI (nT R) (zc 1 O (D3 rfl) R #[0] (aW (ba 5) (aW (ba 3) (aW (ba 4) bI)))) (ba 0)) (e_ (oN Qn)) rX))))))) (e_ (oN Qn)))
def JN:FS:=(a9 (bZ 3 (nw (ac (af 0) aD))) (a9 (bZ 4 (zl (af 0) (eI 0))) (a9 (bZ 5 DU) (a9 (bZ 6 (cV 1 Bw (ac (bC e7 (ac (af 2) aD)) aD))) (a9 (bZ 7 (eI 0)) (a9 (nz (jc (e2 yR (af 7) (bC e7 (ac (af 3) aD)))) (a9 (gU (cV 2 C8 (ac (bC e7 (ac (af 3) aD)) (ac (af 2) aD)))) (a9 (iC (fT (cV 1 Gh (ac (af 7) aD))) (yU 2 (dg (gi 8) (dg (gi 9) j_))) (iC (bJ (ac (af 6) aD)) (gi 10) (a9 (bZ 11 (nF 1 3 aL bq (ac (af 10) (ac (e2 b9 (af 3) (af 8)) (ac (e2 b9 (af 3) (af 9)) aD))))) (a9 (lK (jc (e2 (re cT) (af 11) (af 4))) (a9 (AQ (af 4) (af 11) (bC e7 (ac (af 3) aD)) qp) (gU (vc dP (af 3) (ac (af 11) aD)))) eK) (AQ (af 5) (fJ (ac (af 10) (ac (af 8) (ac (af 9) aD)))) (e2 CI (af 4) (af 11)) qp))))) (bZ 7 (e2 da (af 7) (eI 1)))))) (a9 (bZ 12 (uk 3 JK dv 2 108 ⟨79,42,79,96⟩ "grown.<locals>.<lambda>" [5] (af 6) (bC e7 (ac (af 3) aD)))) (dS (fJ (ac (af 3) (ac (af 12) aD)))))))))))
def uN:List W->List al->R W:=fK 13 JN
theorem RD(F:lB K "grown" "grown" wD f fd)(Tc:UV K fd 108)(Bk:sP base mg)(B:Bl mg)(O:l6 P w K mg base 1 3 1 aL bq)(Kt:dG P w K mg base 3 "check_entries" 2 C8)(Ss:dG P w K mg base 1 "pairs_with" 1 Gh)(S9:dG P w K mg base 2 "table_by" 3 JK)(Dq:dG P w K mg base 1 "two_to" 1 Bw):fQ P w K mg base (iM P w) 4 f fd NT (mF K mg 3 uN):=
 Tc.elim λd y=>DP (k:=3) F kX rfl λZ A z s H E U R=>(cw (sS 3 kX (uH (aW (ba 0) bI))) (cw (sS 4 kX (MC R (ba 0) iN)) (cw (sS 5 kX HN) (cw (sS 6 kX (rD Dq R #[0] (aW (gX qj B.len je (aW (ba 2) bI)) bI))) (cw (sS 7 kX iN) (cw (AS (oI w_lt (ba 7) (gX qj B.len je (aW (ba 3) bI))) (cw (lF (rD Kt R #[0] (aW (gX qj B.len je (aW (ba 3) bI)) (aW (ba 2) bI)))) (cw (kW (yY (rD Ss R #[0] (aW (ba 7) bI))) (Cw rfl (nR (sG 8 kX) (nR (sG 9 kX) yT))) (e_ (kW (iX B.range (aW (ba 6) bI)) (sG 10 kX) (cw (sS 11 kX (zc 1 O (D3 rfl) R #[0] (aW (ba 10) (aW (nQ (ba 3) (ba 8)) (aW (nQ (ba 3) (ba 9)) bI))))) (cw (vL (oI (nT R) (ba 11) (ba 4)) (cw (Cy (CG R) (gX qj B.len je (aW (ba 3) bI)) (ba 4) (ba 11)) (e_ (lF (yW PySem.F.slot_list_append PySem.F.type_list_append jw (ba 3) (aW (ba 11) bI))))) rX) (e_ (Cy (CG R) (NE R (ba 4) (ba 11)) (ba 5) (xY (aW (ba 10) (aW (ba 8) (aW (ba 9) bI))))))))))) (e_ (sS 7 kX (t9 vK (ba 7) iN)))))) (cw (sS 12 kX (Iy (j:=2) (xs:=["leads"]) S9 R #[0] (ba 6) (gX qj B.len je (aW (ba 3) bI)) (U.symm.trans y.1) y.2.1 Bk rfl (.cons rfl .nil))) (e_ (oN (xY (aW (ba 3) (aW (ba 12) bI))))))))))))
def XB:FS:=(bZ 2 (fS [cg,bi 1] (fT (af 0)) (gi 0) jF (cV 2 JM (ac (af 0) (ac (af 1) aD)))))
def fV:List W->List al->R (List W):=Ie 4 XB [2] 3 1 98 ⟨58,4,59,99⟩ "side_by_side.<locals>.lead"
theorem VC(F:lB K "side_by_side" "side_by_side" Bq f fd)(Tc:UV K fd 98)(Bk:sP base mg) (Sw:dG P w K mg base 2 "table_over" 2 JM):fQ P w K mg base (iM P w) 3 f fd Vj (WL K mg 2 aL fV):=
 Tc.elim λd B=>QT (k:=2) (m:=0) (s1:=(dq Bq).getD 0 (.Pass ⟨0,0,0,0⟩)) (dst:=bK) F IM rfl rfl (λZ A z s H E U R=>⟨(sS 2 IM (CA (nm:=["machine","names"]) (cap:=[cg,bi 1]) (by first|rfl|kernel_rfl) rfl (yY (ba 0)) (λ_ _ _ _ _=>(sC 0)) (λ_ _ _ _ _=>vd) (λ_ _ _ _ _=>(rD Sw R #[0] (aW (ba 0) (aW (ba 1) bI)))))),Im (st:=bK) (U.symm.trans B.1) B.2.1 Bk rfl IM.nd,⟨_,rfl⟩,rfl,.cons rfl (.nil)⟩) (by kernel_rfl) (by kernel_rfl) rfl (by first|exact Or.inl rfl|exact Zv (Or.inl rfl))
def Og:FS:=(dS (fS [cg,cg] (rZ (ac (af 0) (ac (af 1) aD))) (yU 2 (dg (gi 0) (dg (gi 1) j_))) jF (e2 b9 (e2 b9 (af 0) (eI 1)) (af 1))))
def uO:List W->List al->R W:=fK 2 Og
theorem RE(F:lB K "goods_of" "goods_of" IN f fd)(B:Bl mg) :fQ P w K mg base (iM P w) 1 f fd NS (mF K mg 2 uO):=
 du (k:=0) F IP rfl λZ A z s H E R=>by have y:=IP;walk_at "w"
def Oh:FS:=(a9 (bZ 3 (cV 1 Ge (ac (e2 da (e2 b9 (af 1) (eI 0)) (e2 b9 (af 2) (eI 0))) aD))) (a9 (gU (cV 2 C8 (ac (eI 1) (ac (af 3) aD)))) (a9 (bZ 4 (fJ (ac (af 1) (ac (af 2) aD)))) (a9 (bZ 5 (ul uN (fJ (ac (eI 0) (ac (eI 0) aD))) 2 aL fV (ac (af 4) (ac (af 3) aD)) (af 3))) (a9 (bZ 6 (bC eJ (ac (fS [cg,bi 0,bi 4] (fT (e2 b9 (af 5) (eI 0))) (gi 0) jF (cV 2 zG (ac (af 1) (ac (cV 2 uO (ac (af 2) (ac (af 0) aD))) aD)))) aD))) (dS (fJ (ac (e2 b9 (af 5) (eI 0)) (ac (fJ (ac (af 3) (ac (af 6) (ac (e2 b9 (af 5) (eI 1)) aD)))) aD)))))))))
def Ek:List W->List al->R W:=fK 7 Oh
theorem RF(F:lB K "coupled" "coupled" IQ f fd)(B:Bl mg)(Kt:dG P w K mg base 3 "check_entries" 2 C8)(EU:dG P w K mg base 1 "goods_of" 2 uO)(OZ:dG P w K mg base 4 "grown" 3 uN)(M7:dG P w K mg base 1 "in_order" 1 Ge)(Na:dG P w K mg base 1 "says" 2 zG)(Ng:xy P w K mg base 3 "side_by_side" 2 aL fV):fQ P w K mg base (iM P w) 5 f fd NU (mF K mg 3 Ek):=
 du (k:=4) F IR rfl λZ A z s H E R=>by have y:=IR;walk_at "w"
def Oi:FS:=(a9 (bZ 2 (cV 3 Ek (ac (eC (.str [97,112,97,114,116])) (ac (af 0) (ac (af 1) aD))))) (a9 (lK (jc (bC yj (ac (e2 b9 (e2 b9 (af 2) (eI 1)) (eI 1)) aD))) (dS (eC .non)) eK) (dS (bC eJ (ac (bC r9 (ac (e2 b9 (af 2) (eI 0)) aD)) aD)))))
def El:List W->List al->R W:=fK 3 Oi
theorem RG(F:lB K "alike_rows" "alike_rows" IS f fd)(B:Bl mg)(OU:dG P w K mg base 5 "coupled" 3 Ek):fQ P w K mg base (iM P w) 6 f fd NV (mF K mg 2 El):=
 du (k:=5) F IT rfl λZ A z s H E R=>by have y:=IT;walk_at "w"
def JO:FS:=(a9 (lK (jc (e2 Nu (bC e7 (ac (af 1) aD)) (eC oT))) (y6 "TooGreat") eK) (lK (jc (e2 Nu (cV 2 Gf (ac (bC e7 (ac (af 0) aD)) (ac (af 1) aD))) (eC oU))) (y6 "TooGreat") eK))
def Em:List W->List al->R W:=fK 2 JO
theorem RH(F:lB K "check_looks" "check_looks" IU f fd)(B:Bl mg)(G:Gc K mg)(C:P3 K mg)(GJ:dG P w K mg base 2 "entries_many" 2 Gf):fQ P w K mg base (iM P w) 3 f fd NW (mF K mg 2 Em):=
 du (k:=2) F Ry rfl λZ A z s H E R=>(cw (vL (oI AK (gX qj B.len je (aW (ba 1) bI)) (Fw G.MOST_NAMES)) (e_ (vV C.TooGreat)) rX) (e_ (vL (oI AK (rD GJ R #[0] (aW (gX qj B.len je (aW (ba 0) bI)) (aW (ba 1) bI))) (Fw G.MOST_LOOKS)) (e_ (vV C.TooGreat)) rX)))
def Oj:FS:=(dS (vQ FL yR (eI 0) (af 1) (bC e7 (ac (e2 b9 (af 0) (eI 1)) aD))))
def Bx:List W->List al->R W:=fK 2 Oj
theorem RI(F:lB K "is_room" "is_room" IV f fd)(B:Bl mg) :fQ P w K mg base (iM P w) 1 f fd NX (mF K mg 2 Bx):=
 du (k:=0) F IW rfl λZ A z s H E R=>by have y:=IW;walk_at "w"
def Ol:FS:=(dS (bC y4 (ac (fS [cg,cg] (rZ (ac (af 0) (ac (af 1) aD))) (yU 2 (dg (gi 0) (dg (gi 1) j_))) jF (cV 2 Bx (ac (af 0) (ac (af 1) aD)))) aD)))
def By:List W->List al->R W:=fK 2 Ol
theorem RJ(F:lB K "all_rooms" "all_rooms" IX f fd)(B:Bl mg)(OR:dG P w K mg base 1 "is_room" 2 Bx):fQ P w K mg base (iM P w) 2 f fd NY (mF K mg 2 By):=
 du (k:=1) F IY rfl λZ A z s H E R=>by have y:=IY;walk_at "w"
def Om:FS:=(dS (e2 oJ (e2 b9 (e2 b9 (af 2) (eI 1)) (e2 b9 (af 3) (LR (eI 1)))) (cV 2 zG (ac (af 0) (ac (cV 2 uO (ac (af 1) (ac (af 3) aD))) aD)))))
def Bz:List W->List al->R W:=fK 4 Om
theorem RL(F:lB K "says_so" "says_so" I_ f fd) (EU:dG P w K mg base 1 "goods_of" 2 uO)(Na:dG P w K mg base 1 "says" 2 zG):fQ P w K mg base (iM P w) 2 f fd N0 (mF K mg 4 Bz):=
 du (k:=1) F Ja rfl λZ A z s H E R=>by have y:=Ja;walk_at "w"
def On:FS:=(a9 (bZ 4 (e2 da (af 1) (fJ (ac (af 2) aD)))) (a9 (bZ 5 (cV 1 Ge (ac (GL mV (eC (.str [])) (ac (fS [cg] (fT (af 4)) (gi 0) jF (e2 b9 (af 0) (eI 0))) aD)) aD))) (a9 (gU (cV 2 Em (ac (af 3) (ac (af 5) aD)))) (a9 (bZ 6 DU) (a9 (iC (fT (af 3)) (gi 7) (AQ (af 6) (af 7) (eC (.bl cT)) qp)) (a9 (lK (KN (jc (bC y4 (ac (fS [cg,bi 4] (jf (af 6)) (gi 0) jF (cV 2 By (ac (af 1) (ac (af 0) aD)))) aD)))) (dS (eC (.bl dw))) eK) (a9 (lK (jc (e2 (re cT) (e2 A8 (fJ (ac (eI 0) aD)) (bC e7 (ac (af 4) aD))) (af 6))) (dS (eC (.bl dw))) eK) (a9 (lK (KN (jc (bC y4 (ac (fS [cg,bi 0,bi 1,bi 2] (jf (af 6)) (gi 0) jF (cV 4 Bz (ac (af 1) (ac (af 2) (ac (af 3) (ac (af 0) aD)))))) aD)))) (dS (eC (.bl dw))) eK) (dS (A7 Ej (af 6) 2 aL fV (ac (af 4) (ac (af 5) aD)) (cV 1 Bw (ac (bC e7 (ac (af 5) aD)) aD))))))))))))
def yn:List W->List al->R W:=fK 8 On
theorem RM(F:lB K "shown" "shown" Jb f fd)(B:Bl mg)(O':dG P w K mg base 2 "all_rooms" 2 By)(OK:dG P w K mg base 3 "check_looks" 2 Em)(O0:dG P w K mg base 2 "closed" 3 Ej)(M7:dG P w K mg base 1 "in_order" 1 Ge)(OT:dG P w K mg base 2 "says_so" 4 Bz)(Ng:xy P w K mg base 3 "side_by_side" 2 aL fV)(Dq:dG P w K mg base 1 "two_to" 1 Bw):fQ P w K mg base (iM P w) 4 f fd N1 (mF K mg 4 yn):=
 du (k:=3) F Jc rfl λZ A z s H E R=>by have y:=Jc;walk_at "w"
def VD:FS:=(a9 (lK (jc (e2 oJ (bC e7 (ac (af 0) aD)) (eI 0))) (dS (eI 0)) eK) (dS (e2 b9 (af 0) (e2 fZ (af 1) (bC e7 (ac (af 0) aD))))))
def m_:List W->List al->R W:=fK 2 VD
theorem RN(F:lB K "_law_cell" "_law_cell" Jd f fd)(B:Bl mg) :fQ P w K mg base (iM P w) 1 f fd N2 (mF K mg 2 m_):=
 du (k:=0) F Je rfl λZ A z s H E R=>by have y:=Je;walk_at "w"
def VE:FS:=(a9 (bZ 3 (e2 fZ (e2 hV (e2 da (e2 da (e2 da (af 0) (e2 hV (e2 hV (eI 7) (af 1)) (af 1))) (e2 hV (eI 13) (af 1))) (af 2)) (eI 69621)) (eI 2147483647))) (dS (e2 fZ (e2 hV (e2 fZ (e2 da (e2 da (e2 hV (af 3) (e2 da (e2 uI (af 3) (eI 1009)) (eI 3))) (e2 hV (eI 31) (af 1))) (af 2)) (eI 2147483629)) (eI 48271)) (eI 1000000007))))
def BA:List W->List al->R W:=fK 4 VE
theorem RO(F:lB K "_law_mixed" "_law_mixed" Jf f fd)  :fQ P w K mg base (iM P w) 1 f fd N3 (mF K mg 3 BA):=
 du (k:=0) F Jg rfl λZ A z s H E R=>by have y:=Jg;walk_at "w"
def Oo:FS:=(a9 (bZ 3 (nw aD)) (a9 (bZ 4 (eI 0)) (a9 (lK (jc (e2 X8 (af 0) (e2 UD (eI 10) (eI 18)))) (bZ 4 (af 0)) eK) (a9 (iC (bJ (ac (af 1) aD)) (gi 5) (lK (jc (e2 Nu (af 4) (eI 0))) (a9 (gU (vc dP (af 3) (ac (e2 fZ (af 4) (eI 64)) aD))) (bZ 4 (e2 uI (af 4) (eI 64)))) (gU (vc dP (af 3) (ac (cV 3 BA (ac (af 0) (ac (af 5) (ac (af 2) aD)))) aD))))) (dS (af 3))))))
def ng:List W->List al->R W:=fK 6 Oo
theorem RP(F:lB K "_law_draws" "_law_draws" Jh f fd)(B:Bl mg)(OO:dG P w K mg base 1 "_law_mixed" 3 BA):fQ P w K mg base (iM P w) 2 f fd N4 (mF K mg 3 ng):=
 du (k:=1) F Ji rfl λZ A z s H E R=>by have y:=Ji;walk_at "w"
def BB(V4:List W->List al->R W):FS:=(a9 (lK (jc (vU "tuple" (af 1))) (a9 (lK (Qq (KN (jc (vU "tuple" (af 0)))) (jc (e2 LK (bC e7 (ac (af 0) aD)) (bC e7 (ac (af 1) aD))))) (dS (eC (.bl dw))) eK) (a9 (iC (bJ (ac (bC e7 (ac (af 1) aD)) aD)) (gi 2) (lK (KN (jc (cV 2 V4 (ac (e2 b9 (af 0) (af 2)) (ac (e2 b9 (af 1) (af 2)) aD))))) (dS (eC (.bl dw))) eK)) (dS (eC (.bl cT))))) eK) (a9 (lK (jc (AH (af 1))) (dS (AH (af 0))) eK) (a9 (lK (jc (vU "bool" (af 1))) (dS (xu (vU "bool" (af 0)) (e2 oJ (af 0) (af 1)))) eK) (a9 (lK (jc (vU "int" (af 1))) (dS (xu (vU "int" (af 0)) (xu (Cu (vU "bool" (af 0))) (e2 oJ (af 0) (af 1))))) eK) (dS (xu (vU "str" (af 0)) (e2 oJ (af 0) (af 1))))))))
def ly:Nat->List W->List al->R W
 |0=>λ_ _=>.bad
 |k+1=>fK 3 (BB (ly k))
theorem En{Ku:i0}{SY:Zl}(J:lB K "_law_same" "_law_same" Jj Ku SY)(B6:mg "_law_same"=bi (.ref Ku))(B:Bl mg) :∀k:Nat,dG P w K mg base (0+k) "_law_same" 2 (ly k)
 |0=>HK (ps:=Jk) J B6 rfl (λ_ _ _ _ _ _ d I=>by obtain⟨a,b,rfl⟩:=Rz I;rfl)
 |k+1=>by have Ky:=En J B6 B  k;exact u_ (ps:=Jk) J B6 rfl (λ_ _ _ _ _ _ d I=>by obtain⟨a,b,rfl⟩:=Rz I;rfl) (du (k:=0+k) J Jl rfl λZ A z s H E R=>by have y:=Jl;walk_at "w")
def Op:FS:=(a9 (bZ 3 (eC (.str [65,66,67,68,69,70,71,72,73,74,75,76,77,78,79,80,81,82,83,84,85,86,87,88,89,90,97,98,99,100,101,102,103,104,105,106,107,108,109,110,111,112,113,114,115,116,117,118,119,120,121,122]))) (a9 (bZ 4 (eC (.str []))) (a9 (iC (fT (cV 3 ng (ac (af 0) (ac (af 1) (ac (af 2) aD))))) (gi 5) (a9 (bZ 6 (e2 fZ (af 5) (bC e7 (ac (af 3) aD)))) (a9 (bZ 4 (e2 da (af 4) (e2 b9 (af 3) (af 6)))) (bZ 3 (e2 da (xw (af 3) jD (i5 (af 6))) (xw (af 3) (i5 (e2 da (af 6) (eI 1))) jD)))))) (dS (af 4)))))
def yo:List W->List al->R W:=fK 7 Op
theorem RQ(F:lB K "_law_pool" "_law_pool" Jm f fd)(B:Bl mg)(V:dG P w K mg base 2 "_law_draws" 3 ng):fQ P w K mg base (iM P w) 3 f fd N5 (mF K mg 3 yo):=
 du (k:=2) F Jn rfl λZ A z s H E R=>by have y:=Jn;walk_at "w"
def Oq:FS:=(dS (GL mV (eC (.str [])) (ac (bC lW (ac (fS [cg,bi 0,bi 1] (bJ (ac (bC e7 (ac (af 0) aD)) aD)) (gi 0) (jc (e2 oJ (e2 vJ (e2 AJ (af 2) (af 0)) (eI 1)) (eI 1))) (e2 b9 (af 1) (af 0))) aD)) aD)))
def BC:List W->List al->R W:=fK 2 Oq
theorem RR(F:lB K "_law_marks" "_law_marks" Jo f fd)(B:Bl mg) :fQ P w K mg base (iM P w) 1 f fd N6 (mF K mg 2 BC):=
 du (k:=0) F Jp rfl λZ A z s H E R=>by have y:=Jp;walk_at "w"
def Os:FS:=(a9 (bZ 4 (bC eJ (ac (fS [cg,bi 3] (bJ (ac (af 1) aD)) (gi 0) jF (e2 oJ (e2 fZ (e2 b9 (af 1) (af 0)) (eI 2)) (eI 1))) aD))) (a9 (bZ 5 (nw aD)) (a9 (bZ 6 (af 1)) (a9 (iC (bJ (ac (e2 yQ (eI 1) (bC e7 (ac (af 0) aD))) aD)) (gi 7) (a9 (bZ 8 (nw aD)) (a9 (iC (bJ (ac (af 1) aD)) (gi 9) (a9 (gU (vc dP (af 8) (ac (bC eJ (ac (fS [cg,bi 2,bi 3,bi 6] (bJ (ac (af 1) aD)) (gi 0) jF (e2 fZ (e2 b9 (af 2) (e2 da (af 3) (af 0))) (af 1))) aD)) aD))) (bZ 6 (e2 da (af 6) (af 1))))) (gU (vc dP (af 5) (ac (bC eJ (ac (af 8) aD)) aD)))))) (dS (fJ (ac (af 0) (ac (af 4) (ac (bC eJ (ac (af 5) aD)) aD)))))))))
def uP:List W->List al->R W:=fK 10 Os
theorem RT(F:lB K "_law_machine" "_law_machine" Jq f fd)(B:Bl mg) :fQ P w K mg base (iM P w) 1 f fd N7 (mF K mg 4 uP):=
 du (k:=0) F Jr rfl λZ A z s H E R=>by have y:=Jr;walk_at "w"
def Ot:FS:=(a9 (bZ 2 (eI 0)) (a9 (iC (fT (af 0)) (gi 3) (bZ 2 (e2 da (e2 hV (eI 2) (af 2)) (bC HD (ac (e2 (AM dw) (af 3) (af 1)) aD))))) (dS (af 2))))
def wI:List W->List al->R W:=fK 4 Ot
theorem RU(F:lB K "_law_letter" "_law_letter" Js f fd)(B:Bl mg) :fQ P w K mg base (iM P w) 1 f fd N8 (mF K mg 2 wI):=
 du (k:=0) F Jt rfl λZ A z s H E R=>by have y:=Jt;walk_at "w"
def Ou:FS:=(dS (GL mV (eC (.str [])) (ac (fS [cg,bi 0,bi 1] (bJ (ac (bC e7 (ac (af 0) aD)) aD)) (gi 0) (jc (e2 oJ (e2 vJ (e2 AJ (af 2) (e2 Cv (e2 Cv (bC e7 (ac (af 1) aD)) (eI 1)) (af 0))) (eI 1)) (eI 1))) (e2 b9 (af 1) (af 0))) aD)))
def yp:List W->List al->R W:=fK 2 Ou
theorem RV(F:lB K "_law_some_marks" "_law_some_marks" Ju f fd)(B:Bl mg) :fQ P w K mg base (iM P w) 1 f fd N9 (mF K mg 2 yp):=
 du (k:=0) F Jv rfl λZ A z s H E R=>by have y:=Jv;walk_at "w"
def Ov:FS:=(a9 (bZ 2 (GL mV (eC (.str [])) (ac (bC lW (ac (e2 da (e2 b9 (af 0) (eI 0)) (af 1)) aD)) aD))) (a9 (bZ 3 (nw aD)) (a9 (iC (bJ (ac (e2 yQ (eI 1) (bC e7 (ac (af 2) aD))) aD)) (gi 4) (gU (vc dP (af 3) (ac (e2 b9 (e2 b9 (af 0) (eI 2)) (cV 2 wI (ac (e2 b9 (af 0) (eI 0)) (ac (cV 2 yp (ac (af 2) (ac (af 4) aD))) aD)))) aD)))) (dS (fJ (ac (af 2) (ac (e2 b9 (af 0) (eI 1)) (ac (bC eJ (ac (af 3) aD)) aD))))))))
def Eo:List W->List al->R W:=fK 5 Ov
theorem RW(F:lB K "_law_wide" "_law_wide" Jw f fd)(B:Bl mg)(I:dG P w K mg base 1 "_law_letter" 2 wI)(B8:dG P w K mg base 1 "_law_some_marks" 2 yp):fQ P w K mg base (iM P w) 2 f fd N_ (mF K mg 2 Eo):=
 du (k:=1) F Jx rfl λZ A z s H E R=>by have y:=Jx;walk_at "w"
def Ow:FS:=(a9 (bZ 5 (e2 b9 (e2 b9 (af 0) (eI 2)) (af 1))) (a9 (bZ 6 (e2 da (e2 da (xw (e2 b9 (af 5) (af 2)) jD (i5 (af 3))) (fJ (ac (af 4) aD))) (xw (e2 b9 (af 5) (af 2)) (i5 (e2 da (af 3) (eI 1))) jD))) (a9 (bZ 5 (e2 da (e2 da (xw (af 5) jD (i5 (af 2))) (fJ (ac (af 6) aD))) (xw (af 5) (i5 (e2 da (af 2) (eI 1))) jD))) (dS (fJ (ac (e2 b9 (af 0) (eI 0)) (ac (e2 b9 (af 0) (eI 1)) (ac (e2 da (e2 da (xw (e2 b9 (af 0) (eI 2)) jD (i5 (af 1))) (fJ (ac (af 5) aD))) (xw (e2 b9 (af 0) (eI 2)) (i5 (e2 da (af 1) (eI 1))) jD)) aD))))))))
def Ep:List W->List al->R W:=fK 7 Ow
theorem RX(F:lB K "_law_changed" "_law_changed" Jy f fd)  :fQ P w K mg base (iM P w) 1 f fd N' (mF K mg 5 Ep):=
 du (k:=0) F Jz rfl λZ A z s H E R=>by have y:=Jz;walk_at "w"
def Ox:FS:=(a9 (bZ 3 (bC e7 (ac (e2 b9 (af 0) (eI 1)) aD))) (a9 (bZ 4 (e2 Cv (e2 hV (eI 2) (af 3)) (eI 1))) (a9 (bZ 5 (e2 da (e2 b9 (af 0) (eI 1)) (xw (e2 b9 (af 0) (eI 1)) (i5 (eI 1)) jD))) (a9 (bZ 6 (e2 da (bC ue (ac (af 3) aD)) (bC qL (ac (eI 1) (ac (af 3) aD))))) (a9 (bZ 7 (nw aD)) (a9 (bZ 8 (eI 0)) (a9 (iC (fT (e2 b9 (af 0) (eI 2))) (gi 9) (a9 (bZ 10 (nw aD)) (a9 (iC (bJ (ac (af 4) aD)) (gi 11) (a9 (bZ 12 (nw aD)) (a9 (iC (bJ (ac (af 4) aD)) (gi 13) (a9 (bZ 14 (e2 b9 (e2 b9 (af 9) (e2 b9 (af 6) (af 11))) (e2 b9 (af 6) (af 13)))) (a9 (lK (Qp (jc (e2 Nu (af 14) (eI 0))) (jc (e2 oJ (e2 fZ (e2 b9 (af 1) (e2 fZ (af 8) (bC e7 (ac (af 1) aD)))) (af 2)) (eI 1)))) (bZ 14 (e2 Cv (e2 da (af 14) (af 3)) (eI 1))) eK) (a9 (gU (vc dP (af 12) (ac (af 14) aD))) (bZ 8 (e2 da (af 8) (eI 1))))))) (gU (vc dP (af 10) (ac (bC eJ (ac (af 12) aD)) aD)))))) (gU (vc dP (af 7) (ac (bC eJ (ac (af 10) aD)) aD)))))) (dS (fJ (ac (e2 b9 (af 0) (eI 0)) (ac (af 5) (ac (bC eJ (ac (af 7) aD)) aD))))))))))))
def Er:List W->List al->R W:=fK 15 Ox
theorem RY(F:lB K "_law_doubled" "_law_doubled" JA f fd)(B:Bl mg) :fQ P w K mg base (iM P w) 1 f fd Oa (mF K mg 3 Er):=
 du (k:=0) F jl rfl λZ A z s H E R=>(cw (sS 3 jl (gX qj B.len je (aW (nQ (ba 0) iN) bI))) (cw (sS 4 jl (t9 Hw (t9 uc iN (ba 3)) iN)) (cw (sS 5 jl (t9 vK (nQ (ba 0) iN) (UJ (nQ (ba 0) iN) (DM iN) DL))) (cw (sS 6 jl (t9 vK (Mh R B.list B.range (aW (ba 3) bI)) (IA R B.list B.range (aW iN (aW (ba 3) bI))))) (cw (sS 7 jl (uH bI)) (cw (sS 8 jl iN) (cw (kW (yY (nQ (ba 0) iN)) (sG 9 jl) (cw (sS 10 jl (uH bI)) (cw (kW (iX B.range (aW (ba 4) bI)) (sG 11 jl) (cw (sS 12 jl (uH bI)) (cw (kW (iX B.range (aW (ba 4) bI)) (sG 13 jl) (cw (sS 14 jl (nQ (nQ (ba 9) (nQ (ba 6) (ba 11))) (nQ (ba 6) (ba 13)))) (cw (vL (Qs (Ct (oI AK (ba 14) iN) (DE (oI (HC R) (t9 Hy (nQ (ba 1) (t9 Hy (ba 8) (gX qj B.len je (aW (ba 1) bI)))) (ba 2)) iN)))) (e_ (sS 14 jl (t9 Hw (t9 vK (ba 14) (ba 3)) iN))) rX) (cw (lF (yW PySem.F.slot_list_append PySem.F.type_list_append jw (ba 12) (aW (ba 14) bI))) (e_ (sS 8 jl (t9 vK (ba 8) iN))))))) (e_ (lF (yW PySem.F.slot_list_append PySem.F.type_list_append jw (ba 10) (aW (jE mU B.tuple iz (aW (ba 12) bI)) bI))))))) (e_ (lF (yW PySem.F.slot_list_append PySem.F.type_list_append jw (ba 7) (aW (jE mU B.tuple iz (aW (ba 10) bI)) bI))))))) (e_ (oN (xY (aW (nQ (ba 0) iN) (aW (ba 5) (aW (jE mU B.tuple iz (aW (ba 7) bI)) bI)))))))))))))
def Oy:FS:=(a9 (bZ 1 (cV 3 yo (ac (cV 2 m_ (ac (af 0) (ac (eI 0) aD))) (ac (eI 4) (ac (eI 100003) aD))))) (a9 (bZ 2 (cV 3 ng (ac (cV 2 m_ (ac (af 0) (ac (eI 1) aD))) (ac (eI 10) (ac (eI 200017) aD))))) (a9 (bZ 3 (e2 da (eI 1) (e2 fZ (e2 b9 (af 2) (eI 1)) (eI 4)))) (a9 (bZ 4 (cV 2 BC (ac (xw (af 1) jD (i5 (eI 2))) (ac (e2 fZ (e2 b9 (af 2) (eI 2)) (eI 4)) aD)))) (a9 (bZ 5 (cV 4 uP (ac (af 4) (ac (af 3) (ac (af 3) (ac (cV 3 ng (ac (cV 2 m_ (ac (af 0) (ac (eI 2) aD))) (ac (eI 68) (ac (eI 300007) aD)))) aD)))))) (a9 (bZ 6 (cV 3 ng (ac (cV 2 m_ (ac (af 0) (ac (eI 3) aD))) (ac (eI 196) (ac (eI 400009) aD))))) (a9 (bZ 7 (cV 3 Er (ac (af 5) (ac (af 6) (ac (e2 da (eI 2) (e2 fZ (e2 b9 (af 2) (eI 6)) (eI 2))) aD))))) (a9 (bZ 8 (bC e7 (ac (e2 b9 (af 7) (eI 1)) aD))) (a9 (lK (jc (e2 oJ (e2 fZ (e2 b9 (af 2) (eI 0)) (eI 6)) (eI 2))) (a9 (bZ 9 (e2 fZ (e2 b9 (af 2) (eI 7)) (bC e7 (ac (e2 b9 (af 7) (eI 2)) aD)))) (a9 (bZ 10 (e2 fZ (e2 b9 (af 2) (eI 5)) (af 8))) (bZ 7 (cV 5 Ep (ac (af 7) (ac (af 9) (ac (e2 fZ (e2 b9 (af 2) (eI 8)) (af 8)) (ac (e2 fZ (e2 b9 (af 2) (eI 9)) (af 8)) (ac (af 10) aD))))))))) eK) (a9 (lK (jc (e2 oJ (e2 fZ (e2 b9 (af 2) (eI 0)) (eI 6)) (eI 3))) (a9 (bZ 4 (cV 2 BC (ac (xw (af 1) (i5 (e2 fZ (e2 b9 (af 2) (eI 3)) (eI 3))) (i5 (e2 da (e2 fZ (e2 b9 (af 2) (eI 3)) (eI 3)) (eI 2)))) (ac (e2 fZ (e2 b9 (af 2) (eI 4)) (eI 4)) aD)))) (a9 (bZ 3 (e2 da (eI 1) (e2 fZ (e2 b9 (af 2) (eI 5)) (eI 4)))) (bZ 7 (cV 4 uP (ac (af 4) (ac (af 3) (ac (af 3) (ac (af 6) aD)))))))) eK) (a9 (lK (jc (e2 oJ (e2 fZ (e2 b9 (af 2) (eI 0)) (eI 6)) (eI 4))) (bZ 7 (cV 2 Eo (ac (af 7) (ac (e2 b9 (af 1) (eI 2)) aD)))) eK) (a9 (lK (jc (e2 oJ (e2 fZ (e2 b9 (af 2) (eI 0)) (eI 6)) (eI 5))) (a9 (bZ 11 (e2 fZ (e2 b9 (af 2) (eI 7)) (af 8))) (bZ 7 (fJ (ac (e2 b9 (af 7) (eI 0)) (ac (e2 da (e2 da (xw (e2 b9 (af 7) (eI 1)) jD (i5 (af 11))) (fJ (ac (Cu (e2 b9 (e2 b9 (af 7) (eI 1)) (af 11))) aD))) (xw (e2 b9 (af 7) (eI 1)) (i5 (e2 da (af 11) (eI 1))) jD)) (ac (e2 b9 (af 7) (eI 2)) aD)))))) eK) (a9 (lK (jc (e2 oJ (e2 fZ (e2 uI (e2 b9 (af 2) (eI 3)) (eI 3)) (eI 2)) (eI 1))) (dS (fJ (ac (af 7) (ac (af 5) aD)))) eK) (dS (fJ (ac (af 5) (ac (af 7) aD)))))))))))))))))
def BD:List W->List al->R W:=fK 12 Oy
theorem RZ(F:lB K "_law_two" "_law_two" JB f fd)(B:Bl mg)(d:dG P w K mg base 1 "_law_cell" 2 m_)(ON:dG P w K mg base 1 "_law_changed" 5 Ep)(OV:dG P w K mg base 1 "_law_doubled" 3 Er)(V:dG P w K mg base 2 "_law_draws" 3 ng)(EX:dG P w K mg base 1 "_law_machine" 4 uP)(OS:dG P w K mg base 1 "_law_marks" 2 BC)(EZ:dG P w K mg base 3 "_law_pool" 3 yo)(O9:dG P w K mg base 2 "_law_wide" 2 Eo):fQ P w K mg base (iM P w) 4 f fd Ob (mF K mg 1 BD):=
 du (k:=3) F JC rfl λZ A z s H E R=>by have y:=JC;walk_at "w"
def Oz:FS:=(a9 (bZ 1 (cV 3 ng (ac (cV 2 m_ (ac (af 0) (ac (eI 5) aD))) (ac (eI 60) (ac (eI 600011) aD))))) (a9 (bZ 2 (e2 da (eI 36) (e2 fZ (e2 b9 (af 1) (eI 0)) (eI 15)))) (a9 (bZ 3 (nw aD)) (a9 (iC (bJ (ac (af 2) aD)) (gi 4) (gU (vc dP (af 3) (ac (bC eJ (ac (fS [cg,bi 1,bi 4] (bJ (ac (af 2) aD)) (gi 0) jF (e2 fZ (e2 b9 (af 1) (e2 da (eI 1) (e2 fZ (e2 da (e2 da (e2 hV (eI 3) (af 2)) (af 0)) (e2 hV (eI 9) (e2 uI (bC FD (ac (af 2) (ac (af 0) aD))) (eI 3)))) (eI 50)))) (eI 3))) aD)) aD)))) (a9 (bZ 5 (bC eJ (ac (fS [cg,bi 1] (bJ (ac (af 2) aD)) (gi 0) jF (e2 oJ (e2 fZ (e2 b9 (af 1) (e2 da (eI 51) (e2 fZ (af 0) (eI 3)))) (eI 2)) (eI 1))) aD))) (a9 (bZ 6 (cV 3 yo (ac (cV 2 m_ (ac (af 0) (ac (eI 0) aD))) (ac (eI 4) (ac (eI 100003) aD))))) (a9 (bZ 7 (GL mV (eC (.str [])) (ac (bC lW (ac (xw (af 6) jD (i5 (eI 3))) aD)) aD))) (a9 (bZ 8 (e2 da (eI 1) (e2 fZ (e2 b9 (af 1) (eI 54)) (eI 2)))) (a9 (bZ 9 (cV 4 uP (ac (af 7) (ac (af 8) (ac (af 8) (ac (cV 3 ng (ac (cV 2 m_ (ac (af 0) (ac (eI 6) aD))) (ac (eI 34) (ac (eI 700001) aD)))) aD)))))) (a9 (lK (jc (e2 oJ (e2 fZ (e2 b9 (af 1) (eI 55)) (eI 2)) (eI 1))) (dS (fJ (ac (af 9) (ac (fJ (ac (eC (.str [])) (ac (af 5) (ac (fJ (ac (bC eJ (ac (af 3) aD)) aD)) aD)))) aD)))) eK) (dS (fJ (ac (fJ (ac (eC (.str [])) (ac (af 5) (ac (fJ (ac (bC eJ (ac (af 3) aD)) aD)) aD)))) (ac (af 9) aD))))))))))))))
def BE:List W->List al->R W:=fK 10 Oz
theorem R0(F:lB K "_law_unmet" "_law_unmet" JD f fd)(B:Bl mg)(d:dG P w K mg base 1 "_law_cell" 2 m_)(V:dG P w K mg base 2 "_law_draws" 3 ng)(EX:dG P w K mg base 1 "_law_machine" 4 uP)(EZ:dG P w K mg base 3 "_law_pool" 3 yo):fQ P w K mg base (iM P w) 4 f fd Oc (mF K mg 1 BE):=
 du (k:=3) F JE rfl λZ A z s H E R=>by have y:=JE;walk_at "w"
def OA:FS:=(a9 (bZ 2 (GL mV (eC (.str [])) (ac (lU (e2 da (e2 b9 (af 0) (eI 0)) (e2 b9 (af 1) (eI 0)))) aD))) (a9 (bZ 3 (nw aD)) (a9 (iC (bJ (ac (e2 yQ (eI 1) (bC e7 (ac (af 2) aD))) aD)) (gi 4) (a9 (bZ 5 (cV 2 yp (ac (af 2) (ac (af 4) aD)))) (gU (vc dP (af 3) (ac (fJ (ac (cV 2 wI (ac (e2 b9 (af 0) (eI 0)) (ac (af 5) aD))) (ac (cV 2 wI (ac (e2 b9 (af 1) (eI 0)) (ac (af 5) aD))) aD))) aD))))) (dS (af 3)))))
def Es:List W->List al->R W:=fK 6 OA
theorem R1(F:lB K "_law_both_letters" "_law_both_letters" JF f fd)(B:Bl mg)(I:dG P w K mg base 1 "_law_letter" 2 wI)(B8:dG P w K mg base 1 "_law_some_marks" 2 yp):fQ P w K mg base (iM P w) 2 f fd Od (mF K mg 2 Es):=
 du (k:=1) F wH rfl λZ A z s H E R=>(cw (sS 2 wH (QC PySem.F.slot_str_join PySem.F.type_str_join yX Hr (aW (x_ B.sorted B.set (t9 vK (nQ (ba 0) iN) (nQ (ba 1) iN))) bI))) (cw (sS 3 wH (uH bI)) (cw (kW (iX B.range (aW (t9 Nt iN (gX qj B.len je (aW (ba 2) bI))) bI)) (sG 4 wH) (cw (sS 5 wH (rD B8 R #[0] (aW (ba 2) (aW (ba 4) bI)))) (e_ (lF (yW PySem.F.slot_list_append PySem.F.type_list_append jw (ba 3) (aW (xY (aW (rD I R #[0] (aW (nQ (ba 0) iN) (aW (ba 5) bI))) (aW (rD I R #[0] (aW (nQ (ba 1) iN) (aW (ba 5) bI))) bI))) bI)))))) (e_ (oN (ba 3))))))
def OB:FS:=(a9 (bZ 2 (cV 2 Es (ac (af 0) (ac (af 1) aD)))) (a9 (bZ 3 (nw (ac (fJ (ac (eI 0) (ac (eI 0) aD))) aD))) (a9 (bZ 4 (eI 0)) (a9 (nz (jc (e2 yR (af 4) (bC e7 (ac (af 3) aD)))) (a9 (iC (bJ (ac (e2 da (af 4) (eI 1)) aD)) (gi 5) (iC (fT (af 2)) (yU 2 (dg (gi 6) (dg (gi 7) j_))) (iC (fT (fJ (ac (fJ (ac (af 4) (ac (af 5) aD))) (ac (fJ (ac (af 5) (ac (af 4) aD))) aD)))) (yU 2 (dg (gi 8) (dg (gi 9) j_))) (a9 (bZ 10 (e2 b9 (e2 b9 (e2 b9 (e2 b9 (af 0) (eI 2)) (af 6)) (e2 b9 (e2 b9 (af 3) (af 8)) (eI 0))) (e2 b9 (e2 b9 (af 3) (af 9)) (eI 0)))) (a9 (bZ 11 (e2 b9 (e2 b9 (e2 b9 (e2 b9 (af 1) (eI 2)) (af 7)) (e2 b9 (e2 b9 (af 3) (af 8)) (eI 1))) (e2 b9 (e2 b9 (af 3) (af 9)) (eI 1)))) (lK (jc (e2 (AM cT) (fJ (ac (af 10) (ac (af 11) aD))) (af 3))) (gU (vc dP (af 3) (ac (fJ (ac (af 10) (ac (af 11) aD))) aD))) eK)))))) (bZ 4 (e2 da (af 4) (eI 1))))) (dS (bC r9 (ac (af 3) aD)))))))
def Eu:List W->List al->R W:=fK 12 OB
theorem R3(F:lB K "_law_pairs" "_law_pairs" JG f fd)(B:Bl mg)(OP:dG P w K mg base 2 "_law_both_letters" 2 Es):fQ P w K mg base (iM P w) 3 f fd Oe (mF K mg 2 Eu):=
 du (k:=2) F JH rfl λZ A z s H E R=>by have y:=JH;walk_at "w"
def OC:FS:=(a9 (FF (cV 1 BD (ac (af 0) aD)) (yU 2 (dg (gi 1) (dg (gi 2) j_)))) (a9 (lK (jc (e2 oJ (e2 fZ (e2 b9 (cV 3 ng (ac (cV 2 m_ (ac (af 0) (ac (eI 4) aD))) (ac (eI 1) (ac (eI 500009) aD)))) (eI 0)) (eI 8)) (eI 3))) (FF (cV 1 BE (ac (af 0) aD)) (yU 2 (dg (gi 1) (dg (gi 2) j_)))) eK) (a9 (bZ 3 (cV 2 Eu (ac (af 1) (ac (af 2) aD)))) (a9 (bZ 4 (bC eJ (ac (af 3) aD))) (a9 (iC (fT (af 3)) (yU 2 (dg (gi 5) (dg (gi 6) j_))) (lK (jc (e2 LK (e2 b9 (e2 b9 (af 1) (eI 1)) (af 5)) (e2 b9 (e2 b9 (af 2) (eI 1)) (af 6)))) (bZ 4 (eC .non)) eK)) (a9 (bZ 7 (cV 2 El (ac (af 1) (ac (af 2) aD)))) (a9 (lK (KN (jc (cV 2 (ly 40) (ac (af 7) (ac (af 4) aD))))) (dS (eC (.bl dw))) eK) (a9 (lK (jc (AH (af 7))) (dS (eC (.bl cT))) eK) (a9 (bZ 8 (bC eJ (ac (fS [cg,cg] (fT (af 3)) (yU 2 (dg (gi 0) (dg (gi 1) j_))) jF (fJ (ac (af 1) (ac (af 0) aD)))) aD))) (a9 (lK (KN (jc (cV 2 (ly 40) (ac (cV 4 yn (ac (eC (.str [115,97,109,101])) (ac (fJ (ac (af 1) aD)) (ac (af 2) (ac (af 7) aD))))) (ac (eC (.bl cT)) aD))))) (dS (eC (.bl dw))) eK) (dS (cV 2 (ly 40) (ac (cV 4 yn (ac (eC (.str [115,97,109,101])) (ac (fJ (ac (af 2) aD)) (ac (af 1) (ac (af 8) aD))))) (ac (eC (.bl cT)) aD))))))))))))))
def f_q36:List W->List al->R W:=fK 9 OC
theorem R4(F:lB K "law" "law" tz f fd)(B:Bl mg)(d:dG P w K mg base 1 "_law_cell" 2 m_)(V:dG P w K mg base 2 "_law_draws" 3 ng)(OL:dG P w K mg base 3 "_law_pairs" 2 Eu)(Ky:dG P w K mg base 40 "_law_same" 2 (ly 40))(OQ:dG P w K mg base 4 "_law_two" 1 BD)(O_:dG P w K mg base 4 "_law_unmet" 1 BE)(OX:dG P w K mg base 6 "alike_rows" 2 El)(OY:dG P w K mg base 4 "shown" 4 yn):fQ P w K mg base (iM P w) 41 f fd JI (mF K mg 1 f_q36):=
 du (k:=40) F JJ rfl λZ A z s H E R=>by have y:=JJ;walk_at "w"
end
theorem JP(ns:List α)(I:0<ns.length)(k:Int):∃c∈ns,u9 ns (k%((ns.length:Nat):Int))=bi c:=by
 have z:0<=k%((ns.length:Nat):Int):=ji _ #[0];have Z:k%((ns.length:Nat):Int)<ns.length:=mB _ #[0];obtain⟨m,y⟩:=Int.eq_ofNat_of_zero_le z;rw[y]at Z ⊢;have Y:m<ns.length:=by omega
 exact⟨ns[m],dX _,gn (by simp[Y])⟩
theorem nh(h:st[n]?=bi (.ro (ns.map W.int)))(k:Int):∃c,m_ [.loc n,.int k] st=.ok (.int c) st:=by
 by_cases R:ns=[]
 .subst R;refine⟨0,?_⟩;apply qN;apply IF;apply zn
  ·(repeat' (first|with_reducible exact oQ (vn h)|walk_at "ev1"))
  ·(walk_at "evs")
 .have I:0<ns.length:=List.length_pos_iff.mpr R;obtain⟨c,J,e⟩:=JP (ns.map W.int) (by simpa using I) k;obtain⟨c,_,rfl⟩:=aE.mp J;refine⟨c,?_⟩;apply qN;apply NH
  .apply zo
   ·(repeat' (first|with_reducible exact oQ (vn h)|walk_at "ev1"))
    rw[dk,ag];omega
   ·(walk_at "evs")
  ·(repeat' (first|with_reducible exact oQ (vn h)|with_reducible exact uM (vn h) e|walk_at "ev1"))
   rw[ag];omega
theorem JQ(c k s:Int)(B:-(2^64)<k/\k<2^64)(st:List al):∃r,0<=r/\BA [.int c,.int k,.int s] st=.ok (.int r) st:=by
 have big:∀q:Int,0<=q%2147483647/\q%2147483647<2147483647:=λq=>⟨ji _ #[1],mB _ #[1]⟩
 refine⟨(((c+7*k*k+13*k+s)*69621%2147483647*((c+7*k*k+13*k+s)*69621%2147483647/1009+3)+31*k+s)%2147483629*48271)%1000000007,ji _ #[1],?_⟩;apply qN;apply NH
 ·(walk_at "evs")<;>first|exact .inl #[1]|exact .inr #[1]|exact .inr B
 ·(walk_at "evs")<;>first|exact .inl #[1]|exact .inr #[1]|exact .inl (by have:=big ((c+7*k*k+13*k+s)*69621);omega)
theorem ma(c s:Int)(m:Nat)(y:m<=1000)(st:List al):∃ds:List Int,ds.length=m/\(∀d∈ds,0<=d)/\ng [.int c,.int m,.int s] st=.ok (.loc st.length) (st++[.lst (ds.map W.int)]):=by
 suffices O:jd (B9 λw I=>∃j x,w=.loc (st.length+j)/\I=st++x/\j=0/\∃ds:List Int,x=[.lst (ds.map W.int)]/\ds.length=m/\∀d∈ds,0<=d) (Oo ([W.int c,.int m,.int s].map bi++pw (6-3) cg) st) by
  obtain⟨j,x,⟨rfl,ds,rfl,Z,Y⟩,e⟩:=qQ O;exact⟨ds,Z,Y,e⟩
 apply aO
 ·(walk_at "evs")
 apply aO
 ·(walk_at "evs")
 have main:∀r0:Int,jd (B9 λw I=>∃j x,w=.loc (st.length+j)/\I=st++x/\j=0/\∃ds:List Int,x=[.lst (ds.map W.int)]/\ds.length=m/\∀d∈ds,0<=d)
   (a9 (iC (bJ (ac (af 1) aD)) (gi 5) (lK (jc (e2 Nu (af 4) (eI 0))) (a9 (gU (vc dP (af 3) (ac (e2 fZ (af 4) (eI 64)) aD))) (bZ 4 (e2 uI (af 4) (eI 64)))) (gU (vc dP (af 3) (ac (cV 3 BA (ac (af 0) (ac (af 5) (ac (af 2) aD)))) aD))))) (dS (af 3))
   [iO c,iO m,iO s,lO st.length,iO r0,cg] (st++[.lst []])):=by
  intro r0;refine gc (λi V I=>∃(r:Int) (o:Option W) (ds:List Int),V=[iO c,iO m,iO s,lO st.length,iO r,o]/\I=st++[.lst (ds.map W.int)]/\ds.length=i/\∀d∈ds,0<=d) (dU (by(walk_at "evs");rfl) #[0])
   ⟨r0,cg,[],rfl,rfl,rfl,by simp⟩ (λ_ _ _ _=>trivial) ?_ ?_
  .rintro i w V I B ⟨r,o,ds,rfl,rfl,U,h⟩;obtain⟨D,rfl⟩:=kt B;refine⟨_,rfl,?_⟩;have gp:(st++[al.lst (ds.map W.int)])[st.length]?=bi (.lst (ds.map W.int)):=by rw[qs];rfl
   have hsh:(ds.map W.int).length<lw:=by rw[ag,U];show i<1000000;omega
   by_cases R:0<r
   .apply rF
    ·(walk_at "evs");simpa using R
    apply aO
    ·(repeat' (first|with_reducible exact gY gp|with_reducible exact Eb gp hsh|walk_at "ev1"))
    rw[jx];apply dL
    ·(walk_at "evs")
    .refine⟨_,_,rfl,r/64,_,ds++[r%64],rfl,by simp,by simp[U],λd hd'=>?_⟩;rcases aZ.mp hd' with hd'|hd'
     .exact h d hd'
     .rw[aM.mp hd'];exact ji _ #[1]
   .obtain⟨q,z,e⟩:=JQ c (0+i) s #[0] (st++[al.lst (ds.map W.int)]);apply mY
    ·(walk_at "evs");simpa using R
    apply dL
    ·(repeat' (first|with_reducible exact gY gp|with_reducible exact Eb gp hsh|with_reducible exact e|walk_at "ev1"))
    .refine⟨_,_,rfl,r,_,ds++[q],rfl,by rw[jx];simp,by simp[U],λd hd'=>?_⟩;rcases aZ.mp hd' with hd'|hd'
     .exact h d hd'
     .rw[aM.mp hd'];exact z
  .rintro V I ⟨r,o,ds,rfl,rfl,U,h⟩;apply cS
   ·(walk_at "evs")
   .exact⟨_,_,rfl,0,_,rfl,rfl,rfl,ds,rfl,by rw[U];simpa using bM 0 m,h⟩
 by_cases J:(10:Int)^18<=c
 .apply aO
  .apply zn
   ·(walk_at "evs")<;>simpa using J
   ·(walk_at "evs")
  .exact main c
 .apply aO
  .apply zo
   ·(walk_at "evs")<;>simpa using J
   ·(walk_at "evs")
  .exact main 0
noncomputable abbrev LL:List Nat:=[65,66,67,68,69,70,71,72,73,74,75,76,77,78,79,80,81,82,83,84,85,86,87,88,89,90,97,98,99,100,101,102,103,104,105,106,107,108,109,110,111,112,113,114,115,116,117,118,119,120,121,122]
theorem Ev(c s:Int)(m:Nat)(y:m<=52)(st:List al):∃l:List Nat,l.length=m/\l.Nodup/\(∀d∈l,d∈LL)/\yo [.int c,.int m,.int s] st=.ok (.str l) st:=by
 suffices hh:jd (B9 λw bF=>(∃x,bF=st++x)/\undWs st.length [w]=cT/\∃l:List Nat,w=.str l/\l.length=m/\l.Nodup/\∀d∈l,d∈LL) (Op ([W.int c,.int m,.int s].map bi++pw (7-3) cg) st) by
  obtain⟨w,⟨l,rfl,Z,Y,z⟩,e⟩:=tj hh;exact⟨l,Z,Y,z,e⟩
 obtain⟨ds,Z,Y,e⟩:=ma c s m #[0] st;apply aO
 ·(walk_at "evs")
 apply aO
 ·(walk_at "evs")
 have gp:lstOf (st++[al.lst (ds.map W.int)]) st.length=bi (ds.map W.int):=br (by rw[qs];rfl);refine gc (λi V bF=>∃(r f:List Nat) (o o2:Option W),V=[iO c,iO m,iO s,bi (.str r),bi (.str f),o,o2]/\bF=st++[.lst (ds.map W.int)]/\f.length=i/\r.length+i=52/\(f++r).Perm LL) (mX (by(repeat' (first|with_reducible exact e|walk_at "ev1"))) gp)
  ⟨LL,[],cg,cg,rfl,rfl,rfl,rfl,.refl _⟩ (λi V bF h=>?_) ?_ ?_
 .obtain⟨r,f,o,o2,rfl,rfl,_⟩:=h;exact gp
 .rintro i w V bF B ⟨r,f,o,o2,rfl,rfl,I,R,hfl⟩;obtain⟨d,U,rfl⟩:∃d,ds[i]?=bi d/\w=.int d:=by simp only[ao,a8]at B;obtain⟨d,Z,rfl⟩:=B;exact⟨d,Z,rfl⟩
  have D:i<m:=by rw[<- Z];exact(ak.mp U).1
  obtain⟨q,J,eq⟩:=qS (q:=d) (n:=r.length) #[0];have hL:r.length<=lw:=by show _<=1000000;omega
  have hLf:f.length<=lw:=by show _<=1000000;omega
  have hat:u9 r (d%(r.length:Int))=bi r[q]:=by rw[eq];exact gn (by simp[J])
  refine⟨_,rfl,?_⟩;apply aO
  ·(repeat' (first|with_reducible exact l9 hL|walk_at "ev1"))
   show 0<(r.length:Int);omega
  apply aO
  .have O:f.length+[r[q]].length<=lw:=by show _+1<=1000000;omega
   (repeat' (first|with_reducible exact Ea hL hat|with_reducible exact ww O|walk_at "ev1"))
  apply dL
  ·(repeat' (first|with_reducible exact Ec hL|walk_at "ev1"))
   rw[eq,qR #[0],show((q:Int)+1)=((q+1:Nat):Int)from rfl,tm #[0],a_,dA];show _<=1000000;omega
  .refine⟨_,_,rfl,_,_,_,_,rfl,rfl,by simp[I],?_,?_⟩
   .rw[eq,qR #[0],show((q:Int)+1)=((q+1:Nat):Int)from rfl,tm #[0],ay,a_,dA];omega
   .rw[eq,qR #[0],show((q:Int)+1)=((q+1:Nat):Int)from rfl,tm #[0]];refine List.Perm.trans ?_ hfl;rw[aN];refine pZ f ?_;have e:r=r.take q++r[q]::r.drop (q+1):=by rw[<- gz J,List.take_append_drop]
    have e2:(r[q]::(r.take q++r.drop (q+1))).Perm r:=(List.perm_middle.symm).trans (by rw[<- e]);exact e2
 .rintro V bF ⟨r,f,o,o2,rfl,rfl,I,R,hfl⟩;apply cS
  ·(walk_at "evs")
  .exact⟨_,_,rfl,⟨_,rfl⟩,rfl,f,rfl,by rw[I];simpa using Z,(gQ.mp (hfl.nodup_iff.mpr #[1])).1,λd U=>hfl.mem_iff.mp (c_ _ U)⟩
theorem jL{s:List al}{p:Nat}{c:al}(h:st <+: s)(U:st.length<=p):st <+: s.set p c:=by obtain⟨x,rfl⟩:=h;rw[show p=st.length+(p-st.length) by omega,s_];exact aq _ _
theorem oV{s y:List al}(h:st <+: s):st <+: s++y:=h.trans (aq _ _)
theorem cJ{s:List al}{c:al}(h:st <+: s)(e:st[i]?=bi c):s[i]?=bi c:=by obtain⟨x,rfl⟩:=h;exact b0 e
theorem md{s:List al}{p:Nat}{c d:al}(h:s[p]?=bi d):(s.set p c)[p]?=bi c:=by rw[cn (ak.mp h).1]
theorem R5{s:List al}{p q:Nat}{c:al}(h:p≠q):(s.set p c)[q]?=s[q]?:=bQ h
theorem JR{s:List al}{p:Nat}{c:al}(h:s[p]?=bi c):p<s.length:=(ak.mp h).1
theorem bw{s:List al}{c:al}:(s++[c])[s.length]?=bi c:=by rw[qs];rfl
noncomputable def JS(l:List Int):List W:=l.map W.int
theorem qV{s:List al}{p i:Nat}{ds:List Int}{d:Int}(h:s[p]?=bi (.lst (JS ds)))(e:ds[i]?=bi d):b9 (.loc p) (.int i) s=.ok (.int d) s:=uM (br h) (gn (by rw[JS,ao,e];rfl))
theorem JT(h:lstOf st n=bi (ls.map W.str))(I:ls.length<64):lW [.loc n] st=.ok (.loc st.length) (st++[.lst ((kb ls).map W.str)]):=by show qK [.loc n] st=_;unfold qK;simp only[h,cO,x8];rw[ax I]
theorem wJ{a b:List (List Nat)}(h:a.Perm b):(a.map Y8).sum=(b.map Y8).sum:=by
 induction h with
 |nil=>rfl
 |cons x _ U=>simp only[aK,rQ,U]
 |swap x y l=>simp only[aK,rQ];omega
 |trans _ _ O Z=>rw[O,Z]
theorem nV(l:List Nat):(((l.map λc=>[c])).map Y8).sum=l.length:=by
 induction l with
 |nil=>rfl
 |cons a r U=>simp only[aK,rQ,fD,U,pO];omega
def xc(l:List Nat):List Nat:=qf [] (kb (l.map λc=>[c]))
theorem zH(l:List Nat):(xc l).length=l.length:=by unfold xc;rw[nN,List.length_flatten,wJ (ik _),nV]
theorem wK(l:List Nat):(xc l).Perm l:=by
 unfold xc;rw[nN];have h:(kb (l.map λc=>[c])).flatten.Perm (l.map λc=>[c]).flatten:=(ik _).flatten;refine h.trans (.of_eq ?_)
 induction l with
 |nil=>rfl
 |cons a r U=>
  have z:=U ((ik _).flatten);simp only[aK,dm,z,List.cons_append,f6]
theorem MH{s1:List al}(h:fe ρ st=.ok (.loc n) s1)(J:lstOf s1 n=bi ((l.map λc=>[c]).map W.str))(I:l.length<64) :
  GL mV (eC (.str [])) (ac (bC lW (ac fe aD)) aD) ρ st=.ok (.str (xc l)) (s1++[.lst ((kb (l.map λc=>[c])).map W.str)]):=by have O:=JT J (by simpa using I);have z:lstOf (s1++[al.lst ((kb (l.map λc=>[c])).map W.str)]) s1.length=bi ((kb (l.map λc=>[c])).map W.str):=br bw;have B:=uo (sep:=[]) z (by rw[wJ (ik _),nV];show _<=1000000;simp;omega);exact CZ cu rfl (au (b_ (au h be) O) be) B
section
variable{fs:FA}
theorem MI(V:β->W)(Pb:Nat->β->Prop)(d:fs ρ st=.ok [.int n] st)(B:n<=100000)(h:∀i:Nat,i<n->∃b,Pb i b/\el ((pR cap ρ).set 0 (iO i)) st=.ok (V b) st) :
  ∃r:List β,r.length=n/\(∀i b,r[i]?=bi b->Pb i b)/\fS cap (bJ fs) (gi 0) jF el ρ st=.ok (.loc st.length) (st++[.lst (r.map V)]):=by
 let f:Fin n->β:=λi=>Classical.choose (h i i.2)
 have I:∀i:Fin n,Pb i (f i)/\el ((pR cap ρ).set 0 (iO (i:Nat))) st=.ok (V (f i)) st:=λi=>Classical.choose_spec (h i i.2)
 let Y:W->W:=λw=>match w with
  |.int z=>if hz:z.toNat<n then V (f ⟨z.toNat,hz⟩)else .non
  |_=>.non
 have ir:bJ fs ρ st=.ok (bO 0 n,cg) st:=by have:=dU d #[0];rw[aH]at this;exact this
 have J:=qU (fi:=bJ fs) (f:=gi 0) (el:=el) (cap:=cap) (ρ:=ρ) Y ir (by rw[bM];show _<=1000000;omega) trivial λw y=>by obtain⟨i,D,rfl⟩:=yl y;refine⟨_,rfl,?_⟩;rw[show((0:Int)+(i:Int))=(i:Int) by omega];show _=R.ok (if hz:(i:Int).toNat<n then V (f ⟨(i:Int).toNat,hz⟩)else .non) st;rw[ph (show(i:Int).toNat<n by omega)];exact(I ⟨i,D⟩).2
 refine⟨List.ofFn f,by simp,λi b U=>?_,?_⟩
 .obtain⟨Z,O⟩:=ak.mp U;rw[List.getElem_ofFn]at O;rw[<- O];exact(I ⟨i,by simpa using Z⟩).1
 .rw[J];have e:(bO 0 n).map Y=(List.ofFn f).map V:=by
   refine List.ext_getElem (by simp[bM]) λi Z O=>?_;have D:i<n:=by simpa[bM]using Z
   rw[kF,kF,List.getElem_ofFn];unfold bO;rw[kF,List.getElem_range,show((0:Int)+(i:Int))=(i:Int) by omega];show(if hz:(i:Int).toNat<n then V (f ⟨(i:Int).toNat,hz⟩)else .non)=_;rw[ph (show(i:Int).toNat<n by omega)]
  rw[e]
theorem zI(V:β->W)(Pb:Nat->β->Prop)(R:fs ρ st=.ok [.int n] st)(B:n<=100000)(h:∀i:Nat,i<n->∃b,Pb i b/\el ((pR cap ρ).set 0 (iO i)) st=.ok (V b) st) :
  ∃r:List β,r.length=n/\(∀i b,r[i]?=bi b->Pb i b)/\bC eJ (ac (fS cap (bJ fs) (gi 0) jF el) aD) ρ st=.ok (.tup (r.map V)) (st++[.lst (r.map V)]):=by obtain⟨r,Z,Y,e⟩:=MI (cap:=cap) (el:=el) V Pb R B h;exact⟨r,Z,Y,b_ (au e be) (iQ (br bw))⟩
end
structure Mc where
 nm:List Nat
 gd:List Bool
 tb:List (List (List Nat))
noncomputable def bf(r:List Nat):W:=.tup (r.map λk=>W.int (k:Nat))
def iL(t:List (List Nat)):W:=.tup (t.map bf)
def Mc.w(M:Mc):W:=.tup [.str M.nm,.tup (M.gd.map W.bl),.tup (M.tb.map iL)]
def XC(n:Nat)(t:List (List Nat)):Prop:=t.length=n/\∀r∈t,r.length=n/\∀k∈r,k<n
structure Ai(M:Mc)(n:Nat):Prop where
 gd:M.gd.length=n
 tb:M.tb.length=2^M.nm.length
 t:∀t∈M.tb,XC n t
theorem zJ(r:List Nat)(n:Nat):(bf r).und n=cT:=by
 unfold bf W.und
 induction r with
 |nil=>rfl
 |cons x r U=>simp only[aK,undWs,U,dO];rfl
theorem MJ(t:List (List Nat))(n:Nat):(iL t).und n=cT:=by
 unfold iL W.und
 induction t with
 |nil=>rfl
 |cons x r U=>simp only[aK,undWs,U,dO];exact zJ x n
theorem BF(t:List (List (List Nat)))(n:Nat):undWs n (t.map iL)=cT:=by
 induction t with
 |nil=>rfl
 |cons x r U=>simp only[aK,undWs,U,dO];exact MJ x n
theorem MK(t:List Bool)(n:Nat):undWs n (t.map W.bl)=cT:=by
 induction t with
 |nil=>rfl
 |cons x r U=>simp only[aK,undWs,U,dO];rfl
theorem ux(M:Mc)(n:Nat):M.w.und n=cT:=by unfold Mc.w;simp[W.und,undWs,BF,MK]
theorem Dz{c:Nat}(h:c<=100):yQ (.int 1) (.int c) st=.ok (.int ((2^c:Nat):Int)) st:=by have:=nU (C:=λi j=>0<=j/\j<=1000000/\i.natAbs<2^64) (f:=λi j=>i*2^j.toNat) (p:=1) (q:=(c:Int)) (st:=st) ⟨by omega,by omega,by decide⟩;rw[show yQ (.int 1) (.int c) st=_ from this];simp
theorem me{s:List al}{p:Nat}{y:W}(h:s[p]?=bi (.lst ws))(I:ws.length<1000000):dP (.loc p) [y] s=.ok .non (s.set p (.lst (ws++[y]))):=Eb h I
theorem zK{l:List α}{x y:α}(h:y∈l.set i x):y∈l\/y=x:=mO h
noncomputable def nW(l:List Nat):List W:=l.map λk=>W.int (k:Nat)
theorem OD{s:List al}{p:Nat}(h:s[p]?=bi (.lst (nW l)))(e:l[i]?=bi k):b9 (.loc p) (.int i) s=.ok (.int k) s:=uM (br h) (gn (by rw[nW,ao,e];rfl))
theorem zL{s:List al}(e:l[i]?=bi k):b9 (bf l) (.int i) s=.ok (.int k) s:=l8 (gn (by rw[ao,e];rfl))
theorem zM{s:List al}{t:List (List Nat)}(e:t[i]?=bi r):b9 (iL t) (.int i) s=.ok (bf r) s:=l8 (gn (by rw[ao,e];rfl))
theorem OE{f:FG}{ρ':cE}{w:W}(h:fe ρ st=.ok w st1)(Y:f w ρ=bi ρ'):FF fe f ρ st=.nx ρ' st1:=by unfold FF;rw[h];simp only[R.stmt_ok];rw[Y]
theorem wL(nm:List Nat)(n lQ dl:Nat)(ds:List Int)(st:List al)(rq:nm.length<=6)(U:1<=n)(YM:n<=9)(Tq:1<=lQ)(YK:lQ<=n)(hd:st[dl]?=bi (.lst (JS ds)))(M6:n+2^nm.length*(n*n)<=ds.length) :
  ∃M:Mc,M.nm=nm/\Ai M n/\uP [.str nm,.int n,.int lQ,.loc dl] st=.ok M.w st:=by
 suffices hh:jd (B9 λw bF=>(∃x,bF=st++x)/\undWs st.length [w]=cT/\∃M:Mc,w=M.w/\M.nm=nm/\Ai M n) (Os ([W.str nm,.int n,.int lQ,.loc dl].map bi++pw (10-4) cg) st) by
  obtain⟨w,⟨M,rfl,Z,Y⟩,e⟩:=tj hh;exact⟨M,Z,Y,e⟩
 have dC:∀s:List al,e7 [.str nm] s=.ok (.int nm.length) s:=λs=>l9 (by show _<=1000000;omega);have p2:2^nm.length<=64:=b8 #[0] rq;obtain⟨N,hN⟩:∃N,N=2^nm.length:=⟨_,rfl⟩
 have sh:∀s:List al,yQ (.int 1) (.int nm.length) s=.ok (.int N) s:=λs=>by rw[hN];exact Dz #[0]
 rw[<- hN]at p2 M6;have hdn:n<=ds.length:=by omega
 obtain⟨gd,hgl,_,eg⟩:=zI (cap:=[cg,bi 3]) (ρ:=[bi (.str nm),iO n,iO lQ,lO dl,cg,cg,cg,cg,cg,cg]) (st:=st) (fs:=ac (af 1) aD) (n:=n)
  (el:=e2 oJ (e2 fZ (e2 b9 (af 1) (af 0)) (eI 2)) (eI 1)) W.bl (λ_ _=>True) kn #[0] λq hq=>by
   obtain⟨d,hdd⟩:∃d,ds[q]?=bi d:=⟨_,ar #[0]⟩
   exact⟨_,trivial,cq (cq (cq kv kv (qV hd hdd)) cu (nU #[1])) cu (rE rfl)⟩
 apply aO
 .exact cb eg
 generalize KW:st++[al.lst (gd.map W.bl)]=s0;have hst0:st <+: s0:=by rw[<- KW];exact aq _ _
 apply aO
 ·(walk_at "evs")
 apply aO
 ·(walk_at "evs")
 refine gc (λi V s=>∃(tb:List (List (List Nat))) (a:Nat) (o7 o8 o9:Option W),V=[bi (.str nm),iO n,iO lQ,lO dl,bi (.tup (gd.map W.bl)),lO s0.length,iO a,o7,o8,o9]/\s0 <+: s/\s[s0.length]?=bi (.lst (tb.map iL))/\tb.length=i/\(∀t∈tb,XC n t)/\a+(N-i)*(n*n)<=ds.length)
  (dU (q:=(N:Int)) (st1:=s0++[al.lst []]) (au (cq cu (b_ kn (dC _)) (sh _)) be) #[0])
  ⟨[],n,cg,cg,cg,rfl,aq _ _,bw,rfl,by simp,by simpa using M6⟩ (λ_ _ _ _=>trivial) ?_ ?_
 .rintro i w V s hw ⟨tb,a,o7,o8,o9,rfl,hp,J,I,ht,hal⟩;obtain⟨D,rfl⟩:=kt hw;rw[aH]at D;refine⟨_,rfl,?_⟩;rw[show N-i=(N-(i+1))+1 by omega,jS]at hal;apply aO
  ·(walk_at "evs")
  refine gc (λj V z=>∃(rows:List (List Nat)) (a:Nat) (o9:Option W),V=[bi (.str nm),iO n,iO lQ,lO dl,bi (.tup (gd.map W.bl)),lO s0.length,iO a,iO (0+(i:Int)),lO s.length,o9]/\s <+: z/\z[s.length]?=bi (.lst (rows.map bf))/\rows.length=j/\(∀r∈rows,r.length=n/\∀k∈r,k<n)/\a+((N-(i+1))*(n*n)+(n-j)*n)<=ds.length)
   (dU (q:=(n:Int)) (st1:=s++[al.lst []]) (by(walk_at "evs")) #[0]) ⟨[],a,_,rfl,aq _ _,bw,rfl,by simp,by simpa using hal⟩ (λ_ _ _ _=>trivial) ?_ ?_
  .rintro j w V z hw ⟨rows,a,o9,rfl,hz,hcz,Cb,R,hal⟩;obtain⟨hj,rfl⟩:=kt hw;rw[aH]at hj;refine⟨_,rfl,?_⟩;rw[show n-j=(n-(j+1))+1 by omega,jS]at hal;have pt:(0:Int)<(lQ:Int):=by omega
   obtain⟨r,hrn,hrb,er⟩:=zI (cap:=[cg,bi 2,bi 3,bi 6]) (ρ:=[bi (.str nm),iO n,iO lQ,lO dl,bi (.tup (gd.map W.bl)),lO s0.length,iO a,iO (0+(i:Int)),lO s.length,iO (0+(j:Int))]) (st:=z) (fs:=ac (af 1) aD) (n:=n)
    (el:=e2 fZ (e2 b9 (af 2) (e2 da (af 3) (af 0))) (af 1)) (λk:Nat=>W.int (k:Nat)) (λ_ k=>k<n) kn #[0] λq hq=>by
     obtain⟨d,hdd⟩:∃d,ds[a+q]?=bi d:=⟨_,ar #[0]⟩
     obtain⟨k,B,ek⟩:=qS (q:=d) (n:=lQ) #[0];refine⟨k,by omega,?_⟩;rw[<- ek];exact cq (cq kv (cq kv kv gy) (qV (cJ (hst0.trans (hp.trans hz)) hd) hdd)) kv (nU pt)
   have ap:=me (y:=bf r) (cJ (s:=z++[.lst (r.map λk:Nat=>W.int k)]) (aq _ _) hcz) (by rw[ag];omega);apply aO
   .exact iG (sd kv (gY hcz) (au er be) ap)
   apply dL
   .exact cb (cq kv kv gy)
   .refine⟨_,_,rfl,rows++[r],a+n,_,rfl,jL (oV hz) (am _),?_,by simp[Cb],?_,by omega⟩
    .rw[md (cJ (aq _ _) hcz)];simp
    .intro x O;rcases aZ.mp O with y|y
     .exact R x y
     .simp at y;subst y;refine⟨hrn,λk B=>?_⟩;obtain⟨q,hq⟩:=cM B;exact hrb q k hq
  .rintro V z ⟨rows,a,o9,rfl,hz,hcz,Cb,R,hal⟩;have Cb:rows.length=n:=by rw[Cb];simp[bM]
   have wX:=cJ hz J;have ap:=me (y:=iL rows) wX (by rw[ag,I];omega);apply dL
   .exact iG (sd kv (gY wX) (au (b_ kn (iQ (br hcz))) be) ap)
   .refine⟨_,_,rfl,tb++[rows],a,_,_,_,rfl,jL (hp.trans hz) (am _),?_,by simp[I],?_,by omega⟩
    .rw[md wX];simp
    .intro x O;rcases aZ.mp O with y|y
     .exact ht x y
     .simp at y;subst y;exact⟨Cb,R⟩
 .rintro V s ⟨tb,a,o7,o8,o9,rfl,hp,J,I,ht,hal⟩;have I:tb.length=N:=by rw[I];simp[bM]
  obtain⟨x,rfl⟩:=hst0.trans hp;apply cS
  .exact fI (au kv (au kv (au (b_ kn (iQ (br J))) be))) (aw rfl)
  .exact⟨_,_,rfl,⟨_,rfl⟩,by simp only[undWs,dO];exact ux ⟨nm,gd,tb⟩ _,⟨nm,gd,tb⟩,rfl,rfl,hgl,by rw[I,hN],ht⟩
noncomputable def Tr(own:List Nat):List Nat->Nat->Nat
 |[],_=>0
 |c::r,q=>if c∈own then 2*Tr own r (q/2)+q%2 else Tr own r (q/2)
def Th(own p:List Nat)(q:Nat):Nat:=Tr own p.reverse q
theorem Ew(own p:List Nat)(c q:Nat):Th own (p++[c]) q=if c∈own then 2*Th own p (q/2)+q%2 else Th own p (q/2):=by unfold Th;rw[List.reverse_append];rfl
theorem Gi(m:Nat)(g:Nat->Nat):(vr (2*m)).map g=(vr m).flatMap λk=>[g (2*k),g (2*k+1)]:=by
 induction m with
 |zero=>rfl
 |succ m U=>
  rw[show 2*(m+1)=2*m+1+1 by omega,gI,gI,gI,bN,bN,U,List.flatMap_append];simp
noncomputable def Gj(own:List Nat)(c k:Nat):List Nat:=if c∈own then[2*k,2*k+1]else[k,k]
def nums(own p:List Nat):List Nat:=(vr (2^p.length)).map (Th own p)
theorem Gk(own p:List Nat)(c:Nat):nums own (p++[c])=(nums own p).flatMap (Gj own c):=by
 unfold nums;rw[ay,ce,lI,ip,Gi,List.flatMap_map]
 congr 1
 funext k
 rw[Ew,Ew];unfold Gj;rw[show 2*k/2=k by omega,show(2*k+1)/2=k by omega,show 2*k%2=0 by omega,show(2*k+1)%2=1 by omega]
 split<;>rfl
theorem BG(own p:List Nat):(nums own p).length=2^p.length:=by simp[nums]
theorem BH{c:Nat}:∀l:List Nat,(l.flatMap (Gj own c)).length=2*l.length
 |[]=>rfl
 |a::l=>by
  rw[List.flatMap_cons,ay,BH l];have:(Gj own c a).length=2:=by unfold Gj;split<;>rfl
  rw[this];simp;omega
theorem OF(own:List Nat):∀(r:List Nat) (q:Nat),Tr own r q<2^(r.filter (λc=>decide (c∈own))).length
 |[],_=>by simp[Tr]
 |c::r,q=>by
  have U:=OF own r (q/2);unfold Tr
  by_cases h:c∈own
  .rw[ax h,oA (by simpa using h),fD,lI];omega
  .rw[aF h,oB (by simpa using h)];exact U
theorem BI{p:List Nat}(U:p.Nodup)(q:Nat):Th own p q<2^own.length:=by refine aR (OF own p.reverse q) (b8 #[0] ?_);have R:p.reverse.Nodup:=p7.mpr (List.Pairwise.imp (λh=>h.symm) U);refine d_ (List.Pairwise.filter _ R) λc J=>?_;have:=(eW.mp J).2;simpa using this
theorem R6{D ys:List W}(h:st[n]?=bi (.lst D))(Y:st[m]?=bi (.lst ys))(I:D.length+ys.length<=1000000):lV (.loc n) [.loc m] st=.ok .non (st.set n (.lst (D++ys))):=by show qJ (.loc n) [.loc m] st=_;unfold qJ;simp only[h,Y];rw[ax I]
theorem JU{c:Nat}:AM dw (.str [c]) (.str l) st=.ok (.bl (decide (c∈l))) st:=rfl
theorem Ex(h:k<=13):2^k<=8192:=aT (b8 #[0] h) #[1]
theorem Ey{st1:List al}{l:List Nat}(h:fe ρ st=.ok (.str l) st1):fT fe ρ st=.ok (ij l,cg) st1:=by unfold fT;rw[h];rfl
theorem BJ{w:W}(h:(ij l)[i]?=bi w):∃c,l[i]?=bi c/\w=.str [c]:=by simp only[ij,ao,a8]at h;obtain⟨c,Z,rfl⟩:=h;exact⟨c,Z,rfl⟩
theorem yq(l:List Nat):(ij l).length=l.length:=by simp[ij]
theorem qW{l:List α}{c:α}(h:l[i]?=bi c):l.take (i+1)=l.take i++[c]:=by obtain⟨Z,Y⟩:=ak.mp h;rw[qE,h];rfl
theorem R7(y own:List Nat)(R:y.length<=13)(st:List al):∃j x,x[j]?=bi (.lst (nW (nums own y)))/\JL [.str y,.str own] st=.ok (.loc (st.length+j)) (st++x):=by
 suffices hh:jd (B9 λw bF=>∃j x,w=.loc (st.length+j)/\bF=st++x/\x[j]?=bi (.lst (nW (nums own y)))) (Vu ([W.str y,.str own].map bi++pw (6-2) cg) st) by
  exact qQ hh
 apply aO
 ·(walk_at "evs")
 refine gc (λi V s=>∃(p:Nat) (o3 o4 o5:Option W),V=[bi (.str y),bi (.str own),lO p,o3,o4,o5]/\st <+: s/\st.length<=p/\s[p]?=bi (.lst (nW (nums own (y.take i)))))
  (Ey (st1:=st++[al.lst [.int 0]]) (l:=y) kv) ⟨st.length,cg,cg,cg,rfl,aq _ _,am _,bw⟩ (λ_ _ _ _=>trivial) ?_ ?_
 .rintro i w V s O ⟨p,o3,o4,o5,rfl,U,mH,J⟩;obtain⟨c,hci,rfl⟩:=BJ O;have D:i<y.length:=(ak.mp hci).1;refine⟨_,rfl,?_⟩;have dC:(nums own (y.take i)).length<=8192:=by rw[BG];exact Ex (by rw[a_];omega)
  generalize hnu:nums own (y.take i)=l at J dC;apply aO
  ·(walk_at "evs")
  have hps:p<s.length:=JR J;refine gc (λj V z=>∃(o5:Option W),V=[bi (.str y),bi (.str own),lO p,bi (.str [c]),lO s.length,o5]/\s <+: z/\z[s.length]?=bi (.lst (nW ((l.take j).flatMap (Gj own c)))))
   (mX (st1:=s++[al.lst []]) (n:=p) (ws:=nW l) kv (br (b0 J))) ⟨_,rfl,aq _ _,bw⟩ (λj V z h=>?_) ?_ ?_
  .obtain⟨_,_,I,_⟩:=h;exact br (cJ I J)
  .rintro j w V z O ⟨o5,rfl,I,hcz⟩;obtain⟨k,B,rfl⟩:∃k,l[j]?=bi k/\w=.int (k:Nat):=by simp only[nW,ao,a8]at O;obtain⟨k,Z,rfl⟩:=O;exact⟨k,Z,rfl⟩
   have hj:j<l.length:=(ak.mp B).1;refine⟨_,rfl,?_⟩;have hfl:(nW ((l.take j).flatMap (Gj own c))).length<=20000:=by simp only[nW,ag,BH,a_];omega
   have ext:∀ys:List Nat,ys=Gj own c k->ys.length=2->lV (.loc s.length) [.loc z.length] (z++[al.lst (nW ys)])=.ok .non ((z++[al.lst (nW ys)]).set s.length (.lst (nW ((l.take (j+1)).flatMap (Gj own c))))):=λys e Y=>by rw[R6 (b0 hcz) bw (by rw[show(nW ys).length=2 by simp[nW,Y]];omega),qW B,List.flatMap_append,show List.flatMap (Gj own c) [k]=Gj own c k by simp,<- e];simp[nW]
   have cm:FB (k:Int) 2:=.inr #[1]
   by_cases h:c∈own
   .have t1:decide (c∈own)=cT:=bb h;have d:=ext [2*k,2*k+1] (by unfold Gj;rw[ax h]) rfl;have e2:nw (ac (e2 hV (af 5) (eI 2)) (ac (e2 da (e2 hV (af 5) (eI 2)) (eI 1)) aD)) [bi (.str y),bi (.str own),lO p,bi (.str [c]),lO s.length,iO k] z=.ok (.loc z.length) (z++[al.lst [.int ((k:Int)*2),.int ((k:Int)*2+1)]]):=
     Bh (au (cq kv cu (nG cm)) (au (cq (cq kv cu (nG cm)) cu gy) be)) (aw rfl)
    rw[show[W.int ((k:Int)*2),.int ((k:Int)*2+1)]=nW [2*k,2*k+1] by simp[nW,t0]]at e2;apply rF
    .exact dJ (cq kv kv (by rw[JU,t1]))
    apply dL
    .exact iG (sd kv (gY hcz) (au e2 be) d)
    .exact⟨_,_,rfl,_,rfl,jL (oV I) (am _),md (b0 hcz)⟩
   .have t1:decide (c∈own)=dw:=aQ h;have d:=ext [k,k] (by unfold Gj;rw[aF h]) rfl;apply mY
    .exact dJ (cq kv kv (by rw[JU,t1]))
    apply dL
    .exact iG (sd kv (gY hcz) (au (Bh (au kv kn) (aw rfl)) be) d)
    .exact⟨_,_,rfl,_,rfl,jL (oV I) (am _),md (b0 hcz)⟩
  .rintro V z ⟨o5,rfl,I,hcz⟩;rw[show(nW l,bi (p,nW l)).fst.length=l.length by simp[nW],fE]at hcz;apply dL
   ·(walk_at "evs")
   .refine⟨_,_,rfl,s.length,_,_,_,rfl,U.trans I,by omega,?_⟩;rw[qW hci,Gk,hnu];exact hcz
 .rintro V s ⟨p,o3,o4,o5,rfl,⟨x,rfl⟩,mH,J⟩;rw[show(ij y,(cg:Option (Nat×List W))).fst.length=y.length from yq y,fE]at J;apply cS
  ·(walk_at "evs")
  .refine⟨_,_,rfl,p-st.length,x,by rw[show st.length+(p-st.length)=p by omega],rfl,?_⟩;rw[aY mH]at J;exact J
theorem ML(m:Nat):aaf (m:Int) 1=((m%2:Nat):Int):=by unfold aaf;rw[bb #[0],bb #[0]];show((((m:Int).toNat &&& 1:Nat)):Int)=_;rw[aH,Nat.and_one_is_mod]
theorem C9(k:Nat)(B:k<=1000)(st:List al):Bw [.int k] st=.ok (.int (2^k:Nat)) st:=by
 refine im (N:=3) (ws:=[.int k]) (body:=Vn) ?_ rfl;apply aO
 ·(walk_at "evs")
 refine gc (λi V s=>∃z:Option W,V=[iO k,iO (2^i:Nat),z]/\s=st) (dU (q:=(k:Int)) (st1:=st) kn #[0]) ⟨cg,rfl,rfl⟩ (λ_ _ _ _=>trivial) ?_ ?_
 .rintro i w V s y ⟨Y,rfl,rfl⟩;obtain⟨D,rfl⟩:=kt y;refine⟨_,rfl,?_⟩;apply dL
  .exact cb (cq kv cu (nG (.inr #[1])))
  .exact⟨_,_,rfl,_,by rw[show((2^i:Nat):Int)*2=((2^(i+1):Nat):Int) by rw[lI,iE];rfl];rfl,rfl⟩
 .rintro V s ⟨z,rfl,rfl⟩;apply cS
  ·(walk_at "evs")
  .refine⟨_,_,rfl,?_,[],by simp⟩;rw[show(bO 0 (k:Int).toNat,(cg:Option (Nat×List W))).fst.length=k by simp[bM]]
theorem Ez(n:Nat)(y:List Nat)(R:n<=1000)(I:y.length<=60)(st:List al):Gf [.int n,.str y] st=.ok (.int (n*n*2^y.length:Nat)) st:=by
 have z:e7 [.str y] st=.ok (.int y.length) st:=l9 (by show _<=1000000;omega);have U:n*n<=1000000:=dh R R;have d:FB (n:Int) (n:Int):=.inl ⟨by omega,by omega⟩;have w:FB ((n:Int)*(n:Int)) ((2^y.length:Nat):Int):=.inl (by rw[<- iE];omega);refine im (N:=2) (ws:=[.int n,.str y]) (body:=Vp) ?_ rfl;apply cS
 .exact cq (cq kv kv (nG d)) (cy (au (b_ kn z) be) (C9 _ #[0] st) rfl) (nG w)
 .exact⟨_,_,rfl,by simp only[iE],[],by simp⟩
def BK(M:Mc)(y:List Nat):Mc:=⟨y,M.gd,(nums M.nm y).map λk=>M.tb.getD k []⟩
theorem MM(M:Mc)(y:List Nat)(I:y.length<=13)(U:∀k∈nums M.nm y,k<M.tb.length)(st:List al):JM [M.w,.str y] st=.ok (.tup ((BK M y).tb.map iL)) st:=by
 obtain⟨j,x,O,Z⟩:=R7 y M.nm I st;have R:b9 M.w (.int 0) st=.ok (.str M.nm) st:=rfl;have Y:b9 M.w (.int 2) (st++x)=.ok (.tup (M.tb.map iL)) (st++x):=rfl;have J:(st++x)[st.length+j]?=bi (.lst (nW (nums M.nm y))):=by rw[mW];exact O
 have D:=qU (cap:=[cg,bi 0]) (ρ:=[bi M.w,bi (.str y)]) (st:=st) (st1:=st++x) (f:=gi 0) (el:=e2 b9 (e2 b9 (af 1) (eI 2)) (af 0)) (λw=>match w with|.int z=>iL (M.tb.getD z.toNat [])|_=>.non)
  (mX (fe:=cV 2 JL (ac (af 1) (ac (e2 b9 (af 0) (eI 0)) aD))) (cy (au kv (au (cq kv cu R) be)) Z rfl) (br J)) (by simp[nW,BG];exact aT (Ex I) (by show _<=1000000;omega)) (br J) λw V=>by
   obtain⟨k,B,rfl⟩:=aE.mp V;have Kp:=U k B;have d:M.tb[k]?=bi (M.tb.getD k []):=by rw[aA,ar Kp];rfl
   exact⟨_,rfl,cq (cq kv cu Y) kv (l8 (gn (by rw[ao,d];rfl)))⟩
 rw[show(nW (nums M.nm y)).map (λw=>match w with|.int z=>iL (M.tb.getD z.toNat [])|_=>.non)=(BK M y).tb.map iL by
  unfold nW BK;rw[aU,aU];refine bW λk _=>?_;show iL (M.tb.getD (k:Int).toNat [])=_;rw[aH];rfl]at D
 refine im (N:=2) (ws:=[M.w,.str y]) (body:=Vx) ?_ (by simp only[undWs,dO,W.und];exact BF _ _);apply cS
 .exact b_ (au D be) (iQ (br bw))
 .exact⟨_,_,rfl,rfl,_,by rw[aN]⟩
noncomputable def uy(m:List Nat)(l:List Nat):Nat:=l.foldl (λa c=>2*a+if c∈m then 1 else 0) 0
theorem yr(m l:List Nat)(c:Nat):uy m (l++[c])=2*uy m l+if c∈m then 1 else 0:=by unfold uy;rw[j6];rfl
theorem MN(m:List Nat)(l:List Nat):uy m l<2^l.length:=by
 have key:∀(l:List Nat) (a k:Nat),a<2^k->l.foldl (λa c=>2*a+if c∈m then 1 else 0) a<2^(k+l.length):=by
  intro l
  induction l with
  |nil=>intro a k h;simpa using h
  |cons c r U=>
   intro a k h;have:=U (2*a+if c∈m then 1 else 0) (k+1) (by rw[lI];split<;>omega);rw[pI,fD,show k+(r.length+1)=k+1+r.length by omega];exact this
 have:=key l 0 0 #[5];simpa[uy]using this
theorem sg(y m:List Nat)(st:List al):wI [.str y,.str m] st=.ok (.int (uy m y:Nat)) st:=by
 refine im (N:=4) (ws:=[.str y,.str m]) (body:=Ot) ?_ rfl;apply aO
 ·(walk_at "evs")
 refine gc (λi V s=>∃z:Option W,V=[bi (.str y),bi (.str m),iO (uy m (y.take i):Nat),z]/\s=st) (Ey (st1:=st) kv) ⟨cg,rfl,rfl⟩ (λ_ _ _ _=>trivial) ?_ ?_
 .rintro i w V s B ⟨z,rfl,rfl⟩;obtain⟨c,J,rfl⟩:=BJ B;refine⟨_,rfl,?_⟩;have e:=yr m (y.take i) c;rw[<- qW J]at e;have d:HD [.bl (decide (c∈m))] s=.ok (.int ((if c∈m then 1 else 0:Nat):Int)) s:=by
   by_cases h:c∈m
   .rw[bb h,ax h];rfl
   .rw[aQ h,aF h];rfl
  apply dL
  .exact cb (cq (cq cu kv (nG (.inl #[1]))) (b_ (au (cq kv kv JU) be) d) gy)
  .exact⟨_,_,rfl,_,by rw[e,Int.natCast_add,iE];rfl,rfl⟩
 .rintro V s ⟨z,rfl,rfl⟩;apply cS
  ·(walk_at "evs")
  .exact⟨_,_,rfl,by rw[show(ij y,(cg:Option (Nat×List W))).fst.length=y.length from yq y,fE],[],by simp⟩
theorem qX(l:List Nat):qf [] (l.map λc=>[c])=l:=by
 rw[nN]
 induction l with
 |nil=>rfl
 |cons a r U=>simp only[aK,dm,U];rfl
noncomputable def R8:W->Nat
 |.int i=>i.toNat
 |_=>0
theorem MO:vJ (.int (m:Nat)) (.int 1) st=.ok (.int ((m%2:Nat):Int)) st:=by rw[<- ML];exact nU trivial
theorem R9{a c:Nat}:AJ (.int (a:Nat)) (.int (c:Nat)) st=.ok (.int ((a/2^c:Nat):Int)) st:=by have:=nU (C:=λ(_ j:Int)=>0<=j) (f:=λi j=>i/2^j.toNat) (p:=(a:Int)) (q:=(c:Int)) (st:=st) #[0];rw[show AJ (.int (a:Nat)) (.int (c:Nat)) st=_ from this,aH];simp
theorem BL{l:List Nat}(I:l.length<4000)(h:∀c∈l,c∈LL)(st:List al):Ge [.str l] st=.ok (.str (fH l)) st:=by
 have O:(fH l).length<64:=by
  have:(fH l).length<=LL.length:=d_ ((gm l).imp λh=>aJ h) λc J=>h c (gB.mp J);have e:LL.length=52:=by decide
  omega
 have d:lU (af 0) [bi (.str l)] st=.ok (.loc st.length) (st++[.lst (ij (fH l))]):=by unfold lU;rw[jI (w:=.str l) rfl];simp only[R.bind_ok,sM,cO];rw[ax ⟨I,O⟩]
 have B:=uo (sep:=[]) (ls:=(fH l).map λc=>[c]) (st:=st++[.lst (ij (fH l))]) (n:=st.length) (br (by rw[bw];unfold ij;rw[aU];rfl)) (by
  rw[nV];show _<=1000000;simp;omega)
 rw[qX]at B;refine im ?_ rfl;apply cS
 .exact CZ cu rfl (au d be) B
 .exact⟨_,_,rfl,rfl,_,rfl⟩
theorem OG{fs:FA}{xs ys:List W}(h:fs ρ st=.ok [.tup xs,.tup ys] st1):rZ fs ρ st=.ok (nS xs ys,cg) st1:=by unfold rZ;rw[h];rfl
theorem kN{P:RS->Prop}{f:FG}{body:FS}{k:FH}(I:Nat->cE->List al->Prop)(h:fi ρ st=.ok k st1)(z:I 0 ρ st1)(J:∀i ρ st,I i ρ st->kK st k.2)
  (O:∀i w ρ st,k.1[i]?=bi w->I i ρ st->∃R,f w ρ=bi R/\jd (C1 (I (i+1))) (body R st)) (Z:∀ρ st,I k.1.length ρ st->P (.nx ρ st)):jd P (iC fi f body ρ st):=by
 obtain⟨D,U,e,Y⟩:=wq (f:=f) (body:=body) (ck:=k.2) I (ws:=k.1) (ρ:=ρ) (st:=st1) 0 z J λi w ρ st y V=>by rw[gf]at V ⊢;obtain⟨R,d,D,U,e2,Y⟩:=O i w ρ st y V;exact⟨R,D,U,d,e2,Y⟩
 rw[gf]at Y;rw[D7 h,e];exact Z _ _ Y
theorem Gm{f:W->W->List al->R W}{V:FE}{st2 J z d:List al}{x y w v:W}(Z:fa ρ st=.ok x st1)(Y:fb ρ st1=.ok y st2)(B:f x y st2=.ok (.bl cT) J)(O:V ρ J=.ok w z)(I:f' y w z=.ok v d):vQ f f' fa fb V ρ st=.ok v d:=by unfold vQ;rw[Z];simp only[R.bind_ok];rw[Y];simp only[R.bind_ok];rw[B];simp only[R.bind_ok];rw[O];exact I
theorem wM:∀l:List Int,kc (l.map W.int)=bi l
 |[]=>rfl
 |z::l=>by simp only[aK,kc,wM l,Option.map_some]
noncomputable def nH(r:List Nat):KX:=.fl (r.map λk:Nat=>(k:Int))
theorem tD(r:List Nat):bf r=.tup ((r.map λk:Nat=>(k:Int)).map W.int):=by rw[aU];rfl
theorem VF(r:List Nat):(nH r).w=bf r:=(tD r).symm
theorem iR(r:List Nat):nC (bf r)=bi (nH r):=by rw[tD];simp only[nC,wM];rfl
theorem EA{a b:List Nat}(h:nH a=nH b):a=b:=
 (mC λx y e=>Int.ofNat.inj e).mp (KX.fl.inj h)
theorem ku(p:KX×W)(l:List (KX×W))(k:KX):fL (p::l) k=if p.1=k then bi p.2 else fL l k:=by
 unfold fL;rw[eZ]
 by_cases h:p.1=k
 .rw[ax h,bb h];rfl
 .rw[aF h,aQ h]
def dR(ks:List (List Nat)):List (KX×W):=ks.map λr=>(nH r,W.bl cT)
theorem zN(r:List Nat):∀ks:List (List Nat),fL (dR ks) (nH r)=if r∈ks then bi (.bl cT)else cg
 |[]=>rfl
 |k::ks=>by
  rw[show dR (k::ks)=(nH k,W.bl cT)::dR ks from rfl,ku,zN r ks]
  by_cases h:k=r
  .subst h;rw[ax rfl,ax #[5]]
  .rw[aF λz=>h (EA z)]
   by_cases Y:r∈ks
   .rw[ax Y,ax (by simp[Y])]
   .rw[aF Y,aF (by simp[Y,YU h])]
noncomputable def BM(ks:List (List Nat))(r:List Nat):List (List Nat):=if r∈ks then ks else ks++[r]
theorem R_(ks:List (List Nat))(r:List Nat):j8 (dR ks) (nH r) (.bl cT)=dR (BM ks r):=by
 unfold j8 BM;rw[zN]
 by_cases h:r∈ks
 .rw[ax h,ax (show(bi (W.bl cT)).isSome=cT from rfl),ax h];unfold dR;rw[aU];refine bW λa _=>?_;show(if nH a=nH r then(nH a,W.bl cT)else(nH a,W.bl cT))=_
  split<;>rfl
 .rw[aF h,aF #[5],aF h];unfold dR;rw[bN];rfl
theorem JV(r:List Nat)(I:ks.length<1000000):vj (dR ks) (nH r)=cT:=by unfold vj A2;rw[bc,bc,df,df];refine⟨⟨by simp[nH,KX.tag],?_⟩,by unfold dR;rw[ag];exact I⟩;rw[fB];intro p U;obtain⟨a,_,rfl⟩:=aE.mp U;rfl
theorem zO(ks:List (List Nat)):FY (dR ks)=cT:=by unfold FY;rw[fB];intro p U;obtain⟨a,_,rfl⟩:=aE.mp U;rfl
theorem zP(ks:List (List Nat)):(dR ks).map (λp=>p.1.w)=ks.map bf:=by unfold dR;rw[aU];exact bW λa _=>VF a
theorem MP(ks:List (List Nat))(r:List Nat):(BM ks r).length<=ks.length+1:=by unfold BM;split<;>simp
theorem MQ{a:List Nat}:a∈BM ks r↔a∈ks\/a=r:=by
 unfold BM
 split
 .rename_i h
  exact⟨.inl,λz=>z.elim id λe=>e▸h⟩
 .simp
theorem cU{l:List α}(d:α)(h:i<l.length):l[i]?=bi (l.getD i d):=by rw[aA,ar h];rfl
noncomputable def gM(Ms:List Mc)(i:Nat):Mc:=Ms.getD i ⟨[],[],[]⟩
theorem EB{Ms:List Mc}(h:i<Ms.length):Ms[i]?=bi (gM Ms i):=cU _ h
theorem wN{Ms:List Mc}(h:i<Ms.length):gM Ms i∈Ms:=az (EB h)
def KP(M:Mc)(nm:List Nat)(q a b:Nat):Nat:=((M.tb.getD (Th M.nm nm q) []).getD a []).getD b 0
def led(Ms:List Mc)(nm:List Nat)(q:Nat)(l r:List Nat):List Nat:=(vr Ms.length).map λi=>KP (gM Ms i) nm q (l.getD i 0) (r.getD i 0)
def rH(Ms:List Mc)(r:List Nat):Prop:=r.length=Ms.length/\∀i,i<Ms.length->r.getD i 0<(gM Ms i).gd.length
def qt(Ms:List Mc):Prop:=∀M∈Ms,Ai M M.gd.length
theorem EC{M:Mc}{a b:Nat}(O:Ai M n)(B:k<2^M.nm.length)(D:a<n)(U:b<n):∃t rw,M.tb[k]?=bi t/\M.tb.getD k []=t/\t[a]?=bi rw/\t.getD a []=rw/\rw[b]?=bi (((M.tb.getD k []).getD a []).getD b 0)/\((M.tb.getD k []).getD a []).getD b 0<n:=by have Z:=cU [] (show k<M.tb.length by rw[O.tb];exact B);have y:=O.t _ (az Z);have Y:=cU [] (show a<(M.tb.getD k []).length by rw[y.1];exact D);have V:=y.2 _ (az Y);have z:=cU 0 (show b<((M.tb.getD k []).getD a []).length by rw[V.1];exact U);exact⟨_,_,Z,rfl,Y,rfl,z,V.2 _ (az z)⟩
abbrev uY(nm:List Nat)(M:Mc):W:=.tup ((BK M nm).tb.map iL)
theorem R'{M:Mc}{q:Nat}(Y:q<2^nm.length)(s:List al):b9 (uY nm M) (.int q) s=.ok (iL (M.tb.getD (Th M.nm nm q) [])) s:=by refine l8 (gn ?_);unfold BK nums;rw[aU,aU,ao,eT Y];rfl
theorem ED{Ms:List Mc}(qZ:qt Ms)(rq:nm.Nodup){q:Nat}(Y:q<2^nm.length)(I:rH Ms l)(R:rH Ms r)(h9:Ms.length<=1000){p:Nat}{s:List al}(U:s[p]?=bi (.lst (Ms.map (uY nm)))) :
  bq [.int q,bf l,bf r,.loc p] s=.ok (bf (led Ms nm q l r)) s:=by
 refine im (N:=4) (ws:=[.int q,bf l,bf r,.loc p]) (body:=jK) ?_ (by simp only[undWs,dO];exact zJ _ _);have d:(l7 (Ms.map (uY nm)) (l.map λk=>W.int (k:Nat)) (r.map λk=>W.int (k:Nat))).length=Ms.length:=by rw[ug,ag,ag,ag,I.1,R.1];omega
 have ec:=oS (cap:=[cg,cg,cg,bi 0]) (fi:=v_ (ac (af 3) (ac (af 1) (ac (af 2) aD)))) (f:=yU 3 (dg (gi 0) (dg (gi 1) (dg (gi 2) j_)))) (el:=e2 b9 (e2 b9 (e2 b9 (af 0) (af 3)) (af 1)) (af 2)) (ρ:=[iO q,bi (bf l),bi (bf r),lO p]) (st:=s) (st1:=s)
  ((led Ms nm q l r).map λk=>W.int (k:Nat)) (Rk (au kv (au kv kn)) (br U)) (by rw[d];show _<=1000000;omega) (br U) (by rw[d];simp[led]) λi w B=>by
   obtain⟨x,y,z,O,Z,V,rfl⟩:=uf B;have D:i<Ms.length:=by rw[<- d];exact(ak.mp B).1
   rw[ao,EB D]at O;cases O
   rw[ao,cU 0 (by rw[I.1];exact D)]at Z;cases Z
   rw[ao,cU 0 (by rw[R.1];exact D)]at V;cases V
   obtain⟨t,oD,_,e2,J,e4,e5,_⟩:=EC (qZ _ (wN D)) (BI rq q) (I.2 i D) (R.2 i D);have ix:=R' (M:=gM Ms i) Y s;rw[e2]at ix e5;rw[e4]at e5;have v:KP (gM Ms i) nm q (l.getD i 0) (r.getD i 0)=oD.getD (r.getD i 0) 0:=by unfold KP;rw[e2,e4]
   refine⟨_,_,?_,rfl,cq (cq (cq kv kv ix) kv (zM J)) kv (zL e5)⟩;rw[<- v];unfold led;rw[aU,ao,eT D];rfl
 apply cS
 .exact b_ (au ec be) (iQ (br bw))
 .exact⟨_,_,rfl,rfl,_,rfl⟩
theorem MR{M:Mc}(D:Ai M n)(U:nm.Nodup):∀k∈nums M.nm nm,k<M.tb.length:=λk B=>by obtain⟨q,_,rfl⟩:=aE.mp B;rw[D.tb];exact BI U q
noncomputable abbrev Tk:al:=.tab 98 ⟨58,4,59,99⟩ "side_by_side.<locals>.lead"
theorem EE{Ms:List Mc}{nm:List Nat}(z:qt Ms)(U:nm.Nodup)(d:nm.length<=13)(I:Ms.length<=1000)(Z:st[1]?=bi Tk) :
  fV [.tup (Ms.map Mc.w),.str nm] st=.ok [.loc st.length] (st++[.lst (Ms.map (uY nm))]):=by
 have Y:=oS (cap:=[cg,bi 1]) (fi:=fT (af 0)) (f:=gi 0) (el:=cV 2 JM (ac (af 0) (ac (af 1) aD))) (ρ:=[bi (.tup (Ms.map Mc.w)),bi (.str nm),cg,cg]) (st:=st) (st1:=st) (ws:=Ms.map Mc.w) (ck:=cg)
  (Ms.map (uY nm)) rfl (by rw[ag];show _<=1000000;omega) trivial #[5] λi w y=>by rw[ao,a8]at y;obtain⟨M,D,rfl⟩:=y;exact⟨_,_,by rw[ao,D];rfl,rfl,cy (au kv kn) (MM M nm d (MR (z M (az D)) U) st) rfl⟩
 exact Rj (cb Y) (b0 Z) rfl
theorem Gn{Ms:List Mc}{ks:List (List Nat)}(B:nm.length<=13)(Kp:ks.length<=1000)(J:∀l∈ks,∀r∈ks,∀q,q<2^nm.length->led Ms nm q l r∈ks){OW:Nat}{s:List al}{w0:W}(Wm:s[OW]?=bi (.rox (dR ks)))(y:s[m]?=bi (.pin dw f o w0))
  (pC:∀l∈ks,∀r∈ks,∀q,q<2^nm.length->kL aL bq m [.int (q:Nat),bf l,bf r] s=.ok (bf (led Ms nm q l r)) s):Ej [.loc OW,.loc m,.int (2^nm.length:Nat)] s=.ok (.bl cT) s:=by
 have U:=Ex B;obtain⟨N,Z⟩:∃N,N=2^nm.length:=⟨_,rfl⟩
 rw[<- Z]at U J pC ⊢;have it:∀V:cE,V[0]?=bi (lO OW)->jf (af 0) V s=.ok (ks.map bf,cg) s:=λV h=>by rw[Ei (jI h) Wm (zO ks),zP]
 refine qT (N:=6) (ws:=[.loc OW,.loc m,.int N]) (body:=Of) ?_;refine gc (λi V d=>∃o3 o4 D:Option W,V=[lO OW,lO m,iO N,o3,o4,D]/\d=s) (it _ rfl) ⟨cg,cg,cg,rfl,rfl⟩ (λ_ _ _ _=>trivial) ?_ ?_
 .rintro i w V d O ⟨o3,o4,D,rfl,rfl⟩;rw[ao,a8]at O;obtain⟨l,I,rfl⟩:=O;have I:=az I;refine⟨_,rfl,?_⟩;refine kN (λi V s''=>∃o4 D:Option W,V=[lO OW,lO m,iO N,bi (bf l),o4,D]/\s''=d) (it _ rfl) ⟨_,_,rfl,rfl⟩ (λ_ _ _ _=>trivial) ?_ ?_
  .rintro i w V s'' O ⟨o4,D,rfl,rfl⟩;rw[ao,a8]at O;obtain⟨r,R,rfl⟩:=O;have R:=az R;refine⟨_,rfl,?_⟩;refine kN (λi V s=>∃D:Option W,V=[lO OW,lO m,iO N,bi (bf l),bi (bf r),D]/\s=s'') (dU (q:=(N:Int)) (st1:=s'') kn #[0]) ⟨_,rfl,rfl⟩ (λ_ _ _ _=>trivial) ?_ ?_
   .rintro q w V s O ⟨D,rfl,rfl⟩;obtain⟨Y,rfl⟩:=kt O;rw[aH]at Y;refine⟨_,rfl,?_⟩;have e:=pC l I r R q Y;have z:re cT (bf (led Ms nm q l r)) (.loc OW) s=.ok (.bl dw) s:=by rw[NK Wm (iR _) (JV _ #[0]),zN,ax (J l I r R q Y)];rfl
    apply mY
    .rw[i4];exact dJ (cq (zu rfl y (au kv (au kv kn)) rfl e) kv z)
    apply dL
    .exact zp
    .exact⟨_,_,rfl,_,rfl,rfl⟩
   .rintro V s ⟨D,rfl,rfl⟩;exact⟨_,_,rfl,_,_,rfl,rfl⟩
  .rintro V s'' ⟨o4,D,rfl,rfl⟩;exact⟨_,_,rfl,_,_,_,rfl,rfl⟩
 .rintro V d ⟨o3,o4,D,rfl,rfl⟩;apply cS
  .exact cu
  .exact⟨_,_,rfl,rfl,rfl⟩
noncomputable def wd:Nat->List Nat
 |0=>[115,97,109,101]
 |1=>[110,111,116]
 |2=>[97,110,100]
 |_=>[111,114]
noncomputable def JW(k:Nat)(g:List Bool):Bool:=if k=0 then g.getD 0 dw else if k=1 then !g.getD 0 dw else if k=2 then g.getD 0 dw&&g.getD 1 dw else g.getD 0 dw||g.getD 1 dw
theorem BN{s:List al}{p:Nat}{l:List Bool}(h:s[p]?=bi (.lst (l.map W.bl)))(D:i<l.length):b9 (.loc p) (.int i) s=.ok (.bl (l.getD i dw)) s:=uM (br h) (gn (by rw[ao,cU dw D];rfl))
theorem MS(B:k<4){g:List Bool}(Z:1<=g.length)(Y:2<=k->2<=g.length){p:Nat}{s:List al}(h:s[p]?=bi (.lst (g.map W.bl))):zG [.str (wd k),.loc p] s=.ok (.bl (JW k g)) s:=by
 have O:=BN h (i:=0) #[0];refine qT (N:=2) (ws:=[.str (wd k),.loc p]) (body:=RB) ?_;obtain rfl|rfl|rfl|rfl:k=0\/k=1\/k=2\/k=3:=by omega
 .apply fq
  .exact dJ (cq kv cu rfl)
  apply dW
  .exact cq kv cu O
  .exact⟨_,_,rfl,rfl,rfl⟩
 .apply bV
  .exact dJ (cq kv cu rfl)
  apply cI;apply fq
  .exact dJ (cq kv cu rfl)
  apply dW
  .exact ID (cq kv cu O) rfl
  .exact⟨_,_,rfl,rfl,rfl⟩
 .have D:=BN h (i:=1) (by have:=Y #[0];omega);apply bV
  .exact dJ (cq kv cu rfl)
  apply cI;apply bV
  .exact dJ (cq kv cu rfl)
  apply cI;apply fq
  .exact dJ (cq kv cu rfl)
  apply dW
  .show _=R.ok (W.bl (g.getD 0 dw&&g.getD 1 dw)) s;generalize g.getD 0 dw=a at O;generalize g.getD 1 dw=b at D
   cases a
   .exact MD (cq kv cu O)
   .exact vm (cq kv cu O) (cq kv cu D)
  .exact⟨_,_,rfl,rfl,rfl⟩
 .have D:=BN h (i:=1) (by have:=Y #[0];omega);apply bV
  .exact dJ (cq kv cu rfl)
  apply cI;apply bV
  .exact dJ (cq kv cu rfl)
  apply cI;apply bV
  .exact dJ (cq kv cu rfl)
  apply cI;apply fq
  .exact dJ (cq kv cu rfl)
  apply dW
  .show _=R.ok (W.bl (g.getD 0 dw||g.getD 1 dw)) s;generalize g.getD 0 dw=a at O;generalize g.getD 1 dw=b at D
   cases a
   .exact Rb (cq kv cu O) (cq kv cu D)
   .exact Rc (cq kv cu O)
  .exact⟨_,_,rfl,rfl,rfl⟩
def EF(ps:List Mc)(r:List Nat):List Bool:=(vr ps.length).map λi=>(gM ps i).gd.getD (r.getD i 0) dw
theorem ql:∀{xs ys:List W} {i:Nat} {w:W},(nS xs ys)[i]?=bi w->∃x y,xs[i]?=bi x/\ys[i]?=bi y/\w=.tup [x,y]:=by
 intro xs
 induction xs with
 |nil=>intro ys i w h;cases ys<;>simp[nS]at h
 |cons x xs U=>
  intro ys i w h
  cases ys with
  |nil=>simp[nS]at h
  |cons y ys=>
   cases i with
   |zero=>simp[nS]at h;exact⟨x,y,rfl,rfl,h.symm⟩
   |succ i=>simp[nS]at h;simpa using U (by simpa[nS]using h)
theorem nX(M:Mc)(s:List al):b9 M.w (.int 1) s=.ok (.tup (M.gd.map W.bl)) s:=rfl
theorem BO{ps:List Mc}{r:List Nat}(I:ps.length<=r.length)(z:ps.length<=1000)(R:∀i,i<ps.length->r.getD i 0<(gM ps i).gd.length)(st:List al) :
  uO [.tup (ps.map Mc.w),bf r] st=.ok (.loc st.length) (st++[.lst ((EF ps r).map W.bl)]):=by
 have U:(nS (ps.map Mc.w) (r.map λk=>W.int (k:Nat))).length=ps.length:=by rw[sO,ag,ag];omega
 have Y:=oS (cap:=[cg,cg]) (fi:=rZ (ac (af 0) (ac (af 1) aD))) (f:=yU 2 (dg (gi 0) (dg (gi 1) j_))) (el:=e2 b9 (e2 b9 (af 0) (eI 1)) (af 1)) (ρ:=[bi (.tup (ps.map Mc.w)),bi (bf r)]) (st:=st) (st1:=st)
  ((EF ps r).map W.bl) (OG (au kv kn)) (by rw[U];show _<=1000000;omega) trivial (by rw[U];simp[EF]) λi w B=>by
   obtain⟨x,y,O,Z,rfl⟩:=ql B;have D:i<ps.length:=by rw[<- U];exact(ak.mp B).1
   rw[ao,EB D]at O;cases O
   rw[ao,cU 0 #[0]]at Z;cases Z
   refine⟨_,_,?_,rfl,cq (cq kv cu (nX _ _)) kv (l8 (gn (by rw[ao,cU dw (R i D)];rfl)))⟩;unfold EF;rw[aU,ao,eT D];rfl
 obtain⟨j,x,⟨rfl,rfl⟩,e⟩:=qQ (N:=2) (ws:=[.tup (ps.map Mc.w),bf r]) (body:=Og) (st:=st) (Q:=λj x=>j=0/\x=[.lst ((EF ps r).map W.bl)]) (cS Y ⟨_,_,rfl,0,_,rfl,rfl,rfl,rfl⟩);exact e
theorem MT(h:r.length=n+1)(s:List al):b9 (bf r) (.int (-1)) s=.ok (.int (r.getD n 0:Nat)) s:=by
 refine l8 ?_;have I:(r.map λk=>W.int (k:Nat)).length=n+1:=by rw[ag,h]
 unfold u9;rw[I];rw[show Lk (n+1) (-1)=bi n by unfold Lk;rw[aF #[0]];simp;omega];show(r.map λk=>W.int (k:Nat))[n]?=_;rw[ao,cU 0 #[0]];rfl
theorem Sa{ps:List Mc}{M:Mc}(h:i<ps.length):gM (ps++[M]) i=gM ps i:=by unfold gM;rw[aA,aA,aV h]
theorem MU{ps:List Mc}{M:Mc}:gM (ps++[M]) ps.length=M:=by unfold gM;rw[aA,aY (am _),iy];rfl
theorem Sb(B:k<4){ps:List Mc}{M:Mc}(Z:1<=ps.length)(Y:2<=k->2<=ps.length)(I:ps.length<=1000)(R:rH (ps++[M]) r)(O:M.gd.getD (r.getD ps.length 0) dw=JW k (EF ps r))(st:List al) :
  Bz [.str (wd k),.tup (ps.map Mc.w),M.w,bf r] st=.ok (.bl cT) st:=by
 have Cb:r.length=ps.length+1:=by rw[R.1];simp
 have w:=BO (ps:=ps) (r:=r) #[0] I (λi D=>by have:=R.2 i (by simp;omega);rwa[Sa D]at this) st;have y:(EF ps r).length=ps.length:=by simp[EF]
 have J:=MS B (g:=EF ps r) #[0] (λz=>by have:=Y z;omega) (s:=st++[.lst ((EF ps r).map W.bl)]) bw;have V:r.getD ps.length 0<M.gd.length:=by have:=R.2 ps.length #[5];rwa[MU]at this
 have d:b9 (.tup (M.gd.map W.bl)) (.int (r.getD ps.length 0:Nat)) st=.ok (.bl (JW k (EF ps r))) st:=l8 (gn (by rw[ao,cU dw V,O];rfl));refine im (N:=4) (ws:=[.str (wd k),.tup (ps.map Mc.w),M.w,bf r]) (body:=Om) ?_ rfl;apply cS
 .exact cq (cq (cq kv cu (nX _ _)) (cq kv (NG cu) (MT Cb _)) d) (cy (au kv (au (cy (au kv kn) w rfl) be)) J rfl) (NJ (b:=cT) (n_ _))
 .exact⟨_,_,rfl,rfl,_,rfl⟩
theorem Go{M:Mc}{a:Nat}(h:a<M.gd.length)(I:M.gd.length<=1000)(st:List al):Bx [M.w,.int (a:Nat)] st=.ok (.bl cT) st:=by
 have z:e7 [.tup (M.gd.map W.bl)] st=.ok (.int M.gd.length) st:=by rw[se,ag]
 have B:FL (.int 0) (.int (a:Nat)) st=.ok (.bl cT) st:=NI (bb #[0]);have J:decide ((a:Int)<(M.gd.length:Int))=cT:=bb #[0];have D:yR (.int (a:Nat)) (.int M.gd.length) st=.ok (.bl cT) st:=uL J;refine qT (N:=2) (ws:=[M.w,.int (a:Nat)]) (body:=Oj) ?_;apply cS
 .exact Gm cu kv B (b_ (au (cq kv cu (nX _ _)) be) z) D
 .exact⟨_,_,rfl,rfl,rfl⟩
theorem JX{Ms:List Mc}(R:rH Ms r)(I:Ms.length<=1000)(d:∀M∈Ms,M.gd.length<=1000)(st:List al):By [.tup (Ms.map Mc.w),bf r] st=.ok (.bl cT) st:=by
 have U:(nS (Ms.map Mc.w) (r.map λk=>W.int (k:Nat))).length=Ms.length:=by rw[sO,ag,ag,R.1];omega
 have Y:=oS (cap:=[cg,cg]) (fi:=rZ (ac (af 0) (ac (af 1) aD))) (f:=yU 2 (dg (gi 0) (dg (gi 1) j_))) (el:=cV 2 Bx (ac (af 0) (ac (af 1) aD))) (ρ:=[bi (.tup (Ms.map Mc.w)),bi (bf r)]) (st:=st) (st1:=st)
  ((pw Ms.length cT).map W.bl) (OG (au kv kn)) (by rw[U];show _<=1000000;omega) trivial (by rw[U];simp) λi w B=>by
   obtain⟨x,y,O,Z,rfl⟩:=ql B;have D:i<Ms.length:=by rw[<- U];exact(ak.mp B).1
   rw[ao,EB D]at O;cases O
   rw[ao,cU 0 (by rw[R.1];exact D)]at Z;cases Z
   refine⟨_,_,?_,rfl,cy (au kv kn) (Go (R.2 i D) (d _ (wN D)) st) rfl⟩;rw[ao,cX,ax D];rfl
 refine im (N:=2) (ws:=[.tup (Ms.map Mc.w),bf r]) (body:=Ol) ?_ rfl;apply cS
 .exact b_ (au Y be) (NL (br bw))
 .exact⟨_,_,rfl,by simp,_,rfl⟩
theorem JY(I:rows.length<=1000)(d:nm.length<=13)(h:rows.length*rows.length*2^nm.length<=40000)(st:List al):Em [.tup (rows.map bf),.str nm] st=.ok .non st:=by
 have e:=Ez rows.length nm I #[0] st;generalize rows.length*rows.length*2^nm.length=k at h e;have z:e7 [.str nm] st=.ok (.int nm.length) st:=l9 (by show _<=1000000;omega);have Tg:e7 [.tup (rows.map bf)] st=.ok (.int rows.length) st:=by rw[se,ag]
 have y:decide ((40000:Int)<(k:Int))=dw:=aQ #[0];have J:decide ((13:Int)<(nm.length:Int))=dw:=aQ #[0];refine Bm (N:=2) (ws:=[.tup (rows.map bf),.str nm]) (body:=JO) ?_;simp only[JO,oT,oU];apply bV
 .exact dJ (cq (b_ kn z) cu (uL J))
 apply cI;apply mY
 .exact dJ (cq (cy (au (b_ kn Tg) kn) e rfl) cu (uL y))
 apply dL
 .exact zp
 .exact⟨_,_,rfl,[],by simp⟩
theorem ni{a b:List al}(h:gK a)(Y:gK b):gK (a++b):=λd D=>by
 rcases aZ.mp D with z|z
 .exact h d z
 .exact Y d z
theorem np1{c:al}(h:∀a,jH a c=dw):gK [c]:=λd D a=>by rw[aM.mp D];exact h a
theorem KQ(ws:List W):gK [.lst ws]:=np1 λ_=>rfl
noncomputable def uQ(Ms:List Mc):List Nat:=(Ms.map Mc.nm).flatten
theorem JZ(l:List (List Nat)):(l.map Y8).sum=l.flatten.length:=by rw[List.length_flatten]
theorem mul_zero(n:Nat):W.tup (pw n [W.int 0]).flatten=bf (pw n 0):=by
 unfold bf
 congr 1
 induction n with
 |zero=>rfl
 |succ n U=>rw[cC,dm,U,cC,aK];rfl
theorem J0{k:Nat}(y:k<4){ps:List Mc}{M:Mc}{rows:List (List Nat)}{nm:List Nat}(qZ:qt (ps++[M]))(Z:1<=ps.length)(Y:2<=k->2<=ps.length)(h9:ps.length<=9)(hg:∀M'∈ps++[M],M'.gd.length<=1000)
  (rq:fH (uQ (ps++[M]))=nm) (SR:∀c∈uQ (ps++[M]),c∈LL) (GO:(uQ (ps++[M])).length<4000) (tL:nm.length<=13) (Cb:rows.length<=1000) (X3:rows.length*rows.length*2^nm.length<=40000)
  (uC:∀r∈rows,rH (ps++[M]) r) (hz:pw (ps.length+1) 0∈rows) (B:∀r∈rows,M.gd.getD (r.getD ps.length 0) dw=JW k (EF ps r))
  (J:∀l∈rows,∀r∈rows,∀q,q<2^nm.length->led (ps++[M]) nm q l r∈rows) {st:List al} (np:gK st) (ht:st[1]?=bi Tk) :
  yn [.str (wd k),.tup (ps.map Mc.w),M.w,.tup (rows.map bf)] st=.ok (.bl cT) st:=by
 have jB:nm.Nodup:=by rw[<- rq];exact(gm _).imp λh=>aJ h
 obtain⟨Ms,hMe⟩:∃Ms,Ms=ps++[M]:=⟨_,rfl⟩
 have hMw:(ps.map Mc.w)++[M.w]=Ms.map Mc.w:=by rw[hMe,bN];rfl
 have hml:Ms.length=ps.length+1:=by rw[hMe];simp
 rw[<- hMe]at qZ hg rq SR GO uC J;refine im (N:=8) (ws:=[.str (wd k),.tup (ps.map Mc.w),M.w,.tup (rows.map bf)]) (body:=On) ?_ rfl;have ead:da (.tup (ps.map Mc.w)) (.tup [M.w]) st=.ok (.tup (Ms.map Mc.w)) st:=by rw[<- hMw];exact zt (by simp only[ay,ag];show _<=1000000;simp;omega)
 apply aO
 .exact cb (cq kv (fI kn (aw rfl)) ead)
 have ec:=oS (cap:=[cg]) (fi:=fT (af 4)) (f:=gi 0) (el:=e2 b9 (af 0) (eI 0)) (ρ:=[bi (.str (wd k)),bi (.tup (ps.map Mc.w)),bi M.w,bi (.tup (rows.map bf)),bi (.tup (Ms.map Mc.w)),cg,cg,cg]) (st:=st) (st1:=st) (ws:=Ms.map Mc.w) (ck:=cg)
  ((Ms.map Mc.nm).map W.str) rfl (by rw[ag];show _<=1000000;omega) trivial #[5] λi w hw=>by rw[ao,a8]at hw;obtain⟨M',hM',rfl⟩:=hw;exact⟨_,_,by rw[aU,ao,hM'];rfl,rfl,cq kv cu rfl⟩
 have ej:=uo (sep:=[]) (ls:=Ms.map Mc.nm) (st:=st++[.lst ((Ms.map Mc.nm).map W.str)]) (n:=st.length) (br bw) (by rw[JZ];have:(uQ Ms).length<4000:=GO;unfold uQ at this;show _<=1000000;simp only[pO,Nat.zero_mul,Nat.mul_zero,iu];omega);rw[nN]at ej;have eo:=BL (l:=uQ Ms) GO SR (st++[.lst ((Ms.map Mc.nm).map W.str)]);rw[rq]at eo;apply aO
 .exact cb (cy (au (CZ cu rfl (au ec be) ej) be) eo rfl)
 generalize sj:st++[al.lst ((Ms.map Mc.nm).map W.str)]=s1;have np1':gK s1:=by rw[<- sj];exact ni np (KQ _)
 have k1:st <+: s1:=by rw[<- sj];exact aq _ _
 apply aO
 .exact iG (cy (au kv kn) (JY Cb tL X3 s1) rfl)
 apply aO
 .exact cb (show DU _ s1=.ok (.loc s1.length) (s1++[.dct []])from rfl)
 refine gc (λi V s=>∃(ks:List (List Nat)) (o7:Option W),V=[bi (.str (wd k)),bi (.tup (ps.map Mc.w)),bi M.w,bi (.tup (rows.map bf)),bi (.tup (Ms.map Mc.w)),bi (.str nm),lO s1.length,o7]/\(s=s1++[.dcx (dR ks)]\/s=s1++[.dct []]/\ks=[])/\ks.length<=i/\∀r,r∈ks↔r∈rows.take i)
  (k:=(rows.map bf,cg)) (st1:=s1++[.dct []]) rfl ⟨[],cg,rfl,.inr ⟨rfl,rfl⟩,am _,by simp⟩ (λ_ _ _ _=>trivial) ?_ ?_
 .rintro i w V s hw ⟨ks,o7,rfl,hs',Kp,hks⟩;rw[ao,a8]at hw;obtain⟨r,R,rfl⟩:=hw;have D:i<rows.length:=(ak.mp R).1;refine⟨_,rfl,?_⟩;have U:gW s (.loc s1.length)=bi (s1.length,dR ks):=by rcases hs' with rfl|⟨rfl,rfl⟩<;>simp only[gW,bw]<;>rfl
  have SH:s.set s1.length (.dcx (j8 (dR ks) (nH r) (.bl cT)))=s1++[.dcx (dR (BM ks r))]:=by rw[R_];rcases hs' with rfl|⟨rfl,rfl⟩<;>rw[jx]<;>rfl
  have ep:=wA (v:=.bl cT) U (iR r) (JV r #[0]);rw[SH]at ep;apply dL
  .exact Bj cu kv kv ep
  .refine⟨_,_,rfl,BM ks r,_,rfl,.inl rfl,?_,λa=>?_⟩
   .have:=MP ks r;omega
   .rw[MQ,hks,qW R,aZ,aM]
 .rintro V s ⟨ks,o7,rfl,hs',Kp,hks⟩;rw[ag]at Kp hks;rw[fE]at hks;have nZ:s=s1++[.dcx (dR ks)]:=by
   rcases hs' with z|⟨z,rfl⟩
   .exact z
   .have:=(hks _).mpr hz;cases this
  subst nZ;have it0:=Eh (fe:=af 6) (ρ:=[bi (.str (wd k)),bi (.tup (ps.map Mc.w)),bi M.w,bi (.tup (rows.map bf)),bi (.tup (Ms.map Mc.w)),bi (.str nm),lO s1.length,o7]) (st:=s1++[.dcx (dR ks)]) kv (.inl bw) (zO ks);rw[zP,jx,show[al.dcx (dR ks)].set 0 (al.rox (dR ks))=[al.rox (dR ks)]from rfl]at it0;generalize nZ:s1++[al.rox (dR ks)]=s2 at it0;have VV:s2[s1.length]?=bi (.rox (dR ks)):=by rw[<- nZ];exact bw
  have k2:s1 <+: s2:=by rw[<- nZ];exact aq _ _
  have np2:gK s2:=by rw[<- nZ];exact ni np1' (P.np1 λ_=>rfl)
  have alltrue:∀(cap:List (Option Nat)) (el:FE) (V:cE) (s0 s:List al),jf (af 6) V s0=.ok (ks.map bf,cg) s->(∀r∈rows,el ((pR cap V).set 0 (bi (bf r))) s=.ok (.bl cT) s)->0<cap.length ->
    bC y4 (ac (fS cap (jf (af 6)) (gi 0) jF el) aD) V s0=.ok (.bl cT) (s++[.lst ((pw ks.length cT).map W.bl)]):=λcap el V s0 s it h uz=>by
   have ec:=oS (cap:=cap) (fi:=jf (af 6)) (f:=gi 0) (el:=el) (ρ:=V) (st:=s0) (st1:=s) ((pw ks.length cT).map W.bl) it (by rw[ag];show _<=1000000;omega) trivial #[5] λi w hw=>by rw[ao,a8]at hw;obtain⟨r,R,rfl⟩:=hw;have D:i<ks.length:=(ak.mp R).1;exact⟨_,_,by rw[ao,cX,ax D];rfl,rfl,h r ((hks r).mp (az R))⟩
   have ea:=NL (l:=pw ks.length cT) (st:=s++[.lst ((pw ks.length cT).map W.bl)]) (n:=s.length) (br bw);rw[show(pw ks.length cT).all id=cT by simp]at ea;exact b_ (au ec be) ea
  have a1:=alltrue [cg,bi 4] (cV 2 By (ac (af 1) (ac (af 0) aD))) _ _ _ it0 (λr R=>cy (au kv kn) (JX (uC r R) #[0] hg s2) rfl) #[5];apply bV
  .exact wu (dJ a1) rfl
  apply cI;generalize hs3:s2++[al.lst ((pw ks.length cT).map W.bl)]=s3;have hk3:s3[s1.length]?=bi (.rox (dR ks)):=by rw[<- hs3];exact b0 VV
  have k3:s2 <+: s3:=by rw[<- hs3];exact aq _ _
  have np3:gK s3:=by rw[<- hs3];exact ni np2 (KQ _)
  have ln:e7 [.tup (Ms.map Mc.w)] s3=.ok (.int ((ps.length+1:Nat):Int)) s3:=by rw[se,ag,hml]
  have em:=Rm (ws:=[W.int 0]) (k:=ps.length+1) (st:=s3) #[5] #[0] (by simp;omega);rw[mul_zero]at em;have ei:re cT (bf (pw (ps.length+1) 0)) (.loc s1.length) s3=.ok (.bl dw) s3:=by rw[NK hk3 (iR _) (JV _ #[0]),zN,ax ((hks _).mpr hz)];rfl
  apply bV
  .exact dJ (cq (cq (fI (au cu be) (aw rfl)) (b_ kn ln) em) kv ei)
  apply cI;have it3:=Ei (fe:=af 6) (ρ:=[bi (.str (wd k)),bi (.tup (ps.map Mc.w)),bi M.w,bi (.tup (rows.map bf)),bi (.tup (Ms.map Mc.w)),bi (.str nm),lO s1.length,o7]) (st:=s3) kv hk3 (zO ks);rw[zP]at it3;have a2:=alltrue [cg,bi 0,bi 1,bi 2] (cV 4 Bz (ac (af 1) (ac (af 2) (ac (af 3) (ac (af 0) aD))))) _ _ _ it3 (λr R=>cy (au kv (au kv (au kv kn))) (Sb y Z Y #[0] (by rw[<- hMe];exact uC r R) (B r R) s3) rfl) #[5];apply bV
  .exact wu (dJ a2) rfl
  apply cI;generalize hs4:s3++[al.lst ((pw ks.length cT).map W.bl)]=s4;have hk4:s4[s1.length]?=bi (.rox (dR ks)):=by rw[<- hs4];exact b0 hk3
  have k4:s3 <+: s4:=by rw[<- hs4];exact aq _ _
  have np4:gK s4:=by rw[<- hs4];exact ni np3 (KQ _)
  have es:=EE (Ms:=Ms) (nm:=nm) qZ jB tL #[0] (st:=s4) (cJ (k1.trans (k2.trans (k3.trans k4))) ht);generalize hs5:s4++[al.lst (Ms.map (uY nm))]=s5 at es;have hk5:s5[s1.length]?=bi (.rox (dR ks)):=by rw[<- hs5];exact b0 hk4
  have ht5:s5[s4.length]?=bi (.lst (Ms.map (uY nm))):=by rw[<- hs5];exact bw
  have np5:gK s5:=by rw[<- hs5];exact ni np4 (KQ _)
  have xH:st <+: s5:=by rw[<- hs5];exact k1.trans (k2.trans (k3.trans (k4.trans (aq _ _))))
  obtain⟨x,rfl⟩:=xH;refine cS (Ri (st1:=s4) (st2:=s4) kv (au kv kn) rfl es (IK _ _ _ _ _ _) (w:=.bl cT) rfl λf o os ok hos=>?_) ⟨_,_,rfl,rfl,_,rfl⟩;obtain⟨cl,jN,pm,cd,ct,O,hcn,rfl⟩:=ok;generalize d:Zs "lead" "side_by_side.<locals>.lead" (dZ bK) (dq bK) (aI bK) cl jN pm cd ct=o at hos ⊢;have hok:aL o:=⟨cl,jN,pm,cd,ct,O,hcn,d.symm⟩
  have hclo:dB o=cl:=by rw[<- d];rfl
  have kT:cl.length=1:=by have:=cP Y8 O;rw[ag]at this;exact this
  rw[hclo]at hos ⊢;have hz1:=C2 (C:=cl) (os:=os) (cws:=[W.loc s4.length]) hos (by rw[kT];rfl);have hz2:=C3 (C:=cl) (os:=os) (cws:=[W.loc s4.length]) hos (by rw[kT];rfl);generalize f_ cl os [W.loc s4.length]=Lz at hz1 hz2;generalize hs6:(st++x)++[al.pin dw f o .non]=s6;have np6:gK s6:=by rw[<- hs6];exact ni np5 (P.np1 λ_=>rfl)
  have hm6:s6[(st++x).length]?=bi (.pin dw f o .non):=by rw[<- hs6];exact bw
  have hk6:s6[s1.length]?=bi (.rox (dR ks)):=by rw[<- hs6];exact b0 hk5
  have ht6:s6[s4.length]?=bi (.lst (Ms.map (uY nm))):=by rw[<- hs6];exact b0 ht5
  have lnx:∀s,e7 [.str nm] s=.ok (.int nm.length) s:=λs=>l9 (by show _<=1000000;omega);refine⟨.int (2^nm.length:Nat),[al.pin dw f o .non]++cY Lz,cy (au (b_ kn (lnx _)) be) (C9 _ #[0] _) rfl,?_⟩;rw[show(st++x)++([al.pin dw f o .non]++cY Lz)=s6++cY Lz by rw[<- hs6];simp only[aN]];refine Gn (Ms:=Ms) (ks:=ks) tL #[0] (λl I r R q hq=>(hks _).mpr (J l ((hks l).mp I) r ((hks r).mp R) q hq)) (b0 hk6) (b0 hm6) λl I r R q hq=>?_;have hp0:s6++cY Lz=s6++(cY Lz++[]):=by rw[bD]
  rw[hp0];show kL _ _ _ _ (s6++(cY Lz++[]))=.ok _ (s6++(cY Lz++[]));refine Bo (b0 hm6) hok (by rw[hclo,hz1]) (by rw[hz1];exact hcn) np6 ?_;rw[hz2];exact ED qZ jB hq (uC l ((hks l).mp I)) (uC r ((hks r).mp R)) #[0] (b0 ht6)
theorem J1(st:List al):∃n:Nat,∀c:Nat,n<=c->∀d∈st,jH c d=dw:=by
 induction st with
 |nil=>exact⟨0,λ_ _ _ h=>by cases h⟩
 |cons d st U=>
  obtain⟨n,R⟩:=U;have Z:∃k:Nat,∀c:Nat,k<=c->jH c d=dw:=by
   cases d with
   |pin k a o w=>
    cases k with
    |false=>exact⟨0,λ_ _=>rfl⟩
    |true=>exact⟨a+1,λc J=>beq_false_of_ne (show a≠c by intro z;rw[z]at J;exact absurd J (Nat.not_succ_le_self _))⟩
   |_=>exact⟨0,λ_ _=>rfl⟩
  obtain⟨k,B⟩:=Z;refine⟨n+k,λc J e he=>?_⟩;rcases aG.mp he with rfl|he
  .exact B c #[0]
  .exact R c #[0] e he
theorem Sc(q:Str)(pr:Y7)(b:i9)(sc:Y0)(xs:List Str)(st:List al):∃o,NF q pr b sc xs o/\r_ o st:=by
 obtain⟨n,R⟩:=J1 st;refine⟨_,⟨xs.zip ((vr xs.length).map (n+·)),.none,0,.none,?_,?_,rfl⟩,?_⟩
 .exact oq #[5]
 .rw[oz #[5]];exact List.nodup_iff_pairwise_ne.mpr (dE.mpr (List.Pairwise.imp (λh z=>h (eV z)) List.nodup_range))
 .intro y Z d D;have Z:y∈xs.zip ((vr xs.length).map (n+·)):=Z;obtain⟨k,_,e⟩:=aE.mp (eX Z).2;exact R _ (by rw[<- e];exact ou _ _) d D
theorem MV{V':Obj->Prop}{P:i0}{I:Pos}{st2:List al}{x y w:W}(D:fa ρ st=.ok x st1)(U:fb ρ st1=.ok y st2)(B:3=n)(d:lX st2 j P I q)(J:pB is ρ=bi cws)
  (V:undWs st2.length [w]=cT) (O:∃o,V' o/\r_ o st2) (h:∀f o,V' o->r_ o st2->A6 F o cws [x,y,.loc st2.length] (st2++[.pin dw f o .non])=.ok w (st2++[.pin dw f o .non])):uk n F V' j P I q is fa fb ρ st=.ok w st2:=by obtain⟨z,Y⟩:=O;unfold uk;rw[D];simp only[R.bind_ok];rw[U];simp only[R.bind_ok];rw[ax ⟨B,d⟩,J,cO];refine sW (0,z) Y λp Z=>?_;rw[h p.1 p.2 Z.1 Z.2];show R.ok w (iJ st2 (st2++[_]) [w])=_;rw[uv V]
theorem Gp{ok:Obj->Prop}{a b:List al}{l:List kr}{w0 v:W}(R:(a++(cY l++b))[m]?=bi (.pin dw f o w0))(V:ok o)(J:(dB o).map (·.2)=l.map λx=>x.2.1)(nd:(l.map λx=>x.2.1).Nodup)(B:r_ o a)
  (Y:∀s,F (ws++l.map λx=>x.2.2.2) (a++s)=.ok v (a++s)):kL ok F m ws (a++(cY l++b))=.ok v (a++(cY l++b)):=by
 have Z:((dB o).map λy=>((a++(cY l++b)).findIdx? (jH y.2)).getD 0)=Zw a.length l.length:=by
  rw[<- ut l a b (λd D x O=>by obtain⟨y,z,e⟩:=aE.mp (show x.2.1∈(dB o).map (·.2) by rw[J];exact aE.mpr ⟨x,O,rfl⟩);rw[<- e];exact B y z d D) nd]
  have:∀(g:i0->Nat),(dB o).map (λy=>g y.2)=l.map λx=>g x.2.1:=λg=>by have:=cP (List.map g) J;rw[aU,aU]at this;exact this
  exact this λc=>((a++(cY l++b)).findIdx? (jH c)).getD 0
 unfold kL;rw[R];simp only;rw[ax V,Z,oR];simp only;have e2:((rG a.length l).map λx=>x.2.1)=l.map λx=>x.2.1:=lP (λy=>y.1) _ _;have I:((rG a.length l).map λx=>x.2.2.2)=l.map λx=>x.2.2.2:=lP (λy=>y.2.2) _ _;rw[ax (by rw[e2,J]),I,Y];simp only[ur]
def VG(E:W->W->W->W)(R:Nat)(x l:W):W:=.tup ((bO 0 R).map (E x l))
def WS(E:W->W->W->W)(R:Nat)(x:W):W:=.tup ((bO 0 R).map (VG E R x))
def uZ(E:W->W->W->W)(L R:Nat):W:=.tup ((bO 0 L).map (WS E R))
theorem qY{l:List α}{x:α}(h:l[i]?=bi x):l.take (i+1)=l.take i++[x]:=by rw[qE,h];rfl
theorem vo{f:W->W}:∀{l:List W},(∀x∈l,(f x).und n=cT)->undWs n (l.map f)=cT
 |[],_=>rfl
 |x::l,h=>by show((f x).und n&&undWs n (l.map f))=cT;rw[h x aX,vo λy Z=>h y (aC _ Z)];rfl
theorem vp{E:W->W->W->W}{L R:Nat}(d:∀x l r,(E x l r).und n=cT):(uZ E L R).und n=cT:=by unfold uZ W.und;refine vo λx _=>?_;unfold WS W.und;refine vo λl _=>?_;unfold VG W.und;exact vo λr _=>d x l r
theorem J2{E:W->W->W->W}{L R:Nat}{w0:W}(hL:L<=100000)(hR:R<=100000)(Y:st[m]?=bi (.pin dw f o w0))(O:∀x l r,(E x l r).und st.length=cT)
  (J:∀s,st <+: s->∀x∈bO 0 L,∀l∈bO 0 R,∀r∈bO 0 R,kL dv dD m [x,l,r] s=.ok (E x l r) s):JK [.int L,.int R,.loc m] st=.ok (uZ E L R) st:=by
 refine im (N:=7) (ws:=[.int L,.int R,.loc m]) (body:=Vs) ?_ (by show(_&&cT)=cT;rw[vp O];rfl);apply aO
 ·(walk_at "evs")
 refine gc (λi V s=>∃o4 o5 o6:Option W,V=[bi (.int L),bi (.int R),bi (.loc m),bi (.loc st.length),o4,o5,o6]/\st <+: s/\s[st.length]?=bi (.lst (((bO 0 L).take i).map (WS E R))))
  (dU (q:=(L:Int)) (st1:=st++[al.lst []]) kn #[0]) ⟨cg,cg,cg,rfl,aq _ _,by rw[bw];rfl⟩ (λ_ _ _ _=>trivial) ?_ ?_
 .rintro i w V s B ⟨o4,o5,o6,rfl,U,gp⟩;rw[aH]at B;have hwm:w∈bO 0 L:=az B;have D:i<L:=by have:=(ak.mp B).1;rw[bM]at this;exact this
  refine⟨_,rfl,?_⟩;apply aO
  ·(walk_at "evs")
  refine gc (λj V z=>∃o6:Option W,V=[bi (.int L),bi (.int R),bi (.loc m),bi (.loc st.length),bi w,bi (.loc s.length),o6]/\s <+: z/\z[s.length]?=bi (.lst (((bO 0 R).take j).map (VG E R w))))
   (dU (q:=(R:Int)) (st1:=s++[al.lst []]) kn #[0]) ⟨_,rfl,aq _ _,by rw[bw];rfl⟩ (λ_ _ _ _=>trivial) ?_ ?_
  .rintro j v V z Z ⟨o6,rfl,I,hcz⟩;rw[aH]at Z;have hvm:v∈bO 0 R:=az Z;have hj:j<R:=by have:=(ak.mp Z).1;rw[bM]at this;exact this
   refine⟨_,rfl,?_⟩;have hmz:z[m]?=bi (.pin dw f o w0):=cJ (U.trans I) Y;have ec:=qU (cap:=[cg,bi 2,bi 4,bi 6]) (fi:=bJ (ac (af 1) aD)) (f:=gi 0) (el:=nF 1 3 dv dD (ac (af 2) (ac (af 3) (ac (af 0) aD)))) (ρ:=[bi (.int L),bi (.int R),bi (.loc m),bi (.loc st.length),bi w,bi (.loc s.length),bi v]) (st:=z) (st1:=z)
    (ws:=bO 0 (R:Int).toNat) (ck:=cg) (E w v) (dU (q:=(R:Int)) kn #[0]) (by rw[bM,aH];show R<=1000000;omega) trivial λr d=>by rw[aH]at d;exact⟨_,rfl,zu (m:=m) rfl hmz (au kv (au kv kn)) rfl (J z (U.trans I) w hwm v hvm r d)⟩
   rw[aH]at ec;have et:bC eJ (ac (fS [cg,bi 2,bi 4,bi 6] (bJ (ac (af 1) aD)) (gi 0) jF (nF 1 3 dv dD (ac (af 2) (ac (af 3) (ac (af 0) aD))))) aD) [bi (.int L),bi (.int R),bi (.loc m),bi (.loc st.length),bi w,bi (.loc s.length),bi v] z=.ok (VG E R w v) (z++[.lst ((bO 0 R).map (E w v))]):=
    b_ (au ec be) (iQ (br bw))
   have ap:=me (y:=VG E R w v) (cJ (s:=z++[.lst ((bO 0 R).map (E w v))]) (aq _ _) hcz) (by rw[ag,a_];omega);apply dL
   .exact iG (sd kv (gY hcz) (au et be) ap)
   .refine⟨_,_,rfl,_,rfl,jL (oV I) (am _),?_⟩;rw[md (cJ (aq _ _) hcz),qY Z,bN];rfl
  .rintro V z ⟨o6,rfl,I,hcz⟩;rw[aH,bM,iw (by rw[bM];exact am _)]at hcz;have wX:=cJ I gp;have ap:=me (y:=WS E R w) wX (by rw[ag,a_];omega);apply dL
   .exact iG (sd kv (gY wX) (au (b_ kn (iQ (br hcz))) be) ap)
   .refine⟨_,_,rfl,_,_,_,rfl,jL (U.trans I) (am _),?_⟩;rw[md wX,qY B,bN];rfl
 .rintro V s ⟨o4,o5,o6,rfl,U,gp⟩;rw[aH,bM,iw (by rw[bM];exact am _)]at gp;obtain⟨x,rfl⟩:=U;apply cS
  .exact b_ kn (iQ (br gp))
  .exact⟨_,_,rfl,rfl,_,rfl⟩
theorem BP(k O:KX)(v:W):∀kvs:List (KX×W),fL (kvs.map λp=>if p.1=k then(p.1,v)else p) O=if O=k then(fL kvs k).map (λ_=>v)else fL kvs O
 |[]=>by simp[fL]
 |p::l=>by
  rw[aK,ku,ku,ku,BP k O v l]
  by_cases U:p.1=k
  .rw[ax U]
   by_cases B:O=k
   .rw[ax (show(p.1,v).1=O from U.trans B.symm),ax B,ax U];rfl
   .rw[aF (show ¬ (p.1,v).1=O from λz=>B (z.symm.trans U)),aF B,aF B,aF (λz:p.1=O=>B (z.symm.trans U))]
  .rw[aF U]
   by_cases B:O=k
   .rw[aF (λz=>U (z.trans B)),ax B,ax B,aF U]
   .rw[aF B,aF B]
theorem BQ(k O:KX)(v:W):∀kvs:List (KX×W),fL (kvs++[(k,v)]) O=match fL kvs O with|some w=>bi w|none=>if k=O then bi v else cg
 |[]=>by rw[f6,ku];rfl
 |p::l=>by
  rw[List.cons_append,ku,ku,BQ k O v l]
  by_cases U:p.1=O
  .rw[ax U,ax U]
  .rw[aF U,aF U]
theorem J3(kvs:List (KX×W))(k O:KX)(v:W):fL (j8 kvs k v) O=if O=k then bi v else fL kvs O:=by
 unfold j8
 by_cases h:(fL kvs k).isSome=cT
 .rw[ax h,BP]
  by_cases B:O=k
  .rw[ax B,ax B];obtain⟨w,y⟩:=nI.mp h;rw[y];rfl
  .rw[aF B,aF B]
 .rw[aF h,BQ];have R:fL kvs k=cg:=by cases e:fL kvs k with|none=>rfl|some w=>rw[e]at h;exact absurd rfl h
  by_cases B:O=k
  .subst B;rw[R,ax rfl]
  .rw[aF B]
   cases fL kvs O with
   |some w=>rfl
   |none=>simp only;rw[aF (λz=>B z.symm)]
structure oW(D:List (KX×W))(S:List Nat->Prop):Prop where
 ent:∀p∈D,∃r,p.1=nH r/\∃k:Nat,p.2=.int k
 has:∀r,(fL D (nH r)).isSome=cT↔S r
theorem oW.nil:oW [] λ_=>False:=⟨by simp,λr=>by simp[fL]⟩
theorem oW.ok{D:List (KX×W)}{S:List Nat->Prop}(h:oW D S)(r:List Nat)(I:D.length<1000000):vj D (nH r)=cT:=by unfold vj A2;rw[bc,bc,df,df];refine⟨⟨by simp[nH,KX.tag],?_⟩,I⟩;rw[fB];intro p U;obtain⟨a,e,_⟩:=h.ent p U;rw[e];rfl
theorem oW.val{D:List (KX×W)}{S:List Nat->Prop}(h:oW D S){r:List Nat}(R:S r):∃k:Nat,fL D (nH r)=bi (.int k):=by
 have:=(h.has r).mpr R
 cases e:fL D (nH r)with
 |none=>rw[e]at this;cases this
 |some w=>
  unfold fL at e;rw[a8]at e;obtain⟨p,U,rfl⟩:=e;obtain⟨_,_,k,B⟩:=h.ent p (List.mem_of_find?_eq_some U);exact⟨k,by rw[B]⟩
theorem oW.put{D:List (KX×W)}{S:List Nat->Prop}(h:oW D S)(r:List Nat)(k:Nat):oW (j8 D (nH r) (.int k)) (λa=>S a\/a=r):=by
 refine⟨λp hp=>?_,λa=>?_⟩
 .unfold j8 at hp
  split at hp
  .obtain⟨y,w,rfl⟩:=aE.mp hp;obtain⟨a,d,O,e2⟩:=h.ent y w
   split
   .exact⟨a,d,k,rfl⟩
   .exact⟨a,d,O,e2⟩
  .rcases aZ.mp hp with hp|hp
   .exact h.ent p hp
   .rw[aM.mp hp];exact⟨r,rfl,k,rfl⟩
 .rw[J3]
  by_cases e:a=r
  .subst e;rw[ax rfl];exact⟨λ_=>.inr rfl,λ_=>rfl⟩
  .rw[aF λz=>e (EA z),h.has a];exact⟨.inl,λz=>z.resolve_right e⟩
theorem wO(D:List (KX×W))(k:KX)(v:W):(j8 D k v).length<=D.length+1:=by
 unfold j8
 split
 .rw[ag];omega
 .rw[ay,ce];omega
theorem oW.imp{D:List (KX×W)}{S T:List Nat->Prop}(h:oW D S)(e:∀r,S r↔T r):oW D T:=⟨h.ent,λr=>(h.has r).trans (e r)⟩
theorem wP{n:Nat}(R:n<=1000)(d:nm.length<=13)(h:n*n*2^nm.length<=10000)(st:List al):C8 [.int (n:Nat),.str nm] st=.ok .non st:=by
 have e:=Ez n nm R #[0] st;generalize n*n*2^nm.length=k at h e;have y:decide ((10000:Int)<(k:Int))=dw:=aQ #[0];refine Bm (N:=2) (ws:=[.int (n:Nat),.str nm]) (body:=RA) ?_;simp only[RA,l_];apply mY
 .exact dJ (cq (cy (au kv kn) e rfl) cu (uL y))
 apply dL
 .exact zp
 .exact⟨_,_,rfl,[],(bD _).symm⟩
noncomputable def B_(i:Nat):List (Nat×Nat):=((vr (i+1)).map λj=>(i,j))++(vr i).map λj=>(j,i)
noncomputable def Sd(p:Nat×Nat):W:=.tup [.int (p.1:Nat),.int (p.2:Nat)]
theorem zQ{a b:Nat}:(a,b)∈B_ i↔max a b=i:=by
 unfold B_;rw[aZ,aE,aE];constructor
 .rintro(⟨j,I,e⟩|⟨j,I,e⟩)
  .cases e;rw[cK]at I;omega
  .cases e;rw[cK]at I;omega
 .intro h
  by_cases e:a=i
  .subst e;exact .inl ⟨b,cK.mpr #[0],rfl⟩
  .have e2:b=i:=by omega
   subst e2;exact .inr ⟨a,cK.mpr #[0],rfl⟩
theorem wf(i:Nat)(D:i<=1000)(st:List al):∃j x,(st++x)[st.length+j]?=bi (.lst ((B_ i).map Sd))/\Gh [.int (i:Nat)] st=.ok (.loc (st.length+j)) (st++x):=by
 have B:=qU (cap:=[cg,bi 0]) (fi:=bJ (ac (e2 da (af 0) (eI 1)) aD)) (f:=gi 0) (el:=fJ (ac (af 1) (ac (af 0) aD))) (ρ:=[bi (.int (i:Nat))]) (st:=st) (st1:=st) (ws:=bO 0 (i+1)) (ck:=cg) (λw=>.tup [.int (i:Nat),w])
  (by have:=dU (fs:=ac (e2 da (af 0) (eI 1)) aD) (ρ:=[bi (.int (i:Nat))]) (st:=st) (st1:=st) (q:=(i:Int)+1) (au (cq kv cu gy) be) #[0];rw[show((i:Int)+1).toNat=i+1 by omega]at this;exact this) (by rw[bM];show _<=1000000;omega) trivial λw y=>
   ⟨_,rfl,fI (au kv kn) (aw rfl)⟩
 obtain⟨V,Z⟩:∃V,V=st++[al.lst ((bO 0 (i+1)).map λw=>W.tup [.int (i:Nat),w])]:=⟨_,rfl⟩
 rw[<- Z]at B;have d:=qU (cap:=[cg,bi 0]) (fi:=bJ (ac (af 0) aD)) (f:=gi 0) (el:=fJ (ac (af 0) (ac (af 1) aD))) (ρ:=[bi (.int (i:Nat))]) (st:=V) (st1:=V) (ws:=bO 0 i) (ck:=cg) (λw=>.tup [w,.int (i:Nat)])
  (by have:=dU (fs:=ac (af 0) aD) (ρ:=[bi (.int (i:Nat))]) (st:=V) (st1:=V) (q:=(i:Int)) kn #[0];rw[aH]at this;exact this) (by rw[bM];show _<=1000000;omega) trivial λw y=>
   ⟨_,rfl,fI (au kv kn) (aw rfl)⟩
 have z:(V++[al.lst ((bO 0 i).map λw=>W.tup [w,.int (i:Nat)])])[st.length]?=bi (.lst ((bO 0 (i+1)).map λw=>W.tup [.int (i:Nat),w])):=b0 (by rw[Z];exact bw);have J:(V++[al.lst ((bO 0 i).map λw=>W.tup [w,.int (i:Nat)])])[V.length]?=bi (.lst ((bO 0 i).map λw=>W.tup [w,.int (i:Nat)])):=bw;have I:=IG z J (by rw[ay,ag,ag,bM,bM];show _<=1000000;omega);have Y:((bO 0 (i+1)).map λw=>W.tup [.int (i:Nat),w])++((bO 0 i).map λw=>W.tup [w,.int (i:Nat)])=(B_ i).map Sd:=by
  unfold B_ bO;rw[bN,aU,aU,aU,aU];have U:(vr (i+1)).map ((λw=>W.tup [.int (i:Nat),w])∘λk:Nat=>W.int (0+(k:Int)))=(vr (i+1)).map (Sd∘λj=>(i,j)):=bW λj _=>by show W.tup [.int (i:Nat),.int (0+(j:Int))]=W.tup [.int (i:Nat),.int (j:Nat)];rw[i4]
  have O:(vr i).map ((λw=>W.tup [w,.int (i:Nat)])∘λk:Nat=>W.int (0+(k:Int)))=(vr i).map (Sd∘λj=>(j,i)):=bW λj _=>by show W.tup [.int (0+(j:Int)),.int (i:Nat)]=W.tup [.int (j:Nat),.int (i:Nat)];rw[i4]
  rw[U,O]
 rw[Y]at I;have R:=qQ (N:=1) (ws:=[.int (i:Nat)]) (st:=st) (body:=Vz) (Q:=λj x=>(st++x)[st.length+j]?=bi (.lst ((B_ i).map Sd))) (cS (cq B d I) ⟨_,_,rfl,2,[al.lst ((bO 0 (i+1)).map λw=>W.tup [.int (i:Nat),w]),al.lst ((bO 0 i).map λw=>W.tup [w,.int (i:Nat)]),al.lst ((B_ i).map Sd)],by rw[Z];simp,by rw[Z];simp,by rw[aY #[0],Nat.add_sub_cancel_left];rfl⟩);obtain⟨j,x,q,e⟩:=R;exact⟨j,x,q,e⟩
inductive nL(Ms:List Mc)(nm:List Nat):List Nat->Prop
 |zero:nL Ms nm (pw Ms.length 0)
 |step {l r:List Nat} {q:Nat}:nL Ms nm l->nL Ms nm r->q<2^nm.length->nL Ms nm (led Ms nm q l r)
def qb(st:List al)(F:List (List Nat))(D L:List (KX×W))(s:List al):Prop:=∃w y,s=st++(.lst (F.map bf)::.dcx D::w::y)/\(w=.dct []/\L=[]\/w=.dcx L)
section
variable{s:List al}{F:List (List Nat)}{D:List (KX×W)}
theorem qb.ex(h:qb st F D L s):∃x,s=st++x:=by obtain⟨w,y,e,_⟩:=h;exact⟨_,e⟩
theorem qb.gF(h:qb st F D L s):s[st.length]?=bi (.lst (F.map bf)):=by obtain⟨w,y,rfl,_⟩:=h;rw[qs];rfl
theorem qb.gD(h:qb st F D L s):gW s (.loc (st.length+1))=bi (st.length+1,D):=by obtain⟨w,y,rfl,_⟩:=h;simp only[gW,mW];rfl
theorem qb.gL(h:qb st F D L s):gW s (.loc (st.length+2))=bi (st.length+2,L):=by
 obtain⟨w,y,rfl,e|e⟩:=h
 .obtain⟨rfl,rfl⟩:=e;simp only[gW,mW];rfl
 .subst e;simp only[gW,mW];rfl
theorem qb.setF(h:qb st F D L s)(F':List (List Nat)):qb st F' D L (s.set st.length (.lst (F'.map bf))):=by obtain⟨w,y,rfl,e⟩:=h;exact⟨w,y,by rw[jx];rfl,e⟩
theorem qb.setD(h:qb st F D L s)(D':List (KX×W)):qb st F D' L (s.set (st.length+1) (.dcx D')):=by obtain⟨w,y,rfl,e⟩:=h;exact⟨w,y,by rw[s_];rfl,e⟩
theorem qb.setL(h:qb st F D L s)(L':List (KX×W)):qb st F D L' (s.set (st.length+2) (.dcx L')):=by obtain⟨w,y,rfl,e⟩:=h;exact⟨.dcx L',y,by rw[s_];rfl,.inr rfl⟩
theorem qb.app(h:qb st F D L s)(z:List al):qb st F D L (s++z):=by obtain⟨w,y,rfl,e⟩:=h;exact⟨w,y++z,by rw[aN];rfl,e⟩
theorem wA{S:List al}{k:KX}{y v:W}(Y:gW S (.loc n)=bi (n,kvs))(B:nC y=bi k)(ok:vj kvs k=cT):qp (.loc n) y v S=bi (S.set n (.dcx (j8 kvs k v))):=by unfold qp;simp only[Y,B];rw[ax ok]
theorem J4{S:List al}{k:KX}{y w:W}(Y:gW S (.loc n)=bi (n,kvs))(B:nC y=bi k)(ok:vj kvs k=cT)(d:fL kvs k=bi w):CI (.loc n) y S=.ok w S:=by unfold CI;simp only[Y,B];rw[ax (by rw[ok];rfl),d];rfl
theorem VH{S:List al}{k:KX}{y:W}(R:sZ S (.loc n)=cg)(Y:gW S (.loc n)=bi (n,kvs))(B:nC y=bi k)(ok:vj kvs k=cT):re cT y (.loc n) S=.ok (.bl (!(fL kvs k).isSome)) S:=by unfold re;rw[R];unfold CF;simp only[Y,B];rw[ax ok];rfl
theorem qb.noR(h:qb st F D L s):sZ s (.loc (st.length+1))=cg:=by obtain⟨w,y,rfl,_⟩:=h;simp only[sZ,mW];rfl
structure GI(Ms:List Mc)(nm:List Nat)(F:List (List Nat))(D L:List (KX×W))(Dn:List Nat->Prop):Prop where
 nd:F.Nodup
 rch:∀r∈F,nL Ms nm r
 zer:pw Ms.length 0∈F
 dF:oW D (· ∈ F)
 dl:D.length<=F.length
 lf:oW L Dn
 clo:∀q a b,Dn [q,a,b]->a<F.length/\b<F.length/\led Ms nm q (F.getD a []) (F.getD b [])∈F
noncomputable abbrev GS:=List (List Nat)×List (KX×W)×List (KX×W)
def EG(Ms:List Mc)(nm:List Nat)(S:GS)(q a b:Nat):GS:=
 if led Ms nm q (S.1.getD a []) (S.1.getD b [])∈S.1 then(S.1,S.2.1,j8 S.2.2 (nH [q,a,b]) ((fL S.2.1 (nH (led Ms nm q (S.1.getD a []) (S.1.getD b [])))).getD .non))
 else(S.1++[led Ms nm q (S.1.getD a []) (S.1.getD b [])],j8 S.2.1 (nH (led Ms nm q (S.1.getD a []) (S.1.getD b []))) (.int (S.1.length:Nat)),j8 S.2.2 (nH [q,a,b]) ((fL (j8 S.2.1 (nH (led Ms nm q (S.1.getD a []) (S.1.getD b []))) (.int (S.1.length:Nat))) (nH (led Ms nm q (S.1.getD a []) (S.1.getD b [])))).getD .non))
variable{Ms:List Mc}{Dn:List Nat->Prop}{w0:W}
def J5:FS:=(a9 (bZ 11 (nF 1 3 aL bq (ac (af 10) (ac (e2 b9 (af 3) (af 8)) (ac (e2 b9 (af 3) (af 9)) aD))))) (a9 (lK (jc (e2 (re cT) (af 11) (af 4))) (a9 (AQ (af 4) (af 11) (bC e7 (ac (af 3) aD)) qp) (gU (vc dP (af 3) (ac (af 11) aD)))) eK) (AQ (af 5) (fJ (ac (af 10) (ac (af 8) (ac (af 9) aD)))) (e2 CI (af 4) (af 11)) qp)))
theorem MW{z:W}{N i q a b:Nat}{o11 o12:Option W}(hq:q<2^nm.length)(V:a<F.length)(U:b<F.length)(Yh:F.length<=1000)(Yi:L.length<900000)
  (R:st[m]?=bi (.pin dw f o w0)) (pC:∀x l r q,nL Ms nm l->nL Ms nm r->q<2^nm.length->kL aL bq m [.int (q:Nat),bf l,bf r] (st++x)=.ok (bf (led Ms nm q l r)) (st++x))
  (O:qb st F D L s) (g:GI Ms nm F D L Dn) :
  jd (C1 λρ d=>∃(F':List (List Nat)) (D' L':List (KX×W)) (v:W),ρ=[bi z,bi (.loc m),bi (.str nm),bi (.loc st.length),bi (.loc (st.length+1)),bi (.loc (st.length+2)),bi (.int (N:Nat)),bi (.int (i:Nat)),bi (.int (a:Nat)),bi (.int (b:Nat)),bi (.int (q:Nat)),bi v,o12] /\
   qb st F' D' L' d/\GI Ms nm F' D' L' (λk=>Dn k\/k=[q,a,b])/\F <+: F'/\L'.length<=L.length+1/\(∀n,st.length+3<=n->d[n]?=s[n]?)/\(F',D',L')=EG Ms nm (F,D,L) q a b)
   (J5 [bi z,bi (.loc m),bi (.str nm),bi (.loc st.length),bi (.loc (st.length+1)),bi (.loc (st.length+2)),bi (.int (N:Nat)),bi (.int (i:Nat)),bi (.int (a:Nat)),bi (.int (b:Nat)),bi (.int (q:Nat)),o11,o12] s):=by
 obtain⟨l,I⟩:∃l,F[a]?=bi l:=⟨_,ar V⟩
 obtain⟨r,hr⟩:∃r,F[b]?=bi r:=⟨_,ar U⟩
 have hlD:F.getD a []=l:=by rw[aA,I];rfl
 have hrD:F.getD b []=r:=by rw[aA,hr];rfl
 have ix1:b9 (.loc st.length) (.int (a:Nat)) s=.ok (bf l) s:=uM (br O.gF) (gn (by rw[ao,I];rfl));have ix2:b9 (.loc st.length) (.int (b:Nat)) s=.ok (bf r) s:=uM (br O.gF) (gn (by rw[ao,hr];rfl));have rl:=g.rch l (az I);have rr:=g.rch r (az hr);obtain⟨v,hv⟩:∃v,v=led Ms nm q l r:=⟨_,rfl⟩
 have rv:nL Ms nm v:=by rw[hv];exact .step rl rr hq
 have ec:kL aL bq m [.int (q:Nat),bf l,bf r] s=.ok (bf v) s:=by obtain⟨x,rfl⟩:=O.ex;rw[hv];exact pC x l r q rl rr hq
 have hms:s[m]?=bi (.pin dw f o w0):=by obtain⟨x,rfl⟩:=O.ex;exact b0 R
 unfold J5;apply aO
 .exact cb (zu (m:=m) rfl hms (au kv (au (cq kv kv ix1) (au (cq kv kv ix2) be))) rfl ec)
 have Ti:=g.dF.ok v (by have:=g.dl;omega);have hin:=VH O.noR O.gD (iR v) Ti;have kk3:bf [q,a,b]=.tup [.int (q:Nat),.int (a:Nat),.int (b:Nat)]:=rfl
 by_cases hmem:v∈F
 .rw[(g.dF.has v).mpr hmem]at hin;apply bV
  .exact dJ (cq kv kv hin)
  apply cI;obtain⟨k,B⟩:=g.dF.val hmem;apply dL
  .exact Bj (cq kv kv (J4 O.gD (iR v) Ti B)) kv (fI (au kv (au kv kn)) (aw rfl)) (wA O.gL (iR [q,a,b]) (g.lf.ok _ #[0]))
  .refine⟨_,_,rfl,F,D,_,bf v,rfl,O.setL _,⟨g.nd,g.rch,g.zer,g.dF,g.dl,g.lf.put _ k,?_⟩,ah _,wO _ _ _,λn w=>bQ #[0],by unfold EG;simp only[hlD,hrD,<- hv];rw[ax hmem,B];rfl⟩;rintro q' a' b' (h|h)
   .exact g.clo q' a' b' h
   .injection h with Z Y;injection Y with h3 h4;injection h4 with h5;subst Z;subst h3;subst h5;exact⟨V,U,by rw[hlD,hrD,<- hv];exact hmem⟩
 .have hno:(fL D (nH v)).isSome=dw:=by
   cases e:(fL D (nH v)).isSome with
   |false=>rfl
   |true=>exact absurd ((g.dF.has v).mp e) hmem
  rw[hno]at hin;have dC:e7 [.loc st.length] s=.ok (.int (F.length:Nat)) s:=by rw[oQ (br O.gF),ag]
  have s1:=O.setD (j8 D (nH v) (.int (F.length:Nat)));have ap:=Eb (y:=bf v) s1.gF (by rw[ag];show _<1000000;omega);have s2:=s1.setF (F++[v]);rw[bN]at s2;have s2:qb st (F++[v]) (j8 D (nH v) (.int (F.length:Nat))) L ((s.set (st.length+1) (.dcx (j8 D (nH v) (.int (F.length:Nat))))).set st.length (.lst (F.map bf++[bf v]))):=s2;have dF2:oW (j8 D (nH v) (.int (F.length:Nat))) (· ∈ F++[v]):=(g.dF.put v F.length).imp λr=>by rw[aZ,aM]
  obtain⟨k,B⟩:=dF2.val (r:=v) #[5];have Tn:=wO D (nH v) (.int (F.length:Nat));have okD2:=dF2.ok v (by have:=g.dl;omega);apply fq
  .exact dJ (cq kv kv hin)
  refine uq (aO (Bj (b_ kn dC) kv kv (wA O.gD (iR v) Ti)) (aO (iG (sd kv (gY s1.gF) kn ap)) ?_));apply dL
  .exact Bj (cq kv kv (J4 s2.gD (iR v) okD2 B)) kv (fI (au kv (au kv kn)) (aw rfl)) (wA s2.gL (iR [q,a,b]) (g.lf.ok _ #[0]))
  .have old:∀c,c<F.length->(F++[v]).getD c []=F.getD c []:=λc J=>by rw[aA,aA,aV J]
   refine⟨_,_,rfl,F++[v],_,_,bf v,rfl,s2.setL _,⟨?_,λr hr=>?_,c_ _ g.zer,dF2,by rw[ay,ce];have:=g.dl;omega,g.lf.put _ k,?_⟩,aq _ _,wO _ _ _,λn w=>by rw[bQ #[0],bQ #[0],bQ #[0]],by unfold EG;simp only[hlD,hrD,<- hv];rw[aF hmem,B];rfl⟩
   .exact gQ.mpr ⟨g.nd,by simp,λa V b U=>by rw[aM]at U;subst U;exact λe=>hmem (e▸V)⟩
   .rcases aZ.mp hr with hr|hr
    .exact g.rch r hr
    .rw[aM.mp hr];exact rv
   .rintro q' a' b' (h|h)
    .obtain⟨Z,Y,h3⟩:=g.clo q' a' b' h;refine⟨by simp;omega,by simp;omega,?_⟩;rw[old _ Z,old _ Y];exact c_ _ h3
    .injection h with Z Y;injection Y with h3 h4;injection h4 with h5;subst Z;subst h3;subst h5;refine⟨by simp;omega,by simp;omega,?_⟩;rw[old _ V,old _ U,hlD,hrD,<- hv];simp
end
abbrev gE(z:W)(m:Nat)(nm:List Nat)(b N i:Nat)(o8 o9 o10 o11 o12:Option W):cE:=[bi z,bi (.loc m),bi (.str nm),bi (.loc b),bi (.loc (b+1)),bi (.loc (b+2)),bi (.int (N:Nat)),bi (.int (i:Nat)),o8,o9,o10,o11,o12]
theorem GI.imp{Ms:List Mc}{F:List (List Nat)}{D:List (KX×W)}{S T:List Nat->Prop}(g:GI Ms nm F D L S)(h:∀k,S k↔T k):GI Ms nm F D L T:=
 ⟨g.nd,g.rch,g.zer,g.dF,g.dl,g.lf.imp h,λq a b B=>g.clo q a b ((h _).mpr B)⟩
theorem gR{w:W}(h:(bO 0 n)[i]?=bi w):i<n/\w=.int (i:Nat):=by obtain⟨Z,rfl⟩:=kt h;exact⟨Z,by rw[i4]⟩
theorem jd.mono{P Q:RS->Prop}{r:RS}(h:jd Q r)(y:∀r,Q r->P r):jd P r:=y r h
section
variable{s:List al}{F:List (List Nat)}{D:List (KX×W)}{Ms:List Mc}{Dn:List Nat->Prop}{w0 z:W}
def zR(Ms:List Mc)(nm:List Nat)(S:GS)(n a b:Nat):GS:=(vr n).foldl (λS q=>EG Ms nm S q a b) S
def XF:FS:=iC (bJ (ac (af 6) aD)) (gi 10) J5
theorem VI{i a b:Nat}{o10 o11 o12:Option W}(tL:nm.length<=13)(hB:∀F:List (List Nat),F.Nodup->(∀r∈F,nL Ms nm r)->F.length<=1000)(V:a<F.length)(U:b<F.length)(Yi:L.length+2^nm.length<900000)
  (y:st[m]?=bi (.pin dw f o w0)) (pC:∀x l r q,nL Ms nm l->nL Ms nm r->q<2^nm.length->kL aL bq m [.int (q:Nat),bf l,bf r] (st++x)=.ok (bf (led Ms nm q l r)) (st++x))
  (O:qb st F D L s) (g:GI Ms nm F D L Dn) :
  jd (C1 λρ d=>∃(F':List (List Nat)) (D' L':List (KX×W)) (o10 o11:Option W),ρ=gE z m nm st.length (2^nm.length) i (bi (.int (a:Nat))) (bi (.int (b:Nat))) o10 o11 o12 /\
   qb st F' D' L' d/\GI Ms nm F' D' L' (λk=>Dn k\/∃q,q<2^nm.length/\k=[q,a,b])/\F <+: F'/\L'.length<=L.length+2^nm.length/\(∀n,st.length+3<=n->d[n]?=s[n]?)/\(F',D',L')=zR Ms nm (F,D,L) (2^nm.length) a b)
   (XF (gE z m nm st.length (2^nm.length) i (bi (.int (a:Nat))) (bi (.int (b:Nat))) o10 o11 o12) s):=by
 have hN:2^nm.length<=2^13:=b8 #[0] tL;unfold XF;generalize hNN:2^nm.length=N at *;refine kN (λt ρ d=>∃(F':List (List Nat)) (D' L':List (KX×W)) (o10 o11:Option W),ρ=gE z m nm st.length N i (bi (.int (a:Nat))) (bi (.int (b:Nat))) o10 o11 o12 /\
   qb st F' D' L' d/\GI Ms nm F' D' L' (λk=>Dn k\/∃q,q<t/\k=[q,a,b])/\F <+: F'/\L'.length<=L.length+t/\(∀n,st.length+3<=n->d[n]?=s[n]?)/\(F',D',L')=zR Ms nm (F,D,L) t a b) (dU (q:=(N:Int)) (st1:=s) kn #[0]) ⟨F,D,L,o10,o11,rfl,O,g.imp λk=>by simp,ah _,by omega,λ_ _=>rfl,rfl⟩ (λ_ _ _ _=>trivial) ?_ ?_
 .rintro t w ρ Y B ⟨F1,D1,L1,o10,o11,rfl,sj,g1,p1,l1,c1,f1⟩;rw[aH]at B;obtain⟨Z,rfl⟩:=gR B;refine⟨_,rfl,?_⟩;have hF1:=p1.length_le;refine jd.mono (MW (z:=z) (N:=N) (i:=i) (q:=t) (a:=a) (b:=b) (o11:=o11) (o12:=o12) #[0] #[0] #[0] (hB F1 g1.nd g1.rch) #[0] y (by rw[hNN];exact pC) sj g1) ?_;rintro r ⟨I,s2,rfl,F2,D2,L2,v,rfl,nZ,g2,p2,l2,c2,f2⟩;refine⟨_,_,rfl,F2,D2,L2,_,_,rfl,nZ,g2.imp λk=>?_,p1.trans p2,by omega,λn R=>(c2 n R).trans (c1 n R),by unfold zR at f1 ⊢;rw[gI,j6,<- f1];exact f2⟩;constructor
  .rintro((h|⟨q,J,h⟩)|h)
   .exact .inl h
   .exact .inr ⟨q,by omega,h⟩
   .exact .inr ⟨t,by omega,h⟩
  .rintro(h|⟨q,J,h⟩)
   .exact .inl (.inl h)
   .rcases eR q t with hh|hh
    .exact .inl (.inr ⟨q,hh,h⟩)
    .exact .inr (by rw[h,show q=t by omega])
 .rintro ρ d ⟨F',D',L',o10,o11,rfl,hs',g',p',l',c',f'⟩;rw[bM,aH]at g' l' f';exact⟨_,_,rfl,F',D',L',o10,o11,rfl,hs',g',p',l',c',f'⟩
end
theorem EH(i:Nat):(B_ i).length=2*i+1:=by simp[B_];omega
section
variable{s:List al}{F:List (List Nat)}{D:List (KX×W)}{Ms:List Mc}{w0 z:W}
def zS(N i j:Nat)(k:List Nat):Prop:=∃q a b,q<N/\k=[q,a,b]/\(max a b<i\/(a,b)∈(B_ i).take j)
theorem zS.step{a b:Nat}(h:(B_ i)[j]?=bi (a,b))(k:List Nat):(zS N i j k\/∃q,q<N/\k=[q,a,b])↔zS N i (j+1) k:=by
 unfold zS;rw[qY h];constructor
 .rintro(⟨q,d,y,Y,e,h1|h1⟩|⟨q,Y,e⟩)
  .exact⟨q,d,y,Y,e,.inl h1⟩
  .exact⟨q,d,y,Y,e,.inr (c_ _ h1)⟩
  .exact⟨q,a,b,Y,e,.inr #[5]⟩
 .rintro⟨q,d,y,Y,e,h1|h1⟩
  .exact .inl ⟨q,d,y,Y,e,.inl h1⟩
  .rcases aZ.mp h1 with h1|h1
   .exact .inl ⟨q,d,y,Y,e,.inr h1⟩
   .rw[aM]at h1;cases h1
    exact .inr ⟨q,Y,e⟩
theorem zS.next(k:List Nat):zS N i (B_ i).length k↔zS N (i+1) 0 k:=by
 unfold zS;rw[fE];constructor
 .rintro⟨q,a,b,Y,e,h1|h1⟩
  .exact⟨q,a,b,Y,e,.inl #[0]⟩
  .exact⟨q,a,b,Y,e,.inl (by rw[zQ]at h1;omega)⟩
 .rintro⟨q,a,b,Y,e,h1|h1⟩
  .rcases eR (max a b) i with h|h
   .exact⟨q,a,b,Y,e,.inl h⟩
   .exact⟨q,a,b,Y,e,.inr (zQ.mpr #[0])⟩
  .rw[mv]at h1;cases h1
def zT(Ms:List Mc)(nm:List Nat)(S:GS)(ps:List (Nat×Nat)):GS:=ps.foldl (λS p=>zR Ms nm S (2^nm.length) p.1 p.2) S
def XG:FS:=iC (fT (cV 1 Gh (ac (af 7) aD))) (yU 2 (dg (gi 8) (dg (gi 9) j_))) XF
theorem VJ{i:Nat}{o8 o9 o10 o11 o12:Option W}(tL:nm.length<=13)(hB:∀F:List (List Nat),F.Nodup->(∀r∈F,nL Ms nm r)->F.length<=1000)(I:i<F.length)(Yi:L.length+(2*i+1)*2^nm.length<900000)
  (R:st[m]?=bi (.pin dw f o w0)) (pC:∀x l r q,nL Ms nm l->nL Ms nm r->q<2^nm.length->kL aL bq m [.int (q:Nat),bf l,bf r] (st++x)=.ok (bf (led Ms nm q l r)) (st++x))
  (O:qb st F D L s) (g:GI Ms nm F D L (zS (2^nm.length) i 0)) :
  jd (C1 λρ d=>∃(F':List (List Nat)) (D' L':List (KX×W)) (o8 o9 o10 o11:Option W),ρ=gE z m nm st.length (2^nm.length) i o8 o9 o10 o11 o12 /\
   qb st F' D' L' d/\GI Ms nm F' D' L' (zS (2^nm.length) (i+1) 0)/\F <+: F'/\L'.length<=L.length+(2*i+1)*2^nm.length/\(F',D',L')=zT Ms nm (F,D,L) (B_ i))
   (XG (gE z m nm st.length (2^nm.length) i o8 o9 o10 o11 o12) s):=by
 unfold XG;obtain⟨jj,x,gp,ec⟩:=wf i (by have:=hB F g.nd g.rch;omega) s;have hbig:st.length+3<=s.length:=by obtain⟨cL,y,e,_⟩:=O;rw[e];simp
 have ei:=mX (fe:=cV 1 Gh (ac (af 7) aD)) (ρ:=gE z m nm st.length (2^nm.length) i o8 o9 o10 o11 o12) (cy kn ec rfl) (br gp);refine kN (λj ρ d=>∃(F':List (List Nat)) (D' L':List (KX×W)) (o8 o9 o10 o11:Option W),ρ=gE z m nm st.length (2^nm.length) i o8 o9 o10 o11 o12 /\
   qb st F' D' L' d/\GI Ms nm F' D' L' (zS (2^nm.length) i j)/\F <+: F'/\L'.length<=L.length+j*2^nm.length/\d[s.length+jj]?=bi (.lst ((B_ i).map Sd))/\(F',D',L')=zT Ms nm (F,D,L) ((B_ i).take j)) ei ⟨F,D,L,o8,o9,o10,o11,rfl,O.app x,g,ah _,by omega,gp,rfl⟩ (λj ρ d h=>?_) ?_ ?_
 .obtain⟨_,_,_,_,_,_,_,_,_,_,_,_,h,_⟩:=h;exact br h
 .rintro j w ρ V B ⟨F1,D1,L1,o8,o9,o10,o11,rfl,sj,g1,p1,J,c1,f1⟩;rw[ao,a8]at B;obtain⟨⟨a,b⟩,U,rfl⟩:=B;have hj:j<2*i+1:=by rw[<- EH];exact(ak.mp U).1
  have Nb:=zQ.mp (az U);have hF1:=p1.length_le;have hmul:(j+1)*2^nm.length<=(2*i+1)*2^nm.length:=iW _ #[0];rw[jS]at hmul;refine⟨_,rfl,?_⟩;refine jd.mono (VI (z:=z) (i:=i) (a:=a) (b:=b) (o10:=o10) (o11:=o11) (o12:=o12) tL hB #[0] #[0] #[0] R pC sj g1) ?_;rintro r ⟨Z,Y,rfl,F2,D2,L2,o10',o11',rfl,nZ,g2,p2,l2,c2,f2⟩;exact⟨_,_,rfl,F2,D2,L2,_,_,_,_,rfl,nZ,g2.imp (zS.step U),p1.trans p2,by rw[jS];omega,(c2 _ #[0]).trans c1,by unfold zT at f1 ⊢;rw[qY U,j6,<- f1];exact f2⟩
 .rintro ρ d ⟨F',D',L',o8,o9,o10,o11,rfl,hs',g',p',l',c',f'⟩;rw[ag]at g' l' f';rw[fE]at f';rw[EH]at l';exact⟨_,_,rfl,F',D',L',o8,o9,o10,o11,rfl,hs',g'.imp zS.next,p',l',f'⟩
end
section
variable{s:List al}{F:List (List Nat)}{D:List (KX×W)}{Ms:List Mc}{w0 z:W}
def Tl(Ms:List Mc)(nm:List Nat):Prop:=∀F:List (List Nat),F.Nodup->(∀r∈F,nL Ms nm r)->F.length*F.length*2^nm.length<=10000
theorem Tl.le(h:Tl Ms nm)(F:List (List Nat))(Z:F.Nodup)(Y:∀r∈F,nL Ms nm r):F.length<=1000:=by
 have e:=h F Z Y;have U:0<2^nm.length:=Nat.pow_pos #[0];have e2:=oC (F.length*F.length) U;rcases eR 1000 F.length with h|h
 .have:=dh (cx h) (cx h);omega
 .exact h
theorem GI.all(g:GI Ms nm F D L (zS (2^nm.length) F.length 0))(r:List Nat)(R:nL Ms nm r):r∈F:=by
 induction R with
 |zero=>exact g.zer
 |@step l r q _ _ hq il ir=>
  obtain⟨a,V,I⟩:=ja il;obtain⟨b,U,y⟩:=ja ir;have:=(g.clo q a b ⟨q,a,b,hq,rfl,.inl #[0]⟩).2.2;rw[aA,aA,ar V,ar U,I,y]at this;exact this
def BR(Ms:List Mc)(nm:List Nat)(S:GS)(n:Nat):GS:=(vr n).foldl (λS i=>zT Ms nm S (B_ i)) S
structure C_(Ms:List Mc)(nm:List Nat)(S E:GS):Prop where
 eq:E=BR Ms nm S E.1.length
 lo:∀j,j<E.1.length->j<(BR Ms nm S j).1.length
theorem C_.uniq{S E E':GS}(h:C_ Ms nm S E)(h':C_ Ms nm S E'):E=E':=by
 have:E.1.length=E'.1.length:=by
  rcases Nat.lt_trichotomy E.1.length E'.1.length with l|l|l
  .have:=h'.lo _ l;rw[<- h.eq]at this;omega
  .exact l
  .have:=h.lo _ l;rw[<- h'.eq]at this;omega
 rw[h.eq,h'.eq,this]
def XH:FS:=nz (jc (e2 yR (af 7) (bC e7 (ac (af 3) aD)))) (a9 (gU (cV 2 C8 (ac (bC e7 (ac (af 3) aD)) (ac (af 2) aD)))) (a9 XG (bZ 7 (e2 da (af 7) (eI 1)))))
theorem VL(tL:nm.length<=13)(hB:Tl Ms nm)
  (y:st[m]?=bi (.pin dw f o w0)) (pC:∀x l r q,nL Ms nm l->nL Ms nm r->q<2^nm.length->kL aL bq m [.int (q:Nat),bf l,bf r] (st++x)=.ok (bf (led Ms nm q l r)) (st++x))
  {o8 o9 o10 o11 o12:Option W} (O:qb st F D [] s) (g:GI Ms nm F D [] (zS (2^nm.length) 0 0)) :
  jd (C1 λρ d=>∃(F':List (List Nat)) (D' L':List (KX×W)) (o8 o9 o10 o11:Option W),ρ=gE z m nm st.length (2^nm.length) F'.length o8 o9 o10 o11 o12 /\
   qb st F' D' L' d/\GI Ms nm F' D' L' (zS (2^nm.length) F'.length 0)/\F <+: F'/\L'.length<=10000/\C_ Ms nm (F,D,[]) (F',D',L'))
   (XH (gE z m nm st.length (2^nm.length) 0 o8 o9 o10 o11 o12) s):=by
 unfold XH;have tst:∀{ρ:cE} {s:List al} {i:Nat} {F':List (List Nat)},ρ[7]?=bi (bi (.int (i:Nat)))->ρ[3]?=bi (bi (.loc st.length))->s[st.length]?=bi (.lst (F'.map bf))->jc (e2 yR (af 7) (bC e7 (ac (af 3) aD))) ρ s=.ok (decide ((i:Int)<(F'.length:Int))) s:=λr7 r3 J=>
  dJ (cq (jI r7) (b_ (au (jI r3) be) (by rw[oQ (br J),ag])) (uL rfl))
 refine wz (λn ρ s=>∃(i:Nat) (F':List (List Nat)) (D' L':List (KX×W)) (o8 o9 o10 o11:Option W),ρ=gE z m nm st.length (2^nm.length) i o8 o9 o10 o11 o12/\n=1000-i/\i<=F'.length /\
   qb st F' D' L' s/\GI Ms nm F' D' L' (zS (2^nm.length) i 0)/\F <+: F'/\L'.length<=i*i*2^nm.length/\(F',D',L')=BR Ms nm (F,D,[]) i/\∀j,j<i->j<(BR Ms nm (F,D,[]) j).1.length) 1000 ⟨0,F,D,[],o8,o9,o10,o11,rfl,rfl,dy _,O,g,ah _,dy _,rfl,λj B=>by omega⟩ ?_ ?_
 .rintro n ρ s ⟨i,F1,D1,L1,o8,o9,o10,o11,rfl,rfl,w,sj,V,R,Z,f1,lo1⟩;have t:=tst (ρ:=gE z m nm st.length (2^nm.length) i o8 o9 o10 o11 o12) (i:=i) rfl rfl sj.gF;rcases eR i F1.length with hlt|E0
  .refine .inr ⟨by rw[t,bb #[0]],?_⟩;have hF:=hB F1 V.nd V.rch;have hF2:=hB.le F1 V.nd V.rch;have hmul:(i+1)*(i+1)*2^nm.length<=F1.length*F1.length*2^nm.length:=iW _ (dh hlt hlt);have hsq:(i+1)*(i+1)*2^nm.length=i*i*2^nm.length+(2*i+1)*2^nm.length:=by rw[<- Nat.add_mul];congr 1;rw[Nat.mul_add,Nat.add_mul];omega
   apply aO
   .exact iG (cy (au (b_ kn (by rw[oQ (br sj.gF),ag])) kn) (wP hF2 tL hF _) rfl)
   obtain⟨U,Y,e2,F2,D2,L2,o8',o9',o10',o11',rfl,nZ,g2,p2,l2,f2⟩:=VJ (z:=z) (i:=i) (o8:=o8) (o9:=o9) (o10:=o10) (o11:=o11) (o12:=o12) tL hB.le hlt #[0] y pC sj V;refine aO e2 ?_;apply dL
   .exact cb (cq kv cu gy)
   .have hl2:=p2.length_le;exact⟨_,_,rfl,1000-(i+1),by omega,i+1,F2,D2,L2,o8',o9',o10',o11',rfl,rfl,by omega,nZ,g2,R.trans p2,by omega,by unfold BR at f1 ⊢;rw[gI,j6,<- f1];exact f2,λj B=>by
     rcases eR j i with h|h
     .exact lo1 j h
     .rw[show j=i by omega,<- f1];exact hlt⟩
  .exact .inl (by rw[t,aQ #[0]])
 .rintro n ρ d ⟨i,F',D',L',o8,o9,o10,o11,rfl,rfl,w,hs',g',p',l',f',lo'⟩ I;rw[tst (i:=i) rfl rfl hs'.gF]at I;have E0:i=F'.length:=by injection I with h1 h2;have:=jq h1;omega
  subst E0;exact⟨_,_,rfl,F',D',L',o8,o9,o10,o11,rfl,hs',g',p',aT l' (hB F' g'.nd g'.rch),f',lo'⟩
end
def Et(L:List (KX×W)):W->W->W->W:=λx l r=>match x,l,r with
 |.int x,.int l,.int r=>(match fL L (nH [x.toNat,l.toNat,r.toNat])with
  |some (.int k)=>.int k
  |_=>.non)
 |_,_,_=>.non
theorem zU(L:List (KX×W))(x l r:W)(n:Nat):(Et L x l r).und n=cT:=by
 unfold Et
 split
 .split
  .rfl
  .rfl
 .rfl
theorem Se{Dn:List Nat->Prop}{c q a b:Nat}{s:List al}(D:gW s (.loc c)=bi (c,L))(h:oW L Dn)(I:L.length<1000000)(B:Dn [q,a,b]) :
  dD [.int (q:Nat),.int (a:Nat),.int (b:Nat),.loc c] s=.ok (Et L (.int (q:Nat)) (.int (a:Nat)) (.int (b:Nat))) s:=by
 obtain⟨k,e⟩:=h.val B;have z:Et L (.int (q:Nat)) (.int (a:Nat)) (.int (b:Nat))=.int (k:Nat):=by unfold Et;simp only[aH,e]
 have d:jJ [bi (.int (q:Nat)),bi (.int (a:Nat)),bi (.int (b:Nat)),bi (.loc c)] s=.ok (.int (k:Nat)) s:=
  cq kv (fI (au kv (au kv kn)) (aw rfl)) (J4 D (iR [q,a,b]) (h.ok _ I) e)
 unfold dD Mx;show(match jJ [bi (.int (q:Nat)),bi (.int (a:Nat)),bi (.int (b:Nat)),bi (.loc c)] s with|.ok w U=>R.ok w (iJ s U [w])|_=>.bad)=_;rw[d,z];show R.ok _ (iJ s s _)=_;rw[wp]
section
variable{Ms:List Mc}{w0:W}
theorem Gq{F:List (List Nat)}{D:List (KX×W)}{s:List al}(B:qb st F D L s)(g:GI Ms nm F D L (zS (2^nm.length) F.length 0))(tL:nm.length<=13)(hF:F.length<=1000)(w:L.length<=10000)(Z:lX s 2 108 ⟨79,42,79,96⟩ "grown.<locals>.<lambda>")
  (r6:ρ[6]?=bi (bi (.int (2^nm.length:Nat)))) (r3:ρ[3]?=bi (bi (.loc st.length))) (r5:ρ[5]?=bi (bi (.loc (st.length+2)))) :
  uk 3 JK dv 2 108 ⟨79,42,79,96⟩ "grown.<locals>.<lambda>" [5] (af 6) (bC e7 (ac (af 3) aD)) ρ s=.ok (uZ (Et L) (2^nm.length) F.length) s:=by
 have hN:2^nm.length<=2^13:=b8 #[0] tL;refine MV (cws:=[.loc (st.length+2)]) (jI r6) (b_ (au (jI r3) be) (by rw[oQ (br B.gF),ag])) rfl Z (by unfold pB;rw[r5];rfl) (by show(_&&cT)=cT;rw[vp λx l r=>zU _ x l r _];rfl) (Sc _ _ _ _ _ _) λf2 o2 ok fr=>?_;obtain⟨cl,I,U,ct,O,hcn,V⟩:=id ok;have hclo:dB o2=cl:=by rw[V];rfl
 have kT:cl.length=1:=by have:=cP Y8 O;rw[ag]at this;exact this
 refine ME (by rw[hclo,kT];rfl) (by show(_&&cT)=cT;rw[vp λx l r=>zU _ x l r _];rfl) λz hos=>?_;rw[hclo]at hos ⊢;have hz1:=C2 (C:=cl) (os:=z) (cws:=[W.loc (st.length+2)]) hos (by rw[kT];rfl);have hz2:=C3 (C:=cl) (os:=z) (cws:=[W.loc (st.length+2)]) hos (by rw[kT];rfl);generalize f_ cl z [W.loc (st.length+2)]=Lz at hz1 hz2;have hmz:∀y,((s++[al.pin dw f2 o2 .non])++(cY Lz++y))[s.length]?=bi (.pin dw f2 o2 .non):=λy=>b0 bw;refine J2 (E:=Et L) #[0] #[0] (hmz []) (λx l r=>zU _ x l r _) λY nZ x hx' l hl' r hr'=>?_;obtain⟨y,rfl⟩:=nZ;rw[bD,aN];obtain⟨xi,hxi⟩:=cM hx';obtain⟨li,hli⟩:=cM hl';obtain⟨ri,hri⟩:=cM hr';obtain⟨bxi,rfl⟩:=gR hxi;obtain⟨bli,rfl⟩:=gR hli;obtain⟨bri,rfl⟩:=gR hri;refine Gp (hmz y) ok (by rw[hclo,hz1]) (by rw[hz1];exact hcn) (λc J d hd=>?_) λR=>?_
 .rcases aZ.mp hd with hd|hd
  .exact fr c J d hd
  .rw[aM.mp hd];rfl
 .rw[hz2];exact Se ((B.app _).app _).gL g.lf #[0] ⟨xi,li,ri,bxi,rfl,.inl #[0]⟩
theorem J6{s:List al}(Y:ρ[0]?=bi (bi (bf r))):zl (af 0) (eI 0) ρ s=.ok (.loc s.length) (s++[.dcx [(nH r,.int 0)]]):=by
 unfold zl;rw[jI Y];simp only[R.bind_ok];rw[show(eI 0) ρ (s++[al.dct []])=.ok (.int 0) (s++[al.dct []])from rfl];simp only[R.bind_ok];have D:gW (s++[al.dct []]) (.loc s.length)=bi (s.length,[]):=by simp only[gW,qs];rfl
 rw[D,iR];simp only;rw[ax ⟨trivial,oW.nil.ok r #[5]⟩];rw[jx];rfl
theorem J7(tL:nm.length<=13)(hB:Tl Ms nm)(B:lX st 2 108 ⟨79,42,79,96⟩ "grown.<locals>.<lambda>")
  (y:st[m]?=bi (.pin dw f o w0)) (pC:∀x l r q,nL Ms nm l->nL Ms nm r->q<2^nm.length->kL aL bq m [.int (q:Nat),bf l,bf r] (st++x)=.ok (bf (led Ms nm q l r)) (st++x)) :
  ∃(F:List (List Nat)) (D L:List (KX×W)) (T:W) (x:List al),C_ Ms nm ([pw Ms.length 0],[(nH (pw Ms.length 0),.int ((0:Nat):Int))],[]) (F,D,L)/\T=uZ (Et L) (2^nm.length) F.length/\F.Nodup/\(∀r,r∈F↔nL Ms nm r)/\T.und 0=cT/\(st++x)[st.length]?=bi (.lst (F.map bf))/\uN [bf (pw Ms.length 0),.loc m,.str nm] st=.ok (.tup [.loc st.length,T]) (st++x):=by
 obtain⟨zr,hzr⟩:∃zr,zr=pw Ms.length 0:=⟨_,rfl⟩
 rw[<- hzr];have key:jd (B9 λw I=>∃x,I=st++x/\undWs st.length [w]=dw/\∃(F:List (List Nat)) (D L:List (KX×W)) (T:W),C_ Ms nm ([zr],[(nH zr,.int ((0:Nat):Int))],[]) (F,D,L)/\T=uZ (Et L) (2^nm.length) F.length/\F.Nodup/\(∀r,r∈F↔nL Ms nm r)/\T.und 0=cT/\(st++x)[st.length]?=bi (.lst (F.map bf))/\w=.tup [.loc st.length,T])
   (JN ([bf zr,.loc m,.str nm].map bi++pw (13-3) cg) st):=by
  unfold JN;have s0:qb st [zr] [(nH zr,.int ((0:Nat):Int))] [] (((st++[al.lst [bf zr]])++[al.dcx [(nH zr,.int 0)]])++[al.dct []]):=⟨.dct [],[],by simp[aN],.inl ⟨rfl,rfl⟩⟩
  have g0:GI Ms nm [zr] [(nH zr,.int ((0:Nat):Int))] [] (zS (2^nm.length) 0 0):=
   ⟨by simp,λr R=>by rw[aM.mp R,hzr];exact .zero,by rw[hzr];simp,(oW.nil.put zr 0).imp λr=>by simp,am _,oW.nil.imp λk=>⟨YY,λzq=>by obtain⟨_,_,_,_,_,h⟩:=zq;rcases h with h|h;omega;cases h⟩,λq a b zx=>by obtain⟨_,_,_,_,_,h⟩:=zx;rcases h with h|h;omega;cases h⟩
  apply aO
  .exact cb (Bh kn (aw rfl))
  apply aO
  .exact cb (J6 rfl)
  apply aO
  .exact cb rfl
  apply aO
  .exact cb (cy (au (b_ kn (l9 (by show _<=1000000;omega))) be) (C9 _ #[0] _) rfl)
  apply aO
  .exact cb cu
  obtain⟨U,d,e2,F2,D2,L2,o8,o9,o10,o11,rfl,nZ,g2,p2,l2,ge⟩:=VL (z:=bf zr) (o8:=cg) (o9:=cg) (o10:=cg) (o11:=cg) (o12:=cg) tL hB y pC s0 g0;have e2:XH _ _=_:=e2;refine aO (g':=_) (st1:=d) (ρ':=gE (bf zr) m nm st.length (2^nm.length) F2.length o8 o9 o10 o11 cg) (by simp only[ay,ce];exact e2) ?_;obtain⟨x,rfl⟩:=nZ.ex;have hT:=Gq (ρ:=gE (bf zr) m nm st.length (2^nm.length) F2.length o8 o9 o10 o11 cg) nZ g2 tL (hB.le F2 g2.nd g2.rch) l2 (b0 B) rfl rfl rfl;apply aO
  .exact cb hT
  apply cS
  .exact fI (au kv kn) (aw rfl)
  .exact⟨_,_,rfl,x,rfl,by simp[undWs,W.und],F2,D2,L2,_,ge,rfl,g2.nd,λr=>⟨g2.rch r,g2.all r⟩,vp λx l r=>zU _ x l r _,nZ.gF,rfl⟩
 obtain⟨w,I,e,x,rfl,V,F,D,L,T,J,hT,Z,Y,O,h4,rfl⟩:=key;exact⟨F,D,L,T,x,J,hT,Z,Y,O,h4,by unfold uN;rw[qM e,um V]⟩
end
theorem J8{N:Nat}{body:FS}{ws:List W}{st:List al}{Q:W->List al->Prop}(h:jd (B9 λw bF=>∃x,bF=st++x/\undWs st.length [w]=dw/\Q w x) (body (ws.map bi++pw (N-ws.length) cg) st)):∃w x,Q w x/\fK N body ws st=.ok w (st++x):=by obtain⟨w,bF,e,x,rfl,d,q⟩:=h;exact⟨w,x,q,by rw[qM e,um d]⟩
theorem OH(a b:Bool)(s:List al):LK (.bl a) (.bl b) s=.ok (.bl (a != b)) s:=by cases a<;>cases b<;>rfl
theorem MX{g:List Bool}(Y:2<=g.length){p:Nat}{s:List al}(h:s[p]?=bi (.lst (g.map W.bl))):zG [.str [97,112,97,114,116],.loc p] s=.ok (.bl (g.getD 0 dw != g.getD 1 dw)) s:=by
 have O:=BN h (i:=0) #[0];have D:=BN h (i:=1) #[0];refine qT (N:=2) (ws:=[.str [97,112,97,114,116],.loc p]) (body:=RB) ?_;apply bV
 .exact dJ (cq kv cu rfl)
 apply cI;apply bV
 .exact dJ (cq kv cu rfl)
 apply cI;apply bV
 .exact dJ (cq kv cu rfl)
 apply cI;apply bV
 .exact dJ (cq kv cu rfl)
 apply cI;apply cS
 .exact cq (cq kv cu O) (cq kv cu D) (OH _ _ _)
 .exact⟨_,_,rfl,rfl,rfl⟩
theorem yt{f:FG}{ρ0:cE}(g Y:α->W)(J:∀y,kK (st++y) ck):∀(D:List α) (Z:List W) (y:List al),(∀a∈D,∃R,f (g a) ρ0=bi R/\∀y,∃z,el R (st++y)=.ok (Y a) (st++y++z)) ->
  ∃V,pA f jF el ck ρ0 (D.map g) Z (st++y)=.ok (Z++D.map Y) (st++V)
 |[],Z,y,_=>⟨y,by rw[io];unfold pA;rw[ax (J y)];simp⟩
 |a::D,Z,y,h=>by obtain⟨R,d,e2⟩:=h a #[5];obtain⟨z,I⟩:=e2 y;obtain⟨V,U⟩:=yt g Y J D (Z++[Y a]) (y++z) λO w=>h O (by simp[w]);refine⟨V,?_⟩;rw[aK];unfold pA;rw[ax (J y),d];simp only[jF,I];rw[aN,U,aN];rfl
theorem qv(M:Mc)(s:List al):b9 M.w (.int 0) s=.ok (.str M.nm) s:=rfl
noncomputable def vq(A B:Mc)(r:List Nat):Bool:=A.gd.getD (r.getD 0 0) dw != B.gd.getD (r.getD 1 0) dw
theorem kw{Ms:List Mc}(z:qt Ms)(Y:∀M∈Ms,0<M.gd.length)(V:nm.Nodup)(h:nL Ms nm r):rH Ms r:=by
 induction h with
 |zero=>exact⟨by simp,λi D=>by rw[aA,cX,ax D];exact Y _ (wN D)⟩
 |@step l r q _ _ hq hl hr=>
  refine⟨by simp[led],λi D=>?_⟩;obtain⟨t,R,_,e2,I,U,J,y⟩:=EC (z _ (wN D)) (BI V q) (hl.2 i D) (hr.2 i D);have e:(led Ms nm q l r).getD i 0=KP (gM Ms i) nm q (l.getD i 0) (r.getD i 0):=by unfold led;rw[aA,ao,eT D];rfl
  rw[e];exact y
theorem wQ(n:Nat):∀F:List (List Nat),undWs n (F.map bf)=cT
 |[]=>rfl
 |r::F=>by simp only[aK,undWs,zJ,wQ n F,Bool.and_self]
theorem Da{A B:Mc}(qZ:qt [A,B])(h0:∀M∈[A,B],0<M.gd.length)(rq:fH (A.nm++B.nm)=nm)(SR:∀c∈A.nm++B.nm,c∈LL)(GO:(A.nm++B.nm).length<4000)(tL:nm.length<=13)(hB:Tl [A,B] nm)
  {st:List al} (np:gK st) (ht:st[1]?=bi Tk) (hu:lX st 2 108 ⟨79,42,79,96⟩ "grown.<locals>.<lambda>") :
  ∃(F:List (List Nat)) (T:W) (n:Nat) (x:List al),F.Nodup/\(∀r,r∈F↔nL [A,B] nm r)/\(st++x)[n]?=bi (.lst (F.map bf))/\Ek [.str [97,112,97,114,116],A.w,B.w] st=.ok (.tup [.loc n,.tup [.str nm,.tup ((F.map (vq A B)).map W.bl),T]]) (st++x):=by
 have jB:nm.Nodup:=by rw[<- rq];exact(gm _).imp λh=>aJ h
 obtain⟨z,hz⟩:∃z,z=pw ([A,B]:List Mc).length 0:=⟨_,rfl⟩
 have hzw:W.tup [.int 0,.int 0]=bf z:=by rw[hz];rfl
 have es:=EE (Ms:=[A,B]) (nm:=nm) qZ jB tL (aw rfl) (st:=st) ht;obtain⟨s3,hs3⟩:∃s3,s3=st++[al.lst ([A,B].map (uY nm))]:=⟨_,rfl⟩
 rw[<- hs3]at es;have hp3:s3[st.length]?=bi (.lst ([A,B].map (uY nm))):=by rw[hs3];exact bw
 have np3:gK s3:=by rw[hs3];exact ni np (KQ _)
 have k3:st <+: s3:=by rw[hs3];exact aq _ _
 have QS:∀(f:i0) (o:Obj) (os:List Obj),aL o->os.length=(dB o).length->∃(F:List (List Nat)) (D L:List (KX×W)) (n:Nat) (x:List al),C_ [A,B] nm ([z],[(nH z,.int ((0:Nat):Int))],[]) (F,D,L)/\F.Nodup/\(∀r,r∈F↔nL [A,B] nm r)/\(uZ (Et L) (2^nm.length) F.length).und 0=cT/\s3.length<=n/\(s3++x)[n]?=bi (.lst (F.map bf)) /\
   uN [bf z,.loc s3.length,.str nm] (s3++[.pin dw f o .non]++cY (f_ (dB o) os [.loc st.length]))=.ok (.tup [.loc n,uZ (Et L) (2^nm.length) F.length]) (s3++x):=λf o os ok hos=>by
  have hok:=ok;obtain⟨cl,jN,pm,cd,ct,O,hcn,rfl⟩:=ok;generalize U:Zs "lead" "side_by_side.<locals>.lead" (dZ bK) (dq bK) (aI bK) cl jN pm cd ct=o at hos hok ⊢;have hclo:dB o=cl:=by rw[<- U];rfl
  have kT:cl.length=1:=by have:=cP Y8 O;rw[ag]at this;exact this
  rw[hclo]at hos ⊢;have hz1:=C2 (C:=cl) (os:=os) (cws:=[W.loc st.length]) hos (by rw[kT];rfl);have hz2:=C3 (C:=cl) (os:=os) (cws:=[W.loc st.length]) hos (by rw[kT];rfl);generalize f_ cl os [W.loc st.length]=Lz at hz1 hz2;obtain⟨s6,hs6⟩:∃s6,s6=s3++[al.pin dw f o .non]:=⟨_,rfl⟩
  rw[<- hs6];have np6:gK s6:=by rw[hs6];exact ni np3 (P.np1 λ_=>rfl)
  have hm6:s6[s3.length]?=bi (.pin dw f o .non):=by rw[hs6];exact bw
  have hp6:s6[st.length]?=bi (.lst ([A,B].map (uY nm))):=by rw[hs6];exact b0 hp3
  have k6:st <+: s6:=by rw[hs6];exact k3.trans (aq _ _)
  have hu6:lX (s6++cY Lz) 2 108 ⟨79,42,79,96⟩ "grown.<locals>.<lambda>":=b0 (cJ k6 hu);obtain⟨F,D,L,T,x,g1,rfl,g3,g4,g5,g6,g7⟩:=J7 (Ms:=[A,B]) (st:=s6++cY Lz) (f:=f) (o:=o) (w0:=.non) tL hB hu6 (b0 hm6) λx l r q I d hq=>by rw[aN];refine Bo (b0 hm6) hok (by rw[hclo,hz1]) (by rw[hz1];exact hcn) np6 ?_;rw[hz2];exact ED qZ jB hq (kw qZ h0 jB I) (kw qZ h0 jB d) (aw rfl) (b0 hp6)
  rw[<- hz]at g1 g7;have ex:s6++cY Lz++x=s3++([al.pin dw f o .non]++cY Lz++x):=by rw[hs6];simp only[aN]
  rw[ex]at g6 g7;exact⟨F,D,L,_,_,g1,g3,g4,g5,by rw[hs6];simp only[ay];omega,g6,g7⟩
 have O:=IK "lead" "side_by_side.<locals>.lead" (dZ bK) (dq bK) (aI bK) ["tables"];obtain⟨o0,ho0⟩:∃o,aL o:=O;obtain⟨F,D,L,n0,x0,ge,nd,iff,hT,_,_,_⟩:=QS 0 o0 (pw (dB o0).length { cls:=.none,data:=.cell cg }) ho0 #[5];have eg:ul uN (fJ (ac (eI 0) (ac (eI 0) aD))) 2 aL fV (ac (af 4) (ac (af 3) aD)) (af 3) [bi (.str [97,112,97,114,116]),bi A.w,bi B.w,bi (.str nm),bi (.tup ([A,B].map Mc.w)),cg,cg] st
   = .ok (.tup [.loc s3.length,uZ (Et L) (2^nm.length) F.length]) (s3++[.lst (F.map bf)]):=by refine MB (wa:=bf z) (fI (au cu (au cu be)) (aw rfl) |>.trans (by rw[<- hzw])) (au kv kn) rfl es ⟨o0,ho0⟩ (wQ 0 F) hT λf o os ok hos=>?_;obtain⟨F',D',L',n,x,ge',_,_,_,Z,Y,h3⟩:=QS f o os ok hos;have e:=ge.uniq ge';obtain⟨rfl,e2⟩:=jA e;obtain⟨rfl,rfl⟩:=jA e2;exact⟨_,x,n,jI rfl,h3,Z,Y⟩
 obtain⟨w,x,⟨n,J,V⟩,e⟩:=J8 (N:=7) (ws:=[.str [97,112,97,114,116],A.w,B.w]) (body:=Oh) (st:=st) (Q:=λw x=>∃n,w=.tup [.loc n,.tup [.str nm,.tup ((F.map (vq A B)).map W.bl),uZ (Et L) (2^nm.length) F.length]]/\(st++x)[n]?=bi (.lst (F.map bf))) (by
  have eo:=BL (l:=A.nm++B.nm) GO SR st;rw[rq]at eo;apply aO
  .exact cb (cy (au (cq (cq kv cu (qv A st)) (cq kv cu (qv B st)) (ww (by rw[ay]at GO;show _<=1000000;omega))) be) eo rfl)
  apply aO
  .exact iG (cy (au cu kn) (wP (n:=1) #[0] tL (by simpa using hB [z] #[5] λr d=>by rw[aM.mp d,hz];exact .zero) st) rfl)
  apply aO
  .exact cb (fI (au kv kn) (aw rfl))
  apply aO
  .exact cb eg
  generalize hs4:s3++[al.lst (F.map bf)]=s4;have h4:s4[s3.length]?=bi (.lst (F.map bf)):=by rw[<- hs4];exact bw
  have Yh:=hB.le F nd λr d=>(iff r).mp d;obtain⟨y',ec⟩:=yt (f:=gi 0) (el:=cV 2 zG (ac (af 1) (ac (cV 2 uO (ac (af 2) (ac (af 0) aD))) aD))) (ck:=bi (s3.length,F.map bf)) (ρ0:=[cg,bi (.str [97,112,97,114,116]),bi (.tup ([A,B].map Mc.w))]) (st:=s4) bf (λr=>.bl (vq A B r)) (λy=>br (b0 h4)) F [] [] λr d=>by have ro:=kw qZ h0 jB ((iff r).mp d);refine⟨_,rfl,λy=>⟨_,cy (au kv (au (cy (au kv kn) (BO (ps:=[A,B]) (r:=r) (pi ro.1.symm) (aw rfl) ro.2 _) rfl) be)) (MX (g:=EF [A,B] r) (am 2) bw) rfl⟩⟩
  rw[bD,f6]at ec;have eg2:fS [cg,bi 0,bi 4] (fT (e2 b9 (af 5) (eI 0))) (gi 0) jF (cV 2 zG (ac (af 1) (ac (cV 2 uO (ac (af 2) (ac (af 0) aD))) aD))) [bi (.str [97,112,97,114,116]),bi A.w,bi B.w,bi (.str nm),bi (.tup ([A,B].map Mc.w)),bi (.tup [.loc s3.length,uZ (Et L) (2^nm.length) F.length]),cg] s4=.ok (.loc (s4++y').length) (s4++y'++[.lst (F.map λr=>.bl (vq A B r))]):=by unfold fS;rw[mX (cq kv cu rfl) (br h4)];simp only[R.bind_ok];rw[ax (by rw[ag];show _<=1000000;omega)];rw[show pR [cg,bi 0,bi 4] [bi (.str [97,112,97,114,116]),bi A.w,bi B.w,bi (.str nm),bi (.tup ([A,B].map Mc.w)),bi (.tup [.loc s3.length,uZ (Et L) (2^nm.length) F.length]),cg]=[cg,bi (.str [97,112,97,114,116]),bi (.tup ([A,B].map Mc.w))]from rfl,ec];simp only[R.bind_ok,nP];rw[ax (by rw[ag];show _<=1000000;omega)]
  apply aO
  .exact cb (b_ (au eg2 be) (iQ (br bw)))
  apply cS
  .exact fI (au (cq kv cu rfl) (au (fI (au kv (au kv (au (cq kv cu rfl) be))) (aw rfl)) be)) (aw rfl)
  .have ex:s4++y'++[al.lst (F.map λr=>.bl (vq A B r))]=st++([al.lst ([A,B].map (uY nm))]++[al.lst (F.map bf)]++y'++[al.lst (F.map λr=>.bl (vq A B r))]):=by rw[<- hs4,hs3];simp only[aN]
   refine⟨_,_,rfl,_,ex,?_,s3.length,by rw[aU];rfl,?_⟩
   .have:st.length<=s3.length:=by rw[hs3];simp
    simp only[undWs,W.und];rw[aQ #[0]];rfl
   .rw[<- ex];exact b0 (b0 h4))
 subst J;exact⟨F,_,n,x,nd,iff,V,e⟩
noncomputable def kg(T:Nat->Bool)(z:List Nat):List Nat:=((vr z.length).filter T).map λk=>z.getD k 0
theorem EI{fs:FA}{z:List Nat}(T:Nat->Bool)(R:fs ρ st=.ok [.int z.length] st)(V:z.length<=50)(h:∀i:Nat,i<z.length->t ((pR cap ρ).set 0 (iO i)) st=.ok (T i) st/\el ((pR cap ρ).set 0 (iO i)) st=.ok (.str [z.getD i 0]) st) :
  fS cap (bJ fs) (gi 0) t el ρ st=.ok (.loc st.length) (st++[.lst (((kg T z).map λc=>[c]).map W.str)]):=by
 have d:bJ fs ρ st=.ok (bO 0 z.length,cg) st:=by have:=dU R #[0];rw[aH]at this;exact this
 rw[II (fi:=bJ fs) (f:=gi 0) (t:=t) (el:=el) (cap:=cap) (ρ:=ρ) (λw=>T (R8 w)) (λw=>.str [z.getD (R8 w) 0]) d (by rw[bM];show _<=1000000;omega) trivial λw y=>by obtain⟨i,D,rfl⟩:=yl y;rw[show((0:Int)+(i:Int))=(i:Int) by omega];exact⟨_,rfl,(h i D).1,λ_=>(h i D).2⟩]
 congr 4
 unfold bO kg;rw[List.filter_map,aU,aU,aU];have e:(λw=>T (R8 w))∘(λi:Nat=>W.int (0+(i:Int)))=T:=by
  funext k
  show T (0+(k:Int)).toNat=_;rw[show(0+(k:Int)).toNat=k by omega]
 rw[e];refine bW λk _=>?_;show W.str [z.getD (0+(k:Int)).toNat 0]=_;rw[show(0+(k:Int)).toNat=k by omega];rfl
theorem wR(T:Nat->Bool)(z:List Nat):(kg T z).length<=z.length:=by unfold kg;rw[ag];exact aT (qa _ _) (by rw[eQ];exact am _)
theorem Gr{T:Nat->Bool}{z:List Nat}(R:z.Nodup)(D:i<z.length):z.getD i 0∈kg T z↔T i=cT:=by
 unfold kg;rw[aE];constructor
 .rintro⟨k,B,e⟩;obtain⟨Z,Y⟩:=eW.mp B;have y:=cK.mp Z;have d:=cU 0 y;have e2:=cU 0 D;rw[e,<- e2]at d;rw[<- (no y R).mp d];exact Y
 .exact λh=>⟨i,eW.mpr ⟨cK.mpr D,h⟩,rfl⟩
theorem J9(T:Nat->Bool)(z:List Nat):∀c∈kg T z,c∈z:=λc J=>by obtain⟨k,B,rfl⟩:=aE.mp J;exact az (cU 0 (cK.mp (eW.mp B).1))
theorem MY{T:Nat->Bool}{z:List Nat}(R:z.Nodup):(kg T z).Nodup:=by unfold kg;refine dE.mpr ((List.nodup_range.filter T).imp_of_mem λ{a b} ha hb ne e=>ne ?_);have Z:=cK.mp (eW.mp ha).1;have Y:=cK.mp (eW.mp hb).1;exact(no Z R).mp (by rw[cU 0 Z,cU 0 Y,e])
noncomputable def tF(q:Nat):Nat->Bool:=λk=>decide (q/2^k%2=1)
theorem J_{d k:Nat}(D:fa ρ st=.ok (.int (d:Nat)) st)(U:fb ρ st=.ok (.int (k:Nat)) st):jc (e2 oJ (e2 vJ (e2 AJ fa fb) (eI 1)) (eI 1)) ρ st=.ok (tF d k) st:=by
 refine dJ (cq (cq (cq D U R9) cu MO) cu (rE ?_));unfold tF
 by_cases h:d/2^k%2=1
 .rw[h];rfl
 .rw[aQ h,dk];omega
theorem BS(z:List Nat)(U:z.length<=50)(d:Nat)(st:List al):BC [.str z,.int (d:Nat)] st=.ok (.str (xc (kg (tF d) z))) st:=by
 have V:z.length<=lw:=by show _<=1000000;omega
 have J:=EI (fs:=ac (bC e7 (ac (af 0) aD)) aD) (t:=jc (e2 oJ (e2 vJ (e2 AJ (af 2) (af 0)) (eI 1)) (eI 1))) (el:=e2 b9 (af 1) (af 0)) (cap:=[cg,bi 0,bi 1]) (ρ:=[bi (.str z),iO (d:Nat)]) (st:=st) (tF d) (au (b_ kn (l9 V)) be) U λi D=>
  ⟨J_ kv kv,cq kv kv (Ea V (gn (cU 0 D)))⟩
 refine im (N:=2) (ws:=[.str z,.int (d:Nat)]) (body:=Oq) ?_ rfl;apply cS
 .exact MH J (br bw) (by have:=wR (tF d) z;omega)
 .exact⟨_,_,rfl,rfl,_,by rw[aN]⟩
def J'(nm:List Nat)(q:Nat):List Nat:=kg (λk=>tF q (nm.length-1-k)) nm
theorem EJ(nm:List Nat)(U:nm.length<=50)(q:Nat)(st:List al):yp [.str nm,.int (q:Nat)] st=.ok (.str (J' nm q)) st:=by
 have V:nm.length<=lw:=by show _<=1000000;omega
 have J:=EI (fs:=ac (bC e7 (ac (af 0) aD)) aD) (t:=jc (e2 oJ (e2 vJ (e2 AJ (af 2) (e2 Cv (e2 Cv (bC e7 (ac (af 1) aD)) (eI 1)) (af 0))) (eI 1)) (eI 1))) (el:=e2 b9 (af 1) (af 0)) (cap:=[cg,bi 0,bi 1]) (ρ:=[bi (.str nm),iO (q:Nat)]) (st:=st) (λk=>tF q (nm.length-1-k)) (au (b_ kn (l9 V)) be) U λi D=>
  ⟨J_ (k:=nm.length-1-i) kv (by
   rw[show((nm.length-1-i:Nat):Int)=(nm.length:Int)-1-(i:Int) by omega];exact cq (cq (b_ kn (l9 V)) cu (nU trivial)) kv (nU trivial)),cq kv kv (Ea V (gn (cU 0 D)))⟩
 have I:=uo (sep:=[]) (ls:=(J' nm q).map λc=>[c]) (st:=st++[.lst (((J' nm q).map λc=>[c]).map W.str)]) (n:=st.length) (br bw) (by
  have:=wR (λk=>tF q (nm.length-1-k)) nm;rw[nV];unfold J';show _<=1000000;simp;omega)
 rw[qX]at I;refine im (N:=2) (ws:=[.str nm,.int (q:Nat)]) (body:=Ou) ?_ rfl;apply cS
 .exact CZ cu rfl (au J be) I
 .exact⟨_,_,rfl,rfl,_,rfl⟩
theorem Sf{a b:Nat}:([a]<[b])↔a<b:=by
 constructor
 .intro h
  cases h with
  |rel h=>exact h
  |cons h=>cases h
 .exact λh=>.rel h
theorem rY{I:List Nat}(h:l.Pairwise (· < ·))(h':I.Pairwise (· < ·))(y:∀a,a∈l↔a∈I):l=I:=by have nd:∀{l:List Nat},l.Pairwise (· < ·)->l.Nodup:=λh=>h.imp λz=>aJ z;have U:l.Perm I:=(mD (nd h) (nd h')).mpr y;exact List.Perm.eq_of_pairwise (λa b _ _ Z Y=>absurd (tV Z Y) (bX _)) h h' U
theorem MZ(own m:List Nat):∀(p:List Nat) (q:Nat),(∀i,i<p.length->(p.getD i 0∈m↔q/2^(p.length-1-i)%2=1))->Th own p q=uy m (p.filter λc=>decide (c∈own)):=by
 have key:∀(r:List Nat) (q:Nat),(∀i,i<r.length->(r.getD i 0∈m↔q/2^i%2=1))->Tr own r q=uy m ((r.reverse).filter λc=>decide (c∈own)):=by
  intro r
  induction r with
  |nil=>intro q _;rfl
  |cons c r U=>
   intro q h;have Y:=h 0 #[5];have w:=U (q/2) λi D=>by have:=h (i+1) (by simp;omega);rw[Nat.div_div_eq_div_mul,ip,<- lI];simpa using this
   rw[List.reverse_cons,List.filter_append];unfold Tr
   by_cases J:c∈own
   .rw[ax J,oA (by simpa using J),List.filter_nil,yr,<- w]
    congr 1
    have Y:c∈m↔q%2=1:=by simpa using Y
    by_cases y:c∈m
    .rw[ax y];exact Y.mp y
    .rw[aF y];have:¬ q%2=1:=λz=>y (Y.mpr z);omega
   .rw[aF J,oB (by simpa using J),List.filter_nil,bD,<- w]
 intro p q h;have:=key p.reverse q λi D=>by
  have I:i<p.length:=by simpa using D
  have d:=h (p.length-1-i) #[0];rw[show p.length-1-(p.length-1-i)=i by omega]at d;rw[<- d];rw[aA,List.getElem?_reverse I,aA]
 rw[List.reverse_reverse]at this;exact this
def Sub(own nm:List Nat):Prop:=own.Pairwise (· < ·)/\∀c∈own,c∈nm
theorem Sub.filter(h:Sub own nm)(d:nm.Pairwise (· < ·)):(nm.filter λc=>decide (c∈own))=own:=
 rY (d.filter _) h.1 λa=>by rw[eW];simp;exact h.2 a
theorem VM{m:List Nat}{q:Nat}(h:Sub own nm)(d:nm.Pairwise (· < ·))(y:∀i,i<nm.length->(nm.getD i 0∈m↔q/2^(nm.length-1-i)%2=1)):uy m own=Th own nm q:=by rw[MZ own m nm q y,h.filter d]
theorem Ka(l:List Nat):∃m:List Nat,m.Perm l/\kb (l.map λc=>[c])=m.map λc=>[c]:=by
 have key:∀{l m:List (List Nat)},l.Perm m->∀t:List Nat,m=t.map (λc=>[c])->∃Y:List Nat,Y.Perm t/\l=Y.map λc=>[c]:=by
  intro l m h
  induction h with
  |nil=>intro t e;exact⟨t,.refl _,e⟩
  |cons x _ U=>
   intro t e
   cases t with
   |nil=>cases e
   |cons a t=>
    obtain⟨d,e2⟩:=List.cons.inj e;obtain⟨Y,p,q⟩:=U t e2;exact⟨a::Y,p.cons a,by rw[aK,q,d]⟩
  |swap x y l=>
   intro t e
   match t,e with
   |[],e=>cases e
   |[_],e=>simp at e
   |a::b::t,e=>
    simp only[aK,lj]at e;obtain⟨d,e2,I⟩:=e;exact⟨b::a::t,aad _ _ _,by simp only[aK,d,e2,I]⟩
  |trans _ _ O Z=>
   intro t e;obtain⟨z,R,w⟩:=Z t e;obtain⟨V,W,J⟩:=O z w;exact⟨V,W.trans R,J⟩
 obtain⟨t,p,e⟩:=key (ik _) l rfl;exact⟨t,p,e⟩
theorem Db(R:l.Nodup):(xc l).Pairwise (· < ·):=by
 obtain⟨m,p,e⟩:=Ka l;have d:=vS (l.map λc=>[c]);unfold xc;rw[e]at d ⊢;rw[qX];have Z:m.Pairwise λa b=>¬ [b]<[a]:=dE.mp d;exact(Z.and (p.nodup_iff.mpr R)).imp λ{a b} h=>by have z:¬ b<a:=λz=>h.1 (Sf.mpr z);have y:a≠b:=h.2;omega
theorem EK{s1:List al}(h:fe ρ st=.ok (.str l) s1)(I:l.length<64):∃x,GL mV (eC (.str [])) (ac (bC lW (ac fe aD)) aD) ρ st=.ok (.str (xc l)) (s1++x):=by
 have O:lW [.str l] s1=.ok (.loc s1.length) (s1++[.lst ((kb (l.map λc=>[c])).map W.str)]):=by unfold lW;simp only;rw[ax I]
 have B:=uo (sep:=[]) (ls:=kb (l.map λc=>[c])) (st:=s1++[.lst ((kb (l.map λc=>[c])).map W.str)]) (n:=s1.length) (br bw) (by rw[wJ (ik _),nV];show _<=1000000;simp;omega);exact⟨_,CZ cu rfl (au (b_ (au h be) O) be) B⟩
theorem Kb{q:Nat}(h:Sub own nm)(d:nm.Pairwise (· < ·)):uy (J' nm q) own=Th own nm q:=
 VM h d λi D=>by unfold J';rw[Gr (d.imp λh=>aJ h) D];unfold tF;exact df
def HR(A B nm:List Nat)(q:Nat):W:=.tup [.int (Th A nm q:Nat),.int (Th B nm q:Nat)]
theorem M0{A B:Mc}(rq:fH (A.nm++B.nm)=nm)(SR:∀c∈A.nm++B.nm,c∈LL)(GO:(A.nm++B.nm).length<4000)(tL:nm.length<=13)(hA:A.nm.Pairwise (· < ·))(hB:B.nm.Pairwise (· < ·))(st:List al) :
  ∃(j:Nat) (x:List al),(gK x/\x[j]?=bi (.lst ((vr (2^nm.length)).map (HR A.nm B.nm nm))))/\Es [A.w,B.w] st=.ok (.loc (st.length+j)) (st++x):=by
 have z:nm.Pairwise (· < ·):=by rw[<- rq];exact gm _
 have Y:∀c,c∈nm↔c∈A.nm++B.nm:=λc=>by rw[<- rq];exact gB
 have sA:Sub A.nm nm:=⟨hA,λc J=>(Y c).mpr (c_ _ J)⟩
 have sB:Sub B.nm nm:=⟨hB,λc J=>(Y c).mpr (bn _ J)⟩
 have hN:=Ex tL;obtain⟨N,hNN⟩:∃N,N=2^nm.length:=⟨_,rfl⟩
 have sh:∀s:List al,yQ (.int 1) (.int nm.length) s=.ok (.int N) s:=λs=>by rw[hNN];exact Dz #[0]
 rw[<- hNN]at hN ⊢;refine qQ (N:=6) (ws:=[A.w,B.w]) (body:=OA) (Q:=λj x=>gK x/\x[j]?=bi (.lst ((vr (N)).map (HR A.nm B.nm nm)))) ?_;have Z:lU (e2 da (e2 b9 (af 0) (eI 0)) (e2 b9 (af 1) (eI 0))) [bi A.w,bi B.w,cg,cg,cg,cg] st=.ok (.loc st.length) (st++[.lst (ij nm)]):=by unfold lU;rw[cq (cq kv cu (qv A st)) (cq kv cu (qv B st)) (ww (by rw[ay]at GO;show _<=1000000;omega))];simp only[R.bind_ok,sM,cO];rw[ax ⟨GO,by rw[rq];omega⟩,rq]
 have I:=uo (sep:=[]) (ls:=nm.map λc=>[c]) (st:=st++[.lst (ij nm)]) (n:=st.length) (br (by rw[bw];unfold ij;rw[aU];rfl)) (by
  rw[nV];show _<=1000000;simp;omega)
 rw[qX]at I;apply aO
 .exact cb (CZ cu rfl (au Z be) I)
 generalize KW:st++[al.lst (ij nm)]=s0;apply aO
 ·(walk_at "evs")
 refine gc (λi V s=>∃o4 o5:Option W,V=[bi A.w,bi B.w,bi (.str nm),lO s0.length,o4,o5]/\s=s0++[.lst ((vr i).map (HR A.nm B.nm nm))])
  (dU (q:=(N:Int)) (st1:=s0++[al.lst []]) (au (cq cu (b_ kn (l9 (by show _<=1000000;omega))) (sh _)) be) #[0]) ⟨cg,cg,rfl,rfl⟩ (λ_ _ _ _=>trivial) ?_ ?_
 .rintro i w V s O ⟨o4,o5,rfl,rfl⟩;obtain⟨D,rfl⟩:=gR O;rw[aH]at D;refine⟨_,rfl,?_⟩;apply aO
  .exact cb (cy (au kv kn) (EJ nm #[0] i _) rfl)
  have la:=sg A.nm (J' nm i) (s0++[.lst ((vr i).map (HR A.nm B.nm nm))]);have lb:=sg B.nm (J' nm i) (s0++[.lst ((vr i).map (HR A.nm B.nm nm))]);rw[Kb sA z]at la;rw[Kb sB z]at lb;have ap:=me (y:=HR A.nm B.nm nm i) (s:=s0++[.lst ((vr i).map (HR A.nm B.nm nm))]) bw (by rw[ag,eQ];omega);apply dL
  .exact iG (sd kv (gY bw) (au (fI (au (cy (au (cq kv cu (qv A _)) kn) la rfl) (au (cy (au (cq kv cu (qv B _)) kn) lb rfl) be)) (aw rfl)) be) ap)
  .exact⟨_,_,rfl,_,_,rfl,by rw[jx,gI,bN];rfl⟩
 .rintro V s ⟨o4,o5,rfl,rfl⟩;rw[bM,aH];apply cS
  .exact jI rfl
  .refine⟨_,_,rfl,1,[.lst (ij nm),.lst ((vr N).map (HR A.nm B.nm nm))],by rw[<- KW,ay];rfl,by rw[<- KW,aN];rfl,λd U a=>?_,rfl⟩;simp only[aG,cr,ib]at U;rcases U with rfl|rfl<;>rfl
structure PI(Ms:List Mc)(nm:List Nat)(F:List (List Nat))(Dn:Nat->Nat->Nat->Prop):Prop where
 nd:F.Nodup
 rch:∀r∈F,nL Ms nm r
 zer:pw Ms.length 0∈F
 clo:∀q a b,Dn q a b->a<F.length/\b<F.length/\led Ms nm q (F.getD a []) (F.getD b [])∈F
noncomputable def xD(F:List (List Nat))(v:List Nat):List (List Nat):=if v∈F then F else F++[v]
section
variable{Ms:List Mc}{F:List (List Nat)}{Dn Yp:Nat->Nat->Nat->Prop}
theorem PI.imp(g:PI Ms nm F Dn)(h:∀q a b,Yp q a b->Dn q a b):PI Ms nm F Yp:=⟨g.nd,g.rch,g.zer,λq a b z=>g.clo q a b (h q a b z)⟩
theorem qw(v:List Nat):F <+: xD F v:=by
 unfold xD
 split
 .exact ah _
 .exact aq _ _
theorem PI.put(g:PI Ms nm F Dn){q a b:Nat}(R:q<2^nm.length)(D:a<F.length)(U:b<F.length):PI Ms nm (xD F (led Ms nm q (F.getD a []) (F.getD b []))) (λd a' b'=>Dn d a' b'\/(d=q/\a'=a/\b'=b)):=by
 have w:∀{c},c<F.length->(xD F (led Ms nm q (F.getD a []) (F.getD b []))).getD c []=F.getD c []:=λ{c} hc=>by obtain⟨t,e⟩:=qw (F:=F) (led Ms nm q (F.getD a []) (F.getD b []));rw[<- e,aA,aA,aV hc]
 have I:=(qw (F:=F) (led Ms nm q (F.getD a []) (F.getD b []))).length_le;have V:=(qw (F:=F) (led Ms nm q (F.getD a []) (F.getD b []))).subset;have J:nL Ms nm (led Ms nm q (F.getD a []) (F.getD b [])):=.step (g.rch _ (az (cU [] D))) (g.rch _ (az (cU [] U))) R;have W:led Ms nm q (F.getD a []) (F.getD b [])∈xD F (led Ms nm q (F.getD a []) (F.getD b [])):=by
  unfold xD
  split
  .assumption
  .simp
 refine⟨?_,λr hr=>?_,V g.zer,?_⟩
 .unfold xD
  split
  .exact g.nd
  .rename_i h
   exact gQ.mpr ⟨g.nd,by simp,λx O y z=>by rw[aM]at z;subst z;exact λe=>h (e▸O)⟩
 .unfold xD at hr
  split at hr
  .exact g.rch r hr
  .rcases aZ.mp hr with hr|hr
   .exact g.rch r hr
   .rw[aM.mp hr];exact J
 .rintro d a' b' (h|⟨rfl,rfl,rfl⟩)
  .obtain⟨Z,Y,B⟩:=g.clo d a' b' h;rw[w Z,w Y];exact⟨by omega,by omega,V B⟩
  .rw[w D,w U];exact⟨by omega,by omega,W⟩
theorem PI.all(g:PI Ms nm F λq a b=>q<2^nm.length/\a<F.length/\b<F.length):∀r,r∈F↔nL Ms nm r:=λr=>⟨g.rch r,λh=>by
 induction h with
 |zero=>exact g.zer
 |@step l r q _ _ hq hl hr=>
  obtain⟨i,D⟩:=cM hl;obtain⟨j,I⟩:=cM hr;have Z:=(ak.mp D).1;have Y:=(ak.mp I).1;have z:=(g.clo q i j ⟨hq,Z,Y⟩).2.2;rw[aA,aA,D,I]at z;exact z⟩
end
theorem BU:∀a b:List Nat,eqWs (a.map λk=>W.int (k:Nat)) (b.map λk=>W.int (k:Nat))=bi (decide (a=b))
 |[],[]=>rfl
 |[],b::bs=>by simp[eqWs]
 |a::as,[]=>by simp[eqWs]
 |a::as,b::bs=>by
  simp only[aK,eqWs,kJ,BU as bs]
  by_cases h:a=b
  .subst h;simp
  .have Y:¬ ((a:Nat):Int)=b:=by omega
   simp[h,Y]
theorem BV(v:List Nat):∀F:List (List Nat),sJ (bf v) (F.map bf)=bi (decide (v∈F))
 |[]=>rfl
 |r::F=>by
  have e:kJ (bf r) (bf v)=bi (decide (r=v)):=by unfold bf kJ;exact BU r v
  rw[aK];unfold sJ;rw[e,BV v F]
  by_cases h:r=v
  .subst h;simp
  .simp[h,YU h]
theorem BW:∀l:List Nat,depWs (l.map λk=>W.int (k:Nat))=0
 |[]=>rfl
 |l::ls=>by simp only[List.map,depWs,W.dep,BW ls];rfl
theorem BX:∀F:List (List Nat),depWs (F.map bf)<=1
 |[]=>dy _
 |r::F=>by have:=BX F;simp only[aK,depWs,bf,W.dep,BW];exact Nat.max_le.mpr ⟨by omega,this⟩
theorem Sg{v:List Nat}{F:List (List Nat)}{s:List al}(h:s[n]?=bi (.lst (F.map bf))):AM cT (bf v) (.loc n) s=.ok (.bl (!decide (v∈F))) s:=by unfold AM;simp only[h,BV];rw[ax (aT (BX F) #[1])];rfl
noncomputable def Dd(r:List Nat):List Int:=r.map λk:Nat=>(k:Int)
theorem Kc(r:List Nat):CW (Dd r)=bf r:=(tD r).symm
theorem M1{a b:List Nat}(h:Dd a=Dd b):a=b:=(mC λx y e=>Int.ofNat.inj e).mp h
theorem EL:∀F:List (List Nat),(∀r∈F,r≠[])->uK (F.map bf)=bi (F.map Dd)
 |[],_=>rfl
 |r::F,h=>by
  have U:=EL F λx O=>h x (aC _ O);have z:kc ((Dd r).map W.int)=bi (Dd r):=wM _;rw[aK,tD];show uK (.tup ((Dd r).map W.int)::F.map bf)=_;simp only[uK,z,U]
  cases r with
  |nil=>exact absurd rfl (h [] (by simp))
  |cons a r=>rfl
theorem yu{F:List (List Nat)}(Y:∀r∈F,r≠[])(I:F.length<64):∃G:List (List Nat),G.Perm F/\GM (G.map Dd)/\∀(s:List al) (n:Nat),s[n]?=bi (.lst (F.map bf))->r9 [.loc n] s=.ok (.loc s.length) (s++[.lst (G.map bf)]):=by
 obtain⟨G,p,e⟩:=yg (wj (F.map Dd)) (T:=F) (f:=Dd) rfl;refine⟨G,p,by rw[e];exact Bc _,λs n h=>?_⟩;unfold r9;simp only[br h,cO,EL F Y];rw[ax (by rw[ag];exact I),<- e,aU]
 congr 4
 exact bW λr _=>Kc r
theorem Kd{G G':List (List Nat)}(p:G.Perm G')(h:GM (G.map Dd))(h':GM (G'.map Dd)):G=G':=
 (mC λx y e=>M1 e).mp (zk h h' (p.map _))
theorem VN{s:List al}{p:Nat}{c:al}(h:gK s)(J:∀a,jH a c=dw):gK (s.set p c):=λd D a=>by
 rcases mO D with z|z
 .exact h d z a
 .rw[z];exact J a
structure Gu(st:List al)(pL pF:Nat)(ls:List W)(F:List (List Nat))(s:List al):Prop where
 pre:st <+: s
 f:s[pF]?=bi (.lst (F.map bf))
 l:s[pL]?=bi (.lst ls)
 np:gK s
abbrev pE(A B:Mc)(y z i:Nat)(D o6 o7 o8 o9 o10 o11:Option W):cE:=[bi A.w,bi B.w,lO y,lO z,iO (i:Nat),D,o6,o7,o8,o9,o10,o11]
theorem wS(M:Mc)(s:List al):b9 M.w (.int 2) s=.ok (.tup (M.tb.map iL)) s:=rfl
theorem EM{M:Mc}(D:Ai M M.gd.length)(V:nm.Nodup){q x y:Nat}(O:x<M.gd.length)(z:y<M.gd.length){fm fk fx fy:FE}{s:List al}(R:fm ρ s=.ok M.w s)(B:fk ρ s=.ok (.int (Th M.nm nm q:Nat)) s)(Z:fx ρ s=.ok (.int (x:Nat)) s)(Y:fy ρ s=.ok (.int (y:Nat)) s) :
  e2 b9 (e2 b9 (e2 b9 (e2 b9 fm (eI 2)) fk) fx) fy ρ s=.ok (.int (KP M nm q x y:Nat)) s:=by
 obtain⟨t,W,d,w,I,U,J,e6⟩:=EC D (BI V q) O z;have v:KP M nm q x y=W.getD y 0:=by unfold KP;rw[w,U]
 rw[w,U]at J;rw[v];exact cq (cq (cq (cq R cu (wS M s)) B (l8 (gn (by rw[ao,d];rfl)))) Z (zM I)) Y (zL J)
def Ke:FS:=(a9 (bZ 10 (e2 b9 (e2 b9 (e2 b9 (e2 b9 (af 0) (eI 2)) (af 6)) (e2 b9 (e2 b9 (af 3) (af 8)) (eI 0))) (e2 b9 (e2 b9 (af 3) (af 9)) (eI 0)))) (a9 (bZ 11 (e2 b9 (e2 b9 (e2 b9 (e2 b9 (af 1) (eI 2)) (af 7)) (e2 b9 (e2 b9 (af 3) (af 8)) (eI 1))) (e2 b9 (e2 b9 (af 3) (af 9)) (eI 1)))) (lK (jc (e2 (AM cT) (fJ (ac (af 10) (ac (af 11) aD))) (af 3))) (gU (vc dP (af 3) (ac (fJ (ac (af 10) (ac (af 11) aD))) aD))) eK)))
section
variable{A B:Mc}{F:List (List Nat)}{Dn:Nat->Nat->Nat->Prop}{s:List al}{pL pF:Nat}{ls:List W}
theorem OI(qZ:qt [A,B])(z:∀M∈[A,B],0<M.gd.length)(w:nm.Nodup){q a b i k:Nat}(Y:q<2^nm.length)(D:a<F.length)(U:b<F.length)(Yh:F.length<1000)(Z:st.length<=pF)(nY:pF≠pL)(g:PI [A,B] nm F Dn)(O:Gu st pL pF ls F s){o10 o11:Option W} :
  jd (C1 λρ d=>∃o10 o11:Option W,ρ=pE A B pL pF i (iO (k:Nat)) (iO (Th A.nm nm q:Nat)) (iO (Th B.nm nm q:Nat)) (iO (a:Nat)) (iO (b:Nat)) o10 o11/\Gu st pL pF ls (xD F (led [A,B] nm q (F.getD a []) (F.getD b []))) d)
   (Ke (pE A B pL pF i (iO (k:Nat)) (iO (Th A.nm nm q:Nat)) (iO (Th B.nm nm q:Nat)) (iO (a:Nat)) (iO (b:Nat)) o10 o11) s):=by
 have la:=cU [] D;have lb:=cU [] U;have ra:=kw qZ z w (g.rch _ (az la));have rb:=kw qZ z w (g.rch _ (az lb));generalize F.getD a []=l at la ra ⊢;generalize F.getD b []=r at lb rb ⊢;have ix:∀{c:Nat} {v:List Nat},F[c]?=bi v->b9 (.loc pF) (.int (c:Nat)) s=.ok (bf v) s:=λe=>uM (br O.f) (gn (by rw[ao,e];rfl));have V:∀{v:List Nat} {j:Nat},rH [A,B] v->j<2->b9 (bf v) (.int (j:Nat)) s=.ok (.int (v.getD j 0:Nat)) s:=λh I=>zL (cU 0 (by rw[h.1];exact I));unfold Ke;apply aO
 .exact cb (EM (M:=A) (qZ A #[5]) w (ra.2 0 #[5]) (rb.2 0 #[5]) kv kv (cq (cq kv kv (ix la)) cu (V (j:=0) ra #[0])) (cq (cq kv kv (ix lb)) cu (V (j:=0) rb #[0])))
 apply aO
 .exact cb (EM (M:=B) (qZ B #[5]) w (ra.2 1 #[5]) (rb.2 1 #[5]) kv kv (cq (cq kv kv (ix la)) cu (V (j:=1) ra #[0])) (cq (cq kv kv (ix lb)) cu (V (j:=1) rb #[0])))
 have ev:W.tup [.int (KP A nm q (l.getD 0 0) (r.getD 0 0):Nat),.int (KP B nm q (l.getD 1 0) (r.getD 1 0):Nat)]=bf (led [A,B] nm q l r):=rfl;have J:=Sg (v:=led [A,B] nm q l r) O.f;rw[<- ev]at J;unfold xD
 by_cases R:led [A,B] nm q l r∈F
 .rw[bb R]at J;rw[ax R];apply mY
  .exact dJ (cq (fI (au kv kn) (aw rfl)) kv J)
  .exact⟨_,_,rfl,_,_,rfl,O⟩
 .rw[aQ R]at J;rw[aF R];have ap:=me (y:=bf (led [A,B] nm q l r)) O.f (by rw[ag];omega);rw[<- ev]at ap;apply rF
  .exact dJ (cq (fI (au kv kn) (aw rfl)) kv J)
  apply dL
  .exact iG (sd kv (gY O.f) (au (fI (au kv kn) (aw rfl)) be) ap)
  .exact⟨_,_,rfl,_,_,rfl,jL O.pre Z,by rw[md O.f,bN];rfl,by rw[R5 nY];exact O.l,VN O.np λ_=>rfl⟩
end
def pP:FS:=iC (fT (fJ (ac (fJ (ac (af 4) (ac (af 5) aD))) (ac (fJ (ac (af 5) (ac (af 4) aD))) aD)))) (yU 2 (dg (gi 8) (dg (gi 9) j_))) Ke
def pQ:FS:=iC (fT (af 2)) (yU 2 (dg (gi 6) (dg (gi 7) j_))) pP
def pW:FS:=nz (jc (e2 yR (af 4) (bC e7 (ac (af 3) aD)))) (a9 (iC (bJ (ac (e2 da (af 4) (eI 1)) aD)) (gi 5) pQ) (bZ 4 (e2 da (af 4) (eI 1))))
def EN(N i k q B a b:Nat):Prop:=(B<N/\((a<i/\b<i)\/(a=i/\b<k)\/(b=i/\a<k)))\/(B<q/\((a=i/\b=k)\/(a=k/\b=i)))
theorem Kf{t q a b:Nat}(h:EN N i (t+1) 0 q a b):EN N i t N q a b:=by
 rcases h with⟨Y,h|⟨e,h⟩|⟨e,h⟩⟩|⟨h,_⟩
 .exact .inl ⟨Y,.inl h⟩
 .rcases jt (j7 h)with z|z
  .exact .inl ⟨Y,.inr (.inl ⟨e,z⟩)⟩
  .exact .inr ⟨Y,.inl ⟨e,z⟩⟩
 .rcases jt (j7 h)with z|z
  .exact .inl ⟨Y,.inr (.inr ⟨e,z⟩)⟩
  .exact .inr ⟨Y,.inr ⟨z,e⟩⟩
 .exact absurd h (gG _)
theorem Si{q a b:Nat}(h:EN N (i+1) 0 0 q a b):EN N i (i+1) 0 q a b:=by
 rcases h with⟨R,⟨Z,Y⟩|⟨_,h⟩|⟨_,h⟩⟩|⟨h,_⟩
 .rcases jt (j7 Z)with z|z
  .rcases jt (j7 Y)with y|y
   .exact .inl ⟨R,.inl ⟨z,y⟩⟩
   .exact .inl ⟨R,.inr (.inr ⟨y,Z⟩)⟩
  .exact .inl ⟨R,.inr (.inl ⟨z,Y⟩)⟩
 all_goals exact absurd h (gG _)
section
variable{A B:Mc}{F:List (List Nat)}{s:List al}{pL pF q:Nat}
abbrev EO(A B:Mc)(nm:List Nat):List W:=(vr (2^nm.length)).map (HR A.nm B.nm nm)
theorem VO(qZ:qt [A,B])(h0:∀M∈[A,B],0<M.gd.length)(jB:nm.Nodup)(hB:∀F:List (List Nat),F.Nodup->(∀r∈F,nL [A,B] nm r)->F.length<64)(Y:q<2^nm.length)(D:i<F.length)(J:k<F.length)(U:st.length<=pF)(nY:pF≠pL)(g:PI [A,B] nm F (EN (2^nm.length) i k q))(O:Gu st pL pF (EO A B nm) F s){o8 o9 o10 o11:Option W} :
  jd (C1 λρ d=>∃(F':List (List Nat)) (o8 o9 o10 o11:Option W),ρ=pE A B pL pF i (iO (k:Nat)) (iO (Th A.nm nm q:Nat)) (iO (Th B.nm nm q:Nat)) o8 o9 o10 o11/\Gu st pL pF (EO A B nm) F' d/\PI [A,B] nm F' (EN (2^nm.length) i k (q+1))/\F <+: F')
   (pP (pE A B pL pF i (iO (k:Nat)) (iO (Th A.nm nm q:Nat)) (iO (Th B.nm nm q:Nat)) o8 o9 o10 o11) s):=by
 unfold pP;refine kN (k:=([.tup [.int (i:Nat),.int (k:Nat)],.tup [.int (k:Nat),.int (i:Nat)]],cg)) (st1:=s) (λt ρ d=>∃(F':List (List Nat)) (o8 o9 o10 o11:Option W),ρ=pE A B pL pF i (iO (k:Nat)) (iO (Th A.nm nm q:Nat)) (iO (Th B.nm nm q:Nat)) o8 o9 o10 o11/\Gu st pL pF (EO A B nm) F' d/\PI [A,B] nm F' (λq' a b=>EN (2^nm.length) i k q q' a b\/(0<t/\q'=q/\a=i/\b=k)\/(1<t/\q'=q/\a=k/\b=i))/\F <+: F')
  (Ee (fI (au (fI (au kv kn) (aw rfl)) (au (fI (au kv kn) (aw rfl)) be)) (aw rfl))) ⟨F,o8,o9,o10,o11,rfl,O,g.imp λq' a b h=>by rcases h with h|⟨h,_⟩|⟨h,_⟩<;>first|exact h|omega,ah _⟩ (λ_ _ _ _=>trivial) ?_ ?_
 .rintro t w ρ V y ⟨F1,o8,o9,o10,o11,rfl,sj,g1,p1⟩;have I:=p1.length_le;have hF:=hB F1 g1.nd g1.rch
  match t,y with
  |0,y=>
   cases y
   refine⟨_,rfl,?_⟩;refine jd.mono (OI (i:=i) (k:=k) (a:=i) (b:=k) qZ h0 jB Y #[0] #[0] #[0] U nY g1 sj (o10:=o10) (o11:=o11)) ?_;rintro r ⟨R,Z,rfl,o10,o11,rfl,nZ⟩;exact⟨_,_,rfl,_,_,_,_,_,rfl,nZ,(g1.put Y #[0] #[0]).imp λq' a b h=>by
    rcases h with h|⟨_,h⟩|⟨h,_⟩
    .exact .inl (.inl h)
    .exact .inr h
    .omega,p1.trans (qw _)⟩
  |1,y=>
   cases y
   refine⟨_,rfl,?_⟩;refine jd.mono (OI (i:=i) (k:=k) (a:=k) (b:=i) qZ h0 jB Y #[0] #[0] #[0] U nY g1 sj (o10:=o10) (o11:=o11)) ?_;rintro r ⟨R,Z,rfl,o10,o11,rfl,nZ⟩;exact⟨_,_,rfl,_,_,_,_,_,rfl,nZ,(g1.put Y #[0] #[0]).imp λq' a b h=>by
    rcases h with h|⟨_,h⟩|⟨_,h⟩
    .exact .inl (.inl h)
    .exact .inl (.inr (.inl ⟨by omega,h⟩))
    .exact .inr h,p1.trans (qw _)⟩
  |t+2,y=>cases y
 .rintro ρ d ⟨F',o8,o9,o10,o11,rfl,hs',g',p'⟩;exact⟨_,_,rfl,F',_,_,_,_,rfl,hs',g'.imp λq' a b h=>by
   rcases h with h|⟨h,e⟩
   .exact .inl (.inl h)
   .rcases eR q' q with z|z
    .exact .inl (.inr ⟨z,e⟩)
    .rcases e with e|e
     .exact .inr (.inl ⟨by show 0<2;omega,by omega,e⟩)
     .exact .inr (.inr ⟨by show 1<2;omega,by omega,e⟩),p'⟩
theorem VP(qZ:qt [A,B])(h0:∀M∈[A,B],0<M.gd.length)(jB:nm.Nodup)(hB:∀F:List (List Nat),F.Nodup->(∀r∈F,nL [A,B] nm r)->F.length<64)(D:i<F.length)(J:k<F.length)(U:st.length<=pF)(nY:pF≠pL)(g:PI [A,B] nm F (EN (2^nm.length) i k 0))(O:Gu st pL pF (EO A B nm) F s){o6 o7 o8 o9 o10 o11:Option W} :
  jd (C1 λρ d=>∃(F':List (List Nat)) (o6 o7 o8 o9 o10 o11:Option W),ρ=pE A B pL pF i (iO (k:Nat)) o6 o7 o8 o9 o10 o11/\Gu st pL pF (EO A B nm) F' d/\PI [A,B] nm F' (EN (2^nm.length) i k (2^nm.length))/\F <+: F')
   (pQ (pE A B pL pF i (iO (k:Nat)) o6 o7 o8 o9 o10 o11) s):=by
 unfold pQ;refine kN (λt ρ d=>∃(F':List (List Nat)) (o6 o7 o8 o9 o10 o11:Option W),ρ=pE A B pL pF i (iO (k:Nat)) o6 o7 o8 o9 o10 o11/\Gu st pL pF (EO A B nm) F' d/\PI [A,B] nm F' (EN (2^nm.length) i k t)/\F <+: F')
  (mX kv (br O.l)) ⟨F,o6,o7,o8,o9,o10,o11,rfl,O,g,ah _⟩ (λt ρ d zy=>by obtain⟨_,_,_,_,_,_,_,_,h,_⟩:=zy;exact br h.l) ?_ ?_
 .rintro t w ρ V y ⟨F1,o6,o7,o8,o9,o10,o11,rfl,sj,g1,p1⟩;rw[ao,a8]at y;obtain⟨q,Y,rfl⟩:=y;obtain⟨Z,rfl⟩:=ak.mp Y;rw[List.getElem_range];have Z:t<2^nm.length:=by simpa using Z
  refine⟨_,rfl,?_⟩;have I:=p1.length_le;refine jd.mono (VO qZ h0 jB hB Z #[0] #[0] U nY g1 sj (o8:=o8) (o9:=o9) (o10:=o10) (o11:=o11)) ?_;rintro r ⟨R,z,rfl,F2,o8,o9,o10,o11,rfl,nZ,g2,p2⟩;exact⟨_,_,rfl,F2,_,_,_,_,_,_,rfl,nZ,g2,p1.trans p2⟩
 .rintro ρ d ⟨F',o6,o7,o8,o9,o10,o11,rfl,hs',g',p'⟩;rw[show(EO A B nm,bi (pL,EO A B nm)).1.length=2^nm.length by simp]at g';exact⟨_,_,rfl,F',_,_,_,_,_,_,rfl,hs',g',p'⟩
theorem VQ(qZ:qt [A,B])(h0:∀M∈[A,B],0<M.gd.length)(jB:nm.Nodup)(hB:∀F:List (List Nat),F.Nodup->(∀r∈F,nL [A,B] nm r)->F.length<64)(U:st.length<=pF)(nY:pF≠pL)(g:PI [A,B] nm F (EN (2^nm.length) 0 0 0))(O:Gu st pL pF (EO A B nm) F s) :
  jd (C1 λρ d=>∃(F':List (List Nat)) (o5 o6 o7 o8 o9 o10 o11:Option W),ρ=pE A B pL pF F'.length o5 o6 o7 o8 o9 o10 o11/\Gu st pL pF (EO A B nm) F' d/\F'.Nodup/\∀r,r∈F'↔nL [A,B] nm r)
   (pW (pE A B pL pF 0 cg cg cg cg cg cg cg) s):=by
 unfold pW;have tst:∀{ρ:cE} {s:List al} {i:Nat} {F':List (List Nat)},ρ[4]?=bi (bi (.int (i:Nat)))->ρ[3]?=bi (bi (.loc pF))->s[pF]?=bi (.lst (F'.map bf))->jc (e2 yR (af 4) (bC e7 (ac (af 3) aD))) ρ s=.ok (decide ((i:Int)<(F'.length:Int))) s:=λr4 r3 J=>
  dJ (cq (jI r4) (b_ (au (jI r3) be) (by rw[oQ (br J),ag])) (uL rfl))
 refine wz (λn ρ s=>∃(i:Nat) (F':List (List Nat)) (o5 o6 o7 o8 o9 o10 o11:Option W),ρ=pE A B pL pF i o5 o6 o7 o8 o9 o10 o11/\n=1000-i/\i<=F'.length/\Gu st pL pF (EO A B nm) F' s/\PI [A,B] nm F' (EN (2^nm.length) i 0 0)) 1000 ⟨0,F,_,_,_,_,_,_,_,rfl,rfl,dy _,O,g⟩ ?_ ?_
 .rintro n ρ s ⟨i,F1,o5,o6,o7,o8,o9,o10,o11,rfl,rfl,D,sj,z⟩;have t:=tst (ρ:=pE A B pL pF i o5 o6 o7 o8 o9 o10 o11) (i:=i) rfl rfl sj.f;rcases eR i F1.length with hlt|E0
  .refine .inr ⟨by rw[t,bb #[0]],?_⟩;have hF:=hB F1 z.nd z.rch;refine gc (λt ρ d=>∃(F':List (List Nat)) (o5 o6 o7 o8 o9 o10 o11:Option W),ρ=pE A B pL pF i o5 o6 o7 o8 o9 o10 o11/\Gu st pL pF (EO A B nm) F' d/\PI [A,B] nm F' (EN (2^nm.length) i t 0)/\F1 <+: F')
    (dU (q:=((i+1:Nat):Int)) (st1:=s) (au (cq kv cu gy) be) #[0]) ⟨F1,_,_,_,_,_,_,_,rfl,sj,z,ah _⟩ (λ_ _ _ _=>trivial) ?_ ?_
   .rintro t w ρ Y y ⟨F2,o5,o6,o7,o8,o9,o10,o11,rfl,nZ,g2,p2⟩;obtain⟨Z,rfl⟩:=gR y;rw[aH]at Z;refine⟨_,rfl,?_⟩;have I:=p2.length_le;refine jd.mono (VP (k:=t) qZ h0 jB hB #[0] #[0] U nY g2 nZ (o6:=o6) (o7:=o7) (o8:=o8) (o9:=o9) (o10:=o10) (o11:=o11)) ?_;rintro r ⟨R,s3,rfl,F3,o6,o7,o8,o9,o10,o11,rfl,hs3,g3,p3⟩;exact⟨_,_,rfl,F3,_,_,_,_,_,_,_,rfl,hs3,g3.imp λq a b h=>Kf h,p2.trans p3⟩
   .rintro ρ Y ⟨F2,o5,o6,o7,o8,o9,o10,o11,rfl,nZ,g2,p2⟩;rw[bM,aH]at g2;have I:=p2.length_le;apply dL
    .exact cb (cq kv cu gy)
    .exact⟨_,_,rfl,1000-(i+1),by omega,i+1,F2,_,_,_,_,_,_,_,rfl,rfl,by omega,nZ,g2.imp λq a b h=>Si h⟩
  .exact .inl (by rw[t,aQ #[0]])
 .rintro n ρ d ⟨i,F',o5,o6,o7,o8,o9,o10,o11,rfl,rfl,D,hs',g'⟩ V;rw[tst (i:=i) rfl rfl hs'.f]at V;have E0:i=F'.length:=by injection V with h1 h2;have:=jq h1;omega
  subst E0;exact⟨_,_,rfl,F',_,_,_,_,_,_,_,rfl,hs',g'.nd,(g'.imp λq a b h=>.inl ⟨h.1,.inl h.2⟩).all⟩
theorem Kg(qZ:qt [A,B])(z:∀M∈[A,B],0<M.gd.length)(rq:fH (A.nm++B.nm)=nm)(SR:∀c∈A.nm++B.nm,c∈LL)(GO:(A.nm++B.nm).length<4000)(tL:nm.length<=13)(hA:A.nm.Pairwise (· < ·))(YE:B.nm.Pairwise (· < ·))(J:∀F:List (List Nat),F.Nodup->(∀r∈F,nL [A,B] nm r)->F.length<64)(np:gK st) :
  ∃(G:List (List Nat)) (j:Nat) (x:List al),G.Nodup/\(∀r,r∈G↔nL [A,B] nm r)/\GM (G.map Dd)/\x[j]?=bi (.lst (G.map bf))/\gK (st++x)/\Eu [A.w,B.w] st=.ok (.loc (st.length+j)) (st++x):=by
 have jB:nm.Nodup:=by rw[<- rq];exact(gm _).imp λh=>aJ h
 suffices Z:jd (B9 λw U=>∃j x,w=.loc (st.length+j)/\U=st++x/\∃G:List (List Nat),G.Nodup/\(∀r,r∈G↔nL [A,B] nm r)/\GM (G.map Dd)/\x[j]?=bi (.lst (G.map bf))/\gK (st++x)) (OB ([A.w,B.w].map bi++pw (12-2) cg) st) by
  obtain⟨j,x,⟨G,a,b,c,d,f⟩,e⟩:=qQ Z;exact⟨G,j,x,a,b,c,d,f,e⟩
 obtain⟨j,x,⟨npx,O⟩,eb⟩:=M0 rq SR GO tL hA YE st;apply aO
 .exact cb (cy (au kv kn) eb rfl)
 have cL:(st++x)[st.length+j]?=bi (.lst (EO A B nm)):=by rw[mW];exact O
 have I:st <+: st++x:=aq _ _;have np1:gK (st++x):=ni np npx;generalize hpL:st.length+j=pL at cL ⊢;generalize sj:st++x=V at cL I np1 ⊢;have hpLl:=JR cL;apply aO
 .exact cb (Bh (au (fI (au cu (au cu be)) (aw rfl)) be) (aw rfl))
 apply aO
 .exact cb cu
 have KW:Gu st pL V.length (EO A B nm) [[0,0]] (V++[.lst [.tup [.int 0,.int 0]]]):=⟨I.trans (aq _ _),bw,b0 cL,ni np1 (KQ _)⟩
 have g0:PI [A,B] nm [[0,0]] (EN (2^nm.length) 0 0 0):=⟨by simp,λr R=>by rw[aM.mp R];exact .zero,by simp[pw],λq a b h=>by rcases h with⟨_,⟨h,_⟩|⟨_,h⟩|⟨_,h⟩⟩|⟨h,_⟩<;>exact absurd h (gG _)⟩
 obtain⟨D,Y,e2',F,o5,o6,o7,o8,o9,o10,o11,rfl,nZ,hFn,hFi⟩:=VQ qZ z jB J I.length_le #[0] g0 KW;refine aO (ρ':=_) (st1:=Y) e2' ?_;have nY:∀r∈F,r≠[]:=λr R e=>by have:=(kw qZ z jB ((hFi r).mp R)).1;rw[e]at this;cases this
 obtain⟨G,hGp,Wh,hG⟩:=yu nY (J F hFn λr R=>(hFi r).mp R);have xH:=nZ.pre;have np2:=ni nZ.np (KQ (G.map bf));have W:=hG Y V.length nZ.f;obtain⟨y,rfl⟩:=xH;apply cS
 .exact b_ kn W
 .exact⟨_,_,rfl,y.length,y++[.lst (G.map bf)],by rw[ay],by rw[aN],G,hGp.nodup_iff.mpr hFn,λr=>hGp.mem_iff.trans (hFi r),Wh,bw,by rw[<- aN];exact np2⟩
end
theorem Kh{F:List (List Nat)}{a b:Nat}(nd:F.Nodup)(h:∀r∈F,r.length=2/\r.getD 0 0<a/\r.getD 1 0<b):F.length<=a*b:=by
 have w:(F.map λr=>r.getD 0 0*b+r.getD 1 0).Nodup:=by
  refine dE.mpr (nd.imp_of_mem λ{r s} R hs ne e=>ne ?_);obtain⟨O,_,I⟩:=h r R;obtain⟨Y,_,Z⟩:=h s hs
  match r,O,s,Y with
  |[x,y],_,[x',y'],_=>
   have e:x*b+y=x'*b+y':=e;have I:y<b:=I;have Z:y'<b:=Z;have U:0<b:=by omega
   have d:(x*b+y)/b=x:=by rw[ip,Nat.mul_add_div U,Nat.div_eq_of_lt I,iu]
   have e2:(x'*b+y')/b=x':=by rw[ip,Nat.mul_add_div U,Nat.div_eq_of_lt Z,iu]
   have ex:x=x':=by rw[<- d,<- e2,e]
   subst ex;rw[show y=y' by omega]
 have:=d_ w (l:=vr (a*b)) λc J=>by obtain⟨r,R,rfl⟩:=aE.mp J;obtain⟨_,z,I⟩:=h r R;have:(r.getD 0 0+1)*b<=a*b:=iW _ z;rw[jS]at this;exact cK.mpr #[0]
 simpa using this
structure GN(A B:Mc)(nm:List Nat):Prop where
 ok:qt [A,B]
 pos:∀M∈[A,B],0<M.gd.length
 hi:∀M∈[A,B],M.gd.length<=1000
 sn:fH (A.nm++B.nm)=nm
 ll:∀c∈A.nm++B.nm,c∈LL
 nl:(A.nm++B.nm).length<4000
 n13:nm.length<=13
 uA:A.nm.Pairwise (· < ·)
 uB:B.nm.Pairwise (· < ·)
 few:Tl [A,B] nm
 lt:∀F:List (List Nat),F.Nodup->(∀r∈F,nL [A,B] nm r)->F.length<64
section
variable{A B:Mc}
theorem GN.nd(T:GN A B nm):nm.Nodup:=by rw[<- T.sn];exact(gm _).imp λh=>aJ h
theorem GN.row(T:GN A B nm)(h:nL [A,B] nm r):rH [A,B] r:=kw T.ok T.pos T.nd h
theorem De{a b:Nat}(ok:qt [A,B])(pos:∀M∈[A,B],0<M.gd.length)(D:∀M∈[A,B],M.gd.length<=1000)(W:fH (A.nm++B.nm)=nm)(d:∀c∈A.nm++B.nm,c∈LL)(I:(A.nm++B.nm).length<=13)(V:A.nm.Pairwise (· < ·))(U:B.nm.Pairwise (· < ·))
  (R:∀r,nL [A,B] nm r->r.getD 0 0<a/\r.getD 1 0<b) (Nb:a*b<64) (z:a*b*(a*b)*2^nm.length<=10000):GN A B nm:=by
 have w:nm.Nodup:=by rw[<- W];exact(gm _).imp λh=>aJ h
 have len:∀F:List (List Nat),F.Nodup->(∀r∈F,nL [A,B] nm r)->F.length<=a*b:=λF Z Y=>Kh Z λr y=>⟨(kw ok pos w (Y r y)).1,R r (Y r y)⟩
 have GO:nm.length<=(A.nm++B.nm).length:=d_ w λc J=>by rw[<- W]at J;exact gB.mp J
 exact⟨ok,pos,D,W,d,by omega,by omega,V,U,λF Z Y=>aT (iW _ (dh (len F Z Y) (len F Z Y))) z,λF Z Y=>jr (len F Z Y) Nb⟩
theorem Ki(T:GN A B nm){G:List (List Nat)}(V_:G.Nodup)(KU:∀r,r∈G↔nL [A,B] nm r)(Wh:GM (G.map Dd))(np:gK st)(Z:st[1]?=bi Tk)(d:lX st 2 108 ⟨79,42,79,96⟩ "grown.<locals>.<lambda>") :
  El [A.w,B.w] st=.ok (if G.any (vq A B)then .non else .tup (G.map bf)) st:=by
 obtain⟨F,K,n,x,hFn,V,J,e⟩:=Da T.ok T.pos T.sn T.ll T.nl T.n13 T.few np Z d;have U:F.Perm G:=(mD hFn V_).mpr λr=>(V r).trans (KU r).symm;have D:((F.map (vq A B)).any id)=G.any (vq A B):=by rw[List.any_map,Bool.eq_iff_iff,oh,oh];exact⟨λzz=>(by obtain⟨r,h,z⟩:=zz;exact ⟨r,U.mem_iff.mp h,z⟩),λzv=>by obtain⟨r,h,z⟩:=zv;exact ⟨r,U.mem_iff.mpr h,z⟩⟩
 have I:yj [.tup ((F.map (vq A B)).map W.bl)] (st++x)=.ok (.bl (G.any (vq A B))) (st++x):=by unfold yj;simp only[zv,cO];rw[D]
 refine im (N:=3) (ws:=[A.w,B.w]) (body:=Oi) ?_ ?_
 .apply aO
  .exact cb (cy (au cu (au kv kn)) e rfl)
  cases Y:G.any (vq A B)with
  |true=>
   rw[Y]at I;apply fq
   .exact dJ (b_ (au (cq (cq kv cu rfl) cu rfl) be) I)
   apply dW
   .exact cu
   .exact⟨_,_,rfl,rfl,_,rfl⟩
  |false=>
   rw[Y]at I;apply bV
   .exact dJ (b_ (au (cq (cq kv cu rfl) cu rfl) be) I)
   apply cI;obtain⟨G',y,w,O⟩:=yu (F:=F) (λr R e=>by have:=(T.row ((V r).mp R)).1;rw[e]at this;cases this) (T.lt F hFn λr R=>(V r).mp R);have eG:G'=G:=Kd (y.trans U) w Wh;subst eG;apply cS
   .exact b_ (au (b_ (au (cq kv cu rfl) be) (O _ _ J)) be) (iQ (br bw))
   .exact⟨_,_,rfl,rfl,_,by rw[aN]⟩
 .split
  .rfl
  .simp only[undWs,W.und,dO];exact wQ _ _
end
theorem EQ{fx fi fy:FE}{s:List al}{y:W}(O:fx ρ s=.ok (.tup ws) s)(D:fi ρ s=.ok (.int (i:Nat)) s)(Z:fy ρ s=.ok y s)(h:i<ws.length)(I:ws.length<=1000) :
  e2 da (e2 da (xw fx jD (i5 fi)) (fJ (ac fy aD))) (xw fx (i5 (e2 da fi (eI 1))) jD) ρ s=.ok (.tup (ws.set i y)) s:=by
 have e:ws.set i y=ws.take i++[y]++ws.drop (i+1):=by rw[List.set_eq_take_append_cons_drop,ax h,aN];rfl
 rw[e];have J:(ws.take i++[y]).length<=1000000:=by rw[ay,a_,ce];omega
 have w:(ws.take i++[y]++ws.drop (i+1)).length<=1000000:=by rw[ay,ay,a_,ce,dA];omega
 exact cq (cq (C0 O F_ (Bi D) (by rw[Ed,qR (cx h)])) (fI (au Z be) (aw rfl)) (zt J)) (C0 O (Bi (cq D cu gy)) F_ (by rw[Ed];show R.ok (W.tup (oM ws (bi ((i+1:Nat):Int)) cg)) s=_;rw[tm h])) (zt w)
theorem Sj{v:Nat}(h:r.length=n/\∀k∈r,k<n)(W:v<n):(r.set m v).length=n/\∀k∈r.set m v,k<n:=⟨by rw[lu];exact h.1,λk B=>by
 rcases zK B with z|z
 .exact h.2 k z
 .rw[z];exact W⟩
theorem Df{M:Mc}{k l r v:Nat}(D:Ai M n)(B:k<M.tb.length)(I:l<n)(R:r<n)(V:v<n)(Z:M.tb.length<=1000)(Y:n<=1000)(st:List al) :
  ∃M':Mc,M'.nm=M.nm/\M'.gd=M.gd/\Ai M' n/\Ep [M.w,.int (k:Nat),.int (l:Nat),.int (r:Nat),.int (v:Nat)] st=.ok M'.w st:=by
 have d:=cU [] B;have t1:=D.t _ (az d);generalize M.tb.getD k []=t at d t1;have e2':=cU [] (show l<t.length by rw[t1.1];exact I);have t2:=t1.2 _ (az e2');generalize t.getD l []=w at e2' t2;have wt:∀s,b9 (.tup (M.tb.map iL)) (.int (k:Nat)) s=.ok (iL t) s:=λs=>l8 (gn (by rw[ao,d];rfl));refine⟨⟨M.nm,M.gd,M.tb.set k (t.set l (w.set r v))⟩,rfl,rfl,⟨D.gd,by rw[lu];exact D.tb,λx O=>?_⟩,?_⟩
 .rcases zK O with z|z
  .exact D.t x z
  .rw[z];refine⟨by rw[lu];exact t1.1,λy U=>?_⟩;rcases zK U with z|z
   .exact t1.2 y z
   .rw[z];exact Sj t2 V
 .refine im (N:=7) (ws:=[M.w,.int (k:Nat),.int (l:Nat),.int (r:Nat),.int (v:Nat)]) (body:=Ow) ?_ (by simp only[undWs,dO];exact ux ⟨M.nm,M.gd,_⟩ _);apply aO
  .exact cb (cq (cq kv cu (wS M st)) kv (wt st))
  have er:(w.map λk=>W.int (k:Nat)).set r (.int (v:Nat))=(w.set r v).map λk=>W.int (k:Nat):=by rw[py]
  have J:=EQ (fx:=e2 b9 (af 5) (af 2)) (fi:=af 3) (fy:=af 4) (ρ:=[bi M.w,iO (k:Nat),iO (l:Nat),iO (r:Nat),iO (v:Nat),bi (iL t),cg]) (s:=st) (cq kv kv (zM e2')) kv kv (by rw[ag,t2.1];exact R) (by rw[ag,t2.1];exact Y);rw[er]at J;apply aO
  .exact cb J
  have et:(t.map bf).set l (bf (w.set r v))=(t.set l (w.set r v)).map bf:=by rw[py]
  have e4:=EQ (fx:=af 5) (fi:=af 2) (fy:=af 6) (ρ:=[bi M.w,iO (k:Nat),iO (l:Nat),iO (r:Nat),iO (v:Nat),bi (iL t),bi (bf (w.set r v))]) (s:=st) (ws:=t.map bf) kv kv kv (by rw[ag,t1.1];exact I) (by rw[ag,t1.1];exact Y);rw[et]at e4;apply aO
  .exact cb e4
  have eb:(M.tb.map iL).set k (iL (t.set l (w.set r v)))=(M.tb.set k (t.set l (w.set r v))).map iL:=by rw[py]
  have e5:=EQ (fx:=L2.e2 b9 (af 0) (eI 2)) (fi:=af 1) (fy:=af 5) (ρ:=[bi M.w,iO (k:Nat),iO (l:Nat),iO (r:Nat),iO (v:Nat),bi (iL (t.set l (w.set r v))),bi (bf (w.set r v))]) (s:=st) (ws:=M.tb.map iL) (cq kv cu (wS M st)) kv kv (by rw[ag];exact B) (by rw[ag];exact Z);rw[eb]at e5;apply cS
  .exact fI (au (cq kv cu (qv M st)) (au (cq kv cu (nX M st)) (au e5 be))) (aw rfl)
  .exact⟨_,_,rfl,rfl,[],by simp⟩
theorem M2{M:Mc}{c:Nat}(O:Ai M n)(R:M.nm.length<=9)(st:List al) :
  ∃M':Mc,M'.nm=xc (M.nm++[c])/\M'.gd=M.gd/\Ai M' n/\Eo [M.w,.str [c]] st=.ok M'.w st:=by
 obtain⟨nm,U⟩:∃nm,nm=xc (M.nm++[c]):=⟨_,rfl⟩
 have hln:nm.length<=10:=by rw[U,zH,ay,ce];omega
 have z:2^nm.length<=2^10:=b8 #[0] hln;obtain⟨N,hNN⟩:∃N,N=2^nm.length:=⟨_,rfl⟩
 have sh:∀s:List al,yQ (.int 1) (.int nm.length) s=.ok (.int N) s:=λs=>by rw[hNN];exact Dz #[0]
 rw[<- hNN]at z
 let g:Nat->List (List Nat):=λq=>M.tb.getD (uy (J' nm q) M.nm) []
 have d:∀q,M.tb[uy (J' nm q) M.nm]?=bi (g q):=λq=>cU [] (by rw[O.tb];exact MN _ _);refine⟨⟨nm,M.gd,(vr N).map g⟩,U,rfl,⟨O.gd,by rw[ag,eQ];exact hNN,λt Z=>?_⟩,?_⟩
 .obtain⟨q,_,rfl⟩:=aE.mp Z;exact O.t _ (az (d q))
 .refine im (N:=5) (ws:=[M.w,.str [c]]) (body:=Ov) ?_ (by simp only[undWs,dO];exact ux ⟨nm,M.gd,_⟩ _);obtain⟨y,J⟩:=EK (fe:=e2 da (e2 b9 (af 0) (eI 0)) (af 1)) (ρ:=[bi M.w,bi (.str [c]),cg,cg,cg]) (st:=st) (s1:=st) (l:=M.nm++[c]) (cq (cq kv cu (qv M st)) kv (ww (by show _<=1000000;simp;omega))) (by simp;omega);rw[<- U]at J;apply aO
  .exact cb J
  apply aO
  ·(walk_at "evs")
  refine gc (λi V s=>∃Y:Option W,V=[bi M.w,bi (.str [c]),bi (.str nm),lO (st++y).length,Y]/\s=st++y++[.lst (((vr i).map g).map iL)])
   (dU (q:=(N:Int)) (st1:=st++y++[al.lst []]) (au (cq cu (b_ kn (l9 (by show _<=1000000;omega))) (sh _)) be) #[0]) ⟨cg,rfl,rfl⟩ (λ_ _ _ _=>trivial) ?_ ?_
  .rintro i w V s B ⟨Y,rfl,rfl⟩;obtain⟨D,rfl⟩:=gR B;rw[aH]at D;refine⟨_,rfl,?_⟩;have I:=me (y:=iL (g i)) (s:=st++y++[.lst (((vr i).map g).map iL)]) bw (by rw[ag,ag,eQ];omega);apply dL
   .exact iG (sd kv (gY bw) (au (cq (cq kv cu (wS M _)) (cy (au (cq kv cu (qv M _)) (au (cy (au kv kn) (EJ nm #[0] i _) rfl) be)) (sg M.nm (J' nm i) _) rfl) (l8 (gn (by rw[ao,d];rfl)))) be) I)
   .exact⟨_,_,rfl,_,rfl,by rw[jx,gI,bN,bN];rfl⟩
  .rintro V s ⟨Y,rfl,rfl⟩;rw[bM,aH];apply cS
   .exact fI (au kv (au (cq kv cu (nX M _)) (au (b_ kn (iQ (br bw))) be))) (aw rfl)
   .exact⟨_,_,rfl,rfl,_,by rw[aN]⟩
noncomputable def Gv(n:Nat):List Nat:=vr n++(vr (n-1)).map (·+1)
theorem ER(h:1<=n):(Gv n).length=2*n-1:=by unfold Gv;simp;omega
theorem Kj{c:Nat}(h:c∈Gv n):c<n:=by unfold Gv at h;simp only[aZ,cK,aE]at h;rcases h with h|⟨a,h,rfl⟩<;>omega
theorem VR(n:Nat):bO 0 n++bO 1 (n-1)=nW (Gv n):=by
 unfold Gv nW bO;rw[bN,aU]
 congr 1
 .exact bW λk _=>by rw[i4]
 .exact bW λk _=>by
   show W.int (1+(k:Int))=W.int ((k+1:Nat):Int)
   congr 1;omega
theorem Dg{M:Mc}{n pD cp:Nat}{ds:List Int}{st:List al}(hM:Ai M n)(Z:1<=n)(h9:n<=9)(So:M.tb.length<=1000)(hd:st[pD]?=bi (.lst (JS ds)))(Tn:0<ds.length)(wX:0<cp) :
  ∃M':Mc,M'.nm=M.nm/\Ai M' (2*n-1)/\Er [M.w,.loc pD,.int (cp:Nat)] st=.ok M'.w st:=by
 suffices hh:jd (B9 λw bF=>(∃x,bF=st++x)/\undWs st.length [w]=cT/\∃M':Mc,w=M'.w/\M'.nm=M.nm/\Ai M' (2*n-1)) (Ox ([M.w,.loc pD,.int (cp:Nat)].map bi++pw (15-3) cg) st) by
  obtain⟨w,⟨M',rfl,Z,Y⟩,e⟩:=tj hh;exact⟨M',Z,Y,e⟩
 have hg:=hM.gd;obtain⟨K,hK⟩:∃K,K=2*n-1:=⟨_,rfl⟩
 rw[<- hK];apply aO
 .exact cb (b_ (au (cq kv cu (nX M st)) be) (by rw[se,ag,hg]))
 apply aO
 .exact cb (cq (cq cu kv (nG (.inl #[1]))) cu (nU trivial))
 rw[show(2:Int)*(n:Int)-1=(K:Int) by omega];have e5:e2 da (e2 b9 (af 0) (eI 1)) (xw (e2 b9 (af 0) (eI 1)) (i5 (eI 1)) jD) [bi M.w,lO pD,iO (cp:Nat),iO (n:Nat),iO (K:Nat),cg,cg,cg,cg,cg,cg,cg,cg,cg,cg] st=.ok (.tup ((M.gd++M.gd.drop 1).map W.bl)) st:=by rw[bN,List.map_drop];exact cq (cq kv cu (nX M st)) (C0 (cq kv cu (nX M st)) (Bi (q:=((1:Nat):Int)) cu) F_ (by rw[Ed,tm (by rw[ag];omega)])) (zt (by show _<=1000000;simp;omega))
 apply aO
 .exact cb e5
 generalize hgd:M.gd++M.gd.drop 1=gd;have hgl:gd.length=K:=by rw[<- hgd,ay,dA];omega
 obtain⟨sA,hsA⟩:∃sA,sA=st++[al.lst (bO 0 n)]++[al.lst (bO 1 (n-1))]:=⟨_,rfl⟩
 have e6:∀V:cE,V[3]?=bi (iO (n:Nat))->e2 da (bC ue (ac (af 3) aD)) (bC qL (ac (eI 1) (ac (af 3) aD))) V st=.ok (.loc sA.length) (sA++[.lst (nW (Gv n))]):=λV R=>by
  have b1:ue [.int (n:Nat)] st=.ok (.loc st.length) (st++[.lst (bO 0 n)]):=by unfold ue;simp only;rw[ax #[0],aH]
  have b2:qL [.int 1,.int (n:Nat)] (st++[.lst (bO 0 n)])=.ok (.loc (st++[al.lst (bO 0 n)]).length) sA:=by unfold qL;simp only;rw[ax #[0],hsA,show((n:Int)-1).toNat=n-1 by omega]
  have c1:sA[st.length]?=bi (.lst (bO 0 n)):=by rw[hsA];exact b0 bw
  have c2:sA[(st++[al.lst (bO 0 n)]).length]?=bi (.lst (bO 1 (n-1))):=by rw[hsA];exact bw
  have ea:=IG c1 c2 (by rw[ay,bM,bM];show _<=1000000;omega);rw[VR]at ea;exact cq (b_ (au (jI R) be) b1) (b_ (au cu (au (jI R) be)) b2) ea
 apply aO
 .exact cb (e6 _ rfl)
 generalize KW:sA++[al.lst (nW (Gv n))]=s0;have hst0:st <+: s0:=by rw[<- KW,hsA];exact(aq _ _).trans ((aq _ _).trans (aq _ _))
 have cH:s0[sA.length]?=bi (.lst (nW (Gv n))):=by rw[<- KW];exact bw
 generalize sA.length=pH at cH ⊢;have cD:=cJ hst0 hd;apply aO
 ·(walk_at "evs")
 apply aO
 ·(walk_at "evs")
 refine gc (λi V s=>∃(tb:List (List (List Nat))) (a:Nat) (o9 o10 o11 o12 GB GA:Option W),V=[bi M.w,lO pD,iO (cp:Nat),iO (n:Nat),iO (K:Nat),bi (.tup (gd.map W.bl)),lO pH,lO s0.length,iO (a:Nat),o9,o10,o11,o12,GB,GA]/\s0 <+: s/\s[s0.length]?=bi (.lst (tb.map iL))/\tb.length=i/\∀t∈tb,XC K t)
  (Ee (cq kv cu (wS M _))) ⟨[],0,cg,cg,cg,cg,cg,cg,rfl,aq _ _,bw,rfl,by simp⟩ (λ_ _ _ _=>trivial) ?_ ?_
 .rintro i w V s hw ⟨tb,a,o9,o10,o11,o12,GB,GA,rfl,D,J,I,ht⟩;rw[ao,a8]at hw;obtain⟨t,hti,rfl⟩:=hw;have tok:=hM.t t (az hti);have hil:i<M.tb.length:=(ak.mp hti).1;refine⟨_,rfl,?_⟩;apply aO
  ·(walk_at "evs")
  refine gc (λj V z=>∃(rows:List (List Nat)) (a:Nat) (o11 o12 GB GA:Option W),V=[bi M.w,lO pD,iO (cp:Nat),iO (n:Nat),iO (K:Nat),bi (.tup (gd.map W.bl)),lO pH,lO s0.length,iO (a:Nat),bi (iL t),lO s.length,o11,o12,GB,GA]/\s <+: z/\z[s.length]?=bi (.lst (rows.map bf))/\rows.length=j/\∀r∈rows,r.length=K/\∀k∈r,k<K)
   (dU (q:=(K:Int)) (st1:=s++[al.lst []]) kn #[0]) ⟨[],a,_,_,_,_,rfl,aq _ _,bw,rfl,by simp⟩ (λ_ _ _ _=>trivial) ?_ ?_
  .rintro j w V z hw ⟨rows,a,o11,o12,GB,GA,rfl,hz,hcz,Cb,R⟩;obtain⟨hj,rfl⟩:=gR hw;rw[aH]at hj;refine⟨_,rfl,?_⟩;apply aO
   ·(walk_at "evs")
   have hjH:=cU 0 (show j<(Gv n).length by rw[ER Z];omega);generalize (Gv n).getD j 0=x at hjH;have O:=Kj (az hjH);have tx:=cU [] (show x<t.length by rw[tok.1];exact O);generalize t.getD x []=tr at tx;have Ph:=tok.2 tr (az tx);refine gc (λk V y=>∃(row:List Nat) (a:Nat) (GB GA:Option W),V=[bi M.w,lO pD,iO (cp:Nat),iO (n:Nat),iO (K:Nat),bi (.tup (gd.map W.bl)),lO pH,lO s0.length,iO (a:Nat),bi (iL t),lO s.length,iO (j:Nat),lO z.length,GB,GA]/\z <+: y/\y[z.length]?=bi (.lst (nW row))/\row.length=k/\∀v∈row,v<K)
    (dU (q:=(K:Int)) (st1:=z++[al.lst []]) kn #[0]) ⟨[],a,_,_,rfl,aq _ _,bw,rfl,by simp⟩ (λ_ _ _ _=>trivial) ?_ ?_
   .rintro k w V y hw ⟨row,a,GB,GA,rfl,hy,hcy,Kp,hv⟩;obtain⟨B,rfl⟩:=gR hw;rw[aH]at B;refine⟨_,rfl,?_⟩;have cHy:=cJ (D.trans (hz.trans hy)) cH;have cDy:=cJ (D.trans (hz.trans hy)) cD;have hkH:=cU 0 (show k<(Gv n).length by rw[ER Z];omega);generalize (Gv n).getD k 0=u at hkH;have hu:=Kj (az hkH);have ru:=cU 0 (show u<tr.length by rw[Ph.1];exact hu);generalize tr.getD u 0=v at ru;have hvn:=Ph.2 v (az ru);apply aO
    .exact cb (cq (cq kv (cq kv kv (OD cHy hjH)) (zM tx)) (cq kv kv (OD cHy hkH)) (zL ru))
    obtain⟨d,hdm,hdd⟩:=JP ds Tn (a:Int);have ln:e7 [.loc pD] y=.ok (.int (ds.length:Nat)) y:=by rw[oQ (br cDy),JS,ag]
    have pl:(0:Int)<(ds.length:Int):=by omega
    have pc:(0:Int)<((cp:Nat):Int):=by omega
    have t1:jc (e2 Nu (af 14) (eI 0)) [bi M.w,lO pD,iO (cp:Nat),iO (n:Nat),iO (K:Nat),bi (.tup (gd.map W.bl)),lO pH,lO s0.length,iO (a:Nat),bi (iL t),lO s.length,iO (j:Nat),lO z.length,iO (k:Nat),iO (v:Nat)] y=.ok (decide ((0:Int)<(v:Int))) y:=dJ (cq kv cu (uL rfl));have t2:jc (e2 oJ (e2 fZ (e2 b9 (af 1) (e2 fZ (af 8) (bC e7 (ac (af 1) aD)))) (af 2)) (eI 1)) [bi M.w,lO pD,iO (cp:Nat),iO (n:Nat),iO (K:Nat),bi (.tup (gd.map W.bl)),lO pH,lO s0.length,iO (a:Nat),bi (iL t),lO s.length,iO (j:Nat),lO z.length,iO (k:Nat),iO (v:Nat)] y=.ok (d%(cp:Int)==1) y:=
     dJ (cq (cq (cq kv (cq kv (b_ kn ln) (nU pl)) (uM (br cDy) (by rw[JS];unfold u9 at hdd ⊢;rw[ag];revert hdd;cases Lk ds.length (a%(ds.length:Int))with|none=>intro h;cases h|some q=>intro h;have h:ds[q]?=bi d:=h;show(ds.map W.int)[q]?=_;rw[ao,h];rfl))) kv (nU pc)) cu (rE rfl))
    have jM:∀v':Nat,v'<K->jd (C1 λV y'=>∃(row:List Nat) (a:Nat) (GB GA:Option W),V=[bi M.w,lO pD,iO (cp:Nat),iO (n:Nat),iO (K:Nat),bi (.tup (gd.map W.bl)),lO pH,lO s0.length,iO (a:Nat),bi (iL t),lO s.length,iO (j:Nat),lO z.length,GB,GA]/\z <+: y'/\y'[z.length]?=bi (.lst (nW row))/\row.length=k+1/\∀v∈row,v<K)
      (a9 (gU (vc dP (af 12) (ac (af 14) aD))) (bZ 8 (e2 da (af 8) (eI 1))) [bi M.w,lO pD,iO (cp:Nat),iO (n:Nat),iO (K:Nat),bi (.tup (gd.map W.bl)),lO pH,lO s0.length,iO (a:Nat),bi (iL t),lO s.length,iO (j:Nat),lO z.length,iO (k:Nat),iO (v':Nat)] y):=λv' hv'=>by
     have ap:=me (y:=.int (v':Nat)) hcy (by rw[nW,ag];omega);apply aO
     .exact iG (sd kv (gY hcy) kn ap)
     apply dL
     .exact cb (cq kv cu gy)
     .refine⟨_,_,rfl,row++[v'],a+1,_,_,rfl,jL hy (am _),?_,by simp[Kp],λq hq=>?_⟩
      .rw[md hcy,nW,nW,bN];rfl
      .rcases aZ.mp hq with h|h
       .exact hv q h
       .rw[aM.mp h];exact hv'
    have tt:=IH t1 t2
    cases U:(decide ((0:Int)<(v:Int))&&(d%(cp:Int)==1))with
    |true=>
     rw[U]at tt;apply fq
     .exact tt
     apply aO
     .exact cb (cq (cq kv kv gy) cu (nU trivial))
     rw[show(v:Int)+(n:Int)-1=((v+n-1:Nat):Int) by omega];exact jM (v+n-1) #[0]
    |false=>
     rw[U]at tt;apply bV
     .exact tt
     exact jM v #[0]
   .rintro V y ⟨row,a,GB,GA,rfl,hy,hcy,Kp,hv⟩;have Kp:row.length=K:=by rw[Kp];simp[bM]
    have wX:=cJ hy hcz;have ap:=me (y:=bf row) wX (by rw[ag,Cb];omega);apply dL
    .exact iG (sd kv (gY wX) (au (b_ kn (iQ (br hcy))) be) ap)
    .refine⟨_,_,rfl,rows++[row],a,_,_,_,_,rfl,jL (hz.trans hy) (am _),?_,by simp[Cb],λr hr'=>?_⟩
     .rw[md wX,bN];rfl
     .rcases aZ.mp hr' with h|h
      .exact R r h
      .rw[aM.mp h];exact⟨Kp,hv⟩
  .rintro V z ⟨rows,a,o11,o12,GB,GA,rfl,hz,hcz,Cb,R⟩;have Cb:rows.length=K:=by rw[Cb];simp[bM]
   have wX:=cJ hz J;have ap:=me (y:=iL rows) wX (by rw[ag,I];omega);apply dL
   .exact iG (sd kv (gY wX) (au (b_ kn (iQ (br hcz))) be) ap)
   .refine⟨_,_,rfl,tb++[rows],a,_,_,_,_,_,_,rfl,jL (D.trans hz) (am _),?_,by simp[I],λx O=>?_⟩
    .rw[md wX,bN];rfl
    .rcases aZ.mp O with h|h
     .exact ht x h
     .rw[aM.mp h];exact⟨Cb,R⟩
 .rintro V s ⟨tb,a,o9,o10,o11,o12,GB,GA,rfl,D,J,I,ht⟩;have I:tb.length=M.tb.length:=by rw[I];simp
  obtain⟨x,rfl⟩:=hst0.trans D;apply cS
  .exact fI (au (cq kv cu (qv M _)) (au kv (au (b_ kn (iQ (br J))) be))) (aw rfl)
  .exact⟨_,_,rfl,⟨_,rfl⟩,by simp only[undWs,dO];exact ux ⟨M.nm,gd,tb⟩ _,⟨M.nm,gd,tb⟩,rfl,rfl,hgl,by rw[I];exact hM.tb,ht⟩
theorem mZ{P:RS->Prop}{g d8:FS}(J:cE->List al->Prop)(h:jd (C1 J) (g ρ st))(Y:∀ρ st,J ρ st->jd P (d8 ρ st)):jd P (a9 g d8 ρ st):=by obtain⟨R,U,e,I⟩:=h;exact aO e (Y _ _ I)
structure Kk(M:Mc):Prop where
 ok:Ai M M.gd.length
 lo:1<=M.gd.length
 up:M.nm.Pairwise (· < ·)
 ll:∀c∈M.nm,c∈LL
def Bd(A B:Mc):Prop:=(A.gd.length*B.gd.length<=28/\(fH (A.nm++B.nm)).length<=3)\/(A.gd.length*B.gd.length<=16/\(fH (A.nm++B.nm)).length<=4)
theorem wT(a b:List Nat):fH (a++b)=fH (b++a):=rY (gm _) (gm _) λc=>by rw[gB,gB,aZ,aZ,Or.comm]
theorem Bd.comm{A B:Mc}(h:Bd A B):Bd B A:=by unfold Bd at h ⊢;rw[ip,wT];exact h
theorem Bd.two{A B:Mc}(h:Bd A B)(a:Kk A)(b:Kk B):GN A B (fH (A.nm++B.nm)):=by
 have I:∀{l:List Nat},l.Pairwise (· < ·)->(∀c∈l,c∈A.nm++B.nm)->l.length<=(fH (A.nm++B.nm)).length:=λd O=>d_ (d.imp λh=>aJ h) λc J=>gB.mpr (O c J);have y:=I a.up λc J=>c_ _ J;have W:=I b.up λc J=>bn _ J;have ok:qt [A,B]:=λM D=>by
  simp only[aG,cr,ib]at D;rcases D with rfl|rfl
  .exact a.ok
  .exact b.ok
 have V:∀M∈[A,B],0<M.gd.length:=λM D=>by
  simp only[aG,cr,ib]at D;rcases D with rfl|rfl
  .exact a.lo
  .exact b.lo
 have Z:=oC A.gd.length b.lo;have Y:=Nat.le_mul_of_pos_left B.gd.length a.lo;have O:(fH (A.nm++B.nm)).length<=4:=by rcases h with h|h<;>omega
 have U:A.gd.length*B.gd.length<=28:=by rcases h with h|h<;>omega
 have w:(fH (A.nm++B.nm)).Nodup:=(gm _).imp λh=>aJ h;refine De (a:=A.gd.length) (b:=B.gd.length) ok V (λM D=>?_) rfl (λc J=>?_) (by rw[ay];omega) a.up b.up (λr R=>?_) #[0] ?_
 .simp only[aG,cr,ib]at D;rcases D with rfl|rfl<;>omega
 .rcases aZ.mp J with h|h
  .exact a.ll c h
  .exact b.ll c h
 .have ro:=kw ok V w R;exact⟨ro.2 0 #[5],ro.2 1 #[5]⟩
 .rcases h with⟨h,z⟩|⟨h,z⟩
  .exact aT (dh (dh h h) (b8 #[0] z)) #[1]
  .exact aT (dh (dh h h) (b8 #[0] z)) #[1]
theorem tH(R:l.Nodup)(T:Nat->Bool):(xc (kg T l)).length<=l.length/\(xc (kg T l)).Pairwise (· < ·)/\∀c∈xc (kg T l),c∈l:=
 ⟨by rw[zH];exact wR T l,Db (MY R),λc J=>J9 T l c ((wK _).mem_iff.mp J)⟩
theorem ES{T:Nat->Bool}{n dl:Nat}{ds:List Int}(I:l.length<=2)(R:l.Nodup)(w:∀c∈l,c∈LL)(Z:1<=n)(O:n<=4)(D:st[dl]?=bi (.lst (JS ds)))(M6:68<=ds.length) :
  ∃M:Mc,Kk M/\M.gd.length=n/\M.nm=xc (kg T l)/\uP [.str (xc (kg T l)),.int (n:Nat),.int (n:Nat),.loc dl] st=.ok M.w st:=by obtain⟨a,b,c⟩:=tH R T;have y:2^(xc (kg T l)).length<=4:=b8 #[0] (by omega:_<=2);have U:=dh y (dh O O);obtain⟨M,V,z,W⟩:=wL (xc (kg T l)) n n dl ds st #[0] Z #[0] Z (am _) D #[0];exact⟨M,⟨by rw[z.gd];exact z,by rw[z.gd];exact Z,by rw[V];exact b,λd Y=>w d (c d (by rw[<- V];exact Y))⟩,z.gd,V,W⟩
theorem vt(A B:Mc)(n:Nat):undWs n [.tup [A.w,B.w]]=cT:=by simp only[undWs,W.und,dO];rw[ux,ux];rfl
theorem VS(h:l.length=4)(R:l.Nodup):∃c,l[2]?=bi c/\c∉l.take 2:=by
 match l,h with
 |[a,b,c,d],_=>
  refine⟨c,rfl,λh=>?_⟩;simp at h R;rcases h with rfl|rfl
  .exact R.1.2.1 rfl
  .exact R.2.1.1 rfl
theorem M3{n0:Nat}(R:st[n0]?=bi (.ro (ns.map W.int))):∃A B:Mc,Kk A/\Kk B/\Bd A B/\BD [.loc n0] st=.ok (.tup [A.w,B.w]) st:=by
 suffices hh:jd (B9 λw bF=>(∃x,bF=st++x)/\undWs st.length [w]=cT/\∃A B:Mc,w=.tup [A.w,B.w]/\Kk A/\Kk B/\Bd A B) (Oy ([W.loc n0].map bi++pw (12-1) cg) st) by
  obtain⟨w,⟨A,B,rfl,Z,Y,h3⟩,e⟩:=tj hh;exact⟨A,B,Z,Y,h3,e⟩
 obtain⟨c0,e0⟩:=nh R 0;obtain⟨pl,mH,hpn,hpL,ep⟩:=Ev c0 100003 4 #[0] st;apply aO
 .exact cb (cy (au (cy (au kv (au cu be)) e0 rfl) (au cu (au cu be))) ep rfl)
 obtain⟨c1,e1⟩:=nh R 1;obtain⟨ws,V1,_,ew⟩:=ma c1 200017 10 #[0] st;apply aO
 .exact cb (cy (au (cy (au kv (au cu be)) e1 rfl) (au cu (au cu be))) ew rfl)
 generalize sj:st++[al.lst (ws.map W.int)]=s1;have k1:st <+: s1:=by rw[<- sj];exact aq _ _
 have cW:s1[st.length]?=bi (.lst (JS ws)):=by rw[<- sj];exact bw
 generalize st.length=pW at cW ⊢;have wm:∀(i k:Nat),i<10->0<k->∃m:Nat,m<k/\∀(V:cE) (s:List al) (fk:FE),V[2]?=bi (lO pW)->s1 <+: s->fk V s=.ok (.int (k:Nat)) s->e2 fZ (e2 b9 (af 2) (eC (.int (i:Nat)))) fk V s=.ok (.int (m:Nat)) s:=λi k I hk=>by
  obtain⟨d,hd⟩:∃d,ws[i]?=bi d:=⟨_,ar #[0]⟩
  obtain⟨m,hm,em⟩:=qS (q:=d) (n:=k) hk;refine⟨m,hm,λV s fk h hs hf=>?_⟩;rw[<- em];exact cq (cq (jI h) cu (qV (cJ hs cW) hd)) hf (nU #[0])
 obtain⟨m1,hm1,em1⟩:=wm 1 4 #[0] #[0];apply aO
 .exact cb (cq cu (em1 _ _ _ rfl (ah _) cu) gy)
 rw[show(1:Int)+(m1:Int)=((1+m1:Nat):Int) by omega];generalize hn:1+m1=n;obtain⟨m2,hm2,em2⟩:=wm 2 4 #[0] #[0];have pl2:(pl.take 2).length=2:=by rw[a_];omega
 have sub2:∀c∈pl.take 2,c∈LL:=λc J=>hpL c (kS J);have nd2:(pl.take 2).Nodup:=mE (eN _ _) hpn;have hL:pl.length<=lw:=by show _<=1000000;omega
 apply aO
 .exact cb (cy (au (C0 kv F_ (Bi (q:=((2:Nat):Int)) cu) (by rw[Ec hL,qR #[0]])) (au (em2 _ _ _ rfl (ah _) cu) be)) (BS (pl.take 2) #[0] m2 s1) rfl)
 obtain⟨c2,e2c⟩:=nh (cJ k1 R) 2;obtain⟨ds,Tn,_,ed⟩:=ma c2 300007 68 #[0] s1;obtain⟨A,hA,hAn,hAm,eA⟩:=ES (T:=tF m2) (n:=n) (dl:=s1.length) (ds:=ds) (st:=s1++[.lst (ds.map W.int)]) (pi pl2) nd2 sub2 #[0] #[0] bw #[0];apply aO
 .exact cb (cy (au kv (au kv (au kv (au (cy (au (cy (au kv (au cu be)) e2c rfl) (au cu (au cu be))) ed rfl) be)))) eA rfl)
 generalize nZ:s1++[al.lst (ds.map W.int)]=s2;have k2:s1 <+: s2:=by rw[<- nZ];exact aq _ _
 obtain⟨c3,e3⟩:=nh (cJ (k1.trans k2) R) 3;obtain⟨fs,hfl,_,ef⟩:=ma c3 400009 196 #[0] s2;apply aO
 .exact cb (cy (au (cy (au kv (au cu be)) e3 rfl) (au cu (au cu be))) ef rfl)
 generalize hs3:s2++[al.lst (fs.map W.int)]=s3;have k3:s1 <+: s3:=by rw[<- hs3];exact k2.trans (aq _ _)
 have cF:s3[s2.length]?=bi (.lst (JS fs)):=by rw[<- hs3];exact bw
 obtain⟨pF,hpF⟩:∃pF,pF=s2.length:=⟨_,rfl⟩
 rw[<- hpF]at cF ⊢;obtain⟨m6,hm6,em6⟩:=wm 6 2 #[0] #[0];have nlA:A.nm.length<=2:=by have:=(tH nd2 (tF m2)).1;rw[pl2]at this;rw[hAm];exact this
 have tbA:A.tb.length<=4:=by rw[hA.ok.tb];exact b8 #[0] nlA
 obtain⟨D,hDm,hD,eD⟩:=Dg (M:=A) (n:=n) (pD:=pF) (cp:=2+m6) (ds:=fs) (st:=s3) (by rw[<- hAn];exact hA.ok) #[0] #[0] #[0] cF #[0] #[0];apply aO
 .exact cb (cy (au kv (au kv (au (cq cu (em6 _ _ _ rfl k3 cu) gy) be))) (by rw[show(2:Int)+(m6:Int)=((2+m6:Nat):Int) by omega];exact eD) rfl)
 obtain⟨K,hK⟩:∃K,K=2*n-1:=⟨_,rfl⟩
 rw[<- hK]at hD;have hDg:=hD.gd;have nD:Kk D:=⟨by rw[hDg];exact hD,by omega,by rw[hDm];exact hA.up,by rw[hDm];exact hA.ll⟩
 have lnD:∀s,e7 [.tup (D.gd.map W.bl)] s=.ok (.int (K:Nat)) s:=λs=>by rw[se,ag,hDg]
 apply aO
 .exact cb (b_ (au (cq kv cu (nX D s3)) be) (lnD s3))
 have mulK:A.gd.length*K<=28:=aT (dh (show A.gd.length<=4 by omega) (show K<=7 by omega)) #[1];have nlAB:∀{l:List Nat},l.Pairwise (· < ·)->(∀c∈l,c∈A.nm)->l.length<=2:=λhu hs=>aT (d_ (hu.imp λh=>aJ h) hs) nlA;have bdD:∀B:Mc,B.gd.length=K->B.nm=A.nm->Bd A B:=λB Z Y=>.inl ⟨by rw[Z];exact mulK,by
  rw[Y];have:=nlAB (gm (A.nm++A.nm)) λc J=>by rcases aZ.mp (gB.mp J)with h|h<;>exact h
  omega⟩
 obtain⟨w0,hw0,ew0⟩:=wm 0 6 #[0] #[0];have tq:∀(V:cE) (k:Nat),V[2]?=bi (lO pW)->jc (e2 oJ (e2 fZ (e2 b9 (af 2) (eI 0)) (eI 6)) (eC (.int (k:Nat)))) V s3=.ok (decide (w0=k)) s3:=λV k h=>dJ (cq (ew0 V s3 _ h k3 cu) cu (rE (by
  by_cases z:w0=k
  .rw[z];simp
  .rw[aQ z,dk];omega)))
 let bH:List Nat->cE->List al->Prop:=λl V s=>s=s3/\∃(B:Mc) (o3 o4 o9 o10 o11:Option W),V=[lO n0,bi (.str pl),lO pW,o3,o4,bi A.w,lO pF,bi B.w,iO (K:Nat),o9,o10,o11]/\Kk B/\Bd A B/\(w0∈l->B=D)
 have tbD:D.tb.length<=4:=by rw[hD.tb,hDm];exact b8 #[0] nlA
 obtain⟨m7,hm7,em7⟩:=wm 7 D.tb.length #[0] (by rw[hD.tb];exact Nat.pow_pos #[0]);obtain⟨u7,hu7,eu7⟩:=wm 7 K #[0] #[0];obtain⟨m5,hm5,em5⟩:=wm 5 K #[0] #[0];obtain⟨m8,hm8,em8⟩:=wm 8 K #[0] #[0];obtain⟨m9,hm9,em9⟩:=wm 9 K #[0] #[0];obtain⟨m3,hm3,em3⟩:=wm 3 3 #[0] #[0];obtain⟨m4,hm4,em4⟩:=wm 4 4 #[0] #[0];obtain⟨u5,hu5,eu5⟩:=wm 5 4 #[0] #[0];refine mZ (bH [3,4,5]) ?_ ?_
 .by_cases z:w0=2
  .apply rF
   .exact(tq _ 2 rfl).trans (by rw[bb z])
   apply aO
   .exact cb (em7 _ _ _ rfl k3 (b_ (au (cq kv cu (wS D s3)) be) (by rw[se,ag])))
   apply aO
   .exact cb (em5 _ _ _ rfl k3 kv)
   obtain⟨B,b1,b2,b3,eB⟩:=Df (k:=m7) (l:=m8) (r:=m9) (v:=m5) hD hm7 hm8 hm9 hm5 #[0] #[0] s3;apply dL
   .exact cb (cy (au kv (au kv (au (em8 _ _ _ rfl k3 kv) (au (em9 _ _ _ rfl k3 kv) kn)))) eB rfl)
   .have hB:B.gd.length=K:=by rw[b2,hDg]
    exact⟨_,_,rfl,rfl,B,_,_,_,_,_,rfl,⟨by rw[hB];exact b3,by omega,by rw[b1];exact nD.up,by rw[b1];exact nD.ll⟩,bdD B hB (b1.trans hDm),λh=>by rw[z]at h;simp at h⟩
  .apply mY
   .exact(tq _ 2 rfl).trans (by rw[aQ z])
   .exact⟨_,_,rfl,rfl,D,_,_,_,_,_,rfl,nD,bdD D hDg hDm,λ_=>rfl⟩
 rintro V s ⟨rfl,B,o3,o4,o9,o10,o11,rfl,nB,bB,iB⟩;refine mZ (bH [4,5]) ?_ ?_
 .by_cases z:w0=3
  .apply rF
   .exact(tq _ 3 rfl).trans (by rw[bb z])
   have pl3:((pl.drop m3).take (m3+2-m3)).length=2:=by rw[a_,dA];omega
   have nd3:((pl.drop m3).take (m3+2-m3)).Nodup:=mE ((eN _ _).trans (nq _ _)) hpn;apply aO
   .exact cb (cy (au (C0 kv (Bi (em3 _ _ _ rfl k3 cu)) (Bi (q:=((m3+2:Nat):Int)) (cq (em3 _ _ _ rfl k3 cu) cu gy)) (by rw[Ec hL,Rh #[0] #[0]])) (au (em4 _ _ _ rfl k3 cu) be)) (BS _ #[0] m4 _) rfl)
   apply aO
   .exact cb (cq cu (eu5 _ _ _ rfl k3 cu) gy)
   rw[show(1:Int)+(u5:Int)=((1+u5:Nat):Int) by omega];obtain⟨C,hC,hCn,hCm,eC'⟩:=ES (T:=tF m4) (n:=1+u5) (dl:=pF) (ds:=fs) (pi pl3) nd3 (λc J=>hpL c (List.mem_of_mem_drop (kS J))) #[0] #[0] cF #[0];apply dL
   .exact cb (cy (au kv (au kv (au kv kn))) eC' rfl)
   .refine⟨_,_,rfl,rfl,C,_,_,_,_,_,rfl,hC,.inr ⟨?_,?_⟩,λh=>by rw[z]at h;simp at h⟩
    .exact aT (dh (show A.gd.length<=4 by omega) (show C.gd.length<=4 by omega)) #[1]
    .have Z:=d_ ((gm (A.nm++C.nm)).imp λh=>aJ h) (l:=A.nm++C.nm) λc J=>gB.mp J;have Y:=(tH nd3 (tF m4)).1;rw[pl3,<- hCm]at Y;rw[ay]at Z;omega
  .apply mY
   .exact(tq _ 3 rfl).trans (by rw[aQ z])
   .exact⟨_,_,rfl,rfl,B,_,_,_,_,_,rfl,nB,bB,λh=>iB (by simp at h ⊢;omega)⟩
 clear nB bB iB;rintro V s ⟨rfl,B,o3,o4,o9,o10,o11,rfl,nB,bB,iB⟩;refine mZ (bH [5]) ?_ ?_
 .by_cases z:w0=4
  .apply rF
   .exact(tq _ 4 rfl).trans (by rw[bb z])
   have eBD:=iB (by simp;omega);subst eBD;obtain⟨c,J,hcn⟩:=VS mH hpn;obtain⟨C,c1',c2',c3',eC'⟩:=M2 (c:=c) hD (by rw[hDm];omega) s;have hAs:∀d∈A.nm,d∈pl.take 2:=λd hd=>by rw[hAm]at hd;exact(tH nd2 (tF m2)).2.2 d hd
   have hCm:∀d,d∈C.nm↔d∈A.nm\/d=c:=λd=>by rw[c1',(wK _).mem_iff,hDm];simp
   have hCg:C.gd.length=K:=by rw[c2',hDg]
   apply dL
   .exact cb (cy (au kv (au (cq kv cu (Ea hL (gn (q:=2) J))) be)) eC' rfl)
   .refine⟨_,_,rfl,rfl,C,_,_,_,_,_,rfl,⟨by rw[hCg];exact c3',by omega,?_,λd hd=>?_⟩,.inl ⟨by rw[hCg];exact mulK,?_⟩,λh=>by rw[z]at h;simp at h⟩
    .rw[c1',hDm];exact Db (gQ.mpr ⟨hA.up.imp λh=>aJ h,by simp,λa ha b U=>by rw[aM]at U;subst U;exact λe=>hcn (hAs _ (e▸ha))⟩)
    .rcases(hCm d).mp hd with h|h
     .exact hA.ll d h
     .rw[h];exact hpL c (az J)
    .have Z:=d_ ((gm (A.nm++C.nm)).imp λh=>aJ h) (l:=A.nm++[c]) λd hd=>by
      rw[aZ,aM];rcases aZ.mp (gB.mp hd)with h|h
      .exact .inl h
      .exact(hCm d).mp h
     rw[ay,ce]at Z;omega
  .apply mY
   .exact(tq _ 4 rfl).trans (by rw[aQ z])
   .exact⟨_,_,rfl,rfl,B,_,_,_,_,_,rfl,nB,bB,λh=>iB (by simp at h ⊢;omega)⟩
 clear nB bB iB;rintro V s ⟨rfl,B,o3,o4,o9,o10,o11,rfl,nB,bB,iB⟩;refine mZ (bH []) ?_ ?_
 .by_cases z:w0=5
  .apply rF
   .exact(tq _ 5 rfl).trans (by rw[bb z])
   have eBD:=iB (by simp;omega);subst eBD;apply aO
   .exact cb (eu7 _ _ _ rfl k3 kv)
   have U:=cU dw (show u7<B.gd.length by omega);have ei:=EQ (fx:=e2 b9 (af 7) (eI 1)) (fi:=af 11) (fy:=Cu (e2 b9 (e2 b9 (af 7) (eI 1)) (af 11))) (ρ:=[lO n0,bi (.str pl),lO pW,o3,o4,bi A.w,lO pF,bi B.w,iO (K:Nat),o9,o10,iO (u7:Nat)]) (s:=s) (ws:=B.gd.map W.bl) (i:=u7) (y:=.bl (!(B.gd.getD u7 dw))) (cq kv cu (nX B s)) kv (ID (cq (cq kv cu (nX B s)) kv (l8 (gn (by rw[ao,U];rfl)))) rfl) (by rw[ag];omega) (by rw[ag];omega);rw[<- py]at ei;apply dL
   .exact cb (fI (au (cq kv cu (qv B s)) (au ei (au (cq kv cu (wS B s)) be))) (aw rfl))
   .have hl:(B.gd.set u7 (!(B.gd.getD u7 dw))).length=K:=by rw[lu,hDg]
    exact⟨_,_,rfl,rfl,⟨B.nm,B.gd.set u7 (!(B.gd.getD u7 dw)),B.tb⟩,_,_,_,_,_,rfl,⟨by show Ai _ (B.gd.set u7 _).length;rw[hl];exact⟨hl,hD.tb,hD.t⟩,by show 1<=(B.gd.set u7 _).length;omega,nB.up,nB.ll⟩,bdD _ hl hDm,λh=>by simp at h⟩
  .apply mY
   .exact(tq _ 5 rfl).trans (by rw[aQ z])
   .exact⟨_,_,rfl,rfl,B,_,_,_,_,_,rfl,nB,bB,λh=>by simp at h⟩
 clear nB bB iB;rintro V s ⟨rfl,B,o3,o4,o9,o10,o11,rfl,nB,bB,iB⟩;obtain⟨d3,hd3⟩:∃d,ws[3]?=bi d:=⟨_,ar #[0]⟩
 have O:∃x,s=st++x:=by obtain⟨x,e⟩:=k1.trans k3;exact⟨x,e.symm⟩
 have tf:jc (e2 oJ (e2 fZ (e2 uI (e2 b9 (af 2) (eI 3)) (eI 3)) (eI 2)) (eI 1)) [lO n0,bi (.str pl),lO pW,o3,o4,bi A.w,lO pF,bi B.w,iO (K:Nat),o9,o10,o11] s=.ok (d3/3%2==1) s:=
  dJ (cq (cq (cq (cq kv cu (qV (i:=3) (cJ k3 cW) hd3)) cu (nU #[1])) cu (nU #[1])) cu (rE rfl))
 cases U:(d3/3%2==1)with
 |true=>
  rw[U]at tf;apply fq
  .exact tf
  apply dW
  .exact fI (au kv kn) (aw rfl)
  .exact⟨_,_,rfl,O,vt _ _ _,B,A,rfl,nB,hA,bB.comm⟩
 |false=>
  rw[U]at tf;apply bV
  .exact tf
  apply cI;apply cS
  .exact fI (au kv kn) (aw rfl)
  .exact⟨_,_,rfl,O,vt _ _ _,A,B,rfl,hA,nB,bB⟩
theorem ET{Ms:List Mc}(z:qt Ms)(Y:∀M∈Ms,0<M.gd.length)(w:nm.Nodup){c:Nat}(D:i<Ms.length)(J:0<c)(Z:∀t∈(gM Ms i).tb,∀v∈t,∀k∈v,k<c)(h:nL Ms nm r):r.getD i 0<c:=by
 cases h with
 |zero=>rw[aA,cX,ax D];exact J
 |@step l r q hl hr hq=>
  have a:=(kw z Y w hl).2 i D;have b:=(kw z Y w hr).2 i D;obtain⟨t,v,d,_,I,_,y,_⟩:=EC (z _ (wN D)) (BI w q) a b;have e:(led Ms nm q l r).getD i 0=KP (gM Ms i) nm q (l.getD i 0) (r.getD i 0):=by unfold led;rw[aA,ao,eT D];rfl
  rw[e];exact Z t (az d) v (az I) _ (az y)
structure Yg(U:Mc):Prop where
 ok:Ai U U.gd.length
 lo:1<=U.gd.length
 hi:U.gd.length<=1000
 nm:U.nm=[]
 low:∀t∈U.tb,∀v∈t,∀k∈v,k<3
theorem M4{U O:Mc}(u:Yg U)(o:Kk O)(Y:O.gd.length<=2)(z:O.nm.length<=3):GN U O (fH (U.nm++O.nm))/\GN O U (fH (O.nm++U.nm)):=by
 have all:∀{P:Mc->Prop} {A B:Mc},P A->P B->∀M∈[A,B],P M:=λa b M D=>by
  simp only[aG,cr,ib]at D;rcases D with rfl|rfl
  .exact a
  .exact b
 have V:∀l,(fH l).Nodup:=λl=>(gm l).imp λh=>aJ h;have uu:U.nm.Pairwise (· < ·):=by rw[u.nm];exact .nil
 have ln:∀l:List Nat,l.length<=3->2^(fH l).length<=8:=λl I=>b8 #[0] (aT (d_ (V l) λc J=>gB.mp J) I:_<=3);have y:(U.nm++O.nm).length<=3:=by rw[u.nm];exact z
 have w:(O.nm++U.nm).length<=3:=by rw[u.nm,bD];exact z
 have ll1:∀c∈U.nm++O.nm,c∈LL:=by rw[u.nm];exact o.ll
 have ll2:∀c∈O.nm++U.nm,c∈LL:=by rw[u.nm,bD];exact o.ll
 have d:qt [U,O]:=all (P:=λM=>Ai M M.gd.length) u.ok o.ok;have k2:qt [O,U]:=all (P:=λM=>Ai M M.gd.length) o.ok u.ok;have Z:∀M∈[U,O],0<M.gd.length:=all (P:=λM=>0<M.gd.length) u.lo o.lo;have W:∀M∈[O,U],0<M.gd.length:=all (P:=λM=>0<M.gd.length) o.lo u.lo;exact⟨De (a:=3) (b:=2) d Z (all (P:=λM=>M.gd.length<=1000) u.hi #[0]) rfl ll1 #[0] uu o.up (λr R=>⟨ET d Z (V _) (i:=0) #[5] #[0] u.low R,aR ((kw d Z (V _) R).2 1 #[5]) Y⟩) #[1] (aT (Nat.mul_le_mul_left _ (ln _ y)) #[1]),
  De (a:=2) (b:=3) k2 W (all (P:=λM=>M.gd.length<=1000) #[0] u.hi) rfl ll2 #[0] o.up uu (λr R=>⟨aR ((kw k2 W (V _) R).2 0 #[5]) Y,ET k2 W (V _) (i:=1) #[5] #[0] u.low R⟩) #[1] (aT (Nat.mul_le_mul_left _ (ln _ w)) #[1])⟩
theorem Gw{n0:Nat}(I:st[n0]?=bi (.ro (ns.map W.int))):∃A B:Mc,GN A B (fH (A.nm++B.nm))/\BE [.loc n0] st=.ok (.tup [A.w,B.w]) st:=by
 suffices hh:jd (B9 λw bF=>(∃x,bF=st++x)/\undWs st.length [w]=cT/\∃A B:Mc,w=.tup [A.w,B.w]/\GN A B (fH (A.nm++B.nm))) (Oz ([W.loc n0].map bi++pw (10-1) cg) st) by
  obtain⟨w,⟨A,B,rfl,Z⟩,e⟩:=tj hh;exact⟨A,B,Z,e⟩
 obtain⟨c0,e0⟩:=nh I 5;obtain⟨ws,V1,_,ew⟩:=ma c0 600011 60 #[0] st;apply aO
 .exact cb (cy (au (cy (au kv (au cu be)) e0 rfl) (au cu (au cu be))) ew rfl)
 generalize sj:st++[al.lst (ws.map W.int)]=s1;have k1:st <+: s1:=by rw[<- sj];exact aq _ _
 have cW:s1[st.length]?=bi (.lst (JS ws)):=by rw[<- sj];exact bw
 generalize st.length=pW at cW ⊢;have wd:∀i:Nat,i<60->∃d,ws[i]?=bi d:=λi D=>⟨_,ar #[0]⟩
 have wm:∀(i k:Nat),i<60->0<k->∃m:Nat,m<k/\∀(V:cE) (s:List al) (fk fi:FE) (j:Nat),V[j]?=bi (lO pW)->s1 <+: s->fi V s=.ok (.int (i:Nat)) s->fk V s=.ok (.int (k:Nat)) s->e2 fZ (e2 b9 (af j) fi) fk V s=.ok (.int (m:Nat)) s:=λi k D hk=>by obtain⟨d,hd⟩:=wd i D;obtain⟨m,hm,em⟩:=qS (q:=d) (n:=k) hk;refine⟨m,hm,λV s fk fi j h hs D hf=>?_⟩;rw[<- em];exact cq (cq (jI h) D (qV (cJ hs cW) hd)) hf (nU #[0])
 obtain⟨m0,hm0,em0⟩:=wm 0 15 #[0] #[0];apply aO
 .exact cb (cq cu (em0 _ _ _ _ _ rfl (ah _) cu cu) gy)
 rw[show(36:Int)+(m0:Int)=((36+m0:Nat):Int) by omega];obtain⟨n,hn⟩:∃n,n=36+m0:=⟨_,rfl⟩
 rw[<- hn];apply aO
 ·(walk_at "evs")
 refine mZ (λV s=>∃(rows:List (List Nat)) (o4:Option W),V=[lO n0,lO pW,iO (n:Nat),lO s1.length,o4,cg,cg,cg,cg,cg]/\s1 <+: s/\s[s1.length]?=bi (.lst (rows.map bf))/\rows.length=n/\∀v∈rows,v.length=n/\∀k∈v,k<3) ?_ ?_
 .refine kN (λi V s=>∃(rows:List (List Nat)) (o4:Option W),V=[lO n0,lO pW,iO (n:Nat),lO s1.length,o4,cg,cg,cg,cg,cg]/\s1 <+: s/\s[s1.length]?=bi (.lst (rows.map bf))/\rows.length=i/\∀v∈rows,v.length=n/\∀k∈v,k<3)
   (dU (q:=(n:Int)) (st1:=s1++[al.lst []]) kn #[0]) ⟨[],cg,rfl,aq _ _,bw,rfl,by simp⟩ (λ_ _ _ _=>trivial) ?_ ?_
  .rintro i w V s hw ⟨rows,o4,rfl,hp,J,hl,ht⟩;obtain⟨D,rfl⟩:=gR hw;rw[aH]at D;refine⟨_,rfl,?_⟩;obtain⟨r,hrn,hrb,er⟩:=zI (cap:=[cg,bi 1,bi 4]) (ρ:=[lO n0,lO pW,iO (n:Nat),lO s1.length,iO (i:Nat),cg,cg,cg,cg,cg]) (st:=s) (fs:=ac (af 2) aD) (n:=n)
    (el:=e2 fZ (e2 b9 (af 1) (e2 da (eI 1) (e2 fZ (e2 da (e2 da (e2 hV (eI 3) (af 2)) (af 0)) (e2 hV (eI 9) (e2 uI (bC FD (ac (af 2) (ac (af 0) aD))) (eI 3)))) (eI 50)))) (eI 3)) (λk:Nat=>W.int (k:Nat)) (λ_ k=>k<3) kn #[0] λq hq=>by obtain⟨m,hm,em⟩:=qS (q:=3*(i:Int)+(q:Int)+9*((if (q:Int)>(i:Int)then(q:Int)else(i:Int))/3)) (n:=50) #[0];obtain⟨v,hv,ev⟩:=wm (1+m) 3 #[0] #[0];refine⟨v,hv,ev _ _ _ _ _ rfl hp ?_ cu⟩;rw[show((1+m:Nat):Int)=1+(m:Int) by omega,<- em];exact cq cu (cq (cq (cq (cq cu kv (nG (.inl #[1]))) kv gy) (cq cu (cq (b_ (au kv kn) U9) cu (nU #[1])) (nG (.inl #[1]))) gy) cu (nU #[1])) gy
   have ap:=me (y:=bf r) (cJ (s:=s++[.lst (r.map λk:Nat=>W.int k)]) (aq _ _) J) (by rw[ag];omega);apply dL
   .exact iG (sd kv (gY J) (au er be) ap)
   .refine⟨_,_,rfl,rows++[r],_,rfl,jL (oV hp) (am _),?_,by simp[hl],λv hv=>?_⟩
    .rw[md (cJ (aq _ _) J)];simp
    .rcases aZ.mp hv with y|y
     .exact ht v y
     .rw[aM.mp y];refine⟨hrn,λk hk=>?_⟩;obtain⟨q,hq⟩:=cM hk;exact hrb q k hq
  .rintro V s ⟨rows,o4,rfl,hp,J,hl,ht⟩;exact⟨_,_,rfl,rows,_,rfl,hp,J,by rw[hl];simp[bM],ht⟩
 rintro V s ⟨rows,o4,rfl,hp,J,hl,ht⟩;obtain⟨gd,hgl,_,eg⟩:=zI (cap:=[cg,bi 1]) (ρ:=[lO n0,lO pW,iO (n:Nat),lO s1.length,o4,cg,cg,cg,cg,cg]) (st:=s) (fs:=ac (af 2) aD) (n:=n)
  (el:=e2 oJ (e2 fZ (e2 b9 (af 1) (e2 da (eI 51) (e2 fZ (af 0) (eI 3)))) (eI 2)) (eI 1)) W.bl (λ_ _=>True) kn #[0] λq hq=>by obtain⟨m,hm,em⟩:=qS (q:=(q:Int)) (n:=3) #[0];obtain⟨v,hv,ev⟩:=wm (51+m) 2 #[0] #[0];refine⟨_,trivial,cq (ev _ _ _ _ _ rfl hp ?_ cu) cu (rE rfl)⟩;rw[show((51+m:Nat):Int)=51+(m:Int) by omega,<- em];exact cq cu (cq kv cu (nU #[1])) gy
 apply aO
 .exact cb eg
 have hp2:s1 <+: s++[al.lst (gd.map W.bl)]:=oV hp;have hc2:(s++[al.lst (gd.map W.bl)])[s1.length]?=bi (.lst (rows.map bf)):=b0 J;generalize s++[al.lst (gd.map W.bl)]=s2 at hp2 hc2 ⊢;obtain⟨c1,Y⟩:=nh (cJ (k1.trans hp2) I) 0;obtain⟨pl,mH,hpn,hpL,ep⟩:=Ev c1 100003 4 #[0] s2;apply aO
 .exact cb (cy (au (cy (au kv (au cu be)) Y rfl) (au cu (au cu be))) ep rfl)
 have hL:pl.length<=lw:=by show _<=1000000;omega
 have pl3:(pl.take 3).length=3:=by rw[a_];omega
 obtain⟨x,es⟩:=EK (fe:=xw (af 6) jD (i5 (eI 3))) (ρ:=[lO n0,lO pW,iO (n:Nat),lO s1.length,o4,bi (.tup (gd.map W.bl)),bi (.str pl),cg,cg,cg]) (st:=s2) (s1:=s2) (l:=pl.take 3) (C0 kv F_ (Bi (q:=((3:Nat):Int)) cu) (by rw[Ec hL,qR #[0]])) #[0];apply aO
 .exact cb es
 have hp3:s1 <+: s2++x:=hp2.trans (aq _ _);have hc3:(s2++x)[s1.length]?=bi (.lst (rows.map bf)):=b0 hc2;generalize s2++x=s3 at hp3 hc3 ⊢;obtain⟨OM,hm54,em54⟩:=wm 54 2 #[0] #[0];apply aO
 .exact cb (cq cu (em54 _ _ _ _ _ rfl hp3 cu cu) gy)
 rw[show(1:Int)+(OM:Int)=((1+OM:Nat):Int) by omega];obtain⟨c6,e6⟩:=nh (cJ (k1.trans hp3) I) 6;obtain⟨ds,Tn,_,ed⟩:=ma c6 700001 34 #[0] s3;have ln:(xc (pl.take 3)).length=3:=by rw[zH,pl3]
 obtain⟨O,o1,o2,eO⟩:=wL (xc (pl.take 3)) (1+OM) (1+OM) s3.length ds (s3++[.lst (ds.map W.int)]) #[0] #[0] #[0] #[0] (am _) bw (by
  rw[ln,Tn];have:=dh (show 1+OM<=2 by omega) (show 1+OM<=2 by omega);omega)
 have sub3:∀c∈pl.take 3,c∈LL:=λc J=>hpL c (kS J);have nO:Kk O:=⟨by rw[o2.gd];exact o2,by rw[o2.gd];omega,by rw[o1];exact Db (mE (eN _ _) hpn),λc J=>sub3 c ((wK _).mem_iff.mp (by rw[<- o1];exact J))⟩
 apply aO
 .exact cb (cy (au kv (au kv (au kv (au (cy (au (cy (au kv (au cu be)) e6 rfl) (au cu (au cu be))) ed rfl) be)))) eO rfl)
 have hp4:s1 <+: s3++[al.lst (ds.map W.int)]:=oV hp3;have hc4:(s3++[al.lst (ds.map W.int)])[s1.length]?=bi (.lst (rows.map bf)):=b0 hc3;generalize s3++[al.lst (ds.map W.int)]=s4 at hp4 hc4 ⊢;obtain⟨U,hU⟩:∃U:Mc,U=⟨[],gd,[rows]⟩:=⟨_,rfl⟩
 have uU:Yg U:=by rw[hU];exact⟨⟨rfl,rfl,λt ht'=>by rw[aM.mp ht'];exact⟨by rw[hl,hgl],λv hv=>⟨by rw[(ht v hv).1,hgl],λk hk=>by have:=(ht v hv).2 k hk;show k<gd.length;omega⟩⟩⟩,by show 1<=gd.length;omega,by show gd.length<=1000;omega,rfl,λt ht'=>by rw[aM.mp ht'];exact λv hv=>(ht v hv).2⟩
 have eU:W.tup [.str [],.tup (gd.map W.bl),.tup [.tup (rows.map bf)]]=U.w:=by rw[hU];rfl
 have tw:=M4 uU nO (by rw[o2.gd];omega) (by rw[o1,ln];omega);have R:∃y,s4=st++y:=by obtain⟨y,e⟩:=k1.trans hp4;exact⟨y,e.symm⟩
 obtain⟨Yk,hm55,em55⟩:=wm 55 2 #[0] #[0];have tf:jc (e2 oJ (e2 fZ (e2 b9 (af 1) (eI 55)) (eI 2)) (eI 1)) [lO n0,lO pW,iO (n:Nat),lO s1.length,o4,bi (.tup (gd.map W.bl)),bi (.str pl),bi (.str (xc (pl.take 3))),iO ((1+OM:Nat):Int),bi O.w] s4=.ok ((Yk:Int)==1) s4:=dJ (cq (em55 _ _ _ _ _ rfl hp4 cu cu) cu (rE rfl));have eu:fJ (ac (eC (.str [])) (ac (af 5) (ac (fJ (ac (bC eJ (ac (af 3) aD)) aD)) aD))) [lO n0,lO pW,iO (n:Nat),lO s1.length,o4,bi (.tup (gd.map W.bl)),bi (.str pl),bi (.str (xc (pl.take 3))),iO ((1+OM:Nat):Int),bi O.w] s4=.ok U.w s4:=by rw[<- eU];exact fI (au cu (au kv (au (fI (au (b_ kn (iQ (br hc4))) be) (aw rfl)) be))) (aw rfl)
 cases z:((Yk:Int)==1)with
 |true=>
  rw[z]at tf;apply fq
  .exact tf
  apply dW
  .exact fI (au kv (au eu be)) (aw rfl)
  .exact⟨_,_,rfl,R,vt _ _ _,O,U,rfl,tw.2⟩
 |false=>
  rw[z]at tf;apply bV
  .exact tf
  apply cI;apply cS
  .exact fI (au eu kn) (aw rfl)
  .exact⟨_,_,rfl,R,vt _ _ _,U,O,rfl,tw.1⟩
theorem BY{k:Nat}(I:ws.length<=1000)(h:∀w∈ws,ly k [w,w] st=.ok (.bl cT) st):ly (k+1) [.tup ws,.tup ws] st=.ok (.bl cT) st:=by
 refine im (N:=3) (ws:=[.tup ws,.tup ws]) (body:=BB (ly k)) ?_ rfl;apply fq
 ·(walk_at "evs")
 apply uq;apply bV
 .apply zm
  ·(walk_at "evs")
  ·(walk_at "evs")
   simp
 apply cI;apply uq;refine gc (λi V U=>∃o,V=[bi (.tup ws),bi (.tup ws),o]/\U=st) (dU (by(walk_at "evs")) #[0]) ⟨cg,rfl,rfl⟩ (λ_ _ _ _=>trivial) ?_ ?_
 .rintro i w V U y ⟨o,rfl,rfl⟩;obtain⟨D,rfl⟩:=kt y;refine⟨_,rfl,?_⟩;have z:i<ws.length:=by simpa using D
  have d:b9 (.tup ws) (.int (0+(i:Int))) U=.ok ws[i] U:=l8 (by rw[i4];exact gn (by simp[z]));have O:=h ws[i] (dX _);apply mY
  ·(walk_at "evs")
  apply dL
  ·(walk_at "evs")
  .exact⟨_,_,rfl,_,rfl,rfl⟩
 .rintro V U ⟨o,rfl,rfl⟩;apply dW
  ·(walk_at "evs")
  .exact⟨_,_,rfl,rfl,[],by simp⟩
theorem yv(b:Bool)(k:Nat)(st:List al):ly (k+1) [.bl b,.bl b] st=.ok (.bl cT) st:=by
 have U:oJ (.bl b) (.bl b) st=.ok (.bl cT) st:=NJ #[5];refine im (N:=3) (ws:=[.bl b,.bl b]) (body:=BB (ly k)) ?_ rfl;apply bV
 ·(walk_at "evs")
 apply cI;apply bV
 ·(walk_at "evs")
 apply cI;apply fq
 ·(walk_at "evs")
 apply dW
 .apply vm
  ·(walk_at "evs")
  ·(walk_at "evs")
 .exact⟨_,_,rfl,rfl,[],by simp⟩
theorem Kl(z:Int)(k:Nat)(st:List al):ly (k+1) [.int z,.int z] st=.ok (.bl cT) st:=by
 have U:oJ (.int z) (.int z) st=.ok (.bl cT) st:=rE #[5];refine im (N:=3) (ws:=[.int z,.int z]) (body:=BB (ly k)) ?_ rfl;apply bV
 ·(walk_at "evs")
 apply cI;apply bV
 ·(walk_at "evs")
 apply cI;apply bV
 ·(walk_at "evs")
 apply cI;apply fq
 ·(walk_at "evs")
 apply dW
 .apply vm
  ·(walk_at "evs")
  .apply vm
   ·(walk_at "evs")
   ·(walk_at "evs")
 .exact⟨_,_,rfl,by simp,[],by simp⟩
theorem Km(k:Nat)(st:List al):ly (k+1) [.non,.non] st=.ok (.bl cT) st:=by
 refine im (N:=3) (ws:=[.non,.non]) (body:=BB (ly k)) ?_ rfl;apply bV
 ·(walk_at "evs")
 apply cI;apply fq
 ·(walk_at "evs")
 apply dW
 ·(walk_at "evs")
 .exact⟨_,_,rfl,rfl,[],by simp⟩
theorem Gx{F:List (List Nat)}(I:F.length<=1000)(h:∀r∈F,r.length<=1000)(k:Nat)(st:List al):ly (k+3) [.tup (F.map bf),.tup (F.map bf)] st=.ok (.bl cT) st:=by refine BY (k:=k+2) (by simpa using I) λw y=>?_;obtain⟨r,R,rfl⟩:=aE.mp y;refine BY (k:=k+1) (by simpa using h r R) λw y=>?_;obtain⟨z,_,rfl⟩:=aE.mp y;exact Kl _ _ _
noncomputable def OJ(r:List Nat):List Nat:=[r.getD 1 0,r.getD 0 0]
theorem VT(h:r.length=2):bf r=.tup [.int (r.getD 0 0:Nat),.int (r.getD 1 0:Nat)]:=by
 match r,h with
 |[x,y],_=>rfl
theorem Sk{G:List (List Nat)}{Z:Nat}{s:List al}(Y:∀r∈G,r.length=2)(I:G.length<=1000)(R:ρ[3]?=bi (lO Z))(d:s[Z]?=bi (.lst (G.map bf))) :
  fS [cg,cg] (fT (af 3)) (yU 2 (dg (gi 0) (dg (gi 1) j_))) jF (fJ (ac (af 1) (ac (af 0) aD))) ρ s=.ok (.loc s.length) (s++[.lst ((G.map OJ).map bf)]):=by refine oS (cap:=[cg,cg]) ((G.map OJ).map bf) (mX (jI R) (br d)) (by rw[ag];show _<=1000000;omega) (br d) #[5] λi w y=>?_;rw[ao,a8]at y;obtain⟨r,z,rfl⟩:=y;rw[VT (Y r (az z))];exact⟨bf (OJ r),_,by rw[aU,ao,z];rfl,rfl,fI (au kv kn) (aw rfl)⟩
theorem yw{A B:Mc}{nm:List Nat}(ok:qt [A,B])(D:∀M∈[A,B],M.gd.length<=1000)(U:fH (A.nm++B.nm)=nm)(w:∀c∈A.nm++B.nm,c∈LL)(Y:(A.nm++B.nm).length<4000)(d:nm.length<=13){G:List (List Nat)}(V:G.length*G.length*2^nm.length<=10000)(I:G.length<=1000)
  (y:∀r∈G,rH [A,B] r) (hz:[0,0]∈G) (O:∀r∈G,vq A B r=dw) (J:∀l∈G,∀r∈G,∀q,q<2^nm.length->led [A,B] nm q l r∈G) {st:List al} (z:gK st) (Z:st[1]?=bi Tk) :
  yn [.str [115,97,109,101],.tup [A.w],B.w,.tup (G.map bf)] st=.ok (.bl cT) st:=by
 have e:uQ ([A]++[B])=A.nm++B.nm:=by simp[uQ]
 exact J0 (k:=0) #[0] (ps:=[A]) (M:=B) (rows:=G) (nm:=nm) ok (am 1) (λh=>by omega) (aw rfl) D (by rw[e];exact U) (by rw[e];exact w) (by rw[e];exact Y) d I #[0] y hz (λr R=>by
  have:=O r R;unfold vq at this;have e2:A.gd.getD (r.getD 0 0) dw=B.gd.getD (r.getD 1 0) dw:=by simpa using this
  show B.gd.getD (r.getD 1 0) dw=JW 0 (EF [A] r);rw[<- e2];rfl) J z Z
theorem law_ok:HP (uW tabL) f_q36:=by
 intro ns hn
 suffices hh:jd (B9 λw bF=>w=.bl cT) (OC ([W.loc 0].map bi++pw (9-1) cg) (.ro (ns.map W.int)::uW tabL)) by
  obtain⟨w,bF,e,rfl⟩:=hh;exact⟨_,qM e⟩
 have h0:(al.ro (ns.map W.int)::uW tabL)[0]?=bi (.ro (ns.map W.int)):=rfl;have ht:(al.ro (ns.map W.int)::uW tabL)[1]?=bi Tk:=rfl;have hu:lX (al.ro (ns.map W.int)::uW tabL) 2 108 ⟨79,42,79,96⟩ "grown.<locals>.<lambda>":=rfl;have np:gK (al.ro (ns.map W.int)::uW tabL):=λd hd c=>by simp only[uW,tabL,aK,io,aG,cr,ib]at hd;rcases hd with rfl|rfl|rfl<;>rfl
 generalize (al.ro (ns.map W.int)::uW tabL:List al)=s0 at h0 ht hu np;obtain⟨A,B,nA,nB,bd,Z⟩:=M3 h0;have e1':cV 1 BD (ac (af 0) aD) [lO 0,cg,cg,cg,cg,cg,cg,cg,cg] s0=.ok (.tup [A.w,B.w]) s0:=cy kn Z rfl;apply aO
 .exact OE e1' rfl
 obtain⟨c4,e4⟩:=nh h0 4;obtain⟨ds,Tn,hdp,ed⟩:=ma c4 500009 1 #[0] s0;obtain⟨d0,V2⟩:∃d,ds[0]?=bi d:=⟨_,ar #[0]⟩
 have cz:(s0++[al.lst (ds.map W.int)])[s0.length]?=bi (.lst (JS ds)):=bw;have td:jc (e2 oJ (e2 fZ (e2 b9 (cV 3 ng (ac (cV 2 m_ (ac (af 0) (ac (eI 4) aD))) (ac (eI 1) (ac (eI 500009) aD)))) (eI 0)) (eI 8)) (eI 3)) [lO 0,bi A.w,bi B.w,cg,cg,cg,cg,cg,cg] s0=.ok (d0%8==3) (s0++[.lst (ds.map W.int)]):=
  dJ (cq (cq (cq (cy (au (cy (au kv (au cu be)) e4 rfl) (au cu (au cu be))) ed rfl) cu (qV (i:=0) cz V2)) cu (nU #[1])) cu (rE rfl))
 refine mZ (λV s=>s=s0++[al.lst (ds.map W.int)]/\∃A B:Mc,GN A B (fH (A.nm++B.nm))/\V=[lO 0,bi A.w,bi B.w,cg,cg,cg,cg,cg,cg]) ?_ ?_
 .cases U:(d0%8==3)with
  |true=>
   rw[U]at td;obtain⟨A',B',tw,e2'⟩:=Gw (st:=s0++[al.lst (ds.map W.int)]) (b0 h0);have e2'':cV 1 BE (ac (af 0) aD) [lO 0,bi A.w,bi B.w,cg,cg,cg,cg,cg,cg] (s0++[al.lst (ds.map W.int)])=.ok (.tup [A'.w,B'.w]) (s0++[al.lst (ds.map W.int)]):=cy kn e2' rfl;apply rF
   .exact td
   exact⟨_,_,OE e2'' rfl,rfl,A',B',tw,rfl⟩
  |false=>
   rw[U]at td;apply mY
   .exact td
   exact⟨_,_,rfl,rfl,A,B,bd.two nA nB,rfl⟩
 clear td Z e1' nA nB bd;rintro V s ⟨z,A,B,tw,rfl⟩;have np1:gK s:=by rw[z];exact ni np (KQ _)
 have k1:s0 <+: s:=by rw[z];exact aq _ _
 generalize rq:fH (A.nm++B.nm)=nm at tw;clear z;obtain⟨G,j,x,V_,KU,Wh,O,np2,ep⟩:=Kg tw.ok tw.pos tw.sn tw.ll tw.nl tw.n13 tw.uA tw.uB tw.lt np1;apply aO
 .exact cb (cy (au kv kn) ep rfl)
 have k2:s0 <+: s++x:=k1.trans (aq _ _);have cG:(s++x)[s.length+j]?=bi (.lst (G.map bf)):=by rw[mW];exact O
 generalize s.length+j=pG at cG ⊢;generalize s++x=s2 at np2 k2 cG ⊢;have uC:∀r∈G,rH [A,B] r:=λr R=>tw.row ((KU r).mp R);have Y:∀r∈G,r.length=2:=λr R=>(uC r R).1;have hGl:G.length<64:=tw.lt G V_ λr R=>(KU r).mp R;have hGf:=tw.few G V_ λr R=>(KU r).mp R;apply aO
 .exact cb (b_ kn (iQ (br cG)))
 refine mZ (λV s=>s=s2/\∃o5 o6:Option W,V=[lO 0,bi A.w,bi B.w,lO pG,bi (if G.any (vq A B)then .non else .tup (G.map bf)),o5,o6,cg,cg]) ?_ ?_
 .refine kN (λi V s=>s=s2/\∃o5 o6:Option W,V=[lO 0,bi A.w,bi B.w,lO pG,bi (if (G.take i).any (vq A B)then .non else .tup (G.map bf)),o5,o6,cg,cg])
   (mX kv (br cG)) ⟨rfl,cg,cg,rfl⟩ (λt V s' h=>by rw[h.1];exact br cG) ?_ ?_
  .rintro i w V s' hw ⟨rfl,o5,o6,rfl⟩;rw[ao,a8]at hw;obtain⟨r,hri,rfl⟩:=hw;have R:=az hri;have y:=(uC r R).2 0 #[5];have U:=(uC r R).2 1 #[5];rw[VT (Y r R)];refine⟨_,rfl,?_⟩;have et:(G.take (i+1)).any (vq A B)=((G.take i).any (vq A B)||vq A B r):=by rw[qE,hri,List.any_append];simp
   have gx:∀{M:Mc} {k:Nat},k<M.gd.length->b9 (.tup (M.gd.map W.bl)) (.int (k:Nat)) s'=.ok (.bl (M.gd.getD k dw)) s':=λh=>l8 (gn (by rw[ao,cU dw h];rfl));have tn:∀o4:Option W,jc (e2 LK (e2 b9 (e2 b9 (af 1) (eI 1)) (af 5)) (e2 b9 (e2 b9 (af 2) (eI 1)) (af 6))) [lO 0,bi A.w,bi B.w,lO pG,o4,iO (r.getD 0 0:Nat),iO (r.getD 1 0:Nat),cg,cg] s'=.ok (vq A B r) s':=λo4=>
    dJ (cq (cq (cq kv cu (nX A s')) kv (gx (M:=A) y)) (cq (cq kv cu (nX B s')) kv (gx (M:=B) U)) (OH _ _ _))
   cases hh:vq A B r with
   |true=>
    rw[hh,Bool.or_true]at et;apply rF
    .exact(tn _).trans (by rw[hh])
    exact⟨_,_,rfl,rfl,_,_,by rw[et];rfl⟩
   |false=>
    rw[hh,rM]at et;apply mY
    .exact(tn _).trans (by rw[hh])
    exact⟨_,_,rfl,rfl,_,_,by rw[et];rfl⟩
  .rintro V s' ⟨rfl,o5,o6,rfl⟩;exact⟨_,_,rfl,rfl,o5,o6,by rw[ag,fE]⟩
 rintro V s' ⟨rfl,o5,o6,rfl⟩;have ht2:=cJ k2 ht;have ea:=Ki tw V_ KU Wh np2 ht2 (cJ k2 hu);apply aO
 .exact cb (cy (au kv kn) ea rfl)
 cases hh:G.any (vq A B)with
 |true=>
  simp only[gu];apply bV
  .exact wu (dJ (cy (au kv kn) (Km 39 s') rfl)) rfl
  apply cI;apply fq
  ·(walk_at "evs")
  apply dW
  .exact cu
  .exact⟨_,_,rfl,rfl⟩
 |false=>
  simp only[bu,dM];apply bV
  .exact wu (dJ (cy (au kv kn) (Gx #[0] (λr R=>by rw[Y r R];omega) 37 s') rfl)) rfl
  apply cI;apply bV
  ·(walk_at "evs")
  apply cI;have hap:∀r∈G,vq A B r=dw:=λr R=>by rw[jP]at hh;simpa using hh r R
  have hz:[0,0]∈G:=(KU _).mpr .zero;have kT:∀l∈G,∀r∈G,∀q,q<2^nm.length->led [A,B] nm q l r∈G:=λl I r R q hq=>(KU _).mpr (.step ((KU l).mp I) ((KU r).mp R) hq);have es:=yw tw.ok tw.hi tw.sn tw.ll tw.nl tw.n13 hGf #[0] uC hz hap kT (st:=s'++[.lst ((G.map OJ).map bf)]) (ni np2 (KQ _)) (b0 ht2);apply aO
  .exact cb (b_ (au (Sk Y #[0] rfl cG) be) (iQ (br bw)))
  apply bV
  .exact wu (dJ (cy (au (cy (au cu (au (fI kn (aw rfl)) (au kv kn))) es rfl) (au cu be)) (yv cT 39 _) rfl)) rfl
  apply cI;have two:∀{Q:Mc->Prop},(∀M∈[A,B],Q M)->∀M∈[B,A],Q M:=λh M hM=>h M (by simp only[aG,cr,ib]at hM ⊢;exact hM.symm);have mem:∀{v:List Nat},v∈G.map OJ->∃r∈G,v=OJ r:=λh=>by obtain⟨r,R,e⟩:=aE.mp h;exact⟨r,R,e.symm⟩
  have et:=yw (A:=B) (B:=A) (nm:=nm) (G:=G.map OJ) (two tw.ok) (two tw.hi) (by rw[wT];exact tw.sn) (λc J=>tw.ll c (by rw[aZ]at J ⊢;exact J.symm)) (by rw[ay,Nat.add_comm,<- ay];exact tw.nl) tw.n13 (by rw[ag];exact hGf) (by rw[ag];omega) (λv hv=>by
    obtain⟨r,R,rfl⟩:=mem hv;have:=uC r R;refine⟨rfl,λi D=>?_⟩;have D:i<2:=D;obtain rfl|rfl:i=0\/i=1:=by omega
    .exact this.2 1 #[5]
    .exact this.2 0 #[5]) (aE.mpr ⟨_,hz,rfl⟩) (λv hv=>by
    obtain⟨r,R,rfl⟩:=mem hv;have:=hap r R;unfold vq at this ⊢;show(B.gd.getD (r.getD 1 0) dw != A.gd.getD (r.getD 0 0) dw)=dw;simp only[bne_eq_false_iff_eq]at this ⊢;exact this.symm) (λl I r R q hq=>by obtain⟨l1,hl1,rfl⟩:=mem I;obtain⟨r1,hr1,rfl⟩:=mem R;exact aE.mpr ⟨_,kT l1 hl1 r1 hr1 q hq,rfl⟩) (st:=s'++[.lst ((G.map OJ).map bf)]) (ni np2 (KQ _)) (b0 ht2)
  apply cS
  .exact cy (au (cy (au cu (au (fI kn (aw rfl)) (au kv kn))) et rfl) (au cu be)) (yv cT 39 _) rfl
  .exact⟨_,_,rfl,rfl⟩
theorem all_mk{l:PySem.W.OpenLaw}{w:ms}{fa:i0}(X:K.In h)(G:h.Ns wU mg)(YD:mg "law"=bi (.ref fa))
  {Kz Dr Dl:i0} {Wd Wb Sn SV Su Kw:Option i0} {VX Sl SN:Array (Option gs)} {Wn V5 VZ VW V0 SM Sx S_ SZ SC SF KC Kr Kv Dm Kn:gs} {jh tJ:i0} {si:i0} {w5:Tok} {Af:Tok} {z0:Tok}
  (Dp:DefIn K "in_order" Rn)
  (KF:DefIn K "two_to" Ro)
  (w4:DefIn K "entries_many" Rp)
  (u6:DefIn K "check_entries" Rq)
  (Dh:DefIn K "table_by" Rs)
  (xE:DefIn K "own_numbers" Rt)
  (zW:DefIn K "table_over" Ru)
  (z_:DefIn K "pairs_with" Rv)
  (Sy:DefIn K "says" Rw)
  (Do:DefIn K "goods_of" IN)
  (GG:DefIn K "coupled" IQ)
  (Ad:DefIn K "alike_rows" IS)
  (xF:DefIn K "check_looks" IU)
  (Gy:DefIn K "is_room" IV)
  (BZ:DefIn K "all_rooms" IX)
  (Ks:DefIn K "closed" IZ)
  (GE:DefIn K "says_so" I_)
  (M5:DefIn K "shown" Jb)
  (B0:DefIn K "_law_cell" Jd)
  (zV:DefIn K "_law_mixed" Jf)
  (Aa:DefIn K "_law_draws" Jh)
  (B1:DefIn K "_law_same" Jj)
  (B2:DefIn K "_law_pool" Jm)
  (zX:DefIn K "_law_marks" Jo)
  (wZ:DefIn K "_law_machine" Jq)
  (xG:DefIn K "_law_letter" Js)
  (tO:DefIn K "_law_some_marks" Ju)
  (B7:DefIn K "_law_wide" Jw)
  (w_:DefIn K "_law_changed" Jy)
  (w6:DefIn K "_law_doubled" JA)
  (Dj:DefIn K "_law_two" JB)
  (Ah:DefIn K "_law_unmet" JD)
  (rh:DefIn K "_law_both_letters" JF)
  (Ae:DefIn K "_law_pairs" JG)
  (X2:YZ K wU "side_by_side"=bi (bi (.ref Kz)))
  (X0:K.lookup Kz=bi ⟨Wn,Wd,.func (fnOf "side_by_side" "side_by_side" (dZ Bq) (dq Bq) (aI Bq) .none V5 VZ VW Wb (.ref jh) V0),VX⟩)
  (KA:codeIn K (.ref jh) "side_by_side"=cT)
  (XN:keepIn K (.ref Kz)=cT)
  (y:Zm K jh 98=cT)
  (z:K.lookup 98=cg)
  (V3:YZ K wU "grown"=bi (bi (.ref Dr)))
  (We:K.lookup Dr=bi ⟨SM,Sn,.func (fnOf "grown" "grown" (dZ wD) (dq wD) (aI wD) .none Sx S_ SZ SV (.ref tJ) SC),Sl⟩)
  (Gz:codeIn K (.ref tJ) "grown"=cT)
  (Wa:keepIn K (.ref Dr)=cT)
  (Y:Zm K tJ 108=cT)
  (W:K.lookup 108=cg)
  (O8:YZ K wU "law"=bi (bi (.ref Dl)))
  (Wt:K.lookup Dl=bi ⟨SF,Su,.func (fnOf "law" "law" (dZ tz) (dq tz) (aI tz) .none KC Kr Kv Kw Dm Kn),SN⟩)
  (GC:codeIn K Dm "law"=cT)
  (V6:keepIn K (.ref Dl)=cT)
  (Di:YZ K wU "TooGreat"=bi (bi (.ref si)))
  (Z:excIn K si US Nz=cT)
  (V7:YZ K wU "all"=bi cg)
  (Wi:YZ K wU "any"=bi cg)
  (SL:YZ K wU "bool"=bi cg)
  (Wq:YZ K wU "int"=bi cg)
  (zZ:YZ K wU "isinstance"=bi cg)
  (V8:YZ K wU "len"=bi cg)
  (Sv:YZ K wU "list"=bi cg)
  (Wo:YZ K wU "max"=bi cg)
  (Nf:YZ K wU "range"=bi cg)
  (Wp:YZ K wU "set"=bi cg)
  (KI:YZ K wU "sorted"=bi cg)
  (Wl:YZ K wU "str"=bi cg)
  (Nc:YZ K wU "tuple"=bi cg)
  (VY:YZ K wU "zip"=bi cg)
  (w9:YZ K wU "MOST_ENTRIES"=bi (bi (.int 10000 w5)))
  (Ab:YZ K wU "MOST_NAMES"=bi (bi (.int 13 Af)))
  (Ac:YZ K wU "MOST_LOOKS"=bi (bi (.int 40000 z0))) :
  ∃fd:Zl,(∀(s:i2) (v:gs),BindsTo s fd ⟨[v],[]⟩ [("_law_script",v)])/\∀base:pk,K.In base->base.Ns wU mg->sP base mg->fQ l.prog w K mg base (iM l.prog w) 41 fa fd JI (mF K mg 1 f_q36):=by
 have e:=YD.symm.trans (mg_of X G O8)
 cases e
 have F_q9:=yJ (st:=Bq) X0 KA XN;have m_q9:=mg_of X G X2;have F_q11:=yJ (st:=wD) We Gz Wa;have U:=mg_of X G V3;obtain⟨_,_,J,B6⟩:=B1.fn X G;have F_q36:=yJ (st:=tz) Wt GC V6;have m_q36:=mg_of X G O8;have B:Bl mg:=⟨Zd X G V7,Zd X G Wi,Zd X G SL,Zd X G Wq,Zd X G zZ,Zd X G V8,Zd X G Sv,Zd X G Wo,Zd X G Nf,Zd X G Wp,Zd X G KI,Zd X G Wl,Zd X G Nc,Zd X G VY⟩
 have C:P3 K mg:=⟨⟨si,mg_of X G Di,Z⟩⟩
 have Gg:Gc K mg:=⟨⟨_,.int 10000,mg_of X G w9,⟨_,rfl⟩,λD H=>.int⟩,⟨_,.int 13,mg_of X G Ab,⟨_,rfl⟩,λD H=>.int⟩,⟨_,.int 40000,mg_of X G Ac,⟨_,rfl⟩,λD H=>.int⟩⟩
 refine⟨fnOf "law" "law" (dZ tz) (dq tz) (aI tz) .none KC Kr Kv Kw Dm Kn,λs v=>.of_eq rfl,λbase _ _ Bk=>?_⟩;have d:=@QM l.prog w K mg base;have M7:=d Dp X G λF=>Vm F B  ;have Dq:=d KF X G λF=>Vo F B  ;have GJ:=d w4 X G λF=>Vq F B  Dq;have Kt:=d u6 X G λF=>Vr F Gg C  GJ;have kZ:=sf (P:=l.prog) (w:=w) (K:=K) (mg:=mg) (base:=base)  ;have S9:=d Dh X G λF=>Vt F B kZ ;have Wf:=d xE X G λF=>Vv F   ;have Sw:=d zW X G λF=>Vy F B  Wf;have Ss:=d z_ X G λF=>VA F B  ;have Na:=d Sy X G λF=>VB F   ;have O:=jy (P:=l.prog) (w:=w) (K:=K) (mg:=mg) (base:=base) B ;have O0:=d Ks X G λF=>RC F B O ;have O:=jy (P:=l.prog) (w:=w) (K:=K) (mg:=mg) (base:=base) B ;have OZ:dG l.prog w K mg base 4 "grown" 3 uN:=QL F_q11 U (RD F_q11 ⟨tJ,rfl,Y,W⟩ Bk B O Kt Ss S9 Dq);have Ng:xy l.prog w K mg base 3 "side_by_side" 2 aL fV:=Q4 F_q9 m_q9 (VC F_q9 ⟨jh,rfl,y,z⟩ Bk   Sw);have EU:=d Do X G λF=>RE F B  ;have OU:=d GG X G λF=>RF F B  Kt EU OZ M7 Na Ng;have OX:=d Ad X G λF=>RG F B  OU;have OK:=d xF X G λF=>RH F B Gg C  GJ;have OR:=d Gy X G λF=>RI F B  ;have O':=d BZ X G λF=>RJ F B  OR;have OT:=d GE X G λF=>RL F   EU Na;have OY:=d M5 X G λF=>RM F B  O' OK O0 M7 OT Ng Dq;have R:=d B0 X G λF=>RN F B  ;have OO:=d zV X G λF=>RO F   ;have V:=d Aa X G λF=>RP F B  OO;have Ky:=En (P:=l.prog) (w:=w) (base:=base) J B6 B  40;have EZ:=d B2 X G λF=>RQ F B  V;have OS:=d zX X G λF=>RR F B  ;have EX:=d wZ X G λF=>RT F B  ;have I:=d xG X G λF=>RU F B  ;have B8:=d tO X G λF=>RV F B  ;have O9:=d B7 X G λF=>RW F B  I B8;have ON:=d w_ X G λF=>RX F   ;have OV:=d w6 X G λF=>RY F B  ;have OQ:=d Dj X G λF=>RZ F B  R ON OV V EX OS EZ O9;have O_:=d Ah X G λF=>R0 F B  R V EX EZ;have OP:=d rh X G λF=>R1 F B  I B8;have OL:=d Ae X G λF=>R3 F B  OP;exact R4 F_q36 B  R V OL Ky OQ O_ OX OY
end P
end
namespace PySem.W.Fast
def tw18351795349323279583:=tv0
def tw15611723793048968796:=tv0
def tw8896245261295181084:=tv0
def tw4627564573509406904:=tv0
def tw6939399074498906486:=tv0
def tw445246511453079765:=tv0
def tw836071525853202547:=tv0
def tw4651211628782160625:=tv0
def tw6661923717017086513:=tv0
def tw16392443066847569677:=tv0
def tw1908906541682190891:=tv0
def tw10843130389444094379:=tv0
def tw15233691360392730217:=tv0
def tw14862489535922414497:=tv0
def tw9895819760477802401:=tv0
def tw18028516506111676023:=tv0
def tw7210775397710507579:=tv0
def tw6855848668896235173:=tv0
def tw1569056017731714955:=tv0
def tw17371721741349218315:=tv0
def tw904396624683994624:=tv0
def tw4875500972079778314:=tv0
def tw1679342501622001038:=tv0
def tw13110084344716287969:=tv0
def tw332390828053766115:=tv0
def tw14271676181876536768:=tv0
def tw14244466732811951887:=tv0
def tw1671120561639787453:=tv0
def tw1841696688039426281:=tv0
def tw3590965709165167758:=tv0
def tw4655424265414686581:=tv0
def tw9290348522120064426:=tv0
def tw268946278678092891:=tv0
def tw18304878514115774842:=tv0
def tw14272159720380274700:=tv0
def tw14179452337762730996:=tv0
def tw2151526337371254265:=tv0
def tw875640366771929104:=tv0
def tw8096858414998166575:=tv0
def tw4629136948743985732:=tv0
def tw16885500619802538087:=tv0
def tw1533068207047915645:=tv0
def tw10539247321514775191:=tv0
def tw3496135885331475083:=tv0
def tw2048629686529997432:=tv0
def tw6462988094668976702:=tv0
def tw15146524986057355117:=tv0
def tw13840906480783045493:=tv0
def tw790438814339427826:=tv0
def tw11976360322081518374:=tv0
def tw13136590952271793004:=tv0
def tw4402922755135821522:=tv0
def tw1204412304697519020:=tv0
def tw14918615523565076613:=tv0
def tw4968502549682800363:=tv0
def tw14825483968979372011:=tv0
def tw3958617593208924394:=tv0
def tw7018030475654076781:=tv0
def tw6336576917404456492:=tv0
def tw18225805087118614757:=tv0
def tw12389609597467706466:=tv0
def tw2809389222404363253:=tv0
def tw12070710755695646017:=tv0
def tw429474966080211720:=tv0
def tw16369895156874655929:=tv0
def tw7414757540920043420:=tv0
def tw9724295018012541751:=tv0
def tw5948599719421417214:=tv0
def tw4191689177187198665:=tv0
def tw1065794827191545527:=tv0
def tw9493365656910108617:=tv0
def tw2515790012856077332:=tv0
def tw9627977308500471281:=tv0
def tw6849717328702829904:=tv0
def tw4786493098762434296:=tv0
def tw9854449839770163010:=tv0
def tw2448693852731081964:=tv0
def tw5298867424940045521:=tv0
def tw8748018668143764492:=tv0
def tw3574942403004949105:=tv0
def tw15111161379662598300:=tv0
def tw3542462728166145661:=tv0
def tw4457583933434287961:=tv0
def tw14152411805292047491:=tv0
def tw13136740746966052467:=tv0
def tw4992524699653213810:=tv0
def tw13080240246608289409:=tv0
def tw6993193440134575908:=tv0
def tw12142334284364355118:=tv0
def tw2650563617374779496:=tv0
def tw3365636005472635479:=tv0
def tw4790691027620487345:=tv0
def tw2991100089782898028:=tv0
def tw15974532469992513971:=tv0
def tw12291791054280399909:=tv0
def tw1606865845105893639:=tv0
def tw14817367817262376513:=tv0
def tw9073305263112216788:=tv0
def tw7992128824840914698:=tv0
def tw11136737709179318436:=tv0
def tw8712520291139532237:=tv0
def tw11017603514035325503:=tv0
def tw4208458313142993000:=tv0
def tw269206578722262469:=tv0
def tw10155260085956283730:=tv0
def tw13255090270434986310:=tv0
def tw5029931842232361851:=tv0
def tw3736832019396040040:=tv0
def tw18056888825521396924:=tv0
def tw9379166369133898914:=tv0
def tw15708291929748708638:=tv0
def tw3132266130870850811:=tv0
def tw7677106041046831414:=tv0
def tw2222368263215086489:=tv0
def tw17487729556068873199:=tv0
def tw5532509680654042379:=tv0
def tw5885757355216616708:=tv0
def tw12682924268293514770:=tv0
def tw9628853255248608150:=tv0
def tw458396014018125339:=tv0
def tw13573597058530777823:=tv0
def tw13904608451076120783:=tv0
def tw5004784288603145645:=tv0
def tw6401100498082999538:=tv0
def tw3989956292373491769:=tv0
def tw2434764851951275352:=tv0
def tw7067508847249502630:=tv0
def tw409851850084564929:=tv0
def tw3213105678922109222:=tv0
def tw13549570297424051042:=tv0
def tw3697154342603137400:=tv0
def tw16026806911729624607:=tv0
def tw10205384561782355732:=tv0
def tw4616937490085573464:=tv0
def tw3611560872238795584:=tv0
def tw5919650672909332198:=tv0
def tw5271767146377233591:=tv0
def tw4448225094632575594:=tv0
end PySem.W.Fast
open PySem PySem.W PyProof.Rows
set_option maxRecDepth 100000 in
set_option maxHeartbeats 0 in
theorem PySem.Challenge.cw_trunksay_k55_whole_alike_paper_holds : PySem.Challenge.rw_trunksay_k55_whole_alike_paper.Holds := by
 w_on; o_law; k_head; (case hw => w_witness2)
 k_fill
 refine L2.walkT (l := PySem.Challenge.rw_trunksay_k55_whole_alike_paper) (k := 41) (x := "_law_script") (G := P.f_q36) P.tabL (by decide) rfl rfl ⟨rfl, by decide, by decide⟩ (λw h Y => PySem.W.km_in_of Y) (λw h Y T hT => PySem.W.km_tabs_of Y T (by simp only [P.tabL, aK, io, aG, cr, ib] at hT ⊢; exact Or.symm hT)) (λw T hT => ?KT) (λw T hT => ?CT) ?F P.law_ok
 case KT =>
  simp only [P.tabL, aK, io, aG, cr, ib] at hT;rcases hT with rfl | rfl
  .kernel_rfl
  .kernel_rfl
 case CT =>
  simp only [P.tabL, aK, io, aG, cr, ib] at hT;rcases hT with rfl | rfl
  .exact ⟨100, by kernel_rfl⟩
  .exact ⟨112, by kernel_rfl⟩
 case F =>
  intro w mg fa h KX G hmg;refine' P.all_mk KX G hmg ?_ ?_ ?_ ?_ ?_ ?_ ?_ ?_ ?_ ?_ ?_ ?_ ?_ ?_ ?_ ?_ ?_ ?_ ?_ ?_ ?_ ?_ ?_ ?_ ?_ ?_ ?_ ?_ ?_ ?_ ?_ ?_ ?_ ?_ ?_ ?_ ?_ ?_ ?tc_side_by_side ?tk_side_by_side ?_ ?_ ?_ ?_ ?tc_grown ?tk_grown ?_ ?_ ?_ ?_ ?_ ?x_TooGreat ?_ ?_ ?_ ?_ ?_ ?_ ?_ ?_ ?_ ?_ ?_ ?_ ?_ ?_ ?_ ?_ ?_
  any_goals (refine' L2.DefIn.mk ?a ?l ?c ?k; (case a => k_is); (case l => k_is); (case c => k_is); (case k => k_is))
  any_goals k_is
  (case tc_side_by_side => kernel_rfl)
  (case tk_side_by_side => kernel_rfl)
  (case tc_grown => kernel_rfl)
  (case tk_grown => kernel_rfl)
  (case x_TooGreat => k_exc)
