import PyProof.Rows.All
import Wide.All
import OpenK.AllK
import Wide.FinOn
import Lean
import PyProof.EqAt
import PyProof.EqKinds
import PyProof.TupleCall
import PyProof.StrLawsIn
import PyProof.StationsW
import PyProof.NeData
import OpenK.KOwn
import PyProof.NsDelKeeps
import PyProof.ExcArgsOwn
import PyProof.ExcAttrAll.ValueError
import PyProof.IsiH_tuple
import KE.KIsAll
import PyProof.CollectStr
import PyProof.ZipIter
import PyProof.Rows.ZipGen
import PyProof.JoinWalk
import PyProof.CollectIter
import PyProof.EnumMake
import PyProof.SumAny
import PyProof.DictTruth
import KE.KDictList
import PySem.Challenge.RW_trunksay_k28_surroundings
set_option Elab.async false
set_option linter.all false
set_option genSizeOf false
set_option maxRecDepth 100000
open Array renaming length_toList→eJ,forIn_toList→kE,getElem?_toList→ni
open Bool renaming and_eq_true→bw,false_ne_true→bK,and_true→bO,false_eq_true→cz,eq_iff_iff→cD,not_true→dX,or_eq_true→gr,not_eq_true'→iM,not_false→kA,false_or→oT
open Function renaming comp_def→eA
open Int renaming toNat_natCast→bB,natCast_mul→gu,emod_nonneg→gv,natCast_add→ig,emod_lt_of_pos→iz,zero_add→iS,toNat_of_nonneg→jM,fdiv_eq_ediv_of_nonneg→kr,eq_ofNat_of_zero_le→l9,natCast_emod→md,mul_comm→mS
open LawfulBEq renaming eq_of_beq→lX
open List renaming getElem?_eq_getElem→aa,getElem?_eq_some_iff→ac,prefix_refl→ah,length_map→ai,getElem?_map→ak,getElem?_append_left→aq,prefix_append→ax,getD_eq_getElem?_getD→ay,mem_of_getElem?→aA,length_append→aB,mem_cons_of_mem→aD,size_toArray→aF,map_cons→aH,mem_append→aI,mem_map→aJ,mem_cons_self→aQ,getElem?_set_ne→aS,append_assoc→aV,mem_append_right→aW,map_map→aX,length_take→aZ,mem_cons→a_,getElem?_set_self→ba,map_congr_left→br,length_cons→bv,mem_range→bx,getElem?_of_mem→bC,find?_cons→bD,take_append_of_le_length→bI,getElem?_concat_length→bM,mem_filter→bP,mem_singleton→bR,take_length→bX,take_of_length_le→bZ,map_append→ce,getElem?_append_right→cn,pairwise_cons→cy,filter_cons→cU,length_range→c_,nodup_append→db,getElem?_take_of_lt→df,length_nil→dg,map_nil→dD,drop_eq_getElem_cons→dJ,length_filter_le→dN,append_nil→eD,nodup_cons→eE,getElem_map→eW,nil_append→fA,mem_append_left→fE,any_eq_false→fF,filterMap_cons→fO,length_drop→fS,all_eq_true→fT,getElem_mem→fV,getElem?_cons_succ→fW,mem_flatMap→fX,length_pos_of_mem→gj,getElem?_eq_none→gy,set_append_right→gB,foldl_append→gE,mem_of_find?_eq_some→gZ,getElem?_range→g_,range_succ→ii,find?_eq_none→iy,take_sublist→iJ,ext_getElem?→iQ,pairwise_map→iR,take_add_one→iV,lookup_cons→je,any_eq_true→jf,find?_eq_some_iff_getElem→jg,filter_map→jH,length_pos_iff→jN,take_left→kB,pairwise_iff_getElem→kL,flatten_cons→kZ,filter_congr→k_,reverse_cons→la,getElem?_replicate→lV,cons_append→l_,range_succ_eq_map→mN,drop_eq_nil_of_le→mO,drop_of_length_le→mR,set_set→mU,of_mem_zip→mZ,forIn_cons→m5,findIdx?_toArray→nq,getElem?_reverse→nr,take_append_drop→nu,map_id→nY,any_cons→oS,all_cons→oU,sum_cons→oX,map_take→oY,map_drop→oZ,map_set→qk
open List.Perm renaming refl→kC
open List.cons renaming inj→du
open Nat renaming le_refl→aw,le_trans→aR,lt_of_lt_of_le→aT,ne_of_lt→bf,le_of_ble_eq_true→bF,lt_irrefl→bH,zero_le→cH,not_lt_zero→cO,le_of_not_lt→dk,le_of_lt→eL,zero_add→eO,add_sub_cancel→fj,pow_le_pow_right→fG,le_succ→f_,eq_zero_or_pos→gk,mul_le_mul→gS,le_antisymm→ie,lt_succ_of_lt→iL,lt_of_succ_lt_succ→iO,mul_comm→iT,lt_or_ge→iU,lt_trichotomy→iW,min_eq_left→jG,ne_of_gt→jX,add_zero→jZ,lt_of_le_of_lt→kw,lt_succ_iff_lt_or_eq→lu,lt_succ_self→lZ,div_eq_of_lt→ma,add_comm→mV,lt_trans→qh,sub_self→ql
open Nat.succ renaming inj→qj
open Option renaming map_eq_some_iff→aU,isSome_iff_exists→dU,isSome_map→gD
open Option.some renaming inj→aY
open PyProof renaming noPylong_small→mK
open PyProof.Rows renaming callWith_type1→b_,slot_tuple_getitem→dF,assignInOrder_cons→kq,subscriptTail_builtinR→mL,boot_enumerate→n5,boot_tuple→pB
open PyProof.Rows.IsTup renaming new→qR
open PySem renaming wpAny_bind→ae,wpAny_pure→ao,wpAny_loadPart'→bA,wpAny_callSpecial?_slot→bS,wpAny_call_entry→cu,wpAny_seqItems→cC,wpAny_holding→cE,wpAny_field→cG,wpAny_truthy_bool→dA,wpAny_newObj_type→dB,wpAny_mono→eB,wpAny_setField_rec→fg,wpAny_passesOwn→fy,wpAny_specialOf→fz,wpAny_rule→fH,wpAny_isInstance→fU,wpAny_pyIter_tuple→gf,wpAny_callSpecialIfBoundUnlessNone?_slot→gA,wpAny_letGo→gP,wpAny_tryCatch→gQ,wpAny_forIn_list→gX,wpAny_Call_Name_kw→iu,tupleKind_room_in1→iw,sizeLine_eq→iF,wpAny_pyIter_enum→iN,isSubtype_tuple_tuple→i8,wpAny_standAt→jm,wpAny_updateSeq_pair→jq,wpAny_execs_nil→jC,wpAny_updateSeq→jE,call_meetsIn→jY,call_meets→ku,wpAny_letOwnedTupleGo_enum→ky,wpAny_tupleItemsOf→kD,wpAny_pyIter_list→kW,wpAny_Call_method→kX,wpAny_dictEntries→k6,wpAny_attempt→lj,wpAny_onRaise→lp,plainId_quiet→lq,noFill_tuple_add→lW,wpAny_getItem_of→lY,wpAny_pyNext_enum_itemD→l7,wpAny_Name→mI,wpAny_pyIter_rangeiter→mJ,codeAny_mono→mM,wpAny_pyNext_dict_item→mT,codeAny_builtin→m6,wpAny_ret_mkInt→m7,wpAny_isTrue_Compare1→nh,wpAny_notOrdered_dict→no,isSubtype_stop→nZ,seq_tuple_add→oR,concat_meets→qe,wpAny_typeOf→qf,seqIndex_neg→qg,callType_new→qi
open PySem.Around renaming under_plainId→jr
open PySem.AutoSeq1 renaming sub_tuple_tuple→li
open PySem.Calls renaming callWith_builtin→eN,spliced_cons→gi,evalArgs_plain→gO,spliced_nil→iI,Name_function_global→ko,call_function_entry→kK
open PySem.F renaming slot_tuple_iterator_next→e_,slot_enumerate_next→gz,args_tuple_iterator_next_1→jD,slot_zip_next→jF,entry_tuple_iterator_next→j0,args_enumerate_next_1→l8,entry_enumerate_next→mP,typeCall_enumerate_1→mQ,newCall_enumerate_1→nj,entry_enumerate_new→nn
open PySem.Heap renaming get?_push_of_some→am,get?_push_size→aC,lt_size→aE,size_push→d8,get?_update_self→gw,get?_update_other→iK,get?_push_ne→kY
open PySem.Heap.SameBut renaming update→cI
open PySem.Obj renaming data_mapDictKeys→gR
open PySem.SeqAt renaming str_beq→oV
def ar:=@if_pos
def az:=@if_neg
def aK:=@decide_eq_true
def aN:=@decide_eq_false
def bq:=@beq_eq_false_iff_ne
def bt:=@decide_eq_true_iff
def cZ:=@beq_iff_eq
def dC:=@if_true
def dM:=@congrArg
def gq:=@if_false
def iP:=@of_decide_eq_true
def js:=@congrFun
set_option compiler.extract_closed false
noncomputable section
variable{us:List PySem.Value}{x name:PySem.Str}{u v:PySem.Value}{a b it cd:PySem.Addr}{o e c tg iter oB:PySem.Expr}{P prog:PySem.Program}{h h' base:PySem.Heap}{α β:Type}{pins:List (PySem.Addr×PySem.Obj)}{s:PySem.Shared}{g':Array PySem.GenState}{t' N i j n m kk:Nat}{ch fp μ μ':List PySem.Addr}{M:PySem.Model}{A:PySem.Around}{E Q:PySem.Value->PySem.Shared->Prop}{pos jB p eV p2 cS:PySem.Pos}{op:PySem.CmpOp}{K:PySem.W.Frag}{es mf mF:List PySem.Expr}{g:PySem.Value->PySem.Value->PySem.Sem PySem.Value}{C:Int->Int->Prop}{mA mg:PySem.Str->Option PySem.Value}{t ls:List (List Nat)}{fd:PySem.FuncData}{ps nm:List PySem.Str}{kindOf:PySem.Str->Option PySem.NameKind}{sc scope:PySem.Scope}{id:String}{T:Nat->Nat->Nat->Nat}{l rs S mt:List Nat}{items bn:Array PySem.Value}{ns:List Int}{XP:(PySem.Str->Option PySem.Value)->PySem.Heap->Prop}{YP:PySem.World->PySem.Heap->Prop}{ks:List (Option PySem.Expr)}{cl:List (PySem.Str×PySem.Addr)}{cap:List (Option Nat)}{q:Int}{B:Nat->Nat}
open PySem.W (Frag)
open PySem.W (kia_one fnOf codeIn keepIn codeHdIn kla_obj nsIn mg_of sortI mg_none_of)
namespace L2
open PySem PySem.Spec PyProof.Rows
abbrev f6:=Sum Int Str
def u3:f6->Value->Bool
 |.inl k,v=>Value.isInt k v
 |.inr x,v=>Value.isStrOf x v
def VZ(w:World):f6->Int
 |.inl k=>hashInt k
 |.inr x=>hashStr w x
theorem eQ:∀{k:f6} {v:Value},u3 k v=true->(∃i t,k=Sum.inl i/\v=Value.int i t)\/(∃x t,k=Sum.inr x/\v=Value.str x t)
 |.inl i,v,h=>by
  obtain⟨t,e⟩:=Value.isInt_shape (k:=i) (v:=v) h
  exact .inl ⟨i,t,rfl,e⟩
 |.inr x,v,h=>by
  obtain⟨t,e⟩:=Value.isStrOf_shape (x:=x) (v:=v) h
  exact .inr ⟨x,t,rfl,e⟩
theorem C8(i:Int)(t:Tok):u3 (.inl i) (.int i t)=true:=by simp[u3,Value.isInt]
theorem C9(x:Str)(t:Tok):u3 (.inr x) (.str x t)=true:=by simp[u3,Value.isStrOf]
theorem N8(a b:Int):decide ((Sum.inl a:f6)=Sum.inl b)=(a==b):=by
 by_cases e:a=b
 ·subst e;simp
 ·have h:¬ (Sum.inl a:f6)=Sum.inl b:=fun q=>e (Sum.inl.inj q)
  rw[aN h]
  exact(bq.mpr e).symm
theorem N9(a b:Str):decide ((Sum.inr a:f6)=Sum.inr b)=decide (a=b):=by
 by_cases e:a=b
 ·subst e;simp
 ·have h:¬ (Sum.inr a:f6)=Sum.inr b:=fun q=>e (Sum.inr.inj q)
  rw[aN h,aN e]
theorem N_(a:Int)(b:Str):decide ((Sum.inl a:f6)=Sum.inr b)=false:=aN (fun q=>nomatch q)
theorem N'(a:Str)(b:Int):decide ((Sum.inr a:f6)=Sum.inl b)=false:=aN (fun q=>nomatch q)
def dR(prog:Program)(w:World):PySem.KeyKind prog w f6 where
 is:=u3
 hash:=VZ w
 inj:=fun v a b ha hb=>by
  rcases eQ ha with⟨i,t,rfl,rfl⟩|⟨x,t,rfl,rfl⟩
  ·rcases eQ hb with⟨j,u,rfl,e⟩|⟨y,u,rfl,e⟩
   ·injection e with e1 _;rw[e1]
   ·exact nomatch e
  ·rcases eQ hb with⟨j,u,rfl,e⟩|⟨y,u,rfl,e⟩
   ·exact nomatch e
   ·injection e with e1 _;rw[e1]
 byValue:=fun k v h=>by
  rcases eQ h with⟨i,t,rfl,rfl⟩|⟨x,t,rfl,rfl⟩<;>rfl
 pyHash:=fun hv h=>by
  rcases eQ hv with⟨i,t,rfl,rfl⟩|⟨x,t,rfl,rfl⟩
  ·exact wpAny_pyHash_int h
  ·exact wpAny_pyHash_str h
 eqBool:=fun hu hv h=>by
  rcases eQ hu with⟨i,t,rfl,rfl⟩|⟨x,t,rfl,rfl⟩
  ·rcases eQ hv with⟨j,u,rfl,rfl⟩|⟨y,u,rfl,rfl⟩
   ·rw[N8]at h;exact wpAny_eqBool_int h
   ·rw[N_]at h;exact SeqAt.EqAt.int_str i t y u _ _ _ _ h
  ·rcases eQ hv with⟨j,u,rfl,rfl⟩|⟨y,u,rfl,rfl⟩
   ·rw[N']at h;exact SeqAt.EqAt.str_int x t j u _ _ _ _ h
   ·rw[N9]at h;exact wpAny_eqBool_str h
 «strs»:=fun k x t v h=>by
  rcases eQ h with⟨i,u,rfl,e⟩|⟨y,u,rfl,e⟩
  ·exact nomatch e
  ·injection e with e1 _
   subst e1
   cases v<;>rfl
theorem xF(prog:Program)(w:World)(i:Int)(t:Tok):(dR prog w).is (.inl i) (.int i t)=true:=C8 i t
theorem xG(prog:Program)(w:World)(x:Str)(t:Tok):(dR prog w).is (.inr x) (.str x t)=true:=C9 x t
inductive V where
 |non|bl (b:Bool)|int (i:Int)|str (x:Str)|byt (b:Array UInt8)|flt (b:UInt64)|ref (a:Addr)|ty (n:String)
 deriving DecidableEq
def bL:V->Value->Prop
 |.non,u=>u=Value.none
 |.bl b,u=>u=Value.bool b
 |.int i,u=>∃t,u=Value.int i t
 |.str x,u=>∃t,u=Value.str x t
 |.byt b,u=>∃t,u=Value.bytes b t
 |.flt b,u=>∃t,u=Value.float b t
 |.ref a,u=>u=Value.ref a
 |.ty n,u=>u=Value.type n
abbrev cv:List V->List Value->Prop:=Paired bL
theorem cv.length{xs:List V}(r:cv xs us):xs.length=us.length:=Paired.length r
theorem cv.get:∀{xs:List V} {us:List Value} {i:Nat} {x:V},cv xs us->xs[i]?=some x->∃u,us[i]?=some u/\bL x u
 |_,_,_,_,.nil,e=>by simp at e
 |_,_,0,_,.cons r _,e=>by simp at e;subst e;exact⟨_,rfl,r⟩
 |_,_,i+1,x,.cons _ t,e=>by
  obtain⟨u,h1,h2⟩:=cv.get (i:=i) (x:=x) t (by simpa using e)
  exact⟨u,by simpa using h1,h2⟩
theorem cv.set{x:V}(r:bL x u):∀{xs:List V} {us:List Value} (i:Nat),cv xs us->cv (xs.set i x) (us.set i u)
 |_,_,_,.nil=>.nil
 |_,_,0,.cons _ t=>.cons r t
 |_,_,i+1,.cons q t=>.cons q (cv.set r i t)
theorem cv.append:∀{xs ys:List V} {us ws:List Value},cv xs us->cv ys ws->cv (xs++ys) (us++ws)
 |_,_,_,_,.nil,s=>s
 |_,_,_,_,.cons r t,s=>.cons r (cv.append t s)
theorem cv.take:∀{xs:List V} {us:List Value} (n:Nat),cv xs us->cv (xs.take n) (us.take n)
 |_,_,0,_=>.nil
 |_,_,_+1,.nil=>.nil
 |_,_,n+1,.cons r t=>.cons r (cv.take n t)
theorem cv.drop:∀{xs:List V} {us:List Value} (n:Nat),cv xs us->cv (xs.drop n) (us.drop n)
 |_,_,0,r=>r
 |_,_,_+1,.nil=>.nil
 |_,_,n+1,.cons _ t=>cv.drop n t
def qo:Option V->Option Value->Prop
 |some v,some u=>bL v u
 |none,none=>True
 |_,_=>False
def KV{κ:Type}:List (κ×V)->List (κ×Value)->Prop:=Paired fun(p:κ×V) (q:κ×Value)=>p.1=q.1/\bL p.2 q.2
def kV:f6->V
 |.inl i=>.int i
 |.inr x=>.str x
inductive HO where
 /-- a list -/
 |lst (xs:List V)
 /-- a tuple (never changes) -/
 |tup (xs:List V)
 /-- a dict whose keys are ints and texts;one whose keys are tuples of ints and texts (the empty one is both) -/
 |dK (kvs:List (f6×V))|dT (kvs:List (List f6×V))
 /-- a set of ints: bn members,bn size -/
 |set (S:Int->Bool) (n:Nat)
 /-- an instance of the class at C,bn dict at dx,bn attributes -/
 |ins (C dx:Addr) (fs:List (Str×V))
 /-- the dict of the instance at x -/
 |own (x:Addr)
 /-- the dict of an exception -/
 |xd (fs:List (Str×V))
 /-- a bound method,f of x -/
 |met (f x:Addr)
 /-- a range object lo,lo+1,.. below hi -/
 |rng (lo hi:Int)
 /-- a thing that is known to the object (the script;a dict while a loop walks it): read,never written while it is so -/
 |frz (o:Obj) (u:HO)
 /-- a code object's table -/
 |tbl (ps:Array Value)
 /-- any other thing,by what is true of bn one object (a def of Xf own: SetO a S n:=HO.ext fun h=>..) -/
 |ext (φ:Heap->Prop)
abbrev Hp:=Addr->Option HO
def eR(H:Hp)(a:Addr)(o:HO):Hp:=fun b=>if b=a then some o else H b
theorem eX{H:Hp}{o:HO}:eR H a o a=some o:=by unfold eR;rw[ar rfl]
theorem cJ{H:Hp}{o:HO}(h:b≠a):eR H a o b=H b:=by unfold eR;rw[az h]
theorem R3{H:Hp}{o u:HO}(h:H a=some o)(h':H b=some u)(d:o≠u):a≠b:=by
 intro e;subst e;rw[h]at h';exact d (aY h')
theorem eY{H:Hp}{o:HO}(h:H a=some o)(h':H b=none):a≠b:=by
 intro e;subst e;rw[h]at h';cases h'
section
variable(P:Program)(w:World)
def eS(H:Hp)(h:Heap)(a:Addr):HO->Prop
 |.lst xs=>xs.length<=sizeLine/\∃(bn:List Value) (n:Nat),cv xs bn/\h.get? a=some { cls:=.type "list",data:=.seq bn.toArray n }
 |.tup xs=>xs.length<=sizeLine/\∃bn:List Value,cv xs bn/\IsTup h a bn.toArray
 |.dK kvs=>kvs.length<=sizeLine/\(a==sysModules)=false/\∃vs,KV kvs vs/\h.DictOf (dR P w) a vs
 |.dT kvs=>kvs.length<=sizeLine/\(a==sysModules)=false/\∃xs:List (List f6×Addr×Value),
   Paired (fun(p:List f6×V) (q:List f6×Addr×Value)=>p.1=q.1/\H q.2.1=some (.tup (p.1.map kV))/\bL p.2 q.2.2) kvs xs /\
   ∃o es ep,h.get? a=some o/\o.ExactDict/\o.data=.dict es ep/\es.toList=xs.map (entryOfKey (tupleKind (dR P w)))/\(xs.map (·.1)).Nodup
 |.set S n=>h.SetOf (intKind P w) a S n
 |.ins C dx fs=>H dx=some (.own a)/\fs.length<=1000/\dx≠a/\h.get? a=some (PySem.W.instObj C dx) /\
   ∃mA,h.Ns1 dx mA/\(∀f,qo (fs.lookup f) (mA f))/\PySem.Within mA (fs.map (·.1))
 |.own _=>∃o,h.get? a=some o
 |.xd fs=>∃mA,h.Ns1 a mA/\∀f,qo (fs.lookup f) (mA f)
 |.rng lo hi=>∃t u v,h.get? a=some { cls:=.type "range",data:=.fields #[.int lo t,.int hi u,.int 1 v] }
 |.frz o u=>h.get? a=some o/\eS H h a u
 |.tbl ps=>h.get? a=some { cls:=.none,data:=.fields ps }
 |.met f x=>h.get? a=some (PySem.W.methodObj (.ref f) (.ref x))
 |.ext φ=>φ h/\(∃o,h.get? a=some o)/\∀h1 h2:Heap,φ h1->(∀o,h1.get? a=some o->h2.get? a=some o)->φ h2
def oD(H:Hp)(h:Heap):Prop:=∀a o,H a=some o->eS P w H h a o
end
section
variable{w:World}{H H':Hp}{o:HO}
theorem eS.lt(x:eS P w H h a o):a<h.objs.size:=by
 cases o with
 |lst xs=>obtain⟨_,_,_,_,e⟩:=x;exact aE e
 |tup xs=>obtain⟨_,_,_,p⟩:=x;exact p.lt
 |dK kvs=>obtain⟨_,_,_,_,o,_,_,e,_⟩:=x;exact aE e
 |dT kvs=>obtain⟨_,_,_,_,o,_,_,e,_⟩:=x;exact aE e
 |set S n=>obtain⟨o,_,_,_,e,_⟩:=x;exact aE e
 |ins C dx fs=>obtain⟨_,_,_,e,_⟩:=x;exact aE e
 |own y=>obtain⟨_,e⟩:=x;exact aE e
 |xd fs=>obtain⟨_,⟨_,_,_,e,_⟩,_⟩:=x;exact aE e
 |rng lo hi=>obtain⟨_,_,_,e⟩:=x;exact aE e
 |frz ob u=>obtain⟨e,_⟩:=x;exact aE e
 |tbl ps=>exact aE (show h.get? a=some _ from x)
 |met f y=>exact aE (show h.get? a=some _ from x)
 |ext φ=>obtain⟨_,⟨_,e⟩,_⟩:=x;exact aE e
theorem Paired.mapP{F G:α->β->Prop}:∀{l₁:List α} {l₂:List β},Paired F l₁ l₂->(∀a b,F a b->G a b)->Paired G l₁ l₂
 |_,_,.nil,_=>.nil
 |_,_,.cons r t,f=>.cons (f _ _ r) (Paired.mapP t f)
theorem Paired.imp'{F G:α->β->Prop}(f:∀a b,F a b->G a b){l₁:List α}{l₂:List β}(r:Paired F l₁ l₂):Paired G l₁ l₂:=Paired.mapP r f
theorem eS.stay(x:eS P w H h a o)(k:∀b u,(b=a\/H b=some (.own a))->h.get? b=some u->h'.get? b=some u)
  (ho:∀b,H b=some (.own a)->H' b=some (.own a)) (ht:∀b xs,H b=some (.tup xs)->H' b=some (.tup xs)):eS P w H' h' a o:=by
 induction o with
 |lst xs=>obtain⟨z,bn,n,r,e⟩:=x;exact⟨z,bn,n,r,k _ _ (.inl rfl) e⟩
 |tup xs=>obtain⟨z,bn,r,ob,e,c⟩:=x;exact⟨z,bn,r,ob,k _ _ (.inl rfl) e,c⟩
 |dK kvs=>obtain⟨z,y,vs,r,ob,es,ep,e,c⟩:=x;exact⟨z,y,vs,r,ob,es,ep,k _ _ (.inl rfl) e,c⟩
 |dT kvs=>
  obtain⟨z,y,xs,r,ob,es,ep,e,c⟩:=x
  exact⟨z,y,xs,Paired.mapP r fun p q z=>⟨z.1,ht _ _ z.2.1,z.2.2⟩,ob,es,ep,k _ _ (.inl rfl) e,c⟩
 |set S n=>obtain⟨ob,es,ep,t,e,c⟩:=x;exact⟨ob,es,ep,t,k _ _ (.inl rfl) e,c⟩
 |ins C dx fs=>
  obtain⟨d,z,ne,e,mA,⟨od,es,ep,e2,c⟩,r⟩:=x
  exact⟨ho _ d,z,ne,k _ _ (.inl rfl) e,mA,⟨od,es,ep,k _ _ (.inr d) e2,c⟩,r⟩
 |own y=>obtain⟨ob,e⟩:=x;exact⟨ob,k _ _ (.inl rfl) e⟩
 |xd fs=>obtain⟨mA,⟨od,es,ep,e,c⟩,r⟩:=x;exact⟨mA,⟨od,es,ep,k _ _ (.inl rfl) e,c⟩,r⟩
 |rng lo hi=>obtain⟨t,u,v,e⟩:=x;exact⟨t,u,v,k _ _ (.inl rfl) e⟩
 |frz ob u ih=>obtain⟨e,q⟩:=x;exact⟨k _ _ (.inl rfl) e,ih q⟩
 |tbl ps=>
  have e:h.get? a=some { cls:=.none,data:=.fields ps }:=x
  show h'.get? a=some { cls:=.none,data:=.fields ps }
  exact k a _ (.inl rfl) e
 |met f y=>
  have e:h.get? a=some (PySem.W.methodObj (.ref f) (.ref y)):=x
  show h'.get? a=some (PySem.W.methodObj (.ref f) (.ref y))
  exact k a _ (.inl rfl) e
 |ext φ=>obtain⟨p,⟨o,e⟩,st⟩:=x;exact⟨st _ _ p fun o q=>k _ _ (.inl rfl) q,⟨o,k _ _ (.inl rfl) e⟩,st⟩
theorem oD.lt(x:oD P w H h)(e:H a=some o):a<h.objs.size:=(x a o e).lt
theorem oD.fresh(x:oD P w H h)(e:h.objs.size<=a):H a=none:=by
 cases q:H a with
 |none=>rfl
 |some u=>exact absurd (aT (x.lt q) e) (bH _)
theorem oD.kept(x:oD P w H h)(k:∀b u,h.get? b=some u->h'.get? b=some u):oD P w H h':=fun a o e=>
 (x a o e).stay (fun b u _ q=>k b u q) (fun _ q=>q) fun _ _ q=>q
theorem oD.laid(x:oD P w H h)(k:∀b u,h.get? b=some u->h'.get? b=some u)(hp:h.objs.size<=a)(new:eS P w (eR H a o) h' a o):oD P w (eR H a o) h':=fun b u e=>by
 have hn:=x.fresh hp
 by_cases hb:b=a
 ·subst hb;rw[eX]at e;cases e;exact new
 ·rw[cJ hb]at e
  exact(x b u e).stay (fun c v _ q=>k c v q) (fun c q=>by rw[cJ (eY q hn)];exact q) fun c xs q=>by rw[cJ (eY q hn)];exact q
end
def Rd(H:Hp)(a:Addr)(u:HO):Prop:=H a=some u\/∃o,H a=some (.frz o u)
theorem Rd.ok{w:World}{H:Hp}{u:HO}(r:Rd H a u)(x:oD P w H h):eS P w H h a u:=by
 rcases r with r|⟨o,r⟩
 ·exact x a u r
 ·obtain⟨_,q⟩:=x a _ r
  exact q
def Oa:Option HO->Prop
 |some (.lst _)=>True
 |some (.dK _)=>True
 |some (.dT _)=>True
 |some (.set _ _)=>True
 |some (.ins _ _ _)=>True
 |some (.ext _)=>True
 |_=>False
section
variable{w:World}{H:Hp}{x e:Addr}{o':HO}
theorem oD.write(ok:oD P w H h)(mu:Oa (H x))(he:e=x\/H e=some (.own x))(k:∀b u,b≠e->h.get? b=some u->h'.get? b=some u)(RZ:∃u,h'.get? e=some u)
  (new:eS P w (eR H x o') h' x o'):oD P w (eR H x o') h':=fun b u q=>by
 have nown:∀c y,H c=some (.own y)->c≠x:=fun c y r z=>by subst z;rw[r]at mu;exact mu
 have ntup:∀c xs,H c=some (.tup xs)->c≠x:=fun c xs r z=>by subst z;rw[r]at mu;exact mu
 by_cases hb:b=x
 ·subst hb;rw[eX]at q;cases q;exact new
 ·rw[cJ hb]at q
  by_cases hbe:b=e
  ·have q':H b=some (.own x):=by
    rcases he with z|z
    ·exact absurd (hbe.trans z) hb
    ·rw[hbe];exact z
   rw[q]at q';cases q'
   obtain⟨v,hv⟩:=RZ
   exact⟨v,by rw[hbe];exact hv⟩
  ·refine(ok b u q).stay (fun c v hc r=>k c v ?_ r) (fun c r=>by rw[cJ (nown c b r)];exact r) fun c xs r=>by rw[cJ (ntup c xs r)];exact r
   rcases hc with rfl|hc
   ·exact hbe
   ·rintro rfl
    rcases he with z|z
    ·exact nown c b hc z
    ·rw[hc]at z;cases z;exact hb rfl
end
structure Un(fs ex:List Addr)(H H':Hp)(h h':Heap):Prop where
 keep:∀b o,h.get? b=some o->H b=none->b∉fs->b∉ex->h'.get? b=some o
 slot:∀b o,h.get? b=some o->H b=none->b∈fs->b∉ex->∃sl,h'.get? b=some { o with slots:=sl }
 free:∀b o,h.get? b=some o->H b=none->b∉ex->H' b=none
 there:∀b o,h.get? b=some o->b∉ex->∃o',h'.get? b=some o'
 tups:∀b xs,H b=some (.tup xs)->H' b=some (.tup xs)
 frzs:∀b o u,H b=some (.frz o u)->H' b=some (.frz o u)
 tbls:∀b ps,H b=some (.tbl ps)->∃lh,H' b=some (.tbl (ps++lh))
section
variable{fs XY ex X0:List Addr}{H H1 H2:Hp}{h1 h2:Heap}{x e:Addr}{o:HO}
theorem Un.any(u:Un fs ex H H1 h h1){ob:Obj}(q:h.get? b=some ob)(n:H b=none)(hx:b∉ex):∃sl,h1.get? b=some { ob with slots:=sl }:=by
 by_cases hb:b∈fs
 ·exact u.slot b ob q n hb hx
 ·exact⟨ob.slots,u.keep b ob q n hb hx⟩
theorem Un.kept(k:∀b u,h.get? b=some u->h'.get? b=some u):Un fs ex H H h h':=
 ⟨fun b ob q _ _ _=>k b ob q,fun b ob q _ _ _=>⟨ob.slots,k b ob q⟩,fun _ _ _ n _=>n,fun b ob q _=>⟨ob,k b ob q⟩,fun _ _ q=>q,fun _ _ _ q=>q,fun _ ps q=>⟨#[],by rw[q];simp⟩⟩
theorem Un.refl:Un fs ex H H h h:=Un.kept fun _ _ q=>q
theorem Un.laid(k:∀b u,h.get? b=some u->h'.get? b=some u)(hp:h.objs.size<=a)(hn:H a=none):Un fs ex H (eR H a o) h h' where
 keep:=fun b u q _ _ _=>k b u q
 slot:=fun b u q _ _ _=>⟨u.slots,k b u q⟩
 free:=fun b u q n _=>by rw[cJ (bf (aT (aE q) hp))];exact n
 there:=fun b u q _=>⟨u,k b u q⟩
 tups:=fun b xs q=>by rw[cJ (eY q hn)];exact q
 frzs:=fun b u xs q=>by rw[cJ (eY q hn)];exact q
 tbls:=fun b ps q=>⟨#[],by rw[cJ (eY q hn),q];simp⟩
theorem Un.write(mu:Oa (H x))(he:e=x\/H e=some (.own x))(k:∀b u,b≠e->h.get? b=some u->h'.get? b=some u)(RZ:∃u,h'.get? e=some u):Un fs ex H (eR H x o) h h':=by
 have hx:∀b,H b=none->b≠x:=fun b n z=>by subst z;rw[n]at mu;exact mu
 have hb:∀b,H b=none->b≠e:=fun b n z=>by
  subst z
  rcases he with r|r
  ·exact hx b n r
  ·rw[n]at r;cases r
 have hm:∀b u,H b=some u->¬ Oa (some u)->b≠x:=fun b u q nm z=>by subst z;rw[q]at mu;exact nm mu
 refine⟨fun b u q n _ _=>k b u (hb b n) q,fun b u q n _ _=>⟨u.slots,k b u (hb b n) q⟩,fun b u q n _=>by rw[cJ (hx b n)];exact n,fun b u q _=>?_,
  fun b xs q=>by rw[cJ (hm b _ q fun z=>z)];exact q,fun b u xs q=>by rw[cJ (hm b _ q fun z=>z)];exact q,fun b ps q=>⟨#[],by rw[cJ (hm b _ q fun z=>z),q];simp⟩⟩
 by_cases hbe:b=e
 ·subst hbe;exact RZ
 ·exact⟨u,k b u hbe q⟩
end
def VB(h:Heap)(H:Hp):List Addr:=(List.range h.objs.size).filter fun a=>(H a).isSome
def uu(h:Heap)(H:Hp):Heap:=PySem.W.hideAll h (VB h H)
theorem C_(h:Heap)(H:Hp):(uu h H).objs.size=h.objs.size:=PySem.W.hideAll_size _ _
theorem Ew{H:Hp}{o:Obj}(e:h.get? b=some o)(n:H b=none):(uu h H).get? b=some o:=
 PySem.W.hideAll_get _ e fun hm=>by
  have q:(H b).isSome=true:=(bP.mp hm).2
  rw[n]at q;simp at q
theorem Jq{H:Hp}{o:Obj}(e:(uu h H).get? b=some o):h.get? b=some o/\H b=none:=by
 have e':h.get? b=some o:=PySem.W.of_hideAll (VB h H) e
 refine⟨e',?_⟩
 cases q:H b with
 |none=>rfl
 |some x=>
  have hm:b∈VB h H:=bP.mpr ⟨bx.mpr (aE e'),by simp[q]⟩
  have z:(uu h H).get? b=none:=PySem.W.hideAll_none (VB h H) hm
  rw[z]at e;cases e
def Jr(g h:Heap)(L:Addr):List (Addr×Obj):=(List.range h.objs.size).filterMap fun a=>if a=L\/(g.get? a).isSome=true then none else(h.get? a).map fun o=>(a,o)
def de(g h:Heap)(L d:Addr):List (Addr×Obj):=(Jr g h L).filter fun p=>decide (p.1≠d)
structure Mod(K:Frag)(mg:Str->Option Value)(base:Heap):Prop where
 kin:K.In base
 glob:base.Ns mainGlobals mg
 blt:∃mb,base.Ns builtinsNs mb/\∀x:Str,x ≠ "__name__"->mb x=bootBuiltins x
 nolimit:base.NoLimit
structure Cx where
 prog:Program
 w:World
 K:Frag
 mg:Str->Option Value
 base:Heap
 A:Around
 N:List Str
 s₀:Shared
 H₀:Hp
 env:Env
 outer:List Env
 stack:List Env
 ex:List Addr
 fn:Str->Bool
 calm:Bool
 pn:List (Addr×Obj)
 xe:Value->Shared->Prop
def vV(l:List Env):List Addr:=l.filterMap (·.frame)
abbrev Cx.fs(X:Cx):List Addr:=vV X.outer
def R4(sc:Scope)(x:Str):Prop:=sc.names.lookup x=some .local\/sc.names.lookup x=some .cell\/sc.names.lookup x=some .free
def Js(sc:Scope)(x:Str):Prop:=sc.names.lookup x=some .local\/sc.names.lookup x=some .cell
def V0(env:Env)(h:Heap)(m:Str->Option Value)(x:Str)(u:Value):Prop:=
 (env.kindOf x=some .local/\m x=some u)\/((env.kindOf x=some .cell\/env.kindOf x=some .free)/\∃c,env.cells.lookup x=some c/\h.IsCell c (some u))
structure Cx.Ok(X:Cx):Prop where
 mod:Mod X.K X.mg X.base
 kind:X.env.scope.kind=.function
 glob:X.env.globals=mainGlobals
 blt:X.env.builtins=builtinsNs
 above:X.s₀.heap.objs.size<=X.env.locals
 inj:∀x y c,X.env.cells.lookup x=some c->X.env.cells.lookup y=some c->x=y
 has:∀x,(X.env.kindOf x=some .cell\/X.env.kindOf x=some .free)->∃c,X.env.cells.lookup x=some c
 cab:∀x c,X.fn x=true->X.env.cells.lookup x=some c->X.s₀.heap.objs.size<=c
 hd:X.calm=true->X.A.handled=none
 frames:X.A.frames=some X.stack
 stk:X.stack=X.outer\/(X.stack=X.env::X.outer/\X.env.frame=some X.env.locals)
 exf:∀b∈X.ex,b≠X.env.locals/\∀x c,X.env.cells.lookup x=some c->c≠b
 bs:∀b o,X.base.get? b=some o->X.s₀.heap.get? b=some o/\X.H₀ b=none
 bsz:X.base.objs.size<=X.s₀.heap.objs.size
 noex:∀b o,X.base.get? b=some o->b∉X.ex
 exfs:∀b∈X.ex,b∉X.fs
 funs:X.s₀.heap.FunFrames X.base X.outer
 frf:∀b∈X.fs,X.H₀ b=none
structure bz(X:Cx)(pins:List (Addr×Obj))(σ:List (Option V))(H:Hp)(s:Shared):Prop where
 ok:X.Ok
 os:s.os=X.s₀.os
 bare:AllBare s.gens
 base:Un X.fs X.ex X.H₀ H X.s₀.heap s.heap
 loc:∃m,s.heap.Ns X.env.locals m/\∀(i:Nat) (x:Str) (v:V),X.N[i]?=some x->σ[i]?=some (some v)->R4 X.env.scope x->∃u,bL v u/\V0 X.env s.heap m x u
 cell:∀x c,X.env.cells.lookup x=some c->∃v,s.heap.IsCell c v
 free:H X.env.locals=none
 freeC:∀x c,X.env.cells.lookup x=some c->H c=none
 pin:∀p∈X.pn++pins,s.heap.get? p.1=some p.2/\H p.1=none/\p.1≠X.env.locals/\p.1∉X.fs/\∀v,p.2.data≠.cell v
 hok:oD X.prog X.w H s.heap
 len:σ.length=X.N.length
section
variable{X:Cx}{σ:List (Option V)}{H H':Hp}
theorem Cx.Ok.nofr(ok:X.Ok){o:Obj}(e:X.base.get? b=some o):b∉X.fs:=fun hb=>by
 have:=(ok.funs.mem hb).1
 rw[e]at this;cases this
theorem bz.bs(I:bz X pins σ H s):∀b o,X.base.get? b=some o->s.heap.get? b=some o/\H b=none:=fun b o e=>
 ⟨I.base.keep b o (I.ok.bs b o e).1 (I.ok.bs b o e).2 (I.ok.nofr e) (I.ok.noex b o e),I.base.free b o (I.ok.bs b o e).1 (I.ok.bs b o e).2 (I.ok.noex b o e)⟩
theorem bz.bk(I:bz X pins σ H s):∀b o,X.base.get? b=some o->s.heap.get? b=some o:=fun b o e=>(I.bs b o e).1
theorem bz.mod(I:bz X pins σ H s):Mod X.K X.mg X.base:=I.ok.mod
theorem bz.kIn(I:bz X pins σ H s):X.K.In s.heap:=I.ok.mod.kin.keeps I.bk
theorem bz.nolimit(I:bz X pins σ H s):s.heap.NoLimit:=I.ok.mod.nolimit.keeps I.bk
theorem bz.lt(I:bz X pins σ H s):X.env.locals<s.heap.objs.size:=let ⟨_,hn,_⟩:=I.loc;hn.lt
theorem bz.sz(I:bz X pins σ H s):X.s₀.heap.objs.size<=s.heap.objs.size:=aR I.ok.above (eL I.lt)
theorem bz.nofs(I:bz X pins σ H s)(h:s.heap.objs.size<=a):a∉X.fs:=fun hb=>by
 obtain⟨_,o,ho,_⟩:=I.ok.funs.mem hb
 exact absurd (aT (aE ho) (aR I.sz h)) (bH _)
theorem bz.cne(I:bz X pins σ H s):∀x c,X.env.cells.lookup x=some c->c≠X.env.locals:=fun x c e z=>by
 obtain⟨v,o,ho,hd⟩:=I.cell x c e
 obtain⟨m,⟨o',es,ep,qN,hd',_⟩,_⟩:=I.loc
 rw[z,qN]at ho;cases ho;rw[hd']at hd;cases hd
theorem bz.funs(I:bz X pins σ H s):s.heap.FunFrames X.base X.outer:=by
 have all:∀(l:List Env),(∀b∈vV l,b∈X.fs)->X.s₀.heap.FunFrames X.base l->s.heap.FunFrames X.base l:=by
  intro l
  induction l with
  |nil=>intro _ _;trivial
  |cons env r ih=>
   intro hs hl
   obtain⟨hk,⟨L,o,hf,hn,ho,hd⟩,hr⟩:=hl
   have hL:L∈X.fs:=hs L (by unfold vV;rw[fO,hf];exact aQ)
   obtain⟨sl,e⟩:=I.base.slot L o ho (I.ok.frf L hL) hL fun z=>I.ok.exfs L z hL
   exact⟨hk,⟨L,_,hf,hn,e,hd⟩,ih (fun b hb=>hs b (by unfold vV;rw[fO,hf];exact aD _ hb)) hr⟩
 exact all X.outer (fun _ hb=>hb) I.ok.funs
theorem bz.stack(I:bz X pins σ H s):s.heap.FunFrames X.base X.stack:=by
 rcases I.ok.stk with e|⟨e,hf⟩
 ·rw[e];exact I.funs
 ·rw[e]
  obtain⟨m,hn,_⟩:=I.loc
  refine .cons (by rw[I.ok.kind];decide) hf hn ?_ I.funs
  exact Heap.get?_none_of_le (aR I.ok.bsz I.ok.above)
theorem bz.stkSub(I:bz X pins σ H s):∀b∈vV X.stack,b∈X.env.locals::X.fs:=fun b hb=>by
 rcases I.ok.stk with e|⟨e,hf⟩
 ·rw[e]at hb;exact aD _ hb
 ·rw[e]at hb
  unfold vV at hb
  rw[fO,hf]at hb
  exact hb
theorem bz.stkFree(I:bz X pins σ H s):∀b∈vV X.stack,H b=none:=fun b hb=>by
 rcases a_.mp (I.stkSub b hb)with e|hb
 ·rw[e];exact I.free
 ·obtain⟨_,o,ho,_⟩:=I.ok.funs.mem hb
  exact I.base.free b o ho (I.ok.frf b hb) fun z=>I.ok.exfs b z hb
theorem bz.step{g':Array GenState}{t':Nat}{d':Drawn}{ch:List Addr}(I:bz X pins σ H s)
  (Ep:∀b∈ch,(b∈X.ex\/X.s₀.heap.objs.size<=b)/\b≠X.env.locals/\(∀x c,X.env.cells.lookup x=some c->c≠b)/\∀p∈X.pn++pins,p.1≠b)
  (keep:∀b o,b≠X.env.locals->b∉X.fs->b∉ch->s.heap.get? b=some o->H b=none->h'.get? b=some o)
  (slot:∀b o,b≠X.env.locals->b∈X.fs->b∉ch->s.heap.get? b=some o->H b=none->∃sl,h'.get? b=some { o with slots:=sl }) (free:∀b o,b∉ch->s.heap.get? b=some o->H b=none->H' b=none)
  (there:∀b o,b∉ch->s.heap.get? b=some o->∃o',h'.get? b=some o')
  (tups:∀b xs,H b=some (.tup xs)->H' b=some (.tup xs)) (frzs:∀b o u,H b=some (.frz o u)->H' b=some (.frz o u)) (tbls:∀b ps,H b=some (.tbl ps)->∃lh,H' b=some (.tbl (ps++lh)))
  (ns:∀m,s.heap.Ns X.env.locals m->h'.Ns X.env.locals m) (hok:oD X.prog X.w H' h') (hg:AllBare g') :
  bz X pins σ H' { s with heap:=h',gens:=g',drawn:=d',toks:=t' }:=by
 have neL:∀b o,X.s₀.heap.get? b=some o->b≠X.env.locals:=fun b o e=>bf (aT (aE e) I.ok.above)
 have neC:∀b o,X.s₀.heap.get? b=some o->b∉X.ex->b∉ch:=fun b o e hx hb=>by
  rcases(Ep b hb).1 with z|z
  ·exact hx z
  ·exact absurd (aT (aE e) z) (bH _)
 have cellK:∀x c,X.env.cells.lookup x=some c->∀v,s.heap.IsCell c v->h'.IsCell c v:=fun x c e v ⟨o,ho,hd⟩=>by
  have nch:c∉ch:=fun z=>(Ep c z).2.2.1 x c e rfl
  by_cases hc:c∈X.fs
  ·obtain⟨sl,q⟩:=slot c o (I.cne x c e) hc nch ho (I.freeC x c e)
   exact⟨_,q,hd⟩
  ·exact⟨o,keep c o (I.cne x c e) hc nch ho (I.freeC x c e),hd⟩
 refine⟨I.ok,I.os,hg,⟨fun b o e n hb hx=>?_,fun b o e n hb hx=>?_,fun b o e n hx=>?_,fun b o e hx=>?_,fun b xs e=>tups b xs (I.base.tups b xs e),fun b o xs e=>frzs b o xs (I.base.frzs b o xs e),fun b ps e=>?_⟩,?_,fun x c e=>?_,?_,fun x c e=>?_,fun p hp=>?_,hok,I.len⟩
 ·exact keep b o (neL b o e) hb (neC b o e hx) (I.base.keep b o e n hb hx) (I.base.free b o e n hx)
 ·obtain⟨sl,e1⟩:=I.base.slot b o e n hb hx
  obtain⟨sl',e2⟩:=slot b _ (neL b o e) hb (neC b o e hx) e1 (I.base.free b o e n hx)
  exact⟨sl',e2⟩
 ·obtain⟨o',e1⟩:=I.base.there b o e hx
  exact free b o' (neC b o e hx) e1 (I.base.free b o e n hx)
 ·obtain⟨o',e1⟩:=I.base.there b o e hx
  exact there b o' (neC b o e hx) e1
 ·obtain⟨m1,e1⟩:=I.base.tbls b ps e
  obtain⟨m2,e2⟩:=tbls b _ e1
  exact⟨m1++m2,by rw[e2,Array.append_assoc]⟩
 ·obtain⟨m,hn,hl⟩:=I.loc
  refine⟨m,ns m hn,fun i x v e1 e2 e3=>?_⟩
  obtain⟨u,r,l⟩:=hl i x v e1 e2 e3
  refine⟨u,r,?_⟩
  rcases l with l|⟨k,c,e,z⟩
  ·exact .inl l
  ·exact .inr ⟨k,c,e,cellK x c e _ z⟩
 ·obtain⟨v,z⟩:=I.cell x c e
  exact⟨v,cellK x c e v z⟩
 ·obtain⟨m,⟨o,_,_,ho,_⟩,_⟩:=I.loc
  exact free _ o (fun z=>(Ep _ z).2.1 rfl) ho I.free
 ·obtain⟨v,o,ho,hd⟩:=I.cell x c e
  exact free c o (fun z=>(Ep c z).2.2.1 x c e rfl) ho (I.freeC x c e)
 ·obtain⟨e,n,ne,nf,d⟩:=I.pin p hp
  have nch:p.1∉ch:=fun z=>(Ep p.1 z).2.2.2 p hp rfl
  exact⟨keep p.1 p.2 ne nf nch e n,free p.1 p.2 nch e n,ne,nf,d⟩
theorem bz.un{t':Nat}(I:bz X pins σ H s)(u:Un X.fs [] H H' s.heap h')(hok:oD X.prog X.w H' h'):bz X pins σ H' { s with heap:=h',toks:=t' }:=by
 obtain⟨m,⟨o,es,ep,ho,r⟩,_⟩:=id I.loc
 obtain⟨sl,hL⟩:=u.any ho I.free (by simp)
 exact I.step (g':=s.gens) (d':=s.drawn) (ch:=[]) (fun _ z=>nomatch z) (fun b o _ hb _ e n=>u.keep b o e n hb (by simp)) (fun b o _ hb _ e n=>u.slot b o e n hb (by simp)) (fun b o _ e n=>u.free b o e n (by simp)) (fun b o _ e=>u.there b o e (by simp)) u.tups u.frzs u.tbls (fun m' hm=>by
  obtain⟨o',es',ep',qN,r'⟩:=hm
  rw[ho]at qN;cases qN
  exact⟨_,es',ep',hL,r'⟩) hok I.bare
theorem bz.call{g':Array GenState}{t':Nat}{d':Drawn}{ch:List Addr}(I:bz X pins σ H s)(u:Un (vV X.stack) ch H H' s.heap h')(hok:oD X.prog X.w H' h')(hg:AllBare g')
  (Ep:∀b∈ch,(b∈X.ex\/X.s₀.heap.objs.size<=b)/\b≠X.env.locals/\(∀x c,X.env.cells.lookup x=some c->c≠b)/\∀p∈X.pn++pins,p.1≠b) :
  bz X pins σ H' { s with heap:=h',gens:=g',drawn:=d',toks:=t' }:=by
 obtain⟨m,⟨o,es,ep,ho,r⟩,_⟩:=id I.loc
 obtain⟨sl,hL⟩:=u.any ho I.free fun z=>(Ep _ z).2.1 rfl
 exact I.step (ch:=ch) Ep (fun b o hL hb hc e n=>u.keep b o e n (fun z=>(a_.mp (I.stkSub b z)).elim hL hb) hc) (fun b o _ _ hc e n=>u.any e n hc) (fun b o hc e n=>u.free b o e n hc) (fun b o hc e=>u.there b o e hc) u.tups u.frzs u.tbls (fun m' hm=>by
  obtain⟨o',es',ep',qN,r'⟩:=hm
  rw[ho]at qN;cases qN
  exact⟨_,es',ep',hL,r'⟩) hok hg
theorem bz.turned{t':Nat}{it:Addr}(I:bz X pins σ H s)(k:∀b o,b≠it->s.heap.get? b=some o->h'.get? b=some o)(hn:H it=none)(hL:it≠X.env.locals)
  (h1:it∈X.ex\/X.s₀.heap.objs.size<=it) (h2:∀x c,X.env.cells.lookup x=some c->c≠it) (h3:∀p∈X.pn++pins,p.1≠it):bz X pins σ H { s with heap:=h',toks:=t' }:=by
 have nit:∀b u,H b=some u->b≠it:=fun b u e z=>by rw[z,hn]at e;cases e
 refine I.step (g':=s.gens) (d':=s.drawn) (ch:=[it]) (fun b hb=>?_) (fun b o _ _ hc e _=>k b o (fun z=>hc (by simp[z])) e) (fun b o _ _ hc e _=>⟨o.slots,k b o (fun z=>hc (by simp[z])) e⟩) (fun _ _ _ _ n=>n)
  (fun b o hc e=>⟨o,k b o (fun z=>hc (by simp[z])) e⟩) (fun _ _ e=>e) (fun _ _ _ e=>e) (fun b ps e=>⟨#[],by rw[e];simp⟩) (fun m hm=>?_) (fun b u e=>?_) I.bare
 ·have e:b=it:=by simpa using hb
  subst e
  exact⟨h1,hL,h2,h3⟩
 ·obtain⟨o,es,ep,ho,r⟩:=hm
  exact⟨o,es,ep,k _ o (Ne.symm hL) ho,r⟩
 ·refine(I.hok b u e).stay (fun c v hc q=>k c v ?_ q) (fun _ q=>q) fun _ _ q=>q
  rcases hc with z|z
  ·rw[z];exact nit b u e
  ·exact nit c _ z
theorem bz.tok(I:bz X pins σ H s)(t:Nat):bz X pins σ H { s with toks:=t }:=I.un (h':=s.heap) (t':=t) Un.refl I.hok
theorem bz.kept{t':Nat}(I:bz X pins σ H s)(k:∀b u,s.heap.get? b=some u->h'.get? b=some u):bz X pins σ H { s with heap:=h',toks:=t' }:=I.un (Un.kept k) (I.hok.kept k)
theorem bz.laid{a:Addr}{o:HO}{t':Nat}(I:bz X pins σ H s)(k:∀b u,s.heap.get? b=some u->h'.get? b=some u)(hp:s.heap.objs.size<=a)(new:eS X.prog X.w (eR H a o) h' a o) :
  bz X pins σ (eR H a o) { s with heap:=h',toks:=t' }:=I.un (Un.laid k hp (I.hok.fresh hp)) (I.hok.laid k hp new)
theorem bz.write{x e:Addr}{o:HO}(I:bz X pins σ H s)(mu:Oa (H x))(he:e=x\/H e=some (.own x))(k:∀b u,b≠e->s.heap.get? b=some u->h'.get? b=some u)(RZ:∃u,h'.get? e=some u)
  (new:eS X.prog X.w (eR H x o) h' x o):bz X pins σ (eR H x o) { s with heap:=h',toks:=t' }:=I.un (Un.write mu he k RZ) (I.hok.write mu he k RZ new)
theorem bz.pins_of{pins':List (Addr×Obj)}(I:bz X pins σ H s)(h:∀p∈pins',s.heap.get? p.1=some p.2/\H p.1=none/\p.1≠X.env.locals/\p.1∉X.fs/\∀v,p.2.data≠.cell v):bz X pins' σ H s:=
 ⟨I.ok,I.os,I.bare,I.base,I.loc,I.cell,I.free,I.freeC,fun p hp=>(aI.mp hp).elim (fun z=>I.pin p (fE _ z)) (h p),I.hok,I.len⟩
theorem xH{N:List Str}(hN:N.Nodup)(a:N[i]?=some x)(b:N[j]?=some x):i=j:=by
 obtain⟨h1,e1⟩:=ac.mp a
 obtain⟨h2,e2⟩:=ac.mp b
 exact(List.getElem_inj hN).mp (e1.trans e2.symm)
theorem Da{M:Model}{A:Around}{E:Value->Shared->Prop}{v:V}{Q:Unit->Shared->Prop}(I:bz X pins σ H s)(hN:X.N.Nodup)(hi:X.N[i]?=some x)(hx:Js X.env.scope x)(r:bL v u)
  (h:∀s',bz X pins (σ.set i (some v)) H s'->(∃a,Heap.SameBut a s.heap s'.heap/\(a=X.env.locals\/X.env.cells.lookup x=some a))->Q () s') (hf:X.fn x=true\/X.env.scope.names.lookup x=some .local:=by first|exact .inl rfl|exact .inr rfl|assumption):wpAny M A (storeName X.env x u) Q E s:=by
 obtain⟨m,hn,hl⟩:=id I.loc
 have hcls:(X.env.scope.kind==.class||(X.env.scope.kind==.module&&X.env.locals != X.env.globals))=false:=by rw[I.ok.kind];rfl
 have hiσ:i<σ.length:=by rw[I.len];exact(ac.mp hi).1
 have cne:=I.cne
 have tracked:∀{a:Addr} {h':Heap},(∃o,s.heap.get? a=some o/\H a=none)->Heap.SameBut a s.heap h'->oD X.prog X.w H h':=fun{a h'} ha hs b ob e=>by
  obtain⟨_,_,hfree⟩:=ha
  refine(I.hok b ob e).stay (fun c w' hc q=>(hs.2 c ?_).trans q) (fun _ q=>q) fun _ _ q=>q
  rintro rfl
  rcases hc with rfl|hc
  ·rw[hfree]at e;cases e
  ·rw[hfree]at hc;cases hc
 rcases hx with hk|hk
 ·refine wpAny_storeName_local hk hn (fun h' hn' hs=>?_) hcls
  obtain⟨oL,_,_,hoL,_⟩:=id hn
  refine h _ ⟨I.ok,I.os,I.bare,⟨fun b o e n hb hx=>?_,fun b o e n hb hx=>?_,I.base.free,fun b o e hx=>?_,I.base.tups,I.base.frzs,I.base.tbls⟩,⟨_,hn',fun j y v' e1 e2 e3=>?_⟩,fun y c e=>?_,I.free,I.freeC,fun p hp=>?_,tracked ⟨oL,hoL,I.free⟩ hs,by simpa using I.len⟩ ⟨_,hs,.inl rfl⟩
  ·exact(hs.2 b (bf (aT (aE e) I.ok.above))).trans (I.base.keep b o e n hb hx)
  ·obtain⟨sl,e1⟩:=I.base.slot b o e n hb hx
   exact⟨sl,(hs.2 b (bf (aT (aE e) I.ok.above))).trans e1⟩
  ·obtain⟨o',e1⟩:=I.base.there b o e hx
   exact⟨o',(hs.2 b (bf (aT (aE e) I.ok.above))).trans e1⟩
  ·by_cases hj:j=i
   ·subst hj
    rw[hi]at e1;cases e1
    rw[ba hiσ]at e2
    cases e2
    exact⟨u,r,.inl ⟨hk,by simp⟩⟩
   ·rw[aS (Ne.symm hj)]at e2
    obtain⟨u',r',q⟩:=hl j y v' e1 e2 e3
    refine⟨u',r',?_⟩
    rcases q with⟨k,e⟩|⟨k,c,e,z⟩
    ·refine .inl ⟨k,?_⟩
     have:y≠x:=fun e=>hj (xH hN e1 (e▸hi))
     simp[this,e]
    ·exact .inr ⟨k,c,e,z.sameBut hs (cne y c e)⟩
  ·obtain⟨w',z⟩:=I.cell y c e
   exact⟨w',z.sameBut hs (cne y c e)⟩
  ·obtain⟨e,n,ne,nf,d⟩:=I.pin p hp
   exact⟨(hs.2 p.1 ne).trans e,n,ne,nf,d⟩
 ·have hfn:X.fn x=true:=by
   rcases hf with z|z
   ·exact z
   ·rw[z]at hk;cases hk
  obtain⟨c,hc⟩:=I.ok.has x (.inl hk)
  obtain⟨w',z⟩:=I.cell x c hc
  refine wpAny_storeName_cell I.ok.kind hk hc z (fun h' hc' hs=>?_)
  obtain⟨oc,hoc,hocd⟩:=id z
  refine h { s with heap:=h' } ⟨I.ok,I.os,I.bare,⟨fun b o e n hb hx=>?_,fun b o e n hb hx=>?_,I.base.free,fun b o e hx=>?_,I.base.tups,I.base.frzs,I.base.tbls⟩,⟨m,hn.sameBut hs (Ne.symm (cne x c hc)),fun j y v' e1 e2 e3=>?_⟩,fun y c' e=>?_,I.free,I.freeC,fun p hp=>?_,tracked ⟨oc,hoc,I.freeC x c hc⟩ hs,by simpa using I.len⟩ ⟨c,hs,.inr hc⟩
  ·exact(hs.2 b (bf (aT (aE e) (I.ok.cab x c hfn hc)))).trans (I.base.keep b o e n hb hx)
  ·obtain⟨sl,e1⟩:=I.base.slot b o e n hb hx
   exact⟨sl,(hs.2 b (bf (aT (aE e) (I.ok.cab x c hfn hc)))).trans e1⟩
  ·obtain⟨o',e1⟩:=I.base.there b o e hx
   exact⟨o',(hs.2 b (bf (aT (aE e) (I.ok.cab x c hfn hc)))).trans e1⟩
  ·by_cases hj:j=i
   ·subst hj
    rw[hi]at e1;cases e1
    rw[ba hiσ]at e2
    cases e2
    exact⟨u,r,.inr ⟨.inl hk,c,hc,hc'⟩⟩
   ·rw[aS (Ne.symm hj)]at e2
    obtain⟨u',r',q⟩:=hl j y v' e1 e2 e3
    refine⟨u',r',?_⟩
    rcases q with q|⟨k,c',e,z'⟩
    ·exact .inl q
    ·refine .inr ⟨k,c',e,z'.sameBut hs ?_⟩
     rintro rfl
     exact hj (xH hN e1 (I.ok.inj _ _ _ e hc▸hi))
  ·by_cases hcc:c'=c
   ·subst hcc;exact⟨_,hc'⟩
   ·obtain⟨w2,z2⟩:=I.cell y c' e
    exact⟨w2,z2.sameBut hs hcc⟩
  ·obtain⟨e,n,ne,nf,d⟩:=I.pin p hp
   refine⟨(hs.2 p.1 ?_).trans e,n,ne,nf,d⟩
   intro q
   rw[q,hoc]at e
   have q':oc=p.2:=aY e
   exact d w' (by rw[<- q'];exact hocd)
theorem pF{M:Model}{A:Around}{E:Value->Shared->Prop}{v:V}{Q:Unit->Shared->Prop}(I:bz X pins σ H s)(hN:X.N.Nodup)(hi:X.N[i]?=some x)(hx:Js X.env.scope x)(r:bL v u)
  (h:∀s',bz X pins (σ.set i (some v)) H s'->Q () s') (hf:X.fn x=true\/X.env.scope.names.lookup x=some .local:=by first|exact .inl rfl|exact .inr rfl|assumption):wpAny M A (storeName X.env x u) Q E s:=
 Da I hN hi hx r (fun s' I' _=>h s' I') hf
theorem bz.call'{s':Shared}{ch:List Addr}(I:bz X pins σ H s)(ho:s'.os=s.os)(u:Un (vV X.stack) ch H H' s.heap s'.heap)(hok:oD X.prog X.w H' s'.heap)(hg:AllBare s'.gens)
  (Ep:∀b∈ch,(b∈X.ex\/X.s₀.heap.objs.size<=b)/\b≠X.env.locals/\(∀x c,X.env.cells.lookup x=some c->c≠b)/\∀p∈X.pn++pins,p.1≠b):bz X pins σ H' s':=by
 obtain⟨h',g',d',t',o'⟩:=s'
 have e:o'=s.os:=ho
 subst e
 exact I.call (g':=g') (t':=t') (d':=d') u hok hg Ep
end
abbrev XK:=Value->Option Addr->Hp->Prop
abbrev St:=List (Option V)
abbrev VK:=V->Hp->Prop
abbrev TE:=St->Hp->VK->Prop
abbrev TT:=St->Hp->(Bool->Hp->Prop)->Prop
abbrev TA:=St->Hp->(List V->Hp->Prop)->Prop
structure vW where
 nx:St->Hp->Prop
 rt:VK
 bk:St->Hp->Prop:=fun _ _=>False
 ct:St->Hp->Prop:=fun _ _=>False
abbrev TS:=vW->St->Hp->Prop
def EP(X:Cx)(pins:List (Addr×Obj))(σ:St)(Q:VK)(u:Value)(s':Shared):Prop:=∃v H',bz X pins σ H' s'/\bL v u/\Q v H'
def TP(X:Cx)(pins:List (Addr×Obj))(σ:St)(Q:Bool->Hp->Prop)(b:Bool)(s':Shared):Prop:=∃H',bz X pins σ H' s'/\Q b H'
def AP(X:Cx)(pins:List (Addr×Obj))(σ:St)(Q:List V->Hp->Prop)(us:List Value)(s':Shared):Prop:=∃vs H',bz X pins σ H' s'/\cv vs us/\Q vs H'
def SP(X:Cx)(pins:List (Addr×Obj))(D:vW)(f:Flow)(s':Shared):Prop:=
 match f with
 |.next=>∃σ' H',bz X pins σ' H' s'/\D.nx σ' H'
 |.brk=>∃σ' H',bz X pins σ' H' s'/\D.bk σ' H'
 |.cont=>∃σ' H',bz X pins σ' H' s'/\D.ct σ' H'
 |.ret u=>∃v σ' H',bz X pins σ' H' s'/\bL v u/\D.rt v H'
def PE(X:Cx)(e:Expr)(t:TE):Prop:=
 ∀(pins:List (Addr×Obj)) (s:Shared) (σ:St) (H:Hp) (Q:VK),bz X pins σ H s->t σ H Q->wpAny (model X.prog X.w) X.A (eval e X.env) (EP X pins σ Q) X.xe s
def PT(X:Cx)(e:Expr)(t:TT):Prop:=
 ∀(pins:List (Addr×Obj)) (s:Shared) (σ:St) (H:Hp) (Q:Bool->Hp->Prop),bz X pins σ H s->t σ H Q->wpAny (model X.prog X.w) X.A (isTrue e X.env (eval e X.env)) (TP X pins σ Q) X.xe s
def PW(X:Cx)(e:Expr)(t:TT):Prop:=
 ∀(uk:Sem Value) (pins:List (Addr×Obj)) (s:Shared) (σ:St) (H:Hp) (Q:Bool->Hp->Prop),bz X pins σ H s->t σ H Q->wpAny (model X.prog X.w) X.A (isTrue e X.env uk) (TP X pins σ Q) X.xe s
theorem PW.pt{X:Cx}{t:TT}(h:PW X e t):PT X e t:=h _
def PA(X:Cx)(es:List Expr)(t:TA):Prop:=
 ∀(pos:Pos) (pins:List (Addr×Obj)) (s:Shared) (σ:St) (H:Hp) (Q:List V->Hp->Prop),bz X pins σ H s->t σ H Q->wpAny (model X.prog X.w) X.A (spliced (backTo pos (starEach es X.env))) (AP X pins σ Q) X.xe s
def PS(X:Cx)(st:Stmt)(t:TS):Prop:=
 ∀(pins:List (Addr×Obj)) (s:Shared) (σ:St) (H:Hp) (D:vW),bz X pins σ H s->t D σ H->wpAny (model X.prog X.w) X.A (exec st X.env) (SP X pins D) X.xe s
def Db(X:Cx)(st:List Stmt)(t:TS):Prop:=
 ∀(pins:List (Addr×Obj)) (s:Shared) (σ:St) (H:Hp) (D:vW),bz X pins σ H s->t D σ H->wpAny (model X.prog X.w) X.A (execs st X.env) (SP X pins D) X.xe s
theorem fJ{t:Sem α}{Q Q':α->Shared->Prop}(h:wpAny M A t Q E s)(hQ:∀a s,Q a s->Q' a s):wpAny M A t Q' E s:=eB h hQ fun _ _ x=>x
section
variable{X:Cx}
def R5(i:Nat):TE:=fun σ H Q=>∃v,σ[i]?=some (some v)/\Q v H
def tC(v:V):TE:=fun _ H Q=>Q v H
theorem Ob{pos:Pos}(hN:X.N[i]?=some x)(hv:R4 X.env.scope x)(hd:(x==("__debug__":Str))=false:=by decide)(nX:(x==("__classdict__":Str))=false:=by decide):PE X (.Name x pos) (R5 i):=by
 intro pins s σ H Q I h
 obtain⟨v,e,h⟩:=h
 obtain⟨m,hn,hl⟩:=I.loc
 obtain⟨u,r,l⟩:=hl i x v hN e hv
 have fin:EP X pins σ Q u s:=⟨v,H,I,r,h⟩
 rcases l with⟨hk,hm⟩|⟨hk,c,hc,iE⟩
 ·exact mI (wpAny_loadName_local I.ok.kind hk hn hm fin) hd
 ·rcases hk with hk|hk
  ·exact mI (wpAny_loadName_cell I.ok.kind hk hc iE fin) hd
  ·exact mI (wpAny_loadName_free I.ok.kind hk hc iE fin nX) hd
theorem Oc{i j pos}:PE X (.Constant (.int i) j pos) (tC (.int i)):=fun _ _ _ H _ I h=>wpAny_Constant_int ⟨.int i,H,I.tok _,⟨_,rfl⟩,h⟩
theorem R6{b j pos}:PE X (.Constant (.bool b) j pos) (tC (.bl b)):=fun _ _ _ H _ I h=>Constant_bool ⟨.bl b,H,I,rfl,h⟩
theorem Od{j pos}:PE X (.Constant .none j pos) (tC .non):=fun _ _ _ H _ I h=>Constant_none ⟨.non,H,I,rfl,h⟩
theorem Oe{x j pos}:PE X (.Constant (.str x) j pos) (tC (.str x)):=fun _ _ _ H _ I h=>Calls.Constant_str ⟨.str x,H,I.tok _,⟨_,rfl⟩,h⟩
def Gl(X:Cx)(x:Str):Prop:=X.env.kindOf x=some .globalImplicit
theorem Jt{E:Value->Shared->Prop}{σ:St}{H:Hp}{pos:Pos}(I:bz X pins σ H s)(hg:Gl X x)(hm:X.mg x=some u)(h:Q u s)
  (hd:(x==("__debug__":Str))=false:=by decide):wpAny (model X.prog X.w) X.A (eval (.Name x pos) X.env) Q E s:=
 ko I.ok.kind hg (Calls.loadGlobal_global (by rw[I.ok.glob];exact I.mod.glob.keeps I.bk) hm h) hd
theorem lc{E:Value->Shared->Prop}{σ:St}{H:Hp}{pos:Pos}(I:bz X pins σ H s)(hg:Gl X x)(hm:X.mg x=none)(hv:bootBuiltins x=some u)(h:Q u s)
  (hn:x ≠ "__name__":=by decide) (hd:(x==("__debug__":Str))=false:=by decide):wpAny (model X.prog X.w) X.A (eval (.Name x pos) X.env) Q E s:=by
 obtain⟨mb,h1,h2⟩:=I.mod.blt
 exact ko I.ok.kind hg (Calls.loadGlobal_builtin (by rw[I.ok.glob];exact I.mod.glob.keeps I.bk) hm (by rw[I.ok.blt];exact h1.keeps I.bk) ((h2 x hn).trans hv) h) hd
theorem Ju{v:V}{pos:Pos}(hg:Gl X x)(hm:X.mg x=none)(hv:bootBuiltins x=some u)(r:bL v u)(hn:x ≠ "__name__":=by decide)(hd:(x==("__debug__":Str))=false:=by decide):PE X (.Name x pos) (tC v):=
 fun _ _ _ H _ I h=>lc I hg hm hv ⟨v,H,I,r,h⟩ hn hd
variable{a b:Expr}{ta tb:TE}
def PC(X:Cx)(op:CmpOp)(a b:Expr)(t:TE):Prop:=
 ∀(pins:List (Addr×Obj)) (s:Shared) (σ:St) (H:Hp) (Q:VK),bz X pins σ H s->t σ H Q ->
  wpAny (model X.prog X.w) X.A (eval a X.env) (fun v s₁=>wpAny (model X.prog X.w) X.A (eval b X.env) (fun u s₂=>wpAny (model X.prog X.w) X.A (compareOp op v u) (EP X pins σ Q) X.xe s₂) X.xe s₁) X.xe s
theorem xI(b:Expr)(h:op≠.In)(h2:op≠.NotIn):behindInMarks op b=false:=by
 have e1:(op==CmpOp.In)=false:=by cases op<;>first|rfl|exact absurd rfl h
 have e2:(op==CmpOp.NotIn)=false:=by cases op<;>first|rfl|exact absurd rfl h2
 cases b<;>simp[behindInMarks,e1,e2]
def R7(ta:TE):TE:=fun σ H Q=>ta σ H fun x H1=>Q (.bl (decide (x=.non))) H1
theorem bL.none_iff{x:V}(r:bL x v):(v==Value.none)=decide (x=.non):=by
 cases x with
 |non=>cases r;rfl
 |bl _=>cases r;rfl
 |int _=>obtain⟨t,rfl⟩:=r;rfl
 |str _=>obtain⟨t,rfl⟩:=r;rfl
 |byt _=>obtain⟨t,rfl⟩:=r;rfl
 |flt _=>obtain⟨t,rfl⟩:=r;rfl
 |ref _=>cases r;rfl
 |ty _=>cases r;rfl
theorem Ex{j jB}(ha:PE X a ta):PC X .Is a (.Constant .none j jB) (R7 ta):=by
 intro pins s σ H Q I h
 refine fJ (ha pins s σ H _ I h) fun v s1 ⟨x,H1,I1,r1,q1⟩=>?_
 exact Constant_none (is_none_gen ⟨.bl _,H1,I1,by rw[r1.none_iff];rfl,q1⟩)
def tB(t:TE):TT:=fun σ H Q=>t σ H fun x H1=>∃c,x=.bl c/\Q c H1
theorem Of{t:TE}(h:PC X op a b t)(h1:behindInMarks op b=false:=by first|exact xI _ (by decide) (by decide)|rfl):PE X (.Compare a [op] [b] pos) t:=fun pins s σ H Q I hw=>wpAny_Compare1 (h pins s σ H Q I hw) h1
theorem Og{t:TE}(h:PC X op a b t)(h1:behindInMarks op b=false:=by first|exact xI _ (by decide) (by decide)|rfl):PT X (.Compare a [op] [b] pos) (tB t):=by
 intro pins s σ H Q I hw
 refine nh (fJ (h pins s σ H _ I hw) fun v s1 h1=>fJ h1 fun u s2 h2=>fJ h2 fun c s3 ⟨x,H1,I1,r1,q1⟩=>?_) h1
 obtain⟨d,rfl,q⟩:=q1
 cases r1
 exact dA ⟨H1,I1,q⟩
theorem Oh{t:TE}(h:PE X e t)(he:∀uk,isTrue e X.env uk=(do let v <- uk;standAt e.pos;holding [v] (truthy v)):=by intro _;rfl):PT X e (tB t):=by
 intro pins s σ H Q I hw
 refine isTrue_plain (fJ (h pins s σ H _ I hw) fun v s1 ⟨x,H1,I1,r1,q1⟩=>?_) (he _)
 obtain⟨d,rfl,q⟩:=q1
 cases r1
 exact dA ⟨H1,I1,q⟩
variable{tA Vd:TT}{de:List Expr}
def V1(t u:TT):TT:=fun σ H Q=>t σ H fun c H1=>if c=true then u σ H1 Q else Q false H1
def Xk(t u:TT):TT:=fun σ H Q=>t σ H fun c H1=>if c=true then Q true H1 else u σ H1 Q
def V2(t:TT):TT:=fun σ H Q=>t σ H fun c H1=>Q (!c) H1
theorem Jv(ha:PT X a tA):PW X (.BoolOp .And [a] pos) tA:=by
 intro wh pins s σ H Q I h
 refine isTrue_and (fJ (ha pins s σ H Q I h) fun c s1 e=>?_)
 cases c with
 |true=>exact isTrue_and_nil e
 |false=>exact e
theorem Oi(ha:PT X a tA):PW X (.BoolOp .Or [a] pos) tA:=by
 intro wh pins s σ H Q I h
 refine isTrue_or (fJ (ha pins s σ H Q I h) fun c s1 e=>?_)
 cases c with
 |false=>exact isTrue_or_nil e
 |true=>exact e
theorem Oj(ha:PT X a tA)(hb:PW X (.BoolOp .And (b::de) pos) Vd):PW X (.BoolOp .And (a::b::de) pos) (V1 tA Vd):=by
 intro wh pins s σ H Q I h
 refine isTrue_and (fJ (ha pins s σ H _ I h) fun c s1 ⟨H1,I1,q1⟩=>?_)
 cases c with
 |true=>exact hb wh pins s1 σ H1 Q I1 q1
 |false=>exact⟨H1,I1,q1⟩
theorem R8(ha:PT X a tA)(hb:PW X (.BoolOp .Or (b::de) pos) Vd):PW X (.BoolOp .Or (a::b::de) pos) (Xk tA Vd):=by
 intro wh pins s σ H Q I h
 refine isTrue_or (fJ (ha pins s σ H _ I h) fun c s1 ⟨H1,I1,q1⟩=>?_)
 cases c with
 |true=>exact⟨H1,I1,q1⟩
 |false=>exact hb wh pins s1 σ H1 Q I1 q1
theorem Ol(ha:PT X a tA):PT X (.UnaryOp .Not a pos) (V2 tA):=by
 intro pins s σ H Q I h
 exact isTrue_not (ha pins s σ H (fun c H1=>Q (!c) H1) I h)
def R9(ta tb:TE):TE:=fun σ H Q=>ta σ H fun x H1=>∃c,x=.bl c/\if c=true then tb σ H1 Q else Q (.bl false) H1
def R_(ta:TE):TE:=fun σ H Q=>ta σ H fun x H1=>∃c,x=.bl c/\Q (.bl (!c)) H1
theorem Om{op}{t:TE}(h:PE X a t):PE X (.BoolOp op [a] pos) t:=fun pins s σ H Q I hw=>BoolOp_one (h pins s σ H Q I hw)
theorem On(ha:PE X a ta)(hb:PE X (.BoolOp .And (b::de) pos) tb):PE X (.BoolOp .And (a::b::de) pos) (R9 ta tb):=by
 intro pins s σ H Q I h
 refine BoolOp_and (fJ (ha pins s σ H _ I h) fun v s1 ⟨x,H1,I1,r1,q1⟩=>?_)
 obtain⟨c,rfl,q1⟩:=q1
 cases r1
 refine dA ?_
 cases c with
 |true=>exact hb pins s1 σ H1 Q I1 q1
 |false=>exact⟨.bl false,H1,I1,rfl,q1⟩
theorem Oo(ha:PE X a ta):PE X (.UnaryOp .Not a pos) (R_ ta):=by
 intro pins s σ H Q I h
 refine UnaryOp_ (fJ (ha pins s σ H _ I h) fun v s1 ⟨x,H1,I1,r1,q1⟩=>?_)
 obtain⟨c,rfl,q1⟩:=q1
 cases r1
 exact not_of (dA ⟨.bl (!c),H1,I1,rfl,q1⟩)
def Xl(t:TT)(ta tb:TE):TE:=fun σ H Q=>t σ H fun c H1=>if c=true then ta σ H1 Q else tb σ H1 Q
theorem Ey(hc:PT X c tA)(ha:PE X a ta)(hb:PE X b tb):PE X (.IfExp c a b pos) (Xl tA ta tb):=by
 intro pins s σ H Q I h
 refine wpAny_IfExp (fJ (hc pins s σ H _ I h) fun d s1 ⟨H1,I1,q1⟩=>?_)
 cases d with
 |true=>exact ha pins s1 σ H1 Q I1 q1
 |false=>exact hb pins s1 σ H1 Q I1 q1
end
def pD(K:Frag)(H:Hp)(a:Addr)(xs:List V):Prop:=
 Rd H a (.lst xs) \/
  ∃(o:Obj) (bn:Array Value) (n:Nat),K.lookup a=some o/\o.cls=.type "list"/\o.dict=none/\o.data=.seq bn n/\bn.size<=sizeLine/\cv xs bn.toList
def eF(K:Frag)(H:Hp)(a:Addr)(xs:List V):Prop:=
 Rd H a (.tup xs) \/
  ∃(o:Obj) (bn:Array Value) (n:Nat),K.lookup a=some o/\o.cls=.type "tuple"/\o.data=.seq bn n/\bn.size<=sizeLine/\cv xs bn.toList
def V3:Value->Option V
 |.none=>some .non
 |.bool b=>some (.bl b)
 |.int i _=>some (.int i)
 |.str x _=>some (.str x)
 |.bytes b _=>some (.byt b)
 |.float b _=>some (.flt b)
 |.ref a=>some (.ref a)
 |.type n=>some (.ty n)
 |_=>none
theorem bL.abs{x:V}(r:bL x u):V3 u=some x:=by
 cases x with
 |non=>cases r;rfl
 |bl _=>cases r;rfl
 |int _=>obtain⟨t,rfl⟩:=r;rfl
 |str _=>obtain⟨t,rfl⟩:=r;rfl
 |byt _=>obtain⟨t,rfl⟩:=r;rfl
 |flt _=>obtain⟨t,rfl⟩:=r;rfl
 |ref _=>cases r;rfl
 |ty _=>cases r;rfl
theorem bL.inj{x y:V}(r:bL x u)(q:bL y u):x=y:=aY (r.abs.symm.trans q.abs)
theorem cv.inj:∀{xs ys:List V} {us:List Value},cv xs us->cv ys us->xs=ys
 |_,_,_,.nil,.nil=>rfl
 |_,_,_,.cons r t,.cons r' t'=>by rw[r.inj r',cv.inj t t']
section
variable{X:Cx}{σ:St}{H:Hp}{xs ys:List V}
theorem pD.of(h:H a=some (.lst xs)):pD K H a xs:=.inl (.inl h)
theorem eF.of(h:H a=some (.tup xs)):eF K H a xs:=.inl (.inl h)
theorem bz.list(I:bz X pins σ H s)(h:pD X.K H a xs):∃bn:List Value,cv xs bn/\PlainL s.heap a bn.toArray/\xs.length<=sizeLine:=by
 rcases h with h|⟨o,bn,n,hk,hc,hd,hs,hz,r⟩
 ·obtain⟨z,bn,n,r,e⟩:=h.ok I.hok
  exact⟨bn,r,⟨_,n,e,rfl,rfl,rfl⟩,z⟩
 ·refine⟨bn.toList,r,⟨o,n,I.kIn a o hk,hc,hd,by simpa using hs⟩,?_⟩
  have e:=r.length
  simp only[eJ]at e
  omega
theorem bz.tuple(I:bz X pins σ H s)(h:eF X.K H a xs):∃bn:List Value,cv xs bn/\IsTup s.heap a bn.toArray/\xs.length<=sizeLine:=by
 rcases h with h|⟨o,bn,n,hk,hc,hs,hz,r⟩
 ·obtain⟨z,bn,r,p⟩:=h.ok I.hok
  exact⟨bn,r,p,z⟩
 ·refine⟨bn.toList,r,⟨o,I.kIn a o hk,hc,n,by simpa using hs⟩,?_⟩
  have e:=r.length
  simp only[eJ]at e
  omega
theorem bz.list_inj(I:bz X pins σ H s)(h:pD X.K H a xs)(h':pD X.K H a ys):xs=ys:=by
 obtain⟨bn,r,⟨o,n,e,_,_,d⟩,_⟩:=I.list h
 obtain⟨its',r',⟨o',n',e',_,_,d'⟩,_⟩:=I.list h'
 rw[e]at e';cases e'
 rw[d]at d'
 injection d' with d1 _
 have:bn=its':=by simpa using dM Array.toList d1
 subst this
 exact r.inj r'
theorem bz.tuple_inj(I:bz X pins σ H s)(h:eF X.K H a xs)(h':eF X.K H a ys):xs=ys:=by
 obtain⟨bn,r,⟨o,e,_,n,d⟩,_⟩:=I.tuple h
 obtain⟨its',r',⟨o',e',_,n',d'⟩,_⟩:=I.tuple h'
 rw[e]at e';cases e'
 rw[d]at d'
 injection d' with d1 _
 have:bn=its':=by simpa using dM Array.toList d1
 subst this
 exact r.inj r'
end
section
variable{X:Cx}{σ:St}{H:Hp}
end
section
variable{X:Cx}{st:Stmt}{de:List Stmt}{t u:TS}{te:TE}
def R':TS:=fun D σ H=>D.nx σ H
def V4(t u:TS):TS:=fun D σ H=>t { D with nx:=u D } σ H
theorem Jw:Db X [] R':=fun _ _ σ H _ I h=>jC ⟨σ,H,I,h⟩
theorem Ez(h1:PS X st t)(h2:Db X de u):Db X (st::de) (V4 t u):=by
 intro pins s σ H D I h
 refine wpAny_execs_cons (fJ (h1 pins s σ H { D with nx:=u D } I h) fun f s1 q=>?_)
 cases f with
 |next=>
  obtain⟨σ',H',I',q⟩:=q
  exact h2 pins s1 σ' H' D I' q
 |ret v=>exact q
 |brk=>exact q
 |cont=>exact q
theorem Jx(h1:PS X st t):Db X [st] t:=by
 intro pins s σ H D I h
 refine wpAny_execs_cons (fJ (h1 pins s σ H D I h) fun f s1 q=>?_)
 cases f with
 |next=>exact jC q
 |ret v=>exact q
 |brk=>exact q
 |cont=>exact q
theorem bz.quiet{σ:St}{H:Hp}(I:bz X pins σ H s):interactive X.env=false:=by simp[interactive,I.ok.kind]
def Sa(te:TE):TS:=fun D σ H=>te σ H fun _ H1=>D.nx σ H1
theorem Jy(he:PE X e te)(hs:swapsWith e none pos.line X.env=pure false:=by rfl):PS X (.Expr e pos) (Sa te):=by
 intro pins s σ H D I h
 exact wpAny_Expr_any (fJ (he pins s σ H _ I h) fun v s1 ⟨x,H1,I1,r1,q1⟩=>⟨σ,H1,I1,q1⟩) I.quiet hs
def V5(te:TE):TS:=fun D σ H=>te σ H D.rt
theorem Op(he:PE X e te):PS X (.Return (some e) pos) (V5 te):=by
 intro pins s σ H D I h
 exact wpAny_Return_some (fJ (he pins s σ H _ I h) fun v s1 ⟨x,H1,I1,r1,q1⟩=>⟨x,σ,H1,I1,r1,q1⟩)
def V6(c:TT)(t u:TS):TS:=fun D σ H=>c σ H fun b H1=>if b=true then t D σ H1 else u D σ H1
theorem Sb{a b:List Stmt}{tc:TT}(hc:PT X c tc)(ha:Db X a t)(hb:Db X b u):PS X (.If c a b pos) (V6 tc t u):=by
 intro pins s σ H D I h
 refine wpAny_If (fJ (hc pins s σ H _ I h) fun d s1 ⟨H1,I1,q1⟩=>?_)
 cases d with
 |true=>exact ha pins s1 σ H1 D I1 q1
 |false=>exact hb pins s1 σ H1 D I1 q1
end
abbrev TG:=V->St->Hp->(St->Hp->Prop)->Prop
abbrev Jz:=List V->St->Hp->(St->Hp->Prop)->Prop
def PG(X:Cx)(Rt:Expr)(t:TG):Prop:=
 ∀(pins:List (Addr×Obj)) (s:Shared) (σ:St) (H:Hp) (v:V) (u:Value) (Q:St->Hp->Prop),bz X pins σ H s->bL v u->t v σ H Q ->
  wpAny (model X.prog X.w) X.A (assign Rt X.env u) (fun _ s'=>∃σ' H',bz X pins σ' H' s'/\Q σ' H') X.xe s
def LM(X:Cx)(ts:List Expr)(t:Jz):Prop:=
 ∀(pins:List (Addr×Obj)) (s:Shared) (σ:St) (H:Hp) (vs:List V) (us:List Value) (Q:St->Hp->Prop),bz X pins σ H s->cv vs us->t vs σ H Q ->
  wpAny (model X.prog X.w) X.A (assignInOrder ((assignEach ts X.env).map (·.2)) us) (fun _ s'=>∃σ' H',bz X pins σ' H' s'/\Q σ' H') X.xe s
abbrev JA:=V->V->V->Hp->(Hp->Prop)->Prop
def zS(X:Cx)(t:JA):Prop:=
 ∀(pins:List (Addr×Obj)) (s:Shared) (σ:St) (H:Hp) (o i v:V) (ov iv u:Value) (Q:Hp->Prop),bz X pins σ H s->bL o ov->bL i iv->bL v u->t o i v H Q ->
  wpAny (model X.prog X.w) X.A (setItem ov iv u) (fun _ s'=>∃H',bz X pins σ H' s'/\Q H') X.xe s
section
variable{X:Cx}
def LN(i:Nat):TG:=fun v σ H Q=>Q (σ.set i (some v)) H
theorem JB(hN:X.N.Nodup)(hi:X.N[i]?=some x)(hx:Js X.env.scope x)(hf:X.fn x=true\/X.env.scope.names.lookup x=some .local:=by first|exact .inl rfl|exact .inr rfl|assumption):PG X (.Name x pos) (LN i):=by
 intro pins s σ H v u Q I r h
 exact wpAny_assign_Name (pF I hN hi hx r (fun s' I'=>⟨_,H,I',h⟩) hf)
def V7:Jz:=fun vs σ H Q=>vs=[]/\Q σ H
def Sc(t:TG)(u:Jz):Jz:=fun vs σ H Q=>∃v r,vs=v::r/\t v σ H fun σ' H'=>u r σ' H' Q
theorem JC:LM X [] V7:=by
 intro pins s σ H vs us Q I r h
 obtain⟨e,h⟩:=h
 subst e
 cases r
 exact assignInOrder_nil ⟨σ,H,I,h⟩
theorem EA{t:TG}{u:Jz}(h1:PG X e t)(h2:LM X es u)
  (hs:(assignEach (e::es) X.env).map (·.2)=assign e X.env::(assignEach es X.env).map (·.2):=by rfl):LM X (e::es) (Sc t u):=by
 intro pins s σ H vs us Q I r h
 obtain⟨v,vr,e1,h⟩:=h
 subst e1
 cases r with
 |cons r rr=>
  rw[hs]
  refine kq (fJ (h1 pins s σ H _ _ _ I r h) fun _ s1 ⟨σ1,H1,I1,q1⟩=>?_)
  exact h2 pins s1 σ1 H1 _ _ Q I1 rr q1
def V8(K:Frag)(n:Nat)(t:Jz):TG:=fun v σ H Q=>∃a xs,v=.ref a/\eF K H a xs/\xs.length=n/\t xs σ H Q
theorem Oq{k:Nat}{t:Jz}(hc:X.calm=true)(h:LM X es t)
  (hn:(assignEach es X.env).length=n:=by rfl) (xo:(assignEach es X.env).findIdx? (·.1)=none:=by rfl):PG X (.Tuple es k pos) (V8 X.K n t):=by
 intro pins s σ H v u Q I r hw
 obtain⟨a,xs,e1,hq,hl,hw⟩:=hw
 subst e1
 cases r
 obtain⟨bn,rv,ht,hz⟩:=I.tuple hq
 refine assign_Tuple_tuple (I.ok.hd hc) ht (by simp[hn,<- hl,rv.length]) xo fun h' hx=>?_
 have I1:bz X pins σ H { s with heap:=h' }:=I.kept (t':=s.toks) fun b o e=>hx b o (bf (aE e)) e
 exact h pins _ σ H xs _ Q I1 (by simpa using rv) hw
def V9(to ti:TE)(t:JA):TG:=fun v σ H Q=>to σ H fun o H1=>ti σ H1 fun i H2=>t o i v H2 fun H3=>Q σ H3
theorem Os{i:Expr}{to ti:TE}{t:JA}(ho:PE X o to)(hi:PE X i ti)(hs:zS X t)
  (ha:∀v,assign (.Subscript o i pos) X.env v=(do
   let ov <- holding [v] (eval o X.env)
   let iv <- holding [v,ov] (eval i X.env)
   standAt pos
   holding [v,ov,iv] (setItem ov iv v)
   release [v,ov,iv] []):=by intro _;rfl):PG X (.Subscript o i pos) (V9 to ti t):=by
 intro pins s σ H v u Q I r h
 rw[ha]
 refine ae (cE (fJ (ho pins s σ H _ I h) fun ov s1 ⟨x,H1,I1,r1,q1⟩=>?_))
 refine ae (cE (fJ (hi pins s1 σ H1 _ I1 q1) fun iv s2 ⟨y,H2,I2,r2,q2⟩=>?_))
 refine ae (jm (ae (cE (fJ (hs pins s2 σ H2 x y v ov iv u _ I2 r1 r2 r q2) fun _ s3 ⟨H3,I3,q3⟩=>?_))))
 exact wpAny_release ⟨σ,H3,I3,q3⟩
def EB(te:TE)(g:TG):TS:=fun D σ H=>te σ H fun x H1=>g x σ H1 D.nx
theorem EC{te:TE}{g:TG}(he:PE X e te)(hg:PG X tg g)(hs:swapsWithSole [tg] e pos.line X.env=pure false:=by rfl)(hw:swappedStores [tg] e X.env=pure none:=by rfl)
  (h1:(assignEach [tg] X.env).map (·.2)=[assign tg X.env]:=by rfl):PS X (.Assign [tg] e pos) (EB te g):=by
 intro pins s σ H D I h
 refine wpAny_Assign_stores (fJ (he pins s σ H _ I h) fun v s1 ⟨x,H1,I1,r1,q1⟩=>?_) hs hw
 rw[h1]
 exact fJ (hg pins s1 σ H1 x v _ I1 r1 q1) fun _ s2 q=>q
theorem Ot{te:TE}(hN:X.N.Nodup)(hi:X.N[i]?=some x)(hx:Js X.env.scope x)(he:PE X e te)(hs:swapsWith e (some (.Name x jB)) pos.line X.env=pure false:=by rfl)(hf:X.fn x=true\/X.env.scope.names.lookup x=some .local:=by first|exact .inl rfl|exact .inr rfl|assumption) :
  PS X (.Assign [.Name x jB] e pos) (EB te (LN i)):=by
 intro pins s σ H D I h
 refine wpAny_Assign_Name (fJ (he pins s σ H _ I h) fun v s1 ⟨y,H1,I1,r1,q1⟩=>?_) hs
 exact pF I1 hN hi hx r1 (fun s2 I2=>⟨_,H1,I2,q1⟩) hf
def V_(i j:Nat)(ta:TA):TS:=fun D σ H=>ta σ H fun vs H1=>∃v w,vs=[v,w]/\D.nx ((σ.set i (some v)).set j (some w)) H1
theorem Ou{y:Str}{a b:Expr}{ta:TA}{px py pt:Pos}{kt k2 pt2}(hc:X.calm=true)(hN:X.N.Nodup)(hi:X.N[i]?=some x)(hj:X.N[j]?=some y)(WU:i≠j)
  (hx:X.env.scope.names.lookup x=some .local) (hy:X.env.scope.names.lookup y=some .local) (ha:PA X [a,b] ta)
  (hw:swappedStores [.Tuple [.Name x px,.Name y py] kt pt] (.Tuple [a,b] k2 pt2) X.env=pure (some [x,y]))
  (hs:swapsWithSole [.Tuple [.Name x px,.Name y py] kt pt] (.Tuple [a,b] k2 pt2) pos.line X.env=pure false:=by rfl) :
  PS X (.Assign [.Tuple [.Name x px,.Name y py] kt pt] (.Tuple [a,b] k2 pt2) pos) (V_ i j ta):=by
 intro pins s σ H D I h
 rw[exec_Assign_arm]
 refine ae (jm ?_)
 rw[hs]
 refine ae (ao ?_)
 rw[az (by decide)]
 refine ae (Tuple_ (fJ (ha _ pins s σ H _ I h) fun us s1 ⟨vs,H1,I1,r1,q1⟩=>?_))
 obtain⟨v,w,e1,q1⟩:=q1
 subst e1
 obtain⟨u1,u2,rfl,rv,jp⟩:∃u1 u2,us=[u1,u2]/\bL v u1/\bL w u2:=by
  cases r1 with
  |cons p q=>
   cases q with
   |cons p' q'=>
    cases q'
    exact⟨_,_,rfl,p,p'⟩
 refine dB ?_ (by show 2<=sizeLine;decide)
 have I2:bz X pins σ H1 { s1 with heap:=s1.heap.push { cls:=.type "tuple",data:=.seq [u1,u2].toArray } }:=I1.kept (t':=s1.toks) fun b o e=>am _ e
 rw[hw]
 refine ae (ao ?_)
 show wpAny (model X.prog X.w) X.A (do rule "assign.swapped-stores";let items <- unpackItems (.ref s1.heap.objs.size) 2 none;assignInOrder [fun v=>bindName X.env y v,fun v=>bindName X.env x v] items.reverse;pure Flow.next) _ _ _
 refine ae (fH (ae (unpackItems_tuple (items:=#[u1,u2]) (I.ok.hd hc) (qR s1.heap _) fun h' hx'=>?_)))
 have I3:=I2.kept (h':=h') (t':=s1.toks) fun b o e=>hx' b o (bf (aE e)) e
 show wpAny _ _ (assignInOrder [fun v=>bindName X.env y v,fun v=>bindName X.env x v] [u2,u1] >>= fun _=>pure Flow.next) _ _ _
 refine ae (kq (wpAny_bindName (pF I3 hN hj (.inl hy) jp (fun s2 I4=>?_) (.inr hy))))
 refine kq (wpAny_bindName (pF I4 hN hi (.inl hx) rv (fun s3 I5=>assignInOrder_nil (ao ?_)) (.inr hx)))
 rw[List.set_comm _ _ (Ne.symm WU)]at I5
 exact⟨_,H1,I5,q1⟩
end
section
variable{X:Cx}
def ED(c:TT)(tb:TS):TS:=fun D σ H=>∃W:Nat->St->Hp->Prop,(∃m,W m σ H)/\∀m σ H,W m σ H ->
 c σ H fun b H1=>if b=true then ∃N:St->Hp->Prop,(∀σ' H',N σ' H'->∃m',m'<m/\W m' σ' H')/\tb { D with nx:=N,ct:=N,bk:=D.nx } σ H1 else D.nx σ H1
theorem EE{body:List Stmt}{tc:TT}{tb:TS}(hp:PassesOwn (model X.prog X.w) X.A X.env X.xe)(hc:PT X c tc)(hb:Db X body tb):PS X (.While c body [] pos) (ED tc tb):=by
 intro pins s σ H D I h
 obtain⟨W,⟨m0,w0⟩,turn⟩:=h
 refine wpAny_While (codeAny_whileLoop (fun n s'=>∃σ' H',bz X pins σ' H' s'/\W n σ' H') ?_ m0 ⟨σ,H,I,w0⟩)
 rintro n s1 ⟨σ1,H1,I1,w1⟩
 refine fy hp (fJ (hc pins s1 σ1 H1 _ I1 (turn n σ1 H1 w1)) fun b s2 ⟨H2,I2,q2⟩=>?_)
 cases b with
 |true=>
  obtain⟨N,hN,q2⟩:=q2
  rw[ar rfl]
  refine fy hp (fJ (hb pins s2 σ1 H2 _ I2 q2) fun f s3 q3=>?_)
  cases f with
  |next=>
   obtain⟨σ3,H3,I3,n3⟩:=q3
   obtain⟨m',hm,w3⟩:=hN σ3 H3 n3
   exact⟨m',hm,σ3,H3,I3,w3⟩
  |cont=>
   obtain⟨σ3,H3,I3,n3⟩:=q3
   obtain⟨m',hm,w3⟩:=hN σ3 H3 n3
   exact⟨m',hm,σ3,H3,I3,w3⟩
  |brk=>exact q3
  |ret v=>exact q3
 |false=>
  rw[az bK]
  exact jC ⟨σ1,H2,I2,q2⟩
end
structure It where
 go:Nat->Hp->Prop
 yld:Nat->Hp->V->Hp->Prop
 stop:Nat->Hp->Prop
def ny(X:Cx)(pins:List (Addr×Obj))(H:Hp)(b:Addr):Prop:=
 H b=none/\b≠X.env.locals/\b∉X.fs/\(b∈X.ex\/X.s₀.heap.objs.size<=b)/\(∀x c,X.env.cells.lookup x=some c->c≠b)/\∀p∈X.pn++pins,p.1≠b
theorem bz.fpOk{X:Cx}{σ:St}{H H':Hp}(I:bz X pins σ H s)(hb:s.heap.objs.size<=b)(hn:H' b=none):ny X pins H' b:=by
 refine⟨hn,jX (aT I.lt hb),I.nofs hb,.inr (aR I.sz hb),fun x c e z=>?_,fun p hp z=>?_⟩
 ·obtain⟨v,q⟩:=I.cell x c e
  exact absurd (aT q.lt (by rw[z];exact hb)) (bH _)
 ·exact absurd (aT (aE (I.pin p hp).1) (by rw[z];exact hb)) (bH _)
structure xJ(P:Program)(w:World)(K:Frag)(tg:Expr)(J:It)(fp:List Addr)(it:Addr)(tn:Nat->Heap->Prop):Prop where
 mem:it∈fp
 obj:∀i h,tn i h->∀b∈fp,∃o,h.get? b=some o/\∀v,o.data≠.cell v
 keep:∀i h h',tn i h->(∀b∈fp,∀o,h.get? b=some o->h'.get? b=some o)->tn i h'
 item:∀(X:Cx),X.prog=P->X.w=w->X.K=K->X.calm=true->∀(i:Nat) (pins:List (Addr×Obj)) (s:Shared) (σ:St) (H:Hp) (E:Value->Shared->Prop),bz X pins σ H s->(∀b∈fp,ny X pins H b)->tn i s.heap->J.go i H ->
  wpAny (model P w) X.A (pyNext (.ref it)) (fun r s1=>∃u,r=some u /\
   wpAny (model P w) X.A (letOwnedTupleGo tg (.ref it) u) (fun _ s2=>∃x H',bz X pins σ H' s2/\bL x u/\J.yld i H x H'/\tn (i+1) s2.heap/\∀b∈fp,H' b=none) E s1) E s
 done:∀(X:Cx),X.prog=P->X.w=w->X.K=K->X.calm=true->∀(i:Nat) (pins:List (Addr×Obj)) (s:Shared) (σ:St) (H:Hp) (E:Value->Shared->Prop),bz X pins σ H s->(∀b∈fp,ny X pins H b)->tn i s.heap->J.stop i H ->
  wpAny (model P w) X.A (pyNext (.ref it)) (fun r s1=>r=none/\bz X pins σ H s1) E s
 self:∀(A:Around) (i:Nat) (s:Shared) (Q:Value->Shared->Prop) (E:Value->Shared->Prop),tn i s.heap->Q (.ref it) s->wpAny (model P w) A (pyIter (.ref it)) Q E s
abbrev TI:=St->Hp->(It->Hp->Prop)->Prop
def V'(X:Cx)(pins:List (Addr×Obj))(σ:St)(tg:Expr)(R:It->Hp->Prop)(W0:Value)(s2:Shared):Prop:=
 ∃(it:Addr) (fp:List Addr) (tn:Nat->Heap->Prop) (J:It) (H':Hp),W0=.ref it/\bz X pins σ H' s2/\xJ X.prog X.w X.K tg J fp it tn/\tn 0 s2.heap/\(∀b∈fp,ny X pins H' b)/\R J H'
def PI(X:Cx)(tg iter:Expr)(wi:TI):Prop:=
 ∀(pins:List (Addr×Obj)) (s:Shared) (σ:St) (H:Hp) (R:It->Hp->Prop),bz X pins σ H s->wi σ H R ->
  wpAny (model X.prog X.w) X.A (eval iter X.env) (fun v s1=>wpAny (model X.prog X.w) X.A (pyIter v) (V' X pins σ tg R) X.xe s1) X.xe s
theorem Bv      {E:Value -> Shared -> Prop} {s:Shared}    {o:Obj} {n:String} {vs:Array Value} {Q:Unit -> Shared -> Prop} (ho : s.heap.get? it = some o) (hc : o.cls = .type n) (hd : o.data = .fields vs)
    (hn : ["enumerate", "zip", "dict_itemiterator", "dict_reverseitemiterator", "odict_iterator", "itertools.zip_longest", "itertools.pairwise"].contains n = false) (hQ : Q () s) : wpAny M A (letOwnedTupleGo tg (.ref it) u) Q E s := by
  unfold letOwnedTupleGo
  cases tg <;> first
    | exact ao         hQ
    | (cases u <;> first
        | exact ao         hQ
        | (refine ae         (wpAny_load ho ?_)
           rw [hc, hd]
           show wpAny M A (if (["enumerate", "zip", "dict_itemiterator", "dict_reverseitemiterator", "odict_iterator", "itertools.zip_longest", "itertools.pairwise"].contains n && vs[0]? == some (rawInt _)) = true then _ else _) Q E s
           rw [az     (by intro h; rw [hn, Bool.false_and] at h; cases h)]
           exact ao         hQ))
def W3(K:Frag)(a:Addr):It:=
 ⟨fun i H=>∃xs x,pD K H a xs/\xs[i]?=some x,fun i H x H'=>H'=H/\∀xs,pD K H a xs->xs[i]?=some x,fun i H=>∃xs,pD K H a xs/\xs.length<=i⟩
def W4(K:Frag)(a:Addr):It:=
 ⟨fun i H=>∃xs x,eF K H a xs/\xs[i]?=some x,fun i H x H'=>H'=H/\∀xs,eF K H a xs->xs[i]?=some x,fun i H=>∃xs,eF K H a xs/\xs.length<=i⟩
def Sd(lo:Int)(n:Nat):It:=⟨fun i _=>i<n,fun i H x H'=>H'=H/\x=.int (lo+i),fun i _=>n<=i⟩
theorem Dd{w:World}(a it:Addr):xJ P w K tg (W3 K a) [it] it (fun i h=>h.IsListIter it a i) where
 mem:=by simp
 obj:=fun i h st b hb=>by
  have e:b=it:=by simpa using hb
  subst e
  obtain⟨o,e,c,d⟩:=st
  exact⟨o,e,fun v z=>by rw[d]at z;cases z⟩
 keep:=fun i h h' st k=>st.at fun o e=>k it (by simp) o e
 item:=by
  intro X hP hw hK hc i pins s σ H E I hf st hg
  subst hP hw hK
  obtain⟨xs,x,hq,hx⟩:=hg
  obtain⟨bn,rv,p,hz⟩:=I.list hq
  obtain⟨u,hu,ru⟩:=rv.get hx
  obtain⟨f0,f1,f2,f3,f4,f5⟩:=hf it (by simp)
  refine wpAny_pyNext_list_item st p.isList (x:=u) (by simpa using hu) fun h' bG sb=>?_
  have I1:bz X pins σ H { s with heap:=h' }:=I.turned (t':=s.toks) (fun b o hb e=>(sb.2 b hb).trans e) f0 f1 f3 f4 f5
  obtain⟨o,e,c,d⟩:=id bG
  exact⟨u,rfl,Bv (s:={ s with heap:=h' }) e c d (by decide) ⟨x,H,I1,ru,⟨rfl,fun ys hy=>by rw[I.list_inj hy hq];exact hx⟩,bG,fun b hb=>(hf b hb).1⟩⟩
 done:=by
  intro X hP hw hK hc i pins s σ H E I hf st hg
  subst hP hw hK
  obtain⟨xs,hq,hx⟩:=hg
  obtain⟨bn,rv,p,hz⟩:=I.list hq
  obtain⟨f0,f1,f2,f3,f4,f5⟩:=hf it (by simp)
  have hl:=rv.length
  exact wpAny_pyNext_list_end (I.ok.hd hc) st p.isList (by simp;omega) fun h' eb=>⟨rfl,I.turned (t':=s.toks) (fun b o hb e=>eb b o hb e) f0 f1 f3 f4 f5⟩
 self:=fun _ _ _ _ _ st h=>wpAny_pyIter_listiter st h
theorem zT{w:World}(a it:Addr):xJ P w K tg (W4 K a) [it] it (fun i h=>h.IsTupleIter it a i) where
 mem:=by simp
 obj:=fun i h st b hb=>by
  have e:b=it:=by simpa using hb
  subst e
  obtain⟨o,e,c,d⟩:=st
  exact⟨o,e,fun v z=>by rw[d]at z;cases z⟩
 keep:=fun i h h' st k=>st.at fun o e=>k it (by simp) o e
 item:=by
  intro X hP hw hK hc i pins s σ H E I hf st hg
  subst hP hw hK
  obtain⟨xs,x,hq,hx⟩:=hg
  obtain⟨bn,rv,p,hz⟩:=I.tuple hq
  obtain⟨u,hu,ru⟩:=rv.get hx
  obtain⟨f0,f1,f2,f3,f4,f5⟩:=hf it (by simp)
  refine wpAny_pyNext_tuple_item st (show s.heap.IsTuple a bn.toArray from p) (x:=u) (by simpa using hu) fun h' bG sb=>?_
  have I1:bz X pins σ H { s with heap:=h' }:=I.turned (t':=s.toks) (fun b o hb e=>(sb.2 b hb).trans e) f0 f1 f3 f4 f5
  obtain⟨o,e,c,d⟩:=id bG
  exact⟨u,rfl,Bv (s:={ s with heap:=h' }) e c d (by decide) ⟨x,H,I1,ru,⟨rfl,fun ys hy=>by rw[I.tuple_inj hy hq];exact hx⟩,bG,fun b hb=>(hf b hb).1⟩⟩
 done:=by
  intro X hP hw hK hc i pins s σ H E I hf st hg
  subst hP hw hK
  obtain⟨xs,hq,hx⟩:=hg
  obtain⟨bn,rv,p,hz⟩:=I.tuple hq
  obtain⟨f0,f1,f2,f3,f4,f5⟩:=hf it (by simp)
  have hl:=rv.length
  exact wpAny_pyNext_tuple_end (I.ok.hd hc) st (show s.heap.IsTuple a bn.toArray from p) (by simp;omega) fun h' eb=>⟨rfl,I.turned (t':=s.toks) (fun b o hb e=>eb b o hb e) f0 f1 f3 f4 f5⟩
 self:=fun _ _ _ _ _ st h=>wpAny_pyIter_tupleiter st h
theorem zU{w:World}(it:Addr)(lo:Int)(n:Nat):xJ P w K tg (Sd lo n) [it] it (fun i h=>IsRangeIter h it (lo+(i:Nat)*1) ((n:Int)-(i:Nat)) 1) where
 mem:=by simp
 obj:=fun i h st b hb=>by
  have e:b=it:=by simpa using hb
  subst e
  exact⟨_,st,fun v z=>by
   have z':Data.fields _=Data.cell v:=z
   cases z'⟩
 keep:=fun i h h' st k=>k it (by simp) _ st
 item:=by
  intro X hP hw hK hc i pins s σ H E I hf st hg
  subst hP hw hK
  obtain⟨f0,f1,f2,f3,f4,f5⟩:=hf it (by simp)
  have W:=Walks.range (prog:=X.prog) (w:=X.w) (I.ok.hd hc) it lo 1 n
  refine W.item i s _ _ hg st fun v h' tk hv bG kk=>?_
  obtain⟨t,rfl⟩:=hv
  have I1:bz X pins σ H { s with heap:=h',toks:=tk }:=I.turned (fun b o hb e=>kk b o (by simpa using hb) e) f0 f1 f3 f4 f5
  refine⟨_,rfl,Bv (s:={ s with heap:=h',toks:=tk }) (n:="range_iterator") bG rfl rfl (by decide) ⟨.int (lo+i),H,I1,⟨t,?_⟩,⟨rfl,rfl⟩,bG,fun b hb=>(hf b hb).1⟩⟩
  rw[Int.mul_one]
 done:=by
  intro X hP hw hK hc i pins s σ H E I hf st hg
  subst hP hw hK
  obtain⟨f0,f1,f2,f3,f4,f5⟩:=hf it (by simp)
  exact wpAny_pyNext_range_end (I.ok.hd hc) st (by have:n<=i:=hg;omega) fun h' eb=>⟨rfl,I.turned (t':=s.toks) (fun b o hb e=>eb b o hb e) f0 f1 f3 f4 f5⟩
 self:=fun _ _ _ _ _ st h=>mJ st h
section
variable{X:Cx}
def Se(K:Frag)(tl:TE):TI:=fun σ H R=>tl σ H fun x H1=>∃a,x=.ref a/\(∃xs,pD K H1 a xs)/\R (W3 K a) H1
def Wa(K:Frag)(tl:TE):TI:=fun σ H R=>tl σ H fun x H1=>∃a,x=.ref a/\(∃xs,eF K H1 a xs)/\R (W4 K a) H1
theorem JD{l:Expr}{tl:TE}(hl:PE X l tl):PI X tg l (Se X.K tl):=by
 intro pins s σ H R I h
 refine fJ (hl pins s σ H _ I h) fun v s1 ⟨x,H1,I1,r1,q1⟩=>?_
 obtain⟨a,e,⟨xs,hq⟩,q⟩:=q1
 subst e
 cases r1
 obtain⟨bn,rv,p,hz⟩:=I1.list hq
 refine kW p.isList ?_
 refine⟨s1.heap.objs.size,[s1.heap.objs.size],_,_,H1,rfl,I1.kept (t':=s1.toks) fun b o e=>am _ e,Dd a _,⟨_,aC _ rfl,rfl,rfl⟩,fun b hb=>?_,q⟩
 have e:b=s1.heap.objs.size:=by simpa using hb
 subst e
 exact I1.fpOk (aw _) (I1.hok.fresh (aw _))
theorem Ov{l:Expr}{tl:TE}(hl:PE X l tl):PI X tg l (Wa X.K tl):=by
 intro pins s σ H R I h
 refine fJ (hl pins s σ H _ I h) fun v s1 ⟨x,H1,I1,r1,q1⟩=>?_
 obtain⟨a,e,⟨xs,hq⟩,q⟩:=q1
 subst e
 cases r1
 obtain⟨bn,rv,p,hz⟩:=I1.tuple hq
 refine gf (show s1.heap.IsTuple a bn.toArray from p) ?_
 refine⟨s1.heap.objs.size,[s1.heap.objs.size],_,_,H1,rfl,I1.kept (t':=s1.toks) fun b o e=>am _ e,zT a _,⟨_,aC _ rfl,rfl,rfl⟩,fun b hb=>?_,q⟩
 have e:b=s1.heap.objs.size:=by simpa using hb
 subst e
 exact I1.fpOk (aw _) (I1.hok.fresh (aw _))
theorem xK{σ:St}{H:Hp}{R:It->Hp->Prop}{lo hi:Int}{t u v:Tok}{tk:Nat}(I:bz X pins σ H s)(h1:-(2^62)<=lo)(h2:lo<2^62)(h3:-(2^62)<=hi)(h4:hi<2^62)
  (q:R (Sd lo (hi-lo).toNat) H):wpAny (model X.prog X.w) X.A (pyIter (.ref s.heap.objs.size)) (V' X pins σ tg R) E { s with heap:=s.heap.push { cls:=.type "range",data:=.fields #[.int lo t,.int hi u,.int 1 v] },toks:=tk }:=by
 refine wpAny_pyIter_range (IsRange.new ..) (small_one h1 h2 h3 h4) ?_
 have I1:bz X pins σ H { s with heap:=s.heap.push { cls:=.type "range",data:=.fields #[.int lo t,.int hi u,.int 1 v] },toks:=tk }:=I.kept fun b o e=>am _ e
 refine⟨(s.heap.push { cls:=.type "range",data:=.fields #[.int lo t,.int hi u,.int 1 v] }).objs.size,[(s.heap.push { cls:=.type "range",data:=.fields #[.int lo t,.int hi u,.int 1 v] }).objs.size],_,_,H,rfl,
  I1.kept (t':=tk) fun b o e=>am _ e,zU _ lo (hi-lo).toNat,?_,fun b hb=>?_,q⟩
 ·have e1:lo+((0:Nat):Int)*1=lo:=by simp
  have e2:(((hi-lo).toNat:Nat):Int)-((0:Nat):Int)=Builtin.Range.rangeSize lo hi 1:=by rw[rangeSize_one];split<;>omega
  show IsRangeIter _ _ (lo+((0:Nat):Int)*1) ((((hi-lo).toNat:Nat):Int)-((0:Nat):Int)) 1
  rw[e1,e2]
  exact aC _ rfl
 ·have e:b=(s.heap.push { cls:=.type "range",data:=.fields #[.int lo t,.int hi u,.int 1 v] }).objs.size:=by simpa using hb
  subst e
  exact I1.fpOk (aw _) (I1.hok.fresh (aw _))
def Sf(ta:TA):TI:=fun σ H R=>ta σ H fun vs H1=>∃j:Int,vs=[.int j]/\-(2^62)<=j/\j<2^62/\R (Sd 0 j.toNat) H1
def Sg(ta:TA):TI:=fun σ H R=>ta σ H fun vs H1=>∃i j:Int,vs=[.int i,.int j]/\(-(2^62)<=i/\i<2^62/\-(2^62)<=j/\j<2^62)/\R (Sd i (j-i).toNat) H1
theorem De{a:Expr}{ta:TA}{p pos:Pos}(hg:Gl X "range")(hm:X.mg "range"=none)(ha:PA X [a] ta)(hs:starEach [a] X.env=[(false,eval a X.env)]:=by rfl):PI X tg (.Call (.Name "range" p) [a] [] pos) (Sf ta):=by
 intro pins s σ H R I h
 refine Call_ (lc I hg hm boot_range (b_ (fJ (ha pos pins s σ H _ I h) fun us s1 ⟨vs,H1,I1,r1,q1⟩=>?_) hs rfl))
 obtain⟨j,e,q1,q2,q⟩:=q1
 subst e
 cases r1 with
 |cons r rr=>
  cases rr
  obtain⟨t,rfl⟩:=r
  exact call_range_1 (xK I1 (by omega) (by omega) q1 q2 (by simpa using q))
theorem Df{a b:Expr}{ta:TA}{p pos:Pos}(hg:Gl X "range")(hm:X.mg "range"=none)(ha:PA X [a,b] ta)(hs:starEach [a,b] X.env=[(false,eval a X.env),(false,eval b X.env)]:=by rfl)(xz:starEach [b] X.env=[(false,eval b X.env)]:=by rfl) :
  PI X tg (.Call (.Name "range" p) [a,b] [] pos) (Sg ta):=by
 intro pins s σ H R I h
 refine Call_ (lc I hg hm boot_range (b_ (fJ (ha pos pins s σ H _ I h) fun us s1 ⟨vs,H1,I1,r1,q1⟩=>?_) (by rw[hs,xz]) (by rw[xz];rfl)))
 obtain⟨i,j,e,⟨q1,q2,q3,q4⟩,q⟩:=q1
 subst e
 cases r1 with
 |cons r rr=>
  cases rr with
  |cons r' rr=>
   cases rr
   obtain⟨t,rfl⟩:=r
   obtain⟨t',rfl⟩:=r'
   exact call_range_2 (xK I1 q1 q2 q3 q4 q)
def Wb(wi:TI)(g:TG)(tb:TS):TS:=fun D σ H=>wi σ H fun J H1=>∃W:Nat->Nat->St->Hp->Prop,(∃m,W 0 m σ H1)/\∀i m σ H,W i m σ H ->
 (J.stop i H/\D.nx σ H)\/(J.go i H/\∃N:St->Hp->Prop,(∀σ' H',N σ' H'->∃m',m'<m/\W (i+1) m' σ' H')/\∀x H',J.yld i H x H'->g x σ H' fun σ2 H2=>tb { D with nx:=N,ct:=N,bk:=D.nx } σ2 H2)
def vX(fp:List Addr)(h:Heap):List (Addr×Obj):=fp.filterMap fun b=>(h.get? b).map fun o=>(b,o)
theorem i9{o:Obj}(hb:b∈fp)(e:h.get? b=some o):(b,o)∈vX fp h:=List.mem_filterMap.mpr ⟨b,hb,by rw[e];rfl⟩
theorem Dg{p:Addr×Obj}(hp:p∈vX fp h):p.1∈fp/\h.get? p.1=some p.2:=by
 obtain⟨b,hb,e⟩:=List.mem_filterMap.mp hp
 cases q:h.get? b with
 |none=>rw[q]at e;cases e
 |some o=>
  rw[q]at e
  have e':(b,o)=p:=aY e
  subst e'
  exact⟨hb,q⟩
theorem bz.pinned{σ:St}{H:Hp}(I:bz X pins σ H s)(hf:∀b∈fp,ny X pins H b)(ho:∀b∈fp,∃o,s.heap.get? b=some o/\∀v,o.data≠.cell v):bz X (pins++vX fp s.heap) σ H s:=
 I.pins_of fun p hp=>(aI.mp hp).elim (fun z=>I.pin p (aW _ z)) fun z=>by
  obtain⟨hb,e⟩:=Dg z
  obtain⟨f0,f1,f2,_⟩:=hf p.1 hb
  obtain⟨o,e',d⟩:=ho p.1 hb
  rw[e]at e';cases e'
  exact⟨e,f0,f1,f2,d⟩
theorem bz.unpinned{pl:List (Addr×Obj)}{σ:St}{H:Hp}(I:bz X (pins++pl) σ H s):bz X pins σ H s:=I.pins_of fun p hp=>I.pin p (aW _ (fE _ hp))
theorem Ow{body:List Stmt}{wi:TI}{g:TG}{tb:TS}{pos:Pos}(hp:PassesOwn (model X.prog X.w) X.A X.env X.xe)(hc:X.calm=true)(hi:PI X tg iter wi)(hg:PG X tg g)(hb:Db X body tb)
  (hs:∀x,foldedSetIterable iter X.env x=pure x:=by intro _;rfl):PS X (.For tg iter body [] pos) (Wb wi g tb):=by
 intro pins s σ H D I h
 refine wpAny_For (fJ (hi pins s σ H _ I h) fun v s1 h1=>fJ h1 fun W0 s2 h2=>?_) hs
 obtain⟨it,fp,tn,J,H2,e,I2,T,cV,f2,W,⟨m0,w0⟩,turn⟩:=h2
 subst e
 have stat:∀{H':Hp},(∀b∈fp,H' b=none)->∀b∈fp,ny X pins H' b:=fun hn b hb=>⟨hn b hb,(f2 b hb).2⟩
 refine codeAny_forLoop_any (fun n s'=>∃i σ' H',bz X pins σ' H' s'/\tn i s'.heap/\(∀b∈fp,H' b=none)/\W i n σ' H') ?_ m0 ⟨0,σ,H2,I2,cV,fun b hb=>(f2 b hb).1,w0⟩
 rintro n s3 ⟨i,σ3,H3,I3,ju,fr3,w3⟩
 rcases turn i n σ3 H3 w3 with⟨stop,qn⟩|⟨go,N,hN,step⟩
 ·refine fy hp (fJ (T.done X rfl rfl rfl hc i pins s3 σ3 H3 X.xe I3 (stat fr3) ju stop) fun r s4 ⟨hr,I4⟩=>?_)
  subst hr
  exact jC ⟨σ3,H3,I4,qn⟩
 ·refine fy hp (fJ (T.item X rfl rfl rfl hc i pins s3 σ3 H3 X.xe I3 (stat fr3) ju go) fun r s4 ⟨u,hr,h4⟩=>?_)
  subst hr
  refine fy hp (fJ h4 fun _ s5 ⟨x,H5,I5,r5,y5,Jh,fr5⟩=>?_)
  have I5':=I5.pinned (stat fr5) (T.obj _ _ Jh)
  refine fy hp (fJ (hg _ s5 σ3 H5 x u _ I5' r5 (step x H5 y5)) fun _ s6 ⟨σ6,H6,I6,q6⟩=>?_)
  refine fy hp (fJ (hb _ s6 σ6 H6 _ I6 q6) fun f s7 q7=>?_)
  have again:∀{σ7:St} {H7:Hp},bz X (pins++vX fp s5.heap) σ7 H7 s7->N σ7 H7->∃m,m<n/\∃i σ' H',bz X pins σ' H' s7/\tn i s7.heap/\(∀b∈fp,H' b=none)/\W i m σ' H':=fun{σ7 H7} I7 n7=>by
   obtain⟨m',hm,w7⟩:=hN σ7 H7 n7
   refine⟨m',hm,i+1,σ7,H7,I7.unpinned,T.keep _ _ _ Jh fun b hb o e=>(I7.pin (b,o) (aW _ (aW _ (i9 hb e)))).1,fun b hb=>?_,w7⟩
   obtain⟨o,e,d⟩:=T.obj _ _ Jh b hb
   exact(I7.pin (b,o) (aW _ (aW _ (i9 hb e)))).2.1
  cases f with
  |next=>obtain⟨σ7,H7,I7,n7⟩:=q7;exact again I7 n7
  |cont=>obtain⟨σ7,H7,I7,n7⟩:=q7;exact again I7 n7
  |brk=>obtain⟨σ7,H7,I7,q7⟩:=q7;exact⟨σ7,H7,I7.unpinned,q7⟩
  |ret v=>obtain⟨x7,σ7,H7,I7,r7,q7⟩:=q7;exact⟨x7,σ7,H7,I7.unpinned,r7,q7⟩
end
abbrev R2:=V->V->Hp->VK->Prop
def lv(X:Cx)(f:Value->Value->Sem Value)(r:R2):Prop:=
 ∀(pins:List (Addr×Obj)) (s:Shared) (σ:St) (H:Hp) (x y:V) (v u:Value) (Q:VK),bz X pins σ H s->bL x v->bL y u->r x y H Q ->
  wpAny (model X.prog X.w) X.A (f v u) (EP X pins σ Q) X.xe s
def Wc(X:Cx)(f:Value->Sem Value)(r:V->Hp->VK->Prop):Prop:=
 ∀(pins:List (Addr×Obj)) (s:Shared) (σ:St) (H:Hp) (x:V) (v:Value) (Q:VK),bz X pins σ H s->bL x v->r x H Q ->
  wpAny (model X.prog X.w) X.A (f v) (EP X pins σ Q) X.xe s
def iA(X:Cx)(f:Value)(r:List V->Hp->VK->Prop):Prop:=
 ∀(pins:List (Addr×Obj)) (s:Shared) (σ:St) (H:Hp) (xs:List V) (us:List Value) (Q:VK),bz X pins σ H s->cv xs us->r xs H Q ->
  wpAny (model X.prog X.w) X.A (call f us) (EP X pins σ Q) X.xe s
def Si(r:R2)(ta tb:TE):TE:=fun σ H Q=>ta σ H fun x H1=>tb σ H1 fun y H2=>r x y H2 Q
def Xm(r:V->Hp->VK->Prop)(ta:TE):TE:=fun σ H Q=>ta σ H fun x H1=>r x H1 Q
def rI(C:Int->Int->Prop)(g:Int->Int->V):R2:=fun x y H Q=>∃i j,x=.int i/\y=.int j/\C i j/\Q (g i j) H
def EF(g:Int->Int->V):R2:=fun x y H Q=>∃i j,x=.int i/\y=.int j/\Q (g i j) H
def rU(g:Int->V):V->Hp->VK->Prop:=fun x H Q=>∃i,x=.int i/\Q (g i) H
section
variable{X:Cx}{a b:Expr}{ta tb tc:TE}
theorem Ox(ha:PE X a ta)(hb:PE X b tb){σ:St}{H:Hp}{R:V->V->Hp->Prop}(I:bz X pins σ H s)
  (h:ta σ H fun x H1=>tb σ H1 fun y H2=>R x y H2) {Q:Value->Shared->Prop} {f:Value->Value->Sem Value}
  (hf:∀v u s2 x y H2,bz X pins σ H2 s2->bL x v->bL y u->R x y H2->wpAny (model X.prog X.w) X.A (f v u) Q X.xe s2) :
  wpAny (model X.prog X.w) X.A (eval a X.env) (fun v s₁=>wpAny (model X.prog X.w) X.A (eval b X.env) (fun u s₂=>wpAny (model X.prog X.w) X.A (f v u) Q X.xe s₂) X.xe s₁) X.xe s:=by
 refine fJ (ha pins s σ H _ I h) fun v s1 ⟨x,H1,I1,r1,q1⟩=>?_
 refine fJ (hb pins s1 σ H1 _ I1 q1) fun u s2 ⟨y,H2,I2,r2,q2⟩=>?_
 exact hf v u s2 x y H2 I2 r1 r2 q2
theorem Sj{op:Operator}{r:R2}(ho:lv X (binaryOp op) r)(ha:PE X a ta)(hb:PE X b tb):PE X (.BinOp a op b pos) (Si r ta tb):=by
 intro pins s σ H Q I h
 exact wpAny_BinOp (Ox ha hb I h fun v u s2 x y H2 I2 rx ry q=>ho pins s2 σ H2 x y v u Q I2 rx ry q)
theorem Sk{op:UnaryOp}{r:V->Hp->VK->Prop}(ho:Wc X (unaryOp op) r)(ha:PE X a ta):PE X (.UnaryOp op a pos) (Xm r ta):=by
 intro pins s σ H Q I h
 exact UnaryOp_ (fJ (ha pins s σ H _ I h) fun v s1 ⟨x,H1,I1,r1,q1⟩=>ho pins s1 σ H1 x v Q I1 r1 q1)
theorem RQ{f:Value->Value->Sem Value}{g:Int->Int->Int}
  (rule:∀(i j:Int) (t u:Tok) (s:Shared) (Q:Value->Shared->Prop) (E:Value->Shared->Prop),C i j->Q (.int (g i j) s.toks) { s with toks:=s.toks+1 }->wpAny (model X.prog X.w) X.A (f (.int i t) (.int j u)) Q E s) :
  lv X f (rI C fun i j=>.int (g i j)):=by
 intro pins s σ H x y v u Q I rx ry h
 obtain⟨i,j,rfl,rfl,hc,q⟩:=h
 obtain⟨t,rfl⟩:=rx
 obtain⟨t',rfl⟩:=ry
 exact rule i j t t' s _ _ hc ⟨.int (g i j),H,I.tok _,⟨_,rfl⟩,q⟩
theorem Oy{f:Value->Value->Sem Value}{g:Int->Int->Int}
  (rule:∀(i j:Int) (t u:Tok) (s:Shared) (Q:Value->Shared->Prop) (E:Value->Shared->Prop),Q (.int (g i j) s.toks) { s with toks:=s.toks+1 }->wpAny (model X.prog X.w) X.A (f (.int i t) (.int j u)) Q E s) :
  lv X f (EF fun i j=>.int (g i j)):=by
 intro pins s σ H x y v u Q I rx ry h
 obtain⟨i,j,rfl,rfl,q⟩:=h
 obtain⟨t,rfl⟩:=rx
 obtain⟨t',rfl⟩:=ry
 exact rule i j t t' s _ _ ⟨.int (g i j),H,I.tok _,⟨_,rfl⟩,q⟩
theorem JE{f:Value->Value->Sem Value}{g:Int->Int->Bool}
  (rule:∀(i j:Int) (t u:Tok) (s:Shared) (Q:Value->Shared->Prop) (E:Value->Shared->Prop),Q (.bool (g i j)) s->wpAny (model X.prog X.w) X.A (f (.int i t) (.int j u)) Q E s) :
  lv X f (EF fun i j=>.bl (g i j)):=by
 intro pins s σ H x y v u Q I rx ry h
 obtain⟨i,j,rfl,rfl,q⟩:=h
 obtain⟨t,rfl⟩:=rx
 obtain⟨t',rfl⟩:=ry
 exact rule i j t t' s _ _ ⟨.bl (g i j),H,I,rfl,q⟩
def Wd(i j:Int):Prop:=0<j/\j<1073741824
def Oz(i j:Int):Prop:=0<=j/\j<=1000000/\i.natAbs<2^64
def OA(i j:Int):Prop:=(-(2^64)<i/\i<2^64)\/(-(2^64)<j/\j<2^64)
theorem OA.ok{i j:Int}(h:OA i j):IntMulOk i j:=by
 rcases h with⟨h1,h2⟩|⟨h1,h2⟩
 ·exact .of_left (intBits_le_64 h1 h2)
 ·exact .of_right (intBits_le_64 h1 h2)
theorem zV(k:Nat):(0:Int)<=2^k:=by
 rw[two_pow_cast]
 exact Int.natCast_nonneg _
theorem OB:lv X (binaryOp .Add) (EF fun i j=>.int (i+j)):=Oy fun _ _ _ _ _ _ _ q=>add_int q
theorem OC:lv X (binaryOp .Sub) (EF fun i j=>.int (i-j)):=Oy fun _ _ _ _ _ _ _ q=>sub_int q
theorem OD:lv X (binaryOp .Mult) (rI OA fun i j=>.int (i*j)):=RQ fun _ _ _ _ _ _ _ hc q=>mul_int q hc.ok
theorem JF:lv X (binaryOp .FloorDiv) (rI Wd fun i j=>.int (i/j)):=RQ fun i j _ _ _ _ _ hc q=>by
 have h1:(0:Int)<j:=hc.1
 have h2:j<1073741824:=hc.2
 exact floordiv_int (by omega) (by rw[kr i (by omega)];exact q) (.inl (mK (by omega)))
theorem OE:lv X (binaryOp .Mod) (rI (fun _ j=>0<j) fun i j=>.int (i%j)):=RQ fun i j _ _ _ _ _ hc q=>by
 have h1:(0:Int)<j:=hc
 exact mod_int' (by omega) (by rw[Int.fmod_eq_emod_of_nonneg i (by omega)];exact q)
theorem OF:lv X (binaryOp .Pow) (rI Oz fun i j=>.int (i^j.toNat)):=RQ fun _ _ _ _ _ _ _ hc q=>pow_int_small hc.1 hc.2.1 hc.2.2 q
theorem EG:lv X (binaryOp .LShift) (rI Oz fun i j=>.int (i*2^j.toNat)):=RQ fun _ _ _ _ _ _ _ hc q=>lshift_int_small hc.1 hc.2.1 hc.2.2 q
theorem OG:lv X (binaryOp .RShift) (rI (fun _ j=>0<=j) fun i j=>.int (i/2^j.toNat)):=RQ fun i j _ _ _ _ _ hc q=>
 rshift_int hc (by rw[kr i (zV _)];exact q)
theorem OH:lv X (binaryOp .BitAnd) (EF fun i j=>.int (Builtin.bitAnd i j)):=Oy fun _ _ _ _ _ _ _ q=>and_int q
theorem Xn{f:Value->Sem Value}{g:Int->Int}
  (rule:∀(i:Int) (t:Tok) (s:Shared) (Q:Value->Shared->Prop) (E:Value->Shared->Prop),Q (.int (g i) s.toks) { s with toks:=s.toks+1 }->wpAny (model X.prog X.w) X.A (f (.int i t)) Q E s) :
  Wc X f (rU fun i=>.int (g i)):=by
 intro pins s σ H x v Q I rx h
 obtain⟨i,rfl,q⟩:=h
 obtain⟨t,rfl⟩:=rx
 exact rule i t s _ _ ⟨.int (g i),H,I.tok _,⟨_,rfl⟩,q⟩
theorem OI:Wc X (unaryOp .USub) (rU fun i=>.int (-i)):=Xn fun _ _ _ _ _ q=>neg_int q
end
section
variable{X:Cx}{a b:Expr}{ta tb tc:TE}
theorem EH{σ:St}{H:Hp}{Q:VK}{k k':Bool}(I:bz X pins σ H s)(q:Q (.bl k) H)(e:k=k'):EP X pins σ Q (.bool k') s:=by
 subst e
 exact⟨.bl k,H,I,rfl,q⟩
theorem Sl:lv X (compareOp .Lt) (EF fun i j=>.bl (decide (i<j))):=JE fun _ _ _ _ _ _ _ q=>lt_int q
theorem Sm:lv X (compareOp .LtE) (EF fun i j=>.bl (decide (i<=j))):=JE fun _ _ _ _ _ _ _ q=>le_int q
theorem Sn:lv X (compareOp .Gt) (EF fun i j=>.bl (decide (j<i))):=JE fun _ _ _ _ _ _ _ q=>gt_int q
theorem So:lv X (compareOp .GtE) (EF fun i j=>.bl (decide (j<=i))):=JE fun _ _ _ _ _ _ _ q=>ge_int q
theorem Dh:lv X (compareOp .In) (fun x y H Q=>∃i j,x=.str i/\y=.str j/\Q (.bl (!(Builtin.Str.occurrences j i 0 j.length 1).isEmpty)) H):=by
 intro pins s σ H x y v u Q I rx ry h
 obtain⟨i,j,rfl,rfl,q⟩:=h
 obtain⟨t,rfl⟩:=rx
 obtain⟨t',rfl⟩:=ry
 exact in_str (EH I q rfl)
theorem vY:lv X (compareOp .NotIn) (fun x y H Q=>∃i j,x=.str i/\y=.str j/\Q (.bl (!(!(Builtin.Str.occurrences j i 0 j.length 1).isEmpty))) H):=by
 intro pins s σ H x y v u Q I rx ry h
 obtain⟨i,j,rfl,rfl,q⟩:=h
 obtain⟨t,rfl⟩:=rx
 obtain⟨t',rfl⟩:=ry
 exact notIn_str (EH I q rfl)
theorem EI(b:Expr)(h:op≠.In:=by decide)(h2:op≠.NotIn:=by decide):behindInMarks op b=false:=by
 have e1:(op==CmpOp.In)=false:=by cases op<;>first|rfl|exact absurd rfl h
 have e2:(op==CmpOp.NotIn)=false:=by cases op<;>first|rfl|exact absurd rfl h2
 cases b<;>simp[behindInMarks,e1,e2]
theorem JG{r:R2}(ho:lv X (compareOp op) r)(ha:PE X a ta)(hb:PE X b tb)(hm:behindInMarks op b=false):PE X (.Compare a [op] [b] pos) (Si r ta tb):=by
 intro pins s σ H Q I h
 exact wpAny_Compare1 (Ox ha hb I h fun v u s2 x y H2 I2 rx ry q=>ho pins s2 σ H2 x y v u Q I2 rx ry q) hm
def Sq(t:TE):TT:=fun σ H Q=>t σ H fun x H'=>∃k,x=.bl k/\Q k H'
theorem JH{r:R2}(ho:lv X (compareOp op) r)(ha:PE X a ta)(hb:PE X b tb)(hm:behindInMarks op b=false):PT X (.Compare a [op] [b] pos) (Sq (Si r ta tb)):=by
 intro pins s σ H Q I h
 refine nh (fJ (ha pins s σ H _ I h) fun v s1 ⟨x,H1,I1,r1,q1⟩=>fJ (hb pins s1 σ H1 _ I1 q1) fun u s2 ⟨y,H2,I2,r2,q2⟩=>
  fJ (ho pins s2 σ H2 x y v u _ I2 r1 r2 q2) fun c s3 ⟨z,H3,I3,r3,k,e,q3⟩=>?_) hm
 subst e
 cases r3
 exact dA ⟨H3,I3,q3⟩
def EJ(r r':R2)(ta tb tc:TE):TE:=fun σ H Q=>ta σ H fun x H1=>tb σ H1 fun y H2=>r x y H2 fun z H3=>∃k,z=.bl k /\
 (if k=true then tc σ H3 fun w' H4=>r' y w' H4 Q else Q (.bl false) H3)
theorem EK{Rs:CmpOp}{r r':R2}(ho:lv X (compareOp op) r)(qN:lv X (compareOp Rs) r')(ha:PE X a ta)(hb:PE X b tb)(hc:PE X c tc)
  (hm:lastMarks [op,Rs] [b,c]=false:=by with_unfolding_all rfl):PE X (.Compare a [op,Rs] [b,c] pos) (EJ r r' ta tb tc):=by
 intro pins s σ H Q I h
 refine Compare_chain (fJ (ha pins s σ H _ I h) fun v s1 ⟨x,H1,I1,r1,q1⟩=>chain_link (fJ (hb pins s1 σ H1 _ I1 q1) fun u s2 ⟨y,H2,I2,r2,q2⟩=>
  fJ (ho pins s2 σ H2 x y v u _ I2 r1 r2 q2) fun d s3 ⟨z,H3,I3,r3,k,e,q3⟩=>?_)) hm
 subst e
 cases r3
 refine dA ?_
 cases k with
 |false=>exact ite_ff ⟨.bl false,H3,I3,rfl,q3⟩
 |true=>exact ite_tt (chain_last (fJ (hc pins s3 σ H3 _ I3 q3) fun w' s4 ⟨z',H4,I4,r4,q4⟩=>qN pins s4 σ H4 y z' u w' Q I4 r2 r4 q4))
theorem qp:(sizeLine:Nat)<2^63:=by rw[iF];decide
theorem zW:lv X (binaryOp .Add) (fun x y H Q=>∃i j,x=.str i/\y=.str j/\i.length+j.length<=sizeLine/\Q (.str (i++j)) H):=by
 intro pins s σ H x y v u Q I rx ry h
 obtain⟨i,j,rfl,rfl,hz,q⟩:=h
 obtain⟨t,rfl⟩:=rx
 obtain⟨t',rfl⟩:=ry
 exact add_str (fun t' tk=>⟨.str (i++j),H,I.tok _,⟨_,rfl⟩,q⟩) hz
theorem jI{x:V}(r:cv [x] us):∃u,us=[u]/\bL x u:=by
 cases r with
 |cons r1 r2=>cases r2;exact⟨_,rfl,r1⟩
theorem LO{x y:V}(r:cv [x,y] us):∃u w',us=[u,w']/\bL x u/\bL y w':=by
 cases r with
 |cons r1 r2=>
  cases r2 with
  |cons r3 r4=>cases r4;exact⟨_,_,rfl,r1,r3⟩
theorem Di(hc:X.calm=true):iA X (.builtin "max") (fun xs H Q=>∃i j,xs=[.int i,.int j]/\Q (.int (if j>i then j else i)) H):=by
 intro pins s σ H xs us Q I r h
 obtain⟨i,j,rfl,q⟩:=h
 obtain⟨u,w',rfl,⟨t,rfl⟩,⟨t',rfl⟩⟩:=LO r
 refine max_two_ints (I.ok.hd hc) fun h' tk k=>⟨_,H,I.kept k,?_,q⟩
 by_cases hj:j>i
 ·rw[ar hj,ar hj];exact⟨_,rfl⟩
 ·rw[az hj,az hj];exact⟨_,rfl⟩
theorem Dj(hc:X.calm=true):iA X (.builtin "min") (fun xs H Q=>∃i j,xs=[.int i,.int j]/\Q (.int (if j<i then j else i)) H):=by
 intro pins s σ H xs us Q I r h
 obtain⟨i,j,rfl,q⟩:=h
 obtain⟨u,w',rfl,⟨t,rfl⟩,⟨t',rfl⟩⟩:=LO r
 refine min_two_ints (I.ok.hd hc) fun h' tk k=>⟨_,H,I.kept k,?_,q⟩
 by_cases hj:j<i
 ·rw[ar hj,ar hj];exact⟨_,rfl⟩
 ·rw[az hj,az hj];exact⟨_,rfl⟩
theorem u4:iA X (.type "int") (fun xs H Q=>(∃i,xs=[.int i]/\Q (.int i) H)\/∃k,xs=[.bl k]/\Q (.int (if k then 1 else 0)) H):=by
 intro pins s σ H xs us Q I r h
 rcases h with⟨i,rfl,q⟩|⟨k,rfl,q⟩
 ·obtain⟨u,rfl,t,rfl⟩:=jI r
  exact call_int_int ⟨.int i,H,I,⟨_,rfl⟩,q⟩
 ·obtain⟨u,rfl,r1⟩:=jI r
  cases r1
  exact call_int_bool ⟨.int (if k then 1 else 0),H,I.tok _,⟨_,rfl⟩,q⟩
end
structure OJ(h:Heap)(x dx C:Addr)(mA:Str->Option Value):Prop where
 obj:h.get? x=some (PySem.W.instObj C dx)
 ns:h.Ns1 dx mA
 ne:dx≠x
theorem Dk{dx:Addr}(n:h.Ns1 dx mA):∃od,h.get? dx=some od/\∀name,PySem.W.lookIn name od=some (mA name):=by
 obtain⟨o,es,ep,ho,hd,hk,_,hm⟩:=n
 refine⟨o,ho,fun name=>?_⟩
 have e:=hm name
 unfold nsFind findBy at e
 rw[<- Array.find?_toList]at e
 unfold PySem.W.lookIn
 rw[hd]
 dsimp only
 split
 ·rename_i y q
  rw[q]at e
  exact dM some e
 ·rename_i q
  rw[q]at e
  have a:es.toList.any (·.refKey)=false:=by
   rw[fF]
   intro y hy
   obtain⟨z,t,rJ⟩:=hk y (Array.mem_toList_iff.mp hy)
   simp[DictEntry.refKey,rJ]
  have a':¬ es.toList.any (·.refKey)=true:=by rw[a];exact bK
  rw[az a']
  exact dM some e
theorem OJ.look{x dx C:Addr}(I:OJ h x dx C mA):∃od,PySem.W.InstAt h x (PySem.W.instObj C dx) C (some od)/\∀name,PySem.W.lookIn name od=some (mA name):=
 let ⟨od,ho,hl⟩:=Dk I.ns
 ⟨od,⟨I.obj,rfl,rfl,ho⟩,hl⟩
section
variable{w:World}{x dx C f:Addr}
end
theorem qo.some_of{v:V}{o:Option Value}(r:qo (some v) o):∃u,o=some u/\bL v u:=by
 cases o with
 |none=>exact(show False from r).elim
 |some u=>exact⟨u,rfl,r⟩
section
variable{w:World}{H H':Hp}{C dx:Addr}{fs XY:List (Str×V)}
theorem JI(hok:oD P w H h)(e:H a=some (.ins C dx fs)):∃mA,OJ h a dx C mA/\(∀f,qo (fs.lookup f) (mA f))/\PySem.Within mA (fs.map (·.1))/\fs.length<=1000/\H dx=some (.own a):=by
 obtain⟨d,z,ne,ob,mA,n,r,q⟩:=(show eS P w H h a (.ins C dx fs)from hok a _ e)
 exact⟨mA,⟨ob,n,ne⟩,r,q,z,d⟩
end
structure We(K:Frag)(C:Addr):Prop where
 pg:PySem.W.plainGet K C Str.empty=true
 hd:PySem.W.hasDictIn K C=true
 po:PySem.W.plainOver K C=true
 sa:PySem.W.findIn K (.ref C) "__setattr__"=some (some (.builtin "object.__setattr__"))
theorem We.get{C:Addr}(c:We K C)(f:Str):PySem.W.plainGet K C f=true:=c.pg
section
variable{X:Cx}{σ:St}{H:Hp}{C dx:Addr}{fs:List (Str×V)}{f:Str}{v:V}
end
section
variable{X:Cx}{value:Expr}{f:Str}{WP:Pos}{ta tv:TE}
end
section
variable{X:Cx}{σ:St}{H:Hp}{c:Value}{b:Bool}
inductive rj(K:Frag)(H:Hp):V->Value->Prop where
 |non:rj K H .non (.type "NoneType")
 |bl (x:Bool):rj K H (.bl x) (.type "bool")
 |int (i:Int):rj K H (.int i) (.type "int")
 |str (x:Str):rj K H (.str x) (.type "str")
 |flt (x:UInt64):rj K H (.flt x) (.type "float")
 |lst {a:Addr} {xs:List V} (e:H a=some (.lst xs)):rj K H (.ref a) (.type "list")
 |frz {a:Addr} {o:Obj} {xs:List V} (e:H a=some (.frz o (.lst xs))):rj K H (.ref a) (.type "list")
 |tup {a:Addr} {xs:List V} (e:H a=some (.tup xs)):rj K H (.ref a) (.type "tuple")
 |dK {a:Addr} {kvs:List (f6×V)} (e:H a=some (.dK kvs)):rj K H (.ref a) (.type "dict")
 |dT {a:Addr} {kvs:List (List f6×V)} (e:H a=some (.dT kvs)):rj K H (.ref a) (.type "dict")
 |ins {a C dx:Addr} {fs:List (Str×V)} (e:H a=some (.ins C dx fs)) (cl:We K C) (ha:PySem.W.findIn K (.ref C) "__class__"=some (some (.builtin "object.__class__")))
   (hn:PySem.W.specialIn K (.builtin "object.__class__") "__get__"=some (some (.builtin "getset_descriptor.__get__"))) (C3:PySem.W.takesIn K (.builtin "object.__class__")=some true)
   (hm:PySem.W.mroIn K C (.type "object")=some true):rj K H (.ref a) (.ref C)
theorem n6{x:V}{t:Value}(I:bz X pins σ H s)(rx:bL x u)(ty:rj X.K H x t)(e:PySem.W.kitOne X.K t c=some b)(h:∀tk,Q (.bool b) { s with toks:=tk }) :
  wpAny (model X.prog X.w) A (call (.builtin "isinstance") [u,c]) Q E s:=by
 cases ty with
 |non=>cases(show u=Value.none from rx);exact kia_one PySem.W.kitx_none I.kIn True.intro e (fun z=>nomatch z) h
 |bl y=>cases(show u=Value.bool y from rx);exact kia_one PySem.W.kitx_bool I.kIn True.intro e (fun z=>nomatch z) h
 |int i=>obtain⟨t,q⟩:=(show ∃t,u=Value.int i t from rx);cases q;exact kia_one PySem.W.kitx_int I.kIn True.intro e (fun z=>nomatch z) h
 |str y=>obtain⟨t,q⟩:=(show ∃t,u=Value.str y t from rx);cases q;exact kia_one PySem.W.kitx_str I.kIn True.intro e (fun z=>nomatch z) h
 |flt y=>obtain⟨t,q⟩:=(show ∃t,u=Value.float y t from rx);cases q;exact kia_one PySem.W.kitx_float I.kIn True.intro e (fun z=>nomatch z) h
 |@lst a xs ea=>
  cases(show u=Value.ref a from rx)
  obtain⟨_,_,n,_,h1⟩:=(show eS X.prog X.w H s.heap a (.lst xs)from I.hok a _ ea)
  exact kia_one PySem.W.kitx_list I.kIn ⟨_,h1,rfl⟩ e (fun z=>nomatch z) h
 |@frz a ob xs ea=>
  cases(show u=Value.ref a from rx)
  obtain⟨_,_,_,n,_,h1⟩:=(show eS X.prog X.w H s.heap a (.frz ob (.lst xs))from I.hok a _ ea)
  exact kia_one PySem.W.kitx_list I.kIn ⟨_,h1,rfl⟩ e (fun z=>nomatch z) h
 |@tup a xs ea=>
  cases(show u=Value.ref a from rx)
  obtain⟨_,_,_,p⟩:=(show eS X.prog X.w H s.heap a (.tup xs)from I.hok a _ ea)
  obtain⟨o,h1,h2,_⟩:=p
  exact kia_one PySem.W.kitx_tuple I.kIn ⟨o,h1,h2⟩ e (fun z=>nomatch z) h
 |@dK a kvs ea=>
  cases(show u=Value.ref a from rx)
  obtain⟨_,_,vs,_,p⟩:=(show eS X.prog X.w H s.heap a (.dK kvs)from I.hok a _ ea)
  obtain⟨o,es,ep,h1,h2,_⟩:=p
  exact kia_one PySem.W.kitx_dict I.kIn ⟨o,h1,h2.1⟩ e (fun z=>nomatch z) h
 |@dT a kvs ea=>
  cases(show u=Value.ref a from rx)
  obtain⟨_,_,xs,_,o,es,ep,h1,h2,_⟩:=(show eS X.prog X.w H s.heap a (.dT kvs)from I.hok a _ ea)
  exact kia_one PySem.W.kitx_dict I.kIn ⟨o,h1,h2.1⟩ e (fun z=>nomatch z) h
 |@ins a C dx fs ea cl ha hn C3 hm=>
  cases(show u=Value.ref a from rx)
  obtain⟨mA,O,_⟩:=JI I.hok ea
  obtain⟨od,J,_⟩:=O.look
  exact kia_one (PySem.W.kitx_own (cl.get _) cl.hd ha hn C3 hm) I.kIn J e (fun z=>nomatch z) h
end
structure gT(k:Nat)(A:Around):Prop where
 hd:A.handled=none
 dp:A.depth+2*k+5<recursionLimit
 un:A.units+16*k+200<cLine
theorem gT.mono{k:Nat}(r:gT k A)(h:j<=k):gT j A:=⟨r.hd,by have:=r.dp;omega,by have:=r.un;omega⟩
theorem gT.deeper{k:Nat}(r:gT (k+1) A)(env:Env):gT k (A.deeper env):=
 ⟨r.hd,by have:=r.dp;show A.depth+1+2*k+5<_;omega,by have:=r.un;show A.units+3+16*k+200<_;omega⟩
theorem gT.depth{k:Nat}(r:gT k A):A.depth<recursionLimit:=by have:=r.dp;omega
theorem gT.units{k:Nat}(r:gT k A):A.units+64<cLine:=by have:=r.un;omega
def Wf:TA:=fun _ H Q=>Q [] H
def Ss(ta:TE)(tr:TA):TA:=fun σ H Q=>ta σ H fun x H1=>tr σ H1 fun xs H2=>Q (x::xs) H2
section
variable{X:Cx}{te:TE}{t:TA}
theorem zX:PA X [] Wf:=fun _ _ _ _ H Q I h=>iI ⟨[],H,I,.nil,h⟩
theorem rK(ha:PE X e te)(hr:PA X es t)(hs:starEach (e::es) X.env=(false,eval e X.env)::starEach es X.env:=by rfl):PA X (e::es) (Ss te t):=by
 intro pos pins s σ H Q I h
 rw[hs]
 show wpAny _ _ (spliced ((false,eval e X.env)::backTo pos (starEach es X.env))) _ _ s
 refine gi (fJ (ha pins s σ H _ I h) fun u s1 ⟨x,H1,I1,r1,q1⟩=>?_)
 exact fJ (hr pos pins s1 σ H1 _ I1 q1) fun us s2 ⟨xs,H2,I2,r2,q2⟩=>⟨x::xs,H2,I2,.cons r1 r2,q2⟩
end
abbrev Sp:=List V->Hp->VK->XK->Prop
abbrev Jj:=List Env->Hp->Shared->XK->Value->Shared->Prop
structure JJ(P:Program)(w:World)(K:Frag)(mg:Str->Option Value)(base:Heap)(A:Around)(outer:List Env)(s:Shared)(H:Hp):Prop where
 frames:A.frames=some outer
 mod:Mod K mg base
 bs:∀b o,base.get? b=some o->s.heap.get? b=some o/\H b=none
 bsz:base.objs.size<=s.heap.objs.size
 funs:s.heap.FunFrames base outer
 frf:∀b∈vV outer,H b=none
 hok:oD P w H s.heap
 bare:AllBare s.gens
def CE(outer:List Env)(P:Program)(w:World)(H:Hp)(s:Shared)(Q:VK)(u:Value)(s':Shared):Prop:=
 ∃v H',s'.os=s.os/\AllBare s'.gens/\Un (vV outer) [] H H' s.heap s'.heap/\oD P w H' s'.heap/\bL v u/\Q v H'
def CR(CX:Jj)(outer:List Env)(P:Program)(w:World)(H:Hp)(s:Shared)(Q:VK)(E:XK)(r:Result)(s':Shared):Prop:=
 match r with
 |.ok (.ret u)=>CE outer P w H s Q u s'
 |.ok _=>False
 |.error e=>CX outer H s E e s'
structure dw(P:Program)(w:World)(K:Frag)(mg:Str->Option Value)(base:Heap)(CX:Jj)(k:Nat)(f:Addr)(fd:FuncData)(ps:List Str)(sp:Sp):Prop where
 len:∀vs H Q E,sp vs H Q E->vs.length=ps.length
 run:∀(A:Around) (outer:List Env) (s:Shared) (H:Hp) (args:Args) (us:List Value) (vs:List V) (Q:VK) (E:XK),gT k A->JJ P w K mg base A outer s H->BindsTo s fd args (ps.zip us)->cv vs us->sp vs H Q E ->
  codeAny (model P w) A (.call (.ref f) args) (CR CX outer P w H s Q E) s
theorem dw.mono{w:World}{CX:Jj}{k:Nat}{f:Addr}{sp:Sp}(F:dw P w K mg base CX j f fd ps sp)(h:j<=k) :
  dw P w K mg base CX k f fd ps sp:=⟨F.len,fun A outer s H args us vs Q E hr=>F.run A outer s H args us vs Q E (hr.mono h)⟩
section
variable{X:Cx}{σ:St}{H:Hp}{s':Shared}
theorem bz.env0(I:bz X pins σ H s):JJ X.prog X.w X.K X.mg X.base X.A X.stack s H:=
 ⟨I.ok.frames,I.ok.mod,I.bs,aR I.ok.bsz I.sz,I.stack,I.stkFree,I.hok,I.bare⟩
theorem bz.after{Q:VK}(I:bz X pins σ H s)(h:CE X.stack X.prog X.w H s Q u s'):EP X pins σ Q u s':=by
 obtain⟨v,H',os,bare,un,hok,r,q⟩:=h
 obtain⟨hh,g,d,t,os'⟩:=s'
 obtain rfl:os'=s.os:=os
 exact⟨v,H',I.call (h':=hh) (g':=g) (d':=d) (t':=t) (ch:=[]) un hok bare (fun b z=>absurd z (by simp)),r,q⟩
end
def xL(K:Frag)(fd:FuncData)(ps:List Str)(ds:List Value):Prop:=
 ∀(s:Shared) (us:List Value),K.In s.heap->(us++ds).length=ps.length->BindsTo s fd ⟨us,[]⟩ (ps.zip (us++ds))
theorem xL.all(h:∀us:List Value,us.length=ps.length->bindArgs fd ⟨us,[]⟩=pure (ps.zip us)):xL K fd ps []:=fun s us _ hl=>by
 rw[eD]at hl ⊢
 exact .of_eq (h us hl)
section
variable{X:Cx}{CX:Jj}{k:Nat}{f C:Addr}{sp:Sp}{X4:List V}{ds:List Value}{E:XK}{m:Str}{ta:TE}{t:TA}
end
def PK(X:Cx)(Xi:List Keyword)(t:TA):Prop:=
 ∀(pos:Pos) (pins:List (Addr×Obj)) (s:Shared) (σ:St) (H:Hp) (Q:List V->Hp->Prop),bz X pins σ H s->t σ H Q->wpAny (model X.prog X.w) X.A (evalAll ((backToKw pos (keywordEach Xi X.env)).map (·.2))) (AP X pins σ Q) X.xe s
section
variable{X:Cx}{CX:Jj}{k:Nat}{f C:Addr}{ks:List Str}{sp:Sp}{E:XK}{m:Str}{Vn:Pos}{Xi:List Keyword}{te ta:TE}{t tk:TA}{nm:Option Str}
variable{g:List Value->List Value->List Value}{gV:List V->List V->List V}
end
structure bh(N P:List Str)(sc:Scope):Prop where
 kind:sc.kind=.function
 co:sc.isCoroutine=false
 gen:sc.isGenerator=false
 nd:N.Nodup
 pre:N.take P.length=P
 par:∀x∈P,sc.names.lookup x=some .local\/sc.names.lookup x=some .cell
 nofree:∀y∈sc.names,y.2≠.free
theorem u5:∀{binds:List (Str×Value)} {m:Str->Option Value},(∀v,(x,v)∉binds)->bindL kindOf binds m x=m x
 |[],_,_=>rfl
 |(n,v)::r,m,h=>by
  unfold bindL
  rw[u5 fun w hw=>h w (aD _ hw)]
  split
  ·have:x≠n:=by rintro rfl;exact h v aQ
   simp[this]
  ·rfl
theorem u6:∀{binds:List (Str×Value)} {m:Str->Option Value},(∀v,(x,v)∉binds)->bindC kindOf binds m x=m x
 |[],_,_=>rfl
 |(n,v)::r,m,h=>by
  unfold bindC
  rw[u6 fun w hw=>h w (aD _ hw)]
  split
  ·rfl
  ·have:x≠n:=by rintro rfl;exact h v aQ
   simp[this]
theorem u7:∀{P:List Str} {vs:List Value} {i:Nat} {m:Str->Option Value},P.Nodup->P[i]?=some x->vs[i]?=some v->kindOf x=some .local ->
  bindL kindOf (P.zip vs) m x=some v
 |[],_,_,_,_,h,_,_=>by simp at h
 |_::_,[],_,_,_,_,h,_=>by simp at h
 |p::P,w::vs,0,m,nd,h1,h2,hk=>by
  simp at h1 h2;subst h1;subst h2
  show bindL kindOf ((p,w)::P.zip vs) m p=_
  unfold bindL
  rw[u5 fun v hv=>(eE.mp nd).1 (mZ hv).1,ar hk]
  simp
 |p::P,w::vs,i+1,m,nd,h1,h2,hk=>by
  show bindL kindOf ((p,w)::P.zip vs) m x=_
  unfold bindL
  exact u7 (i:=i) (eE.mp nd).2 (by simpa using h1) (by simpa using h2) hk
theorem u8:∀{P:List Str} {vs:List Value} {i:Nat} {m:Str->Option Value},P.Nodup->P[i]?=some x->vs[i]?=some v->kindOf x≠some .local ->
  bindC kindOf (P.zip vs) m x=some v
 |[],_,_,_,_,h,_,_=>by simp at h
 |_::_,[],_,_,_,_,h,_=>by simp at h
 |p::P,w::vs,0,m,nd,h1,h2,hk=>by
  simp at h1 h2;subst h1;subst h2
  show bindC kindOf ((p,w)::P.zip vs) m p=_
  unfold bindC
  rw[u6 fun v hv=>(eE.mp nd).1 (mZ hv).1,az hk]
  simp
 |p::P,w::vs,i+1,m,nd,h1,h2,hk=>by
  show bindC kindOf ((p,w)::P.zip vs) m x=_
  unfold bindC
  exact u8 (i:=i) (eE.mp nd).2 (by simpa using h1) (by simpa using h2) hk
def qS(N:List Str)(vs:List V):St:=vs.map some++List.replicate (N.length-vs.length) none
def zY(CX:Jj)(P:Program)(w:World)(K:Frag)(mg:Str->Option Value)(base:Heap)(N:List Str)(qual:Str)(scope:Scope)(f:Addr)(cd:Value)(A:Around)(outer:List Env)(s:Shared)(H:Hp)(E:XK):Cx where
 prog:=P
 w:=w
 K:=K
 mg:=mg
 base:=base
 A:=A.deeper (envOfC qual scope s.heap.objs.size f cd)
 N:=N
 s₀:=s
 H₀:=H
 env:=envOfC qual scope s.heap.objs.size f cd
 outer:=outer
 stack:=envOfC qual scope s.heap.objs.size f cd::outer
 ex:=[]
 calm:=true
 fn:=fun _=>true
 pn:=[]
 xe:=fun e s'=>wpAny (model P w) (A.deeper (envOfC qual scope s.heap.objs.size f cd)) (leaving (envOfC qual scope s.heap.objs.size f cd) e) (fun _ s''=>CX outer H s E e s'') (fun e' s''=>CX outer H s E e' s'') s'
theorem nz{n:Nat}(h:sc.names.lookup x=some .cell):∃c,(cellsFrom n sc.names []).lookup x=some c:=by
 have q:=PySem.W.cellsFrom_some sc.names n [] (.inl h)
 exact dU.mp q
theorem Dl{CX:Jj}{w:World}{N:List Str}{qual:Str}{f:Addr}{cd:Value}{outer:List Env}{s1:Shared}{H:Hp}{E:XK}{vs:List V}
  (S:bh N ps scope) (hd:A.handled=none) (e0:JJ P w K mg base A outer s H) (hl:vs.length=ps.length) (r:cv vs us)
  (x:InCallC s s.heap.objs.size (bindL (envOfC qual scope s.heap.objs.size f cd).kindOf (ps.zip us) fun _=>none) (cellsFrom (s.heap.objs.size+1) scope.names []) (bindC (envOfC qual scope s.heap.objs.size f cd).kindOf (ps.zip us) fun _=>none) s1) :
  bz (zY CX P w K mg base N qual scope f cd A outer s H E) [] (qS N vs) H s1:=by
 have rf:ps.length<=N.length:=by have:=dM List.length S.pre;rw[aZ]at this;omega
 obtain⟨h1,tk,rfl,hk⟩:=x.done
 have noA:∀b:Addr,b∉(zY CX P w K mg base N qual scope f cd A outer s H E).ex:=fun b z=>absurd (show b∈([]:List Addr)from z) (by simp)
 refine⟨⟨e0.mod,S.kind,rfl,rfl,aw _,fun y z c h1 h2=>?_,fun y hy=>?_,fun y c _ h=>?_,fun _=>hd,Around.frames_deeper e0.frames,.inr ⟨rfl,rfl⟩,fun b z=>absurd z (noA b),e0.bs,e0.bsz,fun b _ _=>noA b,fun b z=>absurd z (noA b),e0.funs,e0.frf⟩,
  rfl,e0.bare,Un.kept hk,⟨_,x.toInCall.ns,fun i y v h1 h2 h3=>?_⟩,fun y c h=>⟨_,x.cell y c h⟩,e0.hok.fresh (aw _),fun y c h=>?_,fun p hp=>absurd (show p∈([]:List (Addr×Obj))from hp) (by simp),e0.hok.kept hk,?_⟩
 ·exact name_of_addr x.apart (PySem.mem_of_lookup h1) (PySem.mem_of_lookup h2)
 ·have hy:scope.names.lookup y=some .cell\/scope.names.lookup y=some .free:=hy
  rcases hy with hy|hy
  ·exact nz hy
  ·exact absurd rfl (S.nofree _ (PySem.mem_of_lookup hy))
 ·exact eL (x.above y c (PySem.mem_of_lookup h))
 ·have hi:i<vs.length:=by
   unfold qS at h2
   by_cases hi:i<vs.length
   ·exact hi
   ·rw[cn (by simpa using hi)]at h2
    rw[lV]at h2
    split at h2<;>cases h2
  have ha:vs[i]?=some v:=by
   unfold qS at h2
   rw[aq (by simpa using hi),ak]at h2
   cases e:vs[i]? with
   |none=>rw[e]at h2;cases h2
   |some a=>rw[e]at h2;cases h2;rfl
  obtain⟨u,hu,rv⟩:=r.get ha
  have hp:ps[i]?=some y:=by
   rw[<- S.pre,df (by omega)];exact h1
  have ndP:ps.Nodup:=by rw[<- S.pre];exact S.nd.sublist (iJ _ _)
  refine⟨u,rv,?_⟩
  rcases S.par y (aA hp)with k|k
  ·exact .inl ⟨k,u7 ndP hp hu k⟩
  ·obtain⟨c,e⟩:=nz (n:=s.heap.objs.size+1) k
   refine .inr ⟨.inl k,c,e,?_⟩
   have q:=x.cell y c e
   rw[u8 ndP hp hu (by show scope.names.lookup y≠_;rw[k];decide)]at q
   exact q
 ·exact e0.hok.fresh (eL (x.above y c (PySem.mem_of_lookup h)))
 ·unfold qS
  show _=N.length
  rw[aB,ai,List.length_replicate]
  omega
theorem Su{CX:Jj}{w:World}{k:Nat}{f:Addr}{qual:Str}{params:Arguments}{body:List Stmt}{dV kV rg pm fI ct oc:Value}{an od:Option Addr}
  {NY:Array (Option Value)} {N ps:List Str} {sp:Sp} (lk:K.lookup f=some ⟨oc,od,.func (fnOf name qual params body scope dV kV rg pm an fI ct),NY⟩) (nX:codeIn K fI qual=true) (S:bh N ps scope)
  (len:∀vs H Q E,sp vs H Q E->vs.length=ps.length)
  (zE:∀(A:Around) (outer:List Env) (s:Shared) (H:Hp) (vs:List V) (Q:VK) (E:XK),gT k (A.deeper (envOfC qual scope s.heap.objs.size f fI))->sp vs H Q E ->
   ∃t,Db (zY CX P w K mg base N qual scope f fI A outer s H E) body t/\t { nx:=fun _ H'=>Q .non H',rt:=Q } (qS N vs) H) :
  dw P w K mg base CX (k+1) f (fnOf name qual params body scope dV kV rg pm an fI ct) ps sp:=by
 refine⟨len,fun A outer s H args us vs Q E hr e0 hb r RX=>?_⟩
 have hl:=len _ _ _ _ RX
 have KX:K.In s.heap:=e0.mod.kin.keeps fun b o e=>(e0.bs b o e).1
 have lim:s.heap.NoLimit:=e0.mod.nolimit.keeps fun b o e=>(e0.bs b o e).1
 have hZ:∀y∈ps.zip us,scope.names.lookup y.1=some .local\/(scope.names.lookup y.1=some .cell/\((cellsFrom (s.heap.objs.size+1) scope.names []).lookup y.1).isSome=true):=fun⟨n,v⟩ hy=>by
  rcases S.par n (mZ hy).1 with q|q
  ·exact .inl q
  ·exact .inr ⟨q,PySem.W.cellsFrom_some _ _ _ (.inl q)⟩
 refine codeAny_call_function hr.depth (KX _ _ lk) rfl S.co S.gen rfl (PySem.W.codeRec_of KX nX) (hb _ _ _ _ ?_)
 refine wpAny_newFunctionEnv_cells S.kind hZ fun env he s1 x=>?_
 subst he
 refine⟨lim.keeps x.toInCall.keep,codeAny_func ?_⟩
 obtain⟨t,ht,hq⟩:=zE A outer s H vs Q E (hr.deeper _) RX
 have I:bz (zY CX P w K mg base N qual scope f fI A outer s H E) [] (qS N vs) H s1:=Dl S hr.hd e0 hl r x
 refine eB (ht [] s1 (qS N vs) H _ I hq) (fun fl s' hs=>?_) fun e s' hs=>hs
 have fin:∀{σ':St} {H':Hp} {v:V} {u:Value},bz (zY CX P w K mg base N qual scope f fI A outer s H E) [] σ' H' s'->bL v u->Q v H'->CE outer P w H s Q u s':=
  fun{σ' H' v u} J rv q=>⟨v,H',J.os,J.bare,J.base,J.hok,rv,q⟩
 cases fl with
 |ret u=>
  obtain⟨v,σ',H',J,rv,q⟩:=hs
  exact fin J rv q
 |next=>
  obtain⟨σ',H',J,q⟩:=hs
  exact fin (v:=V.non) (u:=Value.none) J rfl q
 |brk=>
  obtain⟨_,_,_,q⟩:=hs
  exact False.elim q
 |cont=>
  obtain⟨_,_,_,q⟩:=hs
  exact False.elim q
section
variable{X:Cx}{t:TA}{T:String}{r:List V->Hp->VK->Prop}
def Wg(r:List V->Hp->VK->Prop)(t:TA):TE:=fun σ H Q=>t σ H fun vs H1=>r vs H1 Q
theorem xM(hc:iA X (.builtin id) r)(hg:Gl X x)(hm:X.mg x=none)(hv:bootBuiltins x=some (.builtin id))(ha:PA X (e::es) t)(hn:x ≠ "__name__":=by decide)(I0:(x==("__debug__":Str))=false:=by decide)
  (he:starEach (e::es) X.env=(false,eval e X.env)::starEach es X.env:=by rfl) (rf:(backTo pos (starEach es X.env)).any (·.1)=false:=by rfl):PE X (.Call (.Name x p) (e::es) [] pos) (Wg r t):=by
 intro pins s σ H Q I h
 refine iu (lc I hg hm hv ?_ hn I0)
 exact PyProof.Rows.callWith_builtin1 (fJ (ha pos pins s σ H _ I h) fun us s1 ⟨vs,H1,I1,r1,q1⟩=>hc pins s1 σ H1 vs us Q I1 r1 q1) he rf
theorem Dm(hc:iA X (.type T) r)(hg:Gl X x)(hm:X.mg x=none)(hv:bootBuiltins x=some (.type T))(ha:PA X (e::es) t)(hn:x ≠ "__name__":=by decide)(I0:(x==("__debug__":Str))=false:=by decide)
  (he:starEach (e::es) X.env=(false,eval e X.env)::starEach es X.env:=by rfl) (rf:(backTo pos (starEach es X.env)).any (·.1)=false:=by rfl):PE X (.Call (.Name x p) (e::es) [] pos) (Wg r t):=by
 intro pins s σ H Q I h
 refine iu (lc I hg hm hv ?_ hn I0)
 exact b_ (fJ (ha pos pins s σ H _ I h) fun us s1 ⟨vs,H1,I1,r1,q1⟩=>hc pins s1 σ H1 vs us Q I1 r1 q1) he rf
end
end L2
variable{xs:List (List L2.f6×PySem.Addr×PySem.Value)}{H H':L2.Hp}{X:L2.Cx}{σ:L2.St}{y:L2.V}{te:L2.TE}{vs:List L2.V}
namespace HT
open PySem PyProof.Rows
def lexLt:List Int->List Int->Bool
 |[],[]=>false
 |[],_::_=>true
 |_::_,[]=>false
 |x::xs,y::ys=>if x=y then lexLt xs ys else decide (x<y)
theorem lexLt_cons(x y:Int)(xs ys:List Int):lexLt (x::xs) (y::ys)=if x=y then lexLt xs ys else decide (x<y):=rfl
theorem lexLt_nil_nil:lexLt [] []=false:=rfl
theorem r6(y:Int)(ys:List Int):lexLt [] (y::ys)=true:=rfl
theorem r_(x:Int)(xs:List Int):lexLt (x::xs) []=false:=rfl
theorem EL(A:Around)(s:Shared)(a:Int)(t:Tok)(c:Int)(u:Tok):∃e,SeqAt.EqAt A s (.int a t) (.int c u) e/\(e=true↔a=c):=
 ⟨(a==c),SeqAt.EqAt.int_int a t c u,by simp⟩
theorem EM(A:Around)(s:Shared)(a:Int)(t:Tok)(c:Int)(u:Tok)(prog:Program)(w:World)(E:Value->Shared->Prop)(Q:Value->Shared->Prop)(h:Q (.bool (decide (a<c))) s) :
  wpAny (model prog w) A (richCompare .Lt (.int a t) (.int c u)) Q E s:=
 (PyProof.Rows.lt_int h:wpAny (model prog w) A (compareOp .Lt (.int a t) (.int c u)) Q E s)
section
open PySem.SeqAt
open PySem.AutoSeq1 (wpAny_loadPart')
open PySem.MeetsSeq PySem.MeetsSeq2 PySem.MeetsSeq3
theorem uv(l b:Addr)(items g6:Array Value)(n n2:Nat)(dd RT:Option Addr)(sl LD:Array (Option Value))(ns ms:List Int)(hi:IntsAre items.toList ns)(hj:IntsAre g6.toList ms) :
  Meets (Builtin.«tuple.__lt__» ⟨[.ref l,.ref b],[]⟩)
   (fun _ R s=>s.heap.get? l=some { cls:=.type "tuple",dict:=dd,data:=.seq items n,slots:=sl }/\s.heap.get? b=some { cls:=.type "tuple",dict:=RT,data:=.seq g6 n2,slots:=LD } /\
    R (.ok (.ret (.bool (lexLt ns ms)))) s):=
 .of_wp fun prog w A R s h=>by
  obtain⟨hp,g,d,tk,os⟩:=s;obtain⟨hl,hb,h⟩:=h
  have f2:=li
  have z1:items.size=ns.length:=by rw[<- hi.length];simp
  have z2:g6.size=ms.length:=by rw[<- hj.length];simp
  wp_walk using bA hl,bA hb,gX _ (fun de b s'=>b.1=none/\s'=⟨hp,g,d,tk,os⟩/\∃(vs ws:List Value) (RP R1:List Int),de=vs.zip ws /\
   IntsAre vs RP/\IntsAre ws R1/\RP.length+g6.size=R1.length+items.size/\R (.ok (.ret (.bool (lexLt RP R1)))) ⟨hp,g,d,tk,os⟩) _
  case turn=>
   rintro⟨y,x⟩ de b s' ⟨hb',rfl,vs,ws,RP,R1,hz,hvi,hwi,cY,hR⟩
   cases hvi with
   |nil=>rw[List.zip_nil_left]at hz;cases hz
   |cons a t hvi'=>
    cases hwi with
    |nil=>rw[List.zip_nil_right]at hz;cases hz
    |cons c u hwi'=>
     rw[List.zip_cons_cons]at hz
     injection hz with hyx Jc
     injection hyx with hy hx
     subst hy hx
     rw[lexLt_cons]at hR
     simp only[bv]at cY
     obtain⟨e,he,hiff⟩:=EL A.in1 ⟨hp,g,d,tk,os⟩ a t c u
     refine ae (he prog w _ _ ?_)
     cases e with
     |true=>
      rw[ar (hiff.mp rfl)]at hR
      wp_walk
      exact⟨rfl,rfl,_,_,_,_,Jc,hvi',hwi',by omega,hR⟩
     |false=>
      rw[az (fun q=>absurd (hiff.mpr q) bK)]at hR
      have hri:=EM A.in1 ⟨hp,g,d,tk,os⟩ a t c u prog w
      wp_walk using hri
      exact⟨_,rfl,by simpa using hR⟩
  case fin=>
   rintro⟨b1,b2⟩ s' ⟨hb',rfl,vs,ws,RP,R1,hz,hvi,hwi,cY,hR⟩
   simp only at hb'
   subst hb'
   have hv:lexLt RP R1=decide (items.size<g6.size):=by
    cases hvi with
    |nil=>
     cases hwi with
     |nil=>
      simp only[dg]at cY
      rw[lexLt_nil_nil]
      exact(aN (by omega)).symm
     |cons c u hw=>
      simp only[dg,bv]at cY
      rw[r6]
      exact(aK (by omega)).symm
    |cons a t hv=>
     cases hwi with
     |nil=>
      simp only[dg,bv]at cY
      rw[r_]
      exact(aN (by omega)).symm
     |cons c u hw=>
      rw[List.zip_cons_cons]at hz
      cases hz
   rw[hv]at hR
   wp_walk
   exact⟨_,rfl,by simpa[Builtin.Tuple.tupleCompareSizes]using hR⟩
  case h=>
   exact⟨rfl,rfl,items.toList,g6.toList,ns,ms,rfl,hi,hj,by omega,h⟩
end
section
variable{w:World}
theorem lt_tupInts{l:Addr}{g6:Array Value}{ms:List Int}(hl:IsTup s.heap l items)(hb:IsTup s.heap b g6)(hi:IntsAre items.toList ns)(hj:IntsAre g6.toList ms)
  (hu:A.units<cLine) (h:Q (.bool (lexLt ns ms)) s):wpAny (model prog w) A (compareOp .Lt (.ref l) (.ref b)) Q E s:=by
 obtain⟨⟨cls,dd,data,sl⟩,ho,hc,n,hd⟩:=id hl
 obtain⟨⟨cls2,RT,data2,LD⟩,ho2,hc2,n2,Bo⟩:=id hb
 simp only at hc hd hc2 Bo
 subst hc hd hc2 Bo
 exact richCompare_meets_room (op:=.Lt) ⟨_,ho,rfl⟩ ⟨_,ho2,rfl⟩ PySem.F.slot_tuple_lt PySem.F.entry_tuple_lt (PySem.F.args_tuple_lt_2 _ _) (uv l b items g6 n n2 dd RT sl LD ns ms hi hj)
  ⟨ho,ho2,show Value.bool (lexLt ns ms)≠Value.notImplemented/\Q (.bool (lexLt ns ms)) s from⟨(fun x=>nomatch x),h⟩⟩ hu
theorem cat_tup{t:Addr}{vs ws:List Value}(ht:IsTup s.heap t vs.toArray)(hb:IsTup s.heap b ws.toArray)(hv:vs≠[])
  (h1:ws=[]->Q (.ref t) s) (h2:ws≠[]->Q (.ref s.heap.objs.size) { s with heap:=s.heap.push { cls:=.type "tuple",data:=.seq (vs++ws).toArray } })
  (hsz:vs.length+ws.length<=sizeLine):wpAny (model prog w) A (binaryOp .Add (.ref t) (.ref b)) Q E s:=by
 obtain⟨⟨cls,dd,data,sl⟩,ho,hc,n,hd⟩:=id ht
 obtain⟨⟨cls2,RT,data2,LD⟩,ho2,hc2,n2,Bo⟩:=id hb
 simp only at hc hd hc2 Bo
 subst hc hd hc2 Bo
 have e:vs.toArray++ws.toArray=(vs++ws).toArray:=by simp
 by_cases hw:ws=[]
 ·exact qe ⟨_,ho,rfl⟩ ⟨_,ho2,rfl⟩ lW oR PySem.F.slot_tuple_add PySem.F.entry_tuple_add (PySem.F.args_tuple_add_2 _ _)
   (tuple_addW1 t b vs.toArray ws.toArray n n2 dd RT sl LD (by simpa using hv) (by simp[hw])) ⟨ho,ho2,h1 hw⟩
 ·refine qe ⟨_,ho,rfl⟩ ⟨_,ho2,rfl⟩ lW oR PySem.F.slot_tuple_add PySem.F.entry_tuple_add (PySem.F.args_tuple_add_2 _ _)
   (tuple_addW2 t b vs.toArray ws.toArray n n2 dd RT sl LD (by simpa using hv) (by simpa using hw) (by rw[aF,aF];exact hsz)) ⟨ho,ho2,?_⟩
  rw[e]
  exact h2 hw
def sIx(n d:Nat):Option Int->Nat
 |none=>d
 |some v=>if v<0 then(v+(n:Int)).toNat else min v.toNat n
theorem sIx_none(n d:Nat):sIx n d none=d:=rfl
theorem sIx_nat(n d k:Nat):sIx n d (some (k:Int))=min k n:=by
 show(if (k:Int)<0 then((k:Int)+(n:Int)).toNat else min (k:Int).toNat n)=min k n
 rw[az (by omega),bB]
theorem sIx_le(n d:Nat)(hd:d<=n)(o:Option Int):sIx n d o<=n:=by
 cases o with
 |none=>exact hd
 |some v=>
  show(if v<0 then(v+(n:Int)).toNat else min v.toNat n)<=n
  by_cases hv:v<0
  ·rw[ar hv];omega
  ·rw[az hv];exact Nat.min_le_right _ _
theorem Bw(v:Int)(n d:Nat):(if v<0 then max (v+(n:Int)) 0 else min v (n:Int))=((sIx n d (some v):Nat):Int):=by
 show(if v<0 then max (v+(n:Int)) 0 else min v (n:Int))=(((if v<0 then(v+(n:Int)).toNat else min v.toNat n):Nat):Int)
 by_cases hv:v<0
 ·simp only[ar hv];omega
 ·simp only[az hv];omega
theorem zZ(lo hi:Option Int)(n:Nat):Builtin.Slice.sliceAdjust lo hi 1 (n:Int)=(((sIx n 0 lo:Nat):Int),((sIx n n hi:Nat):Int)):=by
 have h1:¬ ((1:Int)<0):=by omega
 unfold Builtin.Slice.sliceAdjust
 simp only[h1,gq]
 refine Prod.ext ?_ ?_
 ·cases lo with
  |none=>rfl
  |some v=>exact Bw v n 0
 ·cases hi with
  |none=>rfl
  |some v=>exact Bw v n n
theorem z9(i j:Nat):Builtin.Slice.slicePlaces (i:Int) (j:Int) 1=j-i:=by
 unfold Builtin.Slice.slicePlaces
 have h1:(1:Int)>0:=by omega
 simp only[h1,dC,Int.ediv_one]
 split<;>omega
theorem se{o:Option Int}{Q:Option Int->Shared->Prop}(p:IsPart v o)(h:Q o s):wpAny (model prog w) A (Builtin.Slice.slicePartIndex v) Q E s:=by
 cases p with
 |none=>exact slicePart_none h
 |int i t=>exact slicePart_int h
theorem sliceApplied_gen{sl:Addr}{vl vu:Value}{lo hi:Option Int}{Q:Int×Int×Nat->Shared->Prop}(hs:s.heap.IsSliceOf sl vl vu .none)(pl:IsPart vl lo)(pu:IsPart vu hi)
  (h:Q (((sIx n 0 lo:Nat):Int),1,sIx n n hi-sIx n 0 lo) s):wpAny (model prog w) A (Builtin.Slice.sliceApplied (.ref sl) (pure (n:Int))) Q E s:=by
 obtain⟨os,hos,hcs,zR⟩:=id hs
 unfold Builtin.Slice.sliceApplied Builtin.Slice.sliceFields
 refine ae (ae (cG hos zR (x:=vl) rfl (ae (cG hos zR (x:=vu) rfl (ae (cG hos zR (x:=.none) rfl (ao ?_)))))))
 refine ae (slicePart_none ?_)
 show wpAny _ _ (if ((1:Int)==0)=true then _ else _) _ _ s
 rw[az (by decide)]
 refine ae (se pl (ae (se pu (ae (ao ?_)))))
 show wpAny _ _ (match Builtin.Slice.sliceAdjust lo hi 1 (n:Int)with|(lo,hi)=>pure (lo,(1:Int),Builtin.Slice.slicePlaces lo hi 1)) _ _ s
 rw[zZ lo hi n]
 show wpAny _ _ (pure (((sIx n 0 lo:Nat):Int),(1:Int),Builtin.Slice.slicePlaces ((sIx n 0 lo:Nat):Int) ((sIx n n hi:Nat):Int) 1)) _ _ s
 rw[z9]
 exact ao h
theorem EN(xs:Array Value)(i k:Nat):((List.range k).filterMap fun(m:Nat)=>xs[((i:Int)+(m:Int)*1).toNat]?).toArray=((xs.toList.drop i).take k).toArray:=by
 have e:(fun(m:Nat)=>xs[((i:Int)+(m:Int)*1).toNat]?)=fun m=>xs[i+m]?:=by
  funext m
  have:((i:Int)+(m:Int)*1).toNat=i+m:=by omega
  rw[this]
 rw[e]
 have:=pick_run xs i k
 rw[List.filterMap_map]at this
 have e2:((fun x=>xs[x]?)∘fun x=>i+x)=fun m=>xs[i+m]?:=rfl
 rw[e2]at this
 rw[this]
theorem getItem_tuple_cut{t sl:Addr}{vl vu:Value}{lo hi:Option Int}(ht:IsTup s.heap t items)(hs:s.heap.IsSliceOf sl vl vu .none)(pl:IsPart vl lo)(pu:IsPart vu hi)
  (hw:¬ (sIx items.size 0 lo=0/\sIx items.size items.size hi=items.size))
  (h:Q (.ref s.heap.objs.size) { s with heap:=s.heap.push { cls:=.type "tuple",data:=.seq ((items.toList.drop (sIx items.size 0 lo)).take (sIx items.size items.size hi-sIx items.size 0 lo)).toArray } })
  (hsz:items.size<=sizeLine):wpAny (model prog w) A (getItem (.ref t) (.ref sl)) Q E s:=by
 have htake:sizeOk (.seq ((items.toList.drop (sIx items.size 0 lo)).take (sIx items.size items.size hi-sIx items.size 0 lo)).toArray):=by
  show((items.toList.drop (sIx items.size 0 lo)).take (sIx items.size items.size hi-sIx items.size 0 lo)).toArray.size<=sizeLine
  rw[aF,aZ,fS,eJ]
  omega
 have hj:sIx items.size items.size hi<=items.size:=sIx_le _ _ (aw _) hi
 obtain⟨os,hos,hcs,zR⟩:=id hs
 have hTs:s.TypeIs (.ref sl) "slice":=⟨os,hos,hcs⟩
 unfold getItem
 try with_reducible refine cE ?_
 first|refine ae (ao ?_)|skip
 refine ae (wpAny_sequenceKey ht.typeIs (by decide) ?_)
 refine ae (bS (name:=Str.ofString "__getitem__") ht.typeIs dF
  (cu dF ht.typeIs entry_tuple_getitem ?_ (args_tuple_getitem _ _)))
 show wpAny _ _ (Builtin.Tuple.tupleItemsOf (.ref t) >>= _) _ _ s
 refine ae (tupleItemsOf_ ht ?_)
 refine ae (qf hTs ?_)
 rw[ar (by decide)]
 refine ae (sliceApplied_gen hs pl pu ?_)
 have hno:¬ ((((sIx items.size 0 lo:Nat):Int)==0&&(1:Int)==1&&(sIx items.size items.size hi-sIx items.size 0 lo)==items.size)=true):=by
  intro q
  rw[bw,bw]at q
  have q1:((sIx items.size 0 lo:Nat):Int)=0:=lX q.1.1
  have q2:sIx items.size items.size hi-sIx items.size 0 lo=items.size:=lX q.2
  exact hw ⟨by omega,by omega⟩
 show wpAny _ _ (if (((sIx items.size 0 lo:Nat):Int)==0&&(1:Int)==1&&(sIx items.size items.size hi-sIx items.size 0 lo)==items.size)=true then _ else _) _ _ s
 rw[az hno,EN]
 first
  |exact ae (m:=Builtin.Tuple.tupleExact _) (dB (ao ⟨_,rfl,ao h⟩) htake)
  |exact ae (m:=Builtin.Tuple.tupleExact _) (dB (ae (ao (ao ⟨_,rfl,ao h⟩))) htake)
  |exact ae (ae (m:=Builtin.Tuple.tupleExact _) (dB (ao (ao ⟨_,rfl,ao h⟩)) htake))
  |exact ae (ae (m:=Builtin.Tuple.tupleExact _) (dB (ao ⟨_,rfl,ao h⟩) htake))
end
end HT
namespace L2
open PySem PySem.Spec PyProof.Rows
abbrev TO:=St->Hp->(Option Int->Hp->Prop)->Prop
def PO(X:Cx)(e:Option Expr)(t:TO):Prop:=
 ∀(pins:List (Addr×Obj)) (s:Shared) (σ:St) (H:Hp) (Q:Option Int->Hp->Prop),bz X pins σ H s->t σ H Q ->
  wpAny (model X.prog X.w) X.A (evalPart e X.env) (fun u s'=>∃o H',bz X pins σ H' s'/\IsPart u o/\Q o H') X.xe s
def JK:TO:=fun _ H Q=>Q none H
def Sv(t:TE):TO:=fun σ H Q=>t σ H fun x H1=>∃i,x=.int i/\Q (some i) H1
theorem mh:∀{us:List Value},cv (ns.map V.int) us->IntsAre us ns:=by
 induction ns with
 |nil=>intro us r;rw[dD]at r;cases r;exact .nil
 |cons n ns ih=>
  intro us r
  rw[aH]at r
  cases r with
  |cons r1 r2=>
   obtain⟨t,e⟩:=r1
   subst e
   exact .cons n t (ih r2)
section
variable{lo hi:Option Expr}{tl th:TO}
theorem JL:PO X none JK:=by
 intro pins s σ H Q I h
 rw[evalPart_none]
 exact ao ⟨none,H,I,.none,h⟩
theorem JM(h:PE X e te):PO X (some e) (Sv te):=by
 intro pins s σ H Q I hw
 rw[evalPart_some]
 refine fJ (h pins s σ H _ I hw) fun u s1 ⟨x,H1,I1,r1,q1⟩=>?_
 obtain⟨i,rfl,q⟩:=q1
 obtain⟨t,rfl⟩:=r1
 exact⟨some i,H1,I1,.int i t,q⟩
def Sw(X:Cx)(r:V->Option Int->Option Int->Hp->VK->Prop):Prop:=
 ∀(pins:List (Addr×Obj)) (s:Shared) (σ:St) (H:Hp) (x:V) (v vl vu:Value) (lo hi:Option Int) (sl:Addr) (Q:VK),bz X pins σ H s->bL x v->s.heap.IsSliceOf sl vl vu .none->IsPart vl lo->IsPart vu hi->r x lo hi H Q ->
  ∃T id,typeLookup (.type T) "__getitem__"=pure (some (.builtin id))/\s.TypeIs v T/\wpAny (model X.prog X.w) X.A (getItem v (.ref sl)) (EP X pins σ Q) X.xe s
def Xo(r:V->Option Int->Option Int->Hp->VK->Prop)(te:TE)(tl th:TO):TE:=fun σ H Q=>te σ H fun x H1=>tl σ H1 fun l H2=>th σ H2 fun u H3=>r x l u H3 Q
theorem EO{r:V->Option Int->Option Int->Hp->VK->Prop}(hr:Sw X r)(he:PE X e te)(hl:PO X lo tl)(hu:PO X hi th):PE X (.Subscript e (.Slice lo hi none p2) pos) (Xo r te tl th):=by
 intro pins s σ H Q I h
 refine Subscript_ (fJ (he pins s σ H _ I h) fun v s1 ⟨x,H1,I1,r1,q1⟩=>?_)
 refine wpAny_Slice (fJ (hl pins s1 σ H1 _ I1 q1) fun vl s2 ⟨l,H2,I2,pl,q2⟩=>fJ (hu pins s2 σ H2 _ I2 q2) fun vu s3 ⟨u,H3,I3,pu,q3⟩=>?_)
 rw[evalPart_none]
 refine ao ?_
 have I4:bz X pins σ H3 { s3 with heap:=s3.heap.push { cls:=.type "slice",data:=.fields #[vl,vu,.none] } }:=I3.kept (t':=s3.toks) fun b ob q=>am _ q
 obtain⟨T,id,hT,ht,hg⟩:=hr pins { s3 with heap:=s3.heap.push { cls:=.type "slice",data:=.fields #[vl,vu,.none] } } σ H3 x v vl vu l u s3.heap.objs.size Q I4 r1 (Heap.IsSliceOf.new ..) pl pu q3
 show wpAny (model X.prog X.w) X.A (subscriptTail e (.Slice lo hi none p2) v (.ref s3.heap.objs.size)) (EP X pins σ Q) X.xe { s3 with heap:=s3.heap.push { cls:=.type "slice",data:=.fields #[vl,vu,.none] } }
 exact tail_any (ops:=[.ref s3.heap.objs.size,v]) ht hT hg (by with_unfolding_all rfl)
def sf(xs:List V)(lo hi:Option Int):List V:=(xs.drop (HT.sIx xs.length 0 lo)).take (HT.sIx xs.length xs.length hi-HT.sIx xs.length 0 lo)
theorem qT(xs:List V)(lo hi:Option Int):(sf xs lo hi).length<=xs.length:=by
 unfold sf
 rw[aZ,fS]
 omega
def Wh(K:Frag):V->Option Int->Option Int->Hp->VK->Prop:=fun x lo hi H Q=>∃a xs,x=.ref a/\eF K H a xs /\
 ¬ (HT.sIx xs.length 0 lo=0/\HT.sIx xs.length xs.length hi=xs.length)/\∀p,H p=none->Q (.ref p) (eR H p (.tup (sf xs lo hi)))
theorem OK:Sw X (Wh X.K):=by
 intro pins s σ H x v vl vu lo hi sl Q I rx hs pl pu h
 obtain⟨a,xs,rfl,hx,hw,q⟩:=h
 cases rx
 obtain⟨bn,r,ht,hz⟩:=I.tuple hx
 have cY:bn.toArray.size=xs.length:=by rw[aF];exact r.length.symm
 refine⟨"tuple",_,dF.lookup,ht.typeIs,?_⟩
 refine HT.getItem_tuple_cut ht hs pl pu (by rw[cY];exact hw) ?_ (by rw[cY];exact hz)
 rw[cY]
 refine⟨.ref s.heap.objs.size,_,I.laid (t':=s.toks) (o:=.tup (sf xs lo hi)) (fun b ob q=>am _ q) (aw _) ?_,rfl,q _ (I.hok.fresh (aw _))⟩
 exact⟨aR (qT xs lo hi) hz,_,(r.drop (HT.sIx xs.length 0 lo)).take (HT.sIx xs.length xs.length hi-HT.sIx xs.length 0 lo),qR _ _⟩
def Wi(K:Frag):R2:=fun x y H Q=>∃a b ns ms,x=.ref a/\y=.ref b/\eF K H a (ns.map V.int)/\eF K H b (ms.map V.int)/\Q (.bl (HT.lexLt ns ms)) H
theorem OL(hu:X.A.units<cLine):lv X (compareOp .Lt) (Wi X.K):=by
 intro pins s σ H x y v u Q I rx ry h
 obtain⟨a,b,ns,ms,rfl,rfl,ha,hb,q⟩:=h
 cases rx
 cases ry
 obtain⟨bn,r1,p1,_⟩:=I.tuple ha
 obtain⟨its2,r2,p2,_⟩:=I.tuple hb
 have i1:IntsAre bn.toArray.toList ns:=mh r1
 have i2:IntsAre its2.toArray.toList ms:=mh r2
 exact HT.lt_tupInts p1 p2 i1 i2 hu ⟨.bl (HT.lexLt ns ms),H,I,rfl,q⟩
def Sx(K:Frag):R2:=fun x y H Q=>∃a b xs ys,x=.ref a/\y=.ref b/\eF K H a xs/\eF K H b ys/\xs≠[]/\xs.length+ys.length<=sizeLine /\
 (ys=[]->Q (.ref a) H)/\(ys≠[]->∀p,H p=none->Q (.ref p) (eR H p (.tup (xs++ys))))
theorem cv.nil_iff{xs:List V}(r:cv xs us):us=[]↔xs=[]:=by
 cases r with
 |nil=>simp
 |cons _ _=>simp
theorem JN:lv X (binaryOp .Add) (Sx X.K):=by
 intro pins s σ H x y v u Q I rx ry h
 obtain⟨a,b,xs,ys,rfl,rfl,ha,hb,hx,hz,q1,q2⟩:=h
 cases rx
 cases ry
 obtain⟨bn,r1,p1,_⟩:=I.tuple ha
 obtain⟨its2,r2,p2,_⟩:=I.tuple hb
 refine HT.cat_tup p1 p2 (fun z=>hx (r1.nil_iff.mp z)) (fun z=>⟨.ref a,H,I,rfl,q1 (r2.nil_iff.mp z)⟩) (fun z=>?_) (by rw[<- r1.length,<- r2.length];exact hz)
 refine⟨.ref s.heap.objs.size,_,I.laid (t':=s.toks) (o:=.tup (xs++ys)) (fun b ob q=>am _ q) (aw _) ?_,rfl,q2 (fun w=>z (r2.nil_iff.mpr w)) _ (I.hok.fresh (aw _))⟩
 exact⟨by rw[aB];exact hz,_,r1.append r2,qR _ _⟩
theorem xN:iA X (.type "tuple") (fun xs H Q=>∃a ys,xs=[.ref a]/\eF X.K H a ys/\Q (.ref a) H):=by
 intro pins s σ H xs us Q I r h
 obtain⟨a,ys,rfl,ha,q⟩:=h
 obtain⟨u,rfl,ru⟩:=jI r
 cases ru
 obtain⟨bn,_,p1,_⟩:=I.tuple ha
 exact call_tuple_same (items:=bn.toArray) p1 ⟨.ref a,H,I,rfl,q⟩
end
def Bx(n:Nat)(i:Int):Option Nat:=if 0<=i then(if i<n then some i.toNat else none)else if -(n:Int)<=i then some (i+n).toNat else none
def pG(xs:List α)(i:Int):Option α:=(Bx xs.length i).bind fun j=>xs[j]?
theorem By{i:Int}(h:Bx n i=some j):seqIndex? i n=some j/\j<n/\-(n:Int)<=i/\i<n:=by
 unfold Bx at h
 by_cases h0:0<=i
 ·rw[ar h0]at h
  by_cases h1:i<n
  ·rw[ar h1]at h
   have e:i.toNat=j:=aY h
   exact⟨by rw[seqIndex_of h0 h1,e],by omega,by omega,h1⟩
  ·rw[az h1]at h;cases h
 ·rw[az h0]at h
  by_cases h1:-(n:Int)<=i
  ·rw[ar h1]at h
   have e:(i+n).toNat=j:=aY h
   exact⟨by rw[qg (by omega) h1,e],by omega,h1,by omega⟩
  ·rw[az h1]at h;cases h
theorem vZ{xs:List α}{i:Int}{v:α}(h:pG xs i=some v):∃j,seqIndex? i xs.length=some j/\xs[j]?=some v/\j<xs.length/\-(xs.length:Int)<=i/\i<xs.length:=by
 unfold pG at h
 cases e:Bx xs.length i with
 |none=>rw[e]at h;cases h
 |some j=>
  rw[e]at h
  obtain⟨h1,h2,h3,h4⟩:=By e
  exact⟨j,h1,h,h2,h3,h4⟩
def Bz(b:Expr):Prop:=∀o i,subscripted b false o i=operate [o,i] (getItem o i)
def Jk(X:Cx)(r:R2):Prop:=
 ∀(value slice:Expr) (pins:List (Addr×Obj)) (s:Shared) (σ:St) (H:Hp) (x y:V) (v u:Value) (Q:VK),bz X pins σ H s->bL x v->bL y u->r x y H Q ->
  subscripted slice false v u=operate [v,u] (getItem v u)->wpAny (model X.prog X.w) X.A (subscriptTail value slice v u) (EP X pins σ Q) X.xe s
def Dn(X:Cx)(id:String)(r:V->List V->Hp->VK->Prop):Prop:=
 ∀(pins:List (Addr×Obj)) (s:Shared) (σ:St) (H:Hp) (x:V) (xs:List V) (v:Value) (us:List Value) (Q:VK),bz X pins σ H s->bL x v->cv xs us->r x xs H Q ->
  wpAny (model X.prog X.w) X.A (call (.builtin id) (v::us)) (EP X pins σ Q) X.xe s
section
variable{a b:Expr}{ta tb:TE}
theorem Jk.or{r r':R2}(h:Jk X r)(h':Jk X r'):Jk X (fun x y H Q=>r x y H Q\/r' x y H Q):=by
 intro value slice pins s σ H x y v u Q I rx ry q hs
 rcases q with q|q
 ·exact h value slice pins s σ H x y v u Q I rx ry q hs
 ·exact h' value slice pins s σ H x y v u Q I rx ry q hs
theorem Sy{r:R2}(hr:Jk X r)(ha:PE X a ta)(hb:PE X b tb)(hs:Bz b):PE X (.Subscript a b pos) (Si r ta tb):=by
 intro pins s σ H Q I h
 exact Subscript_ (Ox ha hb I h fun v u s2 x y H2 I2 rx ry q=>hr a b pins s2 σ H2 x y v u Q I2 rx ry q (hs _ _))
def Sz(K:Frag):R2:=fun x y H Q=>∃p xs i v,x=.ref p/\y=.int i/\pD K H p xs/\pG xs i=some v/\Q v H
def SC(K:Frag):R2:=fun x y H Q=>∃p xs i v,x=.ref p/\y=.int i/\eF K H p xs/\pG xs i=some v/\Q v H
def SD:R2:=fun x y H Q=>∃z i c,x=.str z/\y=.int i/\z.length<=sizeLine/\pG z.cps.toList i=some c/\Q (.str ⟨#[c]⟩) H
theorem JO:Jk X (Sz X.K):=by
 intro value slice pins s σ H x y v u Q I rx ry h hs
 obtain⟨p,xs,i,z,rfl,rfl,hq,he,q⟩:=h
 cases rx
 obtain⟨t,rfl⟩:=ry
 obtain⟨bn,r,pl,hz⟩:=I.list hq
 obtain⟨j,h1,h2,h3,h4,h5⟩:=vZ he
 obtain⟨w,ew,jp⟩:=r.get h2
 have hl:=r.length
 have hn:=qp
 have fin:EP X pins σ Q w s:=⟨z,H,I,jp,q⟩
 by_cases h0:0<=i
 ·have hj:i.toNat=j:=by
   rw[seqIndex_of h0 h5]at h1
   exact aY h1
  exact item_listR pl.isList h0 (by omega) (by rw[hj];simpa using ew) fin hs
 ·have hj:(i+(bn.toArray.size:Int)).toNat=j:=by
   rw[qg (by omega) h4]at h1
   rw[aF,<- hl]
   exact aY h1
  exact mL (x:=w) pl.isList.typeIs slot_list_getitem.lookup
   (wpAny_getItem_list_neg (Q:=fun r s'=>r=w/\EP X pins σ Q r s') pl.isList (by omega) (by rw[aF]<;>omega) (by omega) (by rw[hj];simpa using ew) ⟨rfl,fin⟩) hs
theorem OM:Jk X (SC X.K):=by
 intro value slice pins s σ H x y v u Q I rx ry h hs
 obtain⟨p,xs,i,z,rfl,rfl,hq,he,q⟩:=h
 cases rx
 obtain⟨t,rfl⟩:=ry
 obtain⟨bn,r,pl,hz⟩:=I.tuple hq
 obtain⟨j,h1,h2,h3,h4,h5⟩:=vZ he
 obtain⟨w,ew,jp⟩:=r.get h2
 have hl:=r.length
 have hn:=qp
 have fin:EP X pins σ Q w s:=⟨z,H,I,jp,q⟩
 exact mL (x:=w) pl.typeIs slot_tuple_getitem.lookup
  (getItem_tuple (j:=j) (Q:=fun r s'=>r=w/\EP X pins σ Q r s') pl (by omega) (by omega) (by rw[aF,<- hl];exact h1) (by simpa using ew) ⟨rfl,fin⟩) hs
theorem ON:Jk X SD:=by
 intro value slice pins s σ H x y v u Q I rx ry h hs
 obtain⟨z,i,c,rfl,rfl,hz,he,q⟩:=h
 obtain⟨t,rfl⟩:=rx
 obtain⟨t',rfl⟩:=ry
 obtain⟨j,h1,h2,h3,h4,h5⟩:=vZ he
 have hl:z.cps.toList.length=z.length:=by simp[Str.length]
 rw[hl]at h1 h4 h5
 have hn:=qp
 exact tail_any (typeIs_str s z t) slot_str_getitem.lookup (getItem_str (c:=c) (by
  have e1:decide (i < -(2^63:Int))=false:=aN (by omega)
  have e2:decide (i≥2^63)=false:=aN (by omega)
  rw[e1,e2,Bool.or_false]) (by rw[h1];simpa using h2) ⟨.str ⟨#[c]⟩,H,I.tok _,⟨_,rfl⟩,q⟩) hs
def Xp(K:Frag):R2:=fun x y H Q=>Sz K x y H Q\/SC K x y H Q\/SD x y H Q
theorem OO:Jk X (Xp X.K):=JO.or (OM.or ON)
theorem z_(bn:List Value)(n j:Nat)(u:Value):Obj.mapSeq (·.setIfInBounds j u) { cls:=.type "list",data:=.seq bn.toArray n }={ cls:=.type "list",data:=.seq (bn.set j u).toArray n }:=by
 simp[Obj.mapSeq]
theorem bz.lst{p:Addr}{xs:List V}(I:bz X pins σ H s)(h:H p=some (.lst xs)) :
  ∃(bn:List Value) (n:Nat),cv xs bn/\s.heap.get? p=some { cls:=.type "list",data:=.seq bn.toArray n }/\xs.length<=sizeLine:=by
 obtain⟨z,bn,n,r,e⟩:=I.hok p _ h
 exact⟨bn,n,r,e,z⟩
theorem bz.lstUpd{p:Addr}{xs ys:List V}{bn its':List Value}{n':Nat}{f:Obj->Obj}(I:bz X pins σ H s)(h:H p=some (.lst xs))
  (ho:s.heap.get? p=some { cls:=.type "list",data:=.seq bn.toArray n }) (hf:f { cls:=.type "list",data:=.seq bn.toArray n }={ cls:=.type "list",data:=.seq its'.toArray n' }) (r:cv ys its') (hz:ys.length<=sizeLine) (t:Nat) :
  bz X pins σ (eR H p (.lst ys)) { s with heap:=s.heap.update p f,toks:=t }:=by
 have e:(s.heap.update p f).get? p=some { cls:=.type "list",data:=.seq its'.toArray n' }:=by
  rw[gw f ho (by rw[hf]<;>rfl),hf]
 refine I.write (x:=p) (e:=p) (by rw[h];trivial) (.inl rfl) (fun b u hb q=>(iK _ _ (Ne.symm hb)).trans q) ⟨_,e⟩ ?_
 exact⟨hz,its',n',r,e⟩
def SF:V->V->V->Hp->(Hp->Prop)->Prop:=fun o i v H Q=>∃p xs k j,o=.ref p/\i=.int k/\H p=some (.lst xs)/\Bx xs.length k=some j/\Q (eR H p (.lst (xs.set j v)))
theorem EQ:zS X SF:=by
 intro pins s σ H o i v ov iv u Q I ro ri rv h
 obtain⟨p,xs,k,j,rfl,rfl,hp,hj,q⟩:=h
 cases ro
 obtain⟨t,rfl⟩:=ri
 obtain⟨bn,n,r,ho,hz⟩:=I.lst hp
 obtain⟨h1,h2,h3,h4⟩:=By hj
 have hl:=r.length
 have hn:=qp
 have I':bz X pins σ (eR H p (.lst (xs.set j v))) { s with heap:=s.heap.update p (Obj.mapSeq (·.setIfInBounds j u)) }:=
  I.lstUpd hp ho (z_ bn n j u) (r.set rv j) (by rw[List.length_set];exact hz) s.toks
 by_cases h0:0<=k
 ·have hk:k.toNat=j:=by
   rw[seqIndex_of h0 h4]at h1
   exact aY h1
  exact PySem.W.ki_setAt ho h0 (by omega) (by rw[aF,<- hl];exact h4) (by rw[hk];exact⟨_,I',q⟩)
 ·have hk:(k+(bn.toArray.size:Int)).toNat=j:=by
   rw[qg (by omega) h3]at h1
   rw[aF,<- hl]
   exact aY h1
  exact PySem.W.ki_setBack ho (by omega) (by rw[aF,<- hl];exact h3) (by omega) (by rw[hk];exact⟨_,I',q⟩)
theorem v0(lo hi:Option Int)(n:Nat):(sliceBounds lo hi none n).1=((HT.sIx n 0 lo:Nat):Int)/\(sliceBounds lo hi none n).2.1=((HT.sIx n n hi:Nat):Int)/\(sliceBounds lo hi none n).2.2=1:=by
 refine⟨?_,?_,rfl⟩
 ·cases lo with
  |none=>simp[sliceBounds,HT.sIx]
  |some i=>
   simp only[sliceBounds,HT.sIx,Option.getD_none,show(1:Int)>0 by decide,dC]
   by_cases h:i<0
   ·simp only[h,dC]<;>omega
   ·simp only[h,gq]<;>omega
 ·cases hi with
  |none=>simp[sliceBounds,HT.sIx]
  |some i=>
   simp only[sliceBounds,HT.sIx,Option.getD_none,show(1:Int)>0 by decide,dC]
   by_cases h:i<0
   ·simp only[h,dC]<;>omega
   ·simp only[h,gq]<;>omega
theorem uw(bn:List Value)(lo hi:Option Int):slicePick bn.toArray lo hi none=((bn.drop (HT.sIx bn.length 0 lo)).take (HT.sIx bn.length bn.length hi-HT.sIx bn.length 0 lo)).toArray:=by
 obtain⟨h1,h2,h3⟩:=v0 lo hi bn.toArray.size
 unfold slicePick
 rw[h1,h2,h3]
 simp only[sliceRange_one,pick_run,aF]<;>rfl
def Wj(K:Frag):V->Option Int->Option Int->Hp->VK->Prop:=fun x lo hi H Q=>∃a xs,x=.ref a/\pD K H a xs/\∀p,H p=none->Q (.ref p) (eR H p (.lst (sf xs lo hi)))
theorem JP:Sw X (Wj X.K):=by
 intro pins s σ H x v vl vu lo hi sl Q I rx hs pl pu h
 obtain⟨a,xs,rfl,hx,q⟩:=h
 cases rx
 obtain⟨bn,r,ht,hz⟩:=I.list hx
 have cY:=r.length
 refine⟨"list",_,slot_list_getitem.lookup,ht.isList.typeIs,?_⟩
 refine wpAny_getItem_list_slice ht.isList hs pl pu .none (by simp) ?_ (by rw[aF]<;>omega)
 rw[uw,<- cY]
 refine⟨.ref s.heap.objs.size,_,I.laid (t':=s.toks) (o:=.lst (sf xs lo hi)) (fun b ob q=>am _ q) (aw _) ?_,rfl,q _ (I.hok.fresh (aw _))⟩
 exact⟨aR (qT xs lo hi) hz,_,0,(r.drop (HT.sIx xs.length 0 lo)).take (HT.sIx xs.length xs.length hi-HT.sIx xs.length 0 lo),aC _ rfl⟩
theorem pH:iA X (.builtin "len") (fun xs H Q=>∃p ys,xs=[.ref p]/\(pD X.K H p ys\/eF X.K H p ys)/\Q (.int ys.length) H):=by
 intro pins s σ H xs us Q I r h
 obtain⟨p,ys,rfl,hq,q⟩:=h
 obtain⟨u,rfl,rx⟩:=jI r
 cases rx
 have hn:=qp
 rcases hq with hq|hq
 ·obtain⟨bn,r',pl,hz⟩:=I.list hq
  have cY:=r'.length
  exact Calls.call_len_list pl.isList (by simp only[aF]<;>omega) ⟨.int ys.length,H,I.tok _,⟨s.toks+1,by rw[aF,cY]⟩,q⟩
 ·obtain⟨bn,r',pl,hz⟩:=I.tuple hq
  have cY:=r'.length
  exact len_tuple pl (by simp only[aF]<;>omega) ⟨.int ys.length,H,I.tok _,⟨s.toks+1,by rw[aF,cY]⟩,q⟩
theorem v5:iA X (.builtin "len") (fun xs H Q=>∃z,xs=[.str z]/\z.length<=sizeLine/\Q (.int z.length) H):=by
 intro pins s σ H xs us Q I r h
 obtain⟨z,rfl,hz,q⟩:=h
 obtain⟨u,rfl,t,rfl⟩:=jI r
 have hn:=qp
 exact len_str (by omega) ⟨.int z.length,H,I.tok _,⟨_,rfl⟩,q⟩
theorem v6:iA X (.type "list") (fun xs H Q=>∃p ys,xs=[.ref p]/\(pD X.K H p ys\/eF X.K H p ys)/\∀l,H l=none->Q (.ref l) (eR H l (.lst ys))):=by
 intro pins s σ H xs us Q I r h
 obtain⟨p,ys,rfl,hq,q⟩:=h
 obtain⟨u,rfl,rx⟩:=jI r
 cases rx
 have fin:∀(bn:List Value),cv ys bn->ys.length<=sizeLine->∀(h':Heap) (c':Nat),(∀b o',s.heap.get? b=some o'->h'.get? b=some o') ->
   h'.get? s.heap.objs.size=some { cls:=.type "list",dict:=none,data:=.seq bn.toArray c',slots:=#[] }->EP X pins σ Q (.ref s.heap.objs.size) { s with heap:=h' }:=fun bn r' hz h' c' kp e=>
  ⟨.ref s.heap.objs.size,_,I.laid (t':=s.toks) kp (aw _) (show eS X.prog X.w _ h' _ (.lst ys)from⟨hz,bn,c',r',e⟩),rfl,q _ (I.hok.fresh (aw _))⟩
 rcases hq with hq|hq
 ·obtain⟨bn,r',pl,hz⟩:=I.list hq
  have cY:=r'.length
  obtain⟨o,ho,hc,n,hd⟩:=pl.isList
  exact call_list_seq p (.inl rfl) ho hc hd (fun h' c' kp e=>fin bn r' hz h' c' kp e) (by simp only[aF]<;>omega)
 ·obtain⟨bn,r',pl,hz⟩:=I.tuple hq
  have cY:=r'.length
  obtain⟨o,ho,hc,n,hd⟩:=pl
  exact call_list_seq p (.inr rfl) ho hc hd (fun h' c' kp e=>fin bn r' hz h' c' kp e) (by simp only[aF]<;>omega)
theorem ux:iA X (.type "tuple") (fun xs H Q=>∃p ys,xs=[.ref p]/\((pD X.K H p ys/\∀l,H l=none->Q (.ref l) (eR H l (.tup ys)))\/(eF X.K H p ys/\Q (.ref p) H))):=by
 intro pins s σ H xs us Q I r h
 obtain⟨p,ys,rfl,h⟩:=h
 obtain⟨u,rfl,rx⟩:=jI r
 cases rx
 rcases h with⟨hq,q⟩|⟨hq,q⟩
 ·obtain⟨bn,r',pl,hz⟩:=I.list hq
  have cY:=r'.length
  refine call_tuple_list pl.isList (fun h' kp=>?_) (by simp only[aF]<;>omega)
  have I1:bz X pins σ H { s with heap:=h' }:=I.kept (t':=s.toks) kp
  have I2:bz X pins σ (eR H h'.objs.size (.tup ys)) { s with heap:=h'.push { cls:=.type "tuple",data:=.seq bn.toArray } }:=
   I1.laid (t':=s.toks) (fun b o e=>am _ e) (aw _) (show eS X.prog X.w _ _ _ (.tup ys)from⟨hz,bn,r',qR _ _⟩)
  exact⟨.ref h'.objs.size,_,I2,rfl,q _ (I1.hok.fresh (aw _))⟩
 ·obtain⟨bn,r',pl,hz⟩:=I.tuple hq
  exact call_tuple_same pl ⟨.ref p,H,I,rfl,q⟩
def VC(K:Frag)(T:String)(x:V)(H:Hp):Prop:=match x with
 |.str _=>T="str"
 |.int _=>T="int"
 |.ref p=>(T="list"/\∃xs,pD K H p xs)\/(T="tuple"/\∃o,K.lookup p=some o/\o.cls=.type "tuple"/\o.dict=none) \/
   (T="dict"/\((∃kvs,H p=some (.dK kvs))\/∃kvs,H p=some (.dT kvs)))\/(T="set"/\∃S n,H p=some (.set S n))
 |_=>False
theorem ER{T:String}{x:V}(I:bz X pins σ H s)(r:bL x v)(ty:VC X.K T x H) :
  s.TypeIs v T/\∀a,v=.ref a->∃ob,s.heap.get? a=some ob/\ob.dict=none:=by
 cases x with
 |str z=>
  obtain⟨t,rfl⟩:=r
  cases(show T="str" from ty)
  exact⟨typeIs_str s z t,fun _ e=>nomatch e⟩
 |int i=>
  obtain⟨t,rfl⟩:=r
  cases(show T="int" from ty)
  exact⟨typeIs_int s i t,fun _ e=>nomatch e⟩
 |ref p=>
  cases r
  rcases ty with⟨rfl,xs,hq⟩|⟨rfl,o,hk,hc,hd⟩|⟨rfl,hk⟩|⟨rfl,S,n,hk⟩
  ·obtain⟨bn,_,pl,_⟩:=I.list hq
   refine⟨pl.isList.typeIs,fun a e=>?_⟩
   cases e
   obtain⟨o,n,e,c,hd,_⟩:=pl
   exact⟨o,e,hd⟩
  ·refine⟨⟨o,I.kIn p o hk,hc⟩,fun a e=>?_⟩
   cases e
   exact⟨o,I.kIn _ o hk,hd⟩
  ·have z:∃o,s.heap.get? p=some o/\o.ExactDict:=by
    rcases hk with⟨kvs,hk⟩|⟨kvs,hk⟩
    ·obtain⟨_,_,_,_,o,_,_,e,ex,_⟩:=I.hok p _ hk
     exact⟨o,e,ex⟩
    ·obtain⟨_,_,_,_,o,_,_,e,ex,_⟩:=I.hok p _ hk
     exact⟨o,e,ex⟩
   obtain⟨o,e,ex⟩:=z
   refine⟨⟨o,e,ex.1⟩,fun a e2=>?_⟩
   cases e2
   exact⟨o,e,ex.2.1⟩
  ·obtain⟨o,_,_,_,e,ex,_⟩:=I.hok p _ hk
   refine⟨⟨o,e,ex.1⟩,fun a e2=>?_⟩
   cases e2
   exact⟨o,e,ex.2.1⟩
 |_=>exact False.elim ty
variable{to:TE}{t:TA}{T:String}{r:V->List V->Hp->VK->Prop}
end
def SH(X:Cx)(id:String)(r:V->List V->Hp->VK->Prop):Prop:=
 ∀(pins:List (Addr×Obj)) (s:Shared) (σ:St) (H:Hp) (x:V) (xs:List V) (v:Value) (us:List Value) (Q:VK),bz X pins σ H s->bL x v->cv xs us->r x xs H Q ->
  wpAny (model X.prog X.w) X.A (call (.builtin id) (v::us)) (EP X pins σ Q) X.xe s
theorem cv.one{x:V}{us:List Value}(h:cv [x] us):∃u,us=[u]/\bL x u:=by cases h with|cons r t=>cases t;exact⟨_,rfl,r⟩
theorem cv.two{x y:V}{us:List Value}(h:cv [x,y] us):∃u v,us=[u,v]/\bL x u/\bL y v:=by cases h with|cons r t=>obtain⟨v,rfl,q⟩:=cv.one t;exact⟨_,v,rfl,r,q⟩
theorem cv.zero:∀{us:List Value},cv [] us->us=[]
 |_,.nil=>rfl
theorem cv.dropLast{xs:List V}(h:cv xs us):cv xs.dropLast us.dropLast:=by
 induction h with
 |nil=>exact .nil
 |cons r t ih=>
  cases t with
  |nil=>exact .nil
  |cons q t'=>exact .cons r ih
theorem Aa(l:List α):l.eraseIdx (l.length-1)=l.dropLast:=by
 induction l with
 |nil=>rfl
 |cons a r ih=>
  cases r with
  |nil=>rfl
  |cons b r=>
   have e:(a::b::r).length-1=((b::r).length-1)+1:=by
    have h1:(a::b::r).length=r.length+2:=rfl
    have h2:(b::r).length=r.length+1:=rfl
    omega
   rw[e,List.eraseIdx_cons_succ,ih]
   all_goals rfl
section
variable{l:Addr}{xs ys zs:List V}
theorem bz.lset{bn its':List Value}{f:Array Value->Array Value}{t':Nat}(I:bz X pins σ H s)(hH:H l=some (.lst xs))
  (e:s.heap.get? l=some { cls:=.type "list",data:=.seq bn.toArray n }) (hf:f bn.toArray=its'.toArray) (hv:cv ys its') (hz:ys.length<=sizeLine) :
  bz X pins σ (eR H l (.lst ys)) { s with heap:=s.heap.update l (Obj.mapSeq f),toks:=t' }:=by
 have q:=PySem.IsL.update e f
 rw[hf]at q
 refine I.write (x:=l) (e:=l) (by rw[hH];exact trivial) (.inl rfl) (fun b' u hb hu=>(iK s.heap (Obj.mapSeq f) (Ne.symm hb)).trans hu) ⟨_,q⟩ ?_
 exact⟨hz,its',_,hv,q⟩
theorem bz.lnew{bn:List Value}{t':Nat}(I:bz X pins σ H s)(hv:cv ys bn)(hz:ys.length<=sizeLine) :
  bz X pins σ (eR H s.heap.objs.size (.lst ys)) { s with heap:=s.heap.push { cls:=.type "list",data:=.seq bn.toArray },toks:=t' }:=
 I.laid (fun _ _ q=>am _ q) (aw _) ⟨hz,bn,0,hv,aC _ rfl⟩
theorem bz.fresh(I:bz X pins σ H s):H s.heap.objs.size=none:=I.hok.fresh (aw _)
theorem bz.lstM(I:bz X pins σ H s)(hH:H l=some (.lst xs)):xs.length<=sizeLine/\∃(bn:List Value) (n:Nat),cv xs bn/\xs.length=bn.length/\s.heap.get? l=some { cls:=.type "list",data:=.seq bn.toArray n }:=by
 obtain⟨z,bn,n,r,e⟩:=I.hok l _ hH
 exact⟨z,bn,n,r,r.length,e⟩
theorem xO(h:n<=sizeLine):Builtin.List.listTooLong n=false:=by
 unfold Builtin.List.listTooLong
 exact aN (by omega)
end
section
def BA:V->List V->Hp->VK->Prop:=fun x vs H Q=>∃l xs y,x=.ref l/\vs=[y]/\H l=some (.lst xs)/\xs.length<sizeLine/\Q .non (eR H l (.lst (xs++[y])))
theorem Do:SH X "list.append" BA:=by
 intro pins s σ H x vs v us Q I rx rv h
 obtain⟨l,xs,y,rfl,rfl,hH,hz,q⟩:=h
 cases rx
 obtain⟨u,rfl,ru⟩:=rv.one
 obtain⟨z,bn,n,r,hl,e⟩:=I.lstM hH
 refine ku F.slot_list_append ⟨_,e,rfl⟩ F.entry_list_append (F.args_list_append_2 _ _) (PySem.list_append l bn.toArray n u (by rw[aF];omega)) ⟨e,?_⟩
 refine⟨.non,_,I.lset (its':=bn++[u]) hH e (by simp) (r.append (.cons ru .nil)) ?_,rfl,q⟩
 rw[aB,List.length_singleton]
 omega
def JQ:V->List V->Hp->VK->Prop:=fun x vs H Q=>∃l b xs zs,x=.ref l/\vs=[.ref b]/\H l=some (.lst xs)/\H b=some (.lst zs)/\xs.length+zs.length<=sizeLine/\Q .non (eR H l (.lst (xs++zs)))
theorem Dp:SH X "list.extend" JQ:=by
 intro pins s σ H x vs v us Q I rx rv h
 obtain⟨l,b,xs,zs,rfl,rfl,hH,hB,hz,q⟩:=h
 cases rx
 obtain⟨u,rfl,ru⟩:=rv.one
 cases ru
 obtain⟨z,bn,n,r,hl,e⟩:=I.lstM hH
 obtain⟨z2,its2,n2,r2,hl2,e2⟩:=I.lstM hB
 have hsz:bn.toArray.size+its2.toArray.size<=sizeLine:=by rw[aF,aF];omega
 have hlong:¬ (!bn.toArray.isEmpty&&Builtin.List.listTooLong (bn.toArray.size+its2.toArray.size))=true:=by
  rw[xO hsz,Bool.and_false]
  exact bK
 refine ku F.slot_list_extend ⟨_,e,rfl⟩ F.entry_list_extend (F.args_list_extend_2 _ _)
  (AutoSeq1.list_extend_list_list_0 l bn.toArray n b its2.toArray n2 hlong (by rw[aF];omega) (by omega)) ⟨e,e2,?_⟩
 refine⟨.non,_,I.lset (its':=bn++its2) hH e (by simp) (r.append r2) ?_,rfl,q⟩
 rw[aB]
 omega
def SJ:V->List V->Hp->VK->Prop:=fun x vs H Q=>∃l xs y,x=.ref l/\vs=[]/\H l=some (.lst xs)/\xs[xs.length-1]?=some y/\Q y (eR H l (.lst xs.dropLast))
theorem OP:SH X "list.pop" SJ:=by
 intro pins s σ H x vs v us Q I rx rv h
 obtain⟨l,xs,y,rfl,rfl,hH,hy,q⟩:=h
 cases rx
 have hus:=rv.zero
 subst hus
 obtain⟨z,bn,n,r,hl,e⟩:=I.lstM hH
 obtain⟨u,hu,ru⟩:=r.get hy
 have hy':bn.toArray[bn.toArray.size-1]?=some u:=by
  show bn.toArray[bn.length-1]?=some u
  rw[<- ni,<- hl]
  exact hu
 refine ku F.slot_list_pop ⟨_,e,rfl⟩ F.entry_list_pop (F.args_list_pop_1 _) (MeetsSeq.list_pop_last l bn.toArray n u hy' (by rw[aF];omega)) ⟨e,?_⟩
 refine⟨y,_,I.lset (its':=bn.dropLast) hH e ?_ r.dropLast ?_,ru,q⟩
 ·show bn.toArray.eraseIdxIfInBounds (bn.toArray.size-1)=bn.dropLast.toArray
  rw[aF,List.eraseIdxIfInBounds_toArray,Aa]
 ·rw[List.length_dropLast]
  omega
def Wk:R2:=fun x y H Q=>∃l b xs zs,x=.ref l/\y=.ref b/\H l=some (.lst xs)/\H b=some (.lst zs)/\xs.length+zs.length<=sizeLine/\∀p,H p=none->Q (.ref p) (eR H p (.lst (xs++zs)))
theorem OQ:lv X (binaryOp .Add) Wk:=by
 intro pins s σ H x y v u Q I rx ry h
 obtain⟨l,b,xs,zs,rfl,rfl,hH,hB,hz,q⟩:=h
 cases rx
 cases ry
 obtain⟨z,bn,n,r,hl,e⟩:=I.lstM hH
 obtain⟨z2,its2,n2,r2,hl2,e2⟩:=I.lstM hB
 refine PySem.P.add_list e e2 ?_ (by rw[aF,aF];omega)
 have ea:bn.toArray++its2.toArray=(bn++its2).toArray:=by simp
 rw[ea]
 exact⟨.ref _,_,I.lnew (t':=s.toks) (r.append r2) (by rw[aB];omega),rfl,q _ I.fresh⟩
end
section
variable{w:World}
end
section
end
end L2
namespace Att
open PySem PySem.W PySem.Calls PyProof.Rows
theorem rp{P:Params}:∀(ns:List Int) (vs:List Value),WellAll P h vs (ns.map WData.int)->IntsAre vs ns:=by
 intro ns
 induction ns with
 |nil=>
  intro vs w
  rw[dD]at w
  cases w
  exact .nil
 |cons n ns ih=>
  intro vs w
  rw[aH]at w
  cases w with
  |cons a b=>
   cases a
   exact .cons _ _ (ih _ b)
theorem Dq{l:OpenLaw}(hn:l.most=some n){P:Params}{args:List WData}{mG:List Value}
  (Em:l.row.toRowW.claim.pre args=true) (Ev:WellAll P h mG args) :
  ∃a vs ns,mG=[Value.ref a]/\args=[WData.list (ns.map WData.int)]/\h.get? a=some { cls:=.type "list",data:=.seq vs.toArray }/\IntsAre vs ns/\ns.length<=n:=by
 have hsh:WShape.hasAll [] args [.list .int]=true:=(pre_splitW Em).1
 have hc:l.pre.holds [] { args:=args }=true:=(pre_splitW Em).2
 obtain⟨d,r,rfl,h1,h2⟩:=hasAllW_cons hsh
 obtain rfl:=hasAllW_nil h2
 obtain⟨xs,rfl,h3⟩:=hasW_list h1
 obtain⟨ns,rfl⟩:=items_int h3
 have cY:ns.length<=n:=by
  unfold OpenLaw.pre at hc
  have h4:(WTm.not (.lt (.lit (.int (n:Int))) (.len (.arg 0)))).holds [] { args:=[.list (ns.map .int)] }=true:=by
   have h4:=(holds_andW hc).1
   rw[hn]at h4
   exact h4
  have h5:=condW_of h4 (w_not (w_lt w_lit (w_len_list (w_arg rfl))))
  rw[ai]at h5
  refine dk fun q=>?_
  have q':(n:Int)<((ns.length:Nat):Int):=by omega
  first
   |(rw[aK q']at h5;exact absurd h5 (by decide))
   |(simp at h5;omega)
 cases Ev with
 |cons w1 w2=>
  cases w2
  cases w1 with
  |list ho ng=>exact⟨_,_,ns,rfl,rfl,ho,rp ns _ ng,cY⟩
theorem Dr(l:OpenLaw)(args:List WData):l.row.toRowW.claim.post args (.bool true) args=true:=
 postW_of (r:=l.row.toRowW) (X:=(true==true))
  (show WShape.has [] (.bool true) .bool=true by first|rfl|decide|simp[WShape.has,WShape.arms,WShape.armsAll])
  (show(WTm.eq .res (.lit (.bool true))).value [] { args:=args,res:=some (.bool true),after:=args }=some (.bool (true==true))from w_eq_bool (w_res rfl) w_lit) rfl
theorem attach_call{l:OpenLaw}{q:Program}{C6:List Str}{d:DefRec}
  (hn:l.most=some n) (WS:d.params.defaults=[])
  (call:∀(w:World) (s₀ s₁:Shared) (mg mb:Str->Option Value) (fa:Addr) (o:Obj) (pm cd rg:Value) (a:Addr) (vs:List Value) (ns:List Int),
   Ground q C6 [] XP w s₀ mg mb s₁.heap->YP w s₁.heap ->
   s₁.heap.get? fa=some o->o.data=.func (docDef d.name d.params d.body d.scope pm cd rg)->s₁.heap.CodeRec cd d.name->mg d.name=some (.ref fa) ->
   s₁.heap.get? a=some { cls:=.type "list",data:=.seq vs.toArray }->IntsAre vs ns->ns.length<=n->s₁.gens=#[] ->
   codeAny (model l.prog w) callerA (.call (.ref fa) ⟨[.ref a],[]⟩) (fun r s'=>r=.ok (.ret (.bool true))/\OldK s₁.heap s'.heap/\s'.os=s₁.os/\AllBare s'.gens) s₁) :
  WalkO q C6 XP YP l.row.toRowW d [] (fun f vs=>PySem.call f vs):=by
 intro w s₀ s₁ mg mb G Y fa o pm cd rg dV kV ho hd nX hD hmg hg args mG as Em hlay hrd Ev hlo
 obtain rfl:dV=.none:=Dflts.none hD WS
 obtain rfl:kV=.none:=Dflts.noKw hD
 obtain⟨a,vs,ns,rfl,rfl,hobj,hints,cY⟩:=Dq hn Em Ev
 refine enter_call (mM (call w s₀ s₁ mg mb fa o pm cd rg a vs ns G Y ho (fd_plain hd) nX hmg hobj hints cY hg) fun r s' hq=>?_)
 obtain⟨rfl,h2,h3,h4⟩:=hq
 exact⟨.inl ⟨.bool true,.bool true,[],rfl,fun _=>rfl,.bool true,Dr l _,fun _=>⟨List.Pairwise.nil,fun _ hm=>(nomatch hm)⟩⟩,h2,h3,h4⟩
section
variable{w:World}
end
end Att
namespace L2
open PySem PySem.Spec PyProof.Rows
theorem u9:∀{vs:List Value} {ns:List Int},IntsAre vs ns->cv (ns.map V.int) vs
 |_,_,.nil=>.nil
 |_,_,.cons n t h=>.cons ⟨t,rfl⟩ (u9 h)
def h9(s:Stmt):Arguments:=match s with
 |.FunctionDef _ a _ _ _ _ _ _ _ _=>a
 |_=>{ posonlyargs:=[],args:=[],vararg:=none,kwonlyargs:=[],kw_defaults:=[],kwarg:=none,defaults:=[] }
def gC(s:Stmt):List Stmt:=match s with
 |.FunctionDef _ _ b _ _ _ _ _ _ _=>b
 |_=>[]
def aO(s:Stmt):Scope:=match s with
 |.FunctionDef _ _ _ _ _ _ sc _ _ _=>sc
 |_=>{ kind:=.function,names:=[],isGenerator:=false,isCoroutine:=false }
structure iZ(K:Frag)(x qual:Str)(st:Stmt)(f:Addr)(fd:FuncData):Prop where
 ex:∃(oc:Value) (od:Option Addr) (kV rg pm:Value) (an:Option Addr) (fI ct:Value) (NY:Array (Option Value)),
  fd=fnOf x qual (h9 st) (gC st) (aO st) .none kV rg pm an fI ct/\K.lookup f=some ⟨oc,od,.func fd,NY⟩/\codeIn K fI qual=true
 kp:keepIn K (.ref f)=true
section
variable{w:World}
theorem iZ.binds{qual:Str}{st:Stmt}{f:Addr}(F:iZ K x qual st f fd)
  (h:∀(kV rg pm:Value) (an:Option Addr) (fI ct:Value) (us:List Value),us.length=ps.length->bindArgs (fnOf x qual (h9 st) (gC st) (aO st) .none kV rg pm an fI ct) ⟨us,[]⟩=pure (ps.zip us)):xL K fd ps []:=by
 obtain⟨oc,od,kV,rg,pm,an,fI,ct,NY,rfl,lk,nX⟩:=F.ex
 exact .all (h kV rg pm an fI ct)
theorem Ab{qual:Str}{st:Stmt}{f:Addr}{oc:Value}{od an:Option Addr}{NY:Array (Option Value)}{kV rg pm fI ct:Value}(l:K.lookup f=some ⟨oc,od,.func (fnOf x qual (h9 st) (gC st) (aO st) .none kV rg pm an fI ct),NY⟩)
  (c:codeIn K fI qual=true) (k:keepIn K (.ref f)=true):iZ K x qual st f (fnOf x qual (h9 st) (gC st) (aO st) .none kV rg pm an fI ct):=⟨⟨oc,od,kV,rg,pm,an,fI,ct,NY,rfl,l,c⟩,k⟩
end
theorem BB{k:Nat}(hr:gT k A):A.units+1<cLine:=kw (Nat.add_le_add_left (by decide:1<=64) _) hr.units
section
theorem pv(i:Nat){pos:Pos}(hN:X.N[i]?=some x:=by rfl)(hv:R4 X.env.scope x:=by first|exact Or.inl rfl|exact Or.inr (Or.inl rfl)|exact Or.inr (Or.inr rfl))(hd:(x==("__debug__":Str))=false:=by decide)
  (nX:(x==("__classdict__":Str))=false:=by decide):PE X (.Name x pos) (R5 i):=Ob hN hv hd nX
end
def rq(H H':Hp):Prop:=∀b o,H b=some o->H' b=some o
theorem rq.refl(H:Hp):rq H H:=fun _ _ h=>h
section
variable{κ:Type}[DecidableEq κ]
def j5(kvs:List (κ×V))(k:κ):Option V:=(kvs.find? fun kv=>decide (kv.1=k)).map (·.2)
def m8(kvs:List (κ×V))(k:κ)(v:V):List (κ×V):=
 if (kvs.any fun kv=>decide (kv.1=k))=true then kvs.map (fun kv=>if kv.1=k then(kv.1,v)else kv)else kvs++[(k,v)]
def mW(kvs:List (κ×V))(k:κ):List (κ×V):=kvs.filter fun kv=>decide (kv.1≠k)
theorem nA{p:κ×V}{r:List (κ×V)}{k:κ}(e:p.1=k):j5 (p::r) k=some p.2:=by simp[j5,bD,e]
theorem pI{p:κ×V}{r:List (κ×V)}{k:κ}(e:¬ p.1=k):j5 (p::r) k=j5 r k:=by simp[j5,bD,e]
theorem xP(k:κ):∀kvs:List (κ×V),(kvs.any fun kv=>decide (kv.1=k))=(j5 kvs k).isSome
 |[]=>rfl
 |p::r=>by
  rw[oS]
  by_cases e:p.1=k
  ·simp only[nA e,aK e,Bool.true_or,Option.isSome_some]
  ·rw[pI e,aN e,oT];exact xP k r
theorem nB(kvs:List (κ×V))(k:κ)(v:V):(m8 kvs k v).length<=kvs.length+1:=by
 unfold m8
 split
 ·rw[ai];omega
 ·rw[aB,bv,dg];omega
theorem qo.isSome_eq{o:Option V}{u:Option Value}(r:qo o u):o.isSome=u.isSome:=by
 cases o with
 |none=>cases u with
  |none=>rfl
  |some _=>exact(show False from r).elim
 |some _=>cases u with
  |none=>exact(show False from r).elim
  |some _=>rfl
theorem KV.val{kvs:List (κ×V)}{vs:List (κ×Value)}(r:KV kvs vs)(k:κ):qo (j5 kvs k) (valueAt vs k):=by
 unfold KV at r
 induction r with
 |nil=>exact True.intro
 |@cons p q ps qs h t ih=>
  obtain⟨h1,h2⟩:=h
  by_cases e:p.1=k
  ·have e':q.1=k:=h1.symm.trans e
   have b:valueAt (q::qs) k=some q.2:=by simp[valueAt,bD,e']
   rw[nA e,b];exact h2
  ·have e':¬ q.1=k:=fun z=>e (h1.trans z)
   have b:valueAt (q::qs) k=valueAt qs k:=by simp[valueAt,bD,e']
   rw[pI e,b];exact ih
theorem KV.any{kvs:List (κ×V)}{vs:List (κ×Value)}(r:KV kvs vs)(k:κ):(kvs.any fun kv=>decide (kv.1=k))=vs.any fun kv=>decide (kv.1=k):=by
 unfold KV at r
 induction r with
 |nil=>rfl
 |cons h t ih=>rw[oS,oS,ih,h.1]
theorem KV.repl{kvs:List (κ×V)}{vs:List (κ×Value)}(r:KV kvs vs)(k:κ)(ry:bL y u) :
  KV (kvs.map fun kv=>if kv.1=k then(kv.1,y)else kv) (vs.map fun kv=>if kv.1=k then(kv.1,u)else kv):=by
 unfold KV at r ⊢
 induction r with
 |nil=>exact .nil
 |@cons p q ps qs h t ih=>
  rw[aH,aH]
  refine .cons ?_ ih
  obtain⟨h1,h2⟩:=h
  by_cases e:p.1=k
  ·rw[ar e,ar (h1.symm.trans e)];exact⟨h1,ry⟩
  ·rw[az e,az (fun z=>e (h1.trans z))];exact⟨h1,h2⟩
theorem KV.put{kvs:List (κ×V)}{vs:List (κ×Value)}(r:KV kvs vs)(k:κ)(ry:bL y u):KV (m8 kvs k y) (stored vs k u):=by
 unfold m8 stored
 rw[r.any k]
 by_cases e:(vs.any fun kv=>decide (kv.1=k))=true
 ·rw[ar e,ar e];exact r.repl k ry
 ·rw[az e,az e];exact Paired.snoc r ⟨rfl,ry⟩
theorem KV.drop{kvs:List (κ×V)}{vs:List (κ×Value)}(r:KV kvs vs)(k:κ):KV (mW kvs k) (without vs k):=by
 unfold KV at r ⊢
 unfold mW without
 induction r with
 |nil=>exact .nil
 |@cons p q ps qs h t ih=>
  obtain⟨h1,h2⟩:=h
  rw[cU,cU]
  by_cases e:p.1=k
  ·have a:¬ decide (p.1≠k)=true:=by simp[e]
   have b:¬ decide (q.1≠k)=true:=by simp[h1.symm.trans e]
   rw[az a,az b];exact ih
  ·have e':¬ q.1=k:=fun z=>e (h1.trans z)
   have a:decide (p.1≠k)=true:=by simp[e]
   have b:decide (q.1≠k)=true:=by simp[e']
   rw[ar a,ar b];exact .cons ⟨h1,h2⟩ ih
theorem KV.keys{kvs:List (κ×V)}{vs:List (κ×Value)}(r:KV kvs vs):kvs.map (·.1)=vs.map (·.1):=by
 unfold KV at r
 induction r with
 |nil=>rfl
 |cons h t ih=>rw[aH,aH,ih,h.1]
theorem KV.length{kvs:List (κ×V)}{vs:List (κ×Value)}(r:KV kvs vs):kvs.length=vs.length:=Paired.length r
theorem ES(kvs:List (κ×V))(k:κ):(mW kvs k).length<=kvs.length:=dN _ _
end
theorem qU{w:World}{k:f6}(r:bL (kV k) u):(dR P w).is k u=true:=by
 cases k with
 |inl i=>obtain⟨t,e⟩:=(show ∃t,u=Value.int i t from r);subst e;exact xF P w i t
 |inr x=>obtain⟨t,e⟩:=(show ∃t,u=Value.str x t from r);subst e;exact xG P w x t
theorem u_{w:World}:∀{ks:List f6} {us:List Value},cv (ks.map kV) us->ItemsAre (dR P w) ks us
 |[],_,r=>by rw[dD]at r;cases r;exact .nil
 |k::ks,_,r=>by
  rw[aH]at r
  cases r with
  |cons h t=>exact .cons (qU h) (u_ t)
abbrev KT(H:Hp):List (List f6×V)->List (List f6×Addr×Value)->Prop:=Paired fun p q=>p.1=q.1/\H q.2.1=some (.tup (p.1.map kV))/\bL p.2 q.2.2
theorem KT.val{kvs:List (List f6×V)}(r:KT H kvs xs)(k:List f6):qo (j5 kvs k) ((atKey xs k).map (·.2)):=by
 induction r with
 |nil=>exact True.intro
 |@cons p q ps qs h t ih=>
  obtain⟨h1,_,h2⟩:=h
  by_cases e:p.1=k
  ·have e':q.1=k:=h1.symm.trans e
   have b:atKey (q::qs) k=some q.2:=by simp[atKey,bD,e']
   rw[nA e,b];exact h2
  ·have e':¬ q.1=k:=fun z=>e (h1.trans z)
   have b:atKey (q::qs) k=atKey qs k:=by simp[atKey,bD,e']
   rw[pI e,b];exact ih
theorem KT.repl{kvs:List (List f6×V)}(r:KT H kvs xs)(k:List f6)(ry:bL y u) :
  KT H (kvs.map fun kv=>if kv.1=k then(kv.1,y)else kv) (xs.map (putAt k u)):=by
 induction r with
 |nil=>exact .nil
 |@cons p q ps qs h t ih=>
  rw[aH,aH]
  refine .cons ?_ ih
  obtain⟨h1,h2,h3⟩:=h
  unfold putAt
  by_cases e:p.1=k
  ·rw[ar e,ar (h1.symm.trans e)];exact⟨h1,h2,ry⟩
  ·rw[az e,az (fun z=>e (h1.trans z))];exact⟨h1,h2,h3⟩
theorem KT.put{kvs:List (List f6×V)}(r:KT H kvs xs)(k:List f6)(hb:H b=some (.tup (k.map kV)))(ry:bL y u) :
  KT H (m8 kvs k y) (storedH xs k b u):=by
 have e:(kvs.any fun kv=>decide (kv.1=k))=(atKey xs k).isSome:=by
  rw[xP,(r.val k).isSome_eq,gD]
 unfold m8 storedH
 rw[e]
 by_cases q:(atKey xs k).isSome=true
 ·rw[ar q,ar q];exact r.repl k ry
 ·rw[az q,az q];exact Paired.snoc r ⟨rfl,hb,ry⟩
theorem KT.keeps{kvs:List (List f6×V)}(r:KT H kvs xs)(ht:∀b ys,H b=some (.tup ys)->H' b=some (.tup ys)):KT H' kvs xs:=
 Paired.mapP r fun _ _ z=>⟨z.1,ht _ _ z.2.1,z.2.2⟩
section
variable{w:World}
theorem LP{u:HO}(ok:oD P w H h)(e:Rd H a u):eS P w H h a u:=e.ok ok
theorem oG{kvs:List (f6×V)}(ok:oD P w H h)(e:Rd H a (.dK kvs)):kvs.length<=sizeLine/\(a==sysModules)=false/\∃vs,KV kvs vs/\h.DictOf (dR P w) a vs:=
 show eS P w H h a (.dK kvs)from LP ok e
theorem BC{kvs:List (f6×V)}(ok:oD P w H h)(e:H a=some (.dK kvs)):kvs.length<=sizeLine/\(a==sysModules)=false/\∃vs,KV kvs vs/\h.DictOf (dR P w) a vs:=oG ok (.inl e)
theorem sg{ks:List f6}(ok:oD P w H h)(e:H a=some (.tup (ks.map kV))):(tupleKind (dR P w)).is h ks a:=by
 obtain⟨_,bn,r,o,h1,h2,n,h3⟩:=(show eS P w H h a (.tup (ks.map kV))from ok a _ e)
 exact⟨o,bn.toArray,n,h1,h2,h3,by simpa using u_ r⟩
theorem vc{kvs:List (List f6×V)}(ok:oD P w H h)(e:Rd H a (.dT kvs)):kvs.length<=sizeLine/\(a==sysModules)=false /\
  ∃xs,KT H kvs xs/\h.DictOfH (tupleKind (dR P w)) a xs:=by
 obtain⟨z,y,xs,r,o,es,ep,h1,h2,h3,h4,h5⟩:=(show eS P w H h a (.dT kvs)from LP ok e)
 refine⟨z,y,xs,r,o,es,ep,h1,h2,h3,h4,fun x hx=>?_,h5⟩
 have all:∀{l:List (List f6×V)} {m:List (List f6×Addr×Value)},KT H l m->∀x∈m,(tupleKind (dR P w)).is h x.1 x.2.1:=by
  intro l m q
  induction q with
  |nil=>intro x hx;exact nomatch hx
  |@cons p q ps qs hq t ih=>
   intro x hx
   rcases a_.mp hx with e|hx
   ·subst e
    exact sg ok (by rw[<- hq.1];exact hq.2.1)
   ·exact ih x hx
 exact all r x hx
theorem SL{kvs:List (List f6×V)}(ok:oD P w H h)(e:H a=some (.dT kvs)):kvs.length<=sizeLine/\(a==sysModules)=false /\
  ∃xs,KT H kvs xs/\h.DictOfH (tupleKind (dR P w)) a xs:=vc ok (.inl e)
end
def uy(H:Hp)(a:Addr)(y:V)(r:Option V):Prop:=
 (∃kvs k,Rd H a (.dK kvs)/\y=kV k/\r=j5 kvs k)\/∃kvs k b,Rd H a (.dT kvs)/\y=.ref b/\H b=some (.tup (k.map kV))/\r=j5 kvs k
def JR(H:Hp)(a:Addr)(y v:V)(H':Hp):Prop:=
 (∃kvs k,H a=some (.dK kvs)/\y=kV k/\kvs.length<sizeLine/\H'=eR H a (.dK (m8 kvs k v))) \/
 ∃kvs k b,H a=some (.dT kvs)/\y=.ref b/\H b=some (.tup (k.map kV))/\kvs.length<sizeLine/\H'=eR H a (.dT (m8 kvs k v))
theorem JR.k{kvs:List (f6×V)}{k:f6}{v:V}(e:H a=some (.dK kvs))(hl:kvs.length<sizeLine):JR H a (kV k) v (eR H a (.dK (m8 kvs k v))):=.inl ⟨kvs,k,e,rfl,hl,rfl⟩
section
variable{v:V}{r:Value}{o:Option V}
theorem bz.big(I:bz X pins σ H s):sysModules<s.heap.objs.size:=by
 have h:mainGlobals<s.heap.objs.size:=(I.mod.glob.keeps I.bk).lt
 exact qh (by decide) h
theorem Ds(hu:A.units+1<cLine)(I:bz X pins σ H s)(g:uy H a y (some v))(ry:bL y u)(h:∀w' s',bz X pins σ H s'->bL v w'->Q w' s') :
  wpAny (model X.prog X.w) A (getItem (.ref a) u) Q E s:=by
 rcases g with⟨kvs,k,e,ey,l⟩|⟨kvs,k,b,e,ey,eb,l⟩
 ·subst ey
  obtain⟨z,hd,vs,rel,dd⟩:=oG I.hok e
  obtain⟨w',hw,jp⟩:=qo.some_of (v:=v) (o:=valueAt vs k) (by rw[l];exact rel.val k)
  exact lY (qU ry) dd.mapOf hw (h w' _ (I.tok _) jp)
 ·subst ey
  cases(show u=Value.ref b from ry)
  obtain⟨z,hd,xs,rel,dd⟩:=vc I.hok e
  obtain⟨w',hw,jp⟩:=qo.some_of (v:=v) (o:=(atKey xs k).map (·.2)) (by rw[l];exact rel.val k)
  obtain⟨p,hp,hp2⟩:=aU.mp hw
  refine wpAny_getItem_heap (iw hu) (sg I.hok eb) dd hp ?_
  rw[hp2]
  exact h w' _ (I.tok _) jp
theorem Wl(hu:A.units+1<cLine)(I:bz X pins σ H s)(g:uy H a y o)(ry:bL y u)(h:∀s',bz X pins σ H s'->Q (.bool o.isSome) s') :
  wpAny (model X.prog X.w) A (compareOp .In u (.ref a)) Q E s:=by
 rcases g with⟨kvs,k,e,ey,l⟩|⟨kvs,k,b,e,ey,eb,l⟩
 ·subst ey
  obtain⟨z,hd,vs,rel,dd⟩:=oG I.hok e
  refine wpAny_in_of (qU ry) hd dd.mapOf ?_
  rw[<- (rel.val k).isSome_eq,<- l]
  exact h _ (I.tok _)
 ·subst ey
  cases(show u=Value.ref b from ry)
  obtain⟨z,hd,xs,rel,dd⟩:=vc I.hok e
  refine wpAny_in_heap (iw hu) (sg I.hok eb) hd dd ?_
  have q:=(rel.val k).isSome_eq
  rw[gD]at q
  rw[<- q,<- l]
  exact h _ (I.tok _)
theorem JS(hu:A.units+1<cLine)(I:bz X pins σ H s)(g:uy H a y o)(ry:bL y u)(h:∀s',bz X pins σ H s'->Q (.bool (!o.isSome)) s') :
  wpAny (model X.prog X.w) A (compareOp .NotIn u (.ref a)) Q E s:=by
 rcases g with⟨kvs,k,e,ey,l⟩|⟨kvs,k,b,e,ey,eb,l⟩
 ·subst ey
  obtain⟨z,hd,vs,rel,dd⟩:=oG I.hok e
  refine wpAny_notIn_of (qU ry) hd dd.mapOf ?_
  rw[<- (rel.val k).isSome_eq,<- l]
  exact h _ (I.tok _)
 ·subst ey
  cases(show u=Value.ref b from ry)
  obtain⟨z,hd,xs,rel,dd⟩:=vc I.hok e
  refine wpAny_notIn_heap (iw hu) (sg I.hok eb) hd dd ?_
  have q:=(rel.val k).isSome_eq
  rw[gD]at q
  rw[<- q,<- l]
  exact h _ (I.tok _)
theorem mi{t':Nat}{ob:HO}(I:bz X pins σ H s)(mu:Oa (H a))(hs:Heap.SameBut a s.heap h')(he:∃q,h'.get? a=some q)(new:eS X.prog X.w (eR H a ob) h' a ob) :
  bz X pins σ (eR H a ob) { s with heap:=h',toks:=t' }:=
 I.write (x:=a) (e:=a) mu (.inl rfl) (fun b q hb z=>(hs.2 b hb).trans z) he new
theorem Ac{w:World}{kvs:List (f6×V)}{vs:List (f6×Value)}(z:kvs.length<=sizeLine)(hd:(a==sysModules)=false)(rel:KV kvs vs)(dd:h'.DictOf (dR P w) a vs) :
  eS P w H' h' a (.dK kvs):=⟨z,hd,vs,rel,dd⟩
theorem Dt{Q:Unit->Shared->Prop}(hu:A.units+1<cLine)(I:bz X pins σ H s)(g:JR H a y v H')(ry:bL y u)(rv:bL v r)(h:∀s',bz X pins σ H' s'->Q () s') :
  wpAny (model X.prog X.w) A (setItem (.ref a) u r) Q E s:=by
 rcases g with⟨kvs,k,e,ey,l,eH⟩|⟨kvs,k,b,e,ey,eb,l,eH⟩
 ·subst ey eH
  obtain⟨z,hd,vs,rel,dd⟩:=BC I.hok e
  have hz:vs.length<=sizeLine:=by rw[<- rel.length];exact z
  have hl:(m8 kvs k v).length<=sizeLine:=by have:=nB kvs k v;omega
  refine wpAny_setItem_pairs (hsz:=hz) (qU ry) dd fun h' dd' hs=>h _ ?_
  have he:∃q,h'.get? a=some q:=let ⟨q,_,_,hq,_⟩:=dd';⟨q,hq⟩
  exact mi I (by rw[e];exact True.intro) hs he (Ac hl hd (rel.put k rv) dd')
 ·subst ey eH
  cases(show u=Value.ref b from ry)
  obtain⟨z,hd,xs,rel,dd⟩:=SL I.hok e
  have hz:xs.length<=sizeLine:=by rw[<- Paired.length rel];exact z
  have hl:(m8 kvs k v).length<=sizeLine:=by have:=nB kvs k v;omega
  refine wpAny_setItem_heap (hsz:=hz) (iw hu) (sg I.hok eb) dd fun h' dd' hs=>h _ ?_
  obtain⟨q,es,ep,hq,h2,h3,h4,_,h5⟩:=dd'
  refine mi I (by rw[e];exact True.intro) hs ⟨q,hq⟩ ⟨hl,hd,_,(rel.put k eb rv).keeps fun c ys ec=>?_,q,es,ep,hq,h2,h3,h4,h5⟩
  rw[cJ (R3 ec e (fun z=>nomatch z))]
  exact ec
end
section
variable{kvs:List (f6×V)}{k:f6}
theorem SM{v:V}{lh:List Value}(I:bz X pins σ H s)(e:H a=some (.dK kvs))(ry:bL (kV k) u)(l:j5 kvs k=some v)(hm:lh=[]\/∃x,lh=[x])
  (h:∀w' s',bz X pins σ (eR H a (.dK (mW kvs k))) s'->bL v w'->Q w' s'):wpAny (model X.prog X.w) A (call (.builtin "dict.pop") (.ref a::u::lh)) Q E s:=by
 obtain⟨z,hd,vs,rel,dd⟩:=BC I.hok e
 obtain⟨w',hw,jp⟩:=qo.some_of (v:=v) (o:=valueAt vs k) (by rw[<- l];exact rel.val k)
 have hp:(keyPart u).isSome=true:=by
  cases k with
  |inl i=>obtain⟨t,q⟩:=(show ∃t,u=Value.int i t from ry);subst q;rfl
  |inr x=>obtain⟨t,q⟩:=(show ∃t,u=Value.str x t from ry);subst q;rfl
 have ha:argsOk "dict.pop" ⟨.ref a::u::lh,[]⟩:=by
  rcases hm with q|⟨x,q⟩
  ·subst q;exact PySem.F.args_dict_pop_2 _ _
  ·subst q;exact PySem.F.args_dict_pop_3 _ _ _
 refine jY PySem.F.slot_dict_pop dd.typeIs PySem.F.entry_dict_pop ha (meets_dict_pop_there (dR X.prog X.w) a (qU ry) lh hm hp)
  ⟨vs,w',dd,by rw[<- rel.length];exact z,hw,fun h' dd' hs=>h w' _ ?_ jp⟩
 have he:∃q,h'.get? a=some q:=let ⟨q,_,_,hq,_⟩:=dd';⟨q,hq⟩
 exact mi I (by rw[e];exact True.intro) hs he (Ac (aR (ES kvs k) z) hd (rel.drop k) dd')
theorem SN(I:bz X pins σ H s)(e:Rd H a (.dK kvs))(h:∀t s',bz X pins σ H s'->Q (.int kvs.length t) s'):wpAny (model X.prog X.w) A (call (.builtin "len") [.ref a]) Q E s:=by
 obtain⟨z,hd,vs,rel,dd⟩:=oG I.hok e
 refine call_len_dict hd dd (by rw[<- rel.length];rw[iF]at z;omega) ?_
 rw[<- rel.length]
 exact h _ _ (I.tok _)
end
def ET(i:Expr):Prop:=∀ov iv,subscripted i false ov iv=operate [ov,iv] (getItem ov iv)
theorem v7{w:World}{env:Env}{value slice:Expr}{T:String}
  (hl:typeLookup (.type T) "__getitem__"=pure (some (.builtin id))) (hs:ET slice)
  (h:wpAny (model prog w) A (eval value env) (fun o s₁=>wpAny (model prog w) A (eval slice env) (fun i s₂=>s₂.TypeIs o T/\wpAny (model prog w) A (getItem o i) Q E s₂) E s₁) E s) :
  wpAny (model prog w) A (eval (.Subscript value slice pos) env) Q E s:=by
 refine Subscript_ (eB h (fun o s₁ h₁=>eB h₁ (fun i s₂ h₂=>?_) fun _ _ x=>x) fun _ _ x=>x)
 obtain⟨hT,h₂⟩:=h₂
 unfold subscriptTail
 refine ae ?_
 rw[getitemInPython_of_ne hT.not_modules]
 refine ae (fz hT hl ?_)
 have fin:wpAny (model prog w) A (subscripted slice false o i) (fun r s₃=>wpAny (model prog w) A (letTemporaryGo value o r >>= fun _=>pure r) Q E s₃) E s₂:=by
  rw[hs o i]
  exact wpAny_operating (eB h₂ (fun r s₃ h₃=>ae (wpAny_letTemporaryGo (ao h₃))) fun _ _ x=>x)
 first
  |exact ao (ae fin)
  |exact ae (ao (ae fin))
  |exact ae fin
theorem xQ{o:Option V}(I:bz X pins σ H s)(g:uy H a y o):s.TypeIs (.ref a) "dict":=by
 rcases g with⟨kvs,k,e,_,_⟩|⟨kvs,k,b,e,_,_,_⟩
 ·obtain⟨_,_,vs,_,dd⟩:=oG I.hok e
  exact dd.typeIs
 ·obtain⟨_,_,xs,_,dd⟩:=vc I.hok e
  exact dd.typeIs
def SQ(td ty:TE):TE:=fun σ H Q=>td σ H fun x H1=>ty σ H1 fun y H2=>∃a v,x=.ref a/\uy H2 a y (some v)/\Q v H2
section
variable{i value:Expr}{WP:Pos}{td ty tv:TE}
theorem JT(hu:X.A.units+1<cLine)(ho:PE X o td)(hi:PE X i ty)(hs:ET i):PE X (.Subscript o i pos) (SQ td ty):=by
 intro pins s σ H Q I h
 refine v7 PySem.F.slot_dict_getitem.lookup hs (fJ (ho pins s σ H _ I h) fun u s1 ⟨x,H1,I1,rx,q1⟩=>fJ (hi pins s1 σ H1 _ I1 q1) fun iv s2 ⟨y,H2,I2,ry,a,v,ex,g,q2⟩=>?_)
 subst ex
 obtain rfl:u=Value.ref a:=rx
 exact⟨xQ I2 g,Ds hu I2 g ry fun w' s3 I3 jp=>⟨v,H2,I3,jp,q2⟩⟩
end
theorem xR{w:World}(h:Heap)(hb:sysModules<h.objs.size):eS P w H (h.push { cls:=.type "dict",data:=.dict #[] }) h.objs.size (.dK []):=
 ⟨cH _,bq.mpr (Ne.symm (bf hb)),[],.nil,Heap.DictOf.new h⟩
def OR:TE:=fun _ H Q=>∀p,H p=none->Q (.ref p) (eR H p (.dK []))
section
theorem EU:PE X (.Dict [] [] pos) OR:=fun pins s σ H Q I h=>
 wpAny_Dict_empty ⟨.ref s.heap.objs.size,_,I.laid (a:=s.heap.objs.size) (o:=.dK []) (t':=s.toks) (fun _ _ q=>am _ q) (aw _) (xR s.heap I.big),rfl,h _ (I.hok.fresh (aw _))⟩
end
def v8:List (TE×TE)->St->Hp->(List (V×V)->Hp->Prop)->Prop
 |[],_,H,Q=>Q [] H
 |(tk,tv)::r,σ,H,Q=>tk σ H fun x H1=>tv σ H1 fun y H2=>v8 r σ H2 fun ps H3=>Q ((x,y)::ps) H3
abbrev VV:List (V×V)->List (Value×Value)->Prop:=Paired fun p q=>bL p.1 q.1/\bL p.2 q.2
def SR(X:Cx)(pos:Pos)(keys:List (Option Expr))(km:List Expr)(Bq:List (TE×TE)):Prop:=
 ∀(pins:List (Addr×Obj)) (s:Shared) (σ:St) (H:Hp) (Q:List (V×V)->Hp->Prop),bz X pins σ H s->v8 Bq σ H Q ->
  wpAny (model X.prog X.w) X.A (evalPairs (pairTrees keys km X.env pos)) (fun vs s'=>∃ps H',bz X pins σ H' s'/\VV ps vs/\Q ps H') X.xe s
theorem JU:SR X pos [] [] []:=fun pins s σ H Q I h=>pairTrees_nil_walk ⟨[],H,I,.nil,h⟩
theorem EV{k v:Expr}{vs:List Expr}{tk tv:TE}{Bq:List (TE×TE)}(hk:PE X k tk)(hv:PE X v tv)(hr:SR X pos ks vs Bq) :
  SR X pos (some k::ks) (v::vs) ((tk,tv)::Bq):=fun pins s σ H Q I h=>
 pairTrees_cons_walk (fJ (hk pins s σ H _ I h) fun u s1 ⟨x,H1,I1,rx,q1⟩=>fJ (hv pins s1 σ H1 _ I1 q1) fun w2 s2 ⟨y,H2,I2,ry,q2⟩=>
  fJ (hr pins s2 σ H2 _ I2 q2) fun ws s3 ⟨ps,H3,I3,rel,q3⟩=>⟨(x,y)::ps,H3,I3,.cons ⟨rx,ry⟩ rel,q3⟩)
def nC(kvs lh:List (f6×V)):List (f6×V):=lh.foldl (fun acc kv=>m8 acc kv.1 kv.2) kvs
theorem KV.merge:∀{lh:List (f6×V)} {rs:List (f6×Value)} {kvs:List (f6×V)} {vs:List (f6×Value)},KV lh rs->KV kvs vs->KV (nC kvs lh) (merged vs rs):=by
 intro lh rs kvs vs r
 unfold KV at r
 induction r generalizing kvs vs with
 |nil=>intro q;exact q
 |@cons p q ps qs h t ih=>
  intro r0
  have e:KV (m8 kvs p.1 p.2) (stored vs q.1 q.2):=by
   have:=r0.put p.1 h.2
   rw[<- h.1];exact this
  exact ih e
theorem oH:∀(lh kvs:List (f6×V)),(nC kvs lh).length<=kvs.length+lh.length
 |[],kvs=>by show kvs.length<=kvs.length+0;omega
 |p::r,kvs=>by
  have h1:=oH r (m8 kvs p.1 p.2)
  have h2:=nB kvs p.1 p.2
  show(nC (m8 kvs p.1 p.2) r).length<=_
  rw[bv];omega
theorem si{P:Program}{w:World}:∀{kvs:List (f6×V)} {ws:List (Value×Value)},VV (kvs.map fun kv=>(kV kv.1,kv.2)) ws->∃rs,Carries (dR P w) ws rs/\KV kvs rs
 |[],_,r=>by rw[dD]at r;cases r;exact⟨[],True.intro,.nil⟩
 |p::kvs,_,r=>by
  rw[aH]at r
  cases r with
  |@cons a b as bs h t=>
   obtain⟨rs,c,q⟩:=si (P:=P) (w:=w) t
   obtain⟨b1,b2⟩:=b
   exact⟨(p.1,b2)::rs,⟨qU h.1,rfl,c⟩,.cons ⟨rfl,h.2⟩ q⟩
def SU(Bq:List (TE×TE)):TE:=fun σ H Q=>∀p,H p=none->v8 Bq σ (eR H p (.dK [])) fun ps H2=>H2 p=some (.dK [])/\∃kvs:List (f6×V),ps=kvs.map (fun kv=>(kV kv.1,kv.2))/\kvs.length<=15/\Q (.ref p) (eR H2 p (.dK (nC [] kvs)))
theorem JV{keys:List (Option Expr)}{km:List Expr}{Bq:List (TE×TE)}(h:SR X pos keys km Bq)(ng:keys.all (·.isSome)=true)(hl:keys.length=km.length)(h0:keys≠[])
  (WR:keys.length<=15):PE X (.Dict keys km pos) (SU Bq):=by
 intro pins s σ H Q I q
 have hn:=I.hok.fresh (aw s.heap.objs.size)
 have I1:=I.laid (a:=s.heap.objs.size) (o:=.dK []) (h':=s.heap.push { cls:=.type "dict",data:=.dict #[] }) (t':=s.toks) (fun _ _ q=>am _ q) (aw _) (xR s.heap I.big)
 refine wpAny_Dict_walk (knd:=dR X.prog X.w) ng hl h0 WR (fJ (h pins _ σ _ _ I1 (q _ hn)) fun ws s2 ⟨ps,H2,I2,rel,e,kvs,ep,lk,q2⟩=>?_)
 subst ep
 obtain⟨rs,c,rk⟩:=si (P:=X.prog) (w:=X.w) rel
 obtain⟨z,hd,vs0,r0,dd⟩:=BC I2.hok e
 cases r0
 refine⟨rs,c,dd,fun h' dd' hs=>⟨.ref s.heap.objs.size,_,?_,rfl,q2⟩⟩
 have hz:(nC [] kvs).length<=sizeLine:=by
  have h1:=oH kvs []
  rw[dg]at h1
  rw[iF];omega
 have he:∃q,h'.get? s.heap.objs.size=some q:=let ⟨q,_,_,hq,_⟩:=dd';⟨q,hq⟩
 exact mi I2 (by rw[e];exact True.intro) hs he (Ac hz hd (rk.merge .nil) dd')
structure M1(X:Cx)(o:Expr)(m:Str)(eV:Pos)(e:Expr)(cS:Pos):Prop where
 base:attributeBase o m X.env (eval o X.env)=eval o X.env
 few:((backTo cS (starEach [e] X.env)).all (fun x=>!x.1)&&(backToKw cS (keywordEach [] X.env)).all (fun x=>x.1.isSome)
  && decide (([e]:List Expr).length+([]:List Keyword).length+(if ([]:List Keyword).isEmpty then 0 else 1)<30))=true
 line:(eV.endLine==cS.line)=true
 trees:backTo cS (starEach [e] X.env)=[(false,eval e X.env)]
structure M2(X:Cx)(o:Expr)(m:Str)(eV:Pos)(e f:Expr)(cS:Pos):Prop where
 base:attributeBase o m X.env (eval o X.env)=eval o X.env
 few:((backTo cS (starEach [e,f] X.env)).all (fun x=>!x.1)&&(backToKw cS (keywordEach [] X.env)).all (fun x=>x.1.isSome)
  && decide (([e,f]:List Expr).length+([]:List Keyword).length+(if ([]:List Keyword).isEmpty then 0 else 1)<30))=true
 line:(eV.endLine==cS.line)=true
 trees:backTo cS (starEach [e,f] X.env)=[(false,eval e X.env),(false,eval f X.env)]
def W5(H:Hp)(a:Addr):Prop:=(∃kvs,Rd H a (.dK kvs))\/∃kvs,Rd H a (.dT kvs)
theorem OS(I:bz X pins σ H s)(d:W5 H a) :
  s.TypeIs (.ref a) "dict"/\(∀b,Value.ref a=.ref b->∃ob,s.heap.get? b=some ob/\ob.dict=none)/\(a==sysModules)=false:=by
 rcases d with⟨kvs,e⟩|⟨kvs,e⟩
 ·obtain⟨_,hd,vs,_,dd⟩:=oG I.hok e
  refine⟨dd.typeIs,fun b q=>?_,hd⟩
  cases q
  obtain⟨ob,_,_,h1,h2,_⟩:=dd
  exact⟨ob,h1,h2.2.1⟩
 ·obtain⟨_,hd,xs,_,dd⟩:=vc I.hok e
  refine⟨dd.typeIs,fun b q=>?_,hd⟩
  cases q
  obtain⟨ob,_,_,h1,h2,_⟩:=dd
  exact⟨ob,h1,h2.2.1⟩
section
variable{d:V}{r:Value}{o:Option V}
end
def OT(td ty:TE):TE:=fun σ H Q=>td σ H fun x H1=>∃a,x=.ref a/\W5 H1 a/\ty σ H1 fun y H2=>∃kvs k v,H2 a=some (.dK kvs)/\y=kV k/\j5 kvs k=some v/\Q v (eR H2 a (.dK (mW kvs k)))
section
variable{f:Expr}{td ty tx:TE}
theorem EW(ho:PE X o td)(he:PE X e ty)(m:M1 X o "pop" eV e cS):PE X (.Call (.Attribute o "pop" eV) [e] [] cS) (OT td ty):=by
 intro pins s σ H Q I h
 refine kX m.base m.few m.line PySem.F.plainAttrs_dict PySem.F.slot_dict_pop PySem.F.type_dict_pop (fJ (ho pins s σ H _ I h) fun u s1 ⟨x,H1,I1,rx,a,ex,d,q1⟩=>?_)
 subst ex
 obtain rfl:u=Value.ref a:=rx
 obtain⟨t1,t2,_⟩:=OS I1 d
 refine⟨t1,t2,?_⟩
 rw[m.trees]
 refine eN rfl (gO (gi (fJ (he pins s1 σ H1 _ I1 q1) fun iv s2 ⟨y,H2,I2,ry,kvs,k,v,ea,ey,l,q2⟩=>iI ?_)))
 subst ey
 exact SM I2 ea ry l (.inl rfl) fun w' s3 I3 jp=>⟨v,_,I3,jp,q2⟩
end
section
variable{kvs:List (f6×V)}
end
section
end
section
end
section
variable{κ:Type}[DecidableEq κ]
theorem Du{p:κ×V}{r:List (κ×V)}{k:κ}(e:p.1=k):mW (p::r) k=mW r k:=by
 unfold mW
 rw[cU,az (by simp[e])]
theorem Dv{p:κ×V}{r:List (κ×V)}{k:κ}(e:¬ p.1=k):mW (p::r) k=p::mW r k:=by
 unfold mW
 rw[cU,ar (by simp[e])]
end
end L2
set_option maxHeartbeats 4000000
namespace L2
open PySem PySem.Spec PyProof.Rows
abbrev bT(X:Cx)(nm:List Str)(scope:Scope)(cl:List (Str×Addr))(C:Addr)(s0:Shared)(H0:Hp)(fp:List Addr):Cx:=
 { X with N:=nm,s₀:=s0,H₀:=H0,env:=compEnvC scope cl C X.env,outer:=X.stack,stack:=X.stack,ex:=fp,fn:=fun _=>false,pn:=[],xe:=fun _ _=>False }
def Jl(X:Cx)(mf:List Expr)(t:TT):Prop:=
 ∀(pins:List (Addr×Obj)) (s:Shared) (σ:St) (H:Hp) (Q:Bool->Hp->Prop),bz X pins σ H s->t σ H Q ->
  wpAny (model X.prog X.w) X.A (forIn mf true fun c r=>if r=true then do let ok <- isTrue c X.env (eval c X.env);pure (ForInStep.yield ok)else pure (ForInStep.yield r)) (TP X pins σ Q) X.xe s
def Wm:TT:=fun _ H Q=>Q true H
theorem JW:Jl X [] Wm:=fun _ _ _ H _ I h=>wpAny_tests_nil ⟨H,I,h⟩
theorem JX{t:TT}(hc:PT X c t):Jl X [c] t:=fun pins s σ H Q I h=>wpAny_tests_one (hc pins s σ H Q I h)
def oI(cap:List (Option Nat))(σ:St):St:=cap.map fun o=>o.bind fun j=>(σ[j]?).join
def vd(cap:List (Option Nat))(wi:TI)(g:TG)(tc:TT)(te:TE):TE:=fun σ H Q=>wi σ H fun J H1=>∃W:Nat->Nat->List V->Hp->Prop,(∃m,W 0 m [] H1)/\∀i m ys H2,W i m ys H2 ->
 (J.stop i H2/\ys.length<=sizeLine/\∀p,H2 p=none->Q (.ref p) (eR H2 p (.lst ys))) \/
 (J.go i H2/\∀x H3,J.yld i H2 x H3->g x (oI cap σ) H3 fun σ2 H4=>tc σ2 H4 fun b H5=>if b=true then te σ2 H5 fun y H6=>ys.length<sizeLine/\∃m',m'<m/\W (i+1) m' (ys++[y]) H6 else ∃m',m'<m/\W (i+1) m' ys H5)
theorem Un.cellK{fs ex:List Addr}(u:Un fs ex H H' h h'){c:Addr}{v:Option Value}(x:h.IsCell c v)(n:H c=none)(he:c∉ex):h'.IsCell c v:=by
 obtain⟨o,ho,hd⟩:=x
 obtain⟨sl,q⟩:=u.any ho n he
 exact⟨_,q,hd⟩
structure BD(X:Cx)(scope:Scope)(cl:List (Str×Addr))(x:Str):Prop where
 vis:R4 X.env.scope x
 nl:X.env.scope.names.lookup x≠some .local
 cl:cl.lookup x=X.env.cells.lookup x
 kd:(relabel scope X.env).names.lookup x=some .cell\/(relabel scope X.env).names.lookup x=some .free
section
variable{wi:TI}{g:TG}{tc:TT}
theorem LQ{Nz:List (Addr×Obj)}{σ2:St}{H1:Hp}{s2:Shared}{C:Addr}
  (zP:∀(i j:Nat),cap[i]?=some (some j)->∃x,nm[i]?=some x/\X.N[j]?=some x/\BD X scope cl x) (cY:cap.length=nm.length)
  (I2:bz X pins σ H1 s2) (XI:∀b∈fp,∀x c,X.env.cells.lookup x=some c->c≠b)
  (I:bz (bT X nm scope cl C s2 H1 fp) Nz σ2 H s):bz (bT X nm scope cl C s2 H1 fp) Nz (oI cap σ) H s:=by
 refine⟨I.ok,I.os,I.bare,I.base,?_,I.cell,I.free,I.freeC,I.pin,I.hok,by show(oI cap σ).length=nm.length;unfold oI;rw[ai];exact cY⟩
 obtain⟨m,hn,_⟩:=I.loc
 refine⟨m,hn,fun i x v e1 e2 e3=>?_⟩
 unfold oI at e2
 rw[ak]at e2
 cases hc:cap[i]? with
 |none=>rw[hc]at e2;cases e2
 |some oj=>
  cases oj with
  |none=>rw[hc]at e2;cases e2
  |some j=>
   rw[hc]at e2
   have e2':(σ[j]?).join=some v:=by simpa using e2
   have e2:σ[j]?=some (some v):=by
    cases hs:σ[j]? with
    |none=>rw[hs]at e2';cases e2'
    |some ov=>rw[hs]at e2';simp at e2';rw[e2']
   obtain⟨x',f1,f2,k⟩:=zP i j hc
   have hx:x'=x:=by
    have z:nm[i]?=some x:=e1
    rw[f1]at z;exact aY z
   subst hx
   obtain⟨m2,_,hl2⟩:=I2.loc
   obtain⟨u,r,l⟩:=hl2 j x' v f2 e2 k.vis
   refine⟨u,r,?_⟩
   rcases l with⟨kl,_⟩|⟨_,c,hcc,iE⟩
   ·exact absurd kl k.nl
   ·refine .inr ⟨k.kd,c,by rw[<- hcc];exact k.cl,?_⟩
    exact I.base.cellK iE (I2.freeC _ _ hcc) fun z=>XI c z _ _ hcc rfl
theorem v9{prog:Program}{w:World}{A:Around}{E:Value->Shared->Prop}{l:Addr}{bn:List Value}{u:Value}{Q:Value->Shared->Prop}
  (e:s.heap.get? l=some { cls:=.type "list",data:=.seq bn.toArray n }) (hz:bn.length<sizeLine)
  (h:∀(h':Heap) (n' tk:Nat),h'.get? l=some { cls:=.type "list",data:=.seq (bn++[u]).toArray n' }->(∀b o,b≠l->s.heap.get? b=some o->h'.get? b=some o)->Q .none { s with heap:=h',toks:=tk }) :
  wpAny (model prog w) A (call (.builtin "list.append") [.ref l,u]) Q E s:=by
 refine ku F.slot_list_append ⟨_,e,rfl⟩ F.entry_list_append (F.args_list_append_2 _ _) (PySem.list_append l bn.toArray n u (by rw[aF];omega)) ⟨e,?_⟩
 have q:=PySem.IsL.update e (fun a=>a.push u)
 have q2:(s.heap.update l (Obj.mapSeq fun x=>x.push u)).get? l=some { cls:=.type "list",data:=.seq (bn++[u]).toArray (if ((bn.toArray.push u).size==bn.toArray.size)=true then n else n+1) }:=by
  rw[show(s.heap.update l (Obj.mapSeq fun x=>x.push u)).get? l=_ from q];simp
 exact h _ _ s.toks q2 fun b o hb ho=>(iK s.heap (Obj.mapSeq _) (Ne.symm hb)).trans ho
structure BE(X:Cx)(pins:List (Addr×Obj))(H:Hp)(s:Shared)(C:Addr)(m:Str->Option Value):Prop where
 ns:s.heap.Ns C m
 fr:H C=none
 nl:C≠X.env.locals
 nf:C∉X.fs
 hi:X.s₀.heap.objs.size<=C
 nc:∀x c,X.env.cells.lookup x=some c->c≠C
 np:∀p∈X.pn++pins,p.1≠C
theorem BE.off{C:Addr}{m:Str->Option Value}(B:BE X pins H s C m)(I:bz X pins σ H s)(hs:Heap.SameBut C s.heap h'):bz X pins σ H { s with heap:=h' }:=I.turned (t':=s.toks) (it:=C) (fun b o hb e=>hs.extBut b o hb e) B.fr B.nl (.inr B.hi) B.nc B.np
theorem ve{use:Option (Value->Sem Unit)}{Qk:VK}{Qv:Value->Shared->Prop}(iD:X.calm=true)(zC:closureFor scope X.env=pure cl)(lT:∀x c,cl.lookup x=some c->X.env.cells.lookup x=some c)
  (hZ:scope.kind=.function) (uh:∀x∈scope.names,x.2=.local->scope.names.lookup x.1=some .local) (iE:∀y∈scope.names,y.2≠.cell)
  (IX:∀x,((relabel scope X.env).names.lookup x=some .cell\/(relabel scope X.env).names.lookup x=some .free)->∃c,cl.lookup x=some c)
  (zP:∀(i j:Nat),cap[i]?=some (some j)->∃x,nm[i]?=some x/\X.N[j]?=some x/\BD X scope cl x) (cY:cap.length=nm.length)
  (hi:PI X tg iter wi) (hg:∀C s0 H0 fp,PG (bT X nm scope cl C s0 H0 fp) tg g) (ht:∀C s0 H0 fp,Jl (bT X nm scope cl C s0 H0 fp) mf tc)
  (he:∀C s0 H0 fp,PE (bT X nm scope cl C s0 H0 fp) oB te) (hs:∀x,foldedSetIterable iter X.env x=pure x)
  (I:bz X pins σ H s) (h:vd cap wi g tc te σ H Qk) (fin:∀(s4:Shared) (C D:Addr) (m4:Str->Option Value) (Hn:Hp),bz X pins σ Hn s4->BE X pins Hn s4 C m4->Qk (.ref D) Hn->compPost (model X.prog X.w) X.A X.xe use Qv (.ref D) C (.ok .next) s4) :
  wpAny (model X.prog X.w) X.A (comprehension (.ListComp oB [⟨tg,iter,mf,0⟩] scope pos) scope X.env (firstIterPos [⟨tg,iter,mf,0⟩] pos) (newList []) (firstAsync [⟨tg,iter,mf,0⟩]) (firstIter [⟨tg,iter,mf,0⟩] X.env) use) Qv X.xe s:=by
 refine wpAny_comprehension_free (use:=use) rfl hs zC hZ uh (fJ (hi pins s σ H _ I h) fun v s1 h1=>fJ h1 fun W0 s2 h2=>?_)
 obtain⟨it,fp,tn,J,H1,e,I2,T,cV,f2,W,⟨m0,w0⟩,turn⟩:=h2
 subst e
 have hfpn:∀b∈fp,b<s2.heap.objs.size:=fun b hb=>let ⟨o,ho,_⟩:=T.obj _ _ cV b hb;aE ho
 have hfpc:∀b∈fp,∀x c,X.env.cells.lookup x=some c->c≠b:=fun b hb=>(f2 b hb).2.2.2.2.1
 refine dB (wpAny_newFunctionEnv iE (by intro y hy;simp at hy) (fun h₁ hns₁ hsb₁=>?_) hZ)
 dsimp only at hns₁ hsb₁ ⊢
 generalize hH2:s2.heap.push { cls:=.type "list",dict:=none,data:=.seq ([]:List Value).toArray }=G2 at hns₁ hsb₁ ⊢
 have hC:G2.objs.size=s2.heap.objs.size+1:=by rw[<- hH2,d8]
 have hDC:s2.heap.objs.size≠G2.objs.size:=by rw[hC];exact bf (lZ _)
 have old:∀b o,s2.heap.get? b=some o->h₁.get? b=some o:=fun b o e=>hsb₁.extBut b o (by rw[hC];exact bf (iL (aE e))) (am _ (hH2▸am _ e))
 have hacc:h₁.get? s2.heap.objs.size=some { cls:=.type "list",data:=.seq ([]:List Value).toArray }:=hsb₁.extBut _ _ hDC (am _ (hH2▸aC _ rfl))
 have okB:(bT X nm scope cl G2.objs.size s2 H1 fp).Ok:=by
  refine⟨I2.ok.mod,hZ,I2.ok.glob,I2.ok.blt,by show s2.heap.objs.size<=G2.objs.size;omega,fun x y c h1 h2=>I2.ok.inj x y c (lT _ _ h1) (lT _ _ h2),fun x hx=>IX x hx,fun x c h0=>(by cases h0),fun hc=>I2.ok.hd iD,I2.ok.frames,.inl rfl,?_,?_,?_,?_,?_,?_,?_⟩
  ·intro b hb
   exact⟨bf (aT (hfpn b hb) (by show _<=G2.objs.size;omega)),fun x c hx=>hfpc b hb x c (lT _ _ hx)⟩
  ·exact fun b o hb=>I2.bs b o hb
  ·exact aR I2.ok.bsz I2.sz
  ·intro b o hb z
   rcases(f2 b z).2.2.2.1 with q|q
   ·exact I2.ok.noex b o hb q
   ·exact absurd (aE (I2.ok.bs b o hb).1) (Nat.not_lt.mpr q)
  ·intro b hb z
   rcases a_.mp (I2.stkSub b z)with q|q
   ·exact(f2 b hb).2.1 q
   ·exact(f2 b hb).2.2.1 q
  ·exact I2.stack
  ·exact I2.stkFree
 have I4:bz (bT X nm scope cl G2.objs.size s2 H1 fp) [] (oI cap σ) H1 { s2 with heap:=h₁,toks:=s2.toks+([]:List (Str×Value)).length }:=by
  refine LQ zP cY I2 hfpc (σ2:=List.replicate nm.length none) ⟨okB,rfl,I2.bare,Un.kept old,⟨_,hns₁,fun i x v _ e2=>?_⟩,fun x c hx=>?_,?_,fun x c hx=>I2.freeC x c (lT _ _ hx),fun p hp=>absurd hp (by simp),I2.hok.kept old,by simp⟩
  ·rw[lV]at e2;split at e2<;>cases e2
  ·obtain⟨v,hv⟩:=I2.cell x c (lT _ _ hx)
   exact⟨v,hv.keeps old⟩
  ·exact I2.hok.fresh (by show _<=G2.objs.size;omega)
 have hsz0:∀{Hx:Hp} {sx:Shared} {px:List (Addr×Obj)} {σx:St},bz (bT X nm scope cl G2.objs.size s2 H1 fp) px σx Hx sx->Hx s2.heap.objs.size=none->∀{oa:Obj},sx.heap.get? s2.heap.objs.size=some oa->(∀v,oa.data≠.cell v) ->
   bz (bT X nm scope cl G2.objs.size s2 H1 fp) [(s2.heap.objs.size,oa)] σx Hx sx:=fun{Hx sx px σx} Ix hn {oa} ho hd=>Ix.pins_of fun p hp=>by
  have e:p=(s2.heap.objs.size,oa):=by simpa using hp
  subst e
  exact⟨ho,hn,hDC,fun z=>by
   obtain⟨_,o,q,_⟩:=I2.stack.mem z
   exact absurd (aE q) (bH _),hd⟩
 have hfpB:∀{Hx:Hp} {oa:Obj},(∀b∈fp,Hx b=none)->∀b∈fp,ny (bT X nm scope cl G2.objs.size s2 H1 fp) [(s2.heap.objs.size,oa)] Hx b:=fun{Hx oa} hn b hb=>
  ⟨hn b hb,(okB.exf b hb).1,okB.exfs b hb,.inl hb,(okB.exf b hb).2,fun p hp=>by
   have e:p=(s2.heap.objs.size,oa):=by simpa using hp
   subst e
   exact jX (hfpn b hb)⟩
 have hcalmB:(bT X nm scope cl G2.objs.size s2 H1 fp).calm=true:=iD
 have loop:∀sx:Shared,sx={ s2 with heap:=h₁,toks:=s2.toks+([]:List (Str×Value)).length } ->
   codeAny (model X.prog X.w) X.A (.compLoop (.ListComp oB [⟨tg,iter,mf,0⟩] scope pos) 0 (.ref it) (.ref s2.heap.objs.size) (compEnvC scope cl G2.objs.size X.env))
    (compPost (model X.prog X.w) X.A X.xe use Qv (.ref s2.heap.objs.size) G2.objs.size) sx:=by
  rintro sx rfl
  refine codeAny_loop rfl (fun n s'=>∃i ys H',bz (bT X nm scope cl G2.objs.size s2 H1 fp) [] (oI cap σ) H' s'/\tn i s'.heap/\(∀b∈fp,H' b=none)/\H' s2.heap.objs.size=none /\
   (∃bn k,cv ys bn/\s'.heap.get? s2.heap.objs.size=some { cls:=.type "list",data:=.seq bn.toArray k })/\W i n ys H') ?_ m0
   ⟨0,[],H1,I4,T.keep _ _ _ cV (fun b _ o e=>old b o e),fun b hb=>(f2 b hb).1,I2.fresh,⟨[],0,.nil,hacc⟩,w0⟩
  rintro n s3 ⟨i,ys,H3,I3,ju,fr3,na3,⟨bn,ka,rv,ea⟩,w3⟩
  show wpAny _ X.A ((compTurn (.ListComp oB [⟨tg,iter,mf,0⟩] scope pos) 0 (.ref it) (.ref s2.heap.objs.size) (compEnvC scope cl G2.objs.size X.env)).onRaise (fun x=>do noteFrame x (compEnvC scope cl G2.objs.size X.env);theTreesLotGoes x)) _ _ s3
  refine wpAny_noted ?_
  rw[compTurn_list]
  refine ae (jm ?_)
  have I3p:=hsz0 I3 na3 ea (fun v z=>by cases z)
  rcases turn i n ys H3 w3 with⟨stop,hz,qn⟩|⟨go,step⟩
  ·refine ae (eB (T.done (bT X nm scope cl G2.objs.size s2 H1 fp) rfl rfl rfl hcalmB i _ s3 _ H3 (fun _ _=>False) I3p (hfpB fr3) ju stop) (fun r s4 hr=>?_) fun _ _ z=>z.elim)
   obtain⟨hr,I4'⟩:=hr
   subst hr
   refine ao ?_
   obtain⟨m4,hn4,_⟩:=id I4'.loc
   have pa:=I4'.pin (s2.heap.objs.size,{ cls:=.type "list",data:=.seq bn.toArray ka }) (by simp)
   have ne:∀b o,s2.heap.get? b=some o->b≠s2.heap.objs.size/\b≠G2.objs.size:=fun b o e=>⟨bf (aE e),bf (by rw[hC];exact iL (aE e))⟩
   have I5:bz X pins σ (eR H3 s2.heap.objs.size (.lst ys)) s4:=by
    refine I2.call' (ch:=fp) I4'.os ⟨fun b o e n hb hx=>?_,fun b o e n hb hx=>?_,fun b o e n hx=>?_,fun b o e hx=>?_,fun b xs e=>?_,fun b o u e=>?_,fun b ps e=>?_⟩ ?_ I4'.bare fun b hb=>?_
    ·exact I4'.base.keep b o e n hb hx
    ·exact I4'.base.slot b o e n hb hx
    ·rw[cJ (ne b o e).1];exact I4'.base.free b o e n hx
    ·exact I4'.base.there b o e hx
    ·have q:=I4'.base.tups b xs e
     rw[cJ (eY q na3)];exact q
    ·have q:=I4'.base.frzs b o u e
     rw[cJ (eY q na3)];exact q
    ·obtain⟨mr,q⟩:=I4'.base.tbls b ps e
     exact⟨mr,by rw[cJ (eY q na3)];exact q⟩
    ·intro b o e
     by_cases hb:b=s2.heap.objs.size
     ·subst hb
      rw[eX]at e;cases e
      exact⟨hz,bn,ka,rv,pa.1⟩
     ·rw[cJ hb]at e
      exact(I4'.hok b o e).stay (fun c u hc q=>q) (fun c q=>by rw[cJ (eY q na3)];exact q) fun c xs q=>by rw[cJ (eY q na3)];exact q
    ·obtain⟨_,g1,_,g3,g4,g5⟩:=f2 b hb
     exact⟨g3,g1,g4,g5⟩
   have lC:s2.heap.objs.size<=G2.objs.size:=by rw[hC];exact f_ _
   exact fin s4 G2.objs.size _ m4 _ I5 ⟨hn4,by rw[cJ (Ne.symm hDC)];exact I4'.free,jX (aT I2.lt lC),I2.nofs lC,aR I2.sz lC,fun x c hx z=>(by
    obtain⟨v,o,ho,_⟩:=I2.cell x c hx
    exact absurd (aE ho) (by rw[z];exact Nat.not_lt.mpr lC)),fun p hp z=>(by
    have:=(I2.pin p hp).1
    exact absurd (aE this) (by rw[z];exact Nat.not_lt.mpr lC))⟩ (qn _ na3)
  ·refine ae (eB (T.item (bT X nm scope cl G2.objs.size s2 H1 fp) rfl rfl rfl hcalmB i _ s3 _ H3 (fun _ _=>False) I3p (hfpB fr3) ju go) (fun r s4 hr=>?_) fun _ _ z=>z.elim)
   obtain⟨u,hr,h4⟩:=hr
   subst hr
   dsimp only
   refine ae (eB h4 (fun _ s5 h5=>?_) fun _ _ z=>z.elim)
   obtain⟨x,H5,I5,r5,y5,Jh,fr5⟩:=h5
   have I5':=I5.pinned (hfpB fr5) (T.obj _ _ Jh)
   refine ae (eB (hg _ _ _ _ _ s5 _ H5 x u _ I5' r5 (step x H5 y5)) (fun _ s6 h6=>?_) fun _ _ z=>z.elim)
   obtain⟨σ6,H6,I6,q6⟩:=h6
   refine ae (eB (ht _ _ _ _ _ s6 σ6 H6 _ I6 q6) (fun ok s7 h7=>?_) fun _ _ z=>z.elim)
   obtain⟨H7,I7,q7⟩:=h7
   have back:∀{H8:Hp} {s8:Shared} {RV:List V} {its':List Value} {k':Nat},bz (bT X nm scope cl G2.objs.size s2 H1 fp) [] σ6 H8 s8->(∀b∈fp,∀o,s5.heap.get? b=some o->s8.heap.get? b=some o)->(∀b∈fp,H8 b=none)->H8 s2.heap.objs.size=none ->
     cv RV its'->s8.heap.get? s2.heap.objs.size=some { cls:=.type "list",data:=.seq its'.toArray k' }->(∃m',m'<n/\W (i+1) m' RV H8) ->
     ∃m,m<n/\∃i ys H',bz (bT X nm scope cl G2.objs.size s2 H1 fp) [] (oI cap σ) H' s8/\tn i s8.heap/\(∀b∈fp,H' b=none)/\H' s2.heap.objs.size=none /\
      (∃bn k,cv ys bn/\s8.heap.get? s2.heap.objs.size=some { cls:=.type "list",data:=.seq bn.toArray k })/\W i m ys H':=
    fun{H8 s8 RV its' k'} I8 kf f8 n8 rv8 e8 ⟨m',hm,w8⟩=>⟨m',hm,i+1,RV,H8,LQ zP cY I2 hfpc I8,T.keep _ _ _ Jh kf,f8,n8,⟨its',k',rv8,e8⟩,w8⟩
   cases ok with
   |false=>
    refine ao ⟨rfl,?_⟩
    have q7':∃m',m'<n/\W (i+1) m' ys H7:=by simpa using q7
    have pa:=I7.pin (s2.heap.objs.size,{ cls:=.type "list",data:=.seq bn.toArray ka }) (by simp)
    refine back (I7.pins_of fun p hp=>absurd hp (by simp)) (fun b hb o e=>?_) (fun b hb=>?_) pa.2.1 rv pa.1 q7'
    ·exact(I7.pin (b,o) (aW _ (aW _ (i9 hb e)))).1
    ·obtain⟨o,e,d⟩:=T.obj _ _ Jh b hb
     exact(I7.pin (b,o) (aW _ (aW _ (i9 hb e)))).2.1
   |true=>
    rw[ar rfl]at q7
    refine ae (ae (eB (he _ _ _ _ _ s7 σ6 H7 _ I7 q7) (fun xv s8 h8=>?_) fun _ _ z=>z.elim))
    obtain⟨y,H8,I8,r8,hzy,q8⟩:=h8
    have pa:=I8.pin (s2.heap.objs.size,{ cls:=.type "list",data:=.seq bn.toArray ka }) (by simp)
    refine ae (v9 pa.1 (by rw[<- rv.length];exact hzy) fun h' k' tk e9 sb=>?_)
    refine ao (ao ⟨rfl,?_⟩)
    have I9:bz (bT X nm scope cl G2.objs.size s2 H1 fp) [] σ6 H8 { s8 with heap:=h',toks:=tk }:=
     (bz.pins_of (pins':=[]) I8 fun p hp=>absurd hp (by simp)).turned (it:=s2.heap.objs.size) (fun b o hb e=>sb b o hb e) pa.2.1 hDC (.inr (aw _)) (fun x c hx z=>by
      obtain⟨v,hv⟩:=I2.cell x c (lT _ _ hx)
      exact absurd hv.lt (by rw[z];exact bH _)) (fun p hp=>absurd hp (by simp))
    refine back I9 (fun b hb o e=>?_) (fun b hb=>?_) pa.2.1 (rv.append (.cons r8 .nil)) e9 q8
    ·exact sb b o (bf (hfpn b hb)) (I8.pin (b,o) (aW _ (aW _ (i9 hb e)))).1
    ·obtain⟨o,e,d⟩:=T.obj _ _ Jh b hb
     exact(I8.pin (b,o) (aW _ (aW _ (i9 hb e)))).2.1
 exact codeAny_compStart_list (loop _ rfl) (T.self _ _ _ _ _ (T.keep _ _ _ cV fun b _ o e=>old b o e) (loop _ rfl))
theorem JY(iD:X.calm=true)(zC:closureFor scope X.env=pure cl)(lT:∀x c,cl.lookup x=some c->X.env.cells.lookup x=some c)
  (hZ:scope.kind=.function) (uh:∀x∈scope.names,x.2=.local->scope.names.lookup x.1=some .local) (iE:∀y∈scope.names,y.2≠.cell)
  (IX:∀x,((relabel scope X.env).names.lookup x=some .cell\/(relabel scope X.env).names.lookup x=some .free)->∃c,cl.lookup x=some c)
  (zP:∀(i j:Nat),cap[i]?=some (some j)->∃x,nm[i]?=some x/\X.N[j]?=some x/\BD X scope cl x) (cY:cap.length=nm.length)
  (hi:PI X tg iter wi) (hg:∀C s0 H0 fp,PG (bT X nm scope cl C s0 H0 fp) tg g) (ht:∀C s0 H0 fp,Jl (bT X nm scope cl C s0 H0 fp) mf tc)
  (he:∀C s0 H0 fp,PE (bT X nm scope cl C s0 H0 fp) oB te) (hs:∀x,foldedSetIterable iter X.env x=pure x:=by intro _;rfl) :
  PE X (.ListComp oB [⟨tg,iter,mf,0⟩] scope pos) (vd cap wi g tc te):=by
 intro pins s σ H Q I h
 rw[eval_ListComp]
 exact ve iD zC lT hZ uh iE IX zP cY hi hg ht he hs I h fun s4 C D m4 Hn I4 B q=>⟨m4,B.ns,fun h' hs'=>⟨.ref D,Hn,B.off I4 hs',rfl,q⟩⟩
end
def tx(l:List Nat):Str:=⟨l.toArray⟩
theorem OU(l:List Nat):(tx l).cps.toList=l:=rfl
theorem jv(l:List Nat):(tx l).length=l.length:=by show l.toArray.size=_;simp
theorem Ad(a b:List Nat):tx a++tx b=tx (a++b):=by
 show(⟨a.toArray++b.toArray⟩:Str)=⟨(a++b).toArray⟩
 simp
theorem EX{a b:List Nat}:tx a=tx b↔a=b:=⟨fun h=>by have:=dM (fun z:Str=>z.cps.toList) h;exact this,fun h=>by rw[h]⟩
def VD(mG:List V):It:=⟨fun i _=>i<mG.length,fun i H x H'=>H'=H/\mG[i]?=some x,fun i _=>mG.length<=i⟩
theorem sj{w:World}{mG:List V}{Pr:Nat->Value->Prop}{S:Nat->Heap->Prop}{ty:String}
  (W:∀A:Around,A.handled=none->Walks P w A it [it] [it] mG.length Pr S) (hv:∀i v,i<mG.length->Pr i v->∃x,mG[i]?=some x/\bL x v)
  (LH:∀i h,S i h->∃o vs,h.get? it=some o/\o.cls=.type ty/\o.data=.fields vs)
  (zF:["enumerate","zip","dict_itemiterator","dict_reverseitemiterator","odict_iterator","itertools.zip_longest","itertools.pairwise"].contains ty=false)
  (zO:∀(A:Around) (i:Nat) (s:Shared) (Q:Value->Shared->Prop) (E:Value->Shared->Prop),S i s.heap->Q (.ref it) s->wpAny (model P w) A (pyIter (.ref it)) Q E s) :
  xJ P w K tg (VD mG) [it] it (fun i h=>i<=mG.length/\S i h) where
 mem:=by simp
 obj:=fun i h st b hb=>by
  have e:b=it:=by simpa using hb
  subst e
  obtain⟨o,vs,e,c,d⟩:=LH i h st.2
  exact⟨o,e,fun v z=>by rw[d]at z;cases z⟩
 keep:=fun i h h' st k=>⟨st.1,(W { depth:=0,handled:=none,frames:=none } rfl).frame i h h' st.2 k⟩
 item:=by
  intro X hP hw hK hc i pins s σ H E I hf st hg
  subst hP hw hK
  obtain⟨f0,f1,f2,f3,f4,f5⟩:=hf it (by simp)
  refine(W X.A (I.ok.hd hc)).item i s _ _ hg st.2 fun v h' tk hp bG kk=>?_
  have I1:bz X pins σ H { s with heap:=h',toks:=tk }:=I.turned (fun b o hb e=>kk b o (by simpa using hb) e) f0 f1 f3 f4 f5
  obtain⟨x,hx,rx⟩:=hv i v hg hp
  obtain⟨o,vs,e,c,d⟩:=LH _ _ bG
  exact⟨v,rfl,Bv (s:={ s with heap:=h',toks:=tk }) e c d zF ⟨x,H,I1,rx,⟨rfl,hx⟩,⟨hg,bG⟩,fun b hb=>(hf b hb).1⟩⟩
 done:=by
  intro X hP hw hK hc i pins s σ H E I hf st hg
  subst hP hw hK
  obtain⟨f0,f1,f2,f3,f4,f5⟩:=hf it (by simp)
  have e:i=mG.length:=ie st.1 hg
  refine(W X.A (I.ok.hd hc)).done s _ _ (e▸st.2) fun h' tk kk=>⟨rfl,I.turned (fun b o hb e=>kk b o (by simpa using hb) e) f0 f1 f3 f4 f5⟩
 self:=fun A i s Q E st h=>zO A i s Q E st.2 h
section
def o1(l:List Nat):List V:=l.map fun c=>.str (tx [c])
def Wn(tl:TE):TI:=fun σ H R=>tl σ H fun x H1=>∃l,x=.str (tx l)/\R (VD (o1 l)) H1
theorem Dw(i:Nat)(v:Value)(hi:i<(o1 l).length)(h:SignAt (tx l) i v):∃x,(o1 l)[i]?=some x/\bL x v:=by
 obtain⟨c,u,hc,e⟩:=h
 refine⟨.str (tx [c]),?_,u,e⟩
 unfold o1
 rw[ak]
 have:l[i]?=some c:=by simpa[tx]using hc
 rw[this];rfl
theorem OV{l:Expr}{tl:TE}(hl:PE X l tl):PI X tg l (Wn tl):=by
 intro pins s σ H R I h
 refine fJ (hl pins s σ H _ I h) fun v s1 ⟨x,H1,I1,r1,q1⟩=>?_
 obtain⟨l,e,q⟩:=q1
 subst e
 obtain⟨t,rfl⟩:=r1
 have hn:(tx l).cps.size=(o1 l).length:=by unfold o1;simp[tx]
 have fin:∀(ob:Obj) (S:Nat->Heap->Prop) (ty:String),(∀A:Around,A.handled=none->Walks X.prog X.w A s1.heap.objs.size [s1.heap.objs.size] [s1.heap.objs.size] (tx l).cps.size (SignAt (tx l)) S)->S 0 (s1.heap.push ob) ->
   (∀i h,S i h->∃o vs,h.get? s1.heap.objs.size=some o/\o.cls=.type ty/\o.data=.fields vs) ->
   ["enumerate","zip","dict_itemiterator","dict_reverseitemiterator","odict_iterator","itertools.zip_longest","itertools.pairwise"].contains ty=false ->
   (∀(A:Around) (i:Nat) (s:Shared) (Q:Value->Shared->Prop) (E:Value->Shared->Prop),S i s.heap->Q (.ref s1.heap.objs.size) s->wpAny (model X.prog X.w) A (pyIter (.ref s1.heap.objs.size)) Q E s) ->
   V' X pins σ tg R (.ref s1.heap.objs.size) { s1 with heap:=s1.heap.push ob }:=fun ob S ty W h0 LH zF zO=>by
  rw[hn]at W
  refine⟨s1.heap.objs.size,[s1.heap.objs.size],_,_,H1,rfl,I1.kept (t':=s1.toks) fun b o e=>am _ e,sj W (fun i v hi hp=>Dw i v hi hp) LH zF zO,⟨cH _,h0⟩,fun b hb=>?_,q⟩
  have e:b=s1.heap.objs.size:=by simpa using hb
  subst e
  exact I1.fpOk (aw _) I1.fresh
 cases ha:(tx l).cps.all (· < 128)
 ·exact wpAny_pyIter_wide ha (fin _ _ _ (fun A hA=>Walks.strWide hA _ (tx l) t) ⟨_,aC _ rfl,rfl,rfl⟩ (fun i h st=>by obtain⟨o,a,b,c⟩:=st;exact⟨o,_,a,b,c⟩) (by decide) fun A i s Q E st h=>wpAny_pyIter_striter_wide st h)
 ·exact wpAny_pyIter_ascii ha (fin _ _ _ (fun A hA=>Walks.strAscii hA _ (tx l) t) ⟨_,aC _ rfl,rfl,rfl⟩ (fun i h st=>by obtain⟨o,a,b,c⟩:=st;exact⟨o,_,a,b,c⟩) (by decide) fun A i s Q E st h=>wpAny_pyIter_striter_ascii st h)
def Dx(l:List Nat)(lo hi:Option Int):List Nat:=(l.drop (HT.sIx l.length 0 lo)).take (HT.sIx l.length l.length hi-HT.sIx l.length 0 lo)
theorem xS(l:List Nat)(lo hi:Option Int):(Dx l lo hi).length<=l.length:=by unfold Dx;rw[aZ,fS];omega
theorem Ae(l:List Nat)(i k:Nat):((List.range k).map fun(m:Nat)=>i+m).filterMap (fun j=>l[j]?)=(l.drop i).take k:=by
 induction k generalizing i with
 |zero=>simp
 |succ k ih=>
  rw[mN,aH,aX]
  have e:((fun m=>i+m)∘Nat.succ)=fun m=>(i+1)+m:=by funext m;simp[Function.comp];omega
  rw[e]
  by_cases h:i<l.length
  ·rw[fO]
   simp only[jZ,aa h]
   rw[ih (i+1),dJ h,List.take_succ_cons]
  ·rw[fO]
   have h':l.length<=i:=by omega
   simp only[jZ,gy h']
   rw[ih (i+1),mO h',mO (by omega)]
   simp
theorem LR(v:Int)(n d:Nat):(if (1:Int)>0 then max 0 (min (if v<0 then v+(n:Int)else v) (n:Int))else max (-1) (min (if v<0 then v+(n:Int)else v) ((n:Int)-1)))=((HT.sIx n d (some v):Nat):Int):=by
 rw[ar (by omega)]
 show _=(((if v<0 then(v+(n:Int)).toNat else min v.toNat n):Nat):Int)
 by_cases hv:v<0
 ·simp only[ar hv];omega
 ·simp only[az hv];omega
theorem OW(lo hi:Option Int)(n:Nat):Builtin.Str.strSliceIndices lo hi 1 n=(List.range (HT.sIx n n hi-HT.sIx n 0 lo)).map fun(m:Nat)=>HT.sIx n 0 lo+m:=by
 have key:∀a b:Nat,sliceRange (a:Int) (b:Int) 1=(List.range (b-a)).map fun(m:Nat)=>a+m:=fun a b=>by
  unfold sliceRange
  have e:(if (1:Int)>0 then(if (a:Int)<(b:Int)then((b:Int)-a+1-1)/1 else 0)else(if (a:Int)>b then((a:Int)-b-1-1)/(-1)else 0)).toNat=b-a:=by
   rw[ar (by omega)]
   by_cases h:(a:Int)<b
   ·rw[ar h];omega
   ·rw[az h];omega
  dsimp only
  rw[e]
  refine br fun k _=>?_
  omega
 unfold Builtin.Str.strSliceIndices
 rw[<- key]
 dsimp only
 congr 1
 ·cases lo with
  |none=>rfl
  |some v=>exact LR v n 0
 ·cases hi with
  |none=>rfl
  |some v=>exact LR v n n
theorem EY(l:List Nat)(lo hi:Option Int):Txt.slice (tx l) lo hi=tx (Dx l lo hi):=by
 unfold Txt.slice
 rw[OW,jv]
 split
 ·rename_i h
  simp only[beq_self_eq_true,Bool.true_and,cZ,ai,c_]at h
  unfold Dx
  have h1:=HT.sIx_le l.length l.length (aw _) hi
  have h2:=HT.sIx_le l.length 0 (cH _) lo
  by_cases hz:l.length=0
  ·have:l=[]:=List.eq_nil_of_length_eq_zero hz
   subst this;simp
  ·have e0:HT.sIx l.length 0 lo=0:=by omega
   rw[e0,List.drop_zero,bZ (by omega)]
 ·unfold Dx tx
  have:∀j:Nat,(l.toArray)[j]?=l[j]?:=fun j=>by simp
  simp only[this]
  rw[Ae]
def Wo:V->Option Int->Option Int->Hp->VK->Prop:=fun x lo hi H Q=>∃l,x=.str (tx l)/\l.length<=sizeLine/\Q (.str (tx (Dx l lo hi))) H
theorem BF{o:Option Int}(p:IsPart v o):∃q:Option (Int×Tok),v=partValue q/\q.map (·.1)=o:=by
 cases p with
 |none=>exact⟨none,rfl,rfl⟩
 |int i t=>exact⟨some (i,t),rfl,rfl⟩
theorem OX:Sw X Wo:=by
 intro pins s σ H x v vl vu lo hi sl Q I rx hs pl pu h
 obtain⟨l,e,hz,q⟩:=h
 subst e
 obtain⟨t,rfl⟩:=rx
 obtain⟨pl',rfl,rfl⟩:=BF pl
 obtain⟨pu',rfl,rfl⟩:=BF pu
 refine⟨"str",_,F.slot_str_getitem.lookup,typeIs_str _ _ _,?_⟩
 refine wpAny_getItem_str_slice (l:=pl') (u:=pu') (st:=none) hs rfl (post_val_or_str ?_)
 have e:=EY l (pl'.map (·.1)) (pu'.map (·.1))
 unfold Txt.slice at e
 show(if ((1:Int)==1&&(Builtin.Str.strSliceIndices (pl'.map (·.1)) (pu'.map (·.1)) 1 (tx l).length).length==(tx l).length)=true then tx l else⟨((Builtin.Str.strSliceIndices (pl'.map (·.1)) (pu'.map (·.1)) 1 (tx l).length).filterMap ((tx l).cps[·]?)).toArray⟩:Str).length<=sizeLine /\
  ∀t' k,EP X pins σ Q (.str (if ((1:Int)==1&&(Builtin.Str.strSliceIndices (pl'.map (·.1)) (pu'.map (·.1)) 1 (tx l).length).length==(tx l).length)=true then tx l else⟨((Builtin.Str.strSliceIndices (pl'.map (·.1)) (pu'.map (·.1)) 1 (tx l).length).filterMap ((tx l).cps[·]?)).toArray⟩:Str) t') { s with toks:=k }
 rw[e,jv]
 exact⟨aR (xS l _ _) hz,fun t' k=>⟨.str _,H,I.tok k,⟨t',rfl⟩,q⟩⟩
theorem EZ(c:Nat)(l:List Nat):(!(Builtin.Str.occurrences (tx l) (tx [c]) 0 (tx l).length 1).isEmpty)=decide (c∈l):=StrLaws.found_one (tx l) c
def SV(neg:Bool):R2:=fun x y H Q=>∃c l,x=.str (tx [c])/\y=.str (tx l)/\Q (.bl (if neg then !decide (c∈l)else decide (c∈l))) H
theorem Dy:lv X (compareOp .In) (SV false):=by
 intro pins s σ H x y v u Q I rx ry h
 obtain⟨c,l,rfl,rfl,q⟩:=h
 exact Dh pins s σ H _ _ v u Q I rx ry ⟨_,_,rfl,rfl,by rw[EZ];exact q⟩
theorem v_:lv X (compareOp .NotIn) (SV true):=by
 intro pins s σ H x y v u Q I rx ry h
 obtain⟨c,l,rfl,rfl,q⟩:=h
 exact vY pins s σ H _ _ v u Q I rx ry ⟨_,_,rfl,rfl,by rw[EZ];exact q⟩
theorem Dz:lv X (compareOp .LtE) (fun x y H Q=>∃c d,x=.str (tx [c])/\y=.str (tx [d])/\Q (.bl (decide (c<=d))) H):=by
 intro pins s σ H x y v u Q I rx ry h
 obtain⟨c,d,rfl,rfl,q⟩:=h
 obtain⟨t,rfl⟩:=rx
 obtain⟨t',rfl⟩:=ry
 refine PySem.P.le_str ⟨.bl _,H,I,?_,q⟩
 show Value.bool _=Value.bool _
 congr 1
 show(!decide ([d]<[c]))=decide (c<=d)
 by_cases nX:c<=d
 ·rw[aK nX,aN];rfl
  intro z
  cases z with
  |rel z=>omega
  |cons z=>cases z
 ·rw[aN nX,aK];rfl
  exact .rel (by omega)
theorem o_:∀{ys:List (List Nat)} {bn:List Value},cv (ys.map fun l=>V.str (tx l)) bn->StrsAre bn (ys.map tx)
 |[],_,r=>by cases r;exact .nil
 |y::ys,_,r=>by
  cases r with
  |cons r rr=>
   obtain⟨t,rfl⟩:=r
   exact .cons _ _ (o_ rr)
theorem pb:∀{bn:List Value} {ss:List Str},StrsAre bn ss->cv (ss.map fun z=>V.str z) bn
 |_,_,.nil=>.nil
 |_,_,.cons y t r=>.cons ⟨t,rfl⟩ (pb r)
def oJ(sep:List Nat):List (List Nat)->List Nat
 |[]=>[]
 |[x]=>x
 |x::y::r=>x++sep++oJ sep (y::r)
theorem n9:∀ys:List (List Nat),oJ [] ys=ys.flatten
 |[]=>rfl
 |[x]=>by simp[oJ]
 |x::y::r=>by rw[oJ,n9 (y::r)];simp
theorem JZ(sep:List Nat):∀ys:List (List Nat),Txt.join (tx sep) (ys.map tx)=tx (oJ sep ys):=fun ys=>by
 show Builtin.Str.glued (tx sep) (ys.map tx)=_
 rw[StrLaws.glued_eq_join]
 induction ys with
 |nil=>rfl
 |cons x r ih=>
  cases r with
  |nil=>rfl
  |cons y r=>
   show tx x++tx sep++Str.join (tx sep) ((y::r).map tx)=tx (x++sep++oJ sep (y::r))
   rw[ih,Ad,Ad]
def SX(K:Frag):V->List V->Hp->VK->Prop:=fun x vs H Q=>∃(sep:List Nat) (a:Addr) (ys:List (List Nat)),x=.str (tx sep)/\vs=[.ref a]/\pD K H a (ys.map fun l=>V.str (tx l))/\(ys.map List.length).sum+ys.length*sep.length<=16777216/\Q (.str (tx (oJ sep ys))) H
theorem J0:Dn X "str.join" (SX X.K):=by
 intro pins s σ H x vs v us Q I rx rv h
 obtain⟨sep,a,ys,rfl,rfl,hS,hz,q⟩:=h
 obtain⟨t,rfl⟩:=rx
 obtain⟨u,rfl,ru⟩:=rv.one
 cases ru
 obtain⟨bn,r,p,_⟩:=I.list hS
 refine join_list p.isList (o_ (by simpa using r)) ?_ fun t' k=>?_
 ·rw[aX,jv,ai]
  have e:((fun z:Str=>z.length)∘tx)=List.length:=by funext l;exact jv l
  rw[e];exact hz
 ·rw[JZ]
  exact⟨.str _,H,I.tok k,⟨t',rfl⟩,q⟩
end
inductive D where
 |non|bl (b:Bool)|int (i:Int)|str (l:List Nat)|tnil|tcons (d r:D)
 deriving DecidableEq
structure dP(K:Frag)(H H':Hp):Prop where
 t:∀p xs,eF K H p xs->eF K H' p xs
 z:∀b o u,H b=some (.frz o u)->H' b=some (.frz o u)
instance {K:Frag} {H H':Hp}:CoeFun (dP K H H') (fun _=>∀p xs,eF K H p xs->eF K H' p xs):=⟨dP.t⟩
theorem eF.same{K:Frag}(e:rq H H'):dP K H H':=⟨fun p xs h=>by
 rcases h with(h|⟨o,h⟩)|h
 ·exact .inl (.inl (e _ _ h))
 ·exact .inl (.inr ⟨o,e _ _ h⟩)
 ·exact .inr h,fun b o u h=>e _ _ h⟩
theorem cx{p:Addr}(h:H p=none)(o:HO):rq H (eR H p o):=fun b u q=>by rw[cJ (eY q h)];exact q
def SY(l:Addr)(H H':Hp):Prop:=∀b o,b≠l->H b=some o->H' b=some o
theorem fL{l:Addr}{o:HO}:SY l H (eR H l o):=fun b u h q=>by rw[cJ h];exact q
theorem eF.but{l:Addr}{xs:List V}(e:SY l H H')(hl:H l=some (.lst xs)):dP K H H':=by
 have jt:∀{p:Addr} {o:HO},H p=some o->(∀zs,o≠.lst zs)->p≠l:=fun{p o} q hn z=>by subst z;rw[hl]at q;cases q;exact hn _ rfl
 refine⟨fun p ys h=>?_,fun b o u h=>e _ _ (jt h (fun _ z=>by cases z)) h⟩
 rcases h with(h|⟨o,h⟩)|h
 ·exact .inl (.inl (e _ _ (jt h (fun _ z=>by cases z)) h))
 ·exact .inl (.inr ⟨o,e _ _ (jt h (fun _ z=>by cases z)) h⟩)
 ·exact .inr h
theorem dP.refl:dP K H H:=⟨fun _ _ h=>h,fun _ _ _ h=>h⟩
theorem dP.trans{H1 H2:Hp}(a:dP K H H1)(b:dP K H1 H2):dP K H H2:=⟨fun p xs h=>b p xs (a p xs h),fun c o u h=>b.z c o u (a.z c o u h)⟩
theorem eF.new{p:Addr}{xs:List V}:eF K (eR H p (.tup xs)) p xs:=eF.of eX
section
variable{to:TE}{t:TA}{r:V->List V->Hp->VK->Prop}
def Xq(r:V->List V->Hp->VK->Prop)(to:TE)(t:TA):TE:=fun σ H Q=>to σ H fun x H1=>(∃l ys,x=.ref l/\H1 l=some (.lst ys))/\t σ H1 fun xs H2=>r x xs H2 Q
def Xr(r:V->List V->Hp->VK->Prop)(to:TE)(t:TA):TE:=fun σ H Q=>to σ H fun x H1=>(∃l,x=.str (tx l))/\t σ H1 fun xs H2=>r x xs H2 Q
def Wp(r:V->List V->Hp->VK->Prop)(to:TE):TE:=fun σ H Q=>to σ H fun x H1=>(∃l ys,x=.ref l/\H1 l=some (.lst ys))/\r x [] H1 Q
theorem xU{x:V}(h:∃l ys,x=.ref l/\H l=some (.lst ys)):VC K "list" x H:=by
 obtain⟨l,ys,rfl,h⟩:=h
 exact .inl ⟨rfl,_,.of h⟩
theorem J1{x:V}(h:∃l,x=.str (tx l)):VC K "str" x H:=by
 obtain⟨l,rfl⟩:=h
 exact rfl
theorem E0{T:String}{ty:V->Hp->Prop}(W2:∀x H,ty x H->VC X.K T x H)(pa:PlainAttrs T)(slot:Slot T name id)(zF:typeOf (.builtin id)=pure (.type "method_descriptor"))(hm:Dn X id r)(ho:PE X o to)(ha:PA X (e::es) t)
  (lU:attributeBase o name X.env (eval o X.env)=eval o X.env)
  (xp:((backTo cS (starEach (e::es) X.env)).all (fun x=>!x.1)&&(backToKw cS (keywordEach [] X.env)).all (fun x=>x.1.isSome)
   && decide ((e::es).length+([]:List Keyword).length+(if ([]:List Keyword).isEmpty then 0 else 1)<30))=true)
  (lS:(eV.endLine==cS.line)=true) (hs:starEach (e::es) X.env=(false,eval e X.env)::starEach es X.env) (mH:(backTo cS (starEach es X.env)).any (·.1)=false) :
  PE X (.Call (.Attribute o name eV) (e::es) [] cS) (fun σ H Q=>to σ H fun x H1=>ty x H1/\t σ H1 fun xs H2=>r x xs H2 Q):=by
 intro pins s σ H Q I h
 refine wpAny_Call_method_late lU xp lS rfl (fJ (ho pins s σ H _ I h) fun v s1 ⟨x,H1,I1,r1,ty,q1⟩=>?_)
 obtain⟨h1,h2⟩:=ER I1 r1 (W2 _ _ ty)
 refine⟨T,id,pa,slot,zF,h1,h2,?_⟩
 have hA:=ha cS pins s1 σ H1 _ I1 q1
 rw[hs]at hA ⊢
 refine eN (by show(false||(backTo cS (starEach es X.env)).any (·.1))=false;rw[mH]<;>rfl) (gO ?_)
 exact fJ hA fun us s2 ⟨vs,H2,I2,r2,q2⟩=>hm pins s2 σ H2 x vs v us Q I2 r1 r2 q2
theorem SZ(slot:Slot "list" name id)(zF:typeOf (.builtin id)=pure (.type "method_descriptor"))(hm:Dn X id r)(ho:PE X o to)(ha:PA X (e::es) t)
  (lU:attributeBase o name X.env (eval o X.env)=eval o X.env:=by rfl)
  (xp:((backTo cS (starEach (e::es) X.env)).all (fun x=>!x.1)&&(backToKw cS (keywordEach [] X.env)).all (fun x=>x.1.isSome)
   && decide ((e::es).length+([]:List Keyword).length+(if ([]:List Keyword).isEmpty then 0 else 1)<30))=true:=by rfl)
  (lS:(eV.endLine==cS.line)=true:=by rfl) (hs:starEach (e::es) X.env=(false,eval e X.env)::starEach es X.env:=by rfl) (mH:(backTo cS (starEach es X.env)).any (·.1)=false:=by rfl) :
  PE X (.Call (.Attribute o name eV) (e::es) [] cS) (Xq r to t):=E0 (ty:=fun x H1=>∃l ys,x=.ref l/\H1 l=some (.lst ys)) (fun _ _ h=>xU h) F.plainAttrs_list slot zF hm ho ha lU xp lS hs mH
theorem S6(slot:Slot "str" name id)(zF:typeOf (.builtin id)=pure (.type "method_descriptor"))(hm:Dn X id r)(ho:PE X o to)(ha:PA X (e::es) t)
  (lU:attributeBase o name X.env (eval o X.env)=eval o X.env:=by rfl)
  (xp:((backTo cS (starEach (e::es) X.env)).all (fun x=>!x.1)&&(backToKw cS (keywordEach [] X.env)).all (fun x=>x.1.isSome)
   && decide ((e::es).length+([]:List Keyword).length+(if ([]:List Keyword).isEmpty then 0 else 1)<30))=true:=by rfl)
  (lS:(eV.endLine==cS.line)=true:=by rfl) (hs:starEach (e::es) X.env=(false,eval e X.env)::starEach es X.env:=by rfl) (mH:(backTo cS (starEach es X.env)).any (·.1)=false:=by rfl) :
  PE X (.Call (.Attribute o name eV) (e::es) [] cS) (Xr r to t):=E0 (ty:=fun x H1=>∃l,x=.str (tx l)) (fun _ _ h=>J1 h) F.plainAttrs_str slot zF hm ho ha lU xp lS hs mH
theorem OY(slot:Slot "list" name id)(zF:typeOf (.builtin id)=pure (.type "method_descriptor"))(hm:Dn X id r)(ho:PE X o to)
  (lU:attributeBase o name X.env (eval o X.env)=eval o X.env:=by rfl) (lS:(eV.endLine==cS.line)=true:=by rfl):PE X (.Call (.Attribute o name eV) [] [] cS) (Wp r to):=by
 intro pins s σ H Q I h
 refine wpAny_Call_method0_late lU lS (fJ (ho pins s σ H _ I h) fun v s1 ⟨x,H1,I1,r1,ty,q1⟩=>?_)
 obtain⟨h1,h2⟩:=ER I1 r1 (xU ty)
 exact⟨"list",id,F.plainAttrs_list,slot,zF,h1,h2,eN rfl (PySem.evalArgs_none (hm pins s1 σ H1 x [] v [] Q I1 r1 .nil q1))⟩
end
section
variable{t:TA}
def S7(t:TA):TE:=fun σ H Q=>t σ H fun xs H1=>xs.length<=sizeLine/\∀p H2,H1 p=none->H2=eR H1 p (.tup xs)->Q (.ref p) H2
def S8(t:TA):TE:=fun σ H Q=>t σ H fun xs H1=>xs.length<=sizeLine/\∀p H2,H1 p=none->H2=eR H1 p (.lst xs)->Q (.ref p) H2
theorem J2{x1}(h:PA X es t):PE X (.Tuple es x1 pos) (S7 t):=by
 intro pins s σ H Q I hq
 refine wpAny_Tuple_spliced (fJ (h pos pins s σ H _ I hq) fun us s1 ⟨xs,H1,I1,r,z,q⟩=>⟨by rw[<- r.length];exact z,?_⟩)
 have hf:H1 s1.heap.objs.size=none:=I1.hok.fresh (aw _)
 refine⟨.ref s1.heap.objs.size,eR H1 s1.heap.objs.size (.tup xs),I1.laid (t':=s1.toks) (fun b u e=>am _ e) (aw _) ?_,rfl,q _ _ hf rfl⟩
 exact⟨z,us,r,⟨_,aC _ rfl,rfl,_,rfl⟩⟩
theorem J3(h:PA X es t):PE X (.List es pos) (S8 t):=by
 intro pins s σ H Q I hq
 refine wpAny_List_spliced (fJ (h pos pins s σ H _ I hq) fun us s1 ⟨xs,H1,I1,r,z,q⟩=>⟨by rw[<- r.length];exact z,?_⟩)
 have hf:H1 s1.heap.objs.size=none:=I1.hok.fresh (aw _)
 refine⟨.ref s1.heap.objs.size,eR H1 s1.heap.objs.size (.lst xs),I1.laid (t':=s1.toks) (fun b u e=>am _ e) (aw _) ?_,rfl,q _ _ hf rfl⟩
 exact⟨z,us,0,r,aC _ rfl⟩
theorem Dn.imp{r r':V->List V->Hp->VK->Prop}(h:Dn X id r)(i:∀x xs H Q,r' x xs H Q->r x xs H Q):Dn X id r':=fun pins s σ H x xs v us Q I rx rv q=>h pins s σ H x xs v us Q I rx rv (i _ _ _ _ q)
theorem iA.imp{f:Value}{r r':List V->Hp->VK->Prop}(h:iA X f r)(i:∀xs H Q,r' xs H Q->r xs H Q):iA X f r':=fun pins s σ H xs us Q I rv q=>h pins s σ H xs us Q I rv (i _ _ _ q)
theorem lv.imp{f:Value->Value->Sem Value}{r r':R2}(h:lv X f r)(i:∀x y H Q,r' x y H Q->r x y H Q):lv X f r':=fun pins s σ H x y v u Q I rx ry q=>h pins s σ H x y v u Q I rx ry (i _ _ _ _ q)
def E1:V->List V->Hp->VK->Prop:=fun x vs H Q=>∃l xs y,x=.ref l/\vs=[y]/\H l=some (.lst xs)/\xs.length<sizeLine/\∀H2,H2=eR H l (.lst (xs++[y]))->Q .non H2
theorem Af:Dn X "list.append" E1:=Dn.imp (r:=BA) Do fun _ _ _ _ ⟨l,xs,y,a,b,c,d,q⟩=>⟨l,xs,y,a,b,c,d,q _ rfl⟩
def S9:V->List V->Hp->VK->Prop:=fun x vs H Q=>∃l xs y,x=.ref l/\vs=[]/\H l=some (.lst (xs++[y]))/\∀H2,H2=eR H l (.lst xs)->Q y H2
theorem J4:Dn X "list.pop" S9:=Dn.imp (r:=SJ) OP fun _ _ _ _ ⟨l,xs,y,a,b,c,q⟩=>⟨l,xs++[y],y,a,b,c,by simp,by rw[List.dropLast_concat];exact q _ rfl⟩
def OZ:V->V->V->Hp->(Hp->Prop)->Prop:=fun o i v H Q=>∃p xs k j,o=.ref p/\i=.int k/\H p=some (.lst xs)/\Bx xs.length k=some j/\∀H2,H2=eR H p (.lst (xs.set j v))->Q H2
theorem DA:zS X OZ:=fun pins s σ H o i v ov iv u Q I r1 r2 r3 q=>by
 obtain⟨p,xs,k,j,a,b,c,d,q⟩:=q
 exact EQ pins s σ H o i v ov iv u Q I r1 r2 r3 ⟨p,xs,k,j,a,b,c,d,q _ rfl⟩
def E2(K:Frag):List V->Hp->VK->Prop:=fun xs H Q=>∃p ys,xs=[.ref p]/\pD K H p ys/\∀l H2,H l=none->H2=eR H l (.tup ys)->Q (.ref l) H2
theorem xV:iA X (.type "tuple") (E2 X.K):=iA.imp ux fun _ _ _ ⟨p,ys,a,b,q⟩=>⟨p,ys,a,.inl ⟨b,fun l hl=>q l _ hl rfl⟩⟩
def J5(K:Frag):List V->Hp->VK->Prop:=fun xs H Q=>∃p ys,xs=[.ref p]/\(pD K H p ys\/eF K H p ys)/\∀l H2,H l=none->H2=eR H l (.lst ys)->Q (.ref l) H2
theorem sk:iA X (.type "list") (J5 X.K):=iA.imp v6 fun _ _ _ ⟨p,ys,a,b,q⟩=>⟨p,ys,a,b,fun l hl=>q l _ hl rfl⟩
def S_:R2:=fun x y H Q=>∃l b xs zs,x=.ref l/\y=.ref b/\H l=some (.lst xs)/\H b=some (.lst zs)/\xs.length+zs.length<=sizeLine/\∀p H2,H p=none->H2=eR H p (.lst (xs++zs))->Q (.ref p) H2
theorem J6:lv X (binaryOp .Add) S_:=lv.imp OQ fun _ _ _ _ ⟨l,b,xs,zs,h1,h2,h3,h4,h5,q⟩=>⟨l,b,xs,zs,h1,h2,h3,h4,h5,fun p hp=>q p _ hp rfl⟩
end
def E3(T:String):Prop:=T="tuple"\/T="bool"\/T="int"\/T="str"
end L2
namespace L2
end L2
namespace L2
open PySem PySem.Spec PyProof.Rows
structure QE(X:Cx)(e:Expr)(t:TE):Prop where
 h:PE X e t
structure QA(X:Cx)(es:List Expr)(t:TA):Prop where
 h:PA X es t
structure QS(X:Cx)(s:Stmt)(t:TS):Prop where
 h:PS X s t
structure QG(X:Cx)(e:Expr)(t:TG):Prop where
 h:PG X e t
structure QI(X:Cx)(tg it:Expr)(t:TI):Prop where
 h:PI X tg it t
structure Wq(X:Cx)(es:List Expr)(t:TT):Prop where
 h:Jl X es t
structure W6(X:Cx)(f:Value->Value->Sem Value)(r:R2):Prop where
 h:lv X f r
structure Ta(X:Cx)(f:Value)(r:List V->Hp->VK->Prop):Prop where
 h:iA X f r
section
variable{a b:Expr}{ta tb tc to:TE}{t u:TA}{tA Vd:TT}{de:List Expr}
theorem BG:W6 X (binaryOp .LShift) (rI Oz fun i j=>.int (i*2^j.toNat)):=⟨EG⟩
variable{st:Stmt}{sr:List Stmt}{ts us:TS}{g:TG}
end
section
variable{body:List Stmt}{wi:TI}{g:TG}{tb:TS}{tA:TT}
end
def ij(env:Env):List (Str×NameKind)->List (Str×Addr)->List (Str×Addr)
 |[],cs=>cs
 |(n,k)::r,cs=>ij env r (if k==.free then(n,(env.cells.lookup n).getD 0)::cs else cs)
theorem E4{env:Env}(h:∀x∈scope.names,x.2=.free->∃c,env.cells.lookup x.1=some c):closureFor scope env=pure (ij env scope.names []):=by
 unfold closureFor
 have key:∀(ns:List (Str×NameKind)) (cs:List (Str×Addr)),(∀x∈ns,x.2=.free->∃c,env.cells.lookup x.1=some c) ->
   (forIn ns cs fun(x:Str×NameKind) (r:List (Str×Addr))=>if (x.2==NameKind.free)=true then(do let a <- cellOf env x.1;pure (ForInStep.yield ((x.1,a)::r)))else(pure (ForInStep.yield r):Sem _))=pure (ij env ns cs):=by
  intro ns
  induction ns with
  |nil=>intro cs _;rfl
  |cons y r ih=>
   intro cs hc
   obtain⟨n,k⟩:=y
   rw[m5]
   have ihr:=fun cs=>ih cs fun x hx=>hc x (aD _ hx)
   by_cases hk:(k==NameKind.free)=true
   ·obtain⟨c,e⟩:=hc (n,k) aQ (lX hk)
    have e2:cellOf env n=pure c:=by unfold cellOf;rw[e]
    show((if (k==NameKind.free)=true then _ else _) >>= _)=pure (ij env r (if (k==NameKind.free)=true then _ else _))
    rw[ar hk,ar hk,e2]
    simp only[pure_bind]
    have e3:(env.cells.lookup n).getD 0=c:=by rw[show env.cells.lookup n=some c from e];rfl
    rw[e3]
    exact ihr _
   ·show((if (k==NameKind.free)=true then _ else _) >>= _)=pure (ij env r (if (k==NameKind.free)=true then _ else _))
    rw[az hk,az hk]
    simp only[pure_bind]
    exact ihr _
 have:=key scope.names [] h
 dsimp only
 rw[this];simp only[pure_bind]
theorem qr{env:Env}:∀(ns:List (Str×NameKind)) (cs:List (Str×Addr)),(∀x∈ns,x.2=.free->∃c,env.cells.lookup x.1=some c)->(∀y∈cs,env.cells.lookup y.1=some y.2)->∀y∈ij env ns cs,env.cells.lookup y.1=some y.2
 |[],cs,_,h=>h
 |(n,k)::r,cs,hf,h=>by
  refine qr r _ (fun x hx=>hf x (aD _ hx)) ?_
  by_cases hk:(k==NameKind.free)=true
  ·rw[ar hk]
   intro y hy
   rcases a_.mp hy with rfl|hy
   ·obtain⟨c,e⟩:=hf (n,k) aQ (lX hk)
    show env.cells.lookup n=some ((env.cells.lookup n).getD 0)
    rw[show env.cells.lookup n=some c from e];rfl
   ·exact h y hy
  ·rw[az hk];exact h
theorem su{env:Env}:∀(ns:List (Str×NameKind)) (cs:List (Str×Addr)) (y:Str×Addr),y∈cs->y∈ij env ns cs
 |[],_,_,h=>h
 |(n,k)::r,cs,y,h=>by
  refine su r _ y ?_
  split
  ·exact aD _ h
  ·exact h
theorem pc{env:Env}:∀(ns:List (Str×NameKind)) (cs:List (Str×Addr)) (x:Str),(x,NameKind.free)∈ns->∃c,(x,c)∈ij env ns cs
 |[],_,_,h=>by simp at h
 |(n,k)::r,cs,x,h=>by
  rcases a_.mp h with e|h
  ·obtain⟨e1,e2⟩:=Prod.mk.inj e
   subst e1;subst e2
   exact⟨_,su r _ (x,_) (by rw[ar (by rfl:(NameKind.free==NameKind.free)=true)];exact aQ)⟩
  ·exact pc r _ x h
theorem fB:∀{l:List (Str×β)} {x:Str} {b:β},l.lookup x=some b->(x,b)∈l
 |[],_,_,h=>by simp at h
 |(y,c)::r,x,b,h=>by
  rw[je]at h
  cases hx:x==y with
  |true=>rw[hx]at h;have:=lX hx;subst this;cases h;exact aQ
  |false=>rw[hx]at h;exact aD _ (fB h)
theorem pd:∀{l:List (Str×β)} {x:Str} {b:β},(x,b)∈l->∃c,l.lookup x=some c
 |(y,c)::r,x,b,h=>by
  rw[je]
  cases hx:x==y with
  |true=>exact⟨c,rfl⟩
  |false=>
   rcases a_.mp h with e|h
   ·cases e;simp at hx
   ·exact pd h
theorem nD{env:Env}{g:Str×NameKind->Bool}:∀{names:List (Str×NameKind)} {x:Str},names.lookup x=some .free ->
  (names.map fun y=>if g y then(y.1,NameKind.cell)else y).lookup x=some .cell\/(names.map fun y=>if g y then(y.1,NameKind.cell)else y).lookup x=some .free
 |[],_,h=>by simp at h
 |(n,k)::r,x,h=>by
  rw[je]at h
  rw[aH]
  have e1:∀y:Str×NameKind,(if g y then(y.1,NameKind.cell)else y).1=y.1:=fun y=>by split<;>rfl
  have e2:∀(y:Str×NameKind) (l:List (Str×NameKind)),(y::l).lookup x=if (x==y.1)=true then some y.2 else l.lookup x:=fun y l=>by
   obtain⟨a,b⟩:=y
   rw[je]
   cases x==a<;>rfl
  rw[e2,e1]
  cases hx:x==n with
  |true=>
   rw[hx]at h
   cases h
   rw[ar rfl]
   by_cases hg:g (n,.free)=true
   ·rw[ar hg];exact .inl rfl
   ·rw[az hg];exact .inr rfl
  |false=>
   rw[hx]at h
   rw[az (by exact bK)]
   exact nD (env:=env) h
def xW(dn:List (Str×NameKind))(sn:List (Str×NameKind))(nm:List Str)(cap:List (Option Nat))(N:List Str):Bool:=
 (sn.all fun x=>!(x.2==.local)||sn.lookup x.1==some .local)&&(sn.all fun y=>!(y.2==.cell))&&(sn.all fun x=>!(x.2==.free)||dn.lookup x.1==some .cell)&&(cap.length==nm.length) &&
 ((List.range cap.length).all fun i=>match cap[i]? with
  |some (some j)=>(match nm[i]?,N[j]? with
   |some x,some y=>x==y&&dn.lookup x==some .cell&&sn.lookup x==some .free
   |_,_=>false)
  |_=>true)
theorem O0{pos:Pos}{wi:TI}{g:TG}{tc:TT}(iD:X.calm=true)
  (jd:X.env.cells=cellsFrom m X.env.scope.names []) (hZ:scope.kind=.function) (hB:xW X.env.scope.names scope.names nm cap X.N=true)
  (hi:QI X tg iter wi) (hg:∀cl C s0 H0 fp,QG (bT X nm scope cl C s0 H0 fp) tg g) (ht:∀cl C s0 H0 fp,Wq (bT X nm scope cl C s0 H0 fp) mf tc)
  (he:∀cl C s0 H0 fp,QE (bT X nm scope cl C s0 H0 fp) oB te) (hs:∀x,foldedSetIterable iter X.env x=pure x:=by intro _;rfl) :
  QE X (.ListComp oB [⟨tg,iter,mf,0⟩] scope pos) (vd cap wi g tc te):=by
 simp only[xW,bw,fT,gr,iM,cZ,bq]at hB
 obtain⟨⟨⟨⟨b1,b2⟩,b3⟩,b4⟩,b5⟩:=hB
 have has:∀x∈scope.names,x.2=.free->∃c,X.env.cells.lookup x.1=some c:=fun x hx hk=>by
  rw[jd]
  rcases b3 x hx with z|z
  ·exact absurd hk z
  ·exact nz z
 have lT:∀x c,(ij X.env scope.names []).lookup x=some c->X.env.cells.lookup x=some c:=fun x c h=>qr scope.names [] has (by simp) (x,c) (fB h)
 have hin:∀x,(x,NameKind.free)∈scope.names->∃c,(ij X.env scope.names []).lookup x=some c:=fun x h=>let ⟨_,q⟩:=pc (env:=X.env) scope.names [] x h;pd q
 have hmap:(relabel scope X.env).names=scope.names.map fun y=>if (y.2==.free&&X.env.scope.kind==.function&&X.env.kindOf y.1==some .cell)then(y.1,NameKind.cell)else y:=by
  show scope.names.map _=_
  refine br fun y _=>?_
  obtain⟨a,b⟩:=y
  rfl
 have fr:∀x,((relabel scope X.env).names.lookup x=some .cell\/(relabel scope X.env).names.lookup x=some .free)->(x,NameKind.free)∈scope.names:=fun x h=>by
  have h':∃k,(x,k)∈(relabel scope X.env).names/\(k=.cell\/k=.free):=by
   rcases h with h|h
   ·exact⟨_,fB h,.inl rfl⟩
   ·exact⟨_,fB h,.inr rfl⟩
  obtain⟨k,hm,hk⟩:=h'
  rw[hmap]at hm
  obtain⟨y,hy,e⟩:=aJ.mp hm
  obtain⟨a,b⟩:=y
  by_cases hb:b=.free
  ·subst hb
   have:a=x:=by split at e<;>(cases e;rfl)
   subst this;exact hy
  ·rw[az (by simp[hb])]at e
   cases e
   rcases hk with rfl|rfl
   ·exact absurd rfl (b2 _ hy)
   ·exact absurd rfl hb
 refine⟨JY (cl:=ij X.env scope.names []) (cap:=cap) (nm:=nm) iD (E4 has) lT hZ (fun x hx hk=>(b1 x hx).resolve_left fun z=>z hk) (fun y hy=>b2 y hy) (fun x hx=>hin x (fr x hx)) (fun i j e=>?_) b4 hi.h (fun C s0 H0 fp=>(hg _ C s0 H0 fp).h) (fun C s0 H0 fp=>(ht _ C s0 H0 fp).h) (fun C s0 H0 fp=>(he _ C s0 H0 fp).h) hs⟩
 have hi':i<cap.length:=(ac.mp e).1
 have q:=b5 i (bx.mpr hi')
 rw[e]at q
 dsimp only at q
 cases hx:nm[i]? with
 |none=>rw[hx]at q;simp at q
 |some x=>
  cases hy:X.N[j]? with
  |none=>rw[hx,hy]at q;simp at q
  |some y=>
   rw[hx,hy]at q
   simp only[bw,cZ]at q
   obtain⟨⟨rfl,q1⟩,q2⟩:=q
   refine⟨x,rfl,rfl,.inr (.inl q1),(by rw[q1];decide),?_,?_⟩
   ·obtain⟨c,hc⟩:=hin x (fB q2)
    rw[hc,lT _ _ hc]
   ·rw[hmap];exact nD (env:=X.env) q2
def J7(K:Frag):List V->Hp->VK->Prop:=fun xs H Q=>∃(p:Addr) (ys:List (List Nat)),xs=[.ref p]/\pD K H p (ys.map fun l=>V.str (tx l))/\ys.length<64 /\
 ∀zs:List (List Nat),zs.Perm ys->sortedS (zs.map tx)=true->∀l H2,H l=none->H2=eR H l (.lst (zs.map fun l=>V.str (tx l)))->Q (.ref l) H2
theorem BH(z:Str):tx z.cps.toList=z:=by cases z;rfl
theorem uz:Ta X (.builtin "sorted") (J7 X.K):=⟨by
 intro pins s σ H xs us Q I r h
 obtain⟨p,ys,rfl,hS,h64,q⟩:=h
 obtain⟨u,rfl,ru⟩:=jI r
 cases ru
 obtain⟨bn,rv,pl,hz⟩:=I.list hS
 have hl:=rv.length
 rw[ai]at hl
 refine sorted_strs (ss:=ys.map tx) pl.isList (o_ (by simpa using rv)) (by omega) fun out ss' h1 h2 h3=>?_
 obtain⟨ep,hat⟩:=sortedAll_at s.heap bn out
 have ui:H (s.heap.objs.size+1)=none:=I.hok.fresh (f_ _)
 have hmap:(ss'.map fun z=>z.cps.toList).map tx=ss':=by
  rw[aX]
  have:(tx∘fun z:Str=>z.cps.toList)=id:=funext fun z=>BH z
  rw[this,nY]
 have hperm:(ss'.map fun z=>z.cps.toList).Perm ys:=by
  have e:=h2.map fun z:Str=>z.cps.toList
  rw[aX]at e
  have:((fun z:Str=>z.cps.toList)∘tx)=id:=funext fun l=>by simp[tx]
  rw[this,nY]at e
  exact e
 have hvals:cv ((ss'.map fun z=>z.cps.toList).map fun l=>V.str (tx l)) out.toList:=by
  have e:=pb h1
  rw[<- hmap,aX]at e
  exact e
 refine⟨.ref (s.heap.objs.size+1),_,I.laid (t':=s.toks) (fun b o e=>sortedAll_old e) (f_ _) ?_,rfl,q _ hperm (by rw[hmap];exact h3) _ _ ui rfl⟩
 refine⟨?_,out.toList,ep,hvals,hat⟩
 rw[ai,hperm.length_eq]
 exact aR (eL h64) (by decide)⟩
theorem bz.turned2{t':Nat}{e:Addr}(I:bz X pins σ H s)(k:∀b o,b≠e->b≠it->s.heap.get? b=some o->h'.get? b=some o)
  (he:∃o,h'.get? e=some o) (f1:ny X pins H e) (f2:ny X pins H it):bz X pins σ H { s with heap:=h',toks:=t' }:=by
 have nit:∀b u,H b=some u->b≠e/\b≠it:=fun b u q=>⟨fun z=>(by rw[z,f1.1]at q;cases q),fun z=>(by rw[z,f2.1]at q;cases q)⟩
 have nin:∀b,b∉[e,it]->b≠e/\b≠it:=fun b h=>⟨fun z=>h (by simp[z]),fun z=>h (by simp[z])⟩
 refine I.step (g':=s.gens) (d':=s.drawn) (ch:=[e,it]) (fun b hb=>?_) (fun b o _ _ hc q _=>k b o (nin b hc).1 (nin b hc).2 q) (fun b o _ _ hc q _=>⟨o.slots,k b o (nin b hc).1 (nin b hc).2 q⟩) (fun _ _ _ _ n=>n)
  (fun b o hc q=>⟨o,k b o (nin b hc).1 (nin b hc).2 q⟩) (fun _ _ q=>q) (fun _ _ _ q=>q) (fun b ps q=>⟨#[],by rw[q];simp⟩) (fun m hm=>?_) (fun b u q=>?_) I.bare
 ·have z:b=e\/b=it:=by simpa using hb
  rcases z with rfl|rfl
  ·exact⟨f1.2.2.2.1,f1.2.1,f1.2.2.2.2.1,f1.2.2.2.2.2⟩
  ·exact⟨f2.2.2.2.1,f2.2.1,f2.2.2.2.2.1,f2.2.2.2.2.2⟩
 ·obtain⟨o,es,ep,ho,r⟩:=hm
  exact⟨o,es,ep,k _ o (Ne.symm f1.2.1) (Ne.symm f2.2.1) ho,r⟩
 ·refine(I.hok b u q).stay (fun c v hc z=>?_) (fun _ z=>z) fun _ _ z=>z
  rcases hc with y|y
  ·rw[y]at z ⊢;exact k b v (nit b u q).1 (nit b u q).2 z
  ·exact k c v (nit c _ y).1 (nit c _ y).2 z
section
variable{w:World}
theorem jh{t:Addr}{x:Value}(st:s.heap.IsTupleIter it t i)(ht:s.heap.IsTuple t bn)(hx:bn[i]?=some x)
  (q:∀g,g.IsTupleIter it t (i+1)->Heap.SameBut it s.heap g->Q x { s with heap:=g }):wpAny (model prog w) A (Builtin.SmallTypes.nextOf (.ref it)) Q E s:=by
 obtain⟨ob,e1,e2,e3⟩:=id st
 obtain⟨ot,g1,_,nt,g3⟩:=ht
 have T:=st.typeIs
 unfold Builtin.SmallTypes.nextOf
 refine ae (bS (name:=Str.ofString "__next__") T e_ (cu e_ T j0 ?_ (jD _)))
 show wpAny _ _ (field (.ref it) 0 >>= _) _ _ s
 refine ae (cG e1 e3 (x:=.ref t) rfl ?_)
 dsimp only
 rw[az (show ¬ ((Value.ref t==Value.none)=true)from bK)]
 refine ae (cG e1 e3 (x:=.int i 0) rfl ?_)
 dsimp only
 refine ae (cC g1 g3 ?_)
 simp only[bB,hx]
 refine ae (wpAny_setField e1 e3 (by simp) (ao ⟨x,rfl,ao (q _ ?_ (cI ..))⟩))
 exact⟨_,gw _ e1 (Obj.isFreed_of_fields (Obj.data_mapFields e3 _)),(Obj.cls_mapFields ..).trans e2,by rw[Obj.data_mapFields e3];simp[rawInt]⟩
theorem jO{t:Addr}(hh:A.handled=none)(st:s.heap.IsTupleIter it t i)(ht:s.heap.IsTuple t bn)(hx:bn[i]?=none)
  (q:∀g e,Heap.ExtBut it s.heap g->(∃o,g.get? e=some o/\o.cls=.type "StopIteration")->E (.ref e) { s with heap:=g }):wpAny (model prog w) A (Builtin.SmallTypes.nextOf (.ref it)) Q E s:=by
 obtain⟨ob,e1,e2,e3⟩:=id st
 obtain⟨ot,g1,_,nt,g3⟩:=ht
 have T:=st.typeIs
 unfold Builtin.SmallTypes.nextOf
 refine ae (bS (name:=Str.ofString "__next__") T e_ (cu e_ T j0 ?_ (jD _)))
 show wpAny _ _ (field (.ref it) 0 >>= _) _ _ s
 refine ae (cG e1 e3 (x:=.ref t) rfl ?_)
 dsimp only
 rw[az (show ¬ ((Value.ref t==Value.none)=true)from bK)]
 refine ae (cG e1 e3 (x:=.int i 0) rfl ?_)
 dsimp only
 refine ae (cC g1 g3 ?_)
 simp only[bB,hx]
 refine ae (fH (ae (wpAny_setField e1 e3 (by simp) (ae ?_))))
 simp only[newExc,newTuple]
 refine ae (dB (ae (m:=firstArgMember _ _) (wpAny_of_eq (a:=Value.none) (by first|rfl|(simp only[firstArgMember];rfl)) (dB ?_ (by size_fits)))) (by size_fits))
 simp only[raiseNew]
 refine ae (wpAny_handled ?_)
 rw[show A.in1.handled=none from hh]
 exact ae (ao (wpAny_throw (q _ _ (((cI ..).extBut.push _).push _) ⟨_,aC _ rfl,rfl⟩)))
end
theorem E5{w:World}{A:Around}(hh:A.handled=none)(it t:Addr)(jt:t≠it)(bn:Array Value) :
  Draws prog w A it [it,t] bn.size (fun i v=>bn[i]?=some v) (fun i h=>h.IsTupleIter it t i/\h.IsTuple t bn) where
 live:=fun _ _ st=>let ⟨o,e,_⟩:=st.1;⟨o,e⟩
 frame:=fun _ h h' st k=>⟨st.1.at fun o e=>k it (by simp) o e,let ⟨o,e,r⟩:=st.2;⟨o,k t (by simp) o e,r⟩⟩
 item:=fun i s Q E hi st q=>jh st.1 st.2 (x:=bn[i]) (by simp[hi]) fun g a b=>q _ g s.toks (by simp[hi]) ⟨a,st.2.extBut b.extBut jt⟩ b
 done:=fun s Q E st q=>jO hh st.1 st.2 (by simp) q
open AutoSeq1 (wpAny_loadPart')
def W7(K:Frag)(a:Addr):It:=
 ⟨fun i H=>∃xs x,eF K H a xs/\xs[i]?=some x,fun i H v H'=>∃p,H p=none/\v=.ref p/\∀xs x,eF K H a xs->xs[i]?=some x->H'=eR H p (.tup [.int i,x]),fun i H=>∃xs,eF K H a xs/\xs.length<=i⟩
theorem DB{w:World}(a it e:Addr)(RF:e≠it) :
  xJ P w K (.Tuple mF kk pos) (W7 K a) [e,it] e (fun i h=>(∃old,IsEnum h e it i old)/\h.IsTupleIter it a i) where
 mem:=by simp
 obj:=fun i h st b hb=>by
  have z:b=e\/b=it:=by simpa using hb
  rcases z with rfl|rfl
  ·obtain⟨old,q⟩:=st.1
   exact⟨_,q,fun v z=>by cases z⟩
  ·obtain⟨o,q,c,d⟩:=st.2
   exact⟨o,q,fun v z=>by rw[d]at z;cases z⟩
 keep:=fun i h h' st k=>⟨let ⟨old,q⟩:=st.1;⟨old,k e (by simp) _ q⟩,st.2.at fun o q=>k it (by simp) o q⟩
 item:=by
  intro X hP hw hK hc i pins s σ H E I hf st hg
  subst hP hw hK
  obtain⟨xs,x,hq,hx⟩:=hg
  obtain⟨bn,rv,p,hz⟩:=I.tuple hq
  obtain⟨u,hu,ru⟩:=rv.get hx
  obtain⟨⟨old,he⟩,hit⟩:=st
  have hT:s.heap.IsTuple a bn.toArray:=p
  obtain⟨oa,ha,hca,_⟩:=id hT
  obtain⟨oi,hi,hci,_⟩:=id hit
  have nai:a≠it:=fun z=>by
   rw[z,hi]at ha;cases ha
   rw[hci]at hca;injection hca with z;exact absurd z (by decide)
  have nae:a≠e:=fun z=>by
   rw[z,he]at ha;cases ha
   injection hca with z;exact absurd z (by decide)
  have hlt:i<bn.toArray.size:=by
   have:=(ac.mp hu).1
   simpa using this
  refine l7 (E5 (A:=X.A.in1) (I.ok.hd hc) it a nai bn.toArray) he ⟨hit,hT⟩ hlt RF (by simp[RF,Ne.symm nae]) fun x' g tk hx' qN bG htup hsz hk=>⟨_,rfl,?_⟩
  have ex:x'=u:=by
   have e1:bn[i]?=some x':=by simpa using hx'
   rw[hu]at e1;exact(aY e1).symm
  subst ex
  refine ky qN fun g2 Vy xz=>?_
  have ui:H s.heap.objs.size=none:=I.hok.fresh (aw _)
  have I1:bz X pins σ (eR H s.heap.objs.size (.tup [.int i,x])) { s with heap:=s.heap.push { cls:=.type "tuple",data:=.seq #[.int i tk,x'] },toks:=tk+1 }:=I.laid (fun b o q=>am _ q) (aw _)
   ⟨by show 2<=sizeLine;decide,[.int i tk,x'],.cons ⟨tk,rfl⟩ (.cons ru .nil),⟨_,aC _ rfl,rfl,_,rfl⟩⟩
  have nf:∀b∈[e,it],b≠s.heap.objs.size:=fun b hb=>by
   have z:b=e\/b=it:=by simpa using hb
   rcases z with rfl|rfl
   ·exact bf (aE he)
   ·exact bf (aE hi)
  have fp:∀b∈[e,it],ny X pins (eR H s.heap.objs.size (.tup [.int i,x])) b:=fun b hb=>by
   obtain⟨f0,f⟩:=hf b hb
   exact⟨by rw[cJ (nf b hb)];exact f0,f⟩
  have he2':IsEnum g2 e it ((i:Int)+1) x':=Vy
  have I2:bz X pins σ (eR H s.heap.objs.size (.tup [.int i,x])) { s with heap:=g2,toks:=tk+1 }:=I1.turned2 (t':=tk+1) (fun b o hbe hbi q=>?_) ⟨_,he2'⟩ (fp e (by simp)) (fp it (by simp))
  ·refine⟨.ref s.heap.objs.size,_,I2,rfl,⟨_,ui,rfl,fun ys y hy hy'=>?_⟩,⟨⟨x',by simpa using he2'⟩,bG.1.extBut xz.extBut (Ne.symm RF)⟩,fun b hb=>(fp b hb).1⟩
   have e1:=I.tuple_inj hy hq
   subst e1
   rw[hx]at hy';cases hy';rfl
  ·have q':(s.heap.push { cls:=.type "tuple",data:=.seq #[.int i tk,x'] }).get? b=some o:=q
   refine xz.extBut b o hbe ?_
   by_cases hb:b=s.heap.objs.size
   ·subst hb
    have e1:=aC s.heap (o:={ cls:=.type "tuple",data:=.seq #[.int i tk,x'] }) rfl
    rw[e1]at q';cases q'
    exact htup
   ·rw[kY _ _ _ hb]at q'
    exact hk b o hbe hbi q'
 done:=by
  intro X hP hw hK hc i pins s σ H E I hf st hg
  subst hP hw hK
  obtain⟨xs,hq,hx⟩:=hg
  obtain⟨bn,rv,p,hz⟩:=I.tuple hq
  obtain⟨⟨old,he⟩,hit⟩:=st
  have hT:s.heap.IsTuple a bn.toArray:=p
  have hl:=rv.length
  have hT':Shared.TypeIs s (.ref e) "enumerate":=⟨_,he,rfl⟩
  unfold pyNext
  refine ae (lj (bS (name:=Str.ofString "__next__") hT' gz (cu gz hT' mP ?_ (l8 _))))
  show wpAny _ _ (field (.ref e) 2 >>= _) _ _ _
  refine ae (cG he rfl (x:=.ref it) rfl (ae (jO (show X.A.in1.handled=none from I.ok.hd hc) hit hT (by simp;omega) fun g y hx' hy=>?_)))
  obtain⟨o,ho,lT⟩:=hy
  refine ae (fU (T:="StopIteration") (b:=true) ⟨o,ho,lT⟩ nZ (ao ⟨rfl,?_⟩))
  obtain⟨f0,f1,f2,f3,f4,f5⟩:=hf it (by simp)
  exact I.turned (t':=s.toks) (fun b o hb q=>hx' b o hb q) f0 f1 f3 f4 f5
 self:=fun A i s Q E st h=>let ⟨_,q⟩:=st.1;iN q h
open AutoSeq1 (wpAny_loadPart')
abbrev kM(t:Addr):Obj:={ cls:=.type "tuple_iterator",data:=.fields #[.ref t,.int 0 0] }
abbrev qt(it:Addr):Obj:={ cls:=.type "enumerate",data:=.fields #[.none,.bool false,.ref it,rawInt 0,.none,.none] }
theorem O1(t:Addr)(bn:Array Value)(n:Nat)(dc:Option Addr)(sl:Array (Option Value)) :
  Meets (Builtin.«enumerate.__new__» ⟨[.type "enumerate",.ref t],[]⟩) (fun _ R s=>s.heap.get? t=some { cls:=.type "tuple",dict:=dc,data:=.seq bn n,slots:=sl } /\
   R (.ok (.ret (.ref (s.heap.push (kM t)).objs.size))) { s with heap:=(s.heap.push (kM t)).push (qt s.heap.objs.size) }):=
 .of_wp fun prog w A R s h=>by
  obtain⟨hp,g,d,tk,os⟩:=s
  obtain⟨ht,h⟩:=h
  have sb:=sub_enumerate
  have hT:Heap.IsTuple (Shared.heap ⟨hp,g,d,tk,os⟩) t bn:=⟨_,ht,rfl,n,rfl⟩
  wp_walk using bA ht
  refine wpAny_stack_any fun st=>ao ?_
  split
  ·rename_i c _ _ _ _ _
   cases(c==Value.type "enumerate")<;>(wp_walk using bA ht,gf hT;exact⟨_,rfl,h⟩)
  ·wp_walk using bA ht,gf hT
   exact⟨_,rfl,h⟩
section
variable{w:World}
theorem uA{t:Addr}(hT:s.heap.IsTuple t bn)
  (q:∀g,IsEnum g (s.heap.objs.size+1) s.heap.objs.size 0 .none->g.IsTupleIter s.heap.objs.size t 0->(∀b o,s.heap.get? b=some o->g.get? b=some o)->Q (.ref (s.heap.objs.size+1)) { s with heap:=g }) :
  wpAny (model prog w) A (call (.type "enumerate") [.ref t]) Q E s:=by
 obtain⟨⟨c,dc,dt,sl⟩,ht,hc,n,hd⟩:=hT
 obtain rfl:c=.type "tuple":=hc
 obtain rfl:dt=.seq bn n:=hd
 refine qi F.called_enumerate (by decide) (mQ _) (nj _) (fun ob=>F.args_object_init_2 ob _) nn (O1 t bn n dc sl) ⟨ht,?_⟩
 have z:(s.heap.push (kM t)).objs.size=s.heap.objs.size+1:=d8 ..
 show _/\_
 rw[z]
 have e1:IsEnum ((s.heap.push (kM t)).push (qt s.heap.objs.size)) (s.heap.objs.size+1) s.heap.objs.size 0 .none:=by
  have y:=aC (s.heap.push (kM t)) (o:=qt s.heap.objs.size) rfl
  rw[z]at y;exact y
 exact⟨⟨_,e1,rfl⟩,q _ e1 ⟨_,am _ (aC _ rfl),rfl,rfl⟩ fun b o y=>am _ (am _ y)⟩
end
section
def Wr(K:Frag)(ta:TA):TI:=fun σ H R=>ta σ H fun vs H1=>∃a,vs=[.ref a]/\(∃xs,eF K H1 a xs)/\R (W7 K a) H1
theorem E6{a:Expr}{ta:TA}{p pos tp:Pos}{mF:List Expr}{kk:Nat}(hm:X.mg "enumerate"=none)(ha:QA X [a] ta)(hg:Gl X "enumerate":=by rfl)(hs:starEach [a] X.env=[(false,eval a X.env)]:=by rfl) :
  QI X (.Tuple mF kk tp) (.Call (.Name "enumerate" p) [a] [] pos) (Wr X.K ta):=⟨by
 intro pins s σ H R I h
 refine Call_ (lc I hg hm n5 (b_ (fJ (ha.h pos pins s σ H _ I h) fun us s1 ⟨vs,H1,I1,r1,q1⟩=>?_) hs rfl))
 obtain⟨t,e,⟨xs,hq⟩,q⟩:=q1
 subst e
 obtain⟨u,rfl,ru⟩:=jI r1
 cases ru
 obtain⟨bn,rv,pt,hz⟩:=I1.tuple hq
 refine uA (show s1.heap.IsTuple t bn.toArray from pt) fun g e1 e2 kp=>?_
 refine iN e1 ?_
 refine⟨s1.heap.objs.size+1,[s1.heap.objs.size+1,s1.heap.objs.size],_,_,H1,rfl,I1.kept (t':=s1.toks) kp,DB t _ _ (Nat.succ_ne_self _),⟨⟨_,e1⟩,e2⟩,fun b hb=>?_,q⟩
 have z:b=s1.heap.objs.size+1\/b=s1.heap.objs.size:=by simpa using hb
 rcases z with rfl|rfl
 ·exact I1.fpOk (f_ _) (I1.hok.fresh (f_ _))
 ·exact I1.fpOk (aw _) (I1.hok.fresh (aw _))⟩
end
section
variable{g:TG}{tc:TT}{H1:Hp}{Q:VK}
end
section
variable{w:World}
end
section
variable{w:World}{R:Result->Shared->Prop}{I:Addr}{wr:List Addr}{P:Nat->Value->Prop}{St:Nat->Heap->Prop}
end
section
variable{w:World}
end
section
end
section
variable{w:World}
end
section
variable{w:World}
end
section
variable{w:World}
end
section
variable{w:World}
end
section
variable{w:World}
end
section
variable{w:World}
end
theorem bz.kept2{d':Drawn}(I:bz X pins σ H s)(k:∀b o,s.heap.get? b=some o->h'.get? b=some o):bz X pins σ H { s with heap:=h',drawn:=d',toks:=t' }:=
 I.step (g':=s.gens) (ch:=[]) (fun _ z=>nomatch z) (fun b o _ _ _ e _=>k b o e) (fun b o _ _ _ e _=>⟨o.slots,k b o e⟩) (fun _ _ _ _ n=>n) (fun b o _ e=>⟨o,k b o e⟩) (fun _ _ e=>e) (fun _ _ _ e=>e) (fun b ps e=>⟨#[],by rw[e];simp⟩)
  (fun m hm=>let ⟨o,es,ep,ho,r⟩:=hm;⟨o,es,ep,k _ o ho,r⟩) (I.hok.kept k) I.bare
section
variable{w:World}
end
section
variable{wi:TI}{g:TG}{tc:TT}
theorem Ag{x0:Str}{p0 p1:Pos}{gx:TG}(RM:PG X (.Name x0 p0) gx)(Ry:swapsWith (.ListComp oB [⟨tg,iter,mf,0⟩] scope pos) (some (.Name x0 p0)) p1.line X.env=pure true)(iD:X.calm=true)(zC:closureFor scope X.env=pure cl)(lT:∀x c,cl.lookup x=some c->X.env.cells.lookup x=some c)
  (hZ:scope.kind=.function) (uh:∀x∈scope.names,x.2=.local->scope.names.lookup x.1=some .local) (iE:∀y∈scope.names,y.2≠.cell)
  (IX:∀x,((relabel scope X.env).names.lookup x=some .cell\/(relabel scope X.env).names.lookup x=some .free)->∃c,cl.lookup x=some c)
  (zP:∀(i j:Nat),cap[i]?=some (some j)->∃x,nm[i]?=some x/\X.N[j]?=some x/\BD X scope cl x) (cY:cap.length=nm.length)
  (hi:PI X tg iter wi) (hg:∀C s0 H0 fp,PG (bT X nm scope cl C s0 H0 fp) tg g) (ht:∀C s0 H0 fp,Jl (bT X nm scope cl C s0 H0 fp) mf tc)
  (he:∀C s0 H0 fp,PE (bT X nm scope cl C s0 H0 fp) oB te) (hs:∀x,foldedSetIterable iter X.env x=pure x:=by intro _;rfl) :
  PS X (.Assign [.Name x0 p0] (.ListComp oB [⟨tg,iter,mf,0⟩] scope pos) p1) (EB (vd cap wi g tc te) gx):=by
 intro pins s σ H D I h
 rw[exec_Assign_Name_used _ _ _ _ Ry]
 suffices main:wpAny (model X.prog X.w) X.A (comprehension (.ListComp oB [⟨tg,iter,mf,0⟩] scope pos) scope X.env (firstIterPos [⟨tg,iter,mf,0⟩] pos) (newList []) (firstAsync [⟨tg,iter,mf,0⟩]) (firstIter [⟨tg,iter,mf,0⟩] X.env) (some (assign (.Name x0 p0) X.env))) (fun _ s'=>SP X pins D .next s') X.xe s from
  ae (jm (ae (ae (eB main (fun _ s' h=>ao (ao h)) fun _ _ z=>z))))
 refine ve iD zC lT hZ uh iE IX zP cY hi hg ht he hs I h fun s4 C D m4 Hn I4 B q=>?_
 obtain⟨oC,es,ep,hoC,hdC,hrC⟩:=B.ns
 refine eB (RM _ s4 σ _ (.ref D) (.ref D) _ (I4.pins_of (pins':=pins++[(C,oC)]) fun p hp=>?_) rfl q) (fun _ s5 h5=>?_) fun _ _ z=>z
 ·rcases aI.mp hp with z|z
  ·exact I4.pin p (aW _ z)
  ·have e:p=(C,oC):=by simpa using z
   subst e
   exact⟨hoC,B.fr,B.nl,B.nf,fun v z=>by rw[hdC]at z;cases z⟩
 obtain⟨σ',H',I6,nx⟩:=h5
 have pC:=I6.pin (C,oC) (aW _ (aW _ (bR.mpr rfl)))
 have I7:bz X pins σ' H' s5:=I6.pins_of fun p hp=>I6.pin p (aW _ (fE _ hp))
 have B7:BE X pins H' s5 C m4:=⟨⟨oC,es,ep,pC.1,hdC,hrC⟩,pC.2.1,B.nl,B.nf,B.hi,B.nc,B.np⟩
 exact⟨m4,B7.ns,fun h' hs'=>⟨σ',H',B7.off I7 hs',nx⟩⟩
end
theorem Ah{x0:Str}{p0 p1:Pos}{gx:TG}{pos:Pos}{wi:TI}{g:TG}{tc:TT}(RM:QG X (.Name x0 p0) gx)(iD:X.calm=true)
  (jd:X.env.cells=cellsFrom m X.env.scope.names []) (hZ:scope.kind=.function) (hB:xW X.env.scope.names scope.names nm cap X.N=true)
  (hi:QI X tg iter wi) (hg:∀cl C s0 H0 fp,QG (bT X nm scope cl C s0 H0 fp) tg g) (ht:∀cl C s0 H0 fp,Wq (bT X nm scope cl C s0 H0 fp) mf tc)
  (he:∀cl C s0 H0 fp,QE (bT X nm scope cl C s0 H0 fp) oB te) (hs:∀x,foldedSetIterable iter X.env x=pure x:=by intro _;rfl) (Ry:swapsWith (.ListComp oB [⟨tg,iter,mf,0⟩] scope pos) (some (.Name x0 p0)) p1.line X.env=pure true:=by first|rfl|kernel_rfl) :
  QS X (.Assign [.Name x0 p0] (.ListComp oB [⟨tg,iter,mf,0⟩] scope pos) p1) (EB (vd cap wi g tc te) gx):=by
 simp only[xW,bw,fT,gr,iM,cZ,bq]at hB
 obtain⟨⟨⟨⟨b1,b2⟩,b3⟩,b4⟩,b5⟩:=hB
 have has:∀x∈scope.names,x.2=.free->∃c,X.env.cells.lookup x.1=some c:=fun x hx hk=>by
  rw[jd]
  rcases b3 x hx with z|z
  ·exact absurd hk z
  ·exact nz z
 have lT:∀x c,(ij X.env scope.names []).lookup x=some c->X.env.cells.lookup x=some c:=fun x c h=>qr scope.names [] has (by simp) (x,c) (fB h)
 have hin:∀x,(x,NameKind.free)∈scope.names->∃c,(ij X.env scope.names []).lookup x=some c:=fun x h=>let ⟨_,q⟩:=pc (env:=X.env) scope.names [] x h;pd q
 have hmap:(relabel scope X.env).names=scope.names.map fun y=>if (y.2==.free&&X.env.scope.kind==.function&&X.env.kindOf y.1==some .cell)then(y.1,NameKind.cell)else y:=by
  show scope.names.map _=_
  refine br fun y _=>?_
  obtain⟨a,b⟩:=y
  rfl
 have fr:∀x,((relabel scope X.env).names.lookup x=some .cell\/(relabel scope X.env).names.lookup x=some .free)->(x,NameKind.free)∈scope.names:=fun x h=>by
  have h':∃k,(x,k)∈(relabel scope X.env).names/\(k=.cell\/k=.free):=by
   rcases h with h|h
   ·exact⟨_,fB h,.inl rfl⟩
   ·exact⟨_,fB h,.inr rfl⟩
  obtain⟨k,hm,hk⟩:=h'
  rw[hmap]at hm
  obtain⟨y,hy,e⟩:=aJ.mp hm
  obtain⟨a,b⟩:=y
  by_cases hb:b=.free
  ·subst hb
   have:a=x:=by split at e<;>(cases e;rfl)
   subst this;exact hy
  ·rw[az (by simp[hb])]at e
   cases e
   rcases hk with rfl|rfl
   ·exact absurd rfl (b2 _ hy)
   ·exact absurd rfl hb
 refine⟨Ag RM.h Ry (cl:=ij X.env scope.names []) (cap:=cap) (nm:=nm) iD (E4 has) lT hZ (fun x hx hk=>(b1 x hx).resolve_left fun z=>z hk) (fun y hy=>b2 y hy) (fun x hx=>hin x (fr x hx)) (fun i j e=>?_) b4 hi.h (fun C s0 H0 fp=>(hg _ C s0 H0 fp).h) (fun C s0 H0 fp=>(ht _ C s0 H0 fp).h) (fun C s0 H0 fp=>(he _ C s0 H0 fp).h) hs⟩
 have hi':i<cap.length:=(ac.mp e).1
 have q:=b5 i (bx.mpr hi')
 rw[e]at q
 dsimp only at q
 cases hx:nm[i]? with
 |none=>rw[hx]at q;simp at q
 |some x=>
  cases hy:X.N[j]? with
  |none=>rw[hx,hy]at q;simp at q
  |some y=>
   rw[hx,hy]at q
   simp only[bw,cZ]at q
   obtain⟨⟨rfl,q1⟩,q2⟩:=q
   refine⟨x,rfl,rfl,.inr (.inl q1),(by rw[q1];decide),?_,?_⟩
   ·obtain⟨c,hc⟩:=hin x (fB q2)
    rw[hc,lT _ _ hc]
   ·rw[hmap];exact nD (env:=X.env) q2
open AutoSeq1 (wpAny_loadPart')
theorem E7(l b:Addr)(i1 i2:Array Value)(n1 n2:Nat)(d1 d2:Option Addr)(s1 s2:Array (Option Value))(h0:i1.isEmpty=true) :
  Meets (Builtin.«tuple.__add__» ⟨[.ref l,.ref b],[]⟩) (fun _ R s=>s.heap.get? l=some { cls:=.type "tuple",dict:=d1,data:=.seq i1 n1,slots:=s1 }/\s.heap.get? b=some { cls:=.type "tuple",dict:=d2,data:=.seq i2 n2,slots:=s2 }/\R (.ok (.ret (.ref b))) s):=
 .of_wp fun prog w A R s h=>by
  obtain⟨hp,g,d,tk,os⟩:=s
  obtain⟨e1,e2,h⟩:=h
  have a2:=PyProof.Rows.sub_tuple_tuple
  wp_walk using bA e1,bA e2
  exact⟨_,rfl,h⟩
def Tb(K:Frag):R2:=fun x y H Q=>∃a b xs ys,x=.ref a/\y=.ref b/\eF K H a xs/\eF K H b ys/\xs.length+ys.length<=sizeLine/\∀p H2,rq H H2->eF K H2 p (xs++ys)->Q (.ref p) H2
theorem O6:W6 X (binaryOp .Add) (Tb X.K):=⟨by
 intro pins s σ H x y v u Q I rx ry h
 obtain⟨a,b,xs,ys,rfl,rfl,ha,hb,hz,q⟩:=h
 by_cases hx:xs=[]
 ·subst hx
  cases rx
  cases ry
  obtain⟨bn,r1,p1,_⟩:=I.tuple ha
  obtain⟨its2,r2,p2,_⟩:=I.tuple hb
  have e1:bn=[]:=r1.nil_iff.mpr rfl
  obtain⟨⟨c1,d1,g1,l1⟩,f1,hc1,n1,VW⟩:=id p1
  obtain⟨⟨c2,d2,g2,l2⟩,f2,hc2,n2,Bo⟩:=id p2
  simp only at hc1 VW hc2 Bo
  subst hc1 VW hc2 Bo
  refine qe ⟨_,f1,rfl⟩ ⟨_,f2,rfl⟩ lW oR PySem.F.slot_tuple_add PySem.F.entry_tuple_add (PySem.F.args_tuple_add_2 _ _) (E7 a b bn.toArray its2.toArray n1 n2 d1 d2 l1 l2 (by rw[e1];rfl)) ⟨f1,f2,?_⟩
  exact⟨.ref b,H,I,rfl,q b H (rq.refl H) hb⟩
 ·exact JN pins s σ H _ _ v u Q I rx ry ⟨a,b,xs,ys,rfl,rfl,ha,hb,hx,hz,fun e=>q a H (rq.refl H) (by rw[e,eD];exact ha),fun _ p hp=>q p _ (cx hp _) (eF.of eX)⟩⟩
inductive W where
 |non|bl (b:Bool)|int (i:Int)|str (l:List Nat)|tup (ws:List W)|loc (n:Nat)
inductive DK where
 |i (z:Int)|s (l:List Nat)
deriving DecidableEq
def DK.key:DK->f6
 |.i z=>.inl z
 |.s l=>.inr (tx l)
inductive KX where
 |bo (b:Bool)|fl (ks:List Int)|pr (i:Int) (ks:List Int)
deriving DecidableEq
def KX.w:KX->W
 |.bo b=>.bl b
 |.fl ks=>.tup (ks.map W.int)
 |.pr i ks=>.tup [.int i,.tup (ks.map W.int)]
def E8(ks:List Int):Int:=reduceHash (Builtin.Tuple.tupleHashOf (ks.map hashInt))
def KX.hash:KX->Int
 |.bo b=>hashInt (if b then 1 else 0)
 |.fl ks=>E8 ks
 |.pr i ks=>reduceHash (Builtin.Tuple.tupleHashOf [hashInt i,E8 ks])
inductive aj where
 |lst (ws:List W)
 |ro (ws:List W)
 |exc (c:Str)
 |dct (kvs:List (DK×W))
 |tab (P:Addr) (pos:Pos) (q:Str)
 |rod (kvs:List (DK×W))
 |dcx (kvs:List (KX×W))
abbrev ji:Nat:=1000000
theorem i_(h:n<=ji):n<=sizeLine:=aR h (by decide)
theorem O7(h:n<=ji):n<sizeLine:=kw h (by decide)
inductive R(α:Type) where
 |ok (a:α) (st:List aj)
 |ex (c:Str) (st:List aj)
 |bad
end L2
variable{st bG st1:List L2.aj}{f f':L2.W->L2.W->List L2.aj->L2.R L2.W}{kvs:List (L2.KX×L2.W)}{ws:List L2.W}{F G:List L2.W->List L2.aj->L2.R L2.W}{ck:Option (Nat×List L2.W)}
namespace L2
open PySem PySem.Spec PyProof.Rows
noncomputable def R.bind:R α->(α->List aj->R β)->R β
 |.ok a st,k=>k a st
 |.ex c st,_=>.ex c st
 |.bad,_=>.bad
@[simp] theorem R.bind_ok{α β:Type}(a:α)(st:List aj)(k:α->List aj->R β):(R.ok a st).bind k=k a st:=rfl
@[simp] theorem R.bind_ex{α β:Type}(c:Str)(st:List aj)(k:α->List aj->R β):(R.ex c st:R α).bind k=.ex c st:=rfl
@[simp] theorem R.bind_bad{α β:Type}(k:α->List aj->R β):(R.bad:R α).bind k=.bad:=rfl
abbrev bY:=List (Option W)
inductive RS where
 |nx (ρ:bY) (st:List aj)|rt (w:W) (st:List aj)|bk (ρ:bY) (st:List aj)|ct (ρ:bY) (st:List aj)
 |ex (c:Str) (ρ:bY) (st:List aj)|bad
abbrev FE:=bY->List aj->R W
abbrev FT:=bY->List aj->R Bool
abbrev FA:=bY->List aj->R (List W)
abbrev FS:=bY->List aj->RS
section
variable(K:Frag)
mutual
def bj(μ:List Addr)(H:Hp):W->V->Prop
 |.non,v=>v=.non
 |.bl b,v=>v=.bl b
 |.int i,v=>v=.int i
 |.str l,v=>v=.str (tx l)
 |.tup ws,v=>∃p vs,v=.ref p/\eF K H p vs/\RelWs μ H ws vs
 |.loc n,v=>∃a,μ[n]?=some a/\v=.ref a
def RelWs(μ:List Addr)(H:Hp):List W->List V->Prop
 |[],vs=>vs=[]
 |w::ws,vs=>∃x xs,vs=x::xs/\bj μ H w x/\RelWs μ H ws xs
end
end
theorem pre_get(h:μ <+: μ')(e:μ[n]?=some a):μ'[n]?=some a:=by
 obtain⟨t,rfl⟩:=h
 rw[aq (ac.mp e).1];exact e
section
mutual
theorem bj.mono(h:μ <+: μ')(e:dP K H H'):∀{w:W} {v:V},bj K μ H w v->bj K μ' H' w v
 |.non,_,r=>by unfold bj at r ⊢;exact r
 |.bl _,_,r=>by unfold bj at r ⊢;exact r
 |.int _,_,r=>by unfold bj at r ⊢;exact r
 |.str _,_,r=>by unfold bj at r ⊢;exact r
 |.tup _,_,r=>by unfold bj at r ⊢;obtain⟨p,vs,a,b,c⟩:=r;exact⟨p,vs,a,e _ _ b,RelWs.mono h e c⟩
 |.loc _,_,r=>by unfold bj at r ⊢;obtain⟨a,b,c⟩:=r;exact⟨a,pre_get h b,c⟩
theorem RelWs.mono(h:μ <+: μ')(e:dP K H H'):∀{ws:List W} {vs:List V},RelWs K μ H ws vs->RelWs K μ' H' ws vs
 |[],_,r=>by unfold RelWs at r ⊢;exact r
 |_::_,_,r=>by unfold RelWs at r ⊢;obtain⟨x,xs,a,b,c⟩:=r;exact⟨x,xs,a,bj.mono h e b,RelWs.mono h e c⟩
end
theorem RelWs.nilI:RelWs K μ H [] []:=by unfold RelWs;rfl
theorem RelWs.consI{w:W}{x:V}{xs:List V}(a:bj K μ H w x)(b:RelWs K μ H ws xs):RelWs K μ H (w::ws) (x::xs):=by unfold RelWs;exact⟨x,xs,rfl,a,b⟩
theorem RelWs.nilE(h:RelWs K μ H [] vs):vs=[]:=by unfold RelWs at h;exact h
theorem RelWs.consE{w:W}(h:RelWs K μ H (w::ws) vs):∃x xs,vs=x::xs/\bj K μ H w x/\RelWs K μ H ws xs:=by unfold RelWs at h;exact h
theorem RelWs.pr:∀{ws:List W} {vs:List V},RelWs K μ H ws vs↔Paired (fun w v=>bj K μ H w v) ws vs
 |[],vs=>⟨fun h=>by rw[h.nilE];exact .nil,fun h=>by cases h;exact .nilI⟩
 |w::ws,vs=>⟨fun h=>by obtain⟨x,xs,rfl,a,b⟩:=h.consE;exact .cons a (RelWs.pr.mp b),fun h=>by cases h with|cons a b=>exact .consI a (RelWs.pr.mpr b)⟩
theorem RelWs.len(h:RelWs K μ H ws vs):ws.length=vs.length:=Paired.length (RelWs.pr.mp h)
theorem RelWs.app:∀{as:List W} {xs:List V} {bs:List W} {ys:List V},RelWs K μ H as xs->RelWs K μ H bs ys->RelWs K μ H (as++bs) (xs++ys)
 |[],xs,bs,ys,a,b=>by rw[a.nilE];exact b
 |w::as,xs,bs,ys,a,b=>by obtain⟨x,xs,rfl,c,d⟩:=a.consE;exact .consI c (RelWs.app d b)
theorem RelWs.get:∀{ws:List W} {vs:List V} {i:Nat} {w:W},RelWs K μ H ws vs->ws[i]?=some w->∃v,vs[i]?=some v/\bj K μ H w v
 |[],_,_,_,_,e=>by simp at e
 |x::ws,vs,0,w,h,e=>by obtain⟨y,ys,rfl,a,b⟩:=h.consE;simp at e;subst e;exact⟨y,rfl,a⟩
 |x::ws,vs,i+1,w,h,e=>by obtain⟨y,ys,rfl,a,b⟩:=h.consE;simpa using RelWs.get (i:=i) b (by simpa using e)
theorem RelWs.take:∀{ws:List W} {vs:List V} (n:Nat),RelWs K μ H ws vs->RelWs K μ H (ws.take n) (vs.take n)
 |_,_,0,_=>by simp only[List.take_zero];exact .nilI
 |[],vs,n+1,h=>by rw[h.nilE];exact .nilI
 |x::ws,vs,n+1,h=>by obtain⟨y,ys,rfl,a,b⟩:=h.consE;exact .consI a (RelWs.take n b)
theorem RelWs.drop:∀{ws:List W} {vs:List V} (n:Nat),RelWs K μ H ws vs->RelWs K μ H (ws.drop n) (vs.drop n)
 |_,_,0,h=>h
 |[],vs,n+1,h=>by rw[h.nilE];exact .nilI
 |x::ws,vs,n+1,h=>by obtain⟨y,ys,rfl,a,b⟩:=h.consE;exact RelWs.drop n b
theorem RelWs.setI:∀{ws:List W} {vs:List V} (i:Nat) {w:W} {v:V},bj K μ H w v->RelWs K μ H ws vs->RelWs K μ H (ws.set i w) (vs.set i v)
 |[],vs,_,_,_,_,h=>by rw[h.nilE];exact .nilI
 |x::ws,vs,0,w,v,r,h=>by obtain⟨y,ys,rfl,a,b⟩:=h.consE;exact .consI r b
 |x::ws,vs,i+1,w,v,r,h=>by obtain⟨y,ys,rfl,a,b⟩:=h.consE;exact .consI a (RelWs.setI i r b)
theorem bj.intE{i:Int}{v:V}(h:bj K μ H (.int i) v):v=.int i:=by unfold bj at h;exact h
theorem bj.blE{b:Bool}{v:V}(h:bj K μ H (.bl b) v):v=.bl b:=by unfold bj at h;exact h
theorem bj.nonE{v:V}(h:bj K μ H .non v):v=.non:=by unfold bj at h;exact h
theorem bj.strE{v:V}(h:bj K μ H (.str l) v):v=.str (tx l):=by unfold bj at h;exact h
theorem bj.tupE{v:V}(h:bj K μ H (.tup ws) v):∃p vs,v=.ref p/\eF K H p vs/\RelWs K μ H ws vs:=by unfold bj at h;exact h
theorem bj.locE{v:V}(h:bj K μ H (.loc n) v):∃a,μ[n]?=some a/\v=.ref a:=by unfold bj at h;exact h
theorem bj.int{i:Int}:bj K μ H (.int i) (.int i):=by unfold bj;rfl
theorem bj.bl{i:Bool}:bj K μ H (.bl i) (.bl i):=by unfold bj;rfl
theorem bj.non:bj K μ H .non .non:=by unfold bj;rfl
theorem bj.str:bj K μ H (.str l) (.str (tx l)):=by unfold bj;rfl
theorem bj.tupI{p:Addr}(a:eF K H p vs)(b:RelWs K μ H ws vs):bj K μ H (.tup ws) (.ref p):=by unfold bj;exact⟨p,vs,rfl,a,b⟩
theorem bj.locI(e:μ[n]?=some a):bj K μ H (.loc n) (.ref a):=by unfold bj;exact⟨a,e,rfl⟩
end
def Td(a:Addr)(C:Value):HO:=.ext fun h=>∃o vs,h.get? a=some o/\o.cls=C/\o.data=.fields vs
def ly(b:Addr)(q:Str):HO:=.ext fun h=>∃o vs t,h.get? b=some o/\o.data=.fields vs/\vs[1]?=some (.str q t)
def VE(K:Frag)(H:Hp)(a:Addr)(xs:List V):Prop:=
 (∃o,H a=some (.frz o (.lst xs)))\/∃(o:Obj) (bn:Array Value) (n:Nat),K.lookup a=some o/\o.cls=.type "list"/\o.dict=none/\o.data=.seq bn n/\bn.size<=sizeLine/\cv xs bn.toList
theorem VE.sq{xs:List V}(h:VE K H a xs):pD K H a xs:=by
 rcases h with⟨o,h⟩|h
 ·exact .inl (.inr ⟨o,h⟩)
 ·exact .inr h
def aj.isRo:aj->Bool
 |.ro _=>true
 |_=>false
def DX(a:Addr)(es:List DictEntry):Heap->Prop:=fun h=>∃o ep,h.get? a=some o/\o.ExactDict/\o.data=.dict es.toArray ep
abbrev O8(a:Addr)(es:List DictEntry):HO:=.ext (DX a es)
def rA(K:Frag)(μ:List Addr)(H:Hp)(p:KX×W)(e:DictEntry):Prop:=e.hash=p.1.hash/\(∃v,bj K μ H p.1.w v/\bL v e.key)/\∃v,bj K μ H p.2 v/\bL v e.val
def kN(K:Frag)(mg:Str->Option Value)(μ:List Addr)(H:Hp):aj->Addr->Prop
 |.lst ws,a=>∃vs,H a=some (.lst vs)/\RelWs K μ H ws vs
 |.ro ws,a=>∃vs,VE K H a vs/\RelWs K μ H ws vs
 |.exc c,a=>∃C,mg c=some C/\H a=some (Td a C)
 |.dct kvs,a=>∃vs,H a=some (.dK ((kvs.map fun p=>p.1.key).zip vs))/\RelWs K μ H (kvs.map fun p=>p.2) vs
 |.rod kvs,a=>∃vs o,H a=some (.frz o (.dK ((kvs.map fun p=>p.1.key).zip vs)))/\RelWs K μ H (kvs.map fun p=>p.2) vs
 |.dcx kvs,a=>∃es,H a=some (O8 a es)/\(a==sysModules)=false/\Paired (rA K μ H) kvs es/\(kvs.map fun p=>p.1).Nodup
 |.tab P pos q,a=>a=P/\∃ps,H a=some (.tbl ps)/\TriplesOk ps.toList/\(codeAmong pos ps.toList=none\/∃c,codeAmong pos ps.toList=some (.ref c)/\H c=some (ly c q))
structure h_(K:Frag)(mg:Str->Option Value)(μ:List Addr)(st:List aj)(H:Hp):Prop where
 nd:∀(i j:Nat) (a:Addr) (ci cj:aj),st[i]?=some ci->st[j]?=some cj->ci.isRo=false->cj.isRo=false->μ[i]?=some a->μ[j]?=some a->i=j
 len:st.length=μ.length
 at':∀(i:Nat) (c:aj) (a:Addr),st[i]?=some c->μ[i]?=some a->kN K mg μ H c a
section
theorem rA.mono(h:μ <+: μ')(x:dP K H H'){p:KX×W}{e:DictEntry}(r:rA K μ H p e):rA K μ' H' p e:=by
 obtain⟨a,⟨v,b,c⟩,u,d,g⟩:=r
 exact⟨a,⟨v,b.mono h x,c⟩,u,d.mono h x,g⟩
theorem kN.keep(h:μ <+: μ')(x:dP K H H'){c:aj}(e:∀o,H a=some o->H' a=some o)(e2:∀b q,H b=some (ly b q)->H' b=some (ly b q))(r:kN K mg μ H c a):kN K mg μ' H' c a:=by
 cases c with
 |lst ws=>obtain⟨vs,p,y⟩:=r;exact⟨vs,e _ p,y.mono h x⟩
 |ro ws=>
  obtain⟨vs,p,y⟩:=r
  refine⟨vs,?_,y.mono h x⟩
  rcases p with⟨o,p⟩|p
  ·exact .inl ⟨o,e _ p⟩
  ·exact .inr p
 |exc c=>obtain⟨C,p,y⟩:=r;exact⟨C,p,e _ y⟩
 |dct kvs=>obtain⟨vs,p,y⟩:=r;exact⟨vs,e _ p,y.mono h x⟩
 |rod kvs=>obtain⟨vs,o,p,y⟩:=r;exact⟨vs,o,e _ p,y.mono h x⟩
 |dcx kvs=>obtain⟨es,p,d,y,z⟩:=r;exact⟨es,e _ p,d,Paired.imp' (fun _ _ q=>q.mono h x) y,z⟩
 |tab P pos q=>
  obtain⟨ea,ps,p,t,y⟩:=r
  refine⟨ea,ps,e _ p,t,?_⟩
  rcases y with y|⟨c,y,z⟩
  ·exact .inl y
  ·exact .inr ⟨c,y,e2 _ _ z⟩
theorem kN.ro_ne{c:aj}(r:kN K mg μ H c a)(h:c.isRo=false):∃o,H a=some o:=by
 cases c with
 |lst ws=>obtain⟨vs,p,y⟩:=r;exact⟨_,p⟩
 |ro ws=>cases h
 |exc c=>obtain⟨C,p,y⟩:=r;exact⟨_,y⟩
 |dct kvs=>obtain⟨vs,p,y⟩:=r;exact⟨_,p⟩
 |rod kvs=>obtain⟨vs,o,p,y⟩:=r;exact⟨_,p⟩
 |dcx kvs=>obtain⟨es,p,_⟩:=r;exact⟨_,p⟩
 |tab P pos q=>obtain⟨_,ps,p,_⟩:=r;exact⟨_,p⟩
theorem h_.same(S:h_ K mg μ st H)(e:rq H H'):h_ K mg μ st H':=⟨S.nd,S.len,fun i c a h1 h2=>(S.at' i c a h1 h2).keep (ah _) (eF.same e) (e a) fun b q h=>e b _ h⟩
theorem h_.get(S:h_ K mg μ st H){c:aj}(h:st[n]?=some c):∃a,μ[n]?=some a/\kN K mg μ H c a:=by
 have hn:n<μ.length:=by rw[<- S.len];exact(ac.mp h).1
 exact⟨μ[n],aa hn,S.at' n c _ h (aa hn)⟩
theorem h_.push(S:h_ K mg μ st H){p:Addr}{o:HO}{c:aj}(hp:H p=none)(hc:kN K mg (μ++[p]) (eR H p o) c p):h_ K mg (μ++[p]) (st++[c]) (eR H p o):=by
 have hs:rq H (eR H p o):=cx hp o
 have Em:μ <+: μ++[p]:=ax _ _
 have old:∀{i:Nat} {d:aj} {a:Addr},i<st.length->(st++[c])[i]?=some d->(μ++[p])[i]?=some a->st[i]?=some d/\μ[i]?=some a:=fun{i d a} hi h1 h2=>by
  rw[aq hi]at h1
  rw[aq (by rw[<- S.len];exact hi)]at h2
  exact⟨h1,h2⟩
 have new:∀{i:Nat} {d:aj} {a:Addr},¬ i<st.length->(st++[c])[i]?=some d->(μ++[p])[i]?=some a->i=st.length/\d=c/\a=p:=fun{i d a} hi h1 h2=>by
  have hi':i=st.length:=by
   have:=(ac.mp h1).1
   simp at this;omega
  subst hi'
  simp at h1
  rw[S.len,cn (aw _)]at h2
  simp at h2
  exact⟨rfl,h1.symm,h2.symm⟩
 refine⟨fun i j a ci cj h1 h2 r1 r2 m1 m2=>?_,by simp[S.len],fun i d a h1 h2=>?_⟩
 ·by_cases hi:i<st.length
  ·obtain⟨x1,x2⟩:=old hi h1 m1
   by_cases hj:j<st.length
   ·obtain⟨y1,y2⟩:=old hj h2 m2
    exact S.nd i j a ci cj x1 y1 r1 r2 x2 y2
   ·obtain⟨_,_,rfl⟩:=new hj h2 m2
    obtain⟨o',z⟩:=(S.at' i ci a x1 x2).ro_ne r1
    rw[hp]at z;cases z
  ·obtain⟨e1,_,rfl⟩:=new hi h1 m1
   by_cases hj:j<st.length
   ·obtain⟨y1,y2⟩:=old hj h2 m2
    obtain⟨o',z⟩:=(S.at' j cj a y1 y2).ro_ne r2
    rw[hp]at z;cases z
   ·obtain⟨e2,_,_⟩:=new hj h2 m2
    omega
 ·by_cases hi:i<st.length
  ·obtain⟨x1,x2⟩:=old hi h1 h2
   exact(S.at' i d a x1 x2).keep Em (eF.same hs) (hs a) fun b q h=>hs b _ h
  ·obtain⟨_,rfl,rfl⟩:=new hi h1 h2
   exact hc
theorem h_.setG(S:h_ K mg μ st H){c c':aj}{o o':HO}(hn:st[n]?=some c)(ut:c.isRo=false)(hm:μ[n]?=some a)(ha:H a=some o)(hf:∀q u,o≠.frz q u)(hg:∀q,o≠ly a q)(hx:dP K H (eR H a o'))(XH:c'.isRo=false)(hr:kN K mg μ (eR H a o') c' a):h_ K mg μ (st.set n c') (eR H a o'):=by
 have hl:n<st.length:=(ac.mp hn).1
 have back:∀{i:Nat} {d:aj},(st.set n c')[i]?=some d->∃d',st[i]?=some d'/\(d'=d\/(i=n/\d=c')):=fun{i d} h=>by
  by_cases e:i=n
  ·subst e
   rw[ba hl]at h
   exact⟨_,hn,.inr ⟨rfl,(aY h).symm⟩⟩
  ·rw[aS (Ne.symm e)]at h
   exact⟨d,h,.inl rfl⟩
 refine⟨fun i j b ci cj h1 h2 r1 r2 m1 m2=>?_,by simp[S.len],fun i d b h1 h2=>?_⟩
 ·obtain⟨di,x1,y1⟩:=back h1
  obtain⟨dj,x2,y2⟩:=back h2
  refine S.nd i j b di dj x1 x2 ?_ ?_ m1 m2
  ·rcases y1 with rfl|⟨rfl,rfl⟩
   ·exact r1
   ·rw[hn]at x1;cases x1;exact ut
  ·rcases y2 with rfl|⟨rfl,rfl⟩
   ·exact r2
   ·rw[hn]at x2;cases x2;exact ut
 ·by_cases e:i=n
  ·subst e
   rw[ba hl]at h1
   cases h1
   rw[hm]at h2;cases h2
   exact hr
  ·rw[aS (Ne.symm e)]at h1
   have r:=S.at' i d b h1 h2
   by_cases hrd:d.isRo=true
   ·cases d with
    |ro zs=>
     obtain⟨us,p,q⟩:=r
     refine⟨us,?_,q.mono (ah _) hx⟩
     rcases p with⟨o2,p⟩|p
     ·exact .inl ⟨o2,by rw[cJ (by rintro rfl;rw[ha]at p;cases p;exact hf _ _ rfl)];exact p⟩
     ·exact .inr p
    |lst _=>cases hrd
    |exc _=>cases hrd
    |dct _=>cases hrd
    |rod _=>cases hrd
    |dcx _=>cases hrd
    |tab _ _ _=>cases hrd
   ·refine r.keep (ah _) hx (fun o ho=>?_) fun b' q h=>by rw[cJ (by rintro rfl;rw[ha]at h;cases h;exact hg _ rfl)];exact h
    have hb:b≠a:=by
     rintro rfl
     exact e (S.nd i n b d _ h1 hn (by simpa using hrd) ut h2 hm)
    rw[cJ hb];exact ho
theorem h_.set(S:h_ K mg μ st H){U_:List W}{Bi:List V}(hn:st[n]?=some (.lst ws))(hm:μ[n]?=some a)(ha:H a=some (.lst vs))(hr:RelWs K μ H U_ Bi):h_ K mg μ (st.set n (.lst U_)) (eR H a (.lst Bi)):=by
 have hx:dP K H (eR H a (.lst Bi)):=eF.but fL ha
 have hl:n<st.length:=(ac.mp hn).1
 have back:∀{i:Nat} {d:aj},(st.set n (.lst U_))[i]?=some d->∃d',st[i]?=some d'/\(d'=d\/(i=n/\d=.lst U_)):=fun{i d} h=>by
  by_cases e:i=n
  ·subst e
   rw[ba hl]at h
   exact⟨_,hn,.inr ⟨rfl,(aY h).symm⟩⟩
  ·rw[aS (Ne.symm e)]at h
   exact⟨d,h,.inl rfl⟩
 refine⟨fun i j b ci cj h1 h2 r1 r2 m1 m2=>?_,by simp[S.len],fun i d b h1 h2=>?_⟩
 ·obtain⟨di,x1,y1⟩:=back h1
  obtain⟨dj,x2,y2⟩:=back h2
  refine S.nd i j b di dj x1 x2 ?_ ?_ m1 m2
  ·rcases y1 with rfl|⟨rfl,rfl⟩
   ·exact r1
   ·rw[hn]at x1;cases x1;rfl
  ·rcases y2 with rfl|⟨rfl,rfl⟩
   ·exact r2
   ·rw[hn]at x2;cases x2;rfl
 ·by_cases e:i=n
  ·subst e
   rw[ba hl]at h1
   cases h1
   rw[hm]at h2;cases h2
   exact⟨Bi,eX,hr.mono (ah _) hx⟩
  ·rw[aS (Ne.symm e)]at h1
   have r:=S.at' i d b h1 h2
   by_cases ut:d.isRo=true
   ·cases d with
    |ro zs=>
     obtain⟨us,p,q⟩:=r
     refine⟨us,?_,q.mono (ah _) hx⟩
     rcases p with⟨o',p⟩|p
     ·exact .inl ⟨o',by rw[cJ (by rintro rfl;rw[ha]at p;cases p)];exact p⟩
     ·exact .inr p
    |lst _=>cases ut
    |exc _=>cases ut
    |dct _=>cases ut
    |rod _=>cases ut
    |dcx _=>cases ut
    |tab _ _ _=>cases ut
   ·refine r.keep (ah _) hx (fun o ho=>?_) fun b' q h=>by rw[cJ (by rintro rfl;rw[ha]at h;cases h)];exact h
    have hb:b≠a:=by
     rintro rfl
     exact e (S.nd i n b d _ h1 hn (by simpa using ut) rfl h2 hm)
    rw[cJ hb];exact ho
end
structure Rl(X:Cx)(μ:List Addr)(ρ:bY)(st:List aj)(σ:St)(H:Hp):Prop where
 env:Paired (fun(o:Option W) (s:Option V)=>∀w,o=some w->∃v,s=some v/\bj X.K μ H w v) ρ σ
 sto:h_ X.K X.mg μ st H
theorem vf(h:μ <+: μ')(x:dP K H H'):∀{ρ:bY} {σ:St},Paired (fun(o:Option W) (s:Option V)=>∀w,o=some w->∃v,s=some v/\bj K μ H w v) ρ σ ->
  Paired (fun(o:Option W) (s:Option V)=>∀w,o=some w->∃v,s=some v/\bj K μ' H' w v) ρ σ
 |_,_,.nil=>.nil
 |_,_,.cons a t=>.cons (fun w e=>let ⟨v,p,q⟩:=a w e;⟨v,p,q.mono h x⟩) (vf h x t)
theorem Rl.to{ρ:bY}(r:Rl X μ ρ st σ H)(h:μ <+: μ')(x:dP X.K H H')(s:h_ X.K X.mg μ' bG H'):Rl X μ' ρ bG σ H':=⟨vf h x r.env,s⟩
theorem pJ:∀{ρ:bY} {σ:St} {i:Nat} {w:W},Paired (fun(o:Option W) (s:Option V)=>∀w,o=some w->∃v,s=some v/\bj K μ H w v) ρ σ->ρ[i]?=some (some w)->∃v,σ[i]?=some (some v)/\bj K μ H w v
 |_,_,_,_,.nil,e=>by simp at e
 |_,_,0,w,.cons a t,e=>by simp at e;obtain⟨v,p,q⟩:=a w e;exact⟨v,by simp[p],q⟩
 |_,_,i+1,w,.cons a t,e=>by simpa using pJ (i:=i) t (by simpa using e)
theorem nE{w:W}{v:V}(r:bj K μ H w v):∀{ρ:bY} {σ:St} (i:Nat),Paired (fun(o:Option W) (s:Option V)=>∀w,o=some w->∃v,s=some v/\bj K μ H w v) ρ σ ->
  Paired (fun(o:Option W) (s:Option V)=>∀w,o=some w->∃v,s=some v/\bj K μ H w v) (ρ.set i (some w)) (σ.set i (some v))
 |_,_,_,.nil=>.nil
 |_,_,0,.cons a t=>.cons (fun w' e=>⟨v,rfl,by cases e;exact r⟩) t
 |_,_,i+1,.cons a t=>.cons a (nE r i t)
structure vg(X:Cx)(pins:List (Addr×Obj))(σ:St)(c:Str)(H:Hp)(e:Value)(s:Shared):Prop where
 inv:bz X pins σ H s
 ex:∃x C t B,e=.ref x/\X.mg c=some C/\H x=none/\B.StaysIn s.heap/\B.get? x=none/\s.heap.FunFrames B X.stack /\
  (s.heap.TracedW B x C (.ref t)\/(∃oe vs,s.heap.get? x=some oe/\oe.cls=C/\oe.dict=none/\oe.data=.fields vs/\vs[1]?=some .none/\vs[0]?=some (.ref t))\/∃L,X.env.frame=some L/\s.heap.TracedAtW B x C (.ref t) (rawInt L)) /\
  ∀b o,s.heap.get? b=some o->(H b≠none\/((∃o0,X.s₀.heap.get? b=some o0)/\b∉X.fs/\b∉X.ex)\/((∃y,X.env.cells.lookup y=some b)/\b∉vV X.stack)\/∃p∈X.pn++pins,p.1=b)->B.get? b=some o
def XS(X:Cx)(c:Str)(μ:List Addr)(ρ:bY)(st:List aj)(H:Hp):Prop:=
 ∀pins μ' σ' H' e s',μ <+: μ'->dP X.K H H'->Rl X μ' ρ st σ' H'->vg X pins σ' c H' e s'->X.xe e s'
def XE(X:Cx)(c:Str)(μ:List Addr)(st:List aj)(σ:St)(H:Hp):Prop:=
 ∀pins μ' H' e s',μ <+: μ'->dP X.K H H'->h_ X.K X.mg μ' st H'->vg X pins σ c H' e s'->X.xe e s'
theorem XE.mono{c:Str}{μ1:List Addr}{H1:Hp}(h:XE X c μ st σ H)(p:μ <+: μ1)(x:dP X.K H H1):XE X c μ1 st σ H1:=fun pins μ' H' e s' a b=>h pins μ' H' e s' (p.trans a) (x.trans b)
theorem XS.mono{c:Str}{μ1:List Addr}{ρ:bY}{H1:Hp}(h:XS X c μ ρ st H)(p:μ <+: μ1)(x:dP X.K H H1):XS X c μ1 ρ st H1:=fun pins μ' σ' H' e s' a b=>h pins μ' σ' H' e s' (p.trans a) (x.trans b)
theorem XS.toE{c:Str}{ρ:bY}{VY:List aj}(h:XS X c μ ρ st H)(r:Rl X μ ρ VY σ H):XE X c μ st σ H:=fun pins μ' H' e s' a b s f=>h pins μ' σ H' e s' a b (r.to a b s) f
def RK(X:Cx)(rel:List Addr->Hp->α->β->Prop)(μ:List Addr)(σ:St)(H:Hp)(Q:β->Hp->Prop):R α->Prop
 |.ok a bG=>∀μ' b H',μ <+: μ'->dP X.K H H'->h_ X.K X.mg μ' bG H'->rel μ' H' a b->Q b H'
 |.ex c bG=>XE X c μ bG σ H
 |.bad=>False
theorem RK.mono{rel:List Addr->Hp->α->β->Prop}{μ1:List Addr}{H1:Hp}{Q:β->Hp->Prop}{r:R α}(h:RK X rel μ σ H Q r)(p:μ <+: μ1)(x:dP X.K H H1):RK X rel μ1 σ H1 Q r:=by
 cases r with
 |ok a st=>exact fun μ' b H' a1 b1=>h μ' b H' (p.trans a1) (x.trans b1)
 |ex c st=>exact XE.mono h p x
 |bad=>exact h
def tG(X:Cx)(rel:List Addr->Hp->α->β->Prop)(f:bY->List aj->R α)(σ:St)(H:Hp)(Q:β->Hp->Prop):Prop:=
 ∃μ ρ st,Rl X μ ρ st σ H/\RK X rel μ σ H Q (f ρ st)
abbrev uC(X:Cx):List Addr->Hp->W->V->Prop:=fun μ H w v=>bj X.K μ H w v
abbrev Ws(X:Cx):List Addr->Hp->List W->List V->Prop:=fun μ H w v=>RelWs X.K μ H w v
abbrev O9:List Addr->Hp->Bool->Bool->Prop:=fun _ _ a b=>a=b
abbrev tE(X:Cx)(f:FE):TE:=tG X (uC X) f
abbrev tT(X:Cx)(f:FT):TT:=tG X O9 f
abbrev Wt(X:Cx)(f:FA):TA:=tG X (Ws X) f
theorem RK.bind{α' β':Type}{rel:List Addr->Hp->α->β->Prop}{Ve:List Addr->Hp->α'->β'->Prop}{ρ:bY}{r:R α}{k:α->List aj->R α'}{Q:β'->Hp->Prop}{T:β->Hp->Prop}
  (h:RK X Ve μ σ H Q (r.bind k)) (l:Rl X μ ρ st σ H)
  (hk:∀μ' bG x v H',μ <+: μ'->dP X.K H H'->Rl X μ' ρ bG σ H'->rel μ' H' x v->RK X Ve μ' σ H' Q (k x bG)->T v H'):RK X rel μ σ H T r:=by
 cases r with
 |ok a bG=>exact fun μ' b H' p x s q=>hk μ' bG a b H' p x (l.to p x s) q (RK.mono h p x)
 |ex c bG=>exact h
 |bad=>exact h
def SK(X:Cx)(μ:List Addr)(H:Hp)(D:vW):RS->Prop
 |.nx ρ st=>∀μ' σ' H',μ <+: μ'->dP X.K H H'->Rl X μ' ρ st σ' H'->D.nx σ' H'
 |.bk ρ st=>∀μ' σ' H',μ <+: μ'->dP X.K H H'->Rl X μ' ρ st σ' H'->D.bk σ' H'
 |.ct ρ st=>∀μ' σ' H',μ <+: μ'->dP X.K H H'->Rl X μ' ρ st σ' H'->D.ct σ' H'
 |.rt w st=>∀μ' v H',μ <+: μ'->dP X.K H H'->h_ X.K X.mg μ' st H'->bj X.K μ' H' w v->D.rt v H'
 |.ex c ρ st=>XS X c μ ρ st H
 |.bad=>False
theorem SK.mono{μ1:List Addr}{H1:Hp}{D:vW}{r:RS}(h:SK X μ H D r)(p:μ <+: μ1)(x:dP X.K H H1):SK X μ1 H1 D r:=by
 cases r with
 |nx ρ st=>exact fun μ' b H' a1 b1=>h μ' b H' (p.trans a1) (x.trans b1)
 |bk ρ st=>exact fun μ' b H' a1 b1=>h μ' b H' (p.trans a1) (x.trans b1)
 |ct ρ st=>exact fun μ' b H' a1 b1=>h μ' b H' (p.trans a1) (x.trans b1)
 |rt w st=>exact fun μ' b H' a1 b1=>h μ' b H' (p.trans a1) (x.trans b1)
 |ex c ρ st=>exact XS.mono h p x
 |bad=>exact h
def VF(X:Cx)(g:FS):TS:=fun D σ H=>∃μ ρ st,Rl X μ ρ st σ H/\SK X μ H D (g ρ st)
structure SE(X:Cx)(e:Expr)(f:FE):Prop where
 h:PE X e (tE X f)
structure ST(X:Cx)(e:Expr)(f:FT):Prop where
 h:PT X e (tT X f)
structure SW(X:Cx)(e:Expr)(f:FT):Prop where
 h:PW X e (tT X f)
structure SA(X:Cx)(es:List Expr)(f:FA):Prop where
 h:PA X es (Wt X f)
structure SS(X:Cx)(s:Stmt)(g:FS):Prop where
 h:PS X s (VF X g)
structure SB(X:Cx)(s:List Stmt)(g:FS):Prop where
 h:Db X s (VF X g)
theorem PE.imp{t t':TE}(h:PE X e t)(i:∀σ H Q,t' σ H Q->t σ H Q):PE X e t':=fun pins s σ H Q I q=>h pins s σ H Q I (i _ _ _ q)
theorem PT.imp{t t':TT}(h:PT X e t)(i:∀σ H Q,t' σ H Q->t σ H Q):PT X e t':=fun pins s σ H Q I q=>h pins s σ H Q I (i _ _ _ q)
theorem PW.imp{t t':TT}(h:PW X e t)(i:∀σ H Q,t' σ H Q->t σ H Q):PW X e t':=fun wh pins s σ H Q I q=>h wh pins s σ H Q I (i _ _ _ q)
theorem PA.imp{e:List Expr}{t t':TA}(h:PA X e t)(i:∀σ H Q,t' σ H Q->t σ H Q):PA X e t':=fun pos pins s σ H Q I q=>h pos pins s σ H Q I (i _ _ _ q)
theorem PS.imp{e:Stmt}{t t':TS}(h:PS X e t)(i:∀D σ H,t' D σ H->t D σ H):PS X e t':=fun pins s σ H D I q=>h pins s σ H D I (i _ _ _ q)
theorem Db.imp{e:List Stmt}{t t':TS}(h:Db X e t)(i:∀D σ H,t' D σ H->t D σ H):Db X e t':=fun pins s σ H D I q=>h pins s σ H D I (i _ _ _ q)
section
variable{a b:Expr}{de:List Expr}{fa fb fc fe:FE}{ft fu:FT}{fs:FA}
noncomputable def af(i:Nat):FE:=fun ρ st=>match ρ[i]? with
 |some (some w)=>.ok w st
 |_=>.bad
theorem gF(i:Nat){pos:Pos}(hN:X.N[i]?=some x:=by rfl)(hv:R4 X.env.scope x:=by first|exact Or.inl rfl|exact Or.inr (Or.inl rfl)|exact Or.inr (Or.inr rfl))(hd:(x==("__debug__":Str))=false:=by decide)
  (nX:(x==("__classdict__":Str))=false:=by decide):SE X (.Name x pos) (af i):=⟨(pv i hN hv hd nX).imp fun σ H Q h=>by
 obtain⟨μ,ρ,st,r,h⟩:=h
 unfold af at h
 cases e:ρ[i]? with
 |none=>rw[e]at h;exact h.elim
 |some ow=>
  cases ow with
  |none=>rw[e]at h;exact h.elim
  |some w=>
   rw[e]at h
   obtain⟨v,e1,e2⟩:=pJ r.env e
   exact⟨v,e1,h μ v H (ah _) dP.refl r.sto e2⟩⟩
noncomputable def eC(w:W):FE:=fun _ st=>.ok w st
abbrev eI(n:Int):FE:=eC (.int n)
theorem VG{w:W}{v:V}(hc:PE X e (tC v))(hr:∀μ H,bj X.K μ H w v):SE X e (eC w):=⟨hc.imp fun σ H Q h=>by
 obtain⟨μ,ρ,st,r,h⟩:=h
 exact h μ v H (ah _) dP.refl r.sto (hr _ _)⟩
theorem nF{i:Int}:SE X (.Constant (.int i) j pos) (eC (.int i)):=VG Oc fun _ _=>.int
theorem O_{k:Bool}:SE X (.Constant (.bool k) j pos) (eC (.bl k)):=VG R6 fun _ _=>.bl
theorem Te:SE X (.Constant .none j pos) (eC .non):=VG Od fun _ _=>.non
theorem Tf(h:x=tx l:=by decide +kernel):SE X (.Constant (.str x) j pos) (eC (.str l)):=VG Oe fun _ _=>by rw[h];exact .str
noncomputable def e2(f:W->W->List aj->R W)(fa fb:FE):FE:=fun ρ st=>(fa ρ st).bind fun x st=>(fb ρ st).bind fun y st=>f x y st
def Es(X:Cx)(μ:List Addr)(H:Hp)(Q:VK):R W->Prop
 |.ok w bG=>∀μ' v H',μ <+: μ'->dP X.K H H'->h_ X.K X.mg μ' bG H'->bj X.K μ' H' w v->Q v H'
 |_=>False
def pe:R α->Prop
 |.ex _ _=>False
 |_=>True
def Tg(X:Cx)(f:W->W->List aj->R W):R2:=fun x y H Q=>∃μ st wx wy,h_ X.K X.mg μ st H/\bj X.K μ H wx x/\bj X.K μ H wy y/\Es X μ H Q (f wx wy st)
structure pf(X:Cx)(g:Value->Value->Sem Value)(f:W->W->List aj->R W):Prop where
 h:lv X g (Tg X f)
 n:∀x y st,pe (f x y st)
theorem nG{σ:St}{Q:VK}{r:R W}(h:RK X (uC X) μ σ H Q r)(n:pe r):Es X μ H Q r:=by
 cases r with
 |ok a st=>exact h
 |ex c st=>exact n.elim
 |bad=>exact h
theorem BI{Q:VK}(n:∀x y st,pe (f x y st))(h:tE X (e2 f fa fb) σ H Q):Si (Tg X f) (tE X fa) (tE X fb) σ H Q:=by
 obtain⟨μ,ρ,st,l,h⟩:=h
 refine⟨μ,ρ,st,l,RK.bind h l fun μ1 st1 x v H1 p1 x1 l1 q1 h1=>⟨μ1,ρ,st1,l1,RK.bind h1 l1 fun μ2 cV y u H2 p2 x2 l2 q2 h2=>?_⟩⟩
 exact⟨μ2,cV,x,y,l2.sto,q1.mono p2 x2,q2,nG h2 (n _ _ _)⟩
theorem Wu{op:Operator}(ho:pf X (binaryOp op) f)(ha:SE X a fa)(hb:SE X b fb):SE X (.BinOp a op b pos) (e2 f fa fb):=⟨(Sj ho.h ha.h hb.h).imp fun _ _ _ h=>BI ho.n h⟩
theorem Th(ho:pf X (compareOp op) f)(ha:SE X a fa)(hb:SE X b fb)(hm:behindInMarks op b=false:=by first|exact EI _|rfl):SE X (.Compare a [op] [b] pos) (e2 f fa fb):=⟨(JG ho.h ha.h hb.h hm).imp fun _ _ _ h=>BI ho.n h⟩
def fq(fa:FE):FT:=fun ρ st=>(fa ρ st).bind fun x st=>match x with
 |.bl k=>.ok k st
 |_=>.bad
theorem sv{Q:Bool->Hp->Prop}(h:tT X (fq fa) σ H Q):tE X fa σ H fun x H1=>∃k,x=.bl k/\Q k H1:=by
 obtain⟨μ,ρ,st,l,h⟩:=h
 refine⟨μ,ρ,st,l,RK.bind h l fun μ1 st1 x v H1 p1 x1 l1 q1 h1=>?_⟩
 cases x with
 |bl k=>exact⟨k,q1.blE,h1 μ1 k H1 (ah _) dP.refl l1.sto rfl⟩
 |_=>exact h1.elim
theorem E9(ho:pf X (compareOp op) f)(ha:SE X a fa)(hb:SE X b fb)(hm:behindInMarks op b=false:=by first|exact EI _|rfl):ST X (.Compare a [op] [b] pos) (fq (e2 f fa fb)):=⟨(JH ho.h ha.h hb.h hm).imp fun σ H Q h=>by
 have h':tE X (e2 f fa fb) σ H fun x H1=>∃k,x=.bl k/\Q k H1:=sv h
 exact BI ho.n h'⟩
theorem O'(h:SE X e fe)(he:∀uk,isTrue e X.env uk=(do let v <- uk;standAt e.pos;holding [v] (truthy v)):=by intro _;rfl):ST X e (fq fe):=⟨(Oh h.h he).imp fun σ H Q h=>sv h⟩
def LS(t u:FT):FT:=fun ρ st=>(t ρ st).bind fun k st=>if k then u ρ st else .ok false st
def xA(t u:FT):FT:=fun ρ st=>(t ρ st).bind fun k st=>if k then .ok true st else u ρ st
def xX(t:FT):FT:=fun ρ st=>(t ρ st).bind fun k st=>.ok (!k) st
theorem J8(ha:ST X a ft):SW X (.BoolOp .And [a] pos) ft:=⟨Jv ha.h⟩
theorem Pa(ha:ST X a ft):SW X (.BoolOp .Or [a] pos) ft:=⟨Oi ha.h⟩
theorem E_(ha:ST X a ft)(hb:SW X (.BoolOp .And (b::de) pos) fu):SW X (.BoolOp .And (a::b::de) pos) (LS ft fu):=⟨(Oj ha.h hb.h).imp fun σ H Q h=>by
 obtain⟨μ,ρ,st,l,h⟩:=h
 refine⟨μ,ρ,st,l,RK.bind h l fun μ1 st1 x v H1 p1 x1 l1 q1 h1=>?_⟩
 cases q1
 cases x with
 |true=>exact⟨μ1,ρ,st1,l1,h1⟩
 |false=>exact h1 μ1 false H1 (ah _) dP.refl l1.sto rfl⟩
theorem LU(ha:ST X a ft)(hb:SW X (.BoolOp .Or (b::de) pos) fu):SW X (.BoolOp .Or (a::b::de) pos) (xA ft fu):=⟨(R8 ha.h hb.h).imp fun σ H Q h=>by
 obtain⟨μ,ρ,st,l,h⟩:=h
 refine⟨μ,ρ,st,l,RK.bind h l fun μ1 st1 x v H1 p1 x1 l1 q1 h1=>?_⟩
 cases q1
 cases x with
 |false=>exact⟨μ1,ρ,st1,l1,h1⟩
 |true=>exact h1 μ1 true H1 (ah _) dP.refl l1.sto rfl⟩
theorem Ti(h:SW X e ft):ST X e ft:=⟨h.h.pt⟩
theorem Pc(ha:ST X a ft):ST X (.UnaryOp .Not a pos) (xX ft):=⟨(Ol ha.h).imp fun σ H Q h=>by
 obtain⟨μ,ρ,st,l,h⟩:=h
 refine⟨μ,ρ,st,l,RK.bind h l fun μ1 st1 x v H1 p1 x1 l1 q1 h1=>?_⟩
 cases q1
 exact h1 μ1 _ H1 (ah _) dP.refl l1.sto rfl⟩
def wa(fa fb:FE):FE:=fun ρ st=>(fa ρ st).bind fun x st=>match x with
 |.bl true=>fb ρ st
 |.bl false=>.ok (.bl false) st
 |_=>.bad
def Fa(fa:FE):FE:=fun ρ st=>(fa ρ st).bind fun x st=>match x with
 |.bl k=>.ok (.bl (!k)) st
 |_=>.bad
theorem Tj{op:BoolOp}(h:SE X a fa):SE X (.BoolOp op [a] pos) fa:=⟨Om h.h⟩
theorem Tk(ha:SE X a fa)(hb:SE X (.BoolOp .And (b::de) pos) fb):SE X (.BoolOp .And (a::b::de) pos) (wa fa fb):=⟨(On ha.h hb.h).imp fun σ H Q h=>by
 obtain⟨μ,ρ,st,l,h⟩:=h
 refine⟨μ,ρ,st,l,RK.bind h l fun μ1 st1 x v H1 p1 x1 l1 q1 h1=>?_⟩
 cases x with
 |bl k=>
  refine⟨k,q1.blE,?_⟩
  cases k with
  |true=>exact⟨μ1,ρ,st1,l1,h1⟩
  |false=>exact h1 μ1 _ H1 (ah _) dP.refl l1.sto .bl
 |_=>exact h1.elim⟩
theorem Tl(ha:SE X a fa):SE X (.UnaryOp .Not a pos) (Fa fa):=⟨(Oo ha.h).imp fun σ H Q h=>by
 obtain⟨μ,ρ,st,l,h⟩:=h
 refine⟨μ,ρ,st,l,RK.bind h l fun μ1 st1 x v H1 p1 x1 l1 q1 h1=>?_⟩
 cases x with
 |bl k=>exact⟨k,q1.blE,h1 μ1 _ H1 (ah _) dP.refl l1.sto .bl⟩
 |_=>exact h1.elim⟩
def J9(t:FT)(fa fb:FE):FE:=fun ρ st=>(t ρ st).bind fun k st=>if k then fa ρ st else fb ρ st
theorem Wv(hc:ST X c ft)(ha:SE X a fa)(hb:SE X b fb):SE X (.IfExp c a b pos) (J9 ft fa fb):=⟨(Ey hc.h ha.h hb.h).imp fun σ H Q h=>by
 obtain⟨μ,ρ,st,l,h⟩:=h
 refine⟨μ,ρ,st,l,RK.bind h l fun μ1 st1 x v H1 p1 x1 l1 q1 h1=>?_⟩
 cases q1
 cases x with
 |false=>exact⟨μ1,ρ,st1,l1,h1⟩
 |true=>exact⟨μ1,ρ,st1,l1,h1⟩⟩
def W.isNon:W->Bool
 |.non=>true
 |_=>false
def uD(fa:FE):FE:=fun ρ st=>(fa ρ st).bind fun x st=>.ok (.bl x.isNon) st
def LV(fa:FE):FE:=fun ρ st=>(fa ρ st).bind fun x st=>.ok (.bl (!x.isNon)) st
theorem Tn{w:W}{v:V}(r:bj X.K μ H w v):decide (v=.non)=w.isNon:=by
 cases w with
 |non=>rw[r.nonE];rfl
 |bl b=>rw[r.blE];rfl
 |int b=>rw[r.intE];rfl
 |str b=>rw[r.strE];rfl
 |tup b=>obtain⟨p,vs,rfl,_⟩:=r.tupE;rfl
 |loc b=>obtain⟨p,_,rfl⟩:=r.locE;rfl
theorem LW{Q:VK}(h:tE X (uD fa) σ H Q):R7 (tE X fa) σ H Q:=by
 obtain⟨μ,ρ,st,l,h⟩:=h
 refine⟨μ,ρ,st,l,RK.bind h l fun μ1 st1 x v H1 p1 x1 l1 q1 h1=>?_⟩
 show Q (.bl (decide (v=.non))) H1
 rw[Tn q1]
 exact h1 μ1 _ H1 (ah _) dP.refl l1.sto .bl
theorem To(ha:SE X a fa):SE X (.Compare a [.Is] [.Constant .none j jB] pos) (uD fa):=⟨(Of (Ex ha.h)).imp fun _ _ _ h=>LW h⟩
theorem Pe(ha:SE X a fa):ST X (.Compare a [.Is] [.Constant .none j jB] pos) (fq (uD fa)):=⟨(Og (Ex ha.h)).imp fun _ _ _ h=>LW (sv h)⟩
def av:FA:=fun _ st=>.ok [] st
def ag(fa:FE)(fs:FA):FA:=fun ρ st=>(fa ρ st).bind fun x st=>(fs ρ st).bind fun xs st=>.ok (x::xs) st
theorem j6:SA X [] av:=⟨zX.imp fun σ H Q h=>by
 obtain⟨μ,ρ,st,l,h⟩:=h
 exact h μ [] H (ah _) dP.refl l.sto .nilI⟩
theorem dG(ha:SE X e fe)(hr:SA X es fs)(hs:starEach (e::es) X.env=(false,eval e X.env)::starEach es X.env:=by rfl):SA X (e::es) (ag fe fs):=⟨(rK ha.h hr.h hs).imp fun σ H Q h=>by
 obtain⟨μ,ρ,st,l,h⟩:=h
 refine⟨μ,ρ,st,l,RK.bind h l fun μ1 st1 x v H1 p1 x1 l1 q1 h1=>⟨μ1,ρ,st1,l1,RK.bind h1 l1 fun μ2 cV xs vs H2 p2 x2 l2 q2 h2=>?_⟩⟩
 exact h2 μ2 _ H2 (ah _) dP.refl l2.sto (.consI (q1.mono p2 x2) q2)⟩
def Tp(zs:List (List Nat)):FA:=fun _ st=>.ok (zs.map W.str) st
def nH(ws:List W)(st:List aj):R W:=if ws.length<=ji then .ok (.tup ws) st else .bad
def nI(ws:List W)(st:List aj):R W:=if ws.length<=ji then .ok (.loc st.length) (st++[.lst ws])else .bad
def cP(fs:FA):FE:=fun ρ st=>(fs ρ st).bind fun ws st=>nH ws st
def kG(fs:FA):FE:=fun ρ st=>(fs ρ st).bind fun ws st=>nI ws st
theorem h_.newLst(S:h_ K mg μ st H){p:Addr}(hp:H p=none)(r:RelWs K μ H ws vs):h_ K mg (μ++[p]) (st++[.lst ws]) (eR H p (.lst vs)):=
 S.push hp ⟨vs,eX,r.mono (ax _ _) (eF.same (cx hp _))⟩
theorem mj(S:h_ K mg μ st H){p:Addr}:bj K (μ++[p]) H' (.loc st.length) (.ref p):=.locI (by rw[S.len];simp)
theorem Fb{Q:VK}(S:h_ X.K X.mg μ st H)(q:RelWs X.K μ H ws vs)(h:RK X (uC X) μ σ H Q (nH ws st)):vs.length<=sizeLine/\∀p H2,H p=none->H2=eR H p (.tup vs)->Q (.ref p) H2:=by
 unfold nH at h
 by_cases hz:ws.length<=ji
 ·rw[ar hz]at h
  refine⟨by rw[<- q.len];exact i_ hz,fun p H2 hp e=>?_⟩
  subst e
  have x:=eF.same (K:=X.K) (cx hp (.tup vs))
  exact h μ _ _ (ah _) x (S.same (cx hp _)) (.tupI eF.new (q.mono (ah _) x))
 ·rw[az hz]at h;exact h.elim
theorem sw{σ:St}{Q:VK}(S:h_ X.K X.mg μ st H)(q:RelWs X.K μ H ws vs)(h:RK X (uC X) μ σ H Q (nI ws st)):vs.length<=sizeLine/\∀p H2,H p=none->H2=eR H p (.lst vs)->Q (.ref p) H2:=by
 unfold nI at h
 by_cases hz:ws.length<=ji
 ·rw[ar hz]at h
  refine⟨by rw[<- q.len];exact i_ hz,fun p H2 hp e=>?_⟩
  subst e
  exact h (μ++[p]) _ _ (ax _ _) (eF.same (cx hp _)) (S.newLst hp q) (mj S)
 ·rw[az hz]at h;exact h.elim
theorem xY{k:Nat}(h:SA X es fs):SE X (.Tuple es k pos) (cP fs):=⟨(J2 h.h).imp fun σ H Q h=>by
 obtain⟨μ,ρ,st,l,h⟩:=h
 exact⟨μ,ρ,st,l,RK.bind h l fun μ1 st1 x v H1 p1 x1 l1 q1 h1=>Fb l1.sto q1 h1⟩⟩
theorem LX(h:SA X es fs):SE X (.List es pos) (kG fs):=⟨(J3 h.h).imp fun σ H Q h=>by
 obtain⟨μ,ρ,st,l,h⟩:=h
 exact⟨μ,ρ,st,l,RK.bind h l fun μ1 st1 x v H1 p1 x1 l1 q1 h1=>sw l1.sto q1 h1⟩⟩
end
section
theorem jP{Q:VK}{i:Int}(S:h_ X.K X.mg μ st H)(h:Es X μ H Q (.ok (.int i) st)):Q (.int i) H:=h μ _ H (ah _) dP.refl S .int
theorem ik{Q:VK}{i:Bool}(S:h_ X.K X.mg μ st H)(h:Es X μ H Q (.ok (.bl i) st)):Q (.bl i) H:=h μ _ H (ah _) dP.refl S .bl
theorem pK{Q:VK}{i:List Nat}(S:h_ X.K X.mg μ st H)(h:Es X μ H Q (.ok (.str i) st)):Q (.str (tx i)) H:=h μ _ H (ah _) dP.refl S .str
theorem Pf{Q:VK}{r:R W}(h:Es X μ H Q r):RK X (uC X) μ σ H Q r:=by
 cases r with
 |ok a st=>exact h
 |ex c st=>exact h.elim
 |bad=>exact h
def DC(C:Int->Int->Prop)[∀i j,Decidable (C i j)](f:Int->Int->Int):W->W->List aj->R W
 |.int i,.int j,st=>if C i j then .ok (.int (f i j)) st else .bad
 |_,_,_=>.bad
theorem xZ{C':Int->Int->Prop}[∀i j,Decidable (C' i j)]{f:Int->Int->Int}(h:lv X g (rI C fun i j=>.int (f i j)))(hC:∀i j,C' i j->C i j):pf X g (DC C' f):=⟨h.imp fun x y H Q ⟨μ,st,wx,wy,S,rx,ry,q⟩=>by
 cases wx with
 |int i=>
  cases wy with
  |int j=>
   simp only[DC]at q
   by_cases c:C' i j
   ·rw[ar c]at q;exact⟨i,j,rx.intE,ry.intE,hC i j c,jP S q⟩
   ·rw[az c]at q;exact q.elim
  |_=>exact q.elim
 |_=>cases wy<;>exact q.elim,fun x y st=>by
 unfold DC
 split
 ·split<;>trivial
 ·trivial⟩
def DD(f:Int->Int->Bool):W->W->List aj->R W
 |.int i,.int j,st=>.ok (.bl (f i j)) st
 |_,_,_=>.bad
theorem Fc{f:Int->Int->Bool}(h:lv X g (EF fun i j=>.bl (f i j))):pf X g (DD f):=⟨h.imp fun x y H Q ⟨μ,st,wx,wy,S,rx,ry,q⟩=>by
 cases wx with
 |int i=>
  cases wy with
  |int j=>exact⟨i,j,rx.intE,ry.intE,ik S q⟩
  |_=>exact q.elim
 |_=>cases wy<;>exact q.elim,fun x y st=>by
 unfold DD
 split<;>trivial⟩
abbrev x5(i j:Int):Prop:=(-(2^64)<i/\i<2^64)\/(-(2^64)<j/\j<2^64)
abbrev qu:=DC (fun _ _=>True) fun i j=>i-j
abbrev Tq:=DC x5 fun i j=>i*j
abbrev eU:=DC (fun _ j=>0<j) fun i j=>i%j
abbrev pL:=DC (fun _ j=>0<j/\j<1073741824) fun i j=>i/j
abbrev Tr:=DC (fun i j=>0<=j/\j<=1000000/\i.natAbs<2^64) fun i j=>i^j.toNat
abbrev x6:=DC (fun i j=>0<=j/\j<=1000000/\i.natAbs<2^64) fun i j=>i*2^j.toNat
abbrev DE:=DC (fun _ j=>0<=j) fun i j=>i/2^j.toNat
abbrev BJ:=DC (fun _ _=>True) fun i j=>Builtin.bitAnd i j
theorem Fd{f:Int->Int->V}(h:lv X g (EF f)):lv X g (rI (fun _ _=>True) f):=h.imp fun _ _ _ _ ⟨i,j,a,b,_,q⟩=>⟨i,j,a,b,q⟩
theorem Ts:pf X (binaryOp .Sub) qu:=xZ (Fd OC) fun _ _ _=>trivial
theorem Tt:pf X (binaryOp .Mult) Tq:=xZ OD fun _ _ h=>h
theorem Tu:pf X (binaryOp .Mod) eU:=xZ OE fun _ _ h=>h
theorem Pg:pf X (binaryOp .FloorDiv) pL:=xZ JF fun _ _ h=>h
theorem Tv:pf X (binaryOp .Pow) Tr:=xZ OF fun _ _ h=>h
theorem Tw:pf X (binaryOp .LShift) x6:=xZ EG fun _ _ h=>h
theorem Tx:pf X (binaryOp .RShift) DE:=xZ OG fun _ _ h=>h
theorem Ph:pf X (binaryOp .BitAnd) BJ:=xZ (Fd OH) fun _ _ _=>trivial
noncomputable def dE:W->W->List aj->R W
 |.int i,.int j,st=>.ok (.int (i+j)) st
 |.str a,.str b,st=>if a.length+b.length<=ji then .ok (.str (a++b)) st else .bad
 |.tup a,.tup b,st=>nH (a++b) st
 |.loc n,.loc m,st=>match st[n]?,st[m]? with
  |some (.lst a),some (.lst b)=>nI (a++b) st
  |_,_=>.bad
 |_,_,_=>.bad
theorem J_(ws:List W)(st:List aj):pe (nH ws st):=by unfold nH;split<;>trivial
theorem J'(ws:List W)(st:List aj):pe (nI ws st):=by unfold nI;split<;>trivial
theorem Tz:pf X (binaryOp .Add) dE:=⟨fun pins s σ H x y v u Q I rv ru ⟨μ,st,wx,wy,S,rx,ry,q⟩=>by
 cases wx with
 |int i=>
  cases wy with
  |int j=>exact OB pins s σ H x y v u Q I rv ru ⟨i,j,rx.intE,ry.intE,jP S q⟩
  |_=>exact q.elim
 |str a=>
  cases wy with
  |str b=>
   simp only[dE]at q
   by_cases c:a.length+b.length<=ji
   ·rw[ar c]at q
    exact zW pins s σ H x y v u Q I rv ru ⟨_,_,rx.strE,ry.strE,by rw[jv,jv];exact i_ c,by rw[Ad];exact pK S q⟩
   ·rw[az c]at q;exact q.elim
  |_=>exact q.elim
 |tup a=>
  cases wy with
  |tup b=>
   obtain⟨p1,vs1,rfl,h1,r1⟩:=rx.tupE
   obtain⟨p2,vs2,rfl,h2,r2⟩:=ry.tupE
   have q':Es X μ H Q (nH (a++b) st):=q
   unfold nH at q'
   by_cases c:(a++b).length<=ji
   ·rw[ar c]at q'
    refine O6.h pins s σ H _ _ v u Q I rv ru ⟨p1,p2,vs1,vs2,rfl,rfl,h1,h2,by rw[<- r1.len,<- r2.len,<- aB];exact i_ c,fun p H2 e t=>?_⟩
    exact q' μ _ _ (ah _) (eF.same e) (S.same e) (.tupI t ((r1.app r2).mono (ah _) (eF.same e)))
   ·rw[az c]at q';exact q'.elim
  |_=>exact q.elim
 |loc n=>
  cases wy with
  |loc m=>
   simp only[dE]at q
   cases e1:st[n]? with
   |none=>rw[e1]at q;exact q.elim
   |some c1=>
    cases e2:st[m]? with
    |none=>rw[e1,e2]at q;cases c1<;>exact q.elim
    |some c2=>
     cases c1 with
     |lst a=>
      cases c2 with
      |lst b=>
       rw[e1,e2]at q
       obtain⟨a1,g1,vs1,k1,r1⟩:=S.get e1
       obtain⟨a2,g2,vs2,k2,r2⟩:=S.get e2
       obtain⟨b1,f1,rfl⟩:=rx.locE
       obtain⟨b2,f2,rfl⟩:=ry.locE
       rw[g1]at f1;cases f1
       rw[g2]at f2;cases f2
       obtain⟨hz,qq⟩:=sw (σ:=σ) S (r1.app r2) (Pf q)
       exact J6 pins s σ H _ _ v u Q I rv ru ⟨a1,a2,vs1,vs2,rfl,rfl,k1,k2,by rw[<- aB];exact hz,qq⟩
      |_=>rw[e1,e2]at q;exact q.elim
     |_=>rw[e1,e2]at q;exact q.elim
  |_=>exact q.elim
 |_=>cases wy<;>exact q.elim,fun x y st=>by
 unfold dE
 split
 ·trivial
 ·split<;>trivial
 ·exact J_ _ _
 ·split
  ·exact J' _ _
  ·trivial
 ·trivial⟩
abbrev DF:=DD fun i j=>decide (i<j)
abbrev Ai:=DD fun i j=>decide (j<i)
abbrev TB:=DD fun i j=>decide (j<=i)
theorem w_lt:pf X (compareOp .Lt) DF:=Fc Sl
theorem Fe:pf X (compareOp .Gt) Ai:=Fc Sn
theorem Ka:pf X (compareOp .GtE) TB:=Fc So
end
mutual
noncomputable def jQ:W->W->Option Bool
 |.non,.non=>some true
 |.bl a,.bl b=>some (a==b)
 |.bl a,.int b=>some ((if a then 1 else 0)==b)
 |.int a,.bl b=>some (a==(if b then 1 else 0))
 |.int a,.int b=>some (a==b)
 |.str a,.str b=>some (a==b)
 |.tup a,.tup b=>eqWs a b
 |.loc _,_=>none
 |.non,.loc _=>none
 |.bl _,.loc _=>none
 |.int _,.loc _=>none
 |.str _,.loc _=>none
 |.tup _,.loc _=>none
 |.non,.bl _=>some false
 |.non,.int _=>some false
 |.non,.str _=>some false
 |.non,.tup _=>some false
 |.bl _,.non=>some false
 |.bl _,.str _=>some false
 |.bl _,.tup _=>some false
 |.int _,.non=>some false
 |.int _,.str _=>some false
 |.int _,.tup _=>some false
 |.str _,.non=>some false
 |.str _,.bl _=>some false
 |.str _,.int _=>some false
 |.str _,.tup _=>some false
 |.tup _,.non=>some false
 |.tup _,.bl _=>some false
 |.tup _,.int _=>some false
 |.tup _,.str _=>some false
noncomputable def eqWs:List W->List W->Option Bool
 |[],[]=>some true
 |[],_::_=>some false
 |_::_,[]=>some false
 |x::xs,y::ys=>match jQ x y,eqWs xs ys with
  |some a,some b=>some (a&&b)
  |_,_=>none
end
mutual
def W.dep:W->Nat
 |.tup ws=>depWs ws+1
 |_=>0
def depWs:List W->Nat
 |[]=>0
 |w::ws=>max w.dep (depWs ws)
end
theorem ph:∀(xs ys:List W) (b:Bool),eqWs xs ys=some b->∃e:Nat->Bool,(∀j (h1:j<xs.length) (h2:j<ys.length),jQ xs[j] ys[j]=some (e j))/\((List.range (min xs.length ys.length)).all e&&xs.length==ys.length)=b
 |[],[],b,h=>by unfold eqWs at h;cases h;exact⟨fun _=>true,fun j h1=>absurd h1 (cO _),rfl⟩
 |[],y::ys,b,h=>by unfold eqWs at h;cases h;exact⟨fun _=>true,fun j h1=>absurd h1 (cO _),by simp⟩
 |x::xs,[],b,h=>by unfold eqWs at h;cases h;exact⟨fun _=>true,fun j _ h1=>absurd h1 (cO _),by simp⟩
 |x::xs,y::ys,b,h=>by
  unfold eqWs at h
  cases e1:jQ x y with
  |none=>rw[e1]at h;simp at h
  |some a=>
   cases e2:eqWs xs ys with
   |none=>rw[e1,e2]at h;simp at h
   |some c=>
    rw[e1,e2]at h
    simp at h
    obtain⟨e,he,hb⟩:=ph xs ys c e2
    refine⟨fun j=>match j with|0=>a|j+1=>e j,fun j h1 h2=>?_,?_⟩
    ·cases j with
     |zero=>exact e1
     |succ j=>exact he j (iO h1) (iO h2)
    ·have m:min (x::xs).length (y::ys).length=min xs.length ys.length+1:=by simp only[bv];omega
     rw[m,mN,oU,List.all_map,<- h,<- hb]
     simp[eA,Bool.and_assoc]
theorem BK{a b:W}{x:V}{k:Bool}(hn:a.dep<=0)(ra:bj X.K μ H a x)(rb:bj X.K μ H b x)(he:jQ a b=some k):k=true:=by
 cases a with
 |tup i=>unfold W.dep at hn;omega
 |non=>cases ra.nonE;cases b<;>first|(unfold jQ at he;cases he;rfl)|cases rb.blE|cases rb.intE|cases rb.strE|(obtain⟨_,_,z,_⟩:=rb.tupE;cases z)|(unfold jQ at he;cases he)
 |bl i=>cases ra.blE;cases b<;>first|(cases rb.blE;unfold jQ at he;simp at he;exact he)|cases rb.nonE|cases rb.intE|cases rb.strE|(obtain⟨_,_,z,_⟩:=rb.tupE;cases z)|(unfold jQ at he;cases he)
 |int i=>cases ra.intE;cases b<;>first|(cases rb.intE;unfold jQ at he;simp at he;exact he)|cases rb.nonE|cases rb.blE|cases rb.strE|(obtain⟨_,_,z,_⟩:=rb.tupE;cases z)|(unfold jQ at he;cases he)
 |str i=>cases ra.strE;cases b<;>first|(have z:=rb.strE;injection z with z;rw[EX.mp z]at he;unfold jQ at he;simp at he;exact he)|cases rb.nonE|cases rb.blE|cases rb.intE|(obtain⟨_,_,z,_⟩:=rb.tupE;cases z)|(unfold jQ at he;cases he)
 |loc i=>cases b<;>(unfold jQ at he;cases he)
theorem Ff(I:bz X pins σ H s):∀(n:Nat) (a b:W) (x:V) (k:Bool),a.dep<=n->bj X.K μ H a x->bj X.K μ H b x->jQ a b=some k->k=true:=by
 intro n
 induction n with
 |zero=>exact fun a b x k hn ra rb he=>BK hn ra rb he
 |succ n ih=>
  intro a b x k hn ra rb he
  cases a with
  |tup i=>
   obtain⟨p',Bi,rfl,hS',r'⟩:=ra.tupE
   cases b with
   |tup z=>
    obtain⟨p,vs,e,hS,r⟩:=rb.tupE
    cases e
    obtain rfl:=I.tuple_inj hS hS'
    have he':eqWs i z=some k:=by unfold jQ at he;exact he
    have dn:depWs i<=n:=by unfold W.dep at hn;omega
    have key:∀(i z:List W) (vs:List V) (k:Bool),depWs i<=n->RelWs X.K μ H i vs->RelWs X.K μ H z vs->eqWs i z=some k->k=true:=by
     intro i
     induction i with
     |nil=>
      intro z vs k _ r' r he
      have e1:=r'.nilE
      subst e1
      cases z with
      |nil=>unfold eqWs at he;cases he;rfl
      |cons _ _=>have e2:=r.len;simp at e2
     |cons w i ih2=>
      intro z vs k dn r' r he
      obtain⟨x,xs,rfl,rx,rxs⟩:=r'.consE
      cases z with
      |nil=>have e2:=r.len;simp at e2
      |cons y z=>
       obtain⟨x2,xs2,e3,ry,rys⟩:=r.consE
       cases e3
       unfold eqWs at he
       cases e1:jQ w y with
       |none=>rw[e1]at he;simp at he
       |some k1=>
        cases e2:eqWs i z with
        |none=>rw[e1,e2]at he;simp at he
        |some k2=>
         rw[e1,e2]at he
         simp at he
         unfold depWs at dn
         have q1:=ih w y x k1 (by omega) rx ry e1
         have q2:=ih2 z xs k2 (by omega) rxs rys e2
         rw[<- he,q1,q2];rfl
    exact key i z _ k dn r' r he'
   |non=>cases rb.nonE
   |bl z=>cases rb.blE
   |int z=>cases rb.intE
   |str z=>cases rb.strE
   |loc z=>unfold jQ at he;cases he
  |_=>exact BK (aw _) ra rb he
theorem qv:∀{ws:List W} {j:Nat} (h:j<ws.length),ws[j].dep<=depWs ws
 |w::ws,0,_=>by unfold depWs;exact Nat.le_max_left _ _
 |w::ws,j+1,h=>by unfold depWs;exact aR (qv (j:=j) (iO h)) (Nat.le_max_right _ _)
inductive Sh(s:Shared):W->Value->Prop
 |non:Sh s .non .none
 |bl (b:Bool):Sh s (.bl b) (.bool b)
 |int (i:Int) (t:Tok):Sh s (.int i) (.int i t)
 |str (l:List Nat) (t:Tok):Sh s (.str l) (.str (tx l) t)
 |tup (ws:List W) (p:Addr) (bn:List Value) (h:IsTup s.heap p bn.toArray):Sh s (.tup ws) (.ref p)
 |loc (n:Nat) (u:Value):Sh s (.loc n) u
section
theorem qV(I:bz X pins σ H s){a:W}{x:V}(ra:bj X.K μ H a x)(ru:bL x u):Sh s a u:=by
 cases a with
 |non=>cases ra.nonE;cases ru;exact .non
 |bl i=>cases ra.blE;cases ru;exact .bl _
 |int i=>cases ra.intE;obtain⟨t,rfl⟩:=ru;exact .int _ _
 |str i=>cases ra.strE;obtain⟨t,rfl⟩:=ru;exact .str _ _
 |tup i=>obtain⟨p,vs,rfl,hS,_⟩:=ra.tupE;cases ru;obtain⟨bn,_,ht,_⟩:=I.tuple hS;exact .tup _ _ _ ht
 |loc i=>exact .loc _ _
open SeqAt.EqAt in
theorem BL{a b:W}{k:Bool}(ha:Sh s a u)(hb:Sh s b v)(hu:A.units<cLine)(ht:b.dep=0\/a.dep=0)(he:jQ a b=some k):SeqAt.EqAt A s u v k:=by
 cases ha<;>cases hb<;>first
  |(unfold jQ at he;cases he;done)
  |(unfold jQ at he;cases he;with_reducible first|exact same _|exact bool_none _|exact bool_bool _ _|exact bool_int _ _ _|exact bool_str _ _ _|exact int_none _ _|exact int_bool _ _ _|exact int_int _ _ _ _|exact int_str _ _ _ _|exact str_none _ _|exact str_bool _ _ _|exact str_int _ _ _ _|exact none_bool _|exact none_int _ _|exact none_str _ _)
  |(unfold jQ at he;cases he;(with_reducible first|refine' bool_tuple _ ?_ hu|refine' int_tuple _ _ ?_ hu|refine' str_tuple _ _ ?_ hu|refine' tuple_none ?_ hu|refine' tuple_bool _ ?_ hu|refine' tuple_int _ _ ?_ hu|refine' tuple_str _ _ ?_ hu|refine' none_tuple ?_ hu);rotate_left;assumption)
  |(unfold W.dep at ht;omega)
  |skip
 rename_i i t z r
 unfold jQ at he;cases he
 have:=str_str (A:=A) (s:=s) (tx i) t (tx z) r
 rw[<- oV]at this
 exact this
open SeqAt.RcAt in
theorem Kb{a b:W}{k:Bool}(ha:Sh s a u)(hb:Sh s b v)(hu:A.units<cLine)(ht:b.dep=0\/a.dep=0)(he:jQ a b=some k):SeqAt.RcAt A s u v k:=by
 cases ha<;>cases hb<;>first
  |(unfold jQ at he;cases he;done)
  |(unfold jQ at he;cases he;with_reducible first|exact none_none|exact bool_none _|exact bool_bool _ _|exact bool_int _ _ _|exact bool_str _ _ _|exact int_none _ _|exact int_bool _ _ _|exact int_int _ _ _ _|exact int_str _ _ _ _|exact str_none _ _|exact str_bool _ _ _|exact str_int _ _ _ _|exact none_bool _|exact none_int _ _|exact none_str _ _)
  |(unfold jQ at he;cases he;(with_reducible first|refine' bool_tuple _ ?_ hu|refine' int_tuple _ _ ?_ hu|refine' str_tuple _ _ ?_ hu|refine' tuple_none ?_ hu|refine' tuple_bool _ ?_ hu|refine' tuple_int _ _ ?_ hu|refine' tuple_str _ _ ?_ hu|refine' none_tuple ?_ hu);rotate_left;assumption)
  |(unfold W.dep at ht;omega)
  |skip
 rename_i i t z r
 unfold jQ at he;cases he
 have:=str_str (A:=A) (s:=s) (tx i) t (tx z) r
 rw[<- oV]at this
 exact this
open SeqAt.RcNeAt in
theorem DG         {a b:W}  {k:Bool} (ha : Sh s a u) (hb : Sh s b v) (hu : A.units < cLine) (ht : b.dep = 0 \/ a.dep = 0) (he : jQ  a b = some k) : SeqAt.RcNeAt A s u v (!k) := by
  cases ha <;> cases hb <;> first
    | (unfold jQ  at he; cases he; done)
    | (unfold jQ  at he; cases he; try simp only [dX           , kA            ]
       with_reducible first | exact none_none | exact bool_none _ | exact bool_bool _ _ | exact bool_int _ _ _ | exact bool_str _ _ _ | exact int_none _ _ | exact int_bool _ _ _ | exact int_int _ _ _ _ | exact int_str _ _ _ _ | exact str_none _ _ | exact str_bool _ _ _ | exact str_int _ _ _ _ | exact none_bool _ | exact none_int _ _ | exact none_str _ _)
    | (unfold jQ  at he; cases he; try simp only [dX           , kA            ]
       (with_reducible first | refine' bool_tuple _ ?_ hu | refine' int_tuple _ _ ?_ hu | refine' str_tuple _ _ ?_ hu | refine' tuple_none ?_ hu | refine' tuple_bool _ ?_ hu | refine' tuple_int _ _ ?_ hu | refine' tuple_str _ _ ?_ hu | refine' none_tuple ?_ hu); rotate_left; assumption)
    | (unfold W.dep at ht; omega)
    | skip
  rename_i i t z r
  unfold jQ  at he; cases he
  have := str_str (A := A) (s := s) (tx i) t (tx z) r
  rw [<- oV           ] at this
  exact this
theorem x8{i z:List W}{Bi:List V}{bn its':List Value}{e:Nat->Bool}{A:Around}(ih:∀(a b:W) (A:Around) (x y:V) (u v:Value) (k:Bool),a.dep<=m->bj X.K μ H a x->bj X.K μ H b y->bL x u->bL y v->A.units+m<cLine->jQ a b=some k->SeqAt.EqAt A s u v k)
  (r':RelWs X.K μ H i Bi) (r:RelWs X.K μ H z vs) (w':cv Bi its') (w:cv vs bn) (hd:depWs i<=m) (hu:A.units+1+m<cLine) (h1:∀j (h1:j<i.length) (h2:j<z.length),jQ i[j] z[j]=some (e j)):∀j (j1:j<its'.toArray.size) (j2:j<bn.toArray.size),SeqAt.EqAt A.in1 s its'.toArray[j] bn.toArray[j] (e j):=fun j j1 j2=>by
 have j1':j<i.length:=by rw[r'.len,w'.length];simpa using j1
 have j2':j<z.length:=by rw[r.len,w.length];simpa using j2
 obtain⟨x1,g1,q1⟩:=r'.get (aa j1')
 obtain⟨x2,g2,q2⟩:=r.get (aa j2')
 obtain⟨u1,f1,v1⟩:=w'.get g1
 obtain⟨u2,f2,v2⟩:=w.get g2
 have E:=ih i[j] z[j] A.in1 x1 x2 u1 u2 (e j) (aR (qv j1') hd) q1 q2 v1 v2 hu (h1 j j1' j2')
 have t1:its'.toArray[j]=u1:=by simpa using (ac.mp f1).2
 have t2:bn.toArray[j]=u2:=by simpa using (ac.mp f2).2
 rw[t1,t2];exact E
theorem Fg(I:bz X pins σ H s):∀(n:Nat) (a b:W) (A:Around) (x y:V) (u v:Value) (k:Bool),a.dep<=n->bj X.K μ H a x->bj X.K μ H b y->bL x u->bL y v->A.units+n<cLine->jQ a b=some k->SeqAt.EqAt A s u v k:=by
 intro n
 induction n with
 |zero=>exact fun a b A x y u v k hn ra rb ru rv hu he=>BL (qV I ra ru) (qV I rb rv) hu (.inr (by omega)) he
 |succ m ih=>
  intro a b A x y u v k hn ra rb ru rv hu he
  by_cases hb:b.dep=0\/a.dep=0
  ·exact BL (qV I ra ru) (qV I rb rv) (by omega) hb he
  ·cases b with
   |tup z=>
    cases a with
    |tup i=>
     obtain⟨p',Bi,rfl,hS',r'⟩:=id ra.tupE;cases ru;obtain⟨its',w',ht',_⟩:=I.tuple hS'
     obtain⟨p,vs,rfl,hS,r⟩:=id rb.tupE;cases rv;obtain⟨bn,w,ht,_⟩:=I.tuple hS
     by_cases hpp:p'=p
     ·subst hpp
      rw[Ff I (m+1) (.tup i) (.tup z) (.ref p') k hn ra rb he]
      exact SeqAt.EqAt.same _
     ·obtain⟨e,h1,h2⟩:=ph i z k (by unfold jQ at he;exact he)
      have R:=SeqAt.RcAt.tuples (A:=A) (e:=e) ht' ht (by omega) (x8 ih r' r w' w (by unfold W.dep at hn;omega) (by omega) h1)
      rw[show its'.toArray.size=i.length by simp[<- w'.length,<- r'.len],show bn.toArray.size=z.length by simp[<- w.length,<- r.len],h2]at R
      exact SeqAt.EqAt.of_refs hpp R
    |_=>exact(hb (.inr rfl)).elim
   |_=>exact(hb (.inl rfl)).elim
theorem Fh(I:bz X pins σ H s){a b:W}{x:V}{k:Bool}(hn:b.dep=0\/a.dep<=n)(ra:bj X.K μ H a x)(rb:bj X.K μ H b y)(ru:bL x u)(rv:bL y v)(hu:A.units+n<cLine)(he:jQ a b=some k):SeqAt.RcAt A s u v k/\SeqAt.RcNeAt A s u v (!k):=by
 by_cases hb:b.dep=0\/a.dep=0
 ·exact⟨Kb (qV I ra ru) (qV I rb rv) (by omega) hb he,DG (qV I ra ru) (qV I rb rv) (by omega) hb he⟩
 cases b with
 |tup z=>
  cases a with
  |tup i=>
   obtain⟨p',Bi,rfl,hS',r'⟩:=ra.tupE;cases ru;obtain⟨its',w',ht',_⟩:=I.tuple hS'
   obtain⟨p,vs,rfl,hS,r⟩:=rb.tupE;cases rv;obtain⟨bn,w,ht,_⟩:=I.tuple hS
   obtain⟨e,h1,h2⟩:=ph i z k (by unfold jQ at he;exact he)
   have hd:depWs i+1<=n:=hn.elim (fun z=>(hb (.inl z)).elim) id
   obtain⟨m,rfl⟩:∃m,n=m+1:=⟨n-1,by omega⟩
   have T:=x8 (A:=A) (Fg I m) r' r w' w (by omega) (by omega) h1
   have R:=SeqAt.RcAt.tuples (A:=A) (e:=e) ht' ht (by omega) T
   have R2:=SeqAt.RcNeAt.tuples (A:=A) (e:=e) ht' ht (by omega) T
   rw[show its'.toArray.size=i.length by simp[<- w'.length,<- r'.len],show bn.toArray.size=z.length by simp[<- w.length,<- r.len],h2]at R R2
   exact⟨R,R2⟩
  |_=>exact(hb (.inr rfl)).elim
 |_=>exact(hb (.inl rfl)).elim
end
def lw:W->W->List aj->R W:=fun x y st=>match jQ x y with
 |some k=>if y.dep=0\/x.dep<=64 then .ok (.bl k) st else .bad
 |none=>.bad
theorem Kc{k:Nat}(hr:gT k X.A):pf X (compareOp .Eq) lw:=⟨fun pins s σ H x y v u Q I rv ru ⟨μ,st,wx,wy,S,rx,ry,q⟩=>by
 unfold lw at q
 cases e:jQ wx wy with
 |none=>rw[e]at q;exact q.elim
 |some b=>
  rw[e]at q
  simp only at q
  by_cases c:wy.dep=0\/wx.dep<=64
  ·rw[ar c]at q
   have:=hr.units
   exact(Fh I c rx ry rv ru this e).1 X.prog X.w X.xe _ ⟨.bl b,H,I,rfl,ik S q⟩
  ·rw[az c]at q;exact q.elim,fun x y st=>by
 unfold lw
 split
 ·split<;>trivial
 ·trivial⟩
def Aj:W->W->List aj->R W:=fun x y st=>match jQ x y with
 |some k=>if y.dep=0\/x.dep<=64 then .ok (.bl (!k)) st else .bad
 |none=>.bad
theorem Kd{k:Nat}(hr:gT k X.A):pf X (compareOp .NotEq) Aj:=⟨fun pins s σ H x y v u Q I rv ru ⟨μ,st,wx,wy,S,rx,ry,q⟩=>by
 unfold Aj at q
 cases e:jQ wx wy with
 |none=>rw[e]at q;exact q.elim
 |some b=>
  rw[e]at q
  simp only at q
  by_cases c:wy.dep=0\/wx.dep<=64
  ·rw[ar c]at q
   have:=hr.units
   exact(Fh I c rx ry rv ru this e).2 X.prog X.w X.xe _ ⟨.bl (!b),H,I,rfl,ik S q⟩
  ·rw[az c]at q;exact q.elim,fun x y st=>by
 unfold Aj
 split
 ·split<;>trivial
 ·trivial⟩
def rB(x:W):List W->Option Bool
 |[]=>some false
 |y::ys=>match jQ y x,rB x ys with
  |some a,some b=>some (a||b)
  |_,_=>none
noncomputable def sA(neg:Bool)(x y:W)(st:List aj):R W:=match y with
 |.str l=>(match x with
  |.str [c]=>.ok (.bl (if neg then !decide (c∈l)else decide (c∈l))) st
  |_=>.bad)
 |.tup ys=>(match rB x ys with
  |some k=>if depWs ys<=63 then .ok (.bl (if neg then !k else k)) st else .bad
  |none=>.bad)
 |.loc n=>(match st[n]? with
  |some (.lst ys)=>(match rB x ys with
   |some k=>if depWs ys<=63 then .ok (.bl (if neg then !k else k)) st else .bad
   |none=>.bad)
  |_=>.bad)
 |_=>.bad
theorem x9{x:W}:∀{ys:List W} {k:Bool},rB x ys=some k->(∀(j:Nat) w,ys[j]?=some w->∃b,jQ w x=some b)/\(k=true↔∃(j:Nat) (w:W),ys[j]?=some w/\jQ w x=some true)
 |[],k,h=>by
  unfold rB at h;cases h
  exact⟨fun j w e=>by simp at e,fun z=>(by cases z),fun⟨j,w,e,_⟩=>(by simp at e)⟩
 |y::ys,k,h=>by
  unfold rB at h
  cases e1:jQ y x with
  |none=>rw[e1]at h;simp at h
  |some a=>
   cases e2:rB x ys with
   |none=>rw[e1,e2]at h;simp at h
   |some b=>
    rw[e1,e2]at h
    simp at h
    obtain⟨q1,q2⟩:=x9 e2
    refine⟨fun j w e=>?_,fun z=>?_,fun⟨j,w,e,f⟩=>?_⟩
    ·cases j with
     |zero=>simp at e;subst e;exact⟨a,e1⟩
     |succ j=>exact q1 j w (by simpa using e)
    ·rw[<- h]at z
     cases a with
     |true=>exact⟨0,y,rfl,e1⟩
     |false=>
      obtain⟨j,w,p,q⟩:=q2.mp (by simpa using z)
      exact⟨j+1,w,by simpa using p,q⟩
    ·rw[<- h]
     cases j with
     |zero=>simp at e;subst e;rw[e1]at f;cases f;rfl
     |succ j=>rw[q2.mpr ⟨j,w,by simpa using e,f⟩];simp
theorem ml(I:bz X pins σ H s){wx:W}{x:V}(rx:bj X.K μ H wx x)(rv:bL x v)(n:Nat){A:Around}(hu:A.units+n<cLine)
  {ys:List W} {vs:List V} {us:List Value} {k:Bool} (hd:depWs ys<=n) (rs:RelWs X.K μ H ys vs) (jp:cv vs us) (ha:rB wx ys=some k):∃e:Value->Bool,(∀u,u∈us.toArray->SeqAt.EqAt A s u v (e u))/\us.toArray.any e=k:=by
 classical
 obtain⟨q1,q2⟩:=x9 ha
 have at':∀(j:Nat) (u:Value),us[j]?=some u->∃w b,ys[j]?=some w/\jQ w wx=some b/\SeqAt.EqAt A s u v b:=fun j u e=>by
  have hj:j<ys.length:=by
   have h1:=(ac.mp e).1
   rw[rs.len,jp.length];exact h1
  obtain⟨b,hb⟩:=q1 j ys[j] (aa hj)
  obtain⟨y,g1,r1⟩:=rs.get (aa hj)
  obtain⟨u',f1,v1⟩:=jp.get g1
  rw[e]at f1;cases f1
  exact⟨_,b,aa hj,hb,Fg I n ys[j] wx A y x u v b (aR (qv hj) hd) r1 rx v1 rv hu hb⟩
 refine⟨fun u=>decide (∃(j:Nat) (w:W),us[j]?=some u/\ys[j]?=some w/\jQ w wx=some true),fun u hu=>?_,?_⟩
 ·by_cases c:∃(j:Nat) (w:W),us[j]?=some u/\ys[j]?=some w/\jQ w wx=some true
  ·show SeqAt.EqAt A s u v (decide _)
   rw[aK c]
   obtain⟨j,w,e1,e2,e3⟩:=c
   obtain⟨w',b,f1,f2,f3⟩:=at' j u e1
   rw[e2]at f1;cases f1
   rw[e3]at f2;cases f2
   exact f3
  ·show SeqAt.EqAt A s u v (decide _)
   rw[aN c]
   obtain⟨j,hj,e⟩:=List.mem_iff_getElem.mp (show u∈us by simpa using hu)
   have e':us[j]?=some u:=by rw[aa hj,e]
   obtain⟨w',b,f1,f2,f3⟩:=at' j u e'
   cases b with
   |false=>exact f3
   |true=>exact absurd ⟨j,w',e',f1,f2⟩ c
 ·rw[List.any_toArray]
  cases k with
  |true=>
   obtain⟨j,w,e1,e2⟩:=q2.mp rfl
   have hj:j<us.length:=by rw[<- jp.length,<- rs.len];exact(ac.mp e1).1
   exact jf.mpr ⟨us[j],fV hj,aK ⟨j,w,aa hj,e1,e2⟩⟩
  |false=>
   refine fF.mpr fun u _ c=>?_
   obtain⟨j,w,_,e1,e2⟩:=iP c
   have:=q2.mpr ⟨j,w,e1,e2⟩
   cases this
theorem x_{k:Nat}(hr:gT k X.A):pf X (compareOp .In) (sA false):=⟨fun pins s σ H x y v u Q I rv ru ⟨μ,st,wx,wy,S,rx,ry,q⟩=>by
 have hu:=hr.units
 cases wy with
 |str l=>
  simp only[sA]at q
  split at q
  ·exact Dy pins s σ H x y v u Q I rv ru ⟨_,_,rx.strE,ry.strE,ik S q⟩
  ·exact q.elim
 |tup ys=>
  simp only[sA]at q
  cases hk:rB wx ys with
  |none=>rw[hk]at q;exact q.elim
  |some kk=>
   rw[hk]at q
   simp only at q
   by_cases c:depWs ys<=63
   ·rw[ar c]at q
    obtain⟨p,vs,rfl,hS,r⟩:=ry.tupE
    cases ru
    obtain⟨bn,w,ht,_⟩:=I.tuple hS
    obtain⟨e,he,ha⟩:=ml (A:=X.A.in1) I rx rv 63 (by show X.A.units+1+63<cLine;omega) c r w hk
    exact SeqAt.in_tupleAt e ht he ⟨.bl _,H,I,rfl,by rw[ha];exact ik S q⟩
   ·rw[az c]at q;exact q.elim
 |loc n=>
  simp only[sA]at q
  cases e1:st[n]? with
  |none=>rw[e1]at q;exact q.elim
  |some cc=>
   rw[e1]at q
   cases cc with
   |lst ys=>
    simp only at q
    cases hk:rB wx ys with
    |none=>rw[hk]at q;exact q.elim
    |some kk=>
     rw[hk]at q
     simp only at q
     by_cases c:depWs ys<=63
     ·rw[ar c]at q
      obtain⟨a1,g1,vs,k1,r⟩:=S.get e1
      obtain⟨b1,f1,rfl⟩:=ry.locE
      rw[g1]at f1;cases f1
      cases ru
      obtain⟨bn,w,ht,_⟩:=I.list (pD.of k1)
      obtain⟨e,he,ha⟩:=ml (A:=X.A.in1) I rx rv 63 (by show X.A.units+1+63<cLine;omega) c r w hk
      exact SeqAt.in_listAt e ht.isList he ⟨.bl _,H,I,rfl,by rw[ha];exact ik S q⟩
     ·rw[az c]at q;exact q.elim
   |_=>exact q.elim
 |_=>exact q.elim,fun x y st=>by
 unfold sA
 repeat' split
 all_goals trivial⟩
theorem qW{k:Nat}(hr:gT k X.A):pf X (compareOp .NotIn) (sA true):=⟨fun pins s σ H x y v u Q I rv ru ⟨μ,st,wx,wy,S,rx,ry,q⟩=>by
 have hu:=hr.units
 cases wy with
 |str l=>
  simp only[sA]at q
  split at q
  ·exact v_ pins s σ H x y v u Q I rv ru ⟨_,_,rx.strE,ry.strE,ik S q⟩
  ·exact q.elim
 |tup ys=>
  simp only[sA]at q
  cases hk:rB wx ys with
  |none=>rw[hk]at q;exact q.elim
  |some kk=>
   rw[hk]at q
   simp only at q
   by_cases c:depWs ys<=63
   ·rw[ar c]at q
    obtain⟨p,vs,rfl,hS,r⟩:=ry.tupE
    cases ru
    obtain⟨bn,w,ht,_⟩:=I.tuple hS
    obtain⟨e,he,ha⟩:=ml (A:=X.A.in1) I rx rv 63 (by show X.A.units+1+63<cLine;omega) c r w hk
    exact SeqAt.notIn_tupleAt e ht he ⟨.bl _,H,I,rfl,by rw[ha];exact ik S q⟩
   ·rw[az c]at q;exact q.elim
 |loc n=>
  simp only[sA]at q
  cases e1:st[n]? with
  |none=>rw[e1]at q;exact q.elim
  |some cc=>
   rw[e1]at q
   cases cc with
   |lst ys=>
    simp only at q
    cases hk:rB wx ys with
    |none=>rw[hk]at q;exact q.elim
    |some kk=>
     rw[hk]at q
     simp only at q
     by_cases c:depWs ys<=63
     ·rw[ar c]at q
      obtain⟨a1,g1,vs,k1,r⟩:=S.get e1
      obtain⟨b1,f1,rfl⟩:=ry.locE
      rw[g1]at f1;cases f1
      cases ru
      obtain⟨bn,w,ht,_⟩:=I.list (pD.of k1)
      obtain⟨e,he,ha⟩:=ml (A:=X.A.in1) I rx rv 63 (by show X.A.units+1+63<cLine;omega) c r w hk
      exact SeqAt.notIn_listAt e ht.isList he ⟨.bl _,H,I,rfl,by rw[ha];exact ik S q⟩
     ·rw[az c]at q;exact q.elim
   |_=>exact q.elim
 |_=>exact q.elim,fun x y st=>by
 unfold sA
 repeat' split
 all_goals trivial⟩
section
variable{w:World}
theorem ya{t sl:Addr}{vl vu:Value}{lo hi:Option Int}(ht:IsTup s.heap t items)(hs:s.heap.IsSliceOf sl vl vu .none)(pl:IsPart vl lo)(pu:IsPart vu hi)
  (hw:HT.sIx items.size 0 lo=0/\HT.sIx items.size items.size hi=items.size) (h:Q (.ref t) s):wpAny (model prog w) A (getItem (.ref t) (.ref sl)) Q E s:=by
 obtain⟨os,hos,hcs,zR⟩:=id hs
 have hTs:s.TypeIs (.ref sl) "slice":=⟨os,hos,hcs⟩
 unfold getItem
 try with_reducible refine cE ?_
 first|refine ae (ao ?_)|skip
 refine ae (wpAny_sequenceKey ht.typeIs (by decide) ?_)
 refine ae (bS (name:=Str.ofString "__getitem__") ht.typeIs dF
  (cu dF ht.typeIs entry_tuple_getitem ?_ (args_tuple_getitem _ _)))
 show wpAny _ _ (Builtin.Tuple.tupleItemsOf (.ref t) >>= _) _ _ s
 refine ae (tupleItemsOf_ ht ?_)
 refine ae (qf hTs ?_)
 rw[ar (by decide)]
 refine ae (HT.sliceApplied_gen hs pl pu ?_)
 have hyes:(((HT.sIx items.size 0 lo:Nat):Int)==0&&(1:Int)==1&&(HT.sIx items.size items.size hi-HT.sIx items.size 0 lo)==items.size)=true:=by
  rw[hw.1,hw.2];simp
 show wpAny _ _ (if (((HT.sIx items.size 0 lo:Nat):Int)==0&&(1:Int)==1&&(HT.sIx items.size items.size hi-HT.sIx items.size 0 lo)==items.size)=true then _ else _) _ _ s
 rw[ar hyes]
 unfold Builtin.Tuple.tupleIsExact
 obtain⟨ot,hot,VU,nt,hdt⟩:=id ht
 refine ae (ae (qf (T:="tuple") ht.typeIs ?_))
 refine ao ?_
 rw[ar (by decide)]
 exact ae (fH (ao ⟨_,rfl,ao h⟩))
end
section
variable{a b:Expr}{fa fb fc fe:FE}{fs:FA}
def lstOf(st:List aj)(n:Nat):Option (List W):=match st[n]? with
 |some (.lst ws)=>some ws
 |some (.ro ws)=>some ws
 |_=>none
theorem h_.lstOf(S:h_ K mg μ st H)(h:lstOf st n=some ws):∃a vs,μ[n]?=some a/\pD K H a vs/\RelWs K μ H ws vs:=by
 unfold L2.lstOf at h
 cases e:st[n]? with
 |none=>rw[e]at h;cases h
 |some cc=>
  rw[e]at h
  cases cc with
  |lst zs=>cases h;obtain⟨a,g,vs,k,r⟩:=S.get e;exact⟨a,vs,g,pD.of k,r⟩
  |ro zs=>cases h;obtain⟨a,g,vs,k,r⟩:=S.get e;exact⟨a,vs,g,k.sq,r⟩
  |exc zs=>cases h
  |dct zs=>cases h
  |rod zs=>cases h
  |dcx zs=>cases h
  |tab _ _ _=>cases h
def pE(o:Option α)(k:α->R W):R W:=match o with
 |some a=>k a
 |none=>.bad
@[simp] theorem cL{α:Type}(a:α)(k:α->R W):pE (some a) k=k a:=rfl
def bg(x y:W)(st:List aj):R W:=match x,y with
 |.tup ws,.int i=>pE (pG ws i) fun w=>.ok w st
 |.str l,.int i=>if l.length<=ji then pE (pG l i) (fun c=>.ok (.str [c]) st)else .bad
 |.loc n,.int i=>pE (lstOf st n) fun ws=>pE (pG ws i) fun w=>.ok w st
 |_,_=>.bad
theorem BM{i:Int}{w:W}(r:RelWs K μ H ws vs)(h:pG ws i=some w):∃v,pG vs i=some v/\bj K μ H w v:=by
 unfold pG at h ⊢
 rw[<- r.len]
 cases e:Bx ws.length i with
 |none=>rw[e]at h;cases h
 |some k=>rw[e]at h;exact r.get h
theorem Ww:Jk X (Tg X bg):=fun value slice pins s σ H x y v u Q I rv ru ⟨μ,st,wx,wy,S,rx,ry,q⟩ hs=>by
 refine OO value slice pins s σ H x y v u Q I rv ru ?_ hs
 cases wy with
 |int i=>
  cases wx with
  |tup ws=>
   simp only[bg]at q
   cases e1:pG ws i with
   |none=>rw[e1]at q;exact q.elim
   |some w=>
    rw[e1]at q
    obtain⟨p,vs,rfl,hS,r⟩:=rx.tupE
    obtain⟨z,f,g⟩:=BM r e1
    exact .inr (.inl ⟨p,vs,i,z,rfl,ry.intE,hS,f,q μ z H (ah _) dP.refl S g⟩)
  |str l=>
   simp only[bg]at q
   by_cases c:l.length<=ji
   ·rw[ar c]at q
    cases e1:pG l i with
    |none=>rw[e1]at q;exact q.elim
    |some w=>
     rw[e1]at q
     exact .inr (.inr ⟨_,i,w,rx.strE,ry.intE,by rw[jv];exact i_ c,by rw[OU];exact e1,pK S q⟩)
   ·rw[az c]at q;exact q.elim
  |loc n=>
   simp only[bg]at q
   cases e0:lstOf st n with
   |none=>rw[e0]at q;exact q.elim
   |some ws=>
    rw[e0]at q
    cases e1:pG ws i with
    |none=>rw[cL,e1]at q;exact q.elim
    |some w=>
     rw[cL,e1]at q
     obtain⟨a,vs,g,hS,r⟩:=S.lstOf e0
     obtain⟨b1,f1,rfl⟩:=rx.locE
     rw[g]at f1;cases f1
     obtain⟨z,f,g⟩:=BM r e1
     exact .inl ⟨_,vs,i,z,rfl,ry.intE,hS,f,q μ z H (ah _) dP.refl S g⟩
  |_=>exact q.elim
 |_=>cases wx<;>exact q.elim
theorem oK{o:Option α}{k:α->R W}(h:∀a,pe (k a)):pe (pE o k):=by
 unfold pE
 split
 ·exact h _
 ·trivial
theorem TC(x y:W)(st:List aj):pe (bg x y st):=by
 unfold bg
 split
 ·exact oK fun _=>trivial
 ·split
  ·exact oK fun _=>trivial
  ·trivial
 ·exact oK fun _=>oK fun _=>trivial
 ·trivial
theorem wb(ha:SE X a fa)(hb:SE X b fb)(hs:Bz b:=by intro _ _;rfl):SE X (.Subscript a b pos) (e2 bg fa fb):=⟨(Sy Ww ha.h hb.h hs).imp fun _ _ _ h=>BI TC h⟩
abbrev FO:=bY->List aj->R (Option Int)
abbrev Wx:List Addr->Hp->Option Int->Option Int->Prop:=fun _ _ a b=>a=b
structure SO(X:Cx)(e:Option Expr)(f:FO):Prop where
 h:PO X e (tG X Wx f)
def qX:FO:=fun _ st=>.ok none st
def lA(fa:FE):FO:=fun ρ st=>(fa ρ st).bind fun x st=>match x with
 |.int i=>.ok (some i) st
 |_=>.bad
theorem PO.imp{e:Option Expr}{t t':TO}(h:PO X e t)(i:∀σ H Q,t' σ H Q->t σ H Q):PO X e t':=fun pins s σ H Q I q=>h pins s σ H Q I (i _ _ _ q)
theorem Ke:SO X none qX:=⟨JL.imp fun σ H Q h=>by
 obtain⟨μ,ρ,st,l,h⟩:=h
 exact h μ none H (ah _) dP.refl l.sto rfl⟩
theorem Kf(ha:SE X a fa):SO X (some a) (lA fa):=⟨(JM ha.h).imp fun σ H Q h=>by
 obtain⟨μ,ρ,st,l,h⟩:=h
 refine⟨μ,ρ,st,l,RK.bind h l fun μ1 st1 x v H1 p1 x1 l1 q1 h1=>?_⟩
 cases x with
 |int k=>exact⟨k,q1.intE,h1 μ1 _ H1 (ah _) dP.refl l1.sto rfl⟩
 |_=>exact h1.elim⟩
def kH(xs:List α)(lo hi:Option Int):List α:=(xs.drop (HT.sIx xs.length 0 lo)).take (HT.sIx xs.length xs.length hi-HT.sIx xs.length 0 lo)
def BN(x:W)(lo hi:Option Int)(st:List aj):R W:=match x with
 |.tup ws=>.ok (.tup (kH ws lo hi)) st
 |.str l=>if l.length<=ji then .ok (.str (kH l lo hi)) st else .bad
 |.loc n=>pE (lstOf st n) fun ws=>.ok (.loc st.length) (st++[.lst (kH ws lo hi)])
 |_=>.bad
theorem TD(x:W)(lo hi:Option Int)(st:List aj):pe (BN x lo hi st):=by
 unfold BN pE
 repeat' split
 all_goals trivial
def Fi(fa:FE)(fl fh:FO):FE:=fun ρ st=>(fa ρ st).bind fun x st=>(fl ρ st).bind fun l st=>(fh ρ st).bind fun h st=>BN x l h st
theorem Wz:Sw X (fun x lo hi H Q=>∃μ st wx,h_ X.K X.mg μ st H/\bj X.K μ H wx x/\Es X μ H Q (BN wx lo hi st)):=by
 intro pins s σ H x v vl vu lo hi sl Q I rv hs pl pu ⟨μ,st,wx,S,rx,q⟩
 cases wx with
 |tup ws=>
  obtain⟨p,vs,rfl,hS,r⟩:=rx.tupE
  have hl:=r.len
  by_cases hw:HT.sIx vs.length 0 lo=0/\HT.sIx vs.length vs.length hi=vs.length
  ·cases rv
   obtain⟨bn,w,ht,hz⟩:=I.tuple hS
   have cY:bn.toArray.size=vs.length:=by rw[aF];exact w.length.symm
   refine⟨"tuple",_,dF.lookup,ht.typeIs,ya ht hs pl pu (by rw[cY];exact hw) ⟨.ref p,H,I,rfl,?_⟩⟩
   have e:kH ws lo hi=ws:=by
    unfold kH
    rw[hl,hw.1,hw.2,List.drop_zero,Nat.sub_zero,<- hl,bX]
   have q':Es X μ H Q (.ok (.tup (kH ws lo hi)) st):=q
   rw[e]at q'
   exact q' μ _ H (ah _) dP.refl S rx
  ·refine OK pins s σ H _ v vl vu lo hi sl Q I rv hs pl pu ⟨p,vs,rfl,hS,hw,fun p2 hp2=>?_⟩
   have x:=eF.same (K:=X.K) (cx hp2 (.tup (sf vs lo hi)))
   have rc:RelWs X.K μ H (kH ws lo hi) (sf vs lo hi):=by
    unfold kH sf
    rw[hl]
    exact(r.drop _).take _
   exact q μ _ _ (ah _) x (S.same (cx hp2 _)) (.tupI eF.new (rc.mono (ah _) x))
 |str l=>
  simp only[BN]at q
  by_cases c:l.length<=ji
  ·rw[ar c]at q
   exact OX pins s σ H _ v vl vu lo hi sl Q I rv hs pl pu ⟨l,rx.strE,i_ c,pK S q⟩
  ·rw[az c]at q;exact q.elim
 |loc n=>
  simp only[BN]at q
  cases e0:lstOf st n with
  |none=>rw[e0]at q;exact q.elim
  |some ws=>
   rw[e0]at q
   obtain⟨a,vs,g,hS,r⟩:=S.lstOf e0
   obtain⟨b1,f1,rfl⟩:=rx.locE
   rw[g]at f1;cases f1
   have hl:=r.len
   refine JP pins s σ H _ v vl vu lo hi sl Q I rv hs pl pu ⟨_,vs,rfl,hS,fun p2 hp2=>?_⟩
   have rc:RelWs X.K μ H (kH ws lo hi) (sf vs lo hi):=by
    unfold kH sf
    rw[hl]
    exact(r.drop _).take _
   exact q (μ++[p2]) _ _ (ax _ _) (eF.same (cx hp2 _)) (S.newLst hp2 rc) (mj S)
 |_=>exact q.elim
theorem WA{lo hi:Option Expr}{fl fh:FO}(ha:SE X a fa)(hl:SO X lo fl)(hh:SO X hi fh):SE X (.Subscript a (.Slice lo hi none p2) pos) (Fi fa fl fh):=⟨(EO Wz ha.h hl.h hh.h).imp fun σ H Q h=>by
 obtain⟨μ,ρ,st,l,h⟩:=h
 refine⟨μ,ρ,st,l,RK.bind h l fun μ1 st1 x v H1 p1 x1 l1 q1 h1=>⟨μ1,ρ,st1,l1,RK.bind h1 l1 fun μ2 cV y u H2 p2 x2 l2 q2 h2=>⟨μ2,ρ,cV,l2,RK.bind h2 l2 fun μ3 ju z t H3 p3 x3 l3 q3 h3=>?_⟩⟩⟩
 cases q2;cases q3
 exact⟨μ3,ju,x,l3.sto,(q1.mono p2 x2).mono p3 x3,nG h3 (TD _ _ _ _)⟩⟩
def W8(X:Cx)(F:List W->List aj->R W):List V->Hp->VK->Prop:=fun vs H Q=>∃μ st ws,h_ X.K X.mg μ st H/\RelWs X.K μ H ws vs/\Es X μ H Q (F ws st)
structure kO(X:Cx)(f:Value)(F:List W->List aj->R W):Prop where
 h:iA X f (W8 X F)
 n:∀ws st,pe (F ws st)
noncomputable def bc(F:List W->List aj->R W)(fs:FA):FE:=fun ρ st=>(fs ρ st).bind fun ws st=>F ws st
theorem BO{Q:VK}(n:∀ws st,pe (F ws st))(h:tE X (bc F fs) σ H Q):Wg (W8 X F) (Wt X fs) σ H Q:=by
 obtain⟨μ,ρ,st,l,h⟩:=h
 exact⟨μ,ρ,st,l,RK.bind h l fun μ1 st1 x v H1 p1 x1 l1 q1 h1=>⟨μ1,st1,x,l1.sto,q1,nG h1 (n _ _)⟩⟩
theorem mn(hc:kO X (.builtin id) F)(hm:X.mg x=none)(hv:bootBuiltins x=some (.builtin id))(ha:SA X (e::es) fs)(hg:Gl X x:=by rfl)(hn:x ≠ "__name__":=by decide)(I0:(x==("__debug__":Str))=false:=by decide)
  (he:starEach (e::es) X.env=(false,eval e X.env)::starEach es X.env:=by rfl) (rf:(backTo pos (starEach es X.env)).any (·.1)=false:=by rfl):SE X (.Call (.Name x p) (e::es) [] pos) (bc F fs):=⟨(xM hc.h hg hm hv ha.h hn I0 he rf).imp fun _ _ _ h=>BO hc.n h⟩
theorem nJ{T:String}(hc:kO X (.type T) F)(hm:X.mg x=none)(hv:bootBuiltins x=some (.type T))(ha:SA X (e::es) fs)(hg:Gl X x:=by rfl)(hn:x ≠ "__name__":=by decide)(I0:(x==("__debug__":Str))=false:=by decide)
  (he:starEach (e::es) X.env=(false,eval e X.env)::starEach es X.env:=by rfl) (rf:(backTo pos (starEach es X.env)).any (·.1)=false:=by rfl):SE X (.Call (.Name x p) (e::es) [] pos) (bc F fs):=⟨(Dm hc.h hg hm hv ha.h hn I0 he rf).imp fun _ _ _ h=>BO hc.n h⟩
theorem RelWs.two{a b:W}(r:RelWs K μ H [a,b] vs):∃x y,vs=[x,y]/\bj K μ H a x/\bj K μ H b y:=by
 obtain⟨x,xs,rfl,rx,rn⟩:=r.consE
 obtain⟨y,ys,rfl,ry,rm⟩:=rn.consE
 rw[rm.nilE];exact⟨x,y,rfl,rx,ry⟩
theorem RelWs.one{a:W}(r:RelWs K μ H [a] vs):∃x,vs=[x]/\bj K μ H a x:=by
 obtain⟨x,xs,rfl,rx,rn⟩:=r.consE
 rw[rn.nilE];exact⟨x,rfl,rx⟩
noncomputable def cW(ws:List W)(st:List aj):R W:=match ws with
 |[.tup xs]=>.ok (.int xs.length) st
 |[.str l]=>if l.length<=ji then .ok (.int l.length) st else .bad
 |[.loc n]=>pE (lstOf st n) fun xs=>.ok (.int xs.length) st
 |_=>.bad
theorem pM:kO X (.builtin "len") cW:=⟨fun pins s σ H vs us Q I rv ⟨μ,st,ws,S,r,q⟩=>by
 unfold cW at q
 split at q
 ·obtain⟨x,rfl,rx⟩:=r.one
  obtain⟨p,ys,rfl,hS,r'⟩:=rx.tupE
  exact pH pins s σ H _ us Q I rv ⟨p,ys,rfl,.inr hS,by rw[<- r'.len];exact jP S q⟩
 ·obtain⟨x,rfl,rx⟩:=r.one
  split at q
  ·rename_i c
   exact v5 pins s σ H _ us Q I rv ⟨_,by rw[rx.strE],by rw[jv];exact i_ c,by rw[jv];exact jP S q⟩
  ·exact q.elim
 ·obtain⟨x,rfl,rx⟩:=r.one
  unfold pE at q
  split at q
  ·rename_i ys e0
   obtain⟨a,vs,g,hS,r'⟩:=S.lstOf e0
   obtain⟨b1,f1,rfl⟩:=rx.locE
   rw[g]at f1;cases f1
   exact pH pins s σ H _ us Q I rv ⟨_,vs,rfl,.inl hS,by rw[<- r'.len];exact jP S q⟩
  ·exact q.elim
 ·exact q.elim,fun ws st=>by
 unfold cW pE
 repeat' split
 all_goals trivial⟩
def yb(ws:List W)(st:List aj):R W:=match ws with
 |[.int i,.int j]=>.ok (.int (if j>i then j else i)) st
 |_=>.bad
def Ak(ws:List W)(st:List aj):R W:=match ws with
 |[.int i,.int j]=>.ok (.int (if j<i then j else i)) st
 |_=>.bad
theorem TF(hc:X.calm=true:=by rfl):kO X (.builtin "max") yb:=⟨fun pins s σ H vs us Q I rv ⟨μ,st,ws,S,r,q⟩=>by
 unfold yb at q
 split at q
 ·obtain⟨x,y,rfl,rx,ry⟩:=r.two
  exact Di hc pins s σ H _ us Q I rv ⟨_,_,by rw[rx.intE,ry.intE],jP S q⟩
 ·exact q.elim,fun ws st=>by unfold yb;split<;>trivial⟩
theorem TH(hc:X.calm=true:=by rfl):kO X (.builtin "min") Ak:=⟨fun pins s σ H vs us Q I rv ⟨μ,st,ws,S,r,q⟩=>by
 unfold Ak at q
 split at q
 ·obtain⟨x,y,rfl,rx,ry⟩:=r.two
  exact Dj hc pins s σ H _ us Q I rv ⟨_,_,by rw[rx.intE,ry.intE],jP S q⟩
 ·exact q.elim,fun ws st=>by unfold Ak;split<;>trivial⟩
def d6(ws:List W)(st:List aj):R W:=match ws with
 |[.tup xs]=>.ok (.tup xs) st
 |[.loc n]=>pE (lstOf st n) fun xs=>.ok (.tup xs) st
 |_=>.bad
theorem BP:kO X (.type "tuple") d6:=⟨fun pins s σ H vs us Q I rv ⟨μ,st,ws,S,r,q⟩=>by
 unfold d6 at q
 split at q
 ·obtain⟨x,rfl,rx⟩:=r.one
  obtain⟨p,ys,rfl,hS,r'⟩:=id rx.tupE
  exact xN pins s σ H _ us Q I rv ⟨p,ys,rfl,hS,q μ _ H (ah _) dP.refl S rx⟩
 ·obtain⟨x,rfl,rx⟩:=r.one
  unfold pE at q
  split at q
  ·rename_i ys e0
   obtain⟨a,vs,g,hS,r'⟩:=S.lstOf e0
   obtain⟨b1,f1,rfl⟩:=rx.locE
   rw[g]at f1;cases f1
   refine xV pins s σ H _ us Q I rv ⟨_,vs,rfl,hS,fun l H2 hl e=>?_⟩
   subst e
   have x:=eF.same (K:=X.K) (cx hl (.tup vs))
   exact q μ _ _ (ah _) x (S.same (cx hl _)) (.tupI eF.new (r'.mono (ah _) x))
  ·exact q.elim
 ·exact q.elim,fun ws st=>by
 unfold d6 pE
 repeat' split
 all_goals trivial⟩
def nK(ws:List W)(st:List aj):R W:=match ws with
 |[.tup xs]=>.ok (.loc st.length) (st++[.lst xs])
 |[.loc n]=>pE (lstOf st n) fun xs=>.ok (.loc st.length) (st++[.lst xs])
 |_=>.bad
theorem Pi:kO X (.type "list") nK:=⟨fun pins s σ H vs us Q I rv ⟨μ,st,ws,S,r,q⟩=>by
 unfold nK at q
 split at q
 ·obtain⟨x,rfl,rx⟩:=r.one
  obtain⟨p,ys,rfl,hS,r'⟩:=id rx.tupE
  refine sk pins s σ H _ us Q I rv ⟨p,ys,rfl,.inr hS,fun l H2 hl e=>?_⟩
  subst e
  exact q (μ++[l]) _ _ (ax _ _) (eF.same (cx hl _)) (S.newLst hl r') (mj S)
 ·obtain⟨x,rfl,rx⟩:=r.one
  unfold pE at q
  split at q
  ·rename_i ys e0
   obtain⟨a,vs,g,hS,r'⟩:=S.lstOf e0
   obtain⟨b1,f1,rfl⟩:=rx.locE
   rw[g]at f1;cases f1
   refine sk pins s σ H _ us Q I rv ⟨_,vs,rfl,.inl hS,fun l H2 hl e=>?_⟩
   subst e
   exact q (μ++[l]) _ _ (ax _ _) (eF.same (cx hl _)) (S.newLst hl r') (mj S)
  ·exact q.elim
 ·exact q.elim,fun ws st=>by
 unfold nK pE
 repeat' split
 all_goals trivial⟩
def yc(ws:List W)(st:List aj):R W:=match ws with
 |[.int i]=>.ok (.int i) st
 |[.bl k]=>.ok (.int (if k then 1 else 0)) st
 |_=>.bad
theorem TJ:kO X (.type "int") yc:=⟨fun pins s σ H vs us Q I rv ⟨μ,st,ws,S,r,q⟩=>by
 unfold yc at q
 split at q
 ·obtain⟨x,rfl,rx⟩:=r.one
  exact u4 pins s σ H _ us Q I rv (.inl ⟨_,by rw[rx.intE],jP S q⟩)
 ·obtain⟨x,rfl,rx⟩:=r.one
  exact u4 pins s σ H _ us Q I rv (.inr ⟨_,by rw[rx.blE],jP S q⟩)
 ·exact q.elim,fun ws st=>by unfold yc;split<;>trivial⟩
end
section
variable{a b:Expr}{fa fb fc fe:FE}{fs:FA}{ft:FT}{st1:Stmt}{sr sa sb:List Stmt}{g g':FS}
noncomputable def aL(g g':FS):FS:=fun ρ st=>match g ρ st with
 |.nx ρ' bG=>g' ρ' bG
 |r=>r
def cQ:FS:=fun ρ st=>.nx ρ st
theorem Pk:SB X [] cQ:=⟨Jw.imp fun D σ H h=>by
 obtain⟨μ,ρ,st,l,h⟩:=h
 exact h μ σ H (ah _) dP.refl l⟩
theorem Al(h1:SS X st1 g):SB X [st1] g:=⟨Jx h1.h⟩
theorem jk(h1:SS X st1 g)(h2:SB X sr g'):SB X (st1::sr) (aL g g'):=⟨(Ez h1.h h2.h).imp fun D σ H h=>by
 obtain⟨μ,ρ,st,l,h⟩:=h
 refine⟨μ,ρ,st,l,?_⟩
 unfold aL at h
 cases e:g ρ st with
 |nx ρ' bG=>rw[e]at h;exact fun μ' σ' H' p x l'=>⟨μ',ρ',bG,l',SK.mono h p x⟩
 |rt w bG=>rw[e]at h;exact h
 |bk ρ' bG=>rw[e]at h;exact h
 |ct ρ' bG=>rw[e]at h;exact h
 |ex c ρ' bG=>rw[e]at h;exact h
 |bad=>rw[e]at h;exact h⟩
noncomputable def R.stmt(r:R α)(ρ:bY)(k:α->List aj->RS):RS:=match r with
 |.ok a st=>k a st
 |.ex c st=>.ex c ρ st
 |.bad=>.bad
@[simp] theorem R.stmt_ok{α:Type}(a:α)(st:List aj)(ρ:bY)(k:α->List aj->RS):(R.ok a st).stmt ρ k=k a st:=rfl
theorem RK.stmt{rel:List Addr->Hp->α->β->Prop}{ρ:bY}{D:vW}{r:R α}{k:α->List aj->RS}{T:β->Hp->Prop}
  (h:SK X μ H D (r.stmt ρ k)) (l:Rl X μ ρ st σ H)
  (hk:∀μ' bG x v H',μ <+: μ'->dP X.K H H'->Rl X μ' ρ bG σ H'->rel μ' H' x v->SK X μ' H' D (k x bG)->T v H'):RK X rel μ σ H T r:=by
 cases r with
 |ok a bG=>exact fun μ' b H' p x s q=>hk μ' bG a b H' p x (l.to p x s) q (SK.mono h p x)
 |ex c bG=>exact XS.toE h l
 |bad=>exact h
def eG(fe:FE):FS:=fun ρ st=>(fe ρ st).stmt ρ fun _ st=>.nx ρ st
theorem rL(he:SE X e fe)(hs:swapsWith e none pos.line X.env=pure false:=by rfl):SS X (.Expr e pos) (eG fe):=⟨(Jy he.h hs).imp fun D σ H h=>by
 obtain⟨μ,ρ,st,l,h⟩:=h
 exact⟨μ,ρ,st,l,RK.stmt h l fun μ1 st1 x v H1 p1 x1 l1 q1 h1=>h1 μ1 σ H1 (ah _) dP.refl l1⟩⟩
def cA(fe:FE):FS:=fun ρ st=>(fe ρ st).stmt ρ fun w st=>.rt w st
theorem Fj(he:SE X e fe):SS X (.Return (some e) pos) (cA fe):=⟨(Op he.h).imp fun D σ H h=>by
 obtain⟨μ,ρ,st,l,h⟩:=h
 exact⟨μ,ρ,st,l,RK.stmt h l fun μ1 st1 x v H1 p1 x1 l1 q1 h1=>h1 μ1 v H1 (ah _) dP.refl l1.sto q1⟩⟩
def i5(t:FT)(g g':FS):FS:=fun ρ st=>(t ρ st).stmt ρ fun k st=>if k then g ρ st else g' ρ st
theorem TK(hc:ST X c ft)(ha:SB X sa g)(hb:SB X sb g'):SS X (.If c sa sb pos) (i5 ft g g'):=⟨(Sb hc.h ha.h hb.h).imp fun D σ H h=>by
 obtain⟨μ,ρ,st,l,h⟩:=h
 refine⟨μ,ρ,st,l,RK.stmt h l fun μ1 st1 x v H1 p1 x1 l1 q1 h1=>?_⟩
 cases q1
 cases x with
 |true=>exact⟨μ1,ρ,st1,l1,h1⟩
 |false=>exact⟨μ1,ρ,st1,l1,h1⟩⟩
abbrev FG:=W->bY->Option bY
abbrev LY:=List W->bY->Option bY
def TL(X:Cx)(f:FG):TG:=fun v σ H Q=>∃μ ρ st w ρ',Rl X μ ρ st σ H/\bj X.K μ H w v/\f w ρ=some ρ'/\∀σ',Rl X μ ρ' st σ' H->Q σ' H
def WB(X:Cx)(f:LY):Jz:=fun vs σ H Q=>∃μ ρ st ws ρ',Rl X μ ρ st σ H/\RelWs X.K μ H ws vs/\f ws ρ=some ρ'/\∀σ',Rl X μ ρ' st σ' H->Q σ' H
theorem PG.imp{t t':TG}(h:PG X e t)(i:∀v σ H Q,t' v σ H Q->t v σ H Q):PG X e t':=fun pins s σ H x u Q I r q=>h pins s σ H x u Q I r (i _ _ _ _ q)
theorem LM.imp{e:List Expr}{t t':Jz}(h:LM X e t)(i:∀v σ H Q,t' v σ H Q->t v σ H Q):LM X e t':=fun pins s σ H x u Q I r q=>h pins s σ H x u Q I r (i _ _ _ _ q)
structure SG(X:Cx)(e:Expr)(f:FG):Prop where
 h:PG X e (TL X f)
structure VH(X:Cx)(e:List Expr)(f:LY):Prop where
 h:LM X e (WB X f)
def dY(i:Nat):FG:=fun w ρ=>some (ρ.set i (some w))
theorem BQ(hN:X.N.Nodup)(hi:X.N[i]?=some x)(hx:Js X.env.scope x)(hf:X.fn x=true\/X.env.scope.names.lookup x=some .local:=by first|exact .inl rfl|exact .inr rfl|assumption):SG X (.Name x pos) (dY i):=⟨(JB hN hi hx hf).imp fun v σ H Q h=>by
 obtain⟨μ,ρ,st,w,ρ',l,r,e,q⟩:=h
 cases e
 exact q _ ⟨nE r i l.env,l.sto⟩⟩
def hG:LY:=fun ws ρ=>match ws with
 |[]=>some ρ
 |_=>none
def b8(f:FG)(fs:LY):LY:=fun ws ρ=>match ws with
 |w::ws=>(f w ρ).bind fun ρ'=>fs ws ρ'
 |[]=>none
theorem Kg:VH X [] hG:=⟨JC.imp fun vs σ H Q h=>by
 obtain⟨μ,ρ,st,ws,ρ',l,r,e,q⟩:=h
 cases ws with
 |nil=>cases e;exact⟨r.nilE,q σ l⟩
 |cons _ _=>cases e⟩
theorem Fk{f:FG}{fs:LY}(h1:SG X e f)(h2:VH X es fs)(hs:(assignEach (e::es) X.env).map (·.2)=assign e X.env::(assignEach es X.env).map (·.2):=by rfl):VH X (e::es) (b8 f fs):=⟨(EA h1.h h2.h hs).imp fun vs σ H Q h=>by
 obtain⟨μ,ρ,st,ws,ρ',l,r,e,q⟩:=h
 cases ws with
 |nil=>cases e
 |cons w ws=>
  obtain⟨x,xs,rfl,rx,rs⟩:=r.consE
  simp only[b8]at e
  cases e1:f w ρ with
  |none=>rw[e1]at e;cases e
  |some ρ1=>
   rw[e1]at e
   exact⟨x,xs,rfl,μ,ρ,st,w,ρ1,l,rx,e1,fun σ1 l1=>⟨μ,ρ1,st,ws,ρ',l1,rs,e,q⟩⟩⟩
def ul(n:Nat)(fs:LY):FG:=fun w ρ=>match w with
 |.tup ws=>if ws.length=n then fs ws ρ else none
 |_=>none
theorem Pm{k:Nat}{fs:LY}(hc:X.calm=true)(h:VH X es fs)(hn:(assignEach es X.env).length=n:=by rfl)(xo:(assignEach es X.env).findIdx? (·.1)=none:=by rfl):SG X (.Tuple es k pos) (ul n fs):=⟨(Oq hc h.h hn xo).imp fun v σ H Q h=>by
 obtain⟨μ,ρ,st,w,ρ',l,r,e,q⟩:=h
 cases w with
 |tup ws=>
  obtain⟨p,vs,rfl,hS,rs⟩:=r.tupE
  simp only[ul]at e
  by_cases c:ws.length=n
  ·rw[ar c]at e
   exact⟨p,vs,rfl,hS,by rw[<- rs.len];exact c,μ,ρ,st,ws,ρ',l,rs,e,q⟩
  ·rw[az c]at e;cases e
 |_=>cases e⟩
def sB(fe:FE)(f:FG):FS:=fun ρ st=>(fe ρ st).stmt ρ fun w st=>match f w ρ with
 |some ρ'=>.nx ρ' st
 |none=>.bad
theorem TM{f:FG}{D:vW}(h:VF X (sB fe f) D σ H):EB (tE X fe) (TL X f) D σ H:=by
 obtain⟨μ,ρ,st,l,h⟩:=h
 refine⟨μ,ρ,st,l,RK.stmt h l fun μ1 st1 x v H1 p1 x1 l1 q1 h1=>?_⟩
 cases e1:f x ρ with
 |none=>rw[e1]at h1;exact h1.elim
 |some ρ'=>rw[e1]at h1;exact⟨μ1,ρ,st1,x,ρ',l1,q1,e1,fun σ' l'=>h1 μ1 σ' H1 (ah _) dP.refl l'⟩
theorem Pn{f:FG}(he:SE X e fe)(hg:SG X tg f)(hs:swapsWithSole [tg] e pos.line X.env=pure false:=by rfl)(hw:swappedStores [tg] e X.env=pure none:=by rfl)(h1:(assignEach [tg] X.env).map (·.2)=[assign tg X.env]:=by rfl):SS X (.Assign [tg] e pos) (sB fe f):=⟨(EC he.h hg.h hs hw h1).imp fun D σ H h=>TM h⟩
noncomputable def bp(i:Nat)(fe:FE):FS:=fun ρ st=>(fe ρ st).stmt ρ fun w st=>.nx (ρ.set i (some w)) st
theorem Po(hN:X.N.Nodup)(hi:X.N[i]?=some x)(hx:Js X.env.scope x)(he:SE X e fe)(hs:swapsWith e (some (.Name x jB)) pos.line X.env=pure false:=by rfl)(hf:X.fn x=true\/X.env.scope.names.lookup x=some .local:=by first|exact .inl rfl|exact .inr rfl|assumption) :
  SS X (.Assign [.Name x jB] e pos) (bp i fe):=⟨(Ot hN hi hx he.h hs hf).imp fun D σ H h=>by
 obtain⟨μ,ρ,st,l,h⟩:=h
 exact⟨μ,ρ,st,l,RK.stmt h l fun μ1 st1 x v H1 p1 x1 l1 q1 h1=>h1 μ1 _ H1 (ah _) dP.refl ⟨nE q1 i l1.env,l1.sto⟩⟩⟩
def qY(x i v:W)(st:List aj):Option (List aj):=match x,i with
 |.loc n,.int k=>(match st[n]? with
  |some (.lst ws)=>(Bx ws.length k).map fun j=>st.set n (.lst (ws.set j v))
  |_=>none)
 |_,_=>none
def lB(fo fi fe:FE)(f:W->W->W->List aj->Option (List aj)):FS:=fun ρ st=>(fe ρ st).stmt ρ fun v st=>(fo ρ st).stmt ρ fun x st=>(fi ρ st).stmt ρ fun i st=>match f x i v st with
 |some bG=>.nx ρ bG
 |none=>.bad
def BR(X:Cx)(f:W->W->W->List aj->Option (List aj)):JA:=fun o i v H Q=>∃μ st wo wi wv bG,h_ X.K X.mg μ st H/\bj X.K μ H wo o/\bj X.K μ H wi i/\bj X.K μ H wv v/\f wo wi wv st=some bG/\∀H',dP X.K H H'->h_ X.K X.mg μ bG H'->Q H'
theorem Pp:zS X (BR X qY):=fun pins s σ H o i v ov iv u Q I r1 r2 r3 ⟨μ,st,wo,wi,wv,bG,S,ro,ri,rv,e,q⟩=>by
 cases wo with
 |loc n=>
  cases wi with
  |int k=>
   simp only[qY]at e
   cases e1:st[n]? with
   |none=>rw[e1]at e;cases e
   |some cc=>
    rw[e1]at e
    cases cc with
    |lst ws=>
     simp only at e
     cases e2:Bx ws.length k with
     |none=>rw[e2]at e;cases e
     |some jj=>
      rw[e2]at e
      cases e
      obtain⟨a1,g1,vs,k1,r⟩:=S.get e1
      obtain⟨b1,f1,rfl⟩:=ro.locE
      rw[g1]at f1;cases f1
      refine DA pins s σ H _ i v ov iv u Q I r1 r2 r3 ⟨a1,vs,k,jj,rfl,ri.intE,k1,by rw[<- r.len];exact e2,fun H2 eH=>?_⟩
      subst eH
      exact q _ (eF.but fL k1) (S.set e1 g1 k1 (r.setI jj rv))
    |_=>cases e
  |_=>cases e
 |_=>cases wi<;>cases e
theorem wc{f:W->W->W->List aj->Option (List aj)}{i:Expr}{fi:FE}{fo:FE}(WW:zS X (BR X f))(he:SE X e fe)(ho:SE X o fo)(hi:SE X i fi)
  (ha:∀v,assign (.Subscript o i jB) X.env v=(do
   let ov <- holding [v] (eval o X.env)
   let iv <- holding [v,ov] (eval i X.env)
   standAt jB
   holding [v,ov,iv] (setItem ov iv v)
   release [v,ov,iv] []):=by intro _;rfl)
  (hs:swapsWithSole [.Subscript o i jB] e pos.line X.env=pure false:=by rfl) (hw:swappedStores [.Subscript o i jB] e X.env=pure none:=by rfl) (h1:(assignEach [.Subscript o i jB] X.env).map (·.2)=[assign (.Subscript o i jB) X.env]:=by rfl) :
  SS X (.Assign [.Subscript o i jB] e pos) (lB fo fi fe f):=⟨(EC he.h (Os ho.h hi.h WW ha) hs hw h1).imp fun D σ H h=>by
 obtain⟨μ,ρ,st,l,h⟩:=h
 refine⟨μ,ρ,st,l,RK.stmt h l fun μ1 st1 v vv H1 p1 x1 l1 q1 h1=>⟨μ1,ρ,st1,l1,RK.stmt h1 l1 fun μ2 cV x xv H2 p2 x2 l2 q2 h2=>⟨μ2,ρ,cV,l2,RK.stmt h2 l2 fun μ3 ju i iv H3 p3 x3 l3 q3 h3=>?_⟩⟩⟩
 cases e1:f x i v ju with
 |none=>rw[e1]at h3;exact h3.elim
 |some bG=>
  rw[e1]at h3
  exact⟨μ3,ju,x,i,v,bG,l3.sto,q2.mono p3 x3,q3,(q1.mono p2 x2).mono p3 x3,e1,fun H' xx S'=>h3 μ3 σ H' (ah _) xx (l3.to (ah _) xx S')⟩⟩
end
def j7(st:List aj):Option (Nat×List W)->Prop
 |none=>True
 |some (n,ws)=>lstOf st n=some ws
abbrev DH:=List W×Option (Nat×List W)
abbrev FI:=bY->List aj->R DH
def Am(X:Cx)(J:It)(k:DH)(μ:List Addr)(H:Hp):Prop:=
 ∀(i:Nat) μ' bG H',μ <+: μ'->dP X.K H H'->h_ X.K X.mg μ' bG H'->j7 bG k.2 ->
  (∀w,k.1[i]?=some w->J.go i H'/\∀x H'',J.yld i H' x H''->dP X.K H' H''/\h_ X.K X.mg μ' bG H''/\bj X.K μ' H'' w x)/\(k.1.length<=i->J.stop i H')
abbrev TN(X:Cx):List Addr->Hp->DH->It->Prop:=fun μ H k J=>Am X J k μ H
structure SI(X:Cx)(tg it:Expr)(f:FI):Prop where
 h:PI X tg it (fun σ H R=>tG X (TN X) f σ H R)
theorem PI.imp{it:Expr}{t t':TI}(h:PI X tg it t)(i:∀σ H Q,t' σ H Q->t σ H Q):PI X tg it t':=fun pins s σ H Q I q=>h pins s σ H Q I (i _ _ _ q)
open Classical in
def sC(f:FG)(body:FS)(ck:Option (Nat×List W)):List W->FS
 |[],ρ,st=>if j7 st ck then .nx ρ st else .bad
 |w::ws,ρ,st=>if j7 st ck then(match f w ρ with
  |none=>.bad
  |some ρ'=>(match body ρ' st with
   |.nx ρ2 cV=>sC f body ck ws ρ2 cV
   |.ct ρ2 cV=>sC f body ck ws ρ2 cV
   |.bk ρ2 cV=>.nx ρ2 cV
   |.rt w cV=>.rt w cV
   |.ex c ρ2 cV=>.ex c ρ2 cV
   |.bad=>.bad))else .bad
def fC(fi:FI)(f:FG)(body:FS):FS:=fun ρ st=>(fi ρ st).stmt ρ fun k st=>sC f body k.2 k.1 ρ st
section
variable{a b:Expr}{fa fb fe:FE}{fs:FA}{ft:FT}{body:List Stmt}{g:FS}{f:FG}{fi:FI}
theorem Pq(hi:SI X tg iter fi)(hg:SG X tg f)(hb:SB X body g)(hc:X.calm=true:=by rfl)(hp:PassesOwn (model X.prog X.w) X.A X.env X.xe:=by passes_own)(hs:∀x,foldedSetIterable iter X.env x=pure x:=by intro _;rfl):SS X (.For tg iter body [] pos) (fC fi f g):=⟨(Ow hp hc hi.h hg.h hb.h hs).imp fun D σ H h=>by
 obtain⟨μ,ρ,st,l,h⟩:=h
 refine⟨μ,ρ,st,l,RK.stmt h l fun μ1 st1 k J H1 p1 x1 l1 wk h1=>?_⟩
 refine⟨fun i m σ' H'=>i<=k.1.length/\m=k.1.length-i/\∃μ' ρ' bG,μ1 <+: μ'/\dP X.K H1 H'/\Rl X μ' ρ' bG σ' H'/\SK X μ' H' D (sC f g k.2 (k.1.drop i) ρ' bG),
  ⟨_,cH _,rfl,μ1,ρ,st1,ah _,dP.refl,l1,h1⟩,?_⟩
 rintro i m σ' H' ⟨hi,rfl,μ',ρ',bG,pm,xm,lm,hm⟩
 by_cases hlt:i<k.1.length
 ·rw[dJ hlt]at hm
  unfold sC at hm
  by_cases ck:j7 bG k.2
  ·rw[ar ck]at hm
   obtain⟨go,yld⟩:=(wk i μ' bG H' pm xm lm.sto ck).1 _ (aa hlt)
   cases hf:f k.1[i] ρ' with
   |none=>rw[hf]at hm;exact hm.elim
   |some ρ2=>
    rw[hf]at hm
    simp only at hm
    refine .inr ⟨go,fun σ2 H2=>∃μ2 ρ3 cV,μ' <+: μ2/\dP X.K H' H2/\Rl X μ2 ρ3 cV σ2 H2/\SK X μ2 H2 D (sC f g k.2 (k.1.drop (i+1)) ρ3 cV),fun σ2 H2 ⟨μ2,ρ3,cV,q1,q2,q3,q4⟩=>
     ⟨_,by omega,hlt,rfl,μ2,ρ3,cV,pm.trans q1,xm.trans q2,q3,q4⟩,fun x H2 hy=>?_⟩
    obtain⟨y1,y2,y3⟩:=yld x H2 hy
    refine⟨μ',ρ',bG,k.1[i],ρ2,lm.to (ah _) y1 y2,y3,hf,fun σ2 l2=>⟨μ',ρ2,bG,l2,?_⟩⟩
    cases e:g ρ2 bG with
    |nx ρ3 ju=>rw[e]at hm;exact fun μ4 σ4 H4 p4 x4 l4=>⟨μ4,ρ3,ju,p4,y1.trans x4,l4,SK.mono hm p4 (y1.trans x4)⟩
    |ct ρ3 ju=>rw[e]at hm;exact fun μ4 σ4 H4 p4 x4 l4=>⟨μ4,ρ3,ju,p4,y1.trans x4,l4,SK.mono hm p4 (y1.trans x4)⟩
    |bk ρ3 ju=>rw[e]at hm;exact fun μ4 σ4 H4 p4 x4 l4=>hm μ4 σ4 H4 p4 (y1.trans x4) l4
    |rt w ju=>rw[e]at hm;exact fun μ4 v4 H4 p4 x4=>hm μ4 v4 H4 p4 (y1.trans x4)
    |ex c ρ3 ju=>rw[e]at hm;exact XS.mono hm (ah _) y1
    |bad=>rw[e]at hm;exact hm
  ·rw[az ck]at hm;exact hm.elim
 ·have hi':i=k.1.length:=by omega
  subst hi'
  rw[mR (aw _)]at hm
  unfold sC at hm
  by_cases ck:j7 bG k.2
  ·rw[ar ck]at hm
   exact .inl ⟨(wk _ μ' bG H' pm xm lm.sto ck).2 (aw _),hm μ' σ' H' (ah _) dP.refl lm⟩
  ·rw[az ck]at hm;exact hm.elim⟩
def fP(t:FT)(body:FS):Nat->FS
 |0,_,_=>.bad
 |n+1,ρ,st=>(t ρ st).stmt ρ fun k st=>if k then(match body ρ st with
   |.nx ρ2 cV=>fP t body n ρ2 cV
   |.ct ρ2 cV=>fP t body n ρ2 cV
   |.bk ρ2 cV=>.nx ρ2 cV
   |.rt w cV=>.rt w cV
   |.ex c ρ2 cV=>.ex c ρ2 cV
   |.bad=>.bad)else .nx ρ st
open Classical in
def j8(t:FT)(body:FS):FS:=fun ρ st=>if h:∃n,fP t body n ρ st≠.bad then fP t body h.choose ρ st else .bad
theorem nL(t:FT)(g:FS):∀(n:Nat) (ρ:bY) (st:List aj),fP t g n ρ st≠.bad->fP t g (n+1) ρ st=fP t g n ρ st
 |0,_,_,h=>absurd rfl h
 |n+1,ρ,st,h=>by
  unfold fP at h ⊢
  cases e:t ρ st with
  |ex c st1=>rfl
  |bad=>rfl
  |ok k st1=>
   rw[e]at h
   simp only[R.stmt_ok]at h ⊢
   cases k with
   |false=>rfl
   |true=>
    simp only[dC]at h ⊢
    cases e2:g ρ st1 with
    |nx ρ2 cV=>rw[e2]at h;exact nL t g n ρ2 cV h
    |ct ρ2 cV=>rw[e2]at h;exact nL t g n ρ2 cV h
    |_=>rfl
theorem vh{t:FT}{n m:Nat}{ρ:bY}(h:fP t g n ρ st≠.bad)(hm:n<=m):fP t g m ρ st=fP t g n ρ st:=by
 induction hm with
 |refl=>rfl
 |@step m _ ih=>rw[nL t g m ρ st (by rw[ih];exact h),ih]
theorem DI{t:FT}{ρ:bY}{r:RS}(h:fP t g n ρ st=r)(hr:r≠.bad):j8 t g ρ st=r:=by
 have hx:∃n,fP t g n ρ st≠.bad:=⟨n,by rw[h];exact hr⟩
 unfold j8
 rw[dif_pos hx]
 have c:=hx.choose_spec
 have a:=vh c (Nat.le_max_left hx.choose n)
 have b:=vh (n:=n) (m:=max hx.choose n) (by rw[h];exact hr) (Nat.le_max_right _ _)
 rw[<- a,b,h]
theorem yd{t:FT}{D:vW}:∀(n:Nat) (σ:St) (H:Hp) (μ:List Addr) (ρ:bY) (st:List aj),Rl X μ ρ st σ H->SK X μ H D (fP t g n ρ st)->ED (tT X t) (VF X g) D σ H:=by
 intro n σ H μ ρ st l h
 refine⟨fun m σ' H'=>∃μ' ρ' bG,Rl X μ' ρ' bG σ' H'/\SK X μ' H' D (fP t g m ρ' bG),⟨n,μ,ρ,st,l,h⟩,?_⟩
 rintro m σ' H' ⟨μ',ρ',bG,l',h'⟩
 cases m with
 |zero=>exact h'.elim
 |succ m=>
  refine⟨μ',ρ',bG,l',RK.stmt h' l' fun μ1 st1 k v H1 p1 x1 l1 q1 h1=>?_⟩
  cases q1
  cases k with
  |false=>exact h1 μ1 σ' H1 (ah _) dP.refl l1
  |true=>
   refine⟨fun σ2 H2=>∃μ2 ρ2 cV,Rl X μ2 ρ2 cV σ2 H2/\SK X μ2 H2 D (fP t g m ρ2 cV),fun σ2 H2 z=>⟨m,lZ m,z⟩,μ1,ρ',st1,l1,?_⟩
   simp only[dC]at h1
   cases e:g ρ' st1 with
   |nx ρ3 ju=>rw[e]at h1;exact fun μ4 σ4 H4 p4 x4 l4=>⟨μ4,ρ3,ju,l4,SK.mono h1 p4 x4⟩
   |ct ρ3 ju=>rw[e]at h1;exact fun μ4 σ4 H4 p4 x4 l4=>⟨μ4,ρ3,ju,l4,SK.mono h1 p4 x4⟩
   |bk ρ3 ju=>rw[e]at h1;exact h1
   |rt w ju=>rw[e]at h1;exact h1
   |ex c ρ3 ju=>rw[e]at h1;exact h1
   |bad=>rw[e]at h1;exact h1
theorem yf{t:FT}(hc:ST X c t)(hb:SB X body g)(hp:PassesOwn (model X.prog X.w) X.A X.env X.xe:=by passes_own):SS X (.While c body [] pos) (j8 t g):=⟨(EE hp hc.h hb.h).imp fun D σ H h=>by
 obtain⟨μ,ρ,st,l,h⟩:=h
 unfold j8 at h
 by_cases hx:∃n,fP t g n ρ st≠.bad
 ·rw[dif_pos hx]at h;exact yd _ σ H μ ρ st l h
 ·rw[dif_neg hx]at h;exact h.elim⟩
def Fl(fe:FE):FI:=fun ρ st=>(fe ρ st).bind fun x st=>match x with
 |.tup ws=>.ok (ws,none) st
 |_=>.bad
theorem Fm(he:SE X e fe):SI X tg e (Fl fe):=⟨(Ov he.h).imp fun σ H R h=>by
 obtain⟨μ,ρ,st,l,h⟩:=h
 refine⟨μ,ρ,st,l,RK.bind h l fun μ1 st1 x v H1 p1 x1 l1 q1 h1=>?_⟩
 cases x with
 |tup ws=>
  obtain⟨p,vs,rfl,hS,r⟩:=q1.tupE
  refine⟨p,rfl,⟨vs,hS⟩,h1 μ1 _ H1 (ah _) dP.refl l1.sto fun i μ' bG H' pp xx S _=>⟨fun w hw=>?_,fun hl=>⟨vs,xx _ _ hS,by rw[<- r.len];exact hl⟩⟩⟩
  have r':=r.mono pp xx
  obtain⟨v,g1,g2⟩:=r'.get hw
  refine⟨⟨vs,v,xx _ _ hS,g1⟩,fun y H'' hy=>?_⟩
  obtain⟨rfl,hy⟩:=hy
  have:=hy vs (xx _ _ hS)
  rw[g1]at this;cases this
  exact⟨dP.refl,S,g2⟩
 |_=>exact h1.elim⟩
def LZ(fe:FE):FI:=fun ρ st=>(fe ρ st).bind fun x st=>match x with
 |.loc n=>(match lstOf st n with
  |some ws=>.ok (ws,some (n,ws)) st
  |none=>.bad)
 |_=>.bad
theorem Ps(he:SE X e fe):SI X tg e (LZ fe):=⟨(JD he.h).imp fun σ H R h=>by
 obtain⟨μ,ρ,st,l,h⟩:=h
 refine⟨μ,ρ,st,l,RK.bind h l fun μ1 st1 x v H1 p1 x1 l1 q1 h1=>?_⟩
 cases x with
 |loc n=>
  obtain⟨a,ha,rfl⟩:=q1.locE
  simp only at h1
  cases e1:lstOf st1 n with
  |none=>rw[e1]at h1;exact h1.elim
  |some ws=>
   rw[e1]at h1
   obtain⟨a',vs0,g0,hS0,r0⟩:=l1.sto.lstOf e1
   rw[ha]at g0;cases g0
   refine⟨a,rfl,⟨vs0,hS0⟩,h1 μ1 _ H1 (ah _) dP.refl l1.sto fun i μ' bG H' pp xx S ck=>?_⟩
   obtain⟨a2,vs,g2,hS,r⟩:=S.lstOf (show lstOf bG n=some ws from ck)
   have:μ'[n]?=some a:=pre_get pp ha
   rw[g2]at this;cases this
   refine⟨fun w hw=>?_,fun hl=>⟨vs,hS,by rw[<- r.len];exact hl⟩⟩
   obtain⟨v,g1,g3⟩:=r.get hw
   refine⟨⟨vs,v,hS,g1⟩,fun y H'' hy=>?_⟩
   obtain⟨rfl,hy⟩:=hy
   have:=hy vs hS
   rw[g1]at this;cases this
   exact⟨dP.refl,S,g3⟩
 |_=>exact h1.elim⟩
def cB(lo:Int)(n:Nat):List W:=(List.range n).map fun(i:Nat)=>W.int (lo+i)
theorem cN(lo:Int)(n:Nat):(cB lo n).length=n:=by simp[cB]
theorem sD{lo:Int}:Am X (Sd lo n) (cB lo n,none) μ H:=fun i μ' bG H' pp xx S _=>by
 refine⟨fun w hw=>?_,fun hl=>by rw[cN]at hl;exact hl⟩
 have hi:i<n:=by
  have:=(ac.mp hw).1
  rw[cN]at this;exact this
 refine⟨hi,fun y H'' hy=>?_⟩
 obtain⟨rfl,rfl⟩:=hy
 have e:w=.int (lo+i):=by
  unfold cB at hw
  rw[ak,g_ hi]at hw
  exact(aY hw).symm
 subst e
 exact⟨dP.refl,S,.int⟩
def bJ(fs:FA):FI:=fun ρ st=>(fs ρ st).bind fun ws st=>match ws with
 |[.int j]=>if -(2^62)<=j/\j<2^62 then .ok (cB 0 j.toNat,none) st else .bad
 |_=>.bad
def pO(fs:FA):FI:=fun ρ st=>(fs ρ st).bind fun ws st=>match ws with
 |[.int i,.int j]=>if -(2^62)<=i/\i<2^62/\-(2^62)<=j/\j<2^62 then .ok (cB i (j-i).toNat,none) st else .bad
 |_=>.bad
theorem DJ(hm:X.mg "range"=none)(ha:SA X [a] fs)(hg:Gl X "range":=by rfl)(hs:starEach [a] X.env=[(false,eval a X.env)]:=by rfl):SI X tg (.Call (.Name "range" p) [a] [] pos) (bJ fs):=⟨(De hg hm ha.h hs).imp fun σ H R h=>by
 obtain⟨μ,ρ,st,l,h⟩:=h
 refine⟨μ,ρ,st,l,RK.bind h l fun μ1 st1 x v H1 p1 x1 l1 q1 h1=>?_⟩
 split at h1
 ·obtain⟨y,rfl,ry⟩:=q1.one
  split at h1
  ·rename_i c
   exact⟨_,by rw[ry.intE],c.1,c.2,h1 μ1 _ H1 (ah _) dP.refl l1.sto sD⟩
  ·exact h1.elim
 ·exact h1.elim⟩
theorem DL(hm:X.mg "range"=none)(ha:SA X [a,b] fs)(hg:Gl X "range":=by rfl)(hs:starEach [a,b] X.env=[(false,eval a X.env),(false,eval b X.env)]:=by rfl)(xz:starEach [b] X.env=[(false,eval b X.env)]:=by rfl):SI X tg (.Call (.Name "range" p) [a,b] [] pos) (pO fs):=⟨(Df hg hm ha.h hs xz).imp fun σ H R h=>by
 obtain⟨μ,ρ,st,l,h⟩:=h
 refine⟨μ,ρ,st,l,RK.bind h l fun μ1 st1 x v H1 p1 x1 l1 q1 h1=>?_⟩
 split at h1
 ·obtain⟨y,z,rfl,ry,rz⟩:=q1.two
  split at h1
  ·rename_i c
   exact⟨_,_,by rw[ry.intE,rz.intE],c,h1 μ1 _ H1 (ah _) dP.refl l1.sto sD⟩
  ·exact h1.elim
 ·exact h1.elim⟩
end
mutual
def W.und(n:Nat):W->Bool
 |.loc m=>decide (m<n)
 |.tup ws=>undWs n ws
 |_=>true
def undWs(n:Nat):List W->Bool
 |[]=>true
 |w::ws=>w.und n&&undWs n ws
end
def aj.und(n:Nat):aj->Bool
 |.lst ws=>undWs n ws
 |.ro ws=>undWs n ws
 |.exc _=>true
 |.dct kvs=>undWs n (kvs.map fun p=>p.2)
 |.rod kvs=>undWs n (kvs.map fun p=>p.2)
 |.dcx kvs=>undWs n (kvs.map fun p=>p.2)
 |.tab _ _ _=>true
section
mutual
theorem bj.und:∀{w:W} {v:V},bj K μ H w v->w.und μ.length=true
 |.non,_,_=>by simp[W.und]
 |.bl _,_,_=>by simp[W.und]
 |.int _,_,_=>by simp[W.und]
 |.str _,_,_=>by simp[W.und]
 |.tup _,_,r=>by obtain⟨p,vs,_,_,c⟩:=r.tupE;unfold W.und;exact RelWs.und c
 |.loc _,_,r=>by obtain⟨a,e,_⟩:=r.locE;unfold W.und;exact aK (ac.mp e).1
theorem RelWs.und:∀{ws:List W} {vs:List V},RelWs K μ H ws vs->undWs μ.length ws=true
 |[],_,_=>by unfold undWs;rfl
 |_::_,_,r=>by obtain⟨x,xs,_,b,c⟩:=r.consE;unfold undWs;rw[bj.und b,RelWs.und c];rfl
end
mutual
theorem bj.take:∀{w:W} {v:V},bj K μ H w v->w.und n=true->bj K (μ.take n) H w v
 |.non,_,r,_=>by rw[r.nonE];exact .non
 |.bl _,_,r,_=>by rw[r.blE];exact .bl
 |.int _,_,r,_=>by rw[r.intE];exact .int
 |.str _,_,r,_=>by rw[r.strE];exact .str
 |.tup _,_,r,b=>by obtain⟨p,vs,rfl,h,c⟩:=r.tupE;unfold W.und at b;exact .tupI h (RelWs.takeN c b)
 |.loc _,_,r,b=>by obtain⟨a,e,rfl⟩:=r.locE;unfold W.und at b;exact .locI (by rw[df (iP b)];exact e)
theorem RelWs.takeN:∀{ws:List W} {vs:List V},RelWs K μ H ws vs->undWs n ws=true->RelWs K (μ.take n) H ws vs
 |[],_,r,_=>by rw[r.nilE];exact .nilI
 |_::_,_,r,b=>by
  obtain⟨x,xs,rfl,b1,c1⟩:=r.consE
  unfold undWs at b
  rw[bw]at b
  exact .consI (bj.take b1 b.1) (RelWs.takeN c1 b.2)
end
theorem KX.und_w(k:KX)(n:Nat):k.w.und n=true:=by
 have hi:∀ks:List Int,undWs n (ks.map W.int)=true:=fun ks=>by
  induction ks with
  |nil=>rfl
  |cons a l ih=>show(true&&undWs n (l.map W.int))=true;rw[ih];rfl
 cases k with
 |bo b=>rfl
 |fl ks=>unfold KX.w W.und;exact hi ks
 |pr i ks=>unfold KX.w W.und undWs;rw[show(W.int i).und n=true from rfl];unfold undWs;rw[show(W.tup (ks.map W.int)).und n=true by unfold W.und;exact hi ks];rfl
theorem yg:∀{kvs:List (KX×W)} {es:List DictEntry},Paired (rA K μ H) kvs es->undWs μ.length (kvs.map fun p=>p.2)=true
 |_,_,.nil=>rfl
 |_,_,.cons r t=>by
  obtain⟨_,_,v,h,_⟩:=r
  show(_&&undWs _ _)=true
  rw[h.und,yg t];rfl
theorem vi:∀{kvs:List (KX×W)} {es:List DictEntry},Paired (rA K μ H) kvs es->undWs n (kvs.map fun p=>p.2)=true->Paired (rA K (μ.take n) H) kvs es
 |_,_,.nil,_=>.nil
 |_,_,.cons r t,b=>by
  obtain⟨a,⟨u,c,d⟩,v,h,g⟩:=r
  have b:(_&&undWs n _)=true:=b
  rw[bw]at b
  exact .cons ⟨a,⟨u,bj.take c (KX.und_w _ n),d⟩,v,bj.take h b.1,g⟩ (vi t b.2)
theorem kN.und{c:aj}(r:kN K mg μ H c a):c.und μ.length=true:=by
 cases c with
 |lst ws=>obtain⟨vs,_,y⟩:=r;exact y.und
 |ro ws=>obtain⟨vs,_,y⟩:=r;exact y.und
 |exc c=>rfl
 |dct kvs=>obtain⟨vs,_,y⟩:=r;exact y.und
 |rod kvs=>obtain⟨vs,_,_,y⟩:=r;exact y.und
 |dcx kvs=>obtain⟨es,_,_,y,_⟩:=r;exact yg y
 |tab _ _ _=>rfl
theorem kN.take{c:aj}(r:kN K mg μ H c a)(b:c.und n=true):kN K mg (μ.take n) H c a:=by
 cases c with
 |lst ws=>obtain⟨vs,x,y⟩:=r;exact⟨vs,x,y.takeN b⟩
 |ro ws=>obtain⟨vs,x,y⟩:=r;exact⟨vs,x,y.takeN b⟩
 |exc c=>exact r
 |dct kvs=>obtain⟨vs,x,y⟩:=r;exact⟨vs,x,y.takeN b⟩
 |rod kvs=>obtain⟨vs,o,x,y⟩:=r;exact⟨vs,o,x,y.takeN b⟩
 |dcx kvs=>obtain⟨es,x,d,y,z⟩:=r;exact⟨es,x,d,vi y b,z⟩
 |tab _ _ _=>exact r
end
theorem eS.ex{w:World}{o:HO}(x:eS P w H h a o):∃ob,h.get? a=some ob:=by
 cases o with
 |lst xs=>obtain⟨_,_,_,_,e⟩:=x;exact⟨_,e⟩
 |tup xs=>obtain⟨_,_,_,o,e,_⟩:=x;exact⟨_,e⟩
 |dK kvs=>obtain⟨_,_,_,_,o,_,_,e,_⟩:=x;exact⟨_,e⟩
 |dT kvs=>obtain⟨_,_,_,_,o,_,_,e,_⟩:=x;exact⟨_,e⟩
 |set S n=>obtain⟨o,_,_,_,e,_⟩:=x;exact⟨_,e⟩
 |ins C dx fs=>obtain⟨_,_,_,e,_⟩:=x;exact⟨_,e⟩
 |own y=>obtain⟨_,e⟩:=x;exact⟨_,e⟩
 |xd fs=>obtain⟨_,⟨_,_,_,e,_⟩,_⟩:=x;exact⟨_,e⟩
 |rng lo hi=>obtain⟨_,_,_,e⟩:=x;exact⟨_,e⟩
 |frz ob u=>obtain⟨e,_⟩:=x;exact⟨_,e⟩
 |tbl ps=>exact⟨_,(show h.get? a=some _ from x)⟩
 |met f y=>exact⟨_,(show h.get? a=some _ from x)⟩
 |ext φ=>obtain⟨_,⟨_,e⟩,_⟩:=x;exact⟨_,e⟩
def L3(st bG:List aj)(ws:List W):Prop:=undWs st.length ws=true/\st.length<=bG.length/\∀(i:Nat),i<st.length->bG[i]?=st[i]?\/∃c,bG[i]?=some c/\c.und st.length=true
open Classical in
def kP(st bG:List aj)(ws:List W):List aj:=if L3 st bG ws then bG.take st.length else bG
theorem sE{ws:List W}{vs:List V}(S:h_ K mg μ st H)(S':h_ K mg μ' bG H')(p:μ <+: μ')(r:RelWs K μ' H' ws vs) :
  ∃μ2,μ <+: μ2/\h_ K mg μ2 (kP st bG ws) H'/\RelWs K μ2 H' ws vs:=by
 unfold kP
 by_cases k:L3 st bG ws
 ·rw[ar k]
  obtain⟨k1,k2,k3⟩:=k
  have e:μ'.take st.length=μ:=by
   obtain⟨t,rfl⟩:=p
   rw[S.len,kB]
  refine⟨μ'.take st.length,by rw[e];exact ah _,⟨fun i j a ci cj h1 h2 r1 r2 m1 m2=>?_,by rw[aZ,aZ,S'.len],fun i c a h1 h2=>?_⟩,r.takeN k1⟩
  ·have hi:i<st.length:=by have:=(ac.mp h1).1;rw[aZ]at this;omega
   have hj:j<st.length:=by have:=(ac.mp h2).1;rw[aZ]at this;omega
   rw[df hi]at h1 m1
   rw[df hj]at h2 m2
   exact S'.nd i j a ci cj h1 h2 r1 r2 m1 m2
  ·have hi:i<st.length:=by have:=(ac.mp h1).1;rw[aZ]at this;omega
   rw[df hi]at h1 h2
   refine(S'.at' i c a h1 h2).take ?_
   rcases k3 i hi with q|⟨c',q,b⟩
   ·rw[h1]at q
    obtain⟨a0,g0,r0⟩:=S.get q.symm
    have:=r0.und
    rw[S.len];exact this
   ·rw[h1]at q;cases q;exact b
 ·rw[az k]
  exact⟨μ',p,S',r⟩
noncomputable def dq(N:Nat)(body:FS)(ws:List W)(st:List aj):R W:=match body (ws.map some++List.replicate (N-ws.length) none) st with
 |.rt w bG=>.ok w (kP st bG [w])
 |.nx _ bG=>.ok .non (kP st bG [])
 |.ex c _ bG=>.ex c (kP st bG [])
 |_=>.bad
def iX(P:Program)(w:World):Jj:=fun outer H s E e s'=>∃x C t B H',e=.ref x/\E C none H'/\s'.os=s.os/\AllBare s'.gens/\Un (vV outer) [] H H' s.heap s'.heap/\oD P w H' s'.heap/\H' x=none/\Heap.FlyingW B outer x C (.ref t) s'.heap /\
 ∀b o,s'.heap.get? b=some o->(H' b≠none\/((∃o0,s.heap.get? b=some o0)/\b∉vV outer))->B.get? b=some o
def ja(K:Frag)(mg:Str->Option Value)(n:Nat)(F:List W->List aj->R W):Sp:=fun vs H Q E=>vs.length=n/\∃μ ws st,h_ K mg μ st H/\RelWs K μ H ws vs/\(match F ws st with
 |.ok w bG=>∀μ' v H',μ <+: μ'->dP K H H'->h_ K mg μ' bG H'->bj K μ' H' w v->Q v H'
 |.ex c bG=>∀C μ' H',mg c=some C->μ <+: μ'->dP K H H'->h_ K mg μ' bG H'->E C none H'
 |.bad=>False)
theorem vg.noted{c:Str}{e:Value}{Q:Unit->Shared->Prop}{E:Value->Shared->Prop}{M:Model}{outer:List Env}(f:vg X pins σ c H e s)(xo:X.stack=X.env::outer)(ui:X.env.frame=some X.env.locals)(hA:X.A.frames=some X.stack)
  (h:∀x C t B h',e=.ref x->X.mg c=some C->H x=none->Heap.FlyingW B X.stack x C (.ref t) h'->s.heap.UpToSlots h' ->
   (∀b o,s.heap.get? b=some o->(H b≠none\/((∃o0,X.s₀.heap.get? b=some o0)/\b∉X.fs/\b∉X.ex)\/((∃y,X.env.cells.lookup y=some b)/\b∉vV X.stack)\/∃p∈X.pn++pins,p.1=b)->B.get? b=some o)->Q () { s with heap:=h' }) :
  wpAny M X.A (leaving X.env e) Q E s:=by
 obtain⟨x,C,t,B,rfl,hC,hx,st,nx,ff,tr,cov⟩:=f.ex
 rw[xo]at ff hA
 rcases tr with tr|⟨oe,vs,he,rfl,_,hd,h1,h0⟩|⟨L,hL,tr⟩
 ·refine wpAny_leaving_nextW hA ff ui tr st nx fun h' hL=>?_
  obtain⟨k1,k2,k3,k4⟩:=hL
  exact h x C t B h' rfl hC hx ⟨k1,nx,by rw[xo];exact k2,k3⟩ k4 cov
 ·refine wpAny_leaving_firstW hA ff ui he st nx hd h1 h0 fun h' hL=>?_
  obtain⟨k1,k2,k3,k4⟩:=hL
  exact h x _ t B h' rfl hC hx ⟨k1,nx,by rw[xo];exact k2,k3⟩ k4 cov
 ·unfold leaving
  refine ae (wpAny_noteFrame_againW hL tr (wpAny_landsW ⟨st,nx,ff,tr⟩ fun h' fl up=>?_))
  exact h x C t B h' rfl hC hx (by rw[xo];exact fl) up cov
theorem vg.leaves{c:Str}{e:Value}{E:XK}{E':Value->Shared->Prop}(f:vg X pins σ c H e s)(xo:X.stack=X.env::X.outer)(ui:X.env.frame=some X.env.locals)(hA:X.A.frames=some X.stack)(WX:X.ex=[])
  (hE:∀C,X.mg c=some C->E C none H):wpAny M X.A (leaving X.env e) (fun _ s''=>iX X.prog X.w X.outer X.H₀ X.s₀ E e s'') E' s:=by
 refine f.noted xo ui hA fun x C t B h' he hC hx fl up cov=>?_
 have I:=f.inv
 have un:=I.base
 rw[WX]at un
 have fsE:X.fs=vV X.outer:=rfl
 obtain⟨f1,f2,f3,f4⟩:=fl
 rw[xo]at f3
 obtain⟨_,_,f3'⟩:=f3
 have frames:∀b∈vV X.outer,∀o,s.heap.get? b=some o->∃sl,h'.get? b=some { o with slots:=sl }:=fun b hb o ho=>by
  obtain⟨_,o',qN,hd⟩:=I.funs.mem hb
  rw[ho]at qN;cases qN
  exact up b o ho hd
 have kept:∀b o,s.heap.get? b=some o->(∃o0,X.s₀.heap.get? b=some o0)->b∉vV X.outer->h'.get? b=some o:=fun b o ho h0 hb=>f1 b o (cov b o ho (.inr (.inl ⟨h0,hb,by rw[WX];simp⟩)))
 have keptH:∀b o,s.heap.get? b=some o->H b≠none->h'.get? b=some o:=fun b o ho h0=>f1 b o (cov b o ho (.inl h0))
 refine⟨x,C,t,B,H,he,hE C hC,I.os,I.bare,⟨fun b o q n hb hx=>?_,fun b o q n hb hx=>?_,fun b o q n hx=>un.free b o q n hx,fun b o q hx=>?_,un.tups,un.frzs,un.tbls⟩,fun b u hb=>?_,hx,⟨f1,f2,f3',f4⟩,fun b o ho hr=>?_⟩
 ·exact kept b o (un.keep b o q n hb hx) ⟨o,q⟩ hb
 ·obtain⟨sl,q1⟩:=un.slot b o q n hb hx
  obtain⟨LD,q2⟩:=frames b hb _ q1
  exact⟨LD,q2⟩
 ·obtain⟨o',q1⟩:=un.there b o q hx
  by_cases hb:b∈vV X.outer
  ·obtain⟨LD,q2⟩:=frames b hb _ q1;exact⟨_,q2⟩
  ·exact⟨o',kept b o' q1 ⟨o,q⟩ hb⟩
 ·refine(I.hok b u hb).stay (fun c v hc q=>?_) (fun _ q=>q) fun _ _ q=>q
  refine keptH c v q ?_
  rcases hc with rfl|hc
  ·rw[hb];simp
  ·rw[hc];simp
 ·rcases hr with hr|⟨⟨o0,h0⟩,hb⟩
  ·cases hu:H b with
   |none=>exact absurd hu hr
   |some u=>
    have lt:=I.hok.lt hu
    obtain⟨ob,LH⟩:∃ob,s.heap.get? b=some ob:=by
     exact(I.hok b u hu).ex
    have:=keptH b ob LH hr
    rw[ho]at this;cases this
    exact cov b o LH (.inl hr)
  ·obtain⟨o',q1⟩:=un.there b o0 h0 (by simp)
   have:=kept b o' q1 ⟨o0,h0⟩ hb
   rw[ho]at this;cases this
   exact cov b o q1 (.inr (.inl ⟨⟨o0,h0⟩,hb,by rw[WX];simp⟩))
structure dh(P:Program)(w:World)(K:Frag)(mg:Str->Option Value)(base:Heap)(k:Nat)(x:Str)(n:Nat)(F:List W->List aj->R W):Prop where
 ex:∃(f:Addr) (fd:FuncData) (ps:List Str),mg x=some (.ref f)/\keepIn K (.ref f)=true/\ps.length=n/\xL K fd ps []/\dw P w K mg base (iX P w) k f fd ps (ja K mg n F)
theorem dh.mono{w:World}{k:Nat}(h:dh P w K mg base j x n F)(hj:j<=k):dh P w K mg base k x n F:=by
 obtain⟨f,fd,ps,a,b,c,d,e⟩:=h.ex
 exact⟨f,fd,ps,a,b,c,d,e.mono hj⟩
noncomputable def ca(n:Nat)(F:List W->List aj->R W)(fs:FA):FE:=fun ρ st=>(fs ρ st).bind fun ws st=>if ws.length=n then F ws st else .bad
section
theorem TQ{k:Nat}{f:Addr}{Q:VK}
  (Fn:dw X.prog X.w X.K X.mg X.base (iX X.prog X.w) k f fd ps (ja X.K X.mg n F)) (hn:ps.length=n) (hr:gT k X.A) (hb:xL X.K fd ps []) (I:bz X pins σ H s) (S:h_ X.K X.mg μ st H) (r:RelWs X.K μ H ws vs) (rv:cv vs us) (hl:ws.length=n)
  (h:RK X (uC X) μ σ H Q (F ws st)):wpAny (model X.prog X.w) X.A (call (.ref f) us) (EP X pins σ Q) X.xe s:=by
 have hl':(us++([]:List Value)).length=ps.length:=by rw[eD,<- rv.length,<- r.len,hl,hn]
 cases e:F ws st with
 |bad=>rw[e]at h;exact h.elim
 |ok w bG=>
  rw[e]at h
  refine wpAny_call (mM (Fn.run X.A X.stack s H ⟨us,[]⟩ us vs Q (fun _ _ _=>False) hr I.env0 (by have:=hb s us I.kIn hl';rwa[eD]at this) rv ⟨by rw[<- r.len];exact hl,μ,ws,st,S,r,by rw[e];exact h⟩) fun r s' hq=>?_)
  cases r with
  |error e=>obtain⟨_,_,_,_,_,_,z,_⟩:=hq;exact z.elim
  |ok fl=>
   cases fl with
   |ret u=>exact I.after hq
   |next=>exact False.elim hq
   |brk=>exact False.elim hq
   |cont=>exact False.elim hq
 |ex c bG=>
  rw[e]at h
  refine wpAny_call (mM (Fn.run X.A X.stack s H ⟨us,[]⟩ us vs (fun _ _=>False) (fun C _ H'=>X.mg c=some C/\∃μ',μ <+: μ'/\dP X.K H H'/\h_ X.K X.mg μ' bG H') hr I.env0 (by have:=hb s us I.kIn hl';rwa[eD]at this) rv
   ⟨by rw[<- r.len];exact hl,μ,ws,st,S,r,by rw[e];exact fun C μ' H' hC p x S'=>⟨hC,μ',p,x,S'⟩⟩) fun r s' hq=>?_)
  cases r with
  |ok fl=>
   cases fl with
   |ret u=>obtain⟨_,_,_,_,_,_,_,z⟩:=hq;exact z.elim
   |next=>exact False.elim hq
   |brk=>exact False.elim hq
   |cont=>exact False.elim hq
  |error ev=>
   obtain⟨x,C,t,B,H',rfl,⟨hC,μ',p,xx,S'⟩,os,bare,un,hok,hx,fl,cov⟩:=hq
   have I':bz X pins σ H' s':=I.call' os un hok bare fun b hb=>absurd hb (by simp)
   refine h pins μ' H' (.ref x) s' p xx S' ⟨I',x,C,t,B,rfl,hC,hx,fl.1,fl.2.1,fl.2.2.1,.inl fl.2.2.2,fun b o ho hrel=>?_⟩
   refine cov b o ho ?_
   rcases hrel with q|⟨⟨o0,h0⟩,hb,hbx⟩|⟨⟨y,hy⟩,hb⟩|⟨pp,hp,rfl⟩
   ·exact .inl q
   ·refine .inr ⟨?_,fun z=>?_⟩
    ·obtain⟨o',q1⟩:=I.base.there b o0 h0 hbx
     exact⟨o',q1⟩
    ·rcases a_.mp (I.stkSub b z)with z|z
     ·rw[z]at h0
      exact absurd (aT (aE h0) I.ok.above) (bH _)
     ·exact hb z
   ·obtain⟨v,ov,hov,_⟩:=I.cell y b hy
    exact .inr ⟨⟨_,hov⟩,hb⟩
   ·obtain⟨g1,g2,g3,g4,_⟩:=I.pin pp hp
    refine .inr ⟨⟨_,g1⟩,fun z=>?_⟩
    rcases a_.mp (I.stkSub _ z)with z|z
    ·exact g3 z
    ·exact g4 z
variable{fs:FA}
theorem Fp{k k':Nat}(Fn:dh X.prog X.w X.K X.mg X.base k x n F)(hr:gT k' X.A)(hk:k<=k')(ha:SA X (e::es) fs)(hg:Gl X x:=by rfl)(I0:(x==("__debug__":Str))=false:=by decide)
  (he:starEach (e::es) X.env=(false,eval e X.env)::starEach es X.env:=by rfl) (rf:(backTo pos (starEach es X.env)).any (·.1)=false:=by rfl):SE X (.Call (.Name x p) (e::es) [] pos) (ca n F fs):=⟨by
 intro pins s σ H Q I h
 obtain⟨f,fd,ps,hm,hkp,hn,hb,Fo⟩:=(Fn.mono hk).ex
 refine iu (Jt I hg hm ?_ I0)
 obtain⟨μ,ρ,st,l,h⟩:=h
 have h':Wt X fs σ H fun vs H1=>∃μ1 st1 ws,Rl X μ1 ρ st1 σ H1/\RelWs X.K μ1 H1 ws vs/\RK X (uC X) μ1 σ H1 Q (if ws.length=n then F ws st1 else .bad):=
  ⟨μ,ρ,st,l,RK.bind h l fun μ1 st1 x v H1 p1 x1 l1 q1 h1=>⟨μ1,st1,x,l1,q1,h1⟩⟩
 refine PySem.W.callWith_K (h₀:=X.base) I.ok.mod.kin hkp (fJ (ha.h pos pins s σ H _ I h') fun us s1 ⟨vs,H1,I1,r,μ1,st1,ws,l1,r1,q⟩=>⟨I1.kIn,?_⟩) he rf
 by_cases c:ws.length=n
 ·rw[ar c]at q
  exact TQ Fo hn hr hb I1 l1.sto r1 r c q
 ·rw[az c]at q;exact q.elim⟩
end
theorem BS{w:World}{qual:Str}{st:Stmt}{f:Addr}{N:List Str}{k:Nat}{g:FS}(F:iZ K x qual st f fd)(S:bh N ps (aO st))(hn:ps.length=n)
  (zE:∀(fI:Value) (A:Around) (outer:List Env) (s:Shared) (H:Hp) (E:XK),fd.code=fI->gT k (A.deeper (envOfC qual (aO st) s.heap.objs.size f fI)) ->
   SB (zY (iX P w) P w K mg base N qual (aO st) f fI A outer s H E) (gC st) g):dw P w K mg base (iX P w) (k+1) f fd ps (ja K mg n (dq N.length g)):=by
 obtain⟨oc,od,kV,rg,pm,an,fI,ct,NY,rfl,lk,nX⟩:=F.ex
 refine Su lk nX S (fun vs H Q E h=>by rw[hn];exact h.1) fun A outer s H vs Q E hr RX=>?_
 obtain⟨hl,μ,ws,VY,Sr,r,h⟩:=RX
 refine⟨_,(zE fI A outer s H E rfl hr).h,μ,ws.map some++List.replicate (N.length-ws.length) none,VY,⟨?_,Sr⟩,?_⟩
 ·unfold qS
  rw[<- r.len]
  have base:∀(ws:List W) (vs:List V) (m:Nat),RelWs K μ H ws vs->Paired (fun(o:Option W) (s:Option V)=>∀w,o=some w->∃v,s=some v/\bj K μ H w v) (ws.map some++List.replicate m none) (vs.map some++List.replicate m none):=by
   intro ws
   induction ws with
   |nil=>
    intro vs m r
    rw[r.nilE]
    induction m with
    |zero=>exact .nil
    |succ m ih=>exact .cons (fun w z=>nomatch z) ih
   |cons w ws ih=>
    intro vs m r
    obtain⟨y,ys,rfl,ry,rys⟩:=r.consE
    exact .cons (fun w' z=>⟨y,rfl,by cases z;exact ry⟩) (ih ys m rys)
  exact base ws vs _ r
 ·unfold dq at h
  cases e:g (ws.map some++List.replicate (N.length-ws.length) none) VY with
  |rt w bG=>
   rw[e]at h
   intro μ' v H' p x S' jp
   obtain⟨μ2,p2,S2,r2⟩:=sE Sr S' p (.consI jp .nilI)
   obtain⟨_,e2,r3⟩:=r2.one
   cases e2
   exact h μ2 v H' p2 x S2 r3
  |nx ρ' bG=>
   rw[e]at h
   intro μ' σ' H' p x l'
   obtain⟨μ2,p2,S2,_⟩:=sE (ws:=[]) (vs:=[]) Sr l'.sto p .nilI
   exact h μ2 .non H' p2 x S2 .non
  |ex c ρ' bG=>
   rw[e]at h
   intro pins μ' σ' H' ev s' p x l' fl
   obtain⟨μ2,p2,S2,_⟩:=sE (ws:=[]) (vs:=[]) Sr l'.sto p .nilI
   exact fl.leaves rfl rfl fl.inv.ok.frames rfl fun C hC=>h C μ2 H' hC p2 x S2
  |bk ρ' bG=>rw[e]at h;exact h.elim
  |ct ρ' bG=>rw[e]at h;exact h.elim
  |bad=>rw[e]at h;exact h.elim
theorem bV{w:World}{qual:Str}{st:Stmt}{f:Addr}{N:List Str}{k:Nat}{g:FS}(F:iZ K x qual st f fd)(S:bh N ps (aO st))(hn:ps.length=n)
  (zE:∀(fI:Value) (A:Around) (outer:List Env) (s:Shared) (H:Hp) (E:XK),gT k (A.deeper (envOfC qual (aO st) s.heap.objs.size f fI)) ->
   SB (zY (iX P w) P w K mg base N qual (aO st) f fI A outer s H E) (gC st) g):dw P w K mg base (iX P w) (k+1) f fd ps (ja K mg n (dq N.length g)):=BS F S hn fun fI A outer s H E _ hr=>zE fI A outer s H E hr
theorem rM{w:World}{k:Nat}{st:Stmt}{f:Addr}{ps:List Str}
  (F:iZ K x x st f fd) (hm:mg x=some (.ref f)) (hn:ps.length=n)
  (hb:∀(kV rg pm:Value) (an:Option Addr) (fI ct:Value) (us:List Value),us.length=ps.length->bindArgs (fnOf x x (h9 st) (gC st) (aO st) .none kV rg pm an fI ct) ⟨us,[]⟩=pure (ps.zip us))
  (ok:dw P w K mg base (iX P w) k f fd ps (ja K mg n G)):dh P w K mg base k x n G:=⟨f,fd,ps,hm,F.kp,hn,F.binds hb,ok⟩
theorem RelWs.split:∀{as bs:List W} {vs:List V},RelWs K μ H (as++bs) vs->∃xs ys,vs=xs++ys/\RelWs K μ H as xs/\RelWs K μ H bs ys
 |[],_,vs,r=>⟨[],vs,rfl,.nilI,r⟩
 |w::as,bs,vs,r=>by
  obtain⟨x,xs,rfl,rx,rs⟩:=r.consE
  obtain⟨ys,zs,rfl,r1,r2⟩:=RelWs.split rs
  exact⟨x::ys,zs,rfl,.consI rx r1,r2⟩
section
variable{a b:Expr}{fa fb fe fo:FE}{fs:FA}
structure Kh(X:Cx)(id:String)(F:W->List W->List aj->R W):Prop where
 h:Dn X id (fun x vs H Q=>∃μ st wx ws,h_ X.K X.mg μ st H/\bj X.K μ H wx x/\RelWs X.K μ H ws vs/\Es X μ H Q (F wx ws st))
 n:∀x ws st,pe (F x ws st)
def oM(st:List aj):W->Bool
 |.loc n=>(match st[n]? with|some (.lst _)=>true|_=>false)
 |_=>false
def Fq:W->Bool
 |.str _=>true
 |_=>false
theorem yh{w:W}{v:V}(S:h_ X.K X.mg μ st H)(r:bj X.K μ H w v)(h:oM st w=true):∃l ys,v=.ref l/\H l=some (.lst ys):=by
 cases w with
 |loc n=>
  obtain⟨a,ha,rfl⟩:=r.locE
  simp only[oM]at h
  cases e1:st[n]? with
  |none=>rw[e1]at h;cases h
  |some cc=>
   rw[e1]at h
   cases cc with
   |lst ws=>obtain⟨a1,g1,vs,k1,_⟩:=S.get e1;rw[ha]at g1;cases g1;exact⟨_,vs,rfl,k1⟩
   |_=>cases h
 |_=>cases h
def nv(F:W->List W->List aj->R W)(fo:FE)(fs:FA):FE:=fun ρ st=>(fo ρ st).bind fun x st=>if oM st x then(fs ρ st).bind fun ws st=>F x ws st else .bad
def L4(F:W->List W->List aj->R W)(fo:FE)(fs:FA):FE:=fun ρ st=>(fo ρ st).bind fun x st=>if Fq x then(fs ρ st).bind fun ws st=>F x ws st else .bad
theorem Ki{F:W->List W->List aj->R W}(slot:Slot "list" name id)(zF:typeOf (.builtin id)=pure (.type "method_descriptor"))(hm:Kh X id F)(ho:SE X o fo)(ha:SA X (e::es) fs)
  (lU:attributeBase o name X.env (eval o X.env)=eval o X.env:=by rfl)
  (xp:((backTo cS (starEach (e::es) X.env)).all (fun x=>!x.1)&&(backToKw cS (keywordEach [] X.env)).all (fun x=>x.1.isSome)
   && decide ((e::es).length+([]:List Keyword).length+(if ([]:List Keyword).isEmpty then 0 else 1)<30))=true:=by rfl)
  (lS:(eV.endLine==cS.line)=true:=by rfl) (hs:starEach (e::es) X.env=(false,eval e X.env)::starEach es X.env:=by rfl) (mH:(backTo cS (starEach es X.env)).any (·.1)=false:=by rfl) :
  SE X (.Call (.Attribute o name eV) (e::es) [] cS) (nv F fo fs):=⟨(SZ slot zF hm.h ho.h ha.h lU xp lS hs mH).imp fun σ H Q h=>by
 obtain⟨μ,ρ,st,l,h⟩:=h
 refine⟨μ,ρ,st,l,RK.bind h l fun μ1 st1 x v H1 p1 x1 l1 q1 h1=>?_⟩
 by_cases c:oM st1 x=true
 ·rw[ar c]at h1
  refine⟨yh l1.sto q1 c,μ1,ρ,st1,l1,RK.bind h1 l1 fun μ2 cV ws vs H2 p2 x2 l2 q2 h2=>?_⟩
  exact⟨μ2,cV,x,ws,l2.sto,q1.mono p2 x2,q2,nG h2 (hm.n _ _ _)⟩
 ·rw[az c]at h1;exact h1.elim⟩
theorem TR{F:W->List W->List aj->R W}(slot:Slot "list" name id)(zF:typeOf (.builtin id)=pure (.type "method_descriptor"))(hm:Kh X id F)(ho:SE X o fo)
  (lU:attributeBase o name X.env (eval o X.env)=eval o X.env:=by rfl) (lS:(eV.endLine==cS.line)=true:=by rfl):SE X (.Call (.Attribute o name eV) [] [] cS) (nv F fo av):=⟨(OY slot zF hm.h ho.h lU lS).imp fun σ H Q h=>by
 obtain⟨μ,ρ,st,l,h⟩:=h
 refine⟨μ,ρ,st,l,RK.bind h l fun μ1 st1 x v H1 p1 x1 l1 q1 h1=>?_⟩
 by_cases c:oM st1 x=true
 ·rw[ar c]at h1
  exact⟨yh l1.sto q1 c,μ1,st1,x,[],l1.sto,q1,.nilI,nG h1 (hm.n _ _ _)⟩
 ·rw[az c]at h1;exact h1.elim⟩
theorem WC{F:W->List W->List aj->R W}(slot:Slot "str" name id)(zF:typeOf (.builtin id)=pure (.type "method_descriptor"))(hm:Kh X id F)(ho:SE X o fo)(ha:SA X (e::es) fs)
  (lU:attributeBase o name X.env (eval o X.env)=eval o X.env:=by rfl)
  (xp:((backTo cS (starEach (e::es) X.env)).all (fun x=>!x.1)&&(backToKw cS (keywordEach [] X.env)).all (fun x=>x.1.isSome)
   && decide ((e::es).length+([]:List Keyword).length+(if ([]:List Keyword).isEmpty then 0 else 1)<30))=true:=by rfl)
  (lS:(eV.endLine==cS.line)=true:=by rfl) (hs:starEach (e::es) X.env=(false,eval e X.env)::starEach es X.env:=by rfl) (mH:(backTo cS (starEach es X.env)).any (·.1)=false:=by rfl) :
  SE X (.Call (.Attribute o name eV) (e::es) [] cS) (L4 F fo fs):=⟨(S6 slot zF hm.h ho.h ha.h lU xp lS hs mH).imp fun σ H Q h=>by
 obtain⟨μ,ρ,st,l,h⟩:=h
 refine⟨μ,ρ,st,l,RK.bind h l fun μ1 st1 x v H1 p1 x1 l1 q1 h1=>?_⟩
 cases x with
 |str z=>
  rw[ar (show Fq (W.str z)=true from rfl)]at h1
  refine⟨⟨z,q1.strE⟩,μ1,ρ,st1,l1,RK.bind h1 l1 fun μ2 cV ws vs H2 p2 x2 l2 q2 h2=>?_⟩
  exact⟨μ2,cV,_,ws,l2.sto,q1.mono p2 x2,q2,nG h2 (hm.n _ _ _)⟩
 |_=>exact h1.elim⟩
def cM(x:W)(ws:List W)(st:List aj):R W:=match x,ws with
 |.loc n,[y]=>(match st[n]? with
  |some (.lst zs)=>if zs.length<ji then .ok .non (st.set n (.lst (zs++[y])))else .bad
  |_=>.bad)
 |_,_=>.bad
theorem vj:Kh X "list.append" cM:=⟨fun pins s σ H x vs v us Q I rv rus ⟨μ,st,wx,ws,S,rx,rs,q⟩=>by
 unfold cM at q
 split at q
 ·rename_i n y
  obtain⟨y1,rfl,ry⟩:=rs.one
  split at q
  ·rename_i zs e1
   split at q
   ·rename_i c
    obtain⟨a1,g1,vs,k1,r⟩:=S.get e1
    obtain⟨b1,f1,rfl⟩:=rx.locE
    rw[g1]at f1;cases f1
    refine Af pins s σ H _ _ v us Q I rv rus ⟨a1,vs,y1,rfl,rfl,k1,by rw[<- r.len];exact O7 (eL c),fun H2 e=>?_⟩
    subst e
    exact q μ _ _ (ah _) (eF.but fL k1) (S.set e1 g1 k1 (r.app (.consI ry .nilI))) .non
   ·exact q.elim
  ·exact q.elim
 ·exact q.elim,fun x ws st=>by
 unfold cM
 repeat' split
 all_goals trivial⟩
def qw(x:W)(ws:List W)(st:List aj):R W:=match x,ws with
 |.loc n,[]=>(match st[n]? with
  |some (.lst zs)=>pE zs.getLast? fun w=>.ok w (st.set n (.lst zs.dropLast))
  |_=>.bad)
 |_,_=>.bad
theorem Pt:Kh X "list.pop" qw:=⟨fun pins s σ H x vs v us Q I rv rus ⟨μ,st,wx,ws,S,rx,rs,q⟩=>by
 unfold qw at q
 split at q
 ·rename_i n
  have e0:=rs.nilE
  subst e0
  split at q
  ·rename_i zs e1
   obtain⟨a1,g1,vs,k1,r⟩:=S.get e1
   obtain⟨b1,f1,rfl⟩:=rx.locE
   rw[g1]at f1;cases f1
   cases hl:zs.getLast? with
   |none=>rw[hl]at q;exact q.elim
   |some w=>
    rw[hl]at q
    have hz:zs=zs.dropLast++[w]:=by
     obtain⟨ys,rfl⟩:=List.getLast?_eq_some_iff.mp hl
     simp
    rw[hz]at r
    obtain⟨xs',RV,hx,r1,r3⟩:=r.split
    obtain⟨y',rfl,r2⟩:=r3.one
    refine J4 pins s σ H _ _ v us Q I rv rus ⟨a1,xs',y',rfl,rfl,by rw[<- hx];exact k1,fun H2 e=>?_⟩
    subst e
    have xx:dP X.K H (eR H a1 (.lst xs')):=eF.but fL k1
    exact q μ _ _ (ah _) xx (S.set e1 g1 k1 r1) (r2.mono (ah _) xx)
  ·exact q.elim
 ·exact q.elim,fun x ws st=>by
 unfold qw pE
 repeat' split
 all_goals trivial⟩
noncomputable def pP(x:W)(ws:List W)(st:List aj):R W:=match x,ws with
 |.loc n,[.loc m]=>(match st[n]?,st[m]? with
  |some (.lst zs),some (.lst ys)=>if zs.length+ys.length<=ji then .ok .non (st.set n (.lst (zs++ys)))else .bad
  |_,_=>.bad)
 |_,_=>.bad
theorem vk:Kh X "list.extend" pP:=⟨fun pins s σ H x vs v us Q I rv rus ⟨μ,st,wx,ws,S,rx,rs,q⟩=>by
 unfold pP at q
 split at q
 ·rename_i n m
  obtain⟨y1,rfl,ry⟩:=rs.one
  split at q
  ·rename_i zs ys e1 e2
   split at q
   ·rename_i c
    obtain⟨a1,g1,vs1,k1,r1⟩:=S.get e1
    obtain⟨a2,g2,vs2,k2,r2⟩:=S.get e2
    obtain⟨b1,f1,rfl⟩:=rx.locE
    obtain⟨b2,f2,rfl⟩:=ry.locE
    rw[g1]at f1;cases f1
    rw[g2]at f2;cases f2
    refine Dp pins s σ H _ _ v us Q I rv rus ⟨a1,a2,vs1,vs2,rfl,rfl,k1,k2,by rw[<- r1.len,<- r2.len];exact i_ c,?_⟩
    exact q μ _ _ (ah _) (eF.but fL k1) (S.set e1 g1 k1 (r1.app r2)) .non
   ·exact q.elim
  ·exact q.elim
 ·exact q.elim,fun x ws st=>by
 unfold pP
 repeat' split
 all_goals trivial⟩
def mX:List W->Option (List (List Nat))
 |[]=>some []
 |.str l::ws=>(mX ws).map (l :: ·)
 |_=>none
theorem sF:∀{ws:List W} {ls:List (List Nat)} {vs:List V},mX ws=some ls->RelWs K μ H ws vs->vs=ls.map fun l=>V.str (tx l)
 |[],ls,vs,h,r=>by simp only[mX]at h;cases h;exact r.nilE
 |w::ws,ls,vs,h,r=>by
  obtain⟨x,xs,rfl,rx,rs⟩:=r.consE
  cases w with
  |str l=>
   simp only[mX]at h
   cases e:mX ws with
   |none=>rw[e]at h;cases h
   |some ls'=>rw[e]at h;cases h;rw[rx.strE,sF e rs];rfl
  |_=>simp only[mX]at h;cases h
theorem vm(ls:List (List Nat)):mX (ls.map W.str)=some ls:=by
 induction ls with
 |nil=>rfl
 |cons a r ih=>show(mX (r.map W.str)).map (a :: ·)=_;rw[ih];rfl
def oN(x:W)(ws:List W)(st:List aj):R W:=match x,ws with
 |.str sep,[.loc n]=>pE (lstOf st n) fun zs=>pE (mX zs) fun ls=>if (ls.map List.length).sum+ls.length*sep.length<=ji then .ok (.str (oJ sep ls)) st else .bad
 |_,_=>.bad
theorem Kj:Kh X "str.join" oN:=⟨fun pins s σ H x vs v us Q I rv rus ⟨μ,st,wx,ws,S,rx,rs,q⟩=>by
 unfold oN at q
 split at q
 ·rename_i sep n
  obtain⟨y1,rfl,ry⟩:=rs.one
  cases e1:lstOf st n with
  |none=>rw[e1]at q;exact q.elim
  |some zs=>
   rw[e1,cL]at q
   cases e2:mX zs with
   |none=>rw[e2]at q;exact q.elim
   |some ls=>
    rw[e2,cL]at q
    split at q
    ·rename_i c
     obtain⟨a,vs,g,hS,r⟩:=S.lstOf e1
     obtain⟨b1,f1,rfl⟩:=ry.locE
     rw[g]at f1;cases f1
     have:=sF e2 r
     subst this
     exact J0 pins s σ H _ _ v us Q I rv rus ⟨sep,_,ls,rx.strE,rfl,hS,aR c (by decide),pK S q⟩
    ·exact q.elim
 ·exact q.elim,fun x ws st=>by
 unfold oN
 split
 ·exact oK fun _=>oK fun _=>by split<;>trivial
 ·trivial⟩
end
def pi(cap:List (Option Nat))(ρ:bY):bY:=cap.map fun o=>o.bind fun j=>(ρ[j]?).join
theorem TU{ρ:bY}(r:Paired (fun(o:Option W) (s:Option V)=>∀w,o=some w->∃v,s=some v/\bj X.K μ H w v) ρ σ):∀cap:List (Option Nat),
  Paired (fun(o:Option W) (s:Option V)=>∀w,o=some w->∃v,s=some v/\bj X.K μ H w v) (pi cap ρ) (oI cap σ)
 |[]=>.nil
 |o::cap=>by
  refine .cons (fun w e=>?_) (TU r cap)
  cases o with
  |none=>cases e
  |some j=>
   have e':(ρ[j]?).join=some w:=e
   have e2:ρ[j]?=some (some w):=by
    cases h:ρ[j]? with
    |none=>rw[h]at e';cases e'
    |some ow=>rw[h]at e';simp at e';rw[e']
   obtain⟨v,g1,g2⟩:=pJ r e2
   exact⟨v,by show(σ[j]?).join=some v;rw[g1];rfl,g2⟩
open Classical in
def pQ(f:FG)(t:FT)(el:FE)(ck:Option (Nat×List W))(ρ0:bY):List W->List W->List aj->R (List W)
 |[],acc,st=>if j7 st ck then .ok acc st else .bad
 |w::ws,acc,st=>if j7 st ck then(match f w ρ0 with
  |none=>.bad
  |some ρ'=>(match t ρ' st with
   |.ok true st1=>(match el ρ' st1 with
    |.ok y cV=>pQ f t el ck ρ0 ws (acc++[y]) cV
    |_=>.bad)
   |.ok false st1=>pQ f t el ck ρ0 ws acc st1
   |_=>.bad))else .bad
def d9(cap:List (Option Nat))(fi:FI)(f:FG)(t:FT)(el:FE):FE:=fun ρ st=>(fi ρ st).bind fun k st=>if k.1.length<=ji then(pQ f t el k.2 (pi cap ρ) k.1 [] st).bind fun ys st=>nI ys st else .bad
def VI(X:Cx)(rel:List Addr->Hp->α->β->Prop)(f:bY->List aj->R α)(σ:St)(H:Hp)(Q:β->Hp->Prop):Prop:=
 ∃μ ρ st a bG,Rl X μ ρ st σ H/\f ρ st=.ok a bG/\∀μ' b H',μ <+: μ'->dP X.K H H'->h_ X.K X.mg μ' bG H'->rel μ' H' a b->Q b H'
def kI:FT:=fun _ st=>.ok true st
structure Pu(X:Cx)(es:List Expr)(f:FT):Prop where
 h:Jl X es (tT X f)
theorem Jl.imp{e:List Expr}{t t':TT}(h:Jl X e t)(i:∀σ H Q,t' σ H Q->t σ H Q):Jl X e t':=fun pins s σ H Q I q=>h pins s σ H Q I (i _ _ _ q)
theorem Kk:Pu X [] kI:=⟨JW.imp fun σ H Q h=>by
 obtain⟨μ,ρ,st,l,h⟩:=h
 exact h μ true H (ah _) dP.refl l.sto rfl⟩
theorem Kl{t:FT}(hc:ST X c t):Pu X [c] t:=⟨JX hc.h⟩
theorem Fs{fi:FI}{f:FG}{t:FT}{el:FE}{Q:VK}(h:tE X (d9 cap fi f t el) σ H Q) :
  vd cap (fun σ H R=>tG X (TN X) fi σ H R) (TL X f) (VI X O9 t) (VI X (uC X) el) σ H Q:=by
 obtain⟨μ,ρ,st,l,h⟩:=h
 refine⟨μ,ρ,st,l,RK.bind h l fun μ1 st1 k J H1 p1 x1 l1 wk h1=>?_⟩
 by_cases hz:k.1.length<=ji
 ·rw[ar hz]at h1
  refine⟨fun i m ys H'=>i<=k.1.length/\m=k.1.length-i/\ys.length<=i/\∃μ' acc bG,μ1 <+: μ'/\dP X.K H1 H'/\Rl X μ' ρ bG σ H'/\RelWs X.K μ' H' acc ys/\RK X (uC X) μ' σ H' Q ((pQ f t el k.2 (pi cap ρ) (k.1.drop i) acc bG).bind fun ys st=>nI ys st),
   ⟨_,cH _,rfl,aw _,μ1,[],st1,ah _,dP.refl,l1,.nilI,h1⟩,?_⟩
  rintro i m ys H' ⟨hi,rfl,hy,μ',acc,bG,pm,xm,lm,ra,hm⟩
  by_cases hlt:i<k.1.length
  ·rw[dJ hlt]at hm
   unfold pQ at hm
   by_cases ck:j7 bG k.2
   ·rw[ar ck]at hm
    obtain⟨go,yld⟩:=(wk i μ' bG H' pm xm lm.sto ck).1 _ (aa hlt)
    refine .inr ⟨go,fun x H2 hy2=>?_⟩
    obtain⟨y1,y2,y3⟩:=yld x H2 hy2
    cases hf:f k.1[i] (pi cap ρ)with
    |none=>rw[hf]at hm;exact hm.elim
    |some ρ2=>
     rw[hf]at hm
     simp only at hm
     have lb:Rl X μ' (pi cap ρ) bG (oI cap σ) H2:=⟨TU (lm.to (ah _) y1 y2).env cap,y2⟩
     refine⟨μ',pi cap ρ,bG,k.1[i],ρ2,lb,y3,hf,fun σ2 l2=>?_⟩
     cases ht:t ρ2 bG with
     |bad=>rw[ht]at hm;exact hm.elim
     |ex c s=>rw[ht]at hm;exact hm.elim
     |ok kk cV=>
      rw[ht]at hm
      refine⟨μ',ρ2,bG,kk,cV,l2,ht,fun μ3 b3 H3 p3 x3 S3 q3=>?_⟩
      cases q3
      cases kk with
      |false=>
       exact⟨_,by omega,hlt,rfl,by omega,μ3,acc,cV,pm.trans p3,xm.trans (y1.trans x3),lm.to p3 (y1.trans x3) S3,ra.mono p3 (y1.trans x3),RK.mono hm p3 (y1.trans x3)⟩
      |true=>
       rw[ar rfl]
       simp only at hm
       cases he:el ρ2 cV with
       |bad=>rw[he]at hm;exact hm.elim
       |ex c s=>rw[he]at hm;exact hm.elim
       |ok w ju=>
        rw[he]at hm
        refine⟨μ3,ρ2,cV,w,ju,l2.to p3 x3 S3,he,fun μ4 b4 H4 p4 x4 S4 q4=>?_⟩
        have pp:=p3.trans p4
        have xx:=y1.trans (x3.trans x4)
        exact⟨kw hy (aT hlt (i_ hz)),_,by omega,hlt,rfl,by simp;omega,μ4,acc++[w],ju,pm.trans pp,xm.trans xx,lm.to pp xx S4,(ra.mono pp xx).app (.consI q4 .nilI),RK.mono hm pp xx⟩
   ·rw[az ck]at hm;exact hm.elim
  ·have hi':i=k.1.length:=by omega
   subst hi'
   rw[mR (aw _)]at hm
   unfold pQ at hm
   by_cases ck:j7 bG k.2
   ·rw[ar ck]at hm
    obtain⟨z1,z2⟩:=sw lm.sto ra hm
    exact .inl ⟨(wk _ μ' bG H' pm xm lm.sto ck).2 (aw _),z1,fun p hp=>z2 p _ hp rfl⟩
   ·rw[az ck]at hm;exact hm.elim
 ·rw[az hz]at h1;exact h1.elim
section
variable{fi:FI}{f:FG}{t:FT}{el:FE}
theorem W9{X X':Cx}{f:FE}(hK:X'.K=X.K)(hm:X'.mg=X.mg)(h:SE X' e f):QE X' e (VI X (uC X) f):=⟨h.h.imp fun σ H Q ⟨μ,ρ,st,a,bG,l,e,q⟩=>⟨μ,ρ,st,⟨by rw[hK];exact l.env,by rw[hK,hm];exact l.sto⟩,by rw[e];exact fun μ' b H' p x S r=>q μ' b H' p (by rw[<- hK];exact x) (by rw[<- hK,<- hm];exact S) (by show bj X.K μ' H' a b;rw[<- hK];exact r)⟩⟩
theorem W_{X X':Cx}{e:List Expr}{f:FT}(hK:X'.K=X.K)(hm:X'.mg=X.mg)(h:Pu X' e f):Wq X' e (VI X O9 f):=⟨h.h.imp fun σ H Q ⟨μ,ρ,st,a,bG,l,e,q⟩=>⟨μ,ρ,st,⟨by rw[hK];exact l.env,by rw[hK,hm];exact l.sto⟩,by rw[e];exact fun μ' b H' p x S r=>q μ' b H' p (by rw[<- hK];exact x) (by rw[<- hK,<- hm];exact S) r⟩⟩
theorem W'{X X':Cx}(hK:X'.K=X.K)(hm:X'.mg=X.mg)(h:SG X' e f):QG X' e (TL X f):=⟨h.h.imp fun v σ H Q ⟨μ,ρ,st,w,ρ',l,r,e,q⟩=>⟨μ,ρ,st,w,ρ',⟨by rw[hK];exact l.env,by rw[hK,hm];exact l.sto⟩,by rw[hK];exact r,e,fun σ' l'=>q σ' ⟨by rw[<- hK];exact l'.env,by rw[<- hK,<- hm];exact l'.sto⟩⟩⟩
theorem Pv(hB:xW X.env.scope.names scope.names nm cap X.N=true)(jd:X.env.cells=cellsFrom m X.env.scope.names [])(hi:SI X tg iter fi)(hg:∀cl C s0 H0 fp,SG (bT X nm scope cl C s0 H0 fp) tg f)(ht:∀cl C s0 H0 fp,Pu (bT X nm scope cl C s0 H0 fp) mf t)
  (he:∀cl C s0 H0 fp,SE (bT X nm scope cl C s0 H0 fp) oB el) (iD:X.calm=true:=by rfl) (hZ:scope.kind=.function:=by rfl) (hs:∀x,foldedSetIterable iter X.env x=pure x:=by intro _;rfl) :
  SE X (.ListComp oB [⟨tg,iter,mf,0⟩] scope pos) (d9 cap fi f t el):=
 ⟨(O0 iD jd hZ hB ⟨hi.h⟩ (fun cl C s0 H0 fp=>W' (X:=X) rfl rfl (hg cl C s0 H0 fp)) (fun cl C s0 H0 fp=>W_ (X:=X) rfl rfl (ht cl C s0 H0 fp)) (fun cl C s0 H0 fp=>W9 (X:=X) rfl rfl (he cl C s0 H0 fp)) hs).h.imp fun _ _ _ h=>Fs h⟩
theorem An{x0:Str}{p0 p1:Pos}(RM:SG X (.Name x0 p0) (dY i))(hB:xW X.env.scope.names scope.names nm cap X.N=true)(jd:X.env.cells=cellsFrom m X.env.scope.names [])(hi:SI X tg iter fi)(hg:∀cl C s0 H0 fp,SG (bT X nm scope cl C s0 H0 fp) tg f)(ht:∀cl C s0 H0 fp,Pu (bT X nm scope cl C s0 H0 fp) mf t)
  (he:∀cl C s0 H0 fp,SE (bT X nm scope cl C s0 H0 fp) oB el) (iD:X.calm=true:=by rfl) (hZ:scope.kind=.function:=by rfl) (hs:∀x,foldedSetIterable iter X.env x=pure x:=by intro _;rfl)
  (Ry:swapsWith (.ListComp oB [⟨tg,iter,mf,0⟩] scope pos) (some (.Name x0 p0)) p1.line X.env=pure true:=by first|rfl|kernel_rfl) :
  SS X (.Assign [.Name x0 p0] (.ListComp oB [⟨tg,iter,mf,0⟩] scope pos) p1) (sB (d9 cap fi f t el) (dY i)):=
 ⟨(Ah ⟨RM.h⟩ iD jd hZ hB ⟨hi.h⟩ (fun cl C s0 H0 fp=>W' (X:=X) rfl rfl (hg cl C s0 H0 fp)) (fun cl C s0 H0 fp=>W_ (X:=X) rfl rfl (ht cl C s0 H0 fp)) (fun cl C s0 H0 fp=>W9 (X:=X) rfl rfl (he cl C s0 H0 fp)) hs Ry).h.imp fun D σ H h=>by
  obtain⟨μ,ρ,st,l,h⟩:=h
  have h':tE X (d9 cap fi f t el) σ H fun x H1=>TL X (dY i) x σ H1 D.nx:=⟨μ,ρ,st,l,RK.stmt h l fun μ1 st1 x v H1 p1 x1 l1 q1 h1=>⟨μ1,ρ,st1,x,ρ.set i (some x),l1,q1,rfl,fun σ' l'=>h1 μ1 σ' H1 (ah _) dP.refl l'⟩⟩
  exact Fs h'⟩
end
section
variable{a b:Expr}{fa fb fc fe fo:FE}{fs:FA}
theorem vn{mG:List V}(hr:∀μ H,RelWs X.K μ H ws mG):Am X (VD mG) (ws,none) μ H:=fun i μ' bG H' pp xx S _=>by
 have hl:ws.length=mG.length:=(hr μ H).len
 refine⟨fun w hw=>?_,fun h=>by show mG.length<=i;rw[<- hl];exact h⟩
 obtain⟨v,g1,g2⟩:=(hr μ' H').get hw
 refine⟨(ac.mp g1).1,fun y H'' hy=>?_⟩
 obtain⟨rfl,hy⟩:=hy
 rw[g1]at hy;cases hy
 exact⟨dP.refl,S,g2⟩
def lf(l:List Nat):List W:=l.map fun c=>.str [c]
theorem DM(l:List Nat)(μ:List Addr)(H:Hp):RelWs X.K μ H (lf l) (o1 l):=by
 induction l with
 |nil=>exact .nilI
 |cons a r ih=>exact .consI .str ih
def L5(fe:FE):FI:=fun ρ st=>(fe ρ st).bind fun x st=>match x with
 |.str l=>.ok (lf l,none) st
 |_=>.bad
theorem Pw(he:SE X e fe):SI X tg e (L5 fe):=⟨(OV he.h).imp fun σ H R h=>by
 obtain⟨μ,ρ,st,l,h⟩:=h
 refine⟨μ,ρ,st,l,RK.bind h l fun μ1 st1 x v H1 p1 x1 l1 q1 h1=>?_⟩
 cases x with
 |str z=>exact⟨z,q1.strE,h1 μ1 _ H1 (ah _) dP.refl l1.sto (vn (DM z))⟩
 |_=>exact h1.elim⟩
def cF(fe:FE):FI:=fun ρ st=>(fe ρ st).bind fun x st=>match x with
 |.tup ws=>.ok (ws,none) st
 |.loc n=>(match lstOf st n with
  |some ws=>.ok (ws,some (n,ws)) st
  |none=>.bad)
 |.str l=>.ok (lf l,none) st
 |_=>.bad
theorem Px(he:SE X e fe):SI X tg e (cF fe):=⟨fun pins s σ H Rr I h=>by
 obtain⟨μ,ρ,st,l,h⟩:=h
 cases e1:fe ρ st with
 |bad=>simp only[cF,e1,R.bind_bad]at h;exact h.elim
 |ex c st1=>
  refine(Fm (tg:=tg) he).h pins s σ H Rr I ⟨μ,ρ,st,l,?_⟩
  simp only[cF,Fl,e1,R.bind_ex]at h ⊢;exact h
 |ok w st1=>
  cases w with
  |tup ws=>
   refine(Fm (tg:=tg) he).h pins s σ H Rr I ⟨μ,ρ,st,l,?_⟩
   simp only[cF,Fl,e1,R.bind_ok]at h ⊢;exact h
  |loc n=>
   refine(Ps (tg:=tg) he).h pins s σ H Rr I ⟨μ,ρ,st,l,?_⟩
   simp only[cF,LZ,e1,R.bind_ok]at h ⊢;exact h
  |str z=>
   refine(Pw (tg:=tg) he).h pins s σ H Rr I ⟨μ,ρ,st,l,?_⟩
   simp only[cF,L5,e1,R.bind_ok]at h ⊢;exact h
  |_=>simp only[cF,e1,R.bind_ok]at h;exact h.elim⟩
def i6(ws:List W):List W:=(List.range ws.length).map fun(i:Nat)=>W.tup [.int i,ws.getD i .non]
theorem lD{w:W}(h:(i6 ws)[i]?=some w):∃y,ws[i]?=some y/\w=.tup [.int i,y]:=by
 unfold i6 at h
 rw[ak]at h
 by_cases hi:i<ws.length
 ·rw[g_ hi]at h
  refine⟨ws[i],aa hi,?_⟩
  have:=(aY h).symm
  rw[this]
  show W.tup [W.int i,ws.getD i W.non]=_
  rw[ay,aa hi];rfl
 ·rw[gy (by simpa using hi)]at h;cases h
theorem qx(ws:List W):(i6 ws).length=ws.length:=by simp[i6]
def mq(fs:FA):FI:=fun ρ st=>(fs ρ st).bind fun ws st=>match ws with
 |[.tup zs]=>.ok (i6 zs,none) st
 |_=>.bad
theorem wd{mF:List Expr}{kk:Nat}{tp:Pos}(hm:X.mg "enumerate"=none)(ha:SA X [a] fs)(hg:Gl X "enumerate":=by rfl)(hs:starEach [a] X.env=[(false,eval a X.env)]:=by rfl) :
  SI X (.Tuple mF kk tp) (.Call (.Name "enumerate" p) [a] [] pos) (mq fs):=⟨(E6 hm ⟨ha.h⟩ hg hs).h.imp fun σ H R h=>by
 obtain⟨μ,ρ,st,l,h⟩:=h
 refine⟨μ,ρ,st,l,RK.bind h l fun μ1 st1 x v H1 p1 x1 l1 q1 h1=>?_⟩
 split at h1
 ·rename_i zs
  obtain⟨y,rfl,ry⟩:=q1.one
  obtain⟨p,vs,rfl,hS,r⟩:=ry.tupE
  refine⟨p,rfl,⟨vs,hS⟩,h1 μ1 _ H1 (ah _) dP.refl l1.sto fun i μ' bG H' pp xx S _=>⟨fun w hw=>?_,fun hl=>⟨vs,xx _ _ hS,by rw[qx]at hl;rw[<- r.len];exact hl⟩⟩⟩
  obtain⟨y,hy,rfl⟩:=lD hw
  have r':=r.mono pp xx
  obtain⟨v,g1,g2⟩:=r'.get hy
  refine⟨⟨vs,v,xx _ _ hS,g1⟩,fun z H'' hz=>?_⟩
  obtain⟨q,hq,rfl,hH⟩:=hz
  have e:=hH vs v (xx _ _ hS) g1
  subst e
  have ex:=eF.same (K:=X.K) (cx hq (.tup [.int i,v]))
  exact⟨ex,S.same (cx hq _),.tupI eF.new (.consI .int (.consI (g2.mono (ah _) ex) .nilI))⟩
 ·exact h1.elim⟩
def sH(f f':W->W->List aj->R W)(fa fb fc:FE):FE:=fun ρ st=>(fa ρ st).bind fun x st=>(fb ρ st).bind fun y st=>(f x y st).bind fun z st=>match z with
 |.bl true=>(fc ρ st).bind fun w st=>f' y w st
 |.bl false=>.ok (.bl false) st
 |_=>.bad
theorem Km{Q:VK}(n:∀x y st,pe (f x y st))(n':∀x y st,pe (f' x y st))(h:tE X (sH f f' fa fb fc) σ H Q):EJ (Tg X f) (Tg X f') (tE X fa) (tE X fb) (tE X fc) σ H Q:=by
 obtain⟨μ,ρ,st,l,h⟩:=h
 refine⟨μ,ρ,st,l,RK.bind h l fun μ1 st1 x v H1 p1 x1 l1 q1 h1=>⟨μ1,ρ,st1,l1,RK.bind h1 l1 fun μ2 cV y u H2 p2 x2 l2 q2 h2=>⟨μ2,cV,x,y,l2.sto,q1.mono p2 x2,q2,nG (σ:=σ) (RK.bind h2 l2 fun μ3 ju z t H3 p3 x3 l3 q3 h3=>?_) (n _ _ _)⟩⟩⟩
 cases z with
 |bl k=>
  refine⟨k,q3.blE,?_⟩
  cases k with
  |false=>exact h3 μ3 _ H3 (ah _) dP.refl l3.sto .bl
  |true=>
   refine⟨μ3,ρ,ju,l3,RK.bind h3 l3 fun μ4 LI w s H4 p4 x4 l4 q4 h4=>?_⟩
   exact⟨μ4,LI,y,w,l4.sto,(q2.mono p3 x3).mono p4 x4,q4,nG h4 (n' _ _ _)⟩
 |_=>exact h3.elim
theorem Kn{Rs:CmpOp}(ho:pf X (compareOp op) f)(qN:pf X (compareOp Rs) f')(ha:SE X a fa)(hb:SE X b fb)(hc:SE X c fc)(hm:lastMarks [op,Rs] [b,c]=false:=by with_unfolding_all rfl):SE X (.Compare a [op,Rs] [b,c] pos) (sH f f' fa fb fc):=⟨(EK ho.h qN.h ha.h hb.h hc.h hm).imp fun _ _ _ h=>Km ho.n qN.n h⟩
def Ao(fa:FE):FE:=fun ρ st=>(fa ρ st).bind fun x st=>match x with
 |.int i=>.ok (.int (-i)) st
 |_=>.bad
theorem TV(ha:SE X a fa):SE X (.UnaryOp .USub a pos) (Ao fa):=⟨(Sk OI ha.h).imp fun σ H Q h=>by
 obtain⟨μ,ρ,st,l,h⟩:=h
 refine⟨μ,ρ,st,l,RK.bind h l fun μ1 st1 x v H1 p1 x1 l1 q1 h1=>?_⟩
 cases x with
 |int k=>exact⟨k,q1.intE,h1 μ1 _ H1 (ah _) dP.refl l1.sto .int⟩
 |_=>exact h1.elim⟩
def Ap(x y:W)(st:List aj):R W:=match x,y with
 |.int i,.int j=>.ok (.bl (decide (i<=j))) st
 |.str [c],.str [d]=>.ok (.bl (decide (c<=d))) st
 |_,_=>.bad
theorem BU:pf X (compareOp .LtE) Ap:=⟨fun pins s σ H x y v u Q I rv ru ⟨μ,st,wx,wy,S,rx,ry,q⟩=>by
 unfold Ap at q
 split at q
 ·exact Sm pins s σ H x y v u Q I rv ru ⟨_,_,rx.intE,ry.intE,ik S q⟩
 ·exact Dz pins s σ H x y v u Q I rv ru ⟨_,_,rx.strE,ry.strE,ik S q⟩
 ·exact q.elim,fun x y st=>by unfold Ap;split<;>trivial⟩
end
theorem Aq:∀{l m:List Nat},l.Pairwise (· < ·)->m.Pairwise (· < ·)->(∀x,x∈l↔x∈m)->l=m
 |[],[],_,_,_=>rfl
 |[],b::m,_,_,h=>by have:=(h b).mpr (by simp);simp at this
 |a::l,[],_,_,h=>by have:=(h a).mp (by simp);simp at this
 |a::l,b::m,h1,h2,h=>by
  obtain⟨p1,p2⟩:=cy.mp h1
  obtain⟨q1,q2⟩:=cy.mp h2
  have e:a=b:=by
   rcases a_.mp ((h a).mp (by simp))with z|z
   ·exact z
   ·rcases a_.mp ((h b).mpr (by simp))with y|y
    ·exact y.symm
    ·have:=p1 b y;have:=q1 a z;omega
  subst e
  rw[Aq p2 q2 fun x=>?_]
  constructor
  ·intro hx
   rcases a_.mp ((h x).mp (aD _ hx))with z|z
   ·subst z;exact absurd (p1 x hx) (bH _)
   ·exact z
  ·intro hx
   rcases a_.mp ((h x).mpr (aD _ hx))with z|z
   ·subst z;exact absurd (q1 x hx) (bH _)
   ·exact z
def Ar(c:List Nat):List (List Nat)->List (List Nat)
 |[]=>[c]
 |d::r=>if c<d then c::d::r else d::Ar c r
def kQ(l:List (List Nat)):List (List Nat):=l.foldr Ar []
theorem qy(c:List Nat):∀l:List (List Nat),(Ar c l).Perm (c::l)
 |[]=>kC _
 |d::r=>by
  unfold Ar
  split
  ·exact kC _
  ·exact((qy c r).cons d).trans (List.Perm.swap c d r)
theorem im(l:List (List Nat)):(kQ l).Perm l:=by
 induction l with
 |nil=>exact kC _
 |cons a r ih=>exact(qy a _).trans (ih.cons a)
def Ko:List (List Nat)->Prop:=List.Pairwise fun a b=>¬ b<a
theorem BV(c:List Nat):∀{l:List (List Nat)},Ko l->Ko (Ar c l)
 |[],_=>by simp[Ar,Ko]
 |d::r,h=>by
  obtain⟨h1,h2⟩:=cy.mp h
  unfold Ar
  split
  ·rename_i hc
   refine cy.mpr ⟨fun x hx=>?_,h⟩
   rcases a_.mp hx with rfl|hx
   ·exact fun z=>List.lt_irrefl _ (List.lt_trans z hc)
   ·exact fun z=>h1 x hx (List.lt_trans z hc)
  ·rename_i hc
   refine cy.mpr ⟨fun x hx=>?_,BV c h2⟩
   rcases a_.mp ((qy c r).mem_iff.mp hx)with rfl|hx
   ·exact hc
   ·exact h1 x hx
theorem yi(l:List (List Nat)):Ko (kQ l):=by
 induction l with
 |nil=>exact List.Pairwise.nil
 |cons a r ih=>exact BV a ih
theorem we:∀{l m:List (List Nat)},Ko l->Ko m->l.Perm m->l=m
 |[],m,_,_,h=>(List.Perm.nil_eq h)
 |a::l,[],_,_,h=>(by have:=h.length_eq;simp at this)
 |a::l,b::m,h1,h2,h=>by
  obtain⟨p1,p2⟩:=cy.mp h1
  obtain⟨q1,q2⟩:=cy.mp h2
  have e:a=b:=by
   rcases a_.mp (h.mem_iff.mp (by simp:a∈a::l))with z|z
   ·exact z
   ·rcases a_.mp (h.mem_iff.mpr (by simp:b∈b::m))with y|y
    ·exact y.symm
    ·exact List.le_antisymm (show a<=b from p1 b y) (show b<=a from q1 a z)
  subst e
  rw[we p2 q2 (List.perm_cons a |>.mp h)]
theorem sI:∀{zs:List (List Nat)},sortedS (zs.map tx)=true->Ko zs:=by
 have key:∀(zs:List (List Nat)) (p:List Nat),risingS (tx p) (zs.map tx)=true->Ko (p::zs):=by
  intro zs
  induction zs with
  |nil=>intro p _;simp[Ko]
  |cons a r ih=>
   intro p h
   have h':(!ltCps a p&&risingS (tx a) (r.map tx))=true:=h
   rw[bw,iM,ltCps_eq,decide_eq_false_iff_not]at h'
   have u:=ih a h'.2
   refine cy.mpr ⟨fun x hx=>?_,u⟩
   rcases a_.mp hx with rfl|hx
   ·exact h'.1
   ·have:=(cy.mp u).1 x hx
    exact List.not_lt.mpr (List.le_trans (List.not_lt.mp h'.1) (List.not_lt.mp this))
 intro zs h
 cases zs with
 |nil=>exact List.Pairwise.nil
 |cons a r=>exact key r a h
section
variable{a b:Expr}{fa fb fc fe fo:FE}{fs:FA}
def n_(ws:List W)(st:List aj):R W:=match ws with
 |[.loc n]=>pE (lstOf st n) fun zs=>pE (mX zs) fun ls=>if ls.length<64 then .ok (.loc st.length) (st++[.lst ((kQ ls).map W.str)])else .bad
 |_=>.bad
theorem yj(ls:List (List Nat)):RelWs K μ H (ls.map W.str) (ls.map fun l=>V.str (tx l)):=by
 induction ls with
 |nil=>exact .nilI
 |cons a r ih=>exact .consI .str ih
theorem yk:kO X (.builtin "sorted") n_:=⟨fun pins s σ H vs us Q I rv ⟨μ,st,ws,S,r,q⟩=>by
 unfold n_ at q
 split at q
 ·rename_i n
  obtain⟨y,rfl,ry⟩:=r.one
  cases e1:lstOf st n with
  |none=>rw[e1]at q;exact q.elim
  |some zs=>
   rw[e1,cL]at q
   cases e2:mX zs with
   |none=>rw[e2]at q;exact q.elim
   |some ls=>
    rw[e2,cL]at q
    split at q
    ·rename_i c
     obtain⟨a,vs,g,hS,rz⟩:=S.lstOf e1
     obtain⟨b1,f1,rfl⟩:=ry.locE
     rw[g]at f1;cases f1
     have:=sF e2 rz
     subst this
     refine uz.h pins s σ H _ us Q I rv ⟨_,ls,rfl,hS,c,fun zs hp hs l H2 hl eH=>?_⟩
     subst eH
     have ez:zs=kQ ls:=we (sI hs) (yi ls) (hp.trans (im ls).symm)
     subst ez
     exact q (μ++[l]) _ _ (ax _ _) (eF.same (cx hl _)) (S.newLst hl (yj _)) (mj S)
    ·exact q.elim
 ·exact q.elim,fun ws st=>by
 unfold n_
 split
 ·exact oK fun _=>oK fun _=>by split<;>trivial
 ·trivial⟩
theorem lg{m l:List Nat}(hm:m.Nodup)(h:∀c∈m,c∈l):m.length<=l.length:=by
 induction m generalizing l with
 |nil=>exact cH _
 |cons a r ih=>
  obtain⟨h1,h2⟩:=eE.mp hm
  have ha:a∈l:=h a (by simp)
  have:=ih h2 (l:=l.erase a) fun c hc=>by
   have:c≠a:=fun z=>h1 (z▸hc)
   exact(List.mem_erase_of_ne this).mpr (h c (aD _ hc))
  rw[List.length_erase_of_mem ha]at this
  have:0<l.length:=gj ha
  simp;omega
end
def W.ty:W->Option String
 |.non=>some "NoneType" | .bl _=>some "bool" | .int _=>some "int" | .str _=>some "str" | .tup _=>some "tuple" | .loc _=>none
def Kp(t T:String):Bool:=(t==T)||(t == "bool" && T == "int")
theorem TW{K:Frag}{T:String}(h:E3 T){w:W}{t:String}(hw:w.ty=some t):PySem.W.kitOne K (.type t) (.type T)=some (Kp t T):=by
 cases w<;>simp only[W.ty]at hw<;>cases hw<;>(rcases h with rfl|rfl|rfl|rfl<;>rfl)
def oE(T:String)(fa:FE):FE:=fun ρ st=>(fa ρ st).bind fun x st=>match x.ty with
 |some t=>.ok (.bl (Kp t T)) st
 |none=>.bad
section
variable{a b:Expr}{fa fb fc fe fo:FE}{fs:FA}
theorem BW{T:String}{xT:Str}(hm:X.mg "isinstance"=none)(hT:X.mg xT=none)(hv:bootBuiltins xT=some (.type T))(ha:SE X a fa)(hk:E3 T:=by first|exact .inl rfl|exact .inr (.inl rfl)|exact .inr (.inr (.inl rfl))|exact .inr (.inr (.inr rfl)))
  (hg:Gl X "isinstance":=by rfl) (XX:Gl X xT:=by rfl) (hn:xT ≠ "__name__":=by decide) (hd:(xT==("__debug__":Str))=false:=by decide)
  (he:starEach [a,.Name xT p2] X.env=(false,eval a X.env)::starEach [.Name xT p2] X.env:=by rfl) (Vy:starEach [.Name xT p2] X.env=(false,eval (.Name xT p2) X.env)::starEach [] X.env:=by rfl) (rf:(backTo pos (starEach [.Name xT p2] X.env)).any (·.1)=false:=by rfl) :
  SE X (.Call (.Name "isinstance" p) [a,.Name xT p2] [] pos) (oE T fa):=by
 have C:iA X (.builtin "isinstance") (fun xs H Q=>∃x μ st w t,xs=[x,.ty T]/\h_ X.K X.mg μ st H/\bj X.K μ H w x/\w.ty=some t/\Q (.bl (Kp t T)) H):=by
  intro pins s σ H xs us Q I r h
  obtain⟨x,μ,st,w,t,rfl,S,rx,ht,q⟩:=h
  obtain⟨u,u2,rfl,r1,r2⟩:=cv.two r
  obtain rfl:u2=.type T:=r2
  have e:=TW (K:=X.K) hk ht
  cases w with
  |tup ws=>
   cases ht
   obtain⟨p,vs,rfl,hS,_⟩:=rx.tupE
   cases(show u=Value.ref p from r1)
   obtain⟨bn,_,hp,_⟩:=I.tuple hS
   obtain⟨o,h1,h2,_⟩:=hp
   exact kia_one PySem.W.kitx_tuple I.kIn ⟨o,h1,h2⟩ e (fun z=>nomatch z) fun tk=>⟨.bl _,H,I.tok tk,rfl,q⟩
  |non=>cases ht;cases rx.nonE;exact n6 I r1 .non e fun tk=>⟨.bl _,H,I.tok tk,rfl,q⟩
  |bl b=>cases ht;cases rx.blE;exact n6 I r1 (.bl _) e fun tk=>⟨.bl _,H,I.tok tk,rfl,q⟩
  |int b=>cases ht;cases rx.intE;exact n6 I r1 (.int _) e fun tk=>⟨.bl _,H,I.tok tk,rfl,q⟩
  |str b=>cases ht;cases rx.strE;exact n6 I r1 (.str _) e fun tk=>⟨.bl _,H,I.tok tk,rfl,q⟩
  |loc b=>cases ht
 refine⟨(xM C hg hm boot_isinstance (rK ha.h (rK (Ju XX hT hv (v:=.ty T) rfl hn hd) zX Vy) he) (by decide) (by decide) he rf).imp fun σ H Q h=>?_⟩
 obtain⟨μ,ρ,st,l,h⟩:=h
 refine⟨μ,ρ,st,l,RK.bind h l fun μ1 st1 x v H1 p1 x1 l1 q1 h1=>?_⟩
 cases ht:x.ty with
 |none=>rw[ht]at h1;exact h1.elim
 |some t=>
  rw[ht]at h1
  exact⟨v,μ1,st1,x,t,rfl,l1.sto,q1,ht,h1 μ1 _ H1 (ah _) dP.refl l1.sto .bl⟩
theorem Ft{w:World}{k:Nat}{st:Stmt}{f:Addr}{ps:List Str}
  (F:iZ K x x st f fd) (hm:mg x=some (.ref f)) (hn:ps.length=n)
  (hb:∀(kV rg pm:Value) (an:Option Addr) (fI ct:Value) (us:List Value),us.length=ps.length->bindArgs (fnOf x x (h9 st) (gC st) (aO st) .none kV rg pm an fI ct) ⟨us,[]⟩=pure (ps.zip us)) :
  dh P w K mg base k x n (fun _ _=>.bad):=rM F hm hn hb ⟨fun vs H Q E h=>by rw[hn];exact h.1,fun _ _ _ _ _ _ _ _ _ _ _ _ _ h=>by obtain⟨_,_,_,_,_,_,z⟩:=h;exact z.elim⟩
end
section
end
open AutoSeq1 (wpAny_loadPart')
theorem yl(l:Addr)(items:Array Value)(n:Nat)(b:Addr)(g6:Array Value)(n2:Nat)(dd:Option Addr)(sl:Array (Option Value))(LJ:¬(!items.isEmpty&&Builtin.List.listTooLong (items.size+g6.size))=true)(rH:items.size<=sizeLine)(xz:items.size+g6.size<=sizeLine+1) :
  Meets (Builtin.«list.extend» ⟨[.ref l,.ref b],[]⟩) (fun _ R s=>s.heap.get? l=some { cls:=.type "list",dict:=none,data:=.seq items n,slots:=#[] }/\s.heap.get? b=some { cls:=.type "tuple",dict:=dd,data:=.seq g6 n2,slots:=sl }
   /\ R (.ok (.ret Value.none)) { s with heap:=s.heap.update l (Obj.mapSeq fun x=>x++g6),toks:=s.toks }):=
 .of_wp fun prog w A R s h=>by
  have g1:=AutoSeq1.idx_int
  have g2:=li
  have g3:=AutoSeq1.sub_list_list
  have g4:=AutoSeq1.sub_tuple_list
  have g5:=AutoSeq1.sub_list_tuple
  obtain⟨hp,gl,ds,tk,os⟩:=s
  obtain⟨ha,hb,q⟩:=h
  have fits:(items++g6).size<=sizeLine+1:=by
   rw[Array.size_append]
   exact xz
  wp_walk using (jE ha rfl (hz:=rH) (_hz':=fits)),bA ha,bA hb
  exact⟨_,rfl,q⟩
def Fu(K:Frag):V->List V->Hp->VK->Prop:=fun x vs H Q=>∃l b xs zs,x=.ref l/\vs=[.ref b]/\H l=some (.lst xs)/\eF K H b zs/\xs.length+zs.length<=sizeLine/\Q .non (eR H l (.lst (xs++zs)))
section
theorem As:SH X "list.extend" (Fu X.K):=by
 intro pins s σ H x vs v us Q I rx rv h
 obtain⟨l,b,xs,zs,rfl,rfl,hH,hB,hz,q⟩:=h
 cases rx
 obtain⟨u,rfl,ru⟩:=rv.one
 cases ru
 obtain⟨z,bn,n,r,hl,e⟩:=I.lstM hH
 obtain⟨its2,r2,⟨o,e2,hc,n2,hd⟩,z2⟩:=I.tuple hB
 have hl2:=r2.length
 have hsz:bn.toArray.size+its2.toArray.size<=sizeLine:=by rw[aF,aF];omega
 have hlong:¬ (!bn.toArray.isEmpty&&Builtin.List.listTooLong (bn.toArray.size+its2.toArray.size))=true:=by
  rw[xO hsz,Bool.and_false]
  exact bK
 obtain⟨cls,dd,data,sl⟩:=o
 dsimp only at hc hd
 subst hc hd
 refine ku F.slot_list_extend ⟨_,e,rfl⟩ F.entry_list_extend (F.args_list_extend_2 _ _)
  (yl l bn.toArray n b its2.toArray n2 dd sl hlong (by rw[aF];omega) (by omega)) ⟨e,e2,?_⟩
 refine⟨.non,_,I.lset (its':=bn++its2) hH e (by simp) (r.append r2) ?_,rfl,q⟩
 rw[aB]
 omega
noncomputable def gG(x:W)(ws:List W)(st:List aj):R W:=match x,ws with
 |.loc n,[.tup ys]=>(match st[n]? with
  |some (.lst zs)=>if zs.length+ys.length<=ji then .ok .non (st.set n (.lst (zs++ys)))else .bad
  |_=>.bad)
 |_,_=>pP x ws st
theorem Au:Kh X "list.extend" gG:=⟨fun pins s σ H x vs v us Q I rv rus ⟨μ,st,wx,ws,S,rx,rs,q⟩=>by
 unfold gG at q
 split at q
 ·rename_i n ys
  obtain⟨y1,rfl,ry⟩:=rs.one
  split at q
  ·rename_i zs e1
   split at q
   ·rename_i c
    obtain⟨a1,g1,vs1,k1,r1⟩:=S.get e1
    obtain⟨b1,f1,rfl⟩:=rx.locE
    rw[g1]at f1;cases f1
    obtain⟨p,vs2,rfl,hS,r2⟩:=ry.tupE
    refine As pins s σ H _ _ v us Q I rv rus ⟨a1,p,vs1,vs2,rfl,rfl,k1,hS,by rw[<- r1.len,<- r2.len];exact i_ c,?_⟩
    exact q μ _ _ (ah _) (eF.but fL k1) (S.set e1 g1 k1 (r1.app r2)) .non
   ·exact q.elim
  ·exact q.elim
 ·exact vk.h pins s σ H x vs v us Q I rv rus ⟨μ,st,wx,ws,S,rx,rs,q⟩,fun x ws st=>by
 unfold gG
 split
 ·repeat' split
  all_goals trivial
 ·exact(vk (X:=X)).n x ws st⟩
end
section
variable{a b:Expr}{fa fb fe fo:FE}{fs:FA}
theorem Fv(xs:List α)(k:Nat)(y:α):((xs.toArray.extract 0 k).push y++xs.toArray.extract k).toList=xs.take k++y::xs.drop k:=by
 simp
 exact bZ (by simp)
def Kq:V->List V->Hp->VK->Prop:=fun x vs H Q=>∃(l:Addr) (xs:List V) (k:Nat) (y:V),x=.ref l/\vs=[.int k,y]/\H l=some (.lst xs)/\k<=xs.length/\xs.length+1<=sizeLine/\k<1000000/\Q .non (eR H l (.lst (xs.take k++y::xs.drop k)))
theorem DN:SH X "list.insert" Kq:=by
 intro pins s σ H x vs v us Q I rx rv h
 obtain⟨l,xs,k,y,rfl,rfl,hH,hk,hz,Jo,q⟩:=h
 cases rx
 obtain⟨u,u2,rfl,r1,r2⟩:=cv.two rv
 obtain⟨t,rfl⟩:=r1
 obtain⟨z,bn,n,r,hl,e⟩:=I.lstM hH
 have RI:¬ (!Builtin.List.listFitsIndex (k:Int))=true:=by
  unfold Builtin.List.listFitsIndex
  simp;omega
 have hsz:bn.toArray.size<=sizeLine:=by rw[aF];omega
 obtain⟨q0,hq0⟩:∃q0:Int,q0=k:=⟨_,rfl⟩
 rw[<- hq0]at RI ⊢
 have M:=AutoSeq1.list_insert_list_int_val_1 l bn.toArray n q0 t u2 RI hsz
 refine ku F.slot_list_insert ⟨_,e,rfl⟩ F.entry_list_insert (F.args_list_insert_3 _ _ _) M ⟨e,?_⟩
 refine⟨.non,_,I.lset (its':=bn.take k++u2::bn.drop k) hH e ?_ ((r.take k).append (.cons r2 (r.drop k))) ?_,rfl,q⟩
 ·have h0:¬ (q0<0):=by omega
  have hm:min q0.toNat bn.toArray.size=k:=by rw[aF];omega
  simp only[az h0,hm]
  apply Array.toList_inj.mp
  rw[Fv]
 ·rw[aB,aZ,bv,fS]
  omega
noncomputable def og(x:W)(ws:List W)(st:List aj):R W:=match x,ws with
 |.loc n,[.int k,y]=>(match st[n]? with
  |some (.lst zs)=>if 0<=k/\k.toNat<=zs.length/\zs.length<ji/\k<1000000 then .ok .non (st.set n (.lst (zs.take k.toNat++y::zs.drop k.toNat)))else .bad
  |_=>.bad)
 |_,_=>.bad
theorem DO:Kh X "list.insert" og:=⟨fun pins s σ H x vs v us Q I rv rus ⟨μ,st,wx,ws,S,rx,rs,q⟩=>by
 unfold og at q
 split at q
 ·rename_i n k y
  obtain⟨y1,y2,rfl,ry1,ry2⟩:=rs.two
  split at q
  ·rename_i zs e1
   split at q
   ·rename_i cc
    obtain⟨c1,c2,c3,c4⟩:=cc
    obtain⟨k,rfl⟩:=l9 c1
    rw[bB]at c2 q
    obtain⟨a1,g1,vs1,k1,r1⟩:=S.get e1
    obtain⟨b1,f1,rfl⟩:=rx.locE
    rw[g1]at f1;cases f1
    have hl:=r1.len
    have hL:vs1.length+1<=sizeLine:=by rw[<- hl];exact i_ c3
    refine DN pins s σ H _ _ v us Q I rv rus ⟨a1,vs1,k,y2,rfl,by rw[ry1.intE],k1,by omega,hL,by omega,?_⟩
    exact q μ _ _ (ah _) (eF.but fL k1) (S.set e1 g1 k1 ((r1.take k).app (.consI ry2 (r1.drop k)))) .non
   ·exact q.elim
  ·exact q.elim
 ·exact q.elim,fun x ws st=>by
 unfold og
 repeat' split
 all_goals trivial⟩
end
section
variable{w:World}{g:Array GenState}{d:Drawn}{t:Nat}{os:OsState}{o:Obj}
 {nm q:Str} {C N:Addr} {bs bm:List Value} {XV:Bool} {sn:List Str} {X1:List Value} {ab:Bool} {col:Option Bool} {dd:Option Addr} {k0 k1 k2 k3 k5:Option Value} {Xj:String} {K:Frag}
end
section
variable{a:Expr}{fa:FE}
end
section
variable{a:Expr}{fa:FE}{k:Nat}
end
section
end
section
theorem sJ(l:List α):∀(k:Nat) (acc:List α),List.foldl (fun x1 x2=>x1++x2) acc.toArray (List.replicate k l.toArray)=(acc++(List.replicate k l).flatten).toArray
 |0,acc=>by simp
 |k+1,acc=>by
  have e:acc.toArray++l.toArray=(acc++l).toArray:=by simp
  rw[List.replicate_succ,List.foldl_cons,e,sJ l k (acc++l),List.replicate_succ,kZ,aV]
theorem Py(l:List Nat)(n:Int):Txt.mul (tx l) n=tx (List.replicate n.toNat l).flatten:=by
 unfold Txt.mul
 by_cases h:n<1
 ·rw[ar h,show n.toNat=0 by omega];rfl
 ·rw[az h]
  split
  ·rename_i hc
   rw[gr,cZ,cZ,jv]at hc
   rcases hc with rfl|hc
   ·simp
   ·have:l=[]:=List.length_eq_zero_iff.mp hc
    subst this
    simp
  ·have:=sJ l n.toNat []
   rw[fA]at this
   show Str.mk _=Str.mk _
   congr 1
theorem Kr:lv X (binaryOp .Mult) (fun x y H Q=>∃(l:List Nat) (k:Int),x=.str (tx l)/\y=.int k/\-(2^62)<=k/\k<2^62/\l.length*k.toNat<=1000000/\Q (.str (tx (List.replicate k.toNat l).flatten)) H):=by
 intro pins s σ H x y v u Q I rx ry h
 obtain⟨l,k,rfl,rfl,h1,h2,h3,q⟩:=h
 obtain⟨t,rfl⟩:=rx
 obtain⟨t',rfl⟩:=ry
 refine SB.mul ⟨?_,?_,?_⟩ fun t2 tk=>⟨.str _,H,I.tok _,⟨t2,?_⟩,q⟩
 ·simp;omega
 ·intro hk hx
  rw[jv]
  intro hg
  have hk1:1<=k:=by omega
  have:k*((2^63-1)/k)<=2^63-1:=Int.mul_ediv_self_le (by omega)
  have h4:(2^63-1)<k*(l.length:Int):=by
   have:=Int.lt_mul_of_ediv_lt (a:=2^63-1) (b:=(l.length:Int)) (c:=k) (by omega) hg
   rw[mS];exact this
  have h5:k*(l.length:Int)=((l.length*k.toNat:Nat):Int):=by
   rw[gu,jM (by omega),mS]
  rw[h5]at h4
  omega
 ·intro hk hx
  rw[jv]
  unfold Builtin.Str.tooLong
  rw[aN]
  have:(1000000:Nat)<=sizeLine:=by decide
  omega
 ·rw[Py]
noncomputable def gY:W->W->List aj->R W
 |.int i,.int j,st=>if x5 i j then .ok (.int (i*j)) st else .bad
 |.str l,.int k,st=>if -(2^62)<=k/\k<2^62/\l.length*k.toNat<=ji then .ok (.str (List.replicate k.toNat l).flatten) st else .bad
 |_,_,_=>.bad
theorem Pz:pf X (binaryOp .Mult) gY:=⟨fun pins s σ H x y v u Q I rv ru ⟨μ,st,wx,wy,S,rx,ry,q⟩=>by
 cases wx with
 |int i=>
  cases wy with
  |int j=>
   have q':Es X μ H Q (Tq (.int i) (.int j) st):=q
   exact Tt.h pins s σ H x y v u Q I rv ru ⟨μ,st,.int i,.int j,S,rx,ry,q'⟩
  |_=>exact q.elim
 |str l=>
  cases wy with
  |int k=>
   simp only[gY]at q
   split at q
   ·rename_i cc
    exact Kr pins s σ H x y v u Q I rv ru ⟨l,k,rx.strE,ry.intE,cc.1,cc.2.1,cc.2.2,pK S q⟩
   ·exact q.elim
  |_=>exact q.elim
 |_=>cases wy<;>exact q.elim,fun x y st=>by
 unfold gY
 repeat' split
 all_goals trivial⟩
end
section
variable{fs:FA}
end
section
variable{w:World}
theorem sK:∀(l:List Nat) (vs:List Value),vs.length=l.length->(∀(j:Nat) (v:Value),vs[j]?=some v->∃c u,l[j]?=some c/\v=.str (tx [c]) u)->StrsAre vs (l.map fun c=>tx [c])
 |[],[],_,_=>.nil
 |c::l,v::vs,hl,h=>by
  obtain⟨d,u,e,rfl⟩:=h 0 v rfl
  cases e
  exact .cons _ _ (sK l vs (qj hl) fun j v hj=>h (j+1) v hj)
 |[],_::_,hl,_=>nomatch hl
 |_::_,[],hl,_=>nomatch hl
theorem ym{t:Tok}(few:l.length<64)(hh:A.handled=none)
  (q:∀(s1:Shared) (g1:Heap) (out:Array Value) (ss:List Str) (e:Nat),(∀b o,s.heap.get? b=some o->s1.heap.get? b=some o)->s1.gens=s.gens->s1.drawn=s.drawn->s1.os=s.os->(∀b o,s1.heap.get? b=some o->g1.get? b=some o)->g1.get? s1.heap.objs.size=some (seqObj "list" out e) ->
   StrsAre out.toList ss->ss.Perm (l.map fun c=>tx [c])->sortedS ss=true->Q (.ref s1.heap.objs.size) { s1 with heap:=g1 }):wpAny (model prog w) A (call (.builtin "sorted") [.str (tx l) t]) Q E s:=by
 have hn:(tx l).cps.size=l.length:=by simp[tx]
 apply kK kind_sorted plain_sorted entry_sorted (args_sorted1 _)
 show wpAny _ _ (checkCount "sorted" 1 1 _ >>= _) _ _ _
 refine ae (ao (ae (wpAny_collect_str (by simpa using hh) _ _ (fun s1 acc kp eg ed eo ha=>?_) (by rw[iF];omega))))
 have xo:StrsAre acc.toList (l.map fun c=>tx [c]):=by
  refine sK l _ (by rw[eJ,ha.1,hn]) fun j v hj=>?_
  obtain⟨c,u,hc,e⟩:=ha.2 j v (by simpa using hj)
  exact⟨c,u,by simpa[tx]using hc,e⟩
 have hvl:acc.toList.length<64:=by rw[eJ,ha.1,hn];exact few
 refine ae (wpAny_newList ?_ (by rw[iF];omega))
 have oL:(s1.heap.push (seqObj "list" acc.toList.toArray 0)).get? s1.heap.objs.size=some (seqObj "list" acc.toList.toArray 0):=aC _ rfl
 refine ae (cE (cu slot_list_sort ⟨_,oL,rfl⟩ entry_list_sort (list_sort_treeK strKind_oneLt oL xo.keysOf (fun a b r e=>keyKind_strs (by rw[<- e];exact xo)) hvl fun st a1 a2=>⟨_,rfl,?_⟩) (args_list_sort _)))
 obtain⟨ss,h1,h2,h3⟩:=sorted_out_str xo a1 a2
 obtain⟨e,he⟩:=sortedHeap_at (out:=(arrOf st).map (·.2)) oL
 refine ao ⟨_,rfl,q s1 _ _ ss e kp eg ed eo (fun b o hb=>?_) he h1 h2 h3⟩
 rw[sortedHeap_old (bf (aE hb)) (by rw[d8];exact iL (aE hb))]
 exact am _ hb
end
section
def qA(ws:List W)(st:List aj):R W:=match ws with
 |[.str l]=>if l.length<64 then .ok (.loc st.length) (st++[.lst ((kQ (l.map fun c=>[c])).map W.str)])else .bad
 |[.loc n]=>n_ [.loc n] st
 |_=>.bad
theorem Ks(hc:X.calm=true:=by rfl):kO X (.builtin "sorted") qA:=⟨fun pins s σ H vs us Q I rv ⟨μ,st,ws,S,r,q⟩=>by
 unfold qA at q
 split at q
 ·rename_i l
  split at q
  ·rename_i c
   obtain⟨y,rfl,ry⟩:=r.one
   have:=ry.strE;subst this
   obtain⟨u,rfl,ru⟩:=jI rv
   obtain⟨t,rfl⟩:=ru
   refine ym c (I.ok.hd hc) fun s1 g1 out ss e kp eg ed eo k1 gL xo hp hsr=>?_
   have es:s1={ s with heap:=s1.heap,toks:=s1.toks }:=by cases s1;cases s;cases eg;cases ed;cases eo;rfl
   generalize s1.heap=g0,s1.toks=tk at es kp k1 gL ⊢
   subst es
   have I2:bz X pins σ H { s with heap:=g0,toks:=tk }:=I.kept2 (d':=s.drawn) fun b o e=>kp b o e
   have ui:H g0.objs.size=none:=I2.hok.fresh (aw _)
   have hmap:(ss.map fun z=>z.cps.toList).map tx=ss:=by
    rw[aX]
    have:(tx∘fun z:Str=>z.cps.toList)=id:=funext fun z=>BH z
    rw[this,nY]
   have hperm:(ss.map fun z=>z.cps.toList).Perm (l.map fun c=>[c]):=by
    have e:=hp.map fun z:Str=>z.cps.toList
    rw[aX]at e
    exact e
   have ez:(ss.map fun z=>z.cps.toList)=kQ (l.map fun c=>[c]):=we (sI (by rw[hmap];exact hsr)) (yi _) (hperm.trans (im _).symm)
   have hvals:cv ((kQ (l.map fun c=>[c])).map fun l=>V.str (tx l)) out.toList:=by
    have e:=pb xo
    rw[<- hmap,ez,aX]at e
    exact e
   refine⟨.ref g0.objs.size,_,I2.laid (o:=.lst ((kQ (l.map fun c=>[c])).map fun l=>V.str (tx l))) (t':=tk) k1 (aw _) ⟨?_,out.toList,e,hvals,gL⟩,rfl,?_⟩
   ·rw[ai,(im _).length_eq,ai]
    exact aR (eL c) (by decide)
   ·exact q (μ++[g0.objs.size]) _ _ (ax _ _) (eF.same (cx ui _)) (S.newLst ui (yj _)) (mj S)
  ·exact q.elim
 ·exact yk.h pins s σ H _ us Q I rv ⟨μ,st,_,S,r,q⟩
 ·exact q.elim,fun ws st=>by
 unfold qA
 split
 ·split<;>trivial
 ·exact(yk (X:=X)).n _ _
 ·trivial⟩
end
def mY(a b k:Int):Nat:=if a<b then((b-a-1)/k+1).toNat else 0
theorem vo{a b k:Int}(hk:0<k):Builtin.Range.rangeSize a b k=(mY a b k:Int):=by
 unfold Builtin.Range.rangeSize mY
 rw[ar hk]
 split
 ·have:=Int.ediv_nonneg (a:=b-a-1) (b:=k) (by omega) (by omega)
  omega
 ·rfl
theorem Kt{a b k:Int}(hk:0<k)(h:a<b):(b-a-1)/k<=b-a-1:=Int.ediv_le_self _ (by omega)
theorem Av{a b k:Int}(h1:-(2^60)<=a)(h2:a<2^60)(h3:-(2^60)<=b)(h4:b<2^60)(hk:0<k)(Jo:k<=1000):Builtin.Range.small a b k=true:=by
 unfold Builtin.Range.small
 rw[vo hk]
 simp only[Builtin.Range.rangeFitsLong,bw,gr,decide_eq_true_eq,cZ,ar hk]
 unfold mY
 split
 ·have:=Kt hk (by assumption)
  have:=Int.ediv_nonneg (a:=b-a-1) (b:=k) (by omega) (by omega)
  have:=Int.ediv_mul_le (a:=b-a-1) (b:=k) (by omega)
  omega
 ·omega
def vp(i k:Int)(n:Nat):List V:=(List.range n).map fun m:Nat=>V.int (i+m*k)
def TX(ta:TA):TI:=fun σ H R=>ta σ H fun vs H1=>∃i j k:Int,vs=[.int i,.int j,.int k]/\(-(2^60)<=i/\i<2^60/\-(2^60)<=j/\j<2^60/\0<k/\k<=1000)/\R (VD (vp i k (mY i j k))) H1
theorem wf{tg a b:Expr}{ta:TA}{p pos:Pos}(hm:X.mg "range"=none)(ha:QA X [a,b,c] ta)(hg:Gl X "range":=by rfl)(hs:starEach [a,b,c] X.env=(false,eval a X.env)::starEach [b,c] X.env:=by rfl)
  (xz:(backTo pos (starEach [b,c] X.env)).any (·.1)=false:=by rfl):QI X tg (.Call (.Name "range" p) [a,b,c] [] pos) (TX ta):=⟨by
 intro pins s σ H R I h
 refine Call_ (lc I hg hm boot_range (b_ (fJ (ha.h pos pins s σ H _ I h) fun us s1 ⟨vs,H1,I1,r1,q1⟩=>?_) hs xz))
 obtain⟨i,j,k,e,⟨b1,b2,b3,b4,b5,b6⟩,q⟩:=q1
 subst e
 cases r1 with
 |cons x1 r1=>cases r1 with
  |cons x2 r1=>cases r1 with
   |cons x3 r1=>
    cases r1
    obtain⟨t1,rfl⟩:=x1
    obtain⟨t2,rfl⟩:=x2
    obtain⟨t3,rfl⟩:=x3
    refine call_range_3 (by omega) ?_ (Or.inl (mK (by omega)))
    refine wpAny_pyIter_range (IsRange.new ..) (Av b1 b2 b3 b4 b5 b6) ?_
    generalize hN:mY i j k=n at q
    have hl:(vp i k n).length=n:=by unfold vp;simp
    have I2:bz X pins σ H1 { s1 with heap:=s1.heap.push { cls:=.type "range",data:=.fields #[.int i t1,.int j t2,.int k t3] },toks:=s1.toks }:=I1.kept fun b o e=>am _ e
    refine⟨(s1.heap.push { cls:=.type "range",data:=.fields #[.int i t1,.int j t2,.int k t3] }).objs.size,[(s1.heap.push { cls:=.type "range",data:=.fields #[.int i t1,.int j t2,.int k t3] }).objs.size],_,_,H1,rfl,
     I2.kept (t':=s1.toks) fun b o e=>am _ e,sj (ty:="range_iterator") (fun A hA=>by rw[hl];exact Walks.range hA _ i k n) (fun m v hk hp=>?_) (fun k h st=>⟨_,_,st,rfl,rfl⟩) (by decide) (fun A k s Q E st h=>mJ st h),⟨cH _,?_⟩,fun b hb=>?_,q⟩
    ·obtain⟨t,rfl⟩:=hp
     rw[hl]at hk
     refine⟨.int (i+m*k),?_,t,rfl⟩
     unfold vp
     rw[ak,g_ hk]
     rfl
    ·have e1:i+((0:Nat):Int)*k=i:=by simp
     have e2:((n:Nat):Int)-((0:Nat):Int)=Builtin.Range.rangeSize i j k:=by rw[vo b5,hN];simp
     rw[e1,e2]
     exact aC _ rfl
    ·have e:b=(s1.heap.push { cls:=.type "range",data:=.fields #[.int i t1,.int j t2,.int k t3] }).objs.size:=by simpa using hb
     subst e
     exact I2.fpOk (aw _) (I2.hok.fresh (aw _))⟩
section
variable{a b:Expr}{fs:FA}
def oO(i k:Int)(n:Nat):List W:=(List.range n).map fun m:Nat=>W.int (i+m*k)
theorem Fw(i k:Int)(n:Nat)(μ:List Addr)(H:Hp):RelWs X.K μ H (oO i k n) (vp i k n):=by
 unfold oO vp
 induction (List.range n)with
 |nil=>exact .nilI
 |cons a r ih=>exact .consI .int ih
def sL(fs:FA):FI:=fun ρ st=>(fs ρ st).bind fun ws st=>match ws with
 |[.int i,.int j,.int k]=>if -(2^60)<=i/\i<2^60/\-(2^60)<=j/\j<2^60/\0<k/\k<=1000 then .ok (oO i k (mY i j k),none) st else .bad
 |_=>.bad
theorem Ku(hm:X.mg "range"=none)(ha:SA X [a,b,c] fs)(hg:Gl X "range":=by rfl)(hs:starEach [a,b,c] X.env=(false,eval a X.env)::starEach [b,c] X.env:=by rfl)(rf:(backTo pos (starEach [b,c] X.env)).any (·.1)=false:=by rfl) :
  SI X tg (.Call (.Name "range" p) [a,b,c] [] pos) (sL fs):=⟨(wf hm ⟨ha.h⟩ hg hs rf).h.imp fun σ H R h=>by
 obtain⟨μ,ρ,st,l,h⟩:=h
 refine⟨μ,ρ,st,l,RK.bind h l fun μ1 st1 x v H1 p1 x1 l1 q1 h1=>?_⟩
 split at h1
 ·rename_i i j k
  obtain⟨y,ys,rfl,ry,r1⟩:=q1.consE
  obtain⟨z,zs,rfl,rz,r2⟩:=r1.consE
  obtain⟨w,rfl,jp⟩:=r2.one
  split at h1
  ·rename_i cc
   exact⟨_,_,_,by rw[ry.intE,rz.intE,jp.intE],cc,h1 μ1 _ H1 (ah _) dP.refl l1.sto (vn (Fw _ _ _))⟩
  ·exact h1.elim
 ·exact h1.elim⟩
end
section
variable{fi:FI}{f:FG}{t:FT}{el:FE}
end
theorem bz.turnedL{s:Shared}{t':Nat}{ch:List Addr}(I:bz X pins σ H s)(k:∀b o,b∉ch->s.heap.get? b=some o->h'.get? b=some o)
  (f:∀b∈ch,ny X pins H b):bz X pins σ H { s with heap:=h',toks:=t' }:=by
 have nit:∀b u,H b=some u->b∉ch:=fun b u q z=>by rw[(f b z).1]at q;cases q
 refine I.step (g':=s.gens) (d':=s.drawn) (ch:=ch) (fun b hb=>?_) (fun b o _ _ hc q _=>k b o hc q) (fun b o _ _ hc q _=>⟨o.slots,k b o hc q⟩) (fun _ _ _ _ n=>n)
  (fun b o hc q=>⟨o,k b o hc q⟩) (fun _ _ q=>q) (fun _ _ _ q=>q) (fun b ps q=>⟨#[],by rw[q];simp⟩) (fun m hm=>?_) (fun b u q=>?_) I.bare
 ·exact⟨(f b hb).2.2.2.1,(f b hb).2.1,(f b hb).2.2.2.2.1,(f b hb).2.2.2.2.2⟩
 ·obtain⟨o,es,ep,ho,r⟩:=hm
  exact⟨o,es,ep,k _ o (fun z=>(f _ z).2.1 rfl) ho,r⟩
 ·refine(I.hok b u q).stay (fun c v hc z=>?_) (fun _ z=>z) fun _ _ z=>z
  rcases hc with y|y
  ·rw[y]at z ⊢;exact k b v (nit b u q) z
  ·exact k c v (nit c _ y) z
section
variable{w:World}
variable{z P O i j:Addr}{xs ys:Array Value}{x y:Value}
theorem Kv(D:ZipApart z P O i j a b)(qz:IsZip s.heap z P O .none)(qP:IsPair s.heap P (.ref i) (.ref j))(qO:IsPair s.heap O u v)
  (q1:s.heap.IsTupleIter i a n) (q2:s.heap.IsTupleIter j b m) (ta:s.heap.IsTuple a xs) (tb:s.heap.IsTuple b ys) (hx:xs[n]?=some x) (hy:ys[m]?=some y)
  (hQ:∀g,IsZip g z P O (rawInt s.heap.objs.size)->IsPair g O x y->g.IsTupleIter i a (n+1)->g.IsTupleIter j b (m+1)->IsPair g s.heap.objs.size x y ->
   (∀c o,c≠z->c≠O->c≠i->c≠j->s.heap.get? c=some o->g.get? c=some o)->Q (.ref s.heap.objs.size) { s with heap:=g }) :
  wpAny (model prog w) A (Builtin.«zip.__next__» ⟨[.ref z],[]⟩) (fun fin s'=>∃v,fin=.done (.ret v)/\Q v s') E s:=by
 show wpAny _ _ (field (.ref z) 2 >>= _) _ _ _
 refine ae (cG qz rfl (x:=.bool false) rfl ?_)
 show wpAny _ _ (field (.ref z) 3 >>= _) _ _ _
 refine ae (cG qz rfl (x:=.ref P) rfl (ae (cC qP rfl ?_)))
 show wpAny _ _ (Builtin.SmallTypes.ownedTupleIsFree (.ref z) >>= _) _ _ _
 refine ae ?_;unfold Builtin.SmallTypes.ownedTupleIsFree
 refine ae (cG qz rfl (x:=.none) rfl (ao ?_));simp only[dC]
 refine ae (fH (ae (cG qz rfl (x:=.ref O) rfl ?_)))
 refine ae (fg qz (by simp) fun g1 z1 s1=>?_)
 replace z1:IsZip g1 z P O .ellipsis:=z1
 refine ae ?_
 simp only[List.zipIdx_cons,List.zipIdx_nil,m5,List.forIn_nil]
 refine ae (ae (lp ?_))
 show wpAny _ _ (Builtin.SmallTypes.nextOf (.ref i) >>= _) _ _ _
 refine ae (jh (q1.extBut s1.extBut D.i1z) (ta.extBut s1.extBut D.l1z) hx fun g2 k2 s2=>ao ?_)
 have O2:IsPair g2 O u v:=s2.extBut _ _ D.TOi1 (s1.extBut _ _ D.TOz qO)
 refine ae (cC O2 rfl (ae (jq O2 fun g3 O3 s3=>?_)))
 replace O3:IsPair g3 O x v:=O3
 refine ae (gP (ao (ae (ae (lp ?_)))))
 show wpAny _ _ (Builtin.SmallTypes.nextOf (.ref j) >>= _) _ _ _
 refine ae (jh (((q2.extBut s1.extBut D.i2z).extBut s2.extBut D.i12.symm).extBut s3.extBut D.TOi2.symm)
  (((tb.extBut s1.extBut D.l2z).extBut s2.extBut D.l2i1).extBut s3.extBut D.l2TO) hy fun g4 k4 s4=>ao ?_)
 have O4:IsPair g4 O x v:=s4.extBut _ _ D.TOi2 O3
 refine ae (cC O4 rfl (ae (jq O4 fun g5 O5 s5=>?_)))
 replace O5:IsPair g5 O x y:=O5
 refine ae (gP (ao (ao (ae (cC O5 rfl (ae (wpAny_newTuple ?_)))))))
 have sz:g5.objs.size=s.heap.objs.size:=by rw[s5.1,s4.1,s3.1,s2.1,s1.1]
 have z5:IsZip g5 z P O .ellipsis:=s5.extBut _ _ D.TOz.symm (s4.extBut _ _ D.i2z.symm (s3.extBut _ _ D.TOz.symm (s2.extBut _ _ D.i1z.symm z1)))
 have kp:∀c o,c≠z->c≠O->c≠i->c≠j->s.heap.get? c=some o->g5.get? c=some o:=fun c o c1 c2 c3 c4 e=>
  s5.extBut _ _ c2 (s4.extBut _ _ c4 (s3.extBut _ _ c2 (s2.extBut _ _ c3 (s1.extBut _ _ c1 e))))
 have k5:g5.IsTupleIter i a (n+1):=((k2.extBut s3.extBut D.TOi1.symm).extBut s4.extBut D.i12).extBut s5.extBut D.TOi1.symm
 have l5:g5.IsTupleIter j b (m+1):=k4.extBut s5.extBut D.TOi2.symm
 have zlt:z<g5.objs.size:=aE z5
 show wpAny _ _ (Builtin.SmallTypes.ownedTupleHandOut (.ref z) (.ref g5.objs.size) >>= _) _ _ _
 refine ae ?_;unfold Builtin.SmallTypes.ownedTupleHandOut
 have z6:IsZip (g5.push { cls:=.type "tuple",data:=.seq #[x,y] }) z P O .ellipsis:=am _ z5
 refine ae (fg z6 (by simp) fun g7 z7 s7=>?_)
 replace z7:IsZip g7 z P O (rawInt g5.objs.size):=z7
 refine fg z7 (by simp) fun g8 z8 s8=>?_
 replace z8:IsZip g8 z P O (rawInt g5.objs.size):=z8
 have up:∀c o,c≠z->g5.get? c=some o->g8.get? c=some o:=fun c o c1 e=>s8.extBut _ _ c1 (s7.extBut _ _ c1 (am _ e))
 have T8:IsPair g8 g5.objs.size x y:=s8.extBut _ _ (jX zlt) (s7.extBut _ _ (jX zlt) (aC _ rfl))
 rw[sz]at z8 T8
 refine ao ⟨_,rfl,?_⟩
 show Q (.ref g5.objs.size) _
 rw[sz]
 exact hQ g8 z8 (up _ _ D.TOz O5) (k5.at fun o e=>up _ o D.i1z e) (l5.at fun o e=>up _ o D.i2z e) T8 fun c o c1 c2 c3 c4 e=>up c o c1 (kp c o c1 c2 c3 c4 e)
theorem PB{Q:Fin->Shared->Prop}(hh:A.handled=none)(D:ZipApart z P O i j a b)(qz:IsZip s.heap z P O .none)(qP:IsPair s.heap P (.ref i) (.ref j))(qO:IsPair s.heap O u v)
  (q1:s.heap.IsTupleIter i a n) (q2:s.heap.IsTupleIter j b m) (ta:s.heap.IsTuple a xs) (tb:s.heap.IsTuple b ys) (he:xs[n]?=none\/ys[m]?=none)
  (hE:∀g e,(∀c o,c≠z->c≠O->c≠i->c≠j->s.heap.get? c=some o->g.get? c=some o)->(∃o,g.get? e=some o/\o.cls=.type "StopIteration")->E (.ref e) { s with heap:=g }) :
  wpAny (model prog w) A (Builtin.«zip.__next__» ⟨[.ref z],[]⟩) Q E s:=by
 show wpAny _ _ (field (.ref z) 2 >>= _) _ _ _
 refine ae (cG qz rfl (x:=.bool false) rfl ?_)
 show wpAny _ _ (field (.ref z) 3 >>= _) _ _ _
 refine ae (cG qz rfl (x:=.ref P) rfl (ae (cC qP rfl ?_)))
 show wpAny _ _ (Builtin.SmallTypes.ownedTupleIsFree (.ref z) >>= _) _ _ _
 refine ae ?_;unfold Builtin.SmallTypes.ownedTupleIsFree
 refine ae (cG qz rfl (x:=.none) rfl (ao ?_));simp only[dC]
 refine ae (fH (ae (cG qz rfl (x:=.ref O) rfl ?_)))
 refine ae (fg qz (by simp) fun g1 z1 s1=>?_)
 replace z1:IsZip g1 z P O .ellipsis:=z1
 refine ae ?_
 simp only[List.zipIdx_cons,List.zipIdx_nil,m5,List.forIn_nil]
 refine ae (ae (lp ?_))
 show wpAny _ _ (Builtin.SmallTypes.nextOf (.ref i) >>= _) _ _ _
 cases hx:xs[n]? with
 |none=>
  refine ae (jO hh (q1.extBut s1.extBut D.i1z) (ta.extBut s1.extBut D.l1z) hx fun g2 e s2 ye=>?_)
  obtain⟨oe,h1,h2⟩:=ye
  have z2:IsZip g2 z P O .ellipsis:=s2 _ _ D.i1z.symm z1
  have nez:e≠z:=fun q=>by subst q;rw[z2]at h1;cases h1;simp at h2
  exact fg z2 (by simp) fun g3 _ s3=>hE g3 e (fun c o c1 _ c3 _ q=>s3.extBut _ _ c1 (s2 _ _ c3 (s1.extBut _ _ c1 q))) ⟨oe,s3.extBut _ _ nez h1,h2⟩
 |some x=>
  have hy:ys[m]?=none:=by rcases he with h|h;rw[hx]at h;cases h;exact h
  refine ae (jh (q1.extBut s1.extBut D.i1z) (ta.extBut s1.extBut D.l1z) hx fun g2 k2 s2=>ao ?_)
  have O2:IsPair g2 O u v:=s2.extBut _ _ D.TOi1 (s1.extBut _ _ D.TOz qO)
  refine ae (cC O2 rfl (ae (jq O2 fun g3 O3 s3=>?_)))
  refine ae (gP (ao (ae (ae (lp ?_)))))
  show wpAny _ _ (Builtin.SmallTypes.nextOf (.ref j) >>= _) _ _ _
  refine ae (jO hh (((q2.extBut s1.extBut D.i2z).extBut s2.extBut D.i12.symm).extBut s3.extBut D.TOi2.symm)
   (((tb.extBut s1.extBut D.l2z).extBut s2.extBut D.l2i1).extBut s3.extBut D.l2TO) hy fun g4 e s4 ye=>?_)
  obtain⟨oe,h1,h2⟩:=ye
  have z4:IsZip g4 z P O .ellipsis:=s4 _ _ D.i2z.symm (s3.extBut _ _ D.TOz.symm (s2.extBut _ _ D.i1z.symm z1))
  have nez:e≠z:=fun q=>by subst q;rw[z4]at h1;cases h1;simp at h2
  exact fg z4 (by simp) fun g5 _ s5=>hE g5 e (fun c o c1 c2 c3 c4 q=>s5.extBut _ _ c1 (s4 _ _ c4 (s3.extBut _ _ c2 (s2.extBut _ _ c3 (s1.extBut _ _ c1 q))))) ⟨oe,s5.extBut _ _ nez h1,h2⟩
theorem Kw{Q:Option Value->Shared->Prop}(D:ZipApart z P O i j a b)(qz:IsZip s.heap z P O .none)(qP:IsPair s.heap P (.ref i) (.ref j))(qO:IsPair s.heap O u v)
  (q1:s.heap.IsTupleIter i a n) (q2:s.heap.IsTupleIter j b m) (ta:s.heap.IsTuple a xs) (tb:s.heap.IsTuple b ys) (hx:xs[n]?=some x) (hy:ys[m]?=some y)
  (hQ:∀g,IsZip g z P O (rawInt s.heap.objs.size)->IsPair g O x y->g.IsTupleIter i a (n+1)->g.IsTupleIter j b (m+1)->IsPair g s.heap.objs.size x y ->
   (∀c o,c≠z->c≠O->c≠i->c≠j->s.heap.get? c=some o->g.get? c=some o)->Q (some (.ref s.heap.objs.size)) { s with heap:=g }) :
  wpAny (model prog w) A (pyNext (.ref z)) Q E s:=by
 have T:s.TypeIs (.ref z) "zip":=⟨_,qz,rfl⟩
 unfold pyNext
 exact ae (lj (bS (name:=Str.ofString "__next__") T jF (cu jF T F.entry_zip_next
   (Kv D qz qP qO q1 q2 ta tb hx hy fun g a1 a2 a3 a4 a5 a6=>ao (hQ g a1 a2 a3 a4 a5 a6)) (F.args_zip_next_1 _))))
theorem Kx{Q:Option Value->Shared->Prop}(hh:A.handled=none)(D:ZipApart z P O i j a b)(qz:IsZip s.heap z P O .none)(qP:IsPair s.heap P (.ref i) (.ref j))(qO:IsPair s.heap O u v)
  (q1:s.heap.IsTupleIter i a n) (q2:s.heap.IsTupleIter j b m) (ta:s.heap.IsTuple a xs) (tb:s.heap.IsTuple b ys) (he:xs[n]?=none\/ys[m]?=none)
  (hQ:∀g,(∀c o,c≠z->c≠O->c≠i->c≠j->s.heap.get? c=some o->g.get? c=some o)->Q none { s with heap:=g }):wpAny (model prog w) A (pyNext (.ref z)) Q E s:=by
 have T:s.TypeIs (.ref z) "zip":=⟨_,qz,rfl⟩
 unfold pyNext
 refine ae (lj (bS (name:=Str.ofString "__next__") T jF (cu jF T F.entry_zip_next (PB hh D qz qP qO q1 q2 ta tb he fun g e hk ye=>?_) (F.args_zip_next_1 _))))
 obtain⟨o,ho,hc⟩:=ye
 exact ae (fU (T:="StopIteration") (b:=true) ⟨o,ho,hc⟩ nZ (ao (hQ _ hk)))
end
open AutoSeq1 (wpAny_loadPart')
abbrev VJ(h:Heap)(a:Addr):Heap:=h.push (kM a)
abbrev VL(h:Heap)(a b:Addr):Heap:=(VJ h a).push (kM b)
abbrev VM(h:Heap)(a b:Addr):Heap:=(VL h a b).push { cls:=.type "tuple",data:=.seq #[.ref h.objs.size,.ref (VJ h a).objs.size] }
abbrev VN(h:Heap)(a b:Addr):Heap:=(VM h a b).push { cls:=.type "tuple",data:=.seq #[.none,.none] }
abbrev RR(h:Heap)(a b:Addr):Heap:=(VN h a b).push { cls:=.type "zip",data:=.fields #[.none,.bool false,.bool false,.ref (VL h a b).objs.size,.ref (VM h a b).objs.size] }
theorem PD     (a b : Addr) (xs ys : Array Value) : Meets (Builtin.«zip.__new__» ⟨[.type "zip", .ref a, .ref b], []⟩) (fun _ R s => s.heap.IsTuple a xs /\ s.heap.IsTuple b ys /\
      R (.ok (.ret (.ref (VN  s.heap a b).objs.size))) { s with heap := RR  s.heap a b }) :=
  .of_wp fun prog w A R s h => by
    obtain ⟨hp, g, d, tk, os⟩ := s
    obtain ⟨ha, hb, h⟩ := h
    have sb := sub_zip
    have hA : Heap.IsTuple (Shared.heap ⟨hp, g, d, tk, os⟩) a xs := ha
    have hB : Heap.IsTuple (Shared.heap ⟨hp.push (kM      a), g, d, tk, os⟩) b ys := hb.at fun o e => am                     _ e
    wp_walk using gf                 hA, gf                 hB
    exact ⟨_, rfl, h⟩
section
variable{w:World}
theorem Ky{xs ys:Array Value}(ha:s.heap.IsTuple a xs)(hb:s.heap.IsTuple b ys)
  (q:∀g,IsZip g (s.heap.objs.size+4) (s.heap.objs.size+2) (s.heap.objs.size+3) .none->IsPair g (s.heap.objs.size+2) (.ref s.heap.objs.size) (.ref (s.heap.objs.size+1)) ->
   IsPair g (s.heap.objs.size+3) .none .none->g.IsTupleIter s.heap.objs.size a 0->g.IsTupleIter (s.heap.objs.size+1) b 0->(∀c o,s.heap.get? c=some o->g.get? c=some o)->Q (.ref (s.heap.objs.size+4)) { s with heap:=g }) :
  wpAny (model prog w) A (call (.type "zip") [.ref a,.ref b]) Q E s:=by
 refine qi F.called_zip (by decide) (F.typeCall_zip_2 _ _) (F.newCall_zip_2 _ _) (fun ob=>F.args_object_init_3 ob _ _) F.entry_zip_new (PD a b xs ys) ⟨ha,hb,?_⟩
 have n1:(VJ s.heap a).objs.size=s.heap.objs.size+1:=d8 ..
 have n2:(VL s.heap a b).objs.size=s.heap.objs.size+2:=by rw[d8,n1]
 have n3:(VM s.heap a b).objs.size=s.heap.objs.size+3:=by rw[d8,n2]
 have n4:(VN s.heap a b).objs.size=s.heap.objs.size+4:=by rw[d8,n3]
 have p:∀{h:Heap} {c:Addr} {o u:Obj},h.get? c=some o->(h.push u).get? c=some o:=fun e=>am _ e
 have g5:(RR s.heap a b).get? (VN s.heap a b).objs.size=some _:=aC _ rfl
 have g4:(RR s.heap a b).get? (VM s.heap a b).objs.size=some _:=p (aC _ rfl)
 have g3:(RR s.heap a b).get? (VL s.heap a b).objs.size=some _:=p (p (aC _ rfl))
 have g2:(RR s.heap a b).get? (VJ s.heap a).objs.size=some _:=p (p (p (aC _ rfl)))
 have g1:(RR s.heap a b).get? s.heap.objs.size=some _:=p (p (p (p (aC _ rfl))))
 show _/\_
 rw[n2,n3,n4]at g5
 rw[n1,n2]at g3
 rw[n3]at g4
 rw[n1]at g2
 rw[n4]
 exact⟨⟨_,g5,rfl⟩,q _ g5 g3 g4 ⟨_,g1,rfl,rfl⟩ ⟨_,g2,rfl,rfl⟩ fun c o e=>p (p (p (p (p e))))⟩
end
def Xa(K:Frag)(a b:Addr):It:=
  ⟨fun i H=>∃xs ys x y,eF K H a xs/\eF K H b ys/\xs[i]?=some x/\ys[i]?=some y,
   fun i H v H'=>∃p,H p=none/\v=.ref p/\∀xs ys x y,eF K H a xs->eF K H b ys->xs[i]?=some x->ys[i]?=some y->H'=eR H p (.tup [x,y]),
   fun i H=>∃xs ys,eF K H a xs/\eF K H b ys/\(xs.length<=i\/ys.length<=i)⟩
theorem Kz{w:World}{z T O i j:Addr}(D:ZipApart z T O i j a b) :
  xJ P w K (.Tuple mF kk pos) (Xa K a b) [z,T,O,i,j] z (fun k h=>IsZip h z T O .none/\IsPair h T (.ref i) (.ref j)/\(∃u v,IsPair h O u v)/\h.IsTupleIter i a k/\h.IsTupleIter j b k) where
 mem:=by simp
 obj:=fun k h st c hc=>by
  obtain⟨h1,h2,⟨u,v,h3⟩,⟨o4,e4,_,d4⟩,⟨o5,e5,_,d5⟩⟩:=st
  have q:c=z\/c=T\/c=O\/c=i\/c=j:=by simpa using hc
  rcases q with rfl|rfl|rfl|rfl|rfl
  ·exact⟨_,h1,fun v q=>by cases q⟩
  ·exact⟨_,h2,fun v q=>by cases q⟩
  ·exact⟨_,h3,fun v q=>by cases q⟩
  ·exact⟨_,e4,fun v q=>by rw[d4]at q;cases q⟩
  ·exact⟨_,e5,fun v q=>by rw[d5]at q;cases q⟩
 keep:=fun k h h' st kp=>by
  obtain⟨h1,h2,⟨u,v,h3⟩,h4,h5⟩:=st
  exact⟨kp z (by simp) _ h1,kp T (by simp) _ h2,⟨u,v,kp O (by simp) _ h3⟩,h4.at fun o e=>kp i (by simp) o e,h5.at fun o e=>kp j (by simp) o e⟩
 item:=by
  intro X hP hw hK hc k pins s σ H E I hf st hg
  subst hP hw hK
  obtain⟨xs,ys,x,y,hq,hr,hx,hy⟩:=hg
  obtain⟨bn,rv,p1,_⟩:=I.tuple hq
  obtain⟨jts,jp,p2,_⟩:=I.tuple hr
  obtain⟨u,hu,ru⟩:=rv.get hx
  obtain⟨v,hv,rv'⟩:=jp.get hy
  obtain⟨h1,h2,⟨c1,c2,h3⟩,h4,h5⟩:=st
  refine Kw D h1 h2 h3 h4 h5 (show s.heap.IsTuple a bn.toArray from p1) (show s.heap.IsTuple b jts.toArray from p2) (x:=u) (y:=v) (by simpa using hu) (by simpa using hv) fun g a1 a2 a3 a4 a5 kp=>⟨_,rfl,?_⟩
  refine wpAny_letOwnedTupleGo_zip a1 fun g2 b1 s2=>?_
  have ui:H s.heap.objs.size=none:=I.hok.fresh (aw _)
  have I1:bz X pins σ (eR H s.heap.objs.size (.tup [x,y])) { s with heap:=s.heap.push { cls:=.type "tuple",data:=.seq #[u,v] },toks:=s.toks }:=I.laid (fun c o q=>am _ q) (aw _)
   ⟨by show 2<=sizeLine;decide,[u,v],.cons ru (.cons rv' .nil),⟨_,aC _ rfl,rfl,_,rfl⟩⟩
  have lt:∀{c o},s.heap.get? c=some o->c≠s.heap.objs.size:=fun e=>bf (aE e)
  have nf:∀c∈[z,T,O,i,j],c≠s.heap.objs.size:=fun c hb=>by
   have q:c=z\/c=T\/c=O\/c=i\/c=j:=by simpa using hb
   rcases q with rfl|rfl|rfl|rfl|rfl
   ·exact lt h1
   ·exact lt h2
   ·exact lt h3
   ·obtain⟨_,e,_⟩:=h4;exact lt e
   ·obtain⟨_,e,_⟩:=h5;exact lt e
  have fp:∀c∈[z,T,O,i,j],ny X pins (eR H s.heap.objs.size (.tup [x,y])) c:=fun c hb=>by
   obtain⟨f0,f⟩:=hf c hb
   exact⟨by rw[cJ (nf c hb)];exact f0,f⟩
  have I2:bz X pins σ (eR H s.heap.objs.size (.tup [x,y])) { s with heap:=g2,toks:=s.toks }:=bz.turnedL (s:={ s with heap:=s.heap.push { cls:=.type "tuple",data:=.seq #[u,v] },toks:=s.toks }) (ch:=[z,O,i,j]) (t':=s.toks) I1 (fun c o hb q=>?_) fun c hb=>fp c (by
   have q:c=z\/c=O\/c=i\/c=j:=by simpa using hb
   rcases q with rfl|rfl|rfl|rfl<;>simp)
  ·refine⟨.ref s.heap.objs.size,_,I2,rfl,⟨_,ui,rfl,fun xs' RV x' y' e1 e2 e3 e4=>?_⟩,⟨b1,s2.extBut _ _ D.TIz (kp _ _ D.TIz D.TITO D.TIi1 D.TIi2 h2),⟨_,_,s2.extBut _ _ D.TOz a2⟩,a3.extBut s2.extBut D.i1z,a4.extBut s2.extBut D.i2z⟩,fun c hb=>(fp c hb).1⟩
   have q1:=I.tuple_inj e1 hq
   have q2:=I.tuple_inj e2 hr
   subst q1 q2
   rw[hx]at e3;rw[hy]at e4;cases e3;cases e4;rfl
  ·have q':(s.heap.push { cls:=.type "tuple",data:=.seq #[u,v] }).get? c=some o:=q
   have hn:c≠z/\c≠O/\c≠i/\c≠j:=by simpa using hb
   refine s2.extBut c o hn.1 ?_
   by_cases hb':c=s.heap.objs.size
   ·subst hb'
    have e1:=aC s.heap (o:={ cls:=.type "tuple",data:=.seq #[u,v] }) rfl
    rw[e1]at q';cases q'
    exact a5
   ·rw[kY _ _ _ hb']at q'
    exact kp c o hn.1 hn.2.1 hn.2.2.1 hn.2.2.2 q'
 done:=by
  intro X hP hw hK hc k pins s σ H E I hf st hg
  subst hP hw hK
  obtain⟨xs,ys,hq,hr,he⟩:=hg
  obtain⟨bn,rv,p1,_⟩:=I.tuple hq
  obtain⟨jts,jp,p2,_⟩:=I.tuple hr
  obtain⟨h1,h2,⟨c1,c2,h3⟩,h4,h5⟩:=st
  have l1:=rv.length
  have l2:=jp.length
  refine Kx (I.ok.hd hc) D h1 h2 h3 h4 h5 (show s.heap.IsTuple a bn.toArray from p1) (show s.heap.IsTuple b jts.toArray from p2) (by
   rcases he with q|q
   ·exact .inl (by simp;omega)
   ·exact .inr (by simp;omega)) fun g kp=>⟨rfl,?_⟩
  exact I.turnedL (ch:=[z,O,i,j]) (t':=s.toks) (fun c o hb q=>by
   have hn:c≠z/\c≠O/\c≠i/\c≠j:=by simpa using hb
   exact kp c o hn.1 hn.2.1 hn.2.2.1 hn.2.2.2 q) fun c hb=>hf c (by
   have q:c=z\/c=O\/c=i\/c=j:=by simpa using hb
   rcases q with rfl|rfl|rfl|rfl<;>simp)
 self:=fun A k s Q E st h=>wpAny_pyIter_zip st.1 h
def WD(K:Frag)(ta:TA):TI:=fun σ H R=>ta σ H fun vs H1=>∃a b,vs=[.ref a,.ref b]/\(∃xs,eF K H1 a xs)/\(∃ys,eF K H1 b ys)/\R (Xa K a b) H1
theorem KA{a b:Expr}{ta:TA}{p pos tp:Pos}{mF:List Expr}{kk:Nat}(hm:X.mg "zip"=none)(ha:QA X [a,b] ta)(hg:Gl X "zip":=by rfl)(hs:starEach [a,b] X.env=(false,eval a X.env)::starEach [b] X.env:=by rfl)
  (xz:(backTo pos (starEach [b] X.env)).any (·.1)=false:=by rfl):QI X (.Tuple mF kk tp) (.Call (.Name "zip" p) [a,b] [] pos) (WD X.K ta):=⟨by
 intro pins s σ H R I h
 refine Call_ (lc I hg hm boot_zip (b_ (fJ (ha.h pos pins s σ H _ I h) fun us s1 ⟨vs,H1,I1,r1,q1⟩=>?_) hs xz))
 obtain⟨t,t',e,⟨xs,hq⟩,⟨ys,hr⟩,q⟩:=q1
 subst e
 cases r1 with
 |cons x1 r1=>cases r1 with
  |cons x2 r1=>
   cases r1
   cases x1
   cases x2
   obtain⟨bn,rv,p1,_⟩:=I1.tuple hq
   obtain⟨jts,jp,p2,_⟩:=I1.tuple hr
   have lt1:t<s1.heap.objs.size:=by obtain⟨_,e,_⟩:=(show s1.heap.IsTuple t bn.toArray from p1);exact aE e
   have lt2:t'<s1.heap.objs.size:=by obtain⟨_,e,_⟩:=(show s1.heap.IsTuple t' jts.toArray from p2);exact aE e
   refine Ky (show s1.heap.IsTuple t bn.toArray from p1) (show s1.heap.IsTuple t' jts.toArray from p2) fun g e1 e2 e3 e4 e5 kp=>?_
   refine wpAny_pyIter_zip e1 ?_
   refine⟨s1.heap.objs.size+4,[s1.heap.objs.size+4,s1.heap.objs.size+2,s1.heap.objs.size+3,s1.heap.objs.size,s1.heap.objs.size+1],_,_,H1,rfl,I1.kept (t':=s1.toks) kp,Kz (zipApart_new lt1 lt2),⟨e1,e2,⟨_,_,e3⟩,e4,e5⟩,fun c hb=>?_,q⟩
   have hc:s1.heap.objs.size<=c:=by
    have z:c=s1.heap.objs.size+4\/c=s1.heap.objs.size+2\/c=s1.heap.objs.size+3\/c=s1.heap.objs.size\/c=s1.heap.objs.size+1:=by simpa using hb
    rcases z with rfl|rfl|rfl|rfl|rfl<;>simp
   exact I1.fpOk hc (I1.hok.fresh hc)⟩
def pj:List W->List W->List W
 |x::xs,y::ys=>.tup [x,y]::pj xs ys
 |_,_=>[]
theorem sM:∀{xs ys:List W} {i:Nat} {w:W},(pj xs ys)[i]?=some w->∃x y,xs[i]?=some x/\ys[i]?=some y/\w=.tup [x,y]
 |x::xs,y::ys,0,w,h=>by simp[pj]at h;exact⟨x,y,rfl,rfl,h.symm⟩
 |x::xs,y::ys,i+1,w,h=>by simp[pj]at h;simpa using sM h
 |[],_,i,w,h=>by simp[pj]at h
 |_::_,[],i,w,h=>by simp[pj]at h
theorem sN:∀(xs ys:List W),(pj xs ys).length=min xs.length ys.length
 |x::xs,y::ys=>by simp[pj,sN xs ys]
 |[],_=>by simp[pj]
 |_::_,[]=>by simp[pj]
section
variable{a b:Expr}{fs:FA}
def wg(fs:FA):FI:=fun ρ st=>(fs ρ st).bind fun ws st=>match ws with
 |[.tup xs,.tup ys]=>.ok (pj xs ys,none) st
 |_=>.bad
theorem KB{mF:List Expr}{kk:Nat}{tp:Pos}(hm:X.mg "zip"=none)(ha:SA X [a,b] fs)(hg:Gl X "zip":=by rfl)(hs:starEach [a,b] X.env=(false,eval a X.env)::starEach [b] X.env:=by rfl)(rf:(backTo pos (starEach [b] X.env)).any (·.1)=false:=by rfl) :
  SI X (.Tuple mF kk tp) (.Call (.Name "zip" p) [a,b] [] pos) (wg fs):=⟨(KA hm ⟨ha.h⟩ hg hs rf).h.imp fun σ H R h=>by
 obtain⟨μ,ρ,st,l,h⟩:=h
 refine⟨μ,ρ,st,l,RK.bind h l fun μ1 st1 x v H1 p1 x1 l1 q1 h1=>?_⟩
 split at h1
 ·rename_i zs ws
  obtain⟨y,ys,rfl,ry,r1⟩:=q1.consE
  obtain⟨w,rfl,jp⟩:=r1.one
  obtain⟨t,vs,rfl,hS,r⟩:=ry.tupE
  obtain⟨t',Bi,rfl,hS',r'⟩:=jp.tupE
  refine⟨t,t',rfl,⟨vs,hS⟩,⟨Bi,hS'⟩,h1 μ1 _ H1 (ah _) dP.refl l1.sto fun i μ' bG H' pp xx S _=>⟨fun w hw=>?_,fun hl=>⟨vs,Bi,xx _ _ hS,xx _ _ hS',by rw[sN]at hl;rw[<- r.len,<- r'.len];omega⟩⟩⟩
  obtain⟨x,y,hx,hy,rfl⟩:=sM hw
  have m1:=r.mono pp xx
  have m2:=r'.mono pp xx
  obtain⟨v1,g1,g2⟩:=m1.get hx
  obtain⟨v2,g3,g4⟩:=m2.get hy
  refine⟨⟨vs,Bi,v1,v2,xx _ _ hS,xx _ _ hS',g1,g3⟩,fun z H'' hz=>?_⟩
  obtain⟨q,hq,rfl,hH⟩:=hz
  have e:=hH vs Bi v1 v2 (xx _ _ hS) (xx _ _ hS') g1 g3
  subst e
  have ex:=eF.same (K:=X.K) (cx hq (.tup [v1,v2]))
  exact⟨ex,S.same (cx hq _),.tupI eF.new (.consI (g2.mono (ah _) ex) (.consI (g4.mono (ah _) ex) .nilI))⟩
 ·exact h1.elim⟩
end
open Builtin.Str (tooLong)
section
variable{w:World}
end
section
end
section
def gm:List W->Option (List Int)
 |[]=>some []
 |.int z::ws=>(gm ws).map (z :: ·)
 |_=>none
theorem nM:∀{ws:List W} {l:List Int} {vs:List V},gm ws=some l->RelWs K μ H ws vs->vs=l.map V.int
 |[],l,vs,h,r=>by simp only[gm]at h;cases h;exact r.nilE
 |w::ws,l,vs,h,r=>by
  obtain⟨x,xs,rfl,rx,rs⟩:=r.consE
  unfold gm at h
  split at h
  ·rename_i e;cases e
  ·rename_i z U_ e
   cases e
   cases e2:gm ws with
   |none=>rw[e2]at h;cases h
   |some l'=>rw[e2]at h;cases h;rw[rx.intE,nM e2 rs];rfl
  ·cases h
end
section
end
abbrev TY:=List W×List (Nat×List W)
abbrev Xs:=bY->List aj->R TY
section
variable{fi:Xs}{f:FG}{t:FT}{el:FE}
end
section
variable{a b:Expr}{fs:FA}
end
section
end
section
variable{wi:TI}{g:TG}{te:Cx->TE}
end
section
variable{fi:FI}{f:FG}{el:FE}
end
theorem DK.key_inj{a b:DK}:a.key=b.key↔a=b:=by
 cases a<;>cases b<;>simp[DK.key,EX]
def DK.w:DK->W
 |.i z=>.int z
 |.s l=>.str l
def jJ:W->Option DK
 |.int z=>some (.i z)
 |.str l=>some (.s l)
 |_=>none
theorem oh{w:W}{k:DK}{v:V}(h:jJ w=some k)(r:bj K μ H w v):v=kV k.key:=by
 cases w with
 |int z=>cases h;exact r.intE
 |str l=>cases h;exact r.strE
 |_=>cases h
theorem DK.w_rel(k:DK):bj K μ H k.w (kV k.key):=by
 cases k with
 |i z=>exact .int
 |s l=>exact .str
def j9(kvs:List (DK×W))(k:DK):Option W:=(kvs.find? fun p=>decide (p.1=k)).map fun p=>p.2
def sO(kvs:List (DK×W))(k:DK)(v:W):List (DK×W):=if (kvs.any fun p=>decide (p.1=k))=true then kvs.map fun p=>if p.1=k then(p.1,v)else p else kvs++[(k,v)]
def j_(kvs:List (DK×W))(k:DK):List (DK×W):=kvs.filter fun p=>decide (p.1≠k)
abbrev dV(kvs:List (DK×W))(vs:List V):List (f6×V):=(kvs.map fun p=>p.1.key).zip vs
section
theorem wj:∀{kvs:List (DK×W)} {vs:List V} (k:DK),RelWs K μ H (kvs.map fun p=>p.2) vs->(∃w v,j9 kvs k=some w/\j5 (dV kvs vs) k.key=some v/\bj K μ H w v)\/(j9 kvs k=none/\j5 (dV kvs vs) k.key=none)
 |[],vs,k,r=>.inr ⟨rfl,rfl⟩
 |p::kvs,vs,k,r=>by
  obtain⟨x,xs,rfl,a,b⟩:=RelWs.consE r
  have ih:=wj (kvs:=kvs) k b
  by_cases h:p.1=k
  ·refine .inl ⟨p.2,x,?_,?_,a⟩
   ·unfold j9;rw[bD];simp[h]
   ·show j5 ((p.1.key,x)::dV kvs xs) k.key=some x
    exact nA (by rw[h])
  ·have e1:j9 (p::kvs) k=j9 kvs k:=by unfold j9;rw[bD];simp[h]
   have e2:j5 (dV (p::kvs) (x::xs)) k.key=j5 (dV kvs xs) k.key:=pI (p:=(p.1.key,x)) fun z=>h (DK.key_inj.mp z)
   rw[e1,e2];exact ih
theorem Fx:∀{kvs:List (DK×W)} {vs:List V} (k:DK),RelWs K μ H (kvs.map fun p=>p.2) vs->((dV kvs vs).any fun kv=>decide (kv.1=k.key))=(kvs.any fun p=>decide (p.1=k))
 |[],vs,k,r=>rfl
 |p::kvs,vs,k,r=>by
  obtain⟨x,xs,rfl,a,b⟩:=RelWs.consE r
  show(decide (p.1.key=k.key)||(dV kvs xs).any _)=(decide (p.1=k)||kvs.any _)
  rw[Fx k b]
  congr 1
  rw[decide_eq_decide];exact DK.key_inj
theorem Fy{k:DK}{w:W}{v:V}:∀{kvs:List (DK×W)} {vs:List V},RelWs K μ H (kvs.map fun p=>p.2) vs->bj K μ H w v->∃us,(dV kvs vs).map (fun kv=>if kv.1=k.key then(kv.1,v)else kv)=dV (kvs.map fun p=>if p.1=k then(p.1,w)else p) us/\RelWs K μ H ((kvs.map fun p=>if p.1=k then(p.1,w)else p).map fun p=>p.2) us
 |[],vs,r,jp=>⟨[],rfl,.nilI⟩
 |p::kvs,vs,r,jp=>by
  obtain⟨x,xs,rfl,a,b⟩:=RelWs.consE r
  obtain⟨us,e,q⟩:=Fy (k:=k) b jp
  by_cases h:p.1=k
  ·refine⟨v::us,?_,?_⟩
   ·show(if p.1.key=k.key then(p.1.key,v)else(p.1.key,x))::(dV kvs xs).map _=_
    rw[ar (by rw[h]),e,aH,ar h];rfl
   ·rw[aH,ar h];exact .consI jp q
  ·refine⟨x::us,?_,?_⟩
   ·show(if p.1.key=k.key then(p.1.key,v)else(p.1.key,x))::(dV kvs xs).map _=_
    rw[az (fun z=>h (DK.key_inj.mp z)),e,aH,az h];rfl
   ·rw[aH,az h];exact .consI a q
theorem Fz{kvs:List (DK×W)}{k:DK}{w:W}{v:V}(r:RelWs K μ H (kvs.map fun p=>p.2) vs)(jp:bj K μ H w v):∃us,m8 (dV kvs vs) k.key v=dV (sO kvs k w) us/\RelWs K μ H ((sO kvs k w).map fun p=>p.2) us:=by
 unfold m8 sO
 rw[Fx k r]
 by_cases h:(kvs.any fun p=>decide (p.1=k))=true
 ·rw[ar h,ar h]
  exact Fy r jp
 ·rw[az h,az h]
  refine⟨vs++[v],?_,?_⟩
  ·unfold dV
   rw[ce,List.zip_append (by rw[ai,<- r.len,ai])];rfl
  ·rw[ce];exact r.app (.consI jp .nilI)
theorem BX{k:DK}:∀{kvs:List (DK×W)} {vs:List V},RelWs K μ H (kvs.map fun p=>p.2) vs->∃us,mW (dV kvs vs) k.key=dV (j_ kvs k) us/\RelWs K μ H ((j_ kvs k).map fun p=>p.2) us
 |[],vs,r=>⟨[],rfl,.nilI⟩
 |p::kvs,vs,r=>by
  obtain⟨x,xs,rfl,a,b⟩:=RelWs.consE r
  obtain⟨us,e,q⟩:=BX (k:=k) b
  by_cases h:p.1=k
  ·refine⟨us,?_,?_⟩
   ·have e1:j_ (p::kvs) k=j_ kvs k:=by unfold j_;rw[cU];simp[h]
    rw[e1]
    exact(Du (p:=(p.1.key,x)) (by rw[h])).trans e
   ·have e1:j_ (p::kvs) k=j_ kvs k:=by unfold j_;rw[cU];simp[h]
    rw[e1];exact q
  ·have e1:j_ (p::kvs) k=p::j_ kvs k:=by unfold j_;rw[cU];simp[h]
   refine⟨x::us,?_,?_⟩
   ·rw[e1]
    exact(Dv (p:=(p.1.key,x)) fun z=>h (DK.key_inj.mp z)).trans (dM (List.cons (p.1.key,x)) e)
   ·rw[e1];exact .consI a q
theorem wm{kvs:List (DK×W)}(r:RelWs K μ H (kvs.map fun p=>p.2) vs):(dV kvs vs).length=kvs.length:=by
 unfold dV;rw[List.length_zip,ai,<- r.len,ai,Nat.min_self]
theorem eF.butD{l:Addr}{xs:List (f6×V)}(e:SY l H H')(hl:H l=some (.dK xs)):dP K H H':=by
 have jt:∀{p:Addr} {o:HO},H p=some o->(∀zs,o≠.dK zs)->p≠l:=fun{p o} q hn z=>by subst z;rw[hl]at q;cases q;exact hn _ rfl
 refine⟨fun p ys h=>?_,fun b o u h=>e _ _ (jt h (fun _ z=>by cases z)) h⟩
 rcases h with(h|⟨o,h⟩)|h
 ·exact .inl (.inl (e _ _ (jt h (fun _ z=>by cases z)) h))
 ·exact .inl (.inr ⟨o,e _ _ (jt h (fun _ z=>by cases z)) h⟩)
 ·exact .inr h
end
theorem h_.setD(S:h_ K mg μ st H){kvs RG:List (DK×W)}{xs:List (f6×V)}{us:List V}(hn:st[n]?=some (.dct kvs))(hm:μ[n]?=some a)(ha:H a=some (.dK xs))(hr:RelWs K μ H (RG.map fun p=>p.2) us) :
  h_ K mg μ (st.set n (.dct RG)) (eR H a (.dK (dV RG us))):=
 S.setG hn rfl hm ha (fun _ _ z=>by cases z) (fun _ z=>by cases z) (eF.butD fL ha) rfl ⟨us,eX,hr.mono (ah _) (eF.butD fL ha)⟩
def gn(st:List aj):W->Option (Nat×List (DK×W))
 |.loc n=>(match st[n]? with
  |some (.dct kvs)=>some (n,kvs)
  |some (.rod kvs)=>some (n,kvs)
  |_=>none)
 |_=>none
def rC(st:List aj):W->Option (Nat×List (DK×W))
 |.loc n=>(match st[n]? with
  |some (.dct kvs)=>some (n,kvs)
  |_=>none)
 |_=>none
theorem nN(S:h_ K mg μ st H){x:W}{v:V}{kvs:List (DK×W)}(h:gn st x=some (n,kvs))(r:bj K μ H x v) :
  ∃a vs,(st[n]?=some (.dct kvs)\/st[n]?=some (.rod kvs))/\μ[n]?=some a/\v=.ref a/\Rd H a (.dK (dV kvs vs))/\RelWs K μ H (kvs.map fun p=>p.2) vs:=by
 cases x with
 |loc m=>
  simp only[gn]at h
  cases e:st[m]? with
  |none=>rw[e]at h;cases h
  |some c=>
   rw[e]at h
   cases c with
   |dct z=>
    cases h
    obtain⟨a,g,vs,k,rr⟩:=S.get e
    obtain⟨b,f,rfl⟩:=r.locE
    rw[g]at f;cases f
    exact⟨a,vs,.inl e,g,rfl,.inl k,rr⟩
   |rod z=>
    cases h
    obtain⟨a,g,vs,o,k,rr⟩:=S.get e
    obtain⟨b,f,rfl⟩:=r.locE
    rw[g]at f;cases f
    exact⟨a,vs,.inr e,g,rfl,.inr ⟨o,k⟩,rr⟩
   |_=>cases h
 |_=>cases h
theorem rN(S:h_ K mg μ st H){x:W}{v:V}{kvs:List (DK×W)}(h:rC st x=some (n,kvs))(r:bj K μ H x v) :
  ∃a vs,st[n]?=some (.dct kvs)/\μ[n]?=some a/\v=.ref a/\H a=some (.dK (dV kvs vs))/\RelWs K μ H (kvs.map fun p=>p.2) vs:=by
 cases x with
 |loc m=>
  simp only[rC]at h
  cases e:st[m]? with
  |none=>rw[e]at h;cases h
  |some c=>
   rw[e]at h
   cases c with
   |dct z=>
    cases h
    obtain⟨a,g,vs,k,rr⟩:=S.get e
    obtain⟨b,f,rfl⟩:=r.locE
    rw[g]at f;cases f
    exact⟨a,vs,e,g,rfl,k,rr⟩
   |_=>cases h
 |_=>cases h
theorem uy.r{kvs:List (f6×V)}{k:f6}(e:Rd H a (.dK kvs)):uy H a (kV k) (j5 kvs k):=.inl ⟨kvs,k,e,rfl,rfl⟩
section
variable{a b d i:Expr}{fa fb fc fe fo fi:FE}{fs:FA}
def lE(neg:Bool)(x y:W)(st:List aj):R W:=match gn st y with
 |some (_,kvs)=>(match jJ x with
  |some k=>.ok (.bl (if neg then !(j9 kvs k).isSome else(j9 kvs k).isSome)) st
  |none=>.bad)
 |none=>sA neg x y st
theorem vq{kvs:List (DK×W)}{k:DK}(r:RelWs K μ H (kvs.map fun p=>p.2) vs):(j5 (dV kvs vs) k.key).isSome=(j9 kvs k).isSome:=by
 rcases wj k r with⟨w,v,e1,e2,_⟩|⟨e1,e2⟩<;>rw[e1,e2]<;>rfl
theorem BY(hr:gT kk X.A)(ho:pf X (compareOp .In) (sA false)):pf X (compareOp .In) (lE false):=⟨fun pins s σ H x y v u Q I rv ru ⟨μ,st,wx,wy,S,rx,ry,q⟩=>by
 unfold lE at q
 cases e:gn st wy with
 |none=>rw[e]at q;exact ho.h pins s σ H x y v u Q I rv ru ⟨μ,st,wx,wy,S,rx,ry,q⟩
 |some nk=>
  obtain⟨n,kvs⟩:=nk
  rw[e]at q
  cases ek:jJ wx with
  |none=>simp only[ek]at q;exact q.elim
  |some k=>
   simp only[ek]at q
   obtain⟨a,vs,_,_,rfl,ha,r⟩:=nN S e ry
   have:=oh ek rx
   subst this
   obtain rfl:u=Value.ref a:=ru
   refine Wl (BB hr) I (uy.r ha) rv fun s' I'=>?_
   rw[vq r]
   exact⟨.bl _,H,I',rfl,ik S q⟩,fun x y st=>by
 unfold lE
 split
 ·split<;>trivial
 ·exact ho.n x y st⟩
theorem pR(hr:gT kk X.A)(ho:pf X (compareOp .NotIn) (sA true)):pf X (compareOp .NotIn) (lE true):=⟨fun pins s σ H x y v u Q I rv ru ⟨μ,st,wx,wy,S,rx,ry,q⟩=>by
 unfold lE at q
 cases e:gn st wy with
 |none=>rw[e]at q;exact ho.h pins s σ H x y v u Q I rv ru ⟨μ,st,wx,wy,S,rx,ry,q⟩
 |some nk=>
  obtain⟨n,kvs⟩:=nk
  rw[e]at q
  cases ek:jJ wx with
  |none=>simp only[ek]at q;exact q.elim
  |some k=>
   simp only[ek]at q
   obtain⟨a,vs,_,_,rfl,ha,r⟩:=nN S e ry
   have:=oh ek rx
   subst this
   obtain rfl:u=Value.ref a:=ru
   refine JS (BB hr) I (uy.r ha) rv fun s' I'=>?_
   rw[vq r]
   exact⟨.bl _,H,I',rfl,ik S q⟩,fun x y st=>by
 unfold lE
 split
 ·split<;>trivial
 ·exact ho.n x y st⟩
def gp(x y:W)(st:List aj):R W:=match gn st x,jJ y with
 |some (_,kvs),some k=>pE (j9 kvs k) fun w=>.ok w st
 |_,_=>.bad
theorem TZ(hr:gT kk X.A)(ha:SE X a fa)(hb:SE X b fb)(hs:ET b:=by intro _ _;rfl):SE X (.Subscript a b pos) (e2 gp fa fb):=⟨(JT (BB hr) ha.h hb.h hs).imp fun σ H Q h=>by
 obtain⟨μ,ρ,st,l,h⟩:=h
 refine⟨μ,ρ,st,l,RK.bind h l fun μ1 st1 x v H1 p1 x1 l1 q1 h1=>⟨μ1,ρ,st1,l1,RK.bind h1 l1 fun μ2 cV y u H2 p2 x2 l2 q2 h2=>?_⟩⟩
 unfold gp at h2
 cases e1:gn cV x with
 |none=>rw[e1]at h2;exact h2.elim
 |some nk=>
  obtain⟨n,kvs⟩:=nk
  cases e2:jJ y with
  |none=>rw[e1,e2]at h2;exact h2.elim
  |some k=>
   rw[e1,e2]at h2
   simp only at h2
   obtain⟨a,vs,_,_,rfl,ha,r⟩:=nN l2.sto e1 (q1.mono p2 x2)
   have:=oh e2 q2
   subst this
   rcases wj k r with⟨w,z,g1,g2,g3⟩|⟨g1,g2⟩
   ·rw[g1]at h2
    exact⟨a,z,rfl,by rw[<- g2];exact uy.r ha,h2 μ2 z H2 (ah _) dP.refl l2.sto g3⟩
   ·rw[g1]at h2;exact h2.elim⟩
def jn(x i v:W)(st:List aj):Option (List aj):=match rC st x,jJ i with
 |some (n,kvs),some k=>if kvs.length<ji then some (st.set n (.dct (sO kvs k v)))else none
 |_,_=>none
theorem FB(hr:gT kk X.A):zS X (BR X jn):=fun pins s σ H o i v ov iv u Q I r1 r2 r3 ⟨μ,st,wo,wi,wv,bG,S,ro,ri,rv,e,q⟩=>by
 unfold jn at e
 cases e1:rC st wo with
 |none=>rw[e1]at e;cases e
 |some nk=>
  obtain⟨n,kvs⟩:=nk
  cases e2:jJ wi with
  |none=>rw[e1,e2]at e;cases e
  |some k=>
   rw[e1,e2]at e
   simp only at e
   split at e
   ·rename_i hl
    cases e
    obtain⟨a,vs,hn,hm,rfl,ha,r⟩:=rN S e1 ro
    have:=oh e2 ri
    subst this
    obtain rfl:ov=Value.ref a:=r1
    obtain⟨us,g1,g2⟩:=Fz (k:=k) r rv
    refine Dt (BB hr) I (JR.k ha (by rw[wm r];exact aT hl (by decide))) r2 r3 fun s' I'=>⟨_,I',?_⟩
    rw[g1]
    exact q _ (eF.butD fL ha) (S.setD hn hm ha g2)
   ·cases e
def sP(ws:List W)(st:List aj):R W:=match ws with
 |[x]=>(match gn st x with
  |some (_,kvs)=>.ok (.int kvs.length) st
  |none=>cW ws st)
 |_=>cW ws st
theorem PF:kO X (.builtin "len") sP:=⟨fun pins s σ H vs us Q I rv ⟨μ,st,ws,S,r,q⟩=>by
 unfold sP at q
 split at q
 ·rename_i x
  split at q
  ·rename_i n kvs e
   obtain⟨y,rfl,ry⟩:=r.one
   obtain⟨a,vs,_,_,rfl,ha,rr⟩:=nN S e ry
   obtain⟨u,rfl,ru⟩:=jI rv
   obtain rfl:u=Value.ref a:=ru
   refine SN I ha fun t s' I'=>⟨.int kvs.length,H,I',⟨t,by rw[wm rr]⟩,?_⟩
   exact q μ _ H (ah _) dP.refl S .int
  ·exact pM.h pins s σ H _ us Q I rv ⟨μ,st,_,S,r,q⟩
 ·exact pM.h pins s σ H _ us Q I rv ⟨μ,st,_,S,r,q⟩,fun ws st=>by
 unfold sP
 split
 ·split
  ·trivial
  ·exact(pM (X:=X)).n _ _
 ·exact(pM (X:=X)).n _ _⟩
def pS:FE:=fun _ st=>.ok (.loc st.length) (st++[.dct []])
theorem FC:SE X (.Dict [] [] pos) pS:=⟨EU.imp fun σ H Q h=>by
 obtain⟨μ,ρ,st,l,h⟩:=h
 intro p hp
 have hs:rq H (eR H p (.dK [])):=cx hp _
 exact h (μ++[p]) (.ref p) _ (ax _ _) (eF.same hs) (l.sto.push (c:=.dct []) hp ⟨[],eX,.nilI⟩) (mj l.sto)⟩
abbrev FP:=bY->List aj->R (List (W×W))
def qZ:FP:=fun _ st=>.ok [] st
def nO(fk fv:FE)(fr:FP):FP:=fun ρ st=>(fk ρ st).bind fun k st=>(fv ρ st).bind fun v st=>(fr ρ st).bind fun ps st=>.ok ((k,v)::ps) st
abbrev WE(X:Cx):List Addr->Hp->List (W×W)->List (V×V)->Prop:=fun μ H ws vs=>RelWs X.K μ H (ws.map fun p=>p.1) (vs.map fun p=>p.1)/\RelWs X.K μ H (ws.map fun p=>p.2) (vs.map fun p=>p.2)
structure VO(X:Cx)(pos:Pos)(keys:List (Option Expr))(km:List Expr)(f:FP):Prop where
 h:∃Bq,SR X pos keys km Bq/\∀σ H Q,tG X (WE X) f σ H Q->v8 Bq σ H Q
theorem FD:VO X pos [] [] qZ:=⟨[],JU,fun σ H Q h=>by
 obtain⟨μ,ρ,st,l,h⟩:=h
 exact h μ [] H (ah _) dP.refl l.sto ⟨.nilI,.nilI⟩⟩
theorem BZ{k v:Expr}{fk fv:FE}{fr:FP}{vs:List Expr}(hk:SE X k fk)(hv:SE X v fv)(hr:VO X pos ks vs fr):VO X pos (some k::ks) (v::vs) (nO fk fv fr):=by
 obtain⟨Bq,h1,h2⟩:=hr.h
 refine⟨(tE X fk,tE X fv)::Bq,EV hk.h hv.h h1,fun σ H Q h=>?_⟩
 obtain⟨μ,ρ,st,l,h⟩:=h
 refine⟨μ,ρ,st,l,RK.bind h l fun μ1 st1 x1 v1 H1 p1 e1 l1 q1 h1=>⟨μ1,ρ,st1,l1,RK.bind h1 l1 fun μ2 cV x2 v2 H2 p2 e2 l2 q2 h2'=>h2 _ _ _ ⟨μ2,ρ,cV,l2,RK.bind h2' l2 fun μ3 ju x3 v3 H3 p3 e3 l3 q3 h3=>?_⟩⟩⟩
 exact h3 μ3 _ H3 (ah _) dP.refl l3.sto ⟨.consI (q1.mono (p2.trans p3) (e2.trans e3)) q3.1,.consI (q2.mono p3 e3) q3.2⟩
def keysOf:List (W×W)->Option (List (DK×W))
 |[]=>some []
 |(k,v)::r=>match jJ k,keysOf r with
  |some k,some r=>some ((k,v)::r)
  |_,_=>none
theorem vt:∀{ps:List (W×W)} {kvs:List (DK×W)} {vs:List (V×V)},keysOf ps=some kvs->RelWs K μ H (ps.map fun p=>p.1) (vs.map fun p=>p.1)->RelWs K μ H (ps.map fun p=>p.2) (vs.map fun p=>p.2) ->
  ∃us,vs=(dV kvs us).map (fun kv=>(kV kv.1,kv.2))/\RelWs K μ H (kvs.map fun p=>p.2) us
 |[],kvs,vs,h,r1,r2=>by
  cases h
  have:vs=[]:=by simpa using r1.nilE
  subst this
  exact⟨[],rfl,.nilI⟩
 |(k,v)::r,kvs,vs,h,r1,r2=>by
  unfold keysOf at h
  cases e1:jJ k with
  |none=>rw[e1]at h;cases h
  |some k'=>
   cases e2:keysOf r with
   |none=>rw[e1,e2]at h;cases h
   |some r'=>
    rw[e1,e2]at h
    cases h
    cases vs with
    |nil=>obtain⟨_,_,z,_⟩:=r1.consE;cases z
    |cons q vs=>
     obtain⟨x,xs,z,a1,b1⟩:=r1.consE
     cases z
     obtain⟨x,xs,z,a2,b2⟩:=r2.consE
     cases z
     obtain⟨us,f1,f2⟩:=vt e2 b1 b2
     refine⟨q.2::us,?_,.consI a2 f2⟩
     obtain⟨q1,q2⟩:=q
     show(q1,q2)::vs=(kV k'.key,q2)::_
     rw[f1,show q1=kV k'.key from oh e1 a1]
     rfl
def Aw(acc kvs:List (DK×W)):List (DK×W):=kvs.foldl (fun acc p=>sO acc p.1 p.2) acc
theorem yn:∀{kvs acc:List (DK×W)} {vs us:List V},RelWs K μ H (kvs.map fun p=>p.2) vs->RelWs K μ H (acc.map fun p=>p.2) us->∃zs,nC (dV acc us) (dV kvs vs)=dV (Aw acc kvs) zs/\RelWs K μ H ((Aw acc kvs).map fun p=>p.2) zs
 |[],acc,vs,us,r1,r2=>⟨us,rfl,r2⟩
 |p::kvs,acc,vs,us,r1,r2=>by
  obtain⟨x,xs,rfl,a,b⟩:=RelWs.consE r1
  obtain⟨zs,e,q⟩:=Fz (k:=p.1) r2 a
  obtain⟨ys,e2,q2⟩:=yn b q
  refine⟨ys,?_,q2⟩
  show nC (m8 (dV acc us) p.1.key x) (dV kvs xs)=_
  rw[e,e2];rfl
def sQ(f:FP):FE:=fun ρ st=>(f ρ (st++[.dct []])).bind fun ps cV=>match cV[st.length]?,keysOf ps with
 |some (.dct []),some kvs=>if kvs.length<=15 then .ok (.loc st.length) (cV.set st.length (.dct (Aw [] kvs)))else .bad
 |_,_=>.bad
theorem FF{keys:List (Option Expr)}{km:List Expr}{f:FP}(h:VO X pos keys km f)(ng:keys.all (·.isSome)=true:=by rfl)(hl:keys.length=km.length:=by rfl)(h0:keys≠[]:=by intro z;cases z)(WR:keys.length<=15:=by decide) :
  SE X (.Dict keys km pos) (sQ f):=by
 obtain⟨Bq,h1,h2⟩:=h.h
 refine⟨(JV h1 ng hl h0 WR).imp fun σ H Q hh=>?_⟩
 obtain⟨μ,ρ,st,l,hh⟩:=hh
 intro p hp
 have hs:rq H (eR H p (.dK [])):=cx hp _
 have S0:h_ X.K X.mg (μ++[p]) (st++[.dct []]) (eR H p (.dK [])):=l.sto.push (c:=.dct []) hp ⟨[],eX,.nilI⟩
 have l0:Rl X (μ++[p]) ρ (st++[.dct []]) σ (eR H p (.dK [])):=l.to (ax _ _) (eF.same hs) S0
 refine h2 σ _ _ ⟨μ++[p],ρ,st++[.dct []],l0,RK.bind (RK.mono hh (ax _ _) (eF.same hs)) l0 fun μ2 cV ps vs H2 p2 e2 l2 q2 h2'=>?_⟩
 have hm:μ2[st.length]?=some p:=L2.pre_get p2 (by rw[l.sto.len];simp)
 split at h2'
 ·rename_i kvs ec ek
  split at h2'
  ·rename_i hle
   obtain⟨us,f1,f2⟩:=vt ek q2.1 q2.2
   have hd:H2 p=some (.dK []):=by
    obtain⟨a,g,vs0,k,_⟩:=l2.sto.get ec
    rw[hm]at g;cases g
    exact k
   obtain⟨zs,g1,g2⟩:=yn (acc:=[]) (us:=[]) f2 .nilI
   have cY:(dV kvs us).length=kvs.length:=wm f2
   refine⟨hd,dV kvs us,f1,by rw[cY];exact hle,?_⟩
   rw[show nC ([]:List (f6×V)) (dV kvs us)=_ from g1]
   exact h2' μ2 (.ref p) _ (ah _) (eF.butD fL hd) (l2.sto.setD ec hm hd g2) (.locI hm)
  ·exact h2'.elim
 ·exact h2'.elim
def B4(fo fk:FE):FE:=fun ρ st=>(fo ρ st).bind fun x st=>match rC st x with
 |some _=>(fk ρ st).bind fun y st=>(match rC st x,jJ y with
  |some (n,kvs),some k=>pE (j9 kvs k) fun w=>.ok w (st.set n (.dct (j_ kvs k)))
  |_,_=>.bad)
 |none=>.bad
theorem PH(ho:SE X o fo)(he:SE X e fe)(m:M1 X o "pop" eV e cS:=by exact⟨by rfl,by rfl,by rfl,by rfl⟩):SE X (.Call (.Attribute o "pop" eV) [e] [] cS) (B4 fo fe):=⟨(EW ho.h he.h m).imp fun σ H Q h=>by
 obtain⟨μ,ρ,st,l,h⟩:=h
 refine⟨μ,ρ,st,l,RK.bind h l fun μ1 st1 x v H1 p1 x1 l1 q1 h1=>?_⟩
 cases e0:rC st1 x with
 |none=>rw[e0]at h1;exact h1.elim
 |some nk0=>
  obtain⟨n0,kvs0⟩:=nk0
  rw[e0]at h1
  simp only at h1
  obtain⟨a0,vs0,_,W1,rfl,WV,_⟩:=rN l1.sto e0 q1
  refine⟨a0,rfl,.inl ⟨_,.inl WV⟩,μ1,ρ,st1,l1,RK.bind h1 l1 fun μ2 cV y u H2 p2 x2 l2 q2 h2=>?_⟩
  cases e1:rC cV x with
  |none=>rw[e1]at h2;exact h2.elim
  |some nk=>
   obtain⟨n,kvs⟩:=nk
   cases e2:jJ y with
   |none=>rw[e1,e2]at h2;exact h2.elim
   |some k=>
    rw[e1,e2]at h2
    simp only at h2
    obtain⟨a,vs,hn,hm,ea,ha,r⟩:=rN l2.sto e1 (q1.mono p2 x2)
    cases ea
    have:=oh e2 q2
    subst this
    rcases wj k r with⟨w,z,g1,g2,g3⟩|⟨g1,g2⟩
    ·rw[g1]at h2
     obtain⟨us,f1,f2⟩:=BX (k:=k) r
     refine⟨_,k.key,z,ha,rfl,g2,?_⟩
     rw[f1]
     exact h2 μ2 z _ (ah _) (eF.butD fL ha) (l2.sto.setD hn hm ha f2) (g3.mono (ah _) (eF.butD fL ha))
    ·rw[g1]at h2;exact h2.elim⟩
end
def yo(h:Heap)(mg:Str->Option Value):Prop:=∃bm o,mg "__builtins__"=some (.ref bm)/\bm≠builtinsNs/\h.get? bm=some o/\o.cls=.type "module"/\o.dict=some builtinsNs/\o.data=.plain
structure L6(ts:List Addr)(H:Hp):Prop where
 all:∀b,H b=none\/(∃o xs,H b=some (.frz o (.lst xs)))\/(b∈ts/\H b=some (.tbl #[]))
 tab:∀T∈ts,H T=some (.tbl #[])
theorem DP{P:Program}{w:World}{mb:Str->Option Value}{CX:Jj}{k:Nat}{fa:Addr}{fd:FuncData}{sp:Sp}{s₁:Shared}{vs:List Value}{ts:List Addr}
  (KX:K.In s₁.heap) (RU:s₁.heap.Ns mainGlobals mg) (hb:s₁.heap.Ns builtinsNs mb) (XZ:∀x:Str,x ≠ "__name__"->mb x=bootBuiltins x) (WY:s₁.heap.NoLimit) (hg:s₁.gens=#[])
  (ha:s₁.heap.get? a=some { cls:=.type "list",data:=.seq vs.toArray }) (hi:IntsAre vs ns) (hl:ns.length<=sizeLine) (hr:gT k callerA)
  (ht:∀T∈ts,s₁.heap.get? T=some { cls:=.none,data:=.fields #[] }) (WZ:∀T∈ts,K.lookup T=none) (VU:∀T∈ts,isCodeTable s₁.heap T)
  (XO:yo s₁.heap mg) (F:∀base:Heap,K.In base->base.Ns mainGlobals mg->yo base mg->dw P w K mg base CX k fa fd [x] sp) (U7:∀(s:Shared) (u:Value),BindsTo s fd ⟨[u],[]⟩ [(x,u)])
  (RX:∀H:Hp,L6 ts H->pD K H a (ns.map V.int)->sp [.ref a] H (fun v _=>v=.bl true) fun _ _ _=>False)
  (XT:∀H e s',CX [] H s₁ (fun _ _ _=>False) e s'->False) :
  codeAny (model P w) callerA (.call (.ref fa) ⟨[.ref a],[]⟩) (fun r s'=>r=.ok (.ret (.bool true))/\OldK s₁.heap s'.heap/\s'.os=s₁.os/\AllBare s'.gens) s₁:=by
 have rv:=u9 hi
 have lenV:=hi.length
 have hta:∀T∈ts,T≠a:=fun T hT z=>by
  have:=ht T hT
  rw[z,ha]at this
  have h2:=dM Obj.cls (aY this)
  cases h2
 have core:∀H:Hp,L6 ts H->pD K H a (ns.map V.int)->oD P w H s₁.heap->(∀b,H b≠none->b=a\/b∈ts)->(H a≠none->K.lookup a=none) ->
   codeAny (model P w) callerA (.call (.ref fa) ⟨[.ref a],[]⟩) (fun r s'=>r=.ok (.ret (.bool true))/\OldK s₁.heap s'.heap/\s'.os=s₁.os/\AllBare s'.gens) s₁:=by
  intro H hO hS hok hA hK
  have base_of:∀{b:Addr} {o:Obj},s₁.heap.get? b=some o->H b=none->(uu s₁.heap H).get? b=some o:=fun e n=>Ew e n
  have noA:∀{b:Addr} {o:Obj} {es:Array DictEntry} {ep:Nat},s₁.heap.get? b=some o->o.data=.dict es ep->H b=none:=fun{b o es ep} e d=>by
   cases q:H b with
   |none=>rfl
   |some u=>
    rcases hA b (by rw[q];simp)with e'|e'
    ·subst e'
     rw[ha]at e;cases e
     have d':Data.seq vs.toArray _=Data.dict es ep:=d
     cases d'
    ·rw[ht b e']at e;cases e
     have d':Data.fields _=Data.dict es ep:=d
     cases d'
  have nsK:∀{b:Addr} {m:Str->Option Value},s₁.heap.Ns b m->(uu s₁.heap H).Ns b m:=fun{b m} ⟨o,es,ep,e,d,r⟩=>⟨o,es,ep,base_of e (noA e d),d,r⟩
  have hKb:K.In (uu s₁.heap H):=fun b o e=>base_of (KX b o e) (by
   cases q:H b with
   |none=>rfl
   |some u=>
    rcases hA b (by rw[q];simp)with e'|e'
    ·subst e'
     rw[hK (by rw[q];simp)]at e;cases e
    ·rw[WZ b e']at e;cases e)
  have hbk':yo (uu s₁.heap H) mg:=by
   obtain⟨bm,o,b1,b2,b3,b4,b5,b6⟩:=XO
   refine⟨bm,o,b1,b2,base_of b3 ?_,b4,b5,b6⟩
   cases q:H bm with
   |none=>rfl
   |some u=>
    rcases hA bm (by rw[q];simp)with e'|e'
    ·subst e'
     rw[ha]at b3;cases b3;exact absurd b4 (by simp)
    ·rw[ht bm e']at b3;cases b3;cases b4
  have hM:Mod K mg (uu s₁.heap H):=⟨hKb,nsK RU,⟨mb,nsK hb,XZ⟩,let ⟨mc,h1,h2⟩:=WY;⟨mc,nsK h1,h2⟩⟩
  have e0:JJ P w K mg (uu s₁.heap H) callerA [] s₁ H:=⟨rfl,hM,fun b o e=>Jq e,Nat.le_of_eq (C_ _ _),trivial,fun b hb=>absurd (show b∈([]:List Addr)from hb) (by simp),hok,.of_eq hg⟩
  refine mM ((F _ hKb (nsK RU) hbk').run callerA [] s₁ H ⟨[.ref a],[]⟩ [.ref a] [.ref a] _ _ hr e0 (U7 s₁ (.ref a)) (.cons rfl .nil) (RX H hO hS)) fun r s' h=>?_
  cases r with
  |error e=>exact(XT H e s' h).elim
  |ok fl=>
   cases fl with
   |next=>exact False.elim h
   |brk=>exact False.elim h
   |cont=>exact False.elim h
   |ret u=>
    obtain⟨v,H',os,bare,un,hok',r',q⟩:=h
    have q':v=.bl true:=q
    subst q'
    obtain rfl:u=Value.bool true:=r'
    have was:∀b o,s₁.heap.get? b=some o->asItWas s₁.heap s'.heap b o/\∃o',s'.heap.get? b=some o':=fun b o e=>by
     cases q:H b with
     |none=>
      have:=un.keep b o e q (by intro z;exact absurd (show b∈([]:List Addr)from z) (by simp)) (by simp)
      exact⟨.inl this,_,this⟩
     |some u=>
      rcases hO.all b with z|⟨ob,xs,z⟩|⟨hbt,z⟩
      ·rw[q]at z;cases z
      ·have z2:=un.frzs b ob _ z
       obtain⟨e1,_⟩:=hok b _ z
       obtain⟨e2,_⟩:=hok' b _ z2
       rw[e]at e1;cases e1
       exact⟨.inl e2,_,e2⟩
      ·obtain⟨lh,z2⟩:=un.tbls b _ z
       have e2:s'.heap.get? b=some { cls:=.none,data:=.fields (#[]++lh) }:=hok' b _ z2
       rw[ht b hbt]at e
       cases e
       exact⟨.inr (.inl ⟨VU b hbt,rfl,#[],lh,rfl,e2⟩),_,e2⟩
    exact⟨rfl,⟨fun b o e=>(was b o e).1,fun b o e=>(was b o e).2⟩,os,bare⟩
 have tb:∀(f:Hp),(∀T∈ts,f T=some (.tbl #[]))->∀T∈ts,eS P w f s₁.heap T (.tbl #[]):=fun f _ T hT=>ht T hT
 have dec:∀b:Addr,b∈ts\/b∉ts:=fun b=>Classical.em _
 open Classical in
 cases hk:K.lookup a with
 |some o=>
  have e:=KX a o hk
  rw[ha]at e
  cases e
  refine core (fun b=>if b∈ts then some (.tbl #[])else none) ⟨fun b=>?_,fun T hT=>ar hT⟩ (.inr ⟨_,vs.toArray,_,hk,rfl,rfl,rfl,by rw[aF,lenV];exact hl,by simpa using rv⟩) (fun b u z=>?_) (fun b z=>?_) (fun z=>?_)
  ·by_cases hb:b∈ts
   ·exact .inr (.inr ⟨hb,ar hb⟩)
   ·exact .inl (az hb)
  ·by_cases hb:b∈ts
   ·have z':=(ar hb).symm.trans z
    cases z'
    exact ht b hb
   ·have z':=(az hb).symm.trans z
    cases z'
  ·by_cases hb:b∈ts
   ·exact .inr hb
   ·exact absurd (az hb) z
  ·exact absurd (az (fun q=>hta a q rfl)) z
 |none=>
  refine core (fun b=>if b=a then some (.frz { cls:=.type "list",data:=.seq vs.toArray } (.lst (ns.map V.int)))else if b∈ts then some (.tbl #[])else none) ⟨fun b=>?_,fun T hT=>(az (hta T hT)).trans (ar hT)⟩ (.inl (.inr ⟨{ cls:=.type "list",data:=.seq vs.toArray },ar rfl⟩)) (fun b u z=>?_) (fun b z=>?_) (fun _=>hk)
  ·by_cases hb:b=a
   ·exact .inr (.inl ⟨_,_,ar hb⟩)
   ·by_cases hb2:b∈ts
    ·exact .inr (.inr ⟨hb2,(az hb).trans (ar hb2)⟩)
    ·exact .inl ((az hb).trans (az hb2))
  ·by_cases hb:b=a
   ·have z':=(ar hb).symm.trans z
    cases z'
    subst hb
    exact⟨ha,by rw[ai];exact hl,vs,_,rv,ha⟩
   ·by_cases hb2:b∈ts
    ·have z':=((az hb).trans (ar hb2)).symm.trans z
     cases z'
     exact ht b hb2
    ·have z':=((az hb).trans (az hb2)).symm.trans z
     cases z'
  ·by_cases hb:b=a
   ·exact .inl hb
   ·by_cases hb2:b∈ts
    ·exact .inr hb2
    ·exact absurd ((az hb).trans (az hb2)) z
def FH(tc:List aj)(F:List W->List aj->R W):Prop:=∀ns:List Int,ns.length<=63->∃bG,F [.loc 0] (.ro (ns.map W.int)::tc)=.ok (.bl true) bG
def wn(L:List (Addr×Pos×Str)):List aj:=L.map fun t=>.tab t.1 t.2.1 t.2.2
theorem walkT{l:PySem.W.OpenLaw}{k:Nat}{q:Program}{C6:List Str}{XP:(Str->Option Value)->Heap->Prop}{d:DefRec}{K:Params->Frag}{x:Str}{G:List W->List aj->R W}(L:List (Addr×Pos×Str))(hL:(L.map fun t=>t.1).Nodup)(hn:l.most=some 63)(WS:d.params.defaults=[])(hr:gT k callerA)
  (hY:∀(w:World) (h:Heap),YP w h->(K w.params).In h) (hT:∀(w:World) (h:Heap),YP w h->∀T∈L.map (fun t=>t.1),h.get? T=some { cls:=.none,data:=.fields #[] })
  (WZ:∀(w:World),∀T∈L.map (fun t=>t.1),(K w.params).lookup T=none) (VU:∀(w:World),∀T∈L.map (fun t=>t.1),∃c,codeHdIn (K w.params) c T=true)
  (F:∀(w:World) (mg:Str->Option Value) (fa:Addr) (h:Heap),(K w.params).In h->h.Ns mainGlobals mg->mg d.name=some (.ref fa) ->
   ∃fd:FuncData,(∀(s:Shared) (u:Value),BindsTo s fd ⟨[u],[]⟩ [(x,u)])/\∀base:Heap,(K w.params).In base->base.Ns mainGlobals mg->yo base mg->dw l.prog w (K w.params) mg base (iX l.prog w) k fa fd [x] (ja (K w.params) mg 1 G))
  (ok:FH (wn L) G):PySem.W.WalkO q C6 XP YP l.row.toRowW d [] (fun f vs=>PySem.call f vs):=by
 refine Att.attach_call hn WS fun w s₀ s₁ mg mb fa o pm cd rg a vs ns G' Y ho hd nX hmg hobj hints cY hg=>?_
 have KX:=hY w _ Y
 obtain⟨fd,hb,hF⟩:=F w mg fa _ KX G'.T.g hmg
 refine DP (ts:=L.map fun t=>t.1) (CX:=iX l.prog w) (sp:=ja (K w.params) mg 1 G) KX G'.T.g G'.T.b G'.T.builtins G'.T.nolimit hg hobj hints (aR cY (by decide)) hr (hT w _ Y) (WZ w) (fun T hT'=>?_) G'.T.bmain hF hb (fun H hO hS=>?_) fun H e s' z=>?_
 ·obtain⟨c,hc⟩:=VU w T hT'
  obtain⟨o,vs,_,_,_,_,_,_,_,e1,e2,e3,e4,_⟩:=PySem.W.codeHd_of_K KX hc
  exact⟨c,o,vs,e1,e2,e3,e4⟩
 ·obtain⟨bG,e⟩:=ok ns cY
  have ut:VE (K w.params) H a (ns.map V.int):=by
   rcases hS with(z|⟨o,z⟩)|z
   ·rcases hO.all a with y|⟨o,xs,y⟩|⟨_,y⟩
    ·rw[z]at y;cases y
    ·rw[z]at y;cases y
    ·rw[z]at y;cases y
   ·exact .inl ⟨o,z⟩
   ·exact .inr z
  have hta:∀T∈L.map (fun t=>t.1),T≠a:=fun T hT' z=>by
   have:=hT w _ Y T hT'
   rw[z,hobj]at this
   have h2:=dM Obj.cls (aY this)
   cases h2
  have hri:∀μ:List Addr,RelWs (K w.params) μ H (ns.map W.int) (ns.map V.int):=fun μ=>by
   clear hS ut e cY hints
   induction ns with
   |nil=>exact .nilI
   |cons n r ih=>exact .consI .int ih
  refine⟨rfl,a::L.map (fun t=>t.1),[.loc 0],.ro (ns.map W.int)::wn L,⟨fun i j b ci cj c1 c2 r1 r2 m1 m2=>?_,by simp[wn],fun i c b c1 c2=>?_⟩,.consI (.locI rfl) .nilI,?_⟩
  ·cases i with
   |zero=>cases c1;cases r1
   |succ i=>
    cases j with
    |zero=>cases c2;cases r2
    |succ j=>
     simp only[fW]at m1 m2
     rw[(List.getElem?_inj (ac.mp m1).1 hL).mp (m1.trans m2.symm)]
  ·cases i with
   |zero=>cases c1;cases c2;exact⟨_,ut,hri _⟩
   |succ i=>
    simp only[fW]at c1 c2
    unfold wn at c1
    rw[ak]at c1 c2
    cases e1:L[i]? with
    |none=>rw[e1]at c1;cases c1
    |some t=>
     rw[e1]at c1 c2
     cases c1;cases c2
     exact⟨rfl,#[],hO.tab _ (aJ.mpr ⟨t,aA e1,rfl⟩),trivial,.inl rfl⟩
  ·rw[e]
   intro μ' v H' _ _ _ rv
   exact rv.blE
 ·obtain⟨_,_,_,_,_,_,z,_⟩:=z
  exact z
structure FJ(en dn:Str)(pr:Arguments)(b:Expr)(sc:Scope):Prop where
 co:sc.isCoroutine=false
 gen:sc.isGenerator=false
 kind:sc.kind=.function
 cell:∀x∈sc.names,x.2≠.cell
 ke:sc.names.lookup en=some .local
 kd:sc.names.lookup dn=some .free
 bind:∀(nm q:Str) (cl:List (Str×Addr)) (pm fI ct v:Value),bindArgs (PySem.W.kla_fn nm q pr b sc cl pm fI ct) ⟨[v],[]⟩=pure [(en,v)]
 nd:(dn==("__classdict__":Str))=false
 d1:(en==("__debug__":Str))=false
 d2:(dn==("__debug__":Str))=false
section
theorem yp{f c0:Addr}{en dn nm q:Str}{pr:Arguments}{p3 p4:Pos}{pm ct:Value}{kvs:List (f6×V)}{k:f6}{v:V}
  (T:FJ en dn pr (.Subscript (.Name dn p2) (.Name en p3) p4) sc) (I:bz X pins σ H s)
  (hf:s.heap.get? f=some (kla_obj nm q pr (.Subscript (.Name dn p2) (.Name en p3) p4) sc [(dn,c0)] pm cd ct)) (nX:s.heap.CodeRec (.ref cd) q)
  (LB:s.heap.IsCell c0 (some (.ref a))) (ha:H a=some (.dK kvs)) (hv:j5 kvs k=some v) (ru:bL (kV k) u) (vT:A.depth<recursionLimit) (hu:A.units+8<cLine)
  (h:∀z h' t,(∀b o,s.heap.get? b=some o->h'.get? b=some o)->bz X pins σ H { s with heap:=h',toks:=t }->bL v z->Q z { s with heap:=h',toks:=t }) :
  wpAny (model X.prog X.w) A (call (.ref f) [u]) Q E s:=by
 refine wpAny_call ?_
 refine PySem.W.kla_callFunE vT hf rfl T.co T.gen rfl nX ?_
 rw[T.bind]
 refine ao (wpAny_newFunctionEnv T.cell (fun y hy=>?_) (fun h₁ RU hsb=>?_) T.kind)
 ·have:y=(en,u):=by simpa using hy
  rw[this];exact T.ke
 ·have hk1:∀b o,s.heap.get? b=some o->h₁.get? b=some o:=fun b o e=>hsb.extBut b o (bf (aE e)) (am _ e)
  have I1:bz X pins σ H { s with heap:=h₁,toks:=s.toks+[(en,u)].length }:=I.kept hk1
  refine⟨I1.nolimit,PySem.W.kla_codeExpr ?_⟩
  obtain⟨z0,hd,vs,rel,dd⟩:=oG I1.hok (.inl ha)
  refine v7 PySem.F.slot_dict_getitem.lookup (fun _ _=>rfl) (mI ?_ T.d2)
  refine wpAny_loadName_free (c:=c0) (v:=.ref a) T.kind ?_ ?_ (LB.keeps hk1) ?_ T.nd
  ·show List.lookup dn sc.names=some .free
   exact T.kd
  ·show List.lookup dn [(dn,c0)]=some c0
   simp[List.lookup]
  refine mI ?_ T.d1
  refine wpAny_loadName_local (v:=u) T.kind ?_ RU ?_ ?_
  ·show List.lookup en sc.names=some .local
   exact T.ke
  ·simp[List.lookup]
  obtain⟨z,hz,rz⟩:=qo.some_of (v:=v) (o:=valueAt vs k) (by rw[<- hv];exact rel.val k)
  refine⟨dd.typeIs,lY (qU ru) dd.mapOf hz ?_⟩
  exact h z h₁ _ hk1 (I1.tok _) rz
def kc(kf:Nat->List Int):Nat->Nat
 |0=>0
 |j+1=>if HT.lexLt (kf (j+1)) (kf (kc kf j))=true then j+1 else kc kf j
theorem wp(kf:Nat->List Int):∀j,kc kf j<=j
 |0=>aw _
 |j+1=>by unfold kc;have:=wp kf j;split<;>omega
theorem wq{w:World}{k:f6}(h:(dR P w).is k v=true):bL (kV k) v:=by
 rcases eQ h with⟨i,t,rfl,rfl⟩|⟨x,t,rfl,rfl⟩
 ·exact⟨t,rfl⟩
 ·exact⟨t,rfl⟩
structure nP(X:Cx)(pins:List (Addr×Obj))(σ:St)(H:Hp)(s:Shared)(f c0 cd a it:Addr)(fo:Obj)(q:Str)(vs:List (f6×Value))(ep j:Nat):Prop where
 inv:bz X pins σ H s
 fn:s.heap.get? f=some fo
 code:s.heap.CodeRec (.ref cd) q
 cell:s.heap.IsCell c0 (some (.ref a))
 dict:s.heap.DictAt (dR X.prog X.w) a vs ep
 iter:s.heap.IsKeyIter it a j vs.length ep
theorem nP.go{f c0:Addr}{fo:Obj}{q:Str}{vs:List (f6×Value)}{ep j':Nat}{b0:Addr}(M:nP X pins σ H s f c0 cd a it fo q vs ep j)(I:bz X pins σ H { s with heap:=h',toks:=t' })
  (k:∀b o,b≠b0->s.heap.get? b=some o->h'.get? b=some o) (n1:f≠b0) (n2:cd≠b0) (n3:c0≠b0) (n4:a≠b0) (hi:h'.IsKeyIter it a j' vs.length ep):nP X pins σ H { s with heap:=h',toks:=t' } f c0 cd a it fo q vs ep j':=by
 obtain⟨c2,oc,ws,tt,e2,hoc,hd,hv⟩:=M.code
 cases e2
 refine⟨I,k f _ n1 M.fn,⟨_,oc,ws,tt,rfl,k _ _ n2 hoc,hd,hv⟩,?_,M.dict.at' fun o e=>k a o n4 e,hi⟩
 obtain⟨o,ho,hd⟩:=M.cell
 exact⟨o,k c0 o n3 ho,hd⟩
theorem FK{f c0 ls:Addr}{en dn nm q:Str}{pr:Arguments}{p3 p4:Pos}{pm ct:Value}{kvs:List (f6×V)}{vs:List (f6×Value)}{ep:Nat}{kf:Nat->List Int}{tv:Nat->Addr}{R:Result->Shared->Prop}{g0:Array GenState}{d0:Drawn}{rZ:OsState}
  (T:FJ en dn pr (.Subscript (.Name dn p2) (.Name en p3) p4) sc) (hh:A.handled=none) (vT:A.depth<recursionLimit) (hu:A.units+16<cLine) (ha:H a=some (.dK kvs)) (rel:KV kvs vs) (me:(kvs.map (·.1)).Nodup)
  (Bf:∀(i:Nat) (k:f6) (x:V),kvs[i]?=some (k,x)->x=.ref (tv i)/\eF X.K H (tv i) ((kf i).map V.int))
  (xE:ny X pins H it) (xD:ny X pins H ls) (Rp:it≠ls) (nf:f≠it/\f≠ls) (RY:cd≠it/\cd≠ls) (RW:c0≠it/\c0≠ls)
  (hR:∀v h t k x,kvs[kc kf (kvs.length-1)]?=some (k,x)->bL (kV k) v->bz X pins σ H ⟨h,g0,d0,t,rZ⟩->R (.ok (.ret v)) ⟨h,g0,d0,t,rZ⟩) :
  ∀(r j:Nat) (h:Heap) (t:Nat) (vb:Value) (c:Nat),kvs.length-(j+1)=r->j+1<=kvs.length->nP X pins σ H ⟨h,g0,d0,t,rZ⟩ f c0 cd a it (kla_obj nm q pr (.Subscript (.Name dn p2) (.Name en p3) p4) sc [(dn,c0)] pm cd ct) q vs ep (j+1) ->
   h.get? ls=some (seqObj "list" #[vb,.ref (tv (kc kf j))] c)->(∀k x,kvs[kc kf j]?=some (k,x)->bL (kV k) vb) ->
   codeAny (model X.prog X.w) A (.builtin "min.loop" ⟨[.ref it,.ref f,.ref ls],[]⟩) R ⟨h,g0,d0,t,rZ⟩:=by
 have hname:(toString "min"++toString ".loop":String)="min.loop":=by decide
 have hna:a≠it/\a≠ls:=⟨fun z=>(by rw[z,xE.1]at ha;cases ha),fun z=>(by rw[z,xD.1]at ha;cases ha)⟩
 have cY:kvs.length=vs.length:=rel.length
 intro r
 induction r with
 |zero=>
  intro j h t vb c hr hj M hls hvb
  have hin:j+1=kvs.length:=by omega
  refine m6 PySem.F.entry_min_loop ?_
  rw[jr PySem.F.plain_min_loop _]
  show wpAny _ A.in1 (seqItems? (.ref ls) >>= _) _ _ _
  refine ae (cC hls rfl ?_)
  show wpAny _ A.in1 (tryCatch (pyNext (.ref it)) _ >>= _) _ _ _
  refine ae (gQ (wpAny_pyNext_dict_end hh M.iter M.dict (by rw[gy];omega) fun h1 hk1=>?_))
  have I1:bz X pins σ H ⟨h1,g0,d0,t,rZ⟩:=M.inv.turned (it:=it) (fun b o hb e=>hk1 b o hb e) xE.1 xE.2.1 xE.2.2.2.1 xE.2.2.2.2.1 xE.2.2.2.2.2
  have hls1:=hk1 ls _ (Ne.symm Rp) hls
  show wpAny _ A.in1 (updateSeq ls (fun _=>#[]) >>= _) _ _ _
  refine ae ?_
  refine jE hls1 rfl (ae (gP (ao ?_)))
  have sb:=cI h1 ls (Obj.mapSeq fun _=>(#[]:Array Value))
  obtain⟨⟨k,x⟩,hx⟩:∃p,kvs[kc kf j]?=some p:=⟨_,aa (by have:=wp kf j;omega)⟩
  refine hR vb _ _ k x (by rw[show kvs.length-1=j by omega];exact hx) (hvb k x hx) ?_
  exact I1.turned (it:=ls) (fun b o hb e=>sb.extBut b o hb e) xD.1 xD.2.1 xD.2.2.2.1 xD.2.2.2.2.1 xD.2.2.2.2.2
 |succ r ih=>
  intro j h t vb c hr hj M hls hvb
  have hlt:j+1<kvs.length:=by omega
  obtain⟨⟨k,x⟩,hx⟩:∃p,kvs[j+1]?=some p:=⟨_,aa hlt⟩
  obtain⟨⟨k',y⟩,hy⟩:∃p,vs[j+1]?=some p:=⟨_,aa (by omega)⟩
  have ek:k=k':=by
   have:=dM (fun l:List f6=>l[j+1]?) rel.keys
   simp only[ak,hx,hy]at this
   exact aY this
  subst ek
  obtain⟨rfl,hS⟩:=Bf (j+1) k x hx
  refine m6 PySem.F.entry_min_loop ?_
  rw[jr PySem.F.plain_min_loop _]
  show wpAny _ A.in1 (seqItems? (.ref ls) >>= _) _ _ _
  refine ae (cC hls rfl ?_)
  show wpAny _ A.in1 (tryCatch (pyNext (.ref it)) _ >>= _) _ _ _
  refine ae (gQ (mT M.iter M.dict hy fun v h1 hv hit1 rH=>?_))
  have rv:bL (kV k) v:=wq hv
  have I1:bz X pins σ H ⟨h1,g0,d0,t,rZ⟩:=M.inv.turned (it:=it) (fun b o hb e=>rH.extBut b o hb e) xE.1 xE.2.1 xE.2.2.2.1 xE.2.2.2.2.1 xE.2.2.2.2.2
  have M1:nP X pins σ H ⟨h1,g0,d0,t,rZ⟩ f c0 cd a it _ q vs ep (j+1+1):=M.go (s:=⟨h,g0,d0,t,rZ⟩) (b0:=it) I1 (fun b o hb e=>rH.extBut b o hb e) nf.1 RY.1 RW.1 hna.1 hit1
  have hls1:=rH.extBut ls _ (Ne.symm Rp) hls
  have hvk:j5 kvs k=some (.ref (tv (j+1))):=by
   unfold j5
   have hm:(k,V.ref (tv (j+1)))∈kvs:=aA hx
   cases hf:kvs.find? (fun kv=>decide (kv.1=k))with
   |none=>
    have:=iy.mp hf _ hm
    simp at this
   |some p=>
    have h1:=List.find?_some hf
    have h2:=gZ hf
    have e1:p.1=k:=by simpa using h1
    obtain⟨i1,hi1⟩:=bC h2
    have e2:i1=j+1:=by
     refine(List.getElem?_inj (l:=kvs.map (·.1)) (by rw[ai];exact(ac.mp hi1).1) me).mp ?_
     rw[ak,ak,hi1,hx]
     show some p.1=some k
     rw[e1]
    subst e2
    rw[hx]at hi1;cases hi1;rfl
  show wpAny _ A.in1 (tryCatch (holding [v] (call (.ref f) [v])) _ >>= _) _ _ _
  refine ae (gQ (cE (yp T M1.inv M1.fn M1.code M1.cell ha hvk rv vT (by show A.units+1+8<cLine;omega) fun z h2 t2 Jo I2 rz=>?_)))
  obtain rfl:z=Value.ref (tv (j+1)):=rz
  have M2:nP X pins σ H ⟨h2,g0,d0,t2,rZ⟩ f c0 cd a it _ q vs ep (j+1+1):=M1.go (s:=⟨h1,g0,d0,t,rZ⟩) (b0:=h1.objs.size) I2 (fun b o _ e=>Jo b o e)
   (fun q=>by have:=aE M1.fn;rw[q]at this;exact bH _ this) (fun q=>by obtain⟨_,_,_,_,e2,ho,_⟩:=M1.code;cases e2;have:=aE ho;rw[q]at this;exact bH _ this) (fun q=>by have:=M1.cell.lt;rw[q]at this;exact bH _ this)
   (fun q=>by obtain⟨o,_,ho,_⟩:=M1.dict;have:=aE ho;rw[q]at this;exact bH _ this) (by obtain⟨o,ho,r1,r2⟩:=hit1;exact⟨o,Jo _ _ ho,r1,r2⟩)
  have hls2:=Jo ls _ hls1
  obtain⟨⟨kb,xb⟩,hxb⟩:∃p,kvs[kc kf j]?=some p:=⟨_,aa (by have:=wp kf j;omega)⟩
  obtain⟨rfl,hSb⟩:=Bf (kc kf j) kb xb hxb
  obtain⟨bn,r1,p1,_⟩:=I2.tuple hS
  obtain⟨its2,r2,p2,_⟩:=I2.tuple hSb
  have i1:IntsAre bn.toArray.toList (kf (j+1)):=mh r1
  have i2:IntsAre its2.toArray.toList (kf (kc kf j)):=mh r2
  show wpAny _ A.in1 (tryCatch (holding [v,.ref (tv (j+1))] (richCompare .Lt (.ref (tv (j+1))) (.ref (tv (kc kf j))) >>= _)) _ >>= _) _ _ _
  refine ae (gQ (cE (ae ?_)))
  refine HT.lt_tupInts p1 p2 i1 i2 (by show A.units+1<cLine;omega) ?_
  refine ae (cE (dA ?_))
  refine ae (gP (ao ?_))
  by_cases hb:HT.lexLt (kf (j+1)) (kf (kc kf j))=true
  ·have em:kc kf (j+1)=j+1:=by show(if _ then _ else _)=_;rw[ar hb]
   have sb:=cI h2 ls (Obj.mapSeq fun _=>#[v,Value.ref (tv (j+1))])
   obtain⟨c2,hc2⟩:∃c2,(h2.update ls (Obj.mapSeq fun _=>#[v,Value.ref (tv (j+1))])).get? ls=some (seqObj "list" #[v,.ref (tv (j+1))] c2):=⟨_,get?_update_seq hls2 fun _=>#[v,Value.ref (tv (j+1))]⟩
   simp only[hb,dC]
   refine ae ?_
   refine jE hls2 rfl (ae (gP ?_))
   rw[hname]
   have I3:bz X pins σ H ⟨h2.update ls (Obj.mapSeq fun _=>#[v,Value.ref (tv (j+1))]),g0,d0,t2,rZ⟩:=I2.turned (it:=ls) (fun b o hb e=>sb.extBut b o hb e) xD.1 xD.2.1 xD.2.2.2.1 xD.2.2.2.2.1 xD.2.2.2.2.2
   have M3:nP X pins σ H ⟨h2.update ls (Obj.mapSeq fun _=>#[v,Value.ref (tv (j+1))]),g0,d0,t2,rZ⟩ f c0 cd a it _ q vs ep (j+1+1):=
    M2.go (s:=⟨h2,g0,d0,t2,rZ⟩) (b0:=ls) I3 (fun b o hb e=>sb.extBut b o hb e) nf.2 RY.2 RW.2 hna.2 (by obtain⟨o,ho,r1,r2⟩:=M2.iter;exact⟨o,sb.extBut _ _ Rp ho,r1,r2⟩)
   exact ao ⟨lq PySem.F.plain_min_loop _,ih (j+1) _ _ v c2 (by omega) hlt M3 (by rw[em];exact hc2) fun k2 x2 e2=>by rw[em,hx]at e2;cases e2;exact rv⟩
  ·have em:kc kf (j+1)=kc kf j:=by show(if _ then _ else _)=_;rw[az hb]
   simp only[hb,cz,gq]
   refine ae (gP ?_)
   rw[hname]
   exact ao ⟨lq PySem.F.plain_min_loop _,ih (j+1) _ _ vb c (by omega) hlt M2 (by rw[em];exact hls2) fun k2 x2 e2=>by rw[em]at e2;exact hvb k2 x2 e2⟩
theorem FL{f c0:Addr}{en dn nm q:Str}{pr:Arguments}{p3 p4:Pos}{pm ct:Value}{kvs:List (f6×V)}{kf:Nat->List Int}{tv:Nat->Addr}
  (T:FJ en dn pr (.Subscript (.Name dn p2) (.Name en p3) p4) sc) (hh:A.handled=none) (vT:A.depth<recursionLimit) (hu:A.units+16<cLine) (I:bz X pins σ H s) (ha:H a=some (.dK kvs))
  (hf:s.heap.get? f=some (kla_obj nm q pr (.Subscript (.Name dn p2) (.Name en p3) p4) sc [(dn,c0)] pm cd ct)) (nX:s.heap.CodeRec (.ref cd) q) (LB:s.heap.IsCell c0 (some (.ref a))) (jt:0<kvs.length)
  (Bf:∀(i:Nat) (k:f6) (x:V),kvs[i]?=some (k,x)->x=.ref (tv i)/\eF X.K H (tv i) ((kf i).map V.int))
  (hQ:∀v h t k x,kvs[kc kf (kvs.length-1)]?=some (k,x)->bL (kV k) v->bz X pins σ H { s with heap:=h,toks:=t }->Q v { s with heap:=h,toks:=t }) :
  wpAny (model X.prog X.w) A (call (.builtin "min") [.ref a] [(Str.ofString "key",.ref f)]) Q E s:=by
 have hname:(toString "min"++toString ".loop":String)="min.loop":=by decide
 obtain⟨hz,hsys,vs,rel,o,es,ep,hdo⟩:=oG I.hok (.inl ha)
 have dd:s.heap.DictAt (dR X.prog X.w) a vs ep:=⟨o,es,hdo⟩
 have me:(kvs.map (·.1)).Nodup:=by rw[rel.keys];exact hdo.2.2.2.2.2
 have cY:kvs.length=vs.length:=rel.length
 obtain⟨h0,g0,d0,t0,rZ⟩:=s
 refine kmk_tree PySem.F.kind_min PySem.F.plain_min PySem.F.entry_min (kmk_min_key _ _) ?_
 show wpAny _ A.in1 (Builtin.Builtins.bindParams "min" ["key","default"] 0 ⟨[],[(Str.ofString "key",.ref f)]⟩ >>= _) _ _ _
 refine ae (wpAny_of_eq (show Builtin.Builtins.bindParams "min" ["key","default"] 0 ⟨[],[(Str.ofString "key",.ref f)]⟩=pure [some (.ref f),none]from rfl) ?_)
 refine ae (ao ?_)
 refine ae (wpAny_pyIter_dict hsys dd ?_)
 refine ae (wpAny_newList ?_ (cH _))
 rw[hname]
 dsimp only
 generalize hG1:h0.push { cls:=.type "dict_keyiterator",data:=.fields #[.ref a,.int 0 0,.int vs.length 0,.int ep 0] }=G1
 have sz1:G1.objs.size=h0.objs.size+1:=by rw[<- hG1,d8]
 have k1:∀b o,h0.get? b=some o->(G1.push { cls:=.type "list",data:=.seq ([]:List Value).toArray }).get? b=some o:=fun b o e=>am _ (hG1▸am _ e)
 have git:(G1.push { cls:=.type "list",data:=.seq ([]:List Value).toArray }).get? h0.objs.size=some { cls:=.type "dict_keyiterator",data:=.fields #[.ref a,.int 0 0,.int vs.length 0,.int ep 0] }:=am _ (hG1▸aC _ rfl)
 have gls:(G1.push { cls:=.type "list",data:=.seq ([]:List Value).toArray }).get? G1.objs.size=some (seqObj "list" #[] 0):=aC _ rfl
 generalize hG2:G1.push { cls:=.type "list",data:=.seq ([]:List Value).toArray }=G2 at k1 git gls
 have I2:bz X pins σ H ⟨G2,g0,d0,t0,rZ⟩:=I.kept k1
 have Rp:h0.objs.size≠G1.objs.size:=by omega
 have xE:ny X pins H h0.objs.size:=I.fpOk (aw _) I.fresh
 have xD:ny X pins H G1.objs.size:=I.fpOk (by show h0.objs.size<=_;omega) (I.hok.fresh (by show h0.objs.size<=_;omega))
 have old:∀b o,h0.get? b=some o->b≠h0.objs.size/\b≠G1.objs.size:=fun b o e=>⟨bf (aE e),bf (by rw[sz1];exact iL (aE e))⟩
 obtain⟨c2,oc,ws,tt,e2,hoc,hdc,hvc⟩:=id nX
 cases e2
 obtain⟨oc0,hoc0,hdc0⟩:=id LB
 have M0:nP X pins σ H ⟨G2,g0,d0,t0,rZ⟩ f c0 cd a h0.objs.size (kla_obj nm q pr (.Subscript (.Name dn p2) (.Name en p3) p4) sc [(dn,c0)] pm cd ct) q vs ep 0:=
  ⟨I2,k1 _ _ hf,⟨_,oc,ws,tt,rfl,k1 _ _ hoc,hdc,hvc⟩,LB.keeps k1,dd.at' fun o e=>k1 a o e,⟨_,git,rfl,rfl⟩⟩
 refine ao ⟨lq PySem.F.plain_min_loop _,?_⟩
 obtain⟨⟨k,x⟩,hx⟩:∃p,kvs[0]?=some p:=⟨_,aa jt⟩
 obtain⟨⟨k',y⟩,hy⟩:∃p,vs[0]?=some p:=⟨_,aa (by omega)⟩
 have ek:k=k':=by
  have:=dM (fun l:List f6=>l[0]?) rel.keys
  simp only[ak,hx,hy]at this
  exact aY this
 subst ek
 obtain⟨rfl,hS⟩:=Bf 0 k x hx
 have hvk:j5 kvs k=some (.ref (tv 0)):=by
  cases kvs with
  |nil=>cases hx
  |cons p r=>
   have:p=(k,.ref (tv 0)):=aY hx
   subst this
   exact nA rfl
 refine m6 PySem.F.entry_min_loop ?_
 rw[jr PySem.F.plain_min_loop _]
 show wpAny _ A.in1 (seqItems? (.ref G1.objs.size) >>= _) _ _ _
 refine ae (cC gls rfl ?_)
 show wpAny _ A.in1 (tryCatch (pyNext (.ref h0.objs.size)) _ >>= _) _ _ _
 refine ae (gQ (mT M0.iter M0.dict hy fun v h1 hv hit1 rH=>?_))
 have rv:bL (kV k) v:=wq hv
 have I1:bz X pins σ H ⟨h1,g0,d0,t0,rZ⟩:=M0.inv.turned (it:=h0.objs.size) (fun b o hb e=>rH.extBut b o hb e) xE.1 xE.2.1 xE.2.2.2.1 xE.2.2.2.2.1 xE.2.2.2.2.2
 have nf:=old f _ hf
 have RY:=old cd _ hoc
 have RW:=old c0 _ hoc0
 have na:=old a _ hdo.1
 have M1:nP X pins σ H ⟨h1,g0,d0,t0,rZ⟩ f c0 cd a h0.objs.size _ q vs ep (0+1):=M0.go (s:=⟨G2,g0,d0,t0,rZ⟩) (b0:=h0.objs.size) I1 (fun b o hb e=>rH.extBut b o hb e) nf.1 RY.1 RW.1 na.1 hit1
 have hls1:=rH.extBut _ _ (Ne.symm Rp) gls
 show wpAny _ A.in1 (tryCatch (holding [v] (call (.ref f) [v])) _ >>= _) _ _ _
 refine ae (gQ (cE (yp T M1.inv M1.fn M1.code M1.cell ha hvk rv vT (by show A.units+1+8<cLine;omega) fun z h2 t2 Jo I2' rz=>?_)))
 obtain rfl:z=Value.ref (tv 0):=rz
 have M2:nP X pins σ H ⟨h2,g0,d0,t2,rZ⟩ f c0 cd a h0.objs.size _ q vs ep (0+1):=M1.go (s:=⟨h1,g0,d0,t0,rZ⟩) (b0:=h1.objs.size) I2' (fun b o _ e=>Jo b o e)
  (fun q=>by have:=aE M1.fn;rw[q]at this;exact bH _ this) (fun q=>by obtain⟨_,_,_,_,e2,ho,_⟩:=M1.code;cases e2;have:=aE ho;rw[q]at this;exact bH _ this) (fun q=>by have:=M1.cell.lt;rw[q]at this;exact bH _ this)
  (fun q=>by obtain⟨o,_,ho,_⟩:=M1.dict;have:=aE ho;rw[q]at this;exact bH _ this) (by obtain⟨o,ho,r1,r2⟩:=hit1;exact⟨o,Jo _ _ ho,r1,r2⟩)
 have hls2:=Jo _ _ hls1
 have sb:=cI h2 G1.objs.size (Obj.mapSeq fun _=>#[v,Value.ref (tv 0)])
 obtain⟨c3,hc3⟩:∃c3,(h2.update G1.objs.size (Obj.mapSeq fun _=>#[v,Value.ref (tv 0)])).get? G1.objs.size=some (seqObj "list" #[v,.ref (tv 0)] c3):=⟨_,get?_update_seq hls2 fun _=>#[v,Value.ref (tv 0)]⟩
 show wpAny _ A.in1 (updateSeq G1.objs.size (fun _=>#[v,Value.ref (tv 0)]) >>= _) _ _ _
 refine ae ?_
 refine jE hls2 rfl ?_
 rw[hname]
 have I3:bz X pins σ H ⟨h2.update G1.objs.size (Obj.mapSeq fun _=>#[v,Value.ref (tv 0)]),g0,d0,t2,rZ⟩:=I2'.turned (it:=G1.objs.size) (fun b o hb e=>sb.extBut b o hb e) xD.1 xD.2.1 xD.2.2.2.1 xD.2.2.2.2.1 xD.2.2.2.2.2
 have M3:nP X pins σ H ⟨h2.update G1.objs.size (Obj.mapSeq fun _=>#[v,Value.ref (tv 0)]),g0,d0,t2,rZ⟩ f c0 cd a h0.objs.size _ q vs ep (0+1):=
  M2.go (s:=⟨h2,g0,d0,t2,rZ⟩) (b0:=G1.objs.size) I3 (fun b o hb e=>sb.extBut b o hb e) nf.2 RY.2 RW.2 na.2 (by obtain⟨o,ho,r1,r2⟩:=M2.iter;exact⟨o,sb.extBut _ _ Rp ho,r1,r2⟩)
 exact ao ⟨lq PySem.F.plain_min_loop _,FK T hh vT hu ha rel me Bf xE xD Rp nf RY RW (fun v h t k x e1 e2 e3=>hQ v h t k x e1 e2 e3) _ 0 _ _ v c3 rfl (by omega) M3 hc3 fun k2 x2 e2=>by rw[show kc kf 0=0 from rfl,hx]at e2;cases e2;exact rv⟩
end
abbrev FM(ns:List (Str×NameKind)):Scope:=⟨.function,ns,false,false,[]⟩
def WF(K:Frag)(fd:FuncData)(P:Addr):Prop:=∃c,fd.code=.ref c/\codeHdIn K c P=true/\K.lookup P=none
theorem wt{a b:Int}{t u:Tok}{c:Value}(l:List Value)(h:TriplesOk l):TriplesOk (l++[.int a t,.int b u,c]):=by
 fun_induction TriplesOk l with
 |case1=>exact trivial
 |case2 _ _ _ _ _ de ih=>exact ih h
 |case3=>exact h.elim
section
abbrev uE(H:Hp)(P cd:Addr)(q:Str)(ps:Array Value)(pos:Pos):Hp:=eR (eR H cd (ly cd q)) P (.tbl (ps++#[rawInt pos.line,rawInt pos.col,.ref cd]))
theorem rO{P:Addr}{q:Str}{ps:Array Value}(n1:b≠P)(n2:b≠cd):uE H P cd q ps pos b=H b:=by
 show eR (eR H cd _) P _ b=_
 rw[cJ n1,cJ n2]
theorem FN{P:Addr}{q:Str}{ps:Array Value}:uE H P cd q ps pos P=some (.tbl (ps++#[rawInt pos.line,rawInt pos.col,.ref cd])):=eX
theorem B5{P:Addr}{q:Str}{ps:Array Value}(h:P≠cd):uE H P cd q ps pos cd=some (ly cd q):=by
 show eR (eR H cd _) P _ cd=_
 rw[cJ (Ne.symm h),eX]
theorem eF.butT{l:Addr}{xs:Array Value}(e:SY l H H')(hl:H l=some (.tbl xs)):dP K H H':=by
 have jt:∀{p:Addr} {o:HO},H p=some o->(∀zs,o≠.tbl zs)->p≠l:=fun{p o} q hn z=>by subst z;rw[hl]at q;cases q;exact hn _ rfl
 refine⟨fun p ys h=>?_,fun b o u h=>e _ _ (jt h (fun _ z=>by cases z)) h⟩
 rcases h with(h|⟨o,h⟩)|h
 ·exact .inl (.inl (e _ _ (jt h (fun _ z=>by cases z)) h))
 ·exact .inl (.inr ⟨o,e _ _ (jt h (fun _ z=>by cases z)) h⟩)
 ·exact .inr h
theorem FQ{l:List α}{x:α}(h:l[i]?=some x):l.set i x=l:=by
 refine iQ fun j=>?_
 by_cases e:i=j
 ·subst e;rw[ba (ac.mp h).1,h]
 ·rw[aS e]
theorem h_.tabbed{P:Addr}{q:Str}{ps:Array Value}(S:h_ K mg μ st H)(hi:st[i]?=some (.tab P pos q))(hP:H P=some (.tbl ps))(nX:H cd=none)(ht:TriplesOk ps.toList)(hn:codeAmong pos ps.toList=none) :
  h_ K mg μ st (uE H P cd q ps pos)/\dP K H (uE H P cd q ps pos):=by
 have hs:rq H (eR H cd (ly cd q)):=cx nX _
 have jt:P≠cd:=fun z=>by rw[z,nX]at hP;cases hP
 have hP1:eR H cd (ly cd q) P=some (.tbl ps):=hs _ _ hP
 have hx:dP K (eR H cd (ly cd q)) (uE H P cd q ps pos):=eF.butT fL hP1
 obtain⟨a,hm,ea,_⟩:=S.get hi
 subst ea
 have:=(S.same hs).setG (c':=.tab a pos q) hi rfl hm hP1 (fun _ _ z=>by cases z) (fun _ z=>by cases z) hx rfl ⟨rfl,_,eX,?_,.inr ⟨cd,?_,?_⟩⟩
 ·rw[FQ hi]at this
  exact⟨this,(eF.same hs).trans hx⟩
 ·rw[Array.toList_append];exact wt _ ht
 ·rw[Array.toList_append];exact codeAmong_snoc _ ht hn
 ·exact B5 jt
end
section
theorem bz.tabbed{P:Addr}{q:Str}{ps:Array Value}(I:bz X pins σ H s)(hP:H P=some (.tbl ps))(N7:s.heap.objs.size<=cd)(hx:∀b o,b≠P->s.heap.get? b=some o->h'.get? b=some o)
  (Jd:h'.CodeRec (.ref cd) q) (Jp:h'.get? P=some { cls:=.none,data:=.fields (ps++#[rawInt pos.line,rawInt pos.col,.ref cd]) }):bz X pins σ (uE H P cd q ps pos) { s with heap:=h',toks:=t' }:=by
 have nX:H cd=none:=I.hok.fresh N7
 have jt:P≠cd:=fun z=>by rw[z,nX]at hP;cases hP
 have notP:∀b,H b=none->b≠P:=fun b n z=>by rw[z,hP]at n;cases n
 have old:∀b o,s.heap.get? b=some o->b≠cd:=fun b o e=>bf (aT (aE e) N7)
 have keepH:∀b u,H b=some u->b≠P->uE H P cd q ps pos b=some u:=fun b u e n=>by
  rw[rO n (fun z=>by rw[z,nX]at e;cases e)];exact e
 have Hcd:uE H P cd q ps pos cd=some (ly cd q):=B5 jt
 refine I.call' (ch:=[]) rfl ⟨fun b o e n hb hx'=>hx b o (notP b n) e,fun b o e n hb hx'=>⟨o.slots,hx b o (notP b n) e⟩,fun b o e n hx'=>?_,fun b o e hx'=>?_,fun b xs e=>?_,fun b o u e=>?_,fun b Vj e=>?_⟩ (fun b u e=>?_) I.bare fun b hb=>absurd hb (by simp)
 ·rw[rO (notP b n) (old b o e)];exact n
 ·by_cases hb:b=P
  ·subst hb;exact⟨_,Jp⟩
  ·exact⟨o,hx b o hb e⟩
 ·exact keepH b _ e fun z=>by rw[z,hP]at e;cases e
 ·exact keepH b _ e fun z=>by rw[z,hP]at e;cases e
 ·by_cases hb:b=P
  ·subst hb
   rw[hP]at e;cases e
   exact⟨_,FN⟩
  ·exact⟨#[],by rw[keepH b _ e hb];simp⟩
 ·by_cases hb:b=P
  ·subst hb
   rw[FN]at e;cases e
   exact Jp
  ·by_cases hb2:b=cd
   ·subst hb2
    rw[Hcd]at e;cases e
    obtain⟨c2,oc,vs,t,e2,hoc,hd,hv⟩:=Jd
    cases e2
    refine⟨⟨oc,vs,t,hoc,hd,hv⟩,⟨oc,hoc⟩,fun h1 h2 p k=>?_⟩
    obtain⟨o,vs,t,ho,r⟩:=p
    exact⟨o,vs,t,k o ho,r⟩
   ·rw[rO hb hb2]at e
    refine(I.hok b u e).stay (fun c v hc q'=>hx c v (fun z=>?_) q') (fun c q'=>keepH c _ q' fun z=>by rw[z,hP]at q';cases q') fun c xs q'=>keepH c _ q' fun z=>by rw[z,hP]at q';cases q'
    rcases hc with rfl|hc
    ·exact hb z
    ·rw[z,hP]at hc;cases hc
theorem FR{P c:Addr}{pr:Arguments}{b:Expr}{uV:Pos}{q:Str}{ps:Array Value}(RA:defaultsOf pr X.env=([],[]))(hq:X.env.qual++"<lambda>"=q)(C2:X.env.code=.ref c)(WQ:codeHdIn X.K c P=true)(Xe:X.K.lookup P=none)(hB:yo X.base X.mg)
  (lT:closureFor sc X.env=pure cl) (I:bz X pins σ H s) (hP:H P=some (.tbl ps)) (ht:TriplesOk ps.toList) (WO:codeAmong uV ps.toList=none\/∃cd,codeAmong uV ps.toList=some (.ref cd)/\H cd=some (ly cd q))
  (h:∀f cd ct pm h' t H',((codeAmong uV ps.toList=none/\H cd=none/\H'=uE H P cd q ps uV)\/H'=H)->bz X pins σ H' { s with heap:=h',toks:=t }->h'.get? f=some (kla_obj "<lambda>" q pr b sc cl pm cd ct)->h'.CodeRec (.ref cd) q ->
   (∀b o,b≠P->s.heap.get? b=some o->h'.get? b=some o)->Q (.ref f) { s with heap:=h',toks:=t }) :
  wpAny (model X.prog X.w) X.A (eval (.Lambda pr b sc uV) X.env) Q E s:=by
 subst hq
 have hPo:s.heap.get? P=some { cls:=.none,data:=.fields ps }:=I.hok P _ hP
 have hgs:s.heap.Ns mainGlobals X.mg:=I.mod.glob.keeps I.bk
 have hgP:mainGlobals≠P:=fun z=>by
  obtain⟨o,es,ep,e,hd,_⟩:=hgs
  rw[z,hPo]at e;cases e;cases hd
 obtain⟨bm,ob,b1,b2,b4,b5,b6,b7⟩:=hB
 have b4':=I.bk _ _ b4
 have hbP:bm≠P:=fun z=>by rw[z,hPo]at b4';cases b4';cases b5
 have b3:bm≠mainGlobals:=fun z=>by
  obtain⟨o,es,ep,e,hd,_⟩:=hgs
  rw[z,e]at b4';cases b4';rw[b7]at hd;cases hd
 have hb:s.heap.BuiltinsAt X.mg P:=⟨bm,ob,b1,b2,b3,hbP,b4',b5,b6,b7⟩
 have CH:=PySem.W.codeHd_of_K I.kIn WQ
 refine PySem.W.kla_eval RA ?_
 rcases WO with hn|⟨cd,hhit,hH⟩
 ·refine PySem.W.kla_makeFunction (mg:=X.mg) lT I.ok.glob hgs C2 CH hPo ht hn hgP hb fun cd ct h' tk hx N7 hlt Jd Jp=>?_
  have hx':∀b o,b≠P->s.heap.get? b=some o->h'.get? b=some o:=fun b o hb e=>hx b o hb e
  have hrec2:(h'.push (kla_obj "<lambda>" (X.env.qual++"<lambda>") pr b sc cl ((X.mg "__name__").getD .none) cd ct)).CodeRec (.ref cd) (X.env.qual++"<lambda>"):=by
   obtain⟨c2,oc,vs,t,e2,hoc,hd,hv⟩:=Jd
   exact⟨c2,oc,vs,t,e2,am _ hoc,hd,hv⟩
  exact h _ cd ct _ _ tk _ (.inl ⟨hn,I.hok.fresh N7,rfl⟩) (I.tabbed hP N7 (fun b o hb e=>am _ (hx' b o hb e)) hrec2 (am _ Jp)) (aC _ rfl) hrec2 fun b o hb e=>am _ (hx' b o hb e)
 ·refine PySem.W.kla_makeFunctionHit (mg:=X.mg) lT I.ok.glob hgs C2 CH hPo ht hhit hb fun ct h' tk hk hsz=>?_
  obtain⟨⟨oc,vs,t,hoc,hd,hv⟩,_⟩:=I.hok cd _ hH
  exact h _ cd ct _ _ tk _ (.inr rfl) (I.kept fun b o e=>am _ (hk b o e)) (aC _ rfl) ⟨cd,oc,vs,t,rfl,am _ (hk _ _ hoc),hd,hv⟩ fun b o _ e=>am _ (hk b o e)
end
def Ax:W->Option (List Int)
 |.tup ws=>gm ws
 |_=>none
def jR:List (DK×W)->Option (List (List Int))
 |[]=>some []
 |p::r=>match Ax p.2,jR r with
  |some a,some b=>some (a::b)
  |_,_=>none
def FU(st:List aj)(j:Nat)(P:Addr)(pos:Pos)(q:Str):Prop:=st[j]?=some (.tab P pos q)
open Classical in
def sR(i j:Nat)(P:Addr)(pos:Pos)(q:Str):FE:=fun ρ st=>match ρ[i]? with
 |some (some x)=>(match rC st x with
  |some (_,kvs)=>(match jR kvs with
   |some ks=>if FU st j P pos q then pE (kvs[kc (fun a=>ks.getD a []) (kvs.length-1)]?) fun p=>.ok p.1.w st else .bad
   |none=>.bad)
  |none=>.bad)
 |_=>.bad
theorem sT:∀{kvs:List (DK×W)} {ks:List (List Int)} {vs:List V},jR kvs=some ks->RelWs K μ H (kvs.map fun p=>p.2) vs->∃ts:List Addr,vs=ts.map V.ref/\∀(i:Nat) (t:Addr),ts[i]?=some t->eF K H t ((ks.getD i []).map V.int)
 |[],ks,vs,h,r=>by
  have:=r.nilE
  subst this
  exact⟨[],rfl,fun i t e=>by simp at e⟩
 |p::r,ks,vs,h,rr=>by
  unfold jR at h
  cases e1:Ax p.2 with
  |none=>rw[e1]at h;cases h
  |some a=>
   cases e2:jR r with
   |none=>rw[e1,e2]at h;cases h
   |some b=>
    rw[e1,e2]at h;cases h
    obtain⟨x,xs,rfl,q1,q2⟩:=RelWs.consE rr
    obtain⟨ts,rfl,ht⟩:=sT e2 q2
    obtain⟨k,w⟩:=p
    cases w with
    |tup ws=>
     obtain⟨t,us,rfl,hS,r1⟩:=bj.tupE q1
     have:=nM (show gm ws=some a from e1) r1
     subst this
     refine⟨t::ts,rfl,fun i t' e=>?_⟩
     cases i with
     |zero=>cases e;exact hS
     |succ i=>exact ht i t' (by simpa using e)
    |_=>cases e1
theorem FV{kvs:List (DK×W)}{ts:List Addr}(r:RelWs K μ H (kvs.map fun p=>p.2) (ts.map V.ref)){k:f6}{x:V}(h:(dV kvs (ts.map V.ref))[i]?=some (k,x)) :
  ∃p t,kvs[i]?=some p/\k=p.1.key/\ts[i]?=some t/\x=.ref t:=by
 unfold dV at h
 rw[List.getElem?_zip_eq_some]at h
 obtain⟨h1,h2⟩:=h
 rw[ak]at h1 h2
 obtain⟨p,e1,e2⟩:=aU.mp h1
 obtain⟨t,e3,e4⟩:=aU.mp h2
 exact⟨p,t,e1,e2.symm,e3,e4.symm⟩
section
variable{en dn q:Str}{pr:Arguments}{p1 p3 p4 uV Vn:Pos}{c P:Addr}
theorem KC(hr:gT kk X.A)(T:FJ en dn pr (.Subscript (.Name dn p2) (.Name en p3) p4) sc)(C2:X.env.code=.ref c)(WQ:codeHdIn X.K c P=true)(Xe:X.K.lookup P=none)(hB:yo X.base X.mg)(hm:X.mg "min"=none)
  (jd:X.env.cells=cellsFrom m X.env.scope.names []) (hN:X.N[i]?=some dn:=by rfl) (hk:X.env.scope.names.lookup dn=some .cell:=by rfl) (WT:∀env:Env,ij env sc.names []=[(dn,(env.cells.lookup dn).getD 0)]:=by intro _;rfl) (ui:∀x∈sc.names,x.2=.free->x.1=dn:=by decide)
  (hq:X.env.qual++"<lambda>"=q:=by rfl) (RA:defaultsOf pr X.env=([],[]):=by rfl) (iD:X.calm=true:=by rfl) (hg:Gl X "min":=by rfl) (VW:(dn==("__debug__":Str))=false:=by decide) (Bo:(dn==("__classdict__":Str))=false:=by decide)
  (he:starEach [.Name dn p1] X.env=(false,eval (.Name dn p1) X.env)::starEach [] X.env:=by rfl) :
  SE X (.Call (.Name "min" p) [.Name dn p1] [⟨some "key",.Lambda pr (.Subscript (.Name dn p2) (.Name en p3) p4) sc uV,Vn⟩] pos) (sR i j P uV q):=⟨fun pins s σ H Q I h=>by
 obtain⟨μ,ρ,st,l,h⟩:=h
 unfold sR at h
 cases e1:ρ[i]? with
 |none=>rw[e1]at h;exact h.elim
 |some ox=>
  cases ox with
  |none=>rw[e1]at h;exact h.elim
  |some x=>
   rw[e1]at h
   simp only at h
   cases e2:rC st x with
   |none=>rw[e2]at h;exact h.elim
   |some nk=>
    obtain⟨n,kvs⟩:=nk
    rw[e2]at h
    simp only at h
    cases e3:jR kvs with
    |none=>rw[e3]at h;exact h.elim
    |some ks=>
     rw[e3]at h
     simp only at h
     by_cases e4:FU st j P uV q
     ·rw[ar e4]at h
      cases e5:kvs[kc (fun a=>ks.getD a []) (kvs.length-1)]? with
      |none=>rw[e5]at h;exact h.elim
      |some pk=>
       rw[e5]at h
       simp only[cL]at h
       obtain⟨v,hσ,rx⟩:=pJ l.env e1
       obtain⟨a,vs,hn,hmu,rfl,ha,rr⟩:=rN l.sto e2 rx
       obtain⟨ts,rfl,hts⟩:=sT e3 rr
       have hc:∃c0,X.env.cells.lookup dn=some c0:=by rw[jd];exact nz hk
       obtain⟨c0,LB⟩:=hc
       obtain⟨aP,hP0,eP,ps,hP,ht,WO⟩:=l.sto.get e4
       subst eP
       refine iu (lc I hg hm (by rfl) ?_ (by decide) (by decide))
       refine callWith_builtin_kwB (by rfl) (by rfl) (evalArgs_kw2 (by rfl) ?_ he)
       refine fJ ((rK (pv i hN (.inr (.inl hk)) VW Bo) zX) pos pins s σ H (fun vs H1=>vs=[.ref a]/\H1=H) I ⟨_,hσ,rfl,rfl⟩) fun us s1 rH=>?_
       obtain⟨vs1,H1,I1,r1,rfl,rfl⟩:=rH
       obtain⟨u1,rfl,ru1⟩:=jI r1
       obtain rfl:u1=Value.ref a:=ru1
       obtain⟨mm,RU,hlk⟩:=id I1.loc
       obtain⟨u,ru,lk⟩:=hlk i dn (.ref a) hN hσ (.inr (.inl hk))
       obtain rfl:u=Value.ref a:=ru
       have iE:s1.heap.IsCell c0 (some (.ref a)):=by
        rcases lk with⟨kl,_⟩|⟨_,c1,hc1,hcc⟩
        ·have:X.env.scope.names.lookup dn=some .local:=kl
         rw[hk]at this;cases this
        ·rw[LB]at hc1;cases hc1;exact hcc
       have lT:closureFor sc X.env=pure [(dn,c0)]:=by
        rw[E4 (fun x hx hf=>by rw[ui x hx hf];exact⟨c0,LB⟩),WT,LB];rfl
       show wpAny _ _ (evalAll ((do let v <- eval (.Lambda pr (.Subscript (.Name dn p2) (.Name en p3) p4) sc uV) X.env;standAt pos;pure v)::[])) _ _ s1
       refine wpAny_evalAll_cons (ae (FR RA hq C2 WQ Xe hB lT I1 hP ht WO fun f cd ct pm h' t H' hH I2 hf Jd hx=>ae (jm (ao (wpAny_evalAll_nil ?_)))))
       have hS':h_ X.K X.mg μ st H'/\dP X.K H1 H':=by
        rcases hH with⟨g1,g2,rfl⟩|rfl
        ·exact l.sto.tabbed e4 hP g2 ht g1
        ·exact⟨l.sto,dP.refl⟩
       obtain⟨S',X'⟩:=hS'
       have ha':H' a=some (.dK (dV kvs (ts.map V.ref))):=by
        rcases hH with⟨g1,g2,rfl⟩|rfl
        ·rw[rO (fun z=>by rw[z,hP]at ha;cases ha) (fun z=>by rw[z,g2]at ha;cases ha)];exact ha
        ·exact ha
       have hcell':h'.IsCell c0 (some (.ref a)):=by
        obtain⟨o,ho,hd⟩:=iE
        exact⟨o,hx c0 o (fun z=>by have:=I1.freeC _ _ LB;rw[z,hP]at this;cases this) ho,hd⟩
       have cY:(dV kvs (ts.map V.ref)).length=kvs.length:=wm rr
       have En:0<kvs.length:=by
        cases kvs with
        |nil=>simp at e5
        |cons _ _=>simp
       have Bf:∀(i:Nat) (k:f6) (x:V),(dV kvs (ts.map V.ref))[i]?=some (k,x)->x=.ref (ts.getD i 0)/\eF X.K H' (ts.getD i 0) ((ks.getD i []).map V.int):=fun i k x e=>by
        obtain⟨p',t',f1,f2,f3,f4⟩:=FV rr e
        have:ts.getD i 0=t':=by rw[ay,f3];rfl
        rw[this]
        exact⟨f4,X' _ _ (hts i t' f3)⟩
       refine FL (pins:=pins) (H:=H') (kvs:=dV kvs (ts.map V.ref)) (kf:=fun a=>ks.getD a []) (tv:=fun a=>ts.getD a 0) T (I.ok.hd iD) (by have:=hr.dp;omega) (by have:=hr.un;omega) I2 ha' hf Jd hcell' (by rw[cY];exact En) Bf fun v h2 t2 k x ek rk I3=>?_
       rw[cY]at ek
       obtain⟨p',t',f1,f2,_,_⟩:=FV rr ek
       rw[e5]at f1;cases f1
       subst f2
       exact⟨_,H',I3,rk,h μ _ H' (ah _) X' S' (DK.w_rel _)⟩
     ·rw[az e4]at h;exact h.elim⟩
end
def DQ(x y:W)(st:List aj):R W:=match x,y with
 |.int i,.int j=>.ok (.bl (decide (i<j))) st
 |.tup a,.tup b=>(match gm a,gm b with
  |some ns,some ms=>.ok (.bl (HT.lexLt ns ms)) st
  |_,_=>.bad)
 |_,_=>.bad
theorem B6{k:Nat}(hr:gT k X.A):pf X (compareOp .Lt) DQ:=⟨fun pins s σ H x y v u Q I rv ru ⟨μ,st,wx,wy,S,rx,ry,q⟩=>by
 cases wx with
 |int i=>
  cases wy with
  |int j=>exact w_lt.h pins s σ H x y v u Q I rv ru ⟨μ,st,.int i,.int j,S,rx,ry,q⟩
  |_=>exact q.elim
 |tup a=>
  cases wy with
  |tup b=>
   simp only[DQ]at q
   cases e1:gm a with
   |none=>rw[e1]at q;exact q.elim
   |some ns=>
    cases e2:gm b with
    |none=>rw[e1,e2]at q;exact q.elim
    |some ms=>
     rw[e1,e2]at q
     obtain⟨p,vs,rfl,hS,r⟩:=rx.tupE
     obtain⟨p2,vs2,rfl,hS2,r2⟩:=ry.tupE
     have:=nM e1 r;subst this
     have:=nM e2 r2;subst this
     exact OL (by have:=hr.un;omega) pins s σ H _ _ v u Q I rv ru ⟨p,p2,ns,ms,rfl,rfl,hS,hS2,ik S q⟩
  |_=>exact q.elim
 |_=>cases wy<;>exact q.elim,fun x y st=>by
 unfold DQ
 split
 ·trivial
 ·split<;>trivial
 ·trivial⟩
section
variable{f:Expr}{fo fk fd fe:FE}
end
section
variable{y:Str}{a b:Expr}{fs:FA}
def FW(i j:Nat)(fs:FA):FS:=fun ρ st=>(fs ρ st).stmt ρ fun ws st=>match ws with
 |[v,w]=>.nx ((ρ.set i (some v)).set j (some w)) st
 |_=>.bad
theorem PJ{j:Nat}{px py pt:Pos}{kt k2 pt2}(hN:X.N.Nodup)(ha:SA X [a,b] fs)(hi:X.N[i]?=some x:=by rfl)(hj:X.N[j]?=some y:=by rfl)(WU:i≠j:=by decide)
  (hx:X.env.scope.names.lookup x=some .local:=by rfl) (hy:X.env.scope.names.lookup y=some .local:=by rfl) (hc:X.calm=true:=by rfl)
  (hw:swappedStores [.Tuple [.Name x px,.Name y py] kt pt] (.Tuple [a,b] k2 pt2) X.env=pure (some [x,y]):=by rfl)
  (hs:swapsWithSole [.Tuple [.Name x px,.Name y py] kt pt] (.Tuple [a,b] k2 pt2) pos.line X.env=pure false:=by rfl) :
  SS X (.Assign [.Tuple [.Name x px,.Name y py] kt pt] (.Tuple [a,b] k2 pt2) pos) (FW i j fs):=⟨(Ou hc hN hi hj WU hx hy ha.h hw hs).imp fun D σ H h=>by
 obtain⟨μ,ρ,st,l,h⟩:=h
 refine⟨μ,ρ,st,l,RK.stmt h l fun μ1 st1 ws vs H1 p1 x1 l1 q1 h1=>?_⟩
 match ws,h1,q1 with
 |[],h1,_=>exact h1.elim
 |[_],h1,_=>exact h1.elim
 |[w1,w2],h1,q1=>
  obtain⟨v1,v2,rfl,r1,r2⟩:=q1.two
  exact⟨v1,v2,rfl,h1 μ1 _ H1 (ah _) dP.refl ⟨nE r2 j (nE r1 i l1.env),l1.sto⟩⟩
 |_::_::_::_,h1,_=>exact h1.elim⟩
end
inductive DefIn(K:Frag)(x:Str)(st:Stmt):Prop
 |mk {ad:Addr} {od an:Option Addr} {sl:Array (Option Value)} {oc kV dc pm cd ct:Value} (a:nsIn K mainGlobals x=some (some (.ref ad)))
   (l:K.lookup ad=some ⟨oc,od,.func (fnOf x x (h9 st) (gC st) (aO st) .none kV dc pm an cd ct),sl⟩) (c:codeIn K cd x=true) (k:keepIn K (.ref ad)=true):DefIn K x st
theorem DefIn.fn{st:Stmt}(d:DefIn K x st)(X:K.In h)(G:h.Ns mainGlobals mg):∃f fd,iZ K x x st f fd/\mg x=some (.ref f):=by
 obtain⟨a,l,c,k⟩:=d
 exact⟨_,_,Ab (st:=st) l c k,mg_of X G a⟩
theorem zX0{n:Nat}{l:List Value}(h:l.length=n+1):∃a t,l=a::t/\t.length=n:=by
 cases l with
 |nil=>cases h
 |cons a t=>exact⟨a,t,rfl,Nat.succ.inj h⟩
theorem Xt{l:List Value}(h:l.length=1):∃a,l=[a]:=by
 obtain⟨a,t,rfl,k⟩:=zX0 h
 cases t with
 |nil=>exact⟨a,rfl⟩
 |cons=>cases k
theorem Xu{l:List Value}(h:l.length=2):∃a b,l=[a,b]:=by obtain⟨a,t,rfl,k⟩:=zX0 h;obtain⟨b,rfl⟩:=Xt k;exact⟨a,b,rfl⟩
theorem Xv{l:List Value}(h:l.length=3):∃a b c,l=[a,b,c]:=by obtain⟨a,t,rfl,k⟩:=zX0 h;obtain⟨b,c,rfl⟩:=Xu k;exact⟨a,b,c,rfl⟩
theorem Xw{l:List Value}(h:l.length=4):∃a b c d,l=[a,b,c,d]:=by obtain⟨a,t,rfl,k⟩:=zX0 h;obtain⟨b,c,d,rfl⟩:=Xv k;exact⟨a,b,c,d,rfl⟩
theorem Xx{l:List Value}(h:l.length=5):∃a b c d e,l=[a,b,c,d,e]:=by obtain⟨a,t,rfl,k⟩:=zX0 h;obtain⟨b,c,d,e,rfl⟩:=Xw k;exact⟨a,b,c,d,e,rfl⟩
theorem Xy{l:List Value}(h:l.length=6):∃a b c d e f,l=[a,b,c,d,e,f]:=by obtain⟨a,t,rfl,k⟩:=zX0 h;obtain⟨b,c,d,e,f,rfl⟩:=Xx k;exact⟨a,b,c,d,e,f,rfl⟩
section
variable{P:Program}{w:World}{K:Frag}{mg:Str->Option Value}{base:Heap}{k n:Nat}{x:Str}{st:Stmt}{f:Addr}{fd:FuncData}{ps:List Str}{G:List W->List aj->R W}
theorem PM{h:Heap}(d:DefIn K x st)(X:K.In h)(Gs:h.Ns mainGlobals mg)(ok:∀{f:Addr} {fd:FuncData},iZ K x x st f fd->dw P w K mg base (iX P w) k f fd ps (ja K mg n G))(hn:ps.length=n:=by rfl)
  (hb:∀(kV rg pm:Value) (an:Option Addr) (fI ct:Value) (us:List Value),us.length=ps.length->bindArgs (fnOf x x (h9 st) (gC st) (aO st) .none kV rg pm an fI ct) ⟨us,[]⟩=pure (ps.zip us):=by (intro _ _ _ _ _ _ _ q;first|(obtain⟨_,rfl⟩:=Xt q;rfl)|(obtain⟨_,_,rfl⟩:=Xu q;rfl)|(obtain⟨_,_,_,rfl⟩:=Xv q;rfl)|(obtain⟨_,_,_,_,rfl⟩:=Xw q;rfl)|(obtain⟨_,_,_,_,_,rfl⟩:=Xx q;rfl)|(obtain⟨_,_,_,_,_,_,rfl⟩:=Xy q;rfl))):dh P w K mg base k x n G:=let ⟨_,_,F,m⟩:=d.fn X Gs;rM F m hn hb (ok F)
end
def VP:List Str->Bool
 |[]=>true
 |x::r=>!(r.any fun y=>y==x)&&VP r
theorem FX:∀{l:List Str},VP l=true->l.Nodup
 |[],_=>.nil
 |x::r,h=>by
  simp only[VP,bw,iM,fF,cZ]at h
  exact eE.mpr ⟨fun m=>h.1 x m rfl,FX h.2⟩
section
variable{fe:FE}{sp:Scope}
theorem kF{N:List Str}(a:sp.kind=.function:=by rfl)(b:sp.isCoroutine=false:=by rfl)(c:sp.isGenerator=false:=by rfl)(d:N.Nodup:=by decide +kernel)(f:N.take ps.length=ps:=by rfl)(g:∀x∈ps,sp.names.lookup x=some .local\/sp.names.lookup x=some .cell:=by decide +kernel)(h:∀y∈sp.names,y.2≠.free:=by decide +kernel):bh N ps sp:=⟨a,b,c,d,f,g,h⟩
theorem sS(i:Nat){jB:Pos}(sc:bh X.N ps sp)(he:SE X e fe)(hi:X.N[i]?=some x:=by rfl)(hx:Js X.env.scope x:=by first|exact .inl rfl|exact .inr rfl)(hs:swapsWith e (some (.Name x jB)) pos.line X.env=pure false:=by rfl)(hf:X.fn x=true\/X.env.scope.names.lookup x=some .local:=by first|exact .inl rfl|exact .inr rfl|assumption) :
  SS X (.Assign [.Name x jB] e pos) (bp i fe):=Po sc.nd hi hx he hs hf
theorem sG(i:Nat)(sc:bh X.N ps sp)(hi:X.N[i]?=some x:=by rfl)(hx:Js X.env.scope x:=by first|exact .inl rfl|exact .inr rfl)(hf:X.fn x=true\/X.env.scope.names.lookup x=some .local:=by first|exact .inl rfl|exact .inr rfl|assumption):SG X (.Name x pos) (dY i):=BQ sc.nd hi hx hf
theorem Xz{cl:List (Str×Addr)}{C s0 H0 fp}(i:Nat)(hN:VP nm=true:=by first|rfl|kernel_rfl)(hi:nm[i]?=some x:=by rfl)(hx:Js (bT X nm scope cl C s0 H0 fp).env.scope x:=by first|exact .inl rfl|exact .inr rfl)(hf:(bT X nm scope cl C s0 H0 fp).fn x=true\/(bT X nm scope cl C s0 H0 fp).env.scope.names.lookup x=some .local:=by first|exact .inl rfl|exact .inr rfl|assumption) :
  SG (bT X nm scope cl C s0 H0 fp) (.Name x pos) (dY i):=BQ (X:=bT X nm scope cl C s0 H0 fp) (FX hN) hi hx hf
end
def KD:Expr->List Str
 |.Name x _=>[x]
 |.Tuple es _ _=>es.filterMap fun e=>match e with
  |.Name x _=>some x
  |_=>none
 |_=>[]
def PN(N:List Str):List Str->List (Option Nat)->List Str
 |_,[]=>[]
 |ts,some j::r=>N.getD j "" :: PN N ts r
 |ts,none::r=>ts.headD "" :: PN N ts.tail r
abbrev L7(X:Cx)(tg:Expr)(cap:List (Option Nat)):List Str:=PN X.N (KD tg) cap
section
variable{fi:FI}{f:FG}{t:FT}{el:FE}
theorem B8(jd:X.env.cells=cellsFrom m X.env.scope.names [])(hi:SI X tg iter fi)(hg:∀{cl C s0 H0 fp},SG (bT X (L7 X tg cap) scope cl C s0 H0 fp) tg f)(ht:∀{cl C s0 H0 fp},Pu (bT X (L7 X tg cap) scope cl C s0 H0 fp) mf t)
  (he:∀{cl C s0 H0 fp},SE (bT X (L7 X tg cap) scope cl C s0 H0 fp) oB el) (hB:xW X.env.scope.names scope.names (L7 X tg cap) cap X.N=true:=by first|rfl|kernel_rfl) (iD:X.calm=true:=by rfl) (hZ:scope.kind=.function:=by rfl) (hs:∀x,foldedSetIterable iter X.env x=pure x:=by intro _;rfl) :
  SE X (.ListComp oB [⟨tg,iter,mf,0⟩] scope pos) (d9 cap fi f t el):=Pv hB jd hi (fun _ _ _ _ _=>hg) (fun _ _ _ _ _=>ht) (fun _ _ _ _ _=>he) iD hZ hs
theorem q5{x0:Str}{p0 p1:Pos}(RM:SG X (.Name x0 p0) (dY i))(jd:X.env.cells=cellsFrom m X.env.scope.names [])(hi:SI X tg iter fi)(hg:∀{cl C s0 H0 fp},SG (bT X (L7 X tg cap) scope cl C s0 H0 fp) tg f)(ht:∀{cl C s0 H0 fp},Pu (bT X (L7 X tg cap) scope cl C s0 H0 fp) mf t)
  (he:∀{cl C s0 H0 fp},SE (bT X (L7 X tg cap) scope cl C s0 H0 fp) oB el) (hB:xW X.env.scope.names scope.names (L7 X tg cap) cap X.N=true:=by first|rfl|kernel_rfl) (Ry:swapsWith (.ListComp oB [⟨tg,iter,mf,0⟩] scope pos) (some (.Name x0 p0)) p1.line X.env=pure true:=by first|rfl|kernel_rfl) (iD:X.calm=true:=by rfl) (hZ:scope.kind=.function:=by rfl) (hs:∀x,foldedSetIterable iter X.env x=pure x:=by intro _;rfl) :
  SS X (.Assign [.Name x0 p0] (.ListComp oB [⟨tg,iter,mf,0⟩] scope pos) p1) (sB (d9 cap fi f t el) (dY i)):=An RM hB jd hi (fun _ _ _ _ _=>hg) (fun _ _ _ _ _=>ht) (fun _ _ _ _ _=>he) iD hZ hs Ry
end
end L2
variable{body:L2.FS}{ρ:L2.bY}{fa fb fe fo el:L2.FE}{fi:L2.FI}
namespace HT
open PySem PyProof.Rows
section
open PySem.SeqAt
open PySem.AutoSeq1 (wpAny_loadPart')
open PySem.MeetsSeq PySem.MeetsSeq2 PySem.MeetsSeq3
end
end HT
namespace L2
open PySem PySem.Spec PyProof.Rows
section
end
end L2
namespace PK
open PySem
section
variable{w:World}{K1 K2:Type}[DecidableEq K1][DecidableEq K2](knd:KeyKind prog w K1)(hk:HeapKind prog w K2)
def Is(h:Heap)(k:K1×K2)(a:Addr):Prop:=∃o v b n,h.get? a=some o/\o.cls=.type "tuple"/\o.data=.seq #[v,.ref b] n/\knd.is k.1 v=true/\hk.is h k.2 b
def hash(k:K1×K2):Int:=reduceHash (Builtin.Tuple.tupleHashOf [knd.hash k.1,hk.hash k.2])
variable{knd hk}
theorem Is.typeIs{k:K1×K2}(x:Is knd hk s.heap k a):s.TypeIs (.ref a) "tuple":=let ⟨o,_,_,_,ho,hc,_⟩:=x;⟨o,ho,hc⟩
theorem Is.inj{x y:K1×K2}(hx:Is knd hk h x a)(hy:Is knd hk h y a):x=y:=by
 obtain⟨o,v,b,n,ho,_,hd,h1,h2⟩:=hx
 obtain⟨o',v',b',n',qN,_,hd',h1',h2'⟩:=hy
 obtain rfl:o=o':=aY (ho.symm.trans qN)
 rw[hd]at hd'
 injection hd' with e _
 have e:=dM Array.toList e
 simp only[List.cons.injEq,Value.ref.injEq,and_true]at e
 obtain⟨rfl,rfl⟩:=e
 exact Prod.ext (knd.inj _ _ _ h1 h1') (hk.inj h2 h2')
theorem Is.keeps{k:K1×K2}{d:Addr}{o:Obj}{es ep}(x:Is knd hk h k a)(ho:h.get? d=some o)(hd:o.data=.dict es ep)(hs:Heap.SameBut d h h'):Is knd hk h' k a:=by
 obtain⟨o',v,b,n,qN,hc,hd',h1,h2⟩:=x
 have jt:a≠d:=by
  rintro rfl
  obtain rfl:o'=o:=aY (qN.symm.trans ho)
  rw[hd]at hd';exact nomatch hd'
 exact⟨o',v,b,n,(hs.2 a jt).trans qN,hc,hd',h1,hk.keeps h2 ho hd hs⟩
theorem pyHash{k:K1×K2}{Q:Int->Shared->Prop}(hu:A.units<cLine)(hr:hk.room A.in1)(hx:Is knd hk s.heap k a)(h:Q (hash knd hk k) { s with toks:=s.toks+(1+hk.draws k.2+1) }) :
  wpAny (model prog w) A (PySem.pyHash (.ref a)) Q E s:=by
 have hT:=hx.typeIs
 obtain⟨o,v,b,n,ho,_,hd,h1,h2⟩:=hx
 unfold PySem.pyHash
 first|unfold pyHashByItsType|skip
 first|refine ae (wpAny_cRoomFor_or (.inr hu) ?_)|skip
 refine ae (fz hT F.slot_tuple_hash.lookup ?_)
 show wpAny _ _ (if (some (Value.builtin "tuple.__hash__")==some Value.none)=true then _ else _) Q E s
 rw[az (by rw[beq_builtin_none];exact bK)]
 refine ae (fz hT F.slot_tuple_hash.lookup ?_)
 show wpAny _ _ (callSpecialIfBoundUnlessNone? (.ref a) "__hash__" _ >>= _) Q E s
 refine ae (gA hT F.slot_tuple_hash (cu F.slot_tuple_hash hT F.entry_tuple_hash ?_ (F.args_tuple_hash_1 _)))
 show wpAny _ _ (Builtin.Tuple.tupleItemsOf (.ref a) >>= _) _ _ s
 refine ae (kD ho hd ?_)
 refine ae ?_
 rw[<- kE]
 refine gX _
  (fun de (c:Array Int) s'=>(de=[v,.ref b]/\c.toList=[]/\s'=s)\/(de=[.ref b]/\c.toList=[knd.hash k.1]/\s'={ s with toks:=s.toks+1 })\/(de=[]/\c.toList=[knd.hash k.1,hk.hash k.2]/\s'={ s with toks:=s.toks+1+hk.draws k.2 }))
  _ ?_ ?_ _ _ (.inl ⟨rfl,rfl,rfl⟩)
 ·rintro x de c s' (⟨e,hc,rfl⟩|⟨e,hc,rfl⟩|⟨e,_⟩)
  ·injection e with e1 e2
   subst e1;subst e2
   refine ae (knd.pyHash h1 ?_)
   first
    |exact ao (.inr (.inl ⟨rfl,by simp[hc],rfl⟩))
    |exact ae (ao (ao (.inr (.inl ⟨rfl,by simp[hc],rfl⟩))))
  ·injection e with e1 e2
   subst e1;subst e2
   refine ae (hk.pyHash (k:=k.2) hr h2 ?_)
   first
    |exact ao (.inr (.inr ⟨rfl,by simp[hc],rfl⟩))
    |exact ae (ao (ao (.inr (.inr ⟨rfl,by simp[hc],rfl⟩))))
  ·cases e
 ·rintro c s' (⟨e,_⟩|⟨e,_⟩|⟨_,hc,rfl⟩)
  ·cases e
  ·cases e
  show wpAny _ _ (retInt (Builtin.Tuple.tupleHashOf c.toList)) _ _ _
  rw[hc]
  refine m7 ?_
  show wpAny _ _ (if (decide (-(2:Int)^63<=Builtin.Tuple.tupleHashOf [knd.hash k.1,hk.hash k.2])&&decide (Builtin.Tuple.tupleHashOf [knd.hash k.1,hk.hash k.2]<2^63))=true then _ else _) Q E _
  unfold hash reduceHash at h
  by_cases hr:(decide (-(2:Int)^63<=Builtin.Tuple.tupleHashOf [knd.hash k.1,hk.hash k.2])&&decide (Builtin.Tuple.tupleHashOf [knd.hash k.1,hk.hash k.2]<2^63))=true
  ·rw[ar hr]
   rw[ar hr]at h
   exact ao (by simpa[Nat.add_assoc]using h)
  ·rw[az hr]
   rw[az hr]at h
   exact ae (fH (ao (by simpa[Nat.add_assoc]using h)))
theorem KF{x y:K1×K2}{P:Fin->Shared->Prop}(hr:hk.room A)(hx:Is knd hk s.heap x a)(hy:Is knd hk s.heap y b)(h:P (.done (.ret (.bool (decide (x=y))))) s) :
  wpAny (model prog w) A (Builtin.«tuple.__eq__» ⟨[.ref a,.ref b],[]⟩) P E s:=by
 have hTb:=hy.typeIs
 obtain⟨oa,v,c,na,hoa,_,hda,h1,h2⟩:=hx
 obtain⟨ob,u,d,nb,LH,_,I0,g1,g2⟩:=hy
 show wpAny _ _ (isInstance (.ref b) (.type "tuple") >>= _) _ _ s
 refine ae (fU hTb i8 ?_)
 simp only[dX,cz,gq]
 refine ae (kD hoa hda ?_)
 refine ae (kD LH I0 ?_)
 refine ae ?_
 refine gX _
  (fun de r s'=>r.1=none/\s'=s/\((de=[(v,u),(.ref c,.ref d)])\/(de=[(.ref c,.ref d)]/\x.1=y.1)\/(de=[]/\x=y)))
  _ ?_ ?_ _ _ ⟨rfl,rfl,.inl rfl⟩
 ·rintro⟨p,q⟩ de r s' ⟨hr0,rfl,e|⟨e,e0⟩|⟨e,_⟩⟩
  ·injection e with e1 e2
   injection e1 with e3 e4
   subst e3;subst e4;subst e2
   refine ae (knd.eqBool (a:=x.1) (b:=y.1) h1 g1 ?_)
   by_cases z:x.1=y.1
   ·rw[aK z]
    simp only[dX,cz,gq]
    exact ao ⟨rfl,rfl,.inr (.inl ⟨by first|rfl|trivial,z⟩)⟩
   ·rw[aN z]
    simp only[kA,dC]
    have hf:decide (x=y)=false:=aN fun e=>z (by rw[e])
    rw[hf]at h
    exact ae (ao (ao (ao h)))
  ·injection e with e1 e2
   injection e1 with e3 e4
   subst e3;subst e4;subst e2
   refine ae (hk.eqBool (x:=x.2) (y:=y.2) hr h2 g2 ?_)
   by_cases z:x.2=y.2
   ·rw[aK z]
    simp only[dX,cz,gq]
    exact ao ⟨rfl,rfl,.inr (.inr ⟨by first|rfl|trivial,Prod.ext e0 z⟩)⟩
   ·rw[aN z]
    simp only[kA,dC]
    have hf:decide (x=y)=false:=aN fun e=>z (by rw[e])
    rw[hf]at h
    exact ae (ao (ao (ao h)))
  ·cases e
 ·rintro⟨r1,r2⟩ s' ⟨hr0,rfl,e|⟨e,_⟩|⟨_,e⟩⟩
  ·cases e
  ·cases e
  simp only at hr0
  subst hr0
  refine ao ?_
  rw[aK e]at h
  exact h
theorem eqBool{x y:K1×K2}{a b:Addr}{Q:Bool->Shared->Prop}(hu:A.units<cLine)(hr:hk.room A.in1)(hx:Is knd hk s.heap x a)(hy:Is knd hk s.heap y b)(h:Q (decide (x=y)) s) :
  wpAny (model prog w) A (PySem.eqBool (.ref a) (.ref b)) Q E s:=by
 unfold PySem.eqBool
 try with_reducible refine cE ?_
 show wpAny _ _ (if (Value.ref a==Value.ref b)=true then _ else _) Q E s
 by_cases hab:(Value.ref a==Value.ref b)=true
 ·rw[ar hab]
  have e:a=b:=by have:=lX hab;injection this
  subst e
  obtain rfl:=hx.inj hy
  exact ae (fH (ao (by simpa using h)))
 ·rw[az hab]
  exact ae (wpAny_richCompare_same_room (op:=.Eq) hx.typeIs hy.typeIs F.slot_tuple_eq
   (cu F.slot_tuple_eq hx.typeIs F.entry_tuple_eq (KF hr hx hy ⟨_,rfl,(fun e=>nomatch e),dA h⟩) (F.args_tuple_eq_2 _ _)) hu)
theorem quiet{k:K1×K2}{Q:Bool->Shared->Prop}(hq:∀{b:Addr} {Q:Bool->Shared->Prop},hk.is s.heap k.2 b->Q true s->wpAny (model prog w) A (eqIsQuiet 7 (.ref b)) Q E s)(hx:Is knd hk s.heap k a)(h:Q true s):wpAny (model prog w) A (eqIsQuiet 8 (.ref a)) Q E s:=by
 have hT:=hx.typeIs
 obtain⟨o,v,b,n,ho,_,hd,h1,h2⟩:=hx
 unfold eqIsQuiet
 refine ae (fz hT F.slot_tuple_eq.lookup ?_)
 show wpAny _ _ (isInstance (.ref a) (.type "tuple") >>= _) _ _ s
 refine ae (fU hT i8 ?_)
 simp only[dX,cz,gq]
 refine ae (cC ho hd ?_)
 refine ae ?_
 show wpAny _ _ (forIn #[v,Value.ref b] _ _) _ _ s
 rw[<- kE]
 refine gX _ (fun de r s'=>r.1=none/\s'=s/\(de=[v,.ref b]\/de=[.ref b]\/de=[])) _ ?_ ?_ _ _ ⟨rfl,rfl,.inl rfl⟩
 ·rintro x de r s' ⟨hr,rfl,e|e|e⟩
  ·injection e with e1 e2
   subst e1;subst e2
   rw[eqIsQuiet_byValue _ (knd.byValue _ _ h1)]
   refine ae (ao ?_)
   simp only[dX,cz,gq]
   exact ao ⟨rfl,rfl,.inr (.inl (by first|rfl|trivial))⟩
  ·injection e with e1 e2
   subst e1;subst e2
   refine ae (hq h2 ?_)
   simp only[dX,cz,gq]
   exact ao ⟨rfl,rfl,.inr (.inr (by first|rfl|trivial))⟩
  ·cases e
 ·rintro⟨r1,r2⟩ s' ⟨hr,rfl,_⟩
  simp only at hr
  subst hr
  exact ao h
end
theorem DR{w:World}{K:Type}[DecidableEq K]{knd:KeyKind prog w K}(f:Nat){ks:List K}{Q:Bool->Shared->Prop}(hk:IsTupleKey knd s.heap ks a)(h:Q true s):wpAny (model prog w) A (eqIsQuiet (f+1) (.ref a)) Q E s:=by
 have hT:=hk.typeIs
 obtain⟨o,items,n,ho,_,hd,hi⟩:=hk
 unfold eqIsQuiet
 refine ae (fz hT F.slot_tuple_eq.lookup ?_)
 show wpAny _ _ (isInstance (.ref a) (.type "tuple") >>= _) _ _ s
 refine ae (fU hT i8 ?_)
 simp only[dX,cz,gq]
 refine ae (cC ho hd ?_)
 refine ae ?_
 show wpAny _ _ (forIn items _ _) _ _ s
 rw[<- kE]
 refine gX _ (fun de r s'=>r.1=none/\s'=s/\∀v∈de,carriedByValue v=true) _ ?_ ?_ _ _ ⟨rfl,rfl,hi.byValue⟩
 ·rintro v de r s' ⟨hr,rfl,ng⟩
  rw[eqIsQuiet_byValue _ (ng v aQ)]
  refine ae (ao ?_)
  simp only[dX,cz,gq]
  exact ao ⟨rfl,rfl,fun u hu'=>ng u (aD _ hu')⟩
 ·rintro⟨r1,r2⟩ s' ⟨hr,rfl,_⟩
  simp only at hr
  subst hr
  exact ao h
def kind{w:World}{K1 K:Type}[DecidableEq K1][DecidableEq K](knd:KeyKind prog w K1)(kd:KeyKind prog w K):HeapKind prog w (K1×List K) where
 is:=Is knd (tupleKind kd)
 hash:=hash knd (tupleKind kd)
 draws:=fun k=>1+(k.2.length+1)+1
 room:=fun A=>A.units+1<cLine
 inj:=fun hx hy=>hx.inj hy
 keeps:=fun x ho hd hs=>x.keeps ho hd hs
 pyHash:=fun hu hk h=>pyHash (Nat.lt_of_succ_lt hu) hu hk h
 eqBool:=fun hu hx hy h=>eqBool (Nat.lt_of_succ_lt hu) hu hx hy h
 quiet:=fun hk h=>quiet (fun hb hq=>DR 6 hb hq) hk h
section
variable{w:World}{K:Type}[DecidableEq K]{knd:HeapKind prog w K}
theorem Ay{d:Addr}{xs:List (K×Addr×Value)}{k:K}{dflt:Value}(hu:knd.room A)(rJ:knd.is s.heap k a)(hm:s.heap.DictOfH knd d xs)
  (Bh:∀p,atKey xs k=some p->Q p.2 { s with toks:=s.toks+knd.draws k })
  (qQ:atKey xs k=none->∀h',h'.DictOfH knd d (xs++[(k,a,dflt)])->Heap.SameBut d s.heap h'->Q dflt { s with heap:=h',toks:=s.toks+knd.draws k })
  (hsz:xs.length<=sizeLine):wpAny (model prog w) A (dictSetDefault d (.ref a) dflt) Q E s:=by
 obtain⟨o,es,ep,ho,hc,hd,he,xC,hn⟩:=hm
 unfold dictSetDefault
 try with_reducible refine cE ?_
 refine ae (knd.pyHash hu rJ ?_)
 refine ae (wpAny_dictFind_heap (s:={ s with toks:=s.toks+knd.draws k }) hu rJ ho hd he xC hn ?_ ?_)
 ·intro hno
  have hnot:k∉xs.map (·.1):=not_mem_keys_of_get hno
  refine ae (fH (ae (wpAny_updateDictKeys (hz:=by have e:=size_of_entries he;omega) (s:={ s with toks:=s.toks+knd.draws k }) ho hd (ao (qQ (atKey_none_of_get hno) _ ⟨_,_,ep+1,gw _ ho (Obj.isFreed_of_dict (gR hd _)),
   hc.mapDictKeys _,gR hd _,?_,?_,?_⟩ (cI ..))))))
  ·simp[he,entryOfKey]
  ·intro x hx
   rcases aI.mp hx with hx|hx
   ·exact knd.keeps (xC x hx) ho hd (cI ..)
   ·simp only[bR]at hx
    subst hx
    exact knd.keeps rJ ho hd (cI ..)
  ·rw[ce,db]
   refine⟨hn,by simp,?_⟩
   intro x hx y hy
   simp only[aH,dD,bR]at hy
   subst hy
   exact fun e=>hnot (e▸hx)
 ·intro j p hj
  refine ae (k6 (s:={ s with toks:=s.toks+knd.draws k }) ho hd ?_)
  rw[entry_at he j,hj]
  exact ae (fH (ao (Bh p (atKey_of_get hn hj))))
theorem meets_setdefault(d a:Addr)(hd:(d==sysModules)=false)(dflt:Value) :
  MeetsIn prog w (Builtin.«dict.setdefault» ⟨[.ref d,.ref a,dflt],[]⟩) (fun A R s=>knd.room A.in1/\∃k xs,knd.is s.heap k a/\s.heap.DictOfH knd d xs/\xs.length<=sizeLine /\
   (∀p,atKey xs k=some p->R (.ok (.ret p.2)) { s with toks:=s.toks+knd.draws k }) /\
   (atKey xs k=none->∀h',h'.DictOfH knd d (xs++[(k,a,dflt)])->Heap.SameBut d s.heap h'->R (.ok (.ret dflt)) { s with heap:=h',toks:=s.toks+knd.draws k })):=
 .of_wp fun A R s ⟨hu,k,xs,rJ,hm,hz,h1,h2⟩=>by
  unfold Builtin.«dict.setdefault»
  refine ae ?_
  unfold Builtin.Dict.keyAndDefault
  refine ae (no hm.typeIs ?_)
  show wpAny _ _ (pure (d,Value.ref a,some dflt)) _ _ s
  refine ao ?_
  show wpAny _ _ (if (d==sysModules)=true then _ else(dictSetDefault d (.ref a) dflt >>= _)) _ _ s
  rw[az (by rw[hd];exact bK)]
  exact ae (Ay hu rJ hm (fun p hp=>ao ⟨p.2,rfl,h1 p hp⟩) (fun hn h' hm' hs'=>ao ⟨dflt,rfl,h2 hn h' hm' hs'⟩) hz)
end
end PK
namespace L2
open PySem PySem.Spec PyProof.Rows
section
variable{w:World}{es:List DictEntry}
theorem T0(ok:oD P w H h)(e:H a=some (O8 a es)):DX a es h:=(show eS P w H h a (.ext (DX a es))from ok a _ e).1
theorem Az(d:DX a es h):eS P w H h a (O8 a es):=by
 refine⟨d,?_,fun h1 h2 ⟨o,ep,e,x,y⟩ k=>⟨o,ep,k o e,x,y⟩⟩
 obtain⟨o,ep,e,_⟩:=d
 exact⟨o,e⟩
theorem PP(ok:oD P w H h)(e:H a=some (.dK [])):DX a [] h/\(a==sysModules)=false:=by
 obtain⟨_,hd,vs,rel,dd⟩:=BC ok e
 cases rel
 obtain⟨o,es,ep,h1,h2,h3,_,h4,_⟩:=dd
 refine⟨⟨o,ep,h1,h2,?_⟩,hd⟩
 rw[h3]
 have:es.toList=[]:=by
  cases hh:es.toList with
  |nil=>rfl
  |cons x l=>rw[hh]at h4;cases h4
 rw[show es=[].toArray from by apply Array.ext';rw[this]]
theorem KG(d:DX a es h)(q:Str):O8 a es≠ly a q:=fun z=>by
 injection z with z
 have:=js z h
 have c:∃o vs t,h.get? a=some o/\o.data=.fields vs/\vs[1]?=some (.str q t):=this▸d
 obtain⟨o,ep,e,_,y⟩:=d
 obtain⟨o',vs,t,e',y',_⟩:=c
 rw[e]at e';cases e'
 rw[y]at y';cases y'
end
section
variable{K:Type}[DecidableEq K]{knd:HeapKind X.prog X.w K}{xs:List (K×Addr×Value)}{k:K}
abbrev yq(knd:HeapKind X.prog X.w K)(xs:List (K×Addr×Value)):List DictEntry:=xs.map (entryOfKey knd)
theorem yr(d:DX a (yq knd xs) s.heap)(xC:∀x∈xs,knd.is s.heap x.1 x.2.1)(hn:(xs.map (·.1)).Nodup):s.heap.DictOfH knd a xs:=by
 obtain⟨o,ep,h1,h2,h3⟩:=d
 exact⟨o,_,ep,h1,h2,h3,by simp,xC,hn⟩
theorem B9{ys:List (K×Addr×Value)}(d:h'.DictOfH knd a ys):DX a (yq knd ys) h':=by
 obtain⟨o,es,ep,h1,h2,h3,h4,_⟩:=d
 refine⟨o,ep,h1,h2,?_⟩
 rw[h3,show es=(yq knd ys).toArray from by apply Array.ext';rw[h4]]
structure XD(knd:HeapKind X.prog X.w K)(H:Hp)(s:Shared)(a:Addr)(xs:List (K×Addr×Value)):Prop where
 d:DX a (yq knd xs) s.heap
 is:∀x∈xs,knd.is s.heap x.1 x.2.1
 nd:(xs.map (·.1)).Nodup
 sm:(a==sysModules)=false
 z:xs.length<=sizeLine
 mu:Oa (H a)
theorem T1(hu:knd.room A.in1)(I:bz X pins σ H s)(x:XD knd H s a xs)(hk:knd.is s.heap k b){p:Addr×Value}(hp:atKey xs k=some p)(h:∀s',bz X pins σ H s'->Q p.2 s'):wpAny (model X.prog X.w) A (getItem (.ref a) (.ref b)) Q E s:=
 wpAny_getItem_heap hu hk (yr x.d x.is x.nd) hp (h _ (I.tok _))
theorem KH(hu:knd.room A.in1)(I:bz X pins σ H s)(x:XD knd H s a xs)(hk:knd.is s.heap k b)(h:∀s',bz X pins σ H s'->Q (.bool (!(atKey xs k).isSome)) s'):wpAny (model X.prog X.w) A (compareOp .NotIn (.ref b) (.ref a)) Q E s:=
 wpAny_notIn_heap hu hk x.sm (yr x.d x.is x.nd) (h _ (I.tok _))
theorem T2{Q:Unit->Shared->Prop}(hu:knd.room A.in1)(I:bz X pins σ H s)(x:XD knd H s a xs)(hk:knd.is s.heap k b)(h:∀s',bz X pins σ (eR H a (O8 a (yq knd (storedH xs k b v)))) s'->Q () s'):wpAny (model X.prog X.w) A (setItem (.ref a) (.ref b) v) Q E s:=by
 refine wpAny_setItem_heap (hsz:=x.z) hu hk (yr x.d x.is x.nd) fun h' dd hs=>h _ ?_
 have d:=B9 dd
 exact mi I x.mu hs (let ⟨q,_,hq,_⟩:=d;⟨q,hq⟩) (Az d)
end
theorem sU:∀{ws:List W} {l:List Int},gm ws=some l->ws=l.map W.int
 |[],l,h=>by simp only[gm]at h;cases h;rfl
 |w::ws,l,h=>by
  cases w with
  |int z=>
   unfold gm at h
   cases e:gm ws with
   |none=>rw[e]at h;cases h
   |some r=>
    rw[e]at h
    cases h
    rw[sU e];rfl
  |_=>unfold gm at h;cases h
noncomputable def kg:W->Option KX
 |.bl b=>some (.bo b)
 |.tup ws=>(match gm ws,ws with
  |some ks,_=>some (.fl ks)
  |none,[.int i,.tup vs]=>(gm vs).map (KX.pr i)
  |_,_=>none)
 |_=>none
theorem sV{w:W}{k:KX}(h:kg w=some k):w=k.w:=by
 cases w with
 |bl b=>cases h;rfl
 |tup ws=>
  simp only[kg]at h
  cases e:gm ws with
  |some ks=>rw[e]at h;cases h;show _=W.tup _;rw[sU e]
  |none=>
   rw[e]at h
   split at h
   ·rename_i z
    cases z
   ·rename_i i vs e2
    cases e3:gm vs with
    |none=>rw[e3]at h;cases h
    |some ks=>rw[e3]at h;cases h;show _=W.tup [_,.tup _];rw[sU e3]
   ·cases h
 |_=>cases h
structure HV(X:Cx)(K:Type)[DecidableEq K] where
 knd:HeapKind X.prog X.w K
 em:K->KX
 inj:∀{a b:K},em a=em b->a=b
 hash:∀k,(em k).hash=knd.hash k
 is:∀{pins:List (Addr×Obj)} {σ:St} {H:Hp} {s:Shared} {μ:List Addr} {k:K} {v:V} {u:Value},bz X pins σ H s->bj X.K μ H (em k).w v->bL v u->∃b,u=.ref b/\knd.is s.heap k b
 room:∀{A:Around},A.units+2<cLine->knd.room A.in1
theorem items_int{w:World}:∀{ks:List Int} {bn:List Value},cv (ks.map V.int) bn->ItemsAre (intKind P w) ks bn
 |[],_,r=>by cases r;exact .nil
 |k::ks,_,r=>by
  cases r with
  |cons h t=>
   obtain⟨q,rfl⟩:=h
   exact .cons (by simp[intKind,Value.isInt]) (items_int t)
theorem FY:∀{ks:List Int} {vs:List V},RelWs K μ H (ks.map W.int) vs->vs=ks.map V.int
 |[],vs,r=>r.nilE
 |k::ks,vs,r=>by
  obtain⟨x,xs,rfl,a,b⟩:=r.consE
  rw[a.intE,FY b];rfl
theorem FZ{ks:List Int}{v:V}(I:bz X pins σ H s)(r:bj X.K μ H (.tup (ks.map W.int)) v)(ru:bL v u):∃b,u=.ref b/\IsTupleKey (intKind X.prog X.w) s.heap ks b:=by
 obtain⟨p,vs,rfl,hS,q⟩:=r.tupE
 cases ru
 rw[FY q]at hS
 obtain⟨bn,r,⟨o,ho,hc,n,hd⟩,_⟩:=I.tuple hS
 exact⟨p,rfl,o,bn.toArray,n,ho,hc,hd,items_int r⟩
def VQ(X:Cx):HV X (List Int) where
 knd:=tupleKind (intKind X.prog X.w)
 em:=KX.fl
 inj:=fun h=>by injection h
 hash:=fun k=>rfl
 is:=fun I r ru=>FZ I r ru
 room:=fun{A} h=>by show A.units+1<cLine;omega
def VR(X:Cx):HV X (Int×List Int) where
 knd:=PK.kind (intKind X.prog X.w) (intKind X.prog X.w)
 em:=fun k=>.pr k.1 k.2
 inj:=fun{a b} h=>by injection h with h1 h2;exact Prod.ext h1 h2
 hash:=fun k=>rfl
 is:=fun{pins σ H s μ k v u} I r ru=>by
  obtain⟨p,vs,rfl,hS,q⟩:=bj.tupE r
  cases ru
  obtain⟨x,xs,rfl,a,b⟩:=q.consE
  obtain⟨y,ys,rfl,c,d⟩:=b.consE
  have:=d.nilE;subst this
  cases a.intE
  obtain⟨bn,r',⟨o,ho,hc,n,hd⟩,_⟩:=I.tuple hS
  obtain⟨u1,us,rfl,r1,r2⟩:∃u1 us,bn=u1::us/\bL (.int k.1) u1/\cv [y] us:=by cases r' with|cons h t=>exact⟨_,_,rfl,h,t⟩
  obtain⟨u2,rfl,r3⟩:∃u2,us=[u2]/\bL y u2:=by
   cases r2 with
   |cons h t=>cases t;exact⟨_,rfl,h⟩
  obtain⟨b,rfl,hb⟩:=FZ I c r3
  obtain⟨t,rfl⟩:=r1
  exact⟨p,rfl,o,_,b,n,ho,hc,hd,by simp[intKind,Value.isInt],hb⟩
 room:=fun{A} h=>by show A.units+1+1<cLine;omega
def dS(kvs:List (KX×W))(k:KX):Option W:=(kvs.find? fun p=>decide (p.1=k)).map fun p=>p.2
def jw(kvs:List (KX×W))(k:KX)(v:W):List (KX×W):=if (dS kvs k).isSome=true then kvs.map fun p=>if p.1=k then(p.1,v)else p else kvs++[(k,v)]
section
variable{K:Type}[DecidableEq K](G:HV X K)
def Vw(μ:List Addr)(H:Hp):List (KX×W)->List (K×Addr×Value)->Prop:=Paired fun p x=>p.1=G.em x.1/\bj X.K μ H p.1.w (.ref x.2.1)/\∃v,bj X.K μ H p.2 v/\bL v x.2.2
theorem sW{v:V}(h:bL v (.ref b)):v=.ref b:=by
 cases v with
 |ref a=>cases h;rfl
 |non=>cases h
 |bl _=>cases h
 |ty _=>cases h
 |int _=>obtain⟨_,h⟩:=h;cases h
 |str _=>obtain⟨_,h⟩:=h;cases h
 |byt _=>obtain⟨_,h⟩:=h;cases h
 |flt _=>obtain⟨_,h⟩:=h;cases h
theorem B_(I:bz X pins σ H s):∀{kvs:List (KX×W)} {es:List DictEntry},Paired (rA X.K μ H) kvs es->(∀p∈kvs,∃k,p.1=G.em k)->∃xs,es=yq G.knd xs/\Vw G μ H kvs xs/\∀x∈xs,G.knd.is s.heap x.1 x.2.1
 |_,_,.nil,_=>⟨[],rfl,.nil,fun x hx=>by cases hx⟩
 |_,_,.cons (a:=p) (b:=e) r t,hk=>by
  obtain⟨xs,e1,vw,xC⟩:=B_ I t fun p hp=>hk p (aD _ hp)
  obtain⟨k,hpk⟩:=hk p (aQ ..)
  obtain⟨hh,⟨v,rk,rv⟩,u,ru,jp⟩:=r
  obtain⟨b,hb,hi⟩:=G.is (k:=k) I (by rw[<- hpk];exact rk) rv
  have ev:v=.ref b:=sW (by rw[<- hb];exact rv)
  subst ev
  refine⟨(k,b,e.val)::xs,?_,.cons ⟨hpk,rk,u,ru,jp⟩ vw,fun x hx=>?_⟩
  ·rw[e1]
   show e::_=entryOfKey G.knd (k,b,e.val)::_
   congr 1
   obtain⟨eh,ek,ev⟩:=e
   simp only at hh hb
   subst hb
   rw[hh,hpk,G.hash];rfl
  ·rcases a_.mp hx with rfl|hx
   ·exact hi
   ·exact xC x hx
variable{G}
theorem mv:∀{kvs:List (KX×W)} {xs:List (K×Addr×Value)} (k:K),Vw G μ H kvs xs->(∃w p v,dS kvs (G.em k)=some w/\atKey xs k=some p/\bj X.K μ H w v/\bL v p.2)\/(dS kvs (G.em k)=none/\atKey xs k=none)
 |_,_,k,.nil=>.inr ⟨rfl,rfl⟩
 |_,_,k,.cons (a:=p) (b:=x) (l₁:=kvs) (l₂:=xs) ⟨h1,_,v,h3,h4⟩ t=>by
  by_cases e:x.1=k
  ·refine .inl ⟨p.2,x.2,v,?_,?_,h3,h4⟩
   ·unfold dS;rw[bD];simp[h1,e]
   ·unfold atKey;rw[bD];simp[e]
  ·have e2:p.1≠G.em k:=fun z=>e (G.inj (h1.symm.trans z))
   have a1:dS (p::kvs) (G.em k)=dS kvs (G.em k):=by unfold dS;rw[bD];simp[e2]
   have a2:atKey (x::xs) k=atKey xs k:=by unfold atKey;rw[bD];simp[e]
   rw[a1,a2]
   exact mv k t
theorem vx:∀{kvs:List (KX×W)} {xs:List (K×Addr×Value)},Vw G μ H kvs xs->kvs.map (fun p=>p.1)=(xs.map (·.1)).map G.em
 |_,_,.nil=>rfl
 |_,_,.cons ⟨h1,_⟩ t=>by
  simp only[aH]
  rw[h1,vx t]
theorem vy:∀{kvs:List (KX×W)} {xs:List (K×Addr×Value)},Vw G μ H kvs xs->Paired (rA X.K μ H) kvs (yq G.knd xs)
 |_,_,.nil=>.nil
 |_,_,.cons ⟨h1,h2,h3⟩ t=>.cons ⟨by rw[h1,G.hash];rfl,⟨_,h2,rfl⟩,h3⟩ (vy t)
theorem yt{k:K}{w:W}{v:V}(jp:bj X.K μ H w v)(ru:bL v u):∀{kvs:List (KX×W)} {xs:List (K×Addr×Value)},Vw G μ H kvs xs->Vw G μ H (kvs.map fun p=>if p.1=G.em k then(p.1,w)else p) (xs.map (putAt k u))
 |_,_,.nil=>.nil
 |_,_,.cons (a:=p) (b:=x) ⟨h1,h2,h3⟩ t=>by
  refine .cons ?_ (yt jp ru t)
  by_cases e:x.1=k
  ·simp only[]
   rw[ar (by rw[h1,e])]
   unfold putAt
   rw[ar e]
   exact⟨h1,h2,v,jp,ru⟩
  ·simp only[]
   rw[az fun z=>e (G.inj (h1.symm.trans z))]
   unfold putAt
   rw[az e]
   exact⟨h1,h2,h3⟩
theorem F0{k:K}{w:W}{v:V}{xs:List (K×Addr×Value)}(vw:Vw G μ H kvs xs)(rk:bj X.K μ H (G.em k).w (.ref b))(jp:bj X.K μ H w v)(ru:bL v u):Vw G μ H (jw kvs (G.em k) w) (storedH xs k b u):=by
 unfold jw storedH
 rcases mv (G:=G) k vw with⟨w',p,v',e1,e2,_⟩|⟨e1,e2⟩
 ·rw[e1,e2]
  exact yt jp ru vw
 ·rw[e1,e2]
  simp only[Option.isSome_none,cz,gq]
  exact Paired.snoc vw ⟨rfl,rk,v,jp,ru⟩
end
def KX.tag:KX->Nat
 |.bo _=>0
 |.fl _=>1
 |.pr _ _=>2
def yu(kvs:List (KX×W))(k:KX):Bool:=decide (k.tag≠0)&&kvs.all fun p=>p.1.tag==k.tag
def dL(st:List aj):W->Option (Nat×List (KX×W))
 |.loc n=>(match st[n]? with
  |some (.dcx kvs)=>some (n,kvs)
  |some (.dct [])=>some (n,[])
  |_=>none)
 |_=>none
section
structure Dc(X:Cx)(μ:List Addr)(H:Hp)(s:Shared)(st:List aj)(n:Nat)(kvs:List (KX×W))(a:Addr)(es:List DictEntry):Prop where
 m:μ[n]?=some a
 c:∃c,st[n]?=some c/\c.isRo=false
 o:∃o,H a=some o/\(∀q u,o≠.frz q u)/\∀q,o≠ly a q
 d:DX a es s.heap
 sm:(a==sysModules)=false
 p:Paired (rA X.K μ H) kvs es
 nd:(kvs.map fun p=>p.1).Nodup
 mu:Oa (H a)
 sq:∀es',dP X.K H (eR H a (O8 a es'))
theorem eF.butE{l:Addr}{φ:Heap->Prop}(e:SY l H H')(hl:H l=some (.ext φ)):dP K H H':=by
 have jt:∀{p:Addr} {o:HO},H p=some o->(∀zs,o≠.ext zs)->p≠l:=fun{p o} q hn z=>by subst z;rw[hl]at q;cases q;exact hn _ rfl
 refine⟨fun p ys h=>?_,fun b o u h=>e _ _ (jt h (fun _ z=>by cases z)) h⟩
 rcases h with(h|⟨o,h⟩)|h
 ·exact .inl (.inl (e _ _ (jt h (fun _ z=>by cases z)) h))
 ·exact .inl (.inr ⟨o,e _ _ (jt h (fun _ z=>by cases z)) h⟩)
 ·exact .inr h
theorem kh(I:bz X pins σ H s)(S:h_ X.K X.mg μ st H){x:W}{v:V}(h:dL st x=some (n,kvs))(r:bj X.K μ H x v):∃a es,v=.ref a/\Dc X μ H s st n kvs a es:=by
 cases x with
 |loc m=>
  simp only[dL]at h
  cases e:st[m]? with
  |none=>rw[e]at h;cases h
  |some c=>
   rw[e]at h
   cases c with
   |dcx z=>
    cases h
    obtain⟨a,g,es,k,hd,p,nd⟩:=S.get e
    obtain⟨b,f,rfl⟩:=r.locE
    rw[g]at f;cases f
    have d:=T0 I.hok k
    exact⟨a,es,rfl,g,⟨_,e,rfl⟩,⟨_,k,(fun _ _ z=>by cases z),KG d⟩,d,hd,p,nd,by rw[k];trivial,fun es'=>eF.butE fL k⟩
   |dct z=>
    cases z with
    |cons _ _=>cases h
    |nil=>
     cases h
     obtain⟨a,g,vs,k,rr⟩:=S.get e
     obtain⟨b,f,rfl⟩:=r.locE
     rw[g]at f;cases f
     have k:H a=some (.dK []):=k
     obtain⟨d,hd⟩:=PP I.hok k
     exact⟨a,[],rfl,g,⟨_,e,rfl⟩,⟨_,k,(fun _ _ z=>by cases z),fun _ z=>by cases z⟩,d,hd,.nil,List.nodup_nil,by rw[k];trivial,fun es'=>eF.butD fL k⟩
   |_=>cases h
 |_=>cases h
theorem Ca{K:Type}[DecidableEq K](G:HV X K){es:List DictEntry}(I:bz X pins σ H s)(D:Dc X μ H s st n kvs a es)(hk:∀p∈kvs,∃k,p.1=G.em k)(hl:kvs.length<=sizeLine):∃xs,XD G.knd H s a xs/\Vw G μ H kvs xs:=by
 obtain⟨xs,e,vw,xC⟩:=B_ G I D.p hk
 have hn:(xs.map (·.1)).Nodup:=by
  have:=D.nd
  rw[vx vw]at this
  exact(iR.mp this).imp fun h e=>h (dM _ e)
 exact⟨xs,⟨by rw[<- e];exact D.d,xC,hn,D.sm,by rw[<- Paired.length vw];exact hl,D.mu⟩,vw⟩
theorem F1{k:KX}(h:yu kvs k=true):(∃ks,k=.fl ks/\∀p∈kvs,∃q,p.1=(VQ X).em q)\/∃i ks,k=.pr i ks/\∀p∈kvs,∃q,p.1=(VR X).em q:=by
 unfold yu at h
 rw[bw,fT]at h
 obtain⟨h0,h1⟩:=h
 cases k with
 |bo b=>simp[KX.tag]at h0
 |fl ks=>
  refine .inl ⟨ks,rfl,fun p hp=>?_⟩
  have:=h1 p hp
  cases e:p.1 with
  |fl q=>exact⟨q,rfl⟩
  |bo _=>rw[e]at this;simp[KX.tag]at this
  |pr _ _=>rw[e]at this;simp[KX.tag]at this
 |pr i ks=>
  refine .inr ⟨i,ks,rfl,fun p hp=>?_⟩
  have:=h1 p hp
  cases e:p.1 with
  |pr j q=>exact⟨(j,q),rfl⟩
  |bo _=>rw[e]at this;simp[KX.tag]at this
  |fl _=>rw[e]at this;simp[KX.tag]at this
def um(kvs:List (KX×W))(k:KX):Bool:=yu kvs k&&decide (kvs.length<ji)
theorem yv{Pr:Prop}{es:List DictEntry}{k:KX}{v:V}(I:bz X pins σ H s)(D:Dc X μ H s st n kvs a es)(h:um kvs k=true)(rk:bj X.K μ H k.w v)(ru:bL v u)
  (hh:∀(K:Type) [DecidableEq K] (G:HV X K) (q:K) (b:Addr) (xs:List (K×Addr×Value)),k=G.em q->v=.ref b->u=.ref b->G.knd.is s.heap q b->XD G.knd H s a xs->Vw G μ H kvs xs->Pr):Pr:=by
 unfold um at h
 rw[bw,bt]at h
 have hl:kvs.length<=sizeLine:=i_ (eL h.2)
 rcases F1 (X:=X) h.1 with⟨ks,rfl,hk⟩|⟨i,ks,rfl,hk⟩
 ·obtain⟨xs,xd,vw⟩:=Ca (VQ X) I D hk hl
  obtain⟨b,rfl,hb⟩:=(VQ X).is (k:=ks) I rk ru
  exact hh _ (VQ X) ks b xs rfl (sW ru) rfl hb xd vw
 ·obtain⟨xs,xd,vw⟩:=Ca (VR X) I D hk hl
  obtain⟨b,rfl,hb⟩:=(VR X).is (k:=(i,ks)) I rk ru
  exact hh _ (VR X) (i,ks) b xs rfl (sW ru) rfl hb xd vw
def AA(neg:Bool)(x y:W)(st:List aj):R W:=match dL st y,kg x with
 |some (_,kvs),some k=>if um kvs k=true then .ok (.bl (if neg then !(dS kvs k).isSome else(dS kvs k).isSome)) st else .bad
 |_,_=>.bad
theorem PQ(neg:Bool)(x y:W)(st:List aj):pe (AA neg x y st):=by
 unfold AA
 split
 ·split<;>trivial
 ·trivial
theorem DS{K:Type}[DecidableEq K]{G:HV X K}{xs:List (K×Addr×Value)}(k:K)(vw:Vw G μ H kvs xs):(atKey xs k).isSome=(dS kvs (G.em k)).isSome:=by
 rcases mv k vw with⟨w,p,v,e1,e2,_⟩|⟨e1,e2⟩<;>rw[e1,e2]<;>rfl
theorem pU(hr:gT kk X.A):pf X (compareOp .NotIn) (AA true):=⟨fun pins s σ H x y v u Q I rv ru ⟨μ,st,wx,wy,S,rx,ry,q⟩=>by
 unfold AA at q
 cases e:dL st wy with
 |none=>rw[e]at q;exact q.elim
 |some nk=>
  obtain⟨n,kvs⟩:=nk
  cases ek:kg wx with
  |none=>rw[e,ek]at q;exact q.elim
  |some k=>
   rw[e,ek]at q
   simp only at q
   by_cases hx:um kvs k=true
   ·rw[ar hx]at q
    obtain⟨a,es,rfl,D⟩:=kh I S e ry
    obtain rfl:u=Value.ref a:=ru
    have:=sV ek
    subst this
    refine yv I D hx rx rv fun K inst G z b xs hk _ hb xC xd vw=>?_
    subst hb
    refine KH (G.room (by have:=hr.units;omega)) I xd xC fun s' I'=>?_
    rw[DS z vw,<- hk]
    exact⟨.bl _,H,I',rfl,ik S q⟩
   ·rw[az hx]at q;exact q.elim,PQ true⟩
end
theorem DT{k:KX}(h:dS kvs k=none):k∉kvs.map fun p=>p.1:=fun z=>by
 obtain⟨p,hp,e⟩:=aJ.mp z
 unfold dS at h
 rw[Option.map_eq_none_iff,iy]at h
 exact h p hp (aK e)
theorem Cb(k:KX)(v:W)(h:(kvs.map fun p=>p.1).Nodup):((jw kvs k v).map fun p=>p.1).Nodup:=by
 unfold jw
 by_cases z:(dS kvs k).isSome=true
 ·rw[ar z,aX]
  have:((fun p:KX×W=>p.1)∘fun p:KX×W=>if p.1=k then(p.1,v)else p)=fun p=>p.1:=by
   funext p
   show(if p.1=k then(p.1,v)else p).1=p.1
   split<;>rfl
  rw[this];exact h
 ·rw[az z,ce,db]
  have hn:dS kvs k=none:=by
   cases e:dS kvs k with
   |none=>rfl
   |some _=>rw[e]at z;exact(z rfl).elim
  refine⟨h,by simp,fun a ha b hb=>?_⟩
  have:b=k:=by simpa using hb
  subst this
  exact fun e=>DT hn (e▸ha)
def q_(x i v:W)(st:List aj):Option (List aj):=match dL st x,kg i with
 |some (n,kvs),some k=>if um kvs k=true then some (st.set n (.dcx (jw kvs k v)))else none
 |_,_=>none
section
theorem Dc.put{K:Type}[DecidableEq K]{G:HV X K}{es:List DictEntry}(D:Dc X μ H s st n kvs a es)(S:h_ X.K X.mg μ st H)
  {xs:List (K×Addr×Value)} {z:K} {b:Addr} {wv:W} {v:V} {u:Value} (vw:Vw G μ H kvs xs) (rk:bj X.K μ H (G.em z).w (.ref b)) (rv:bj X.K μ H wv v) (ru:bL v u) :
  h_ X.K X.mg μ (st.set n (.dcx (jw kvs (G.em z) wv))) (eR H a (O8 a (yq G.knd (storedH xs z b u)))):=by
 obtain⟨c,hc,ut⟩:=D.c
 obtain⟨o,ho,hf,hg⟩:=D.o
 exact S.setG hc ut D.m ho hf hg (D.sq _) rfl ⟨_,eX,D.sm,Paired.imp' (fun _ _ q=>q.mono (ah _) (D.sq _)) (vy (F0 vw rk rv ru)),Cb _ _ D.nd⟩
theorem PR(hr:gT kk X.A):zS X (BR X q_):=fun pins s σ H o i v ov iv u Q I r1 r2 r3 ⟨μ,st,wo,wi,wv,bG,S,ro,ri,rv,e,q⟩=>by
 unfold q_ at e
 cases e1:dL st wo with
 |none=>rw[e1]at e;cases e
 |some nk=>
  obtain⟨n,kvs⟩:=nk
  cases e2:kg wi with
  |none=>rw[e1,e2]at e;cases e
  |some k=>
   rw[e1,e2]at e
   simp only at e
   split at e
   ·rename_i hx
    cases e
    obtain⟨a,es,rfl,D⟩:=kh I S e1 ro
    obtain rfl:ov=Value.ref a:=r1
    have:=sV e2
    subst this
    refine yv I D hx ri r2 fun K inst G z b xs hk hv hb xC xd vw=>?_
    subst hk;subst hv;subst hb
    refine T2 (G.room (by have:=hr.units;omega)) I xd xC fun s' I'=>⟨_,I',?_⟩
    exact q _ (D.sq _) (D.put S vw ri rv r3)
   ·cases e
def PX(X:Cx)(x y:V)(H:Hp)(Q:VK):Prop:=∃a,x=.ref a/\∀(pins:List (Addr×Obj)) (σ:St) (s:Shared) (u:Value) (E:Value->Shared->Prop) (Qv:Value->Shared->Prop),bz X pins σ H s->bL y u ->
 (∀v w' s',bz X pins σ H s'->bL v w'->Q v H->Qv w' s')->s.TypeIs (.ref a) "dict"/\wpAny (model X.prog X.w) X.A (getItem (.ref a) u) Qv E s
def T3(X:Cx)(td ty:TE):TE:=fun σ H Q=>td σ H fun x H1=>ty σ H1 fun y H2=>PX X x y H2 Q
theorem KI{i:Expr}{td ty:TE}(ho:PE X o td)(hi:PE X i ty)(hs:ET i):PE X (.Subscript o i pos) (T3 X td ty):=by
 intro pins s σ H Q I h
 refine v7 PySem.F.slot_dict_getitem.lookup hs (fJ (ho pins s σ H _ I h) fun u s1 ⟨x,H1,I1,rx,q1⟩=>fJ (hi pins s1 σ H1 _ I1 q1) fun iv s2 ⟨y,H2,I2,ry,a,ex,g⟩=>?_)
 subst ex
 obtain rfl:u=Value.ref a:=rx
 exact g pins σ s2 iv _ _ I2 ry fun v w' s3 I3 jp q2=>⟨v,H2,I3,jp,q2⟩
theorem lF{es:List DictEntry}(D:Dc X μ H s st n kvs a es):s.TypeIs (.ref a) "dict":=by
 obtain⟨o,ep,h1,h2,_⟩:=D.d
 exact⟨o,h1,h2.1⟩
def XA(X:Cx)(id:String)(x y z:V)(H:Hp)(Q:VK):Prop:=∃a,x=.ref a/\∀(pins:List (Addr×Obj)) (σ:St) (s:Shared) (u r:Value) (E:Value->Shared->Prop) (Qv:Value->Shared->Prop),bz X pins σ H s->bL y u->bL z r ->
 (∀v w' H' s',bz X pins σ H' s'->bL v w'->Q v H'->Qv w' s')->wpAny (model X.prog X.w) X.A (call (.builtin id) [.ref a,u,r]) Qv E s
def WG(X:Cx)(x:V)(H:Hp):Prop:=∃a,x=.ref a/\∀(pins:List (Addr×Obj)) (σ:St) (s:Shared),bz X pins σ H s->s.TypeIs (.ref a) "dict"/\∀b,Value.ref a=.ref b->∃ob,s.heap.get? b=some ob/\ob.dict=none
def PU(X:Cx)(id:String)(td ty tx:TE):TE:=fun σ H Q=>td σ H fun x H1=>WG X x H1/\ty σ H1 fun y H2=>tx σ H2 fun z H3=>XA X id x y z H3 Q
theorem F2{f:Expr}{td ty tx:TE}(ho:PE X o td)(he:PE X e ty)(hf:PE X f tx)(m:M2 X o "setdefault" eV e f cS):PE X (.Call (.Attribute o "setdefault" eV) [e,f] [] cS) (PU X "dict.setdefault" td ty tx):=by
 intro pins s σ H Q I h
 refine kX m.base m.few m.line PySem.F.plainAttrs_dict PySem.F.slot_dict_setdefault PySem.F.type_dict_setdefault (fJ (ho pins s σ H _ I h) fun u s1 ⟨x,H1,I1,rx,⟨a,ex,d⟩,q1⟩=>?_)
 subst ex
 obtain rfl:u=Value.ref a:=rx
 obtain⟨t1,t2⟩:=d pins σ s1 I1
 refine⟨t1,t2,?_⟩
 rw[m.trees]
 refine eN rfl (gO (gi (fJ (he pins s1 σ H1 _ I1 q1) fun iv s2 ⟨y,H2,I2,ry,q2⟩=>
  gi (fJ (hf pins s2 σ H2 _ I2 q2) fun fv s3 ⟨z,H3,I3,rz,a',ea,g⟩=>iI ?_))))
 cases ea
 exact g pins σ s3 iv fv _ _ I3 ry rz fun v w' H' s4 I4 jp q3=>⟨v,H',I4,jp,q3⟩
theorem sX{x:W}{v:V}{nk:Nat×List (KX×W)}(S:h_ X.K X.mg μ st H)(e:dL st x=some nk)(r:bj X.K μ H x v):WG X v H:=by
 have⟨a,ea,_⟩:∃a,v=.ref a/\True:=by
  cases x with
  |loc m=>obtain⟨a,_,e⟩:=r.locE;exact⟨a,e,trivial⟩
  |_=>simp only[dL]at e;cases e
 subst ea
 refine⟨a,rfl,fun pins σ s I=>?_⟩
 obtain⟨a',es,ea,D⟩:=kh I S (n:=nk.1) (kvs:=nk.2) e r
 cases ea
 refine⟨lF D,fun b hb=>?_⟩
 cases hb
 obtain⟨o,ep,h1,h2,_⟩:=D.d
 exact⟨o,h1,h2.2.1⟩
end
end L2
namespace PK
open PySem
section
variable{w:World}
theorem DU{b:Bool}{Q:Int->Shared->Prop}(h:Q (hashInt (if b then 1 else 0)) { s with toks:=s.toks+1 }):wpAny (model prog w) A (PySem.pyHash (.bool b)) Q E s:=by
 have hr:=rawHash_range (if b then 1 else 0)
 unfold PySem.pyHash
 have hv:[Value.bool b].any Value.onHeap=false:=rfl
 refine ae ?_
 rw[cRoomFor,az (by rw[hv];exact bK)];refine ao ?_
 refine ae (fz (typeIs_bool s b) F.slot_bool_hash.lookup ?_)
 show wpAny _ _ (if (some (Value.builtin "int.__hash__")==some Value.none)=true then _ else _) Q E s
 rw[az (by rw[beq_builtin_none];exact bK)]
 refine ae (fz (typeIs_bool s b) F.slot_bool_hash.lookup ?_)
 show wpAny _ _ (callSpecialIfBoundUnlessNone? (.bool b) "__hash__" _ >>= _) Q E s
 refine ae (gA (typeIs_bool s b) F.slot_bool_hash
  (cu F.slot_bool_hash (typeIs_bool s b) entry_int_hash
   (show wpAny _ _ (do ret (<- mkInt (rawHash (if b then 1 else 0)))) _ _ s from m7 ?_) (args_int_hash _)))
 show wpAny _ _ (if (decide (-(2:Int)^63<=rawHash (if b then 1 else 0))&&decide (rawHash (if b then 1 else 0)<2^63))=true then _ else _) Q E _
 rw[ar (by rw[aK hr.1,aK hr.2];rfl)]
 exact ao h
end
def isBool:Bool->Value->Bool
 |b,.bool c=>b==c
 |_,_=>false
theorem gU           {b:Bool}  (h : isBool b v = true) : v = .bool b := by
  cases v with
  | bool c => have : b = c := by simpa [isBool] using h
              rw [this]
  | _ => cases h
def boolKind(prog:Program)(w:World):KeyKind prog w Bool where
 is:=isBool
 hash:=fun b=>hashInt (if b then 1 else 0)
 inj:=fun v a b ha hb=>by
  have h1:=gU ha
  have h2:=gU hb
  rw[h1]at h2
  injection h2
 byValue:=fun k v h=>by rw[gU h];rfl
 pyHash:=fun hv h=>by rw[gU hv];exact DU h
 eqBool:=fun{A E s a b u v Q} hu hv h=>by
  rw[gU hu,gU hv]
  have:decide (a=b)=(a==b):=by cases a<;>cases b<;>rfl
  rw[this]at h
  exact SeqAt.EqAt.bool_bool a b _ _ _ _ h
 «strs»:=fun k x t v h=>by cases h
end PK
namespace L2
open PySem PySem.Spec PyProof.Rows
section
variable{w:World}{K:Type}[DecidableEq K]{knd:KeyKind prog w K}{es:List DictEntry}{k:K}{key dflt:Value}
theorem KJ(rJ:knd.is k key=true)(d:DX a es s.heap)(hk:KeysOf knd es.toArray)
  (Bh:∀e,(es.find? fun e=>knd.is k e.key)=some e->Q e.val { s with toks:=s.toks+1 })
  (qQ:(es.find? fun e=>knd.is k e.key)=none->∀h',DX a (es++[⟨knd.hash k,key,dflt⟩]) h'->Heap.SameBut a s.heap h'->Q dflt { s with heap:=h',toks:=s.toks+1 })
  (hz:es.length<=sizeLine):wpAny (model prog w) A (dictSetDefault a key dflt) Q E s:=by
 obtain⟨o,ep,ho,hc,hd⟩:=d
 unfold dictSetDefault
 try with_reducible refine cE ?_
 refine ae (knd.pyHash rJ ?_)
 refine ae (wpAny_dictFind_of (s:={ s with toks:=s.toks+1 }) rJ ho hd hk ?_)
 have ef:(es.toArray.find? fun e=>knd.is k e.key)=es.find? fun e=>knd.is k e.key:=by simp
 cases hi:es.toArray.findIdx? fun e=>knd.is k e.key with
 |some i=>
  refine ae (k6 (s:={ s with toks:=s.toks+1 }) ho hd ?_)
  have hlt:i<es.toArray.size:=(Array.findIdx?_eq_some_iff_findIdx_eq.mp hi).1
  rw[Array.getElem?_eq_getElem hlt]
  have hfi:(es.find? fun e=>knd.is k e.key)=some es.toArray[i]:=by
   have h1:es.findIdx? (fun e=>knd.is k e.key)=some i:=by rw[<- nq];exact hi
   obtain⟨h2,h3,h4⟩:=List.findIdx?_eq_some_iff_getElem.mp h1
   rw[jg]
   exact⟨h3,i,h2,by simp,fun j hj=>by simpa using h4 j hj⟩
  exact ae (fH (ao (Bh _ hfi)))
 |none=>
  have hfn:(es.find? fun e=>knd.is k e.key)=none:=by
   have h1:es.findIdx? (fun e=>knd.is k e.key)=none:=by rw[<- nq];exact hi
   rw[iy]
   intro x hx
   have:=List.findIdx?_eq_none_iff.mp h1 x hx
   simpa using this
  refine ae (fH (ae (wpAny_updateDictKeys (hz:=by simpa using hz) (s:={ s with toks:=s.toks+1 }) ho hd (ao (qQ hfn _ ⟨_,ep+1,gw _ ho (Obj.isFreed_of_dict (gR hd _)),hc.mapDictKeys _,?_⟩ (cI ..))))))
  rw[gR hd]
  congr 1
  simp
theorem AB(rJ:knd.is k key=true)(hd:(a==sysModules)=false) :
  MeetsIn prog w (Builtin.«dict.setdefault» ⟨[.ref a,key,dflt],[]⟩) (fun _ R s=>∃es,DX a es s.heap/\KeysOf knd es.toArray/\es.length<=sizeLine /\
   (∀e,(es.find? fun e=>knd.is k e.key)=some e->R (.ok (.ret e.val)) { s with toks:=s.toks+1 }) /\
   ((es.find? fun e=>knd.is k e.key)=none->∀h',DX a (es++[⟨knd.hash k,key,dflt⟩]) h'->Heap.SameBut a s.heap h'->R (.ok (.ret dflt)) { s with heap:=h',toks:=s.toks+1 })):=
 .of_wp fun A R s ⟨es,d,hk,hz,h1,h2⟩=>by
  have ht:s.TypeIs (.ref a) "dict":=let ⟨o,ep,e,c,_⟩:=d;⟨o,e,c.1⟩
  unfold Builtin.«dict.setdefault»
  refine ae ?_
  unfold Builtin.Dict.keyAndDefault
  refine ae (no ht ?_)
  show wpAny _ _ (pure (a,key,some dflt)) _ _ s
  refine ao ?_
  show wpAny _ _ (if (a==sysModules)=true then _ else(dictSetDefault a key dflt >>= _)) _ _ s
  rw[az (by rw[hd];exact bK)]
  exact ae (KJ rJ d hk (fun e he=>ao ⟨e.val,rfl,h1 e he⟩) (fun hn h' d' hs=>ao ⟨dflt,rfl,h2 hn h' d' hs⟩) hz)
end
section
def F3(kvs:List (KX×W))(k:KX):Bool:=decide (k.tag=0)&&(kvs.all fun p=>p.1.tag==0)&&decide (kvs.length<ji)
theorem AC:∀{kvs:List (KX×W)} {es:List DictEntry},Paired (rA X.K μ H) kvs es->(kvs.all fun p=>p.1.tag==0)=true->∀e∈es,∃b,(PK.boolKind X.prog X.w).is b e.key=true/\e.hash=(PK.boolKind X.prog X.w).hash b
 |_,_,.nil,_=>fun e he=>by cases he
 |_,_,.cons (a:=p) (b:=e) r t,h=>fun e' he=>by
  rw[oU,bw]at h
  rcases a_.mp he with rfl|he
  ·obtain⟨hh,⟨v,rk,rv⟩,_⟩:=r
   obtain⟨pk,pw⟩:=p
   cases pk with
   |bo b=>
    cases bj.blE rk
    have hk:_=Value.bool b:=rv
    exact⟨b,by rw[hk];simp[PK.boolKind,PK.isBool],hh⟩
   |fl _=>simp[KX.tag]at h
   |pr _ _=>simp[KX.tag]at h
  ·exact AC t h.2 e' he
theorem wu(b:Bool):∀{kvs:List (KX×W)} {es:List DictEntry},Paired (rA X.K μ H) kvs es->(kvs.all fun p=>p.1.tag==0)=true ->
  (∃w e v,dS kvs (.bo b)=some w/\(es.find? fun e=>(PK.boolKind X.prog X.w).is b e.key)=some e/\bj X.K μ H w v/\bL v e.val)\/(dS kvs (.bo b)=none/\(es.find? fun e=>(PK.boolKind X.prog X.w).is b e.key)=none)
 |_,_,.nil,_=>.inr ⟨rfl,rfl⟩
 |_,_,.cons (a:=p) (b:=e) (l₁:=kvs) (l₂:=es) r t,h=>by
  rw[oU,bw]at h
  obtain⟨hh,⟨v,rk,rv⟩,u,ru,jp⟩:=r
  obtain⟨pk,pw⟩:=p
  cases pk with
  |bo c=>
   cases bj.blE rk
   have hek:e.key=.bool c:=rv
   by_cases z:c=b
   ·subst z
    refine .inl ⟨pw,e,u,?_,?_,ru,jp⟩
    ·unfold dS;rw[bD];simp
    ·rw[bD,hek];simp[PK.boolKind,PK.isBool]
   ·have a1:dS ((KX.bo c,pw)::kvs) (.bo b)=dS kvs (.bo b):=by unfold dS;rw[bD];simp[z]
    have a2:((e::es).find? fun e=>(PK.boolKind X.prog X.w).is b e.key)=es.find? fun e=>(PK.boolKind X.prog X.w).is b e.key:=by
     rw[bD,hek,show(PK.boolKind X.prog X.w).is b (.bool c)=false by simp[PK.boolKind,PK.isBool,Ne.symm z]]
    rw[a1,a2]
    exact wu b t h.2
  |fl _=>simp[KX.tag]at h
  |pr _ _=>simp[KX.tag]at h
end
section
variable{w:World}{es:List DictEntry}
theorem wz(hd:(a==sysModules)=false):MeetsIn prog w (Builtin.«dict.__len__» ⟨[.ref a],[]⟩) (fun _ R s=>∃es,DX a es s.heap/\R (.ok (.ret (.int es.length s.toks))) { s with toks:=s.toks+1 }):=
 .of_wp fun A R s ⟨es,⟨o,ep,ho,hc,hdat⟩,h⟩=>by
  show wpAny _ _ (dictSize a >>= _) _ _ s
  unfold dictSize
  refine ae (ae (k6 ho hdat (ao ?_)))
  show wpAny _ _ (Builtin.Dict.pendingCount a >>= _) _ _ s
  refine ae (wpAny_pendingCount_other hd ?_)
  refine m7 ?_
  rw[jZ,aF];exact h
theorem yw(hd:(a==sysModules)=false)(d:DX a es s.heap)(RI:(es.length:Int)<2^63)(h:Q (.int es.length (s.toks+1)) { s with toks:=s.toks+1+1 }):wpAny (model prog w) A (call (.builtin "len") [.ref a]) Q E s:=by
 have ht:s.TypeIs (.ref a) "dict":=let ⟨o,ep,e,c,_⟩:=d;⟨o,e,c.1⟩
 refine kK kind_len plain_len entry_len (args_len1 _) ?_
 unfold Builtin.«len»
 refine ae (m:=oneArg "len" _) (ao ?_)
 refine ae (m:=callSpecial? (.ref a) (Str.ofString "__len__")) (bS (name:=Str.ofString "__len__") ht F.slot_dict_len
  (jY F.slot_dict_len ht F.entry_dict_len (F.args_dict_len_1 _) (wz hd) ⟨es,d,?_⟩))
 show wpAny _ _ _ _ _ { s with toks:=s.toks+1 }
 refine ae (cE (ao ?_))
 refine ae (gP ?_)
 show wpAny _ _ (if ((es.length:Nat):Int)<0 then _ else _) _ _ _
 rw[az (by omega)]
 show wpAny _ _ (if ((es.length:Nat):Int)≥2^63 then _ else _) _ _ _
 rw[az (by omega)]
 exact ae (wpAny_mkInt (ao ⟨_,rfl,h⟩))
end
section
theorem T4{es:List DictEntry}(D:Dc X μ H s st n kvs a es)(h:(kvs.all fun p=>p.1.tag==0)=true):s.heap.MapOf (PK.boolKind X.prog X.w) a (findBy (PK.boolKind X.prog X.w).is es.toArray):=by
 obtain⟨o,ep,h1,h2,h3⟩:=D.d
 exact⟨o,_,ep,h1,h2,h3,fun e he=>AC D.p h e (by simpa using he),fun _=>rfl⟩
theorem L8{k:KX}(h:F3 kvs k=true):(∃b,k=.bo b)/\(kvs.all fun p=>p.1.tag==0)=true/\kvs.length<=sizeLine:=by
 unfold F3 at h
 rw[bw,bw,bt,bt]at h
 refine⟨?_,h.1.2,i_ (eL h.2)⟩
 cases k with
 |bo b=>exact⟨b,rfl⟩
 |fl _=>simp[KX.tag]at h
 |pr _ _=>simp[KX.tag]at h
def F4(x y:W)(st:List aj):R W:=match dL st x,kg y with
 |some (_,kvs),some k=>if (um kvs k||F3 kvs k)=true then pE (dS kvs k) fun w=>.ok w st else .bad
 |_,_=>.bad
theorem T5{a b:Expr}{pos:Pos}(hr:gT kk X.A)(ha:SE X a fa)(hb:SE X b fb)(hs:ET b:=by intro _ _;rfl):SE X (.Subscript a b pos) (e2 F4 fa fb):=⟨(KI ha.h hb.h hs).imp fun σ H Q h=>by
 obtain⟨μ,ρ,st,l,h⟩:=h
 refine⟨μ,ρ,st,l,RK.bind h l fun μ1 st1 x v H1 p1 x1 l1 q1 h1=>⟨μ1,ρ,st1,l1,RK.bind h1 l1 fun μ2 cV y u H2 p2 x2 l2 q2 h2=>?_⟩⟩
 unfold F4 at h2
 cases e1:dL cV x with
 |none=>rw[e1]at h2;exact h2.elim
 |some nk=>
  obtain⟨n,kvs⟩:=nk
  cases e2:kg y with
  |none=>rw[e1,e2]at h2;exact h2.elim
  |some k=>
   rw[e1,e2]at h2
   simp only at h2
   by_cases hx:(um kvs k||F3 kvs k)=true
   ·rw[ar hx]at h2
    have:=sV e2
    subst this
    obtain⟨a,ea,_⟩:=sX l2.sto e1 (q1.mono p2 x2)
    refine⟨a,ea,fun pins σ s iv E Qv I ry hq=>?_⟩
    obtain⟨a',es,ea',D⟩:=kh I l2.sto e1 (q1.mono p2 x2)
    rw[ea]at ea'
    cases ea'
    refine⟨lF D,?_⟩
    rw[gr]at hx
    rcases hx with hx|hx
    ·refine yv I D hx q2 ry fun K inst G z b xs hk hv hb xC xd vw=>?_
     subst hk;subst hb
     rcases mv z vw with⟨w,p,v',g1,g2,g3,g4⟩|⟨g1,g2⟩
     ·rw[g1]at h2
      exact T1 (G.room (by have:=hr.units;omega)) I xd xC g2 fun s' I'=>hq v' _ s' I' g4 (h2 μ2 v' H2 (ah _) dP.refl l2.sto g3)
     ·rw[g1]at h2;exact h2.elim
    ·obtain⟨⟨b,rfl⟩,ng,_⟩:=L8 hx
     cases bj.blE q2
     obtain rfl:iv=Value.bool b:=ry
     rcases wu b D.p ng with⟨w,e,v',g1,g2,g3,g4⟩|⟨g1,g2⟩
     ·rw[g1]at h2
      refine lY (knd:=PK.boolKind X.prog X.w) (k:=b) (by simp[PK.boolKind,PK.isBool]) (T4 D ng) (v:=e.val) ?_ (hq v' _ _ (I.tok _) g4 (h2 μ2 v' H2 (ah _) dP.refl l2.sto g3))
      unfold findBy
      rw[show(es.toArray.find? fun e=>(PK.boolKind X.prog X.w).is b e.key)=es.find? fun e=>(PK.boolKind X.prog X.w).is b e.key by simp,g2];rfl
     ·rw[g1]at h2;exact h2.elim
   ·rw[az hx]at h2;exact h2.elim⟩
def wA(fo fk fd:FE):FE:=fun ρ st=>(fo ρ st).bind fun x st=>match dL st x with
 |some _=>(fk ρ st).bind fun y st=>(fd ρ st).bind fun z st=>(match dL st x,kg y with
  |some (n,kvs),some k=>if (um kvs k||F3 kvs k)=true then(match dS kvs k with
   |some w=>.ok w st
   |none=>.ok z (st.set n (.dcx (jw kvs k z))))else .bad
  |_,_=>.bad)
 |none=>.bad
theorem KL{f:Expr}{fd:FE}(hr:gT kk X.A)(ho:SE X o fo)(he:SE X e fe)(hf:SE X f fd)(m:M2 X o "setdefault" eV e f cS:=by exact⟨by rfl,by rfl,by rfl,by rfl⟩):SE X (.Call (.Attribute o "setdefault" eV) [e,f] [] cS) (wA fo fe fd):=⟨(F2 ho.h he.h hf.h m).imp fun σ H Q h=>by
 obtain⟨μ,ρ,st,l,h⟩:=h
 refine⟨μ,ρ,st,l,RK.bind h l fun μ1 st1 x v H1 p1 x1 l1 q1 h1=>?_⟩
 cases e0:dL st1 x with
 |none=>rw[e0]at h1;exact h1.elim
 |some nk0=>
  rw[e0]at h1
  simp only at h1
  obtain⟨a0,ea0,_⟩:=sX l1.sto e0 q1
  refine⟨sX l1.sto e0 q1,μ1,ρ,st1,l1,RK.bind h1 l1 fun μ2 cV y u H2 p2 x2 l2 q2 h2=>⟨μ2,ρ,cV,l2,RK.bind h2 l2 fun μ3 ju dW t H3 p3 x3 l3 q3 h3=>?_⟩⟩
  cases e1:dL ju x with
  |none=>rw[e1]at h3;exact h3.elim
  |some nk=>
   obtain⟨n,kvs⟩:=nk
   cases e2:kg y with
   |none=>rw[e1,e2]at h3;exact h3.elim
   |some k=>
    rw[e1,e2]at h3
    simp only at h3
    by_cases hx:(um kvs k||F3 kvs k)=true
    ·rw[ar hx]at h3
     have:=sV e2
     subst this
     refine⟨a0,ea0,fun pins σ s iv r E Qv I ry rz hq=>?_⟩
     obtain⟨a',es,ea,D⟩:=kh I l3.sto e1 ((q1.mono p2 x2).mono p3 x3)
     rw[ea0]at ea
     cases ea
     rw[gr]at hx
     rcases hx with hx|hx
     ·refine yv I D hx (q2.mono p3 x3) ry fun K inst G z b xs hk hv hb xC xd vw=>?_
      subst hk;subst hb
      refine jY PySem.F.slot_dict_setdefault (lF D) PySem.F.entry_dict_setdefault (PySem.F.args_dict_setdefault_3 _ _ _) (PK.meets_setdefault (knd:=G.knd) a0 b xd.sm r) ⟨G.room (by have:=hr.units;omega),z,xs,xC,yr xd.d xd.is xd.nd,xd.z,?_,?_⟩
      ·intro p hp
       rcases mv z vw with⟨w,p',v',g1,g2,g3,g4⟩|⟨g1,g2⟩
       ·rw[g1]at h3
        rw[g2]at hp;cases hp
        exact hq v' _ _ _ (I.tok _) g4 (h3 μ3 v' H3 (ah _) dP.refl l3.sto g3)
       ·rw[g2]at hp;cases hp
      ·intro hn h' dd hs
       rcases mv z vw with⟨w,p',v',g1,g2,g3,g4⟩|⟨g1,g2⟩
       ·rw[g2]at hn;cases hn
       ·rw[g1]at h3
        have d:=B9 dd
        have I':=mi (t':=s.toks+G.knd.draws z) I xd.mu hs (let ⟨q,_,hq,_⟩:=d;⟨q,hq⟩) (Az d)
        rw[<- storedH_new g2 b r]at I'
        exact hq t _ _ _ I' rz (h3 μ3 t _ (ah _) (D.sq _) (D.put l3.sto vw (by have:=q2.mono p3 x3;rw[hv]at this;exact this) q3 rz) (q3.mono (ah _) (D.sq _)))
     ·obtain⟨⟨b,rfl⟩,ng,cY⟩:=L8 hx
      cases bj.blE q2
      obtain rfl:iv=Value.bool b:=ry
      refine jY PySem.F.slot_dict_setdefault (lF D) PySem.F.entry_dict_setdefault (PySem.F.args_dict_setdefault_3 _ _ _) (AB (knd:=PK.boolKind X.prog X.w) (k:=b) (by simp[PK.boolKind,PK.isBool]) D.sm) ⟨es,D.d,fun e he=>AC D.p ng e (by simpa using he),by rw[<- Paired.length D.p];exact cY,?_,?_⟩
      ·intro e he
       rcases wu b D.p ng with⟨w,e',v',g1,g2,g3,g4⟩|⟨g1,g2⟩
       ·rw[g1]at h3
        rw[g2]at he;cases he
        exact hq v' _ _ _ (I.tok _) g4 (h3 μ3 v' H3 (ah _) dP.refl l3.sto g3)
       ·rw[g2]at he;cases he
      ·intro hn h' d hs
       rcases wu b D.p ng with⟨w,e',v',g1,g2,g3,g4⟩|⟨g1,g2⟩
       ·rw[g2]at hn;cases hn
       ·rw[g1]at h3
        have I':=mi (t':=s.toks+1) I D.mu hs (let ⟨q,_,hq,_⟩:=d;⟨q,hq⟩) (Az d)
        obtain⟨c,hc,ut⟩:=D.c
        obtain⟨o,ho,hf,hg⟩:=D.o
        have ep:jw kvs (.bo b) dW=kvs++[(.bo b,dW)]:=by unfold jw;rw[g1];rfl
        have S':=l3.sto.setG (c':=.dcx (jw kvs (.bo b) dW)) hc ut D.m ho hf hg (D.sq (es++[⟨(PK.boolKind X.prog X.w).hash b,.bool b,r⟩])) rfl ⟨_,eX,D.sm,by
         rw[ep]
         exact Paired.snoc (Paired.imp' (fun _ _ q=>q.mono (ah _) (D.sq _)) D.p) ⟨rfl,⟨_,.bl,rfl⟩,_,q3.mono (ah _) (D.sq _),rz⟩,Cb _ _ D.nd⟩
        exact hq t _ _ _ I' rz (h3 μ3 t _ (ah _) (D.sq _) S' (q3.mono (ah _) (D.sq _)))
    ·rw[az hx]at h3;exact h3.elim⟩
def vz(ws:List W)(st:List aj):R W:=match ws with
 |[x]=>(match dL st x with
  |some (_,kvs)=>if kvs.length<=ji then .ok (.int kvs.length) st else .bad
  |none=>cW ws st)
 |_=>cW ws st
theorem PV:kO X (.builtin "len") vz:=⟨fun pins s σ H vs us Q I rv ⟨μ,st,ws,S,r,q⟩=>by
 unfold vz at q
 split at q
 ·rename_i x
  split at q
  ·rename_i n kvs e
   split at q
   ·rename_i hl
    obtain⟨y,rfl,ry⟩:=r.one
    obtain⟨a,es,rfl,D⟩:=kh I S e ry
    obtain⟨u,rfl,ru⟩:=jI rv
    obtain rfl:u=Value.ref a:=ru
    have hle:es.length=kvs.length:=(Paired.length D.p).symm
    refine yw D.sm D.d (by rw[hle];have:kvs.length<=1000000:=hl;omega) ?_
    refine⟨.int kvs.length,H,I.tok _,⟨_,by rw[hle]⟩,?_⟩
    exact q μ _ H (ah _) dP.refl S .int
   ·exact q.elim
  ·exact pM.h pins s σ H _ us Q I rv ⟨μ,st,_,S,r,q⟩
 ·exact pM.h pins s σ H _ us Q I rv ⟨μ,st,_,S,r,q⟩,fun ws st=>by
 unfold vz
 split
 ·split
  ·split<;>trivial
  ·exact(pM (X:=X)).n _ st
 ·exact(pM (X:=X)).n _ st⟩
end
def T6(K:Frag)(a:Addr):It:=
 ⟨fun i H=>∃xs x,pD K H a xs/\xs[i]?=some x,fun i H v H'=>∃p,H p=none/\v=.ref p/\∀xs x,pD K H a xs->xs[i]?=some x->H'=eR H p (.tup [.int i,x]),fun i H=>∃xs,pD K H a xs/\xs.length<=i⟩
theorem AD{w:World}(a it e:Addr)(RF:e≠it) :
  xJ P w K (.Tuple mF kk pos) (T6 K a) [e,it] e (fun i h=>(∃old,IsEnum h e it i old)/\h.IsListIter it a i) where
 mem:=by simp
 obj:=fun i h st b hb=>by
  have z:b=e\/b=it:=by simpa using hb
  rcases z with rfl|rfl
  ·obtain⟨old,q⟩:=st.1
   exact⟨_,q,fun v z=>by cases z⟩
  ·obtain⟨o,q,c,d⟩:=st.2
   exact⟨o,q,fun v z=>by rw[d]at z;cases z⟩
 keep:=fun i h h' st k=>⟨let ⟨old,q⟩:=st.1;⟨old,k e (by simp) _ q⟩,st.2.at fun o q=>k it (by simp) o q⟩
 item:=by
  intro X hP hw hK hc i pins s σ H E I hf st hg
  subst hP hw hK
  obtain⟨xs,x,hq,hx⟩:=hg
  obtain⟨bn,rv,p,hz⟩:=I.list hq
  obtain⟨u,hu,ru⟩:=rv.get hx
  obtain⟨⟨old,he⟩,hit⟩:=st
  have hT:s.heap.IsList a bn.toArray:=p.isList
  obtain⟨oa,ha,hca,_⟩:=id hT
  obtain⟨oi,hi,hci,_⟩:=id hit
  have nai:a≠it:=fun z=>by
   rw[z,hi]at ha;cases ha
   rw[hci]at hca;injection hca with z;exact absurd z (by decide)
  have nae:a≠e:=fun z=>by
   rw[z,he]at ha;cases ha
   injection hca with z;exact absurd z (by decide)
  have hlt:i<bn.toArray.size:=by
   have:=(ac.mp hu).1
   simpa using this
  refine l7 (Draws.list (A:=X.A.in1) (I.ok.hd hc) it a nai bn.toArray) he ⟨hit,hT⟩ hlt RF (by simp[RF,Ne.symm nae]) fun x' g tk hx' qN bG htup hsz hk=>⟨_,rfl,?_⟩
  have ex:x'=u:=by
   have e1:bn[i]?=some x':=by simpa using hx'
   rw[hu]at e1;exact(aY e1).symm
  subst ex
  refine ky qN fun g2 Vy xz=>?_
  have ui:H s.heap.objs.size=none:=I.hok.fresh (aw _)
  have I1:bz X pins σ (eR H s.heap.objs.size (.tup [.int i,x])) { s with heap:=s.heap.push { cls:=.type "tuple",data:=.seq #[.int i tk,x'] },toks:=tk+1 }:=I.laid (fun b o q=>am _ q) (aw _)
   ⟨by show 2<=sizeLine;decide,[.int i tk,x'],.cons ⟨tk,rfl⟩ (.cons ru .nil),⟨_,aC _ rfl,rfl,_,rfl⟩⟩
  have nf:∀b∈[e,it],b≠s.heap.objs.size:=fun b hb=>by
   have z:b=e\/b=it:=by simpa using hb
   rcases z with rfl|rfl
   ·exact bf (aE he)
   ·exact bf (aE hi)
  have fp:∀b∈[e,it],ny X pins (eR H s.heap.objs.size (.tup [.int i,x])) b:=fun b hb=>by
   obtain⟨f0,f⟩:=hf b hb
   exact⟨by rw[cJ (nf b hb)];exact f0,f⟩
  have he2':IsEnum g2 e it ((i:Int)+1) x':=Vy
  have I2:bz X pins σ (eR H s.heap.objs.size (.tup [.int i,x])) { s with heap:=g2,toks:=tk+1 }:=I1.turned2 (t':=tk+1) (fun b o hbe hbi q=>?_) ⟨_,he2'⟩ (fp e (by simp)) (fp it (by simp))
  ·refine⟨.ref s.heap.objs.size,_,I2,rfl,⟨_,ui,rfl,fun ys y hy hy'=>?_⟩,⟨⟨x',by simpa using he2'⟩,bG.1.extBut xz.extBut (Ne.symm RF)⟩,fun b hb=>(fp b hb).1⟩
   have e1:=I.list_inj hy hq
   subst e1
   rw[hx]at hy';cases hy';rfl
  ·have q':(s.heap.push { cls:=.type "tuple",data:=.seq #[.int i tk,x'] }).get? b=some o:=q
   refine xz.extBut b o hbe ?_
   by_cases hb:b=s.heap.objs.size
   ·subst hb
    have e1:=aC s.heap (o:={ cls:=.type "tuple",data:=.seq #[.int i tk,x'] }) rfl
    rw[e1]at q';cases q'
    exact htup
   ·rw[kY _ _ _ hb]at q'
    exact hk b o hbe hbi q'
 done:=by
  intro X hP hw hK hc i pins s σ H E I hf st hg
  subst hP hw hK
  obtain⟨xs,hq,hx⟩:=hg
  obtain⟨bn,rv,p,hz⟩:=I.list hq
  obtain⟨⟨old,he⟩,hit⟩:=st
  have hT:s.heap.IsList a bn.toArray:=p.isList
  have hl:=rv.length
  have hT':Shared.TypeIs s (.ref e) "enumerate":=⟨_,he,rfl⟩
  unfold pyNext
  refine ae (lj (bS (name:=Str.ofString "__next__") hT' gz (cu gz hT' mP ?_ (l8 _))))
  show wpAny _ _ (field (.ref e) 2 >>= _) _ _ _
  refine ae (cG he rfl (x:=.ref it) rfl (ae (wpAny_nextOf_list_end (show X.A.in1.handled=none from I.ok.hd hc) hit hT (by simp;omega) fun g y hx' hy=>?_)))
  obtain⟨o,ho,lT⟩:=hy
  refine ae (fU (T:="StopIteration") (b:=true) ⟨o,ho,lT⟩ nZ (ao ⟨rfl,?_⟩))
  obtain⟨f0,f1,f2,f3,f4,f5⟩:=hf it (by simp)
  exact I.turned (t':=s.toks) (fun b o hb q=>hx' b o hb q) f0 f1 f3 f4 f5
 self:=fun A i s Q E st h=>let ⟨_,q⟩:=st.1;iN q h
open AutoSeq1 (wpAny_loadPart')
abbrev pV(t:Addr):Obj:={ cls:=.type "list_iterator",data:=.fields #[.ref t,.int 0 0] }
theorem KM(t:Addr)(bn:Array Value)(n:Nat)(dc:Option Addr)(sl:Array (Option Value)) :
  Meets (Builtin.«enumerate.__new__» ⟨[.type "enumerate",.ref t],[]⟩) (fun _ R s=>s.heap.get? t=some { cls:=.type "list",dict:=dc,data:=.seq bn n,slots:=sl } /\
   R (.ok (.ret (.ref (s.heap.push (pV t)).objs.size))) { s with heap:=(s.heap.push (pV t)).push (qt s.heap.objs.size) }):=
 .of_wp fun prog w A R s h=>by
  obtain⟨hp,g,d,tk,os⟩:=s
  obtain⟨ht,h⟩:=h
  have sb:=sub_enumerate
  have hT:Heap.IsList (Shared.heap ⟨hp,g,d,tk,os⟩) t bn:=⟨_,ht,rfl,n,rfl⟩
  wp_walk using bA ht
  refine wpAny_stack_any fun st=>ao ?_
  split
  ·rename_i c _ _ _ _ _
   cases(c==Value.type "enumerate")<;>(wp_walk using bA ht,kW hT;exact⟨_,rfl,h⟩)
  ·wp_walk using bA ht,kW hT
   exact⟨_,rfl,h⟩
section
variable{w:World}
theorem sY{t:Addr}(hT:s.heap.IsList t bn)
  (q:∀g,IsEnum g (s.heap.objs.size+1) s.heap.objs.size 0 .none->g.IsListIter s.heap.objs.size t 0->(∀b o,s.heap.get? b=some o->g.get? b=some o)->Q (.ref (s.heap.objs.size+1)) { s with heap:=g }) :
  wpAny (model prog w) A (call (.type "enumerate") [.ref t]) Q E s:=by
 obtain⟨⟨c,dc,dt,sl⟩,ht,hc,n,hd⟩:=hT
 obtain rfl:c=.type "list":=hc
 obtain rfl:dt=.seq bn n:=hd
 refine qi F.called_enumerate (by decide) (mQ _) (nj _) (fun ob=>F.args_object_init_2 ob _) nn (KM t bn n dc sl) ⟨ht,?_⟩
 have z:(s.heap.push (pV t)).objs.size=s.heap.objs.size+1:=d8 ..
 show _/\_
 rw[z]
 have e1:IsEnum ((s.heap.push (pV t)).push (qt s.heap.objs.size)) (s.heap.objs.size+1) s.heap.objs.size 0 .none:=by
  have y:=aC (s.heap.push (pV t)) (o:=qt s.heap.objs.size) rfl
  rw[z]at y;exact y
 exact⟨⟨_,e1,rfl⟩,q _ e1 ⟨_,am _ (aC _ rfl),rfl,rfl⟩ fun b o y=>am _ (am _ y)⟩
end
section
def WH(K:Frag)(ta:TA):TI:=fun σ H R=>ta σ H fun vs H1=>∃a,vs=[.ref a]/\(∃xs,pD K H1 a xs)/\R (T6 K a) H1
theorem F5{a:Expr}{ta:TA}{p pos tp:Pos}{mF:List Expr}{kk:Nat}(hm:X.mg "enumerate"=none)(ha:QA X [a] ta)(hg:Gl X "enumerate":=by rfl)(hs:starEach [a] X.env=[(false,eval a X.env)]:=by rfl) :
  QI X (.Tuple mF kk tp) (.Call (.Name "enumerate" p) [a] [] pos) (WH X.K ta):=⟨by
 intro pins s σ H R I h
 refine Call_ (lc I hg hm n5 (b_ (fJ (ha.h pos pins s σ H _ I h) fun us s1 ⟨vs,H1,I1,r1,q1⟩=>?_) hs rfl))
 obtain⟨t,e,⟨xs,hq⟩,q⟩:=q1
 subst e
 obtain⟨u,rfl,ru⟩:=jI r1
 cases ru
 obtain⟨bn,rv,pt,hz⟩:=I1.list hq
 refine sY pt.isList fun g e1 e2 kp=>?_
 refine iN e1 ?_
 refine⟨s1.heap.objs.size+1,[s1.heap.objs.size+1,s1.heap.objs.size],_,_,H1,rfl,I1.kept (t':=s1.toks) kp,AD t _ _ (Nat.succ_ne_self _),⟨⟨_,e1⟩,e2⟩,fun b hb=>?_,q⟩
 have z:b=s1.heap.objs.size+1\/b=s1.heap.objs.size:=by simpa using hb
 rcases z with rfl|rfl
 ·exact I1.fpOk (f_ _) (I1.hok.fresh (f_ _))
 ·exact I1.fpOk (aw _) (I1.hok.fresh (aw _))⟩
end
section
variable{a:Expr}{fs:FA}
def mw(fs:FA):FI:=fun ρ st=>(fs ρ st).bind fun ws st=>match ws with
 |[.tup zs]=>.ok (i6 zs,none) st
 |[.loc n]=>(match lstOf st n with
  |some zs=>.ok (i6 zs,some (n,zs)) st
  |none=>.bad)
 |_=>.bad
def Cc(fs:FA):FI:=fun ρ st=>(fs ρ st).bind fun ws st=>match ws with
 |[.loc n]=>(match lstOf st n with
  |some zs=>.ok (i6 zs,some (n,zs)) st
  |none=>.bad)
 |_=>.bad
theorem F6{mF:List Expr}{kk:Nat}{tp:Pos}(hm:X.mg "enumerate"=none)(ha:SA X [a] fs)(hg:Gl X "enumerate":=by rfl)(hs:starEach [a] X.env=[(false,eval a X.env)]:=by rfl) :
  SI X (.Tuple mF kk tp) (.Call (.Name "enumerate" p) [a] [] pos) (Cc fs):=⟨(F5 hm ⟨ha.h⟩ hg hs).h.imp fun σ H R h=>by
 obtain⟨μ,ρ,st,l,h⟩:=h
 refine⟨μ,ρ,st,l,RK.bind h l fun μ1 st1 x v H1 p1 x1 l1 q1 h1=>?_⟩
 split at h1
 ·rename_i n
  obtain⟨y,rfl,ry⟩:=q1.one
  obtain⟨a,ha,rfl⟩:=ry.locE
  cases e1:lstOf st1 n with
  |none=>rw[e1]at h1;exact h1.elim
  |some zs=>
   rw[e1]at h1
   obtain⟨a',vs0,g0,hS0,r0⟩:=l1.sto.lstOf e1
   rw[ha]at g0;cases g0
   refine⟨a,rfl,⟨vs0,hS0⟩,h1 μ1 _ H1 (ah _) dP.refl l1.sto fun i μ' bG H' pp xx S ck=>?_⟩
   obtain⟨a2,vs,g2,hS,r⟩:=S.lstOf (show lstOf bG n=some zs from ck)
   have:μ'[n]?=some a:=pre_get pp ha
   rw[g2]at this;cases this
   refine⟨fun w hw=>?_,fun hl=>⟨vs,hS,by rw[qx]at hl;rw[<- r.len];exact hl⟩⟩
   obtain⟨y,hy,rfl⟩:=lD hw
   obtain⟨v,g1,g3⟩:=r.get hy
   refine⟨⟨vs,v,hS,g1⟩,fun z H'' hz=>?_⟩
   obtain⟨q,hq,rfl,hH⟩:=hz
   have e:=hH vs v hS g1
   subst e
   have ex:=eF.same (K:=X.K) (cx hq (.tup [.int i,v]))
   exact⟨ex,S.same (cx hq _),.tupI eF.new (.consI .int (.consI (g3.mono (ah _) ex) .nilI))⟩
 ·exact h1.elim⟩
theorem F7{mF:List Expr}{kk:Nat}{tp:Pos}(hm:X.mg "enumerate"=none)(ha:SA X [a] fs)(hg:Gl X "enumerate":=by rfl)(hs:starEach [a] X.env=[(false,eval a X.env)]:=by rfl) :
  SI X (.Tuple mF kk tp) (.Call (.Name "enumerate" p) [a] [] pos) (mw fs):=⟨fun pins s σ H Rr I h=>by
 obtain⟨μ,ρ,st,l,h⟩:=h
 cases e1:fs ρ st with
 |bad=>simp only[mw,e1,R.bind_bad]at h;exact h.elim
 |ex c st1=>
  refine(wd hm ha hg hs).h pins s σ H Rr I ⟨μ,ρ,st,l,?_⟩
  simp only[mw,mq,e1,R.bind_ex]at h ⊢;exact h
 |ok ws st1=>
  simp only[mw,e1,R.bind_ok]at h
  split at h
  ·refine(wd hm ha hg hs).h pins s σ H Rr I ⟨μ,ρ,st,l,?_⟩
   simp only[mq,e1,R.bind_ok];exact h
  ·refine(F6 hm ha hg hs).h pins s σ H Rr I ⟨μ,ρ,st,l,?_⟩
   simp only[Cc,e1,R.bind_ok];exact h
  ·exact h.elim⟩
end
section
theorem rd:∀{ys:List Int} {bn:List Value},cv (ys.map V.int) bn->IntsAre bn ys
 |[],_,r=>by cases r;exact .nil
 |y::ys,_,r=>by
  cases r with
  |cons r rr=>
   obtain⟨t,rfl⟩:=r
   exact .cons _ _ (rd rr)
theorem sZ:∀{bn:List Value} {ns:List Int},IntsAre bn ns->cv (ns.map V.int) bn
 |_,_,.nil=>.nil
 |_,_,.cons y t r=>.cons ⟨t,rfl⟩ (sZ r)
theorem DV(l:List Int):RelWs K μ H (l.map W.int) (l.map V.int):=by
 induction l with
 |nil=>exact .nilI
 |cons a r ih=>exact .consI .int ih
def pq(ws:List W)(st:List aj):R W:=match ws with
 |[.loc n]=>pE (lstOf st n) fun zs=>pE (gm zs) fun l=>if l.length<64 then .ok (.loc st.length) (st++[.lst ((sortI l).map W.int)])else .bad
 |_=>.bad
theorem KN:kO X (.builtin "sorted") pq:=⟨fun pins s σ H vs us Q I rv ⟨μ,st,ws,S,r,q⟩=>by
 unfold pq at q
 split at q
 ·rename_i n
  obtain⟨y,rfl,ry⟩:=r.one
  cases e1:lstOf st n with
  |none=>rw[e1]at q;exact q.elim
  |some zs=>
   rw[e1,cL]at q
   cases e2:gm zs with
   |none=>rw[e2]at q;exact q.elim
   |some l=>
    rw[e2,cL]at q
    split at q
    ·rename_i c
     obtain⟨a,vs,g,hS,rz⟩:=S.lstOf e1
     obtain⟨b1,f1,rfl⟩:=ry.locE
     rw[g]at f1;cases f1
     have ev:=nM e2 rz
     subst ev
     obtain⟨u,rfl,ru⟩:=jI rv
     cases ru
     obtain⟨bn,rv',pl,hz⟩:=I.list hS
     have hl:=rv'.length
     rw[ai]at hl
     refine sorted_ints (ns:=l) pl.isList (rd (by simpa using rv')) (by omega) fun out RP h1 h2 h3=>?_
     have en:=PySem.W.eq_sortI h2 h3
     subst en
     obtain⟨ep,hat⟩:=sortedAll_at s.heap bn out
     have ui:H (s.heap.objs.size+1)=none:=I.hok.fresh (f_ _)
     refine⟨.ref (s.heap.objs.size+1),_,I.laid (o:=.lst ((sortI l).map V.int)) (t':=s.toks) (fun b o e=>sortedAll_old e) (f_ _) ?_,rfl,q (μ++[s.heap.objs.size+1]) _ _ (ax _ _) (eF.same (cx ui _)) (S.newLst ui (DV _)) (mj S)⟩
     refine⟨?_,out.toList,ep,sZ h1,hat⟩
     rw[ai,h2.length_eq]
     exact aR (eL c) (by decide)
    ·exact q.elim
 ·exact q.elim,fun ws st=>by
 unfold pq
 split
 ·exact oK fun _=>oK fun _=>by split<;>trivial
 ·trivial⟩
end
section
def qB(ws:List W)(st:List aj):R W:=match ws with
 |[x]=>(match gn st x with
  |some (_,kvs)=>if kvs.length<=ji then .ok (.loc st.length) (st++[.lst (kvs.map fun p=>p.1.w)])else .bad
  |none=>.bad)
 |_=>.bad
theorem vA{P:Program}{w:World}:∀{ks:List f6} {xs:List (f6×Value)} {bn:List Value},ks=xs.map (·.1)->bn.length=ks.length->(∀(j:Nat) (v:Value),bn[j]?=some v->∃(k:f6) (x:Value),xs[j]?=some (k,x)/\(dR P w).is k v=true)->cv (ks.map kV) bn
 |[],_,[],_,_,_=>.nil
 |[],_,_::_,_,hl,_=>nomatch hl
 |_::_,_,[],_,hl,_=>nomatch hl
 |k::ks,[],_,e,_,_=>nomatch e
 |k::ks,p::xs,v::bn,e,hl,h=>by
  cases e
  obtain⟨k',x,e1,e2⟩:=h 0 v rfl
  cases e1
  exact .cons (wq e2) (vA (xs:=xs) rfl (qj hl) fun j v hj=>h (j+1) v hj)
theorem vB:∀(kvs:List (DK×W)),RelWs K μ H (kvs.map fun p=>p.1.w) ((kvs.map fun p=>p.1.key).map kV)
 |[]=>.nilI
 |p::r=>.consI p.1.w_rel (vB r)
theorem Cd:∀{l:List α} {r:List β},l.length=r.length->(l.zip r).map (·.1)=l
 |[],_,_=>rfl
 |_::_,[],h=>nomatch h
 |a::l,b::r,h=>by show a::(l.zip r).map (·.1)=_;rw[Cd (qj h)]
theorem vC:∀{ws:List W} {vs:List V},RelWs K μ H ws vs->ws.length=vs.length
 |[],vs,r=>by
  cases vs with
  |nil=>rfl
  |cons=>unfold RelWs at r;cases r
 |w::ws,vs,r=>by
  obtain⟨x,xs,rfl,_,b⟩:=RelWs.consE r
  simp[vC b]
theorem KO(hc:X.calm=true:=by rfl):kO X (.type "list") qB:=⟨fun pins s σ H vs us Q I rv ⟨μ,st,ws,S,r,q⟩=>by
 unfold qB at q
 split at q
 ·rename_i x
  obtain⟨y,rfl,ry⟩:=r.one
  cases e1:gn st x with
  |none=>rw[e1]at q;exact q.elim
  |some nk=>
   obtain⟨n,kvs⟩:=nk
   rw[e1]at q
   simp only at q
   split at q
   ·rename_i c
    obtain⟨a,zs,_,hm,rfl,ha,rr⟩:=nN S e1 ry
    obtain⟨u,rfl,ru⟩:=jI rv
    cases ru
    obtain⟨hz,hsys,xs,rel,o,es,ep,hdo⟩:=oG I.hok ha
    have dd:s.heap.DictAt (dR X.prog X.w) a xs ep:=⟨o,es,hdo⟩
    have hk:=rel.keys
    have hzl:(kvs.map fun p=>p.1.key).length=zs.length:=by have:=vC rr;simpa using this
    have hkk:(dV kvs zs).map (·.1)=kvs.map fun p=>p.1.key:=Cd hzl
    rw[hkk]at hk
    have hl:xs.length=kvs.length:=by have:=dM List.length hk;simpa using this.symm
    refine PySem.W.kdl_call (PySem.W.kdl_dict hsys) (I.ok.hd hc) dd (by rw[hl,iF];unfold ji at c;omega) fun h' tk acc c' kp hD hacc=>?_
    have ui:H s.heap.objs.size=none:=I.hok.fresh (aw _)
    have hv:cv ((kvs.map fun p=>p.1.key).map kV) acc.toList:=vA (P:=X.prog) (w:=X.w) hk (by rw[eJ,hacc.1];simpa using hl) fun j v e=>hacc.2 j v (by rw[<- ni];exact e)
    refine⟨.ref s.heap.objs.size,_,I.laid (o:=.lst ((kvs.map fun p=>p.1.key).map kV)) (t':=tk) kp (aw _) ?_,rfl,q (μ++[s.heap.objs.size]) _ _ (ax _ _) (eF.same (cx ui _)) (S.newLst ui (vB _)) (mj S)⟩
    refine⟨?_,acc.toList,c',hv,?_⟩
    ·rw[ai,ai,iF];unfold ji at c;omega
    ·rw[Array.toArray_toList];exact hD
   ·exact q.elim
 ·exact q.elim,fun ws st=>by
 unfold qB
 repeat' split
 all_goals trivial⟩
end
section
def WI(X:Cx)(id:String)(x y:V)(H:Hp)(Q:VK):Prop:=∃a,x=.ref a/\∀(pins:List (Addr×Obj)) (σ:St) (s:Shared) (u:Value) (E:Value->Shared->Prop) (Qv:Value->Shared->Prop),bz X pins σ H s->bL y u ->
 (∀v w' H' s',bz X pins σ H' s'->bL v w'->Q v H'->Qv w' s')->wpAny (model X.prog X.w) X.A (call (.builtin id) [.ref a,u]) Qv E s
def KP(X:Cx)(id:String)(td ty:TE):TE:=fun σ H Q=>td σ H fun x H1=>WG X x H1/\ty σ H1 fun y H2=>WI X id x y H2 Q
theorem F8{td ty:TE}(ho:PE X o td)(he:PE X e ty)(m:M1 X o "get" eV e cS):PE X (.Call (.Attribute o "get" eV) [e] [] cS) (KP X "dict.get" td ty):=by
 intro pins s σ H Q I h
 refine kX m.base m.few m.line PySem.F.plainAttrs_dict PySem.F.slot_dict_get PySem.F.type_dict_get (fJ (ho pins s σ H _ I h) fun u s1 ⟨x,H1,I1,rx,⟨a,ex,d⟩,q1⟩=>?_)
 subst ex
 obtain rfl:u=Value.ref a:=rx
 obtain⟨t1,t2⟩:=d pins σ s1 I1
 refine⟨t1,t2,?_⟩
 rw[m.trees]
 refine eN rfl (gO (gi (fJ (he pins s1 σ H1 _ I1 q1) fun iv s2 ⟨y,H2,I2,ry,a',ea,g⟩=>iI ?_)))
 cases ea
 exact g pins σ s2 iv _ _ I2 ry fun v w' H' s4 I4 jp q3=>⟨v,H',I4,jp,q3⟩
def s_(fo fk:FE):FE:=fun ρ st=>(fo ρ st).bind fun x st=>match dL st x with
 |some _=>(fk ρ st).bind fun y st=>(match dL st x,kg y with
  |some (_,kvs),some k=>if um kvs k=true then .ok ((dS kvs k).getD .non) st else .bad
  |_,_=>.bad)
 |none=>.bad
theorem KQ(hr:gT kk X.A)(ho:SE X o fo)(he:SE X e fe)(m:M1 X o "get" eV e cS:=by exact⟨by rfl,by rfl,by rfl,by rfl⟩):SE X (.Call (.Attribute o "get" eV) [e] [] cS) (s_ fo fe):=⟨(F8 ho.h he.h m).imp fun σ H Q h=>by
 obtain⟨μ,ρ,st,l,h⟩:=h
 refine⟨μ,ρ,st,l,RK.bind h l fun μ1 st1 x v H1 p1 x1 l1 q1 h1=>?_⟩
 cases e0:dL st1 x with
 |none=>rw[e0]at h1;exact h1.elim
 |some nk0=>
  rw[e0]at h1
  simp only at h1
  obtain⟨a0,ea0,_⟩:=sX l1.sto e0 q1
  refine⟨sX l1.sto e0 q1,μ1,ρ,st1,l1,RK.bind h1 l1 fun μ3 ju y t H3 p3 x3 l3 q3 h3=>?_⟩
  cases e1:dL ju x with
  |none=>rw[e1]at h3;exact h3.elim
  |some nk=>
   obtain⟨n,kvs⟩:=nk
   cases e2:kg y with
   |none=>rw[e1,e2]at h3;exact h3.elim
   |some k=>
    rw[e1,e2]at h3
    simp only at h3
    by_cases hx:um kvs k=true
    ·rw[ar hx]at h3
     have:=sV e2
     subst this
     refine⟨a0,ea0,fun pins σ s iv E Qv I ry hq=>?_⟩
     obtain⟨a',es,ea,D⟩:=kh I l3.sto e1 (q1.mono p3 x3)
     rw[ea0]at ea
     cases ea
     refine yv I D hx q3 ry fun K inst G z b xs hk hv hb xC xd vw=>?_
     subst hk;subst hb
     refine jY PySem.F.slot_dict_get (lF D) PySem.F.entry_dict_get (PySem.F.args_dict_get_2 _ _) (meetsH_dict_get G.knd a0 b xd.sm) ⟨G.room (by have:=hr.units;omega),z,xs,xC,yr xd.d xd.is xd.nd,?_⟩
     rcases mv z vw with⟨w,p,v',g1,g2,g3,g4⟩|⟨g1,g2⟩
     ·rw[g1]at h3
      rw[g2]
      exact hq v' _ _ _ (I.tok _) g4 (h3 μ3 v' H3 (ah _) dP.refl l3.sto g3)
     ·rw[g1]at h3
      rw[g2]
      exact hq .non _ _ _ (I.tok _) rfl (h3 μ3 .non H3 (ah _) dP.refl l3.sto .non)
    ·rw[az hx]at h3;exact h3.elim⟩
end
theorem dH(st x:List aj)(k:Nat):(st++x)[st.length+k]?=x[k]?:=by rw[cn (by omega)];congr 1;omega
theorem bN(st x:List aj):(st++x)[st.length]?=x[0]?:=dH st x 0
theorem gH(st x:List aj)(k:Nat)(c:aj):(st++x).set (st.length+k) c=st++x.set k c:=by rw[gB _ _ (by omega)];congr 2;omega
theorem dO(st x:List aj)(c:aj):(st++x).set st.length c=st++x.set 0 c:=gH st x 0 c
theorem aG{x:List aj}{c:aj}(h:st[n]?=some c):(st++x)[n]?=some c:=by
 rw[aq (ac.mp h).1];exact h
theorem AE(st:List aj)(ws:List W):kP st st ws=st:=by unfold kP;split<;>simp
theorem DW{x:List aj}(h:undWs st.length ws=true):kP st (st++x) ws=st:=by
 unfold kP
 rw[ar ⟨h,by simp,fun i hi=>.inl (aq hi)⟩]
 simp
theorem DY(h:undWs st.length ws=false):kP st bG ws=bG:=by
 unfold kP
 rw[az fun k=>by have:=k.1;rw[h]at this;cases this]
theorem rP{w:W}(h:body (ws.map some++List.replicate (N-ws.length) none) st=.rt w bG):dq N body ws st=.ok w (kP st bG [w]):=by
 unfold dq;rw[h]
theorem ol{w:W}(h:body (ws.map some++List.replicate (N-ws.length) none) st=.rt w st):dq N body ws st=.ok w st:=by
 rw[rP h,AE]
theorem yx{x:List aj}{w:W}(h:body (ws.map some++List.replicate (N-ws.length) none) st=.rt w (st++x))(hu:undWs st.length [w]=true):dq N body ws st=.ok w st:=by
 rw[rP h,DW hu]
theorem pW{N:Nat}{body:FS}{ws:List W}{x:List aj}{k:Nat}(h:body (ws.map some++List.replicate (N-ws.length) none) st=.rt (.loc (st.length+k)) (st++x)):dq N body ws st=.ok (.loc (st.length+k)) (st++x):=by
 rw[rP h,DY (by simp[undWs,W.und])]
theorem wB{g g':FS}{ρ':bY}(h:g ρ st=.nx ρ' bG):aL g g' ρ st=g' ρ' bG:=by unfold aL;rw[h]
theorem Ce{f:FG}{k:DH}(h:fi ρ st=.ok k bG):fC fi f body ρ st=sC f body k.2 k.1 ρ bG:=by unfold fC;rw[h];rfl
theorem tf{f:FG}{body:FS}{ck:Option (Nat×List W)}(I:Nat->bY->List aj->Prop):∀{ws:List W} {ρ:bY} {st:List aj} (i0:Nat),I i0 ρ st->(∀i ρ st,I i ρ st->j7 st ck) ->
  (∀i w ρ st,ws[i]?=some w->I (i0+i) ρ st->∃ρ' ρ2 cV,f w ρ=some ρ'/\body ρ' st=.nx ρ2 cV/\I (i0+i+1) ρ2 cV) ->
  ∃ρ2 cV,sC f body ck ws ρ st=.nx ρ2 cV/\I (i0+ws.length) ρ2 cV
 |[],ρ,st,i0,h0,hc,hs=>⟨ρ,st,by unfold sC;rw[ar (hc _ _ _ h0)],h0⟩
 |w::ws,ρ,st,i0,h0,hc,hs=>by
  obtain⟨ρ',ρ2,cV,e1,e2,h1⟩:=hs 0 w ρ st rfl h0
  obtain⟨ρ3,ju,e3,h3⟩:=tf I (ws:=ws) (ρ:=ρ2) (st:=cV) (i0+1) h1 hc fun i w ρ st hw hI=>by
   obtain⟨a,b,c,d,e,g⟩:=hs (i+1) w ρ st (by simpa using hw) (by rw[show i0+(i+1)=i0+1+i by omega];exact hI)
   exact⟨a,b,c,d,e,by rw[show i0+1+i+1=i0+(i+1)+1 by omega];exact g⟩
  refine⟨ρ3,ju,?_,by rw[bv,show i0+(ws.length+1)=i0+1+ws.length by omega];exact h3⟩
  unfold sC
  rw[ar (hc _ _ _ h0),e1]
  simp only[e2]
  exact e3
theorem DZ{t:FT}{g:FS}(I:Nat->bY->List aj->Prop):∀(n:Nat) {ρ:bY} {st:List aj},I n ρ st ->
  (∀n ρ st,I n ρ st->t ρ st=.ok false st\/(t ρ st=.ok true st/\∃ρ2 cV m,g ρ st=.nx ρ2 cV/\m<n/\I m ρ2 cV)) ->
  ∃m ρ2 cV,j8 t g ρ st=.nx ρ2 cV/\I m ρ2 cV/\t ρ2 cV=.ok false cV:=by
 intro n ρ st h hs
 have key:∀(k n:Nat) (ρ:bY) (st:List aj),n<k->I n ρ st->∃m ρ2 cV,fP t g k ρ st=.nx ρ2 cV/\I m ρ2 cV/\t ρ2 cV=.ok false cV:=by
  intro k
  induction k with
  |zero=>intro n _ _ h;exact absurd h (cO _)
  |succ k ih=>
   intro n ρ st hk hI
   rcases hs n ρ st hI with e|⟨e,ρ2,cV,m,e2,hm,h2⟩
   ·exact⟨n,ρ,st,by unfold fP;rw[e];rfl,hI,e⟩
   ·obtain⟨m',ρ3,ju,e3,h3⟩:=ih m ρ2 cV (by omega) h2
    exact⟨m',ρ3,ju,by unfold fP;rw[e];simp only[R.stmt_ok,dC,e2];exact e3,h3⟩
 obtain⟨m,ρ2,cV,e,h2⟩:=key (n+1) n ρ st (lZ n) h
 exact⟨m,ρ2,cV,DI e (by simp),h2⟩
section
variable{ρ':bY}{cV ju LI:List aj}{fi:FE}{fs:FA}{t u:FT}{x y z w v:W}{xs zs:List W}{a b k:Bool}{g g':FS}
theorem eZ(h:ρ[i]?=some (some w)):af i ρ st=.ok w st:=by unfold af;rw[h]
theorem cK:eC w ρ st=.ok w st:=rfl
theorem bd{f:W->W->List aj->R W}(h1:fa ρ st=.ok x st1)(h2:fb ρ st1=.ok y cV)(h3:f x y cV=.ok z ju):e2 f fa fb ρ st=.ok z ju:=by unfold e2;rw[h1];simp only[R.bind_ok];rw[h2];exact h3
theorem bb:av ρ st=.ok [] st:=rfl
theorem al(h1:fa ρ st=.ok x st1)(h2:fs ρ st1=.ok xs cV):ag fa fs ρ st=.ok (x::xs) cV:=by unfold ag;rw[h1];simp only[R.bind_ok];rw[h2];rfl
theorem PY:Tp ls ρ st=.ok (ls.map W.str) st:=rfl
theorem d_(h1:fs ρ st=.ok ws st1)(h2:ws.length<=ji):cP fs ρ st=.ok (.tup ws) st1:=by unfold cP;rw[h1];simp only[R.bind_ok,nH];rw[ar h2]
theorem vE(h1:fs ρ st=.ok ws st1)(h2:ws.length<=ji):kG fs ρ st=.ok (.loc st1.length) (st1++[.lst ws]):=by unfold kG;rw[h1];simp only[R.bind_ok,nI];rw[ar h2]
theorem be(h1:fs ρ st=.ok ws st1)(h2:F ws st1=.ok w cV):bc F fs ρ st=.ok w cV:=by unfold bc;rw[h1];exact h2
theorem bU(h1:fs ρ st=.ok ws st1)(h2:F ws st1=.ok w cV)(hn:ws.length=n):ca n F fs ρ st=.ok w cV:=by unfold ca;rw[h1];simp only[R.bind_ok];rw[ar hn];exact h2
theorem bQ(h:fa ρ st=.ok (.bl k) st1):fq fa ρ st=.ok k st1:=by unfold fq;rw[h];rfl
theorem my(h1:t ρ st=.ok true st1)(h2:u ρ st1=.ok k cV):LS t u ρ st=.ok k cV:=by unfold LS;rw[h1];exact h2
theorem rQ(h1:t ρ st=.ok false st1):LS t u ρ st=.ok false st1:=by unfold LS;rw[h1];rfl
theorem eK(h1:t ρ st=.ok false st1)(h2:u ρ st1=.ok k cV):xA t u ρ st=.ok k cV:=by unfold xA;rw[h1];exact h2
theorem wC(h1:t ρ st=.ok true st1):xA t u ρ st=.ok true st1:=by unfold xA;rw[h1];rfl
theorem pX(h1:t ρ st=.ok a st1)(h2:(!a)=k):xX t ρ st=.ok k st1:=by unfold xX;rw[h1,<- h2];rfl
theorem wD(h1:fa ρ st=.ok (.bl true) st1)(h2:fb ρ st1=.ok w cV):wa fa fb ρ st=.ok w cV:=by unfold wa;rw[h1];exact h2
theorem L9(h1:fa ρ st=.ok (.bl a) st1)(h2:(!a)=k):Fa fa ρ st=.ok (.bl k) st1:=by unfold Fa;rw[h1,<- h2];rfl
theorem vF(h1:t ρ st=.ok true st1)(h2:fa ρ st1=.ok w cV):J9 t fa fb ρ st=.ok w cV:=by unfold J9;rw[h1];exact h2
theorem vG(h1:t ρ st=.ok false st1)(h2:fb ρ st1=.ok w cV):J9 t fa fb ρ st=.ok w cV:=by unfold J9;rw[h1];exact h2
theorem jS{F:W->List W->List aj->R W}(h1:fo ρ st=.ok x st1)(hl:oM st1 x=true)(h2:fs ρ st1=.ok ws cV)(h3:F x ws cV=.ok w ju):nv F fo fs ρ st=.ok w ju:=by unfold nv;rw[h1];simp only[R.bind_ok];rw[ar hl,h2];exact h3
theorem PZ{F:W->List W->List aj->R W}(h1:fo ρ st=.ok x st1)(hl:Fq x=true)(h2:fs ρ st1=.ok ws cV)(h3:F x ws cV=.ok w ju):L4 F fo fs ρ st=.ok w ju:=by unfold L4;rw[h1];simp only[R.bind_ok];rw[ar hl,h2];exact h3
theorem dy(h:st[n]?=some (.lst ws)):oM st (.loc n)=true:=by simp only[oM,h]
theorem yy(h:fa ρ st=.ok (.int q) st1):Ao fa ρ st=.ok (.int (-q)) st1:=by unfold Ao;rw[h];rfl
theorem L_{T c:String}(h:fa ρ st=.ok x st1)(hx:x.ty=some c)(hk:Kp c T=k):oE T fa ρ st=.ok (.bl k) st1:=by unfold oE;rw[h];simp only[R.bind_ok,hx,hk]
theorem Cf(h:fa ρ st=.ok x st1)(hk:x.isNon=k):uD fa ρ st=.ok (.bl k) st1:=by unfold uD;rw[h,<- hk];rfl
theorem P0(h:fa ρ st=.ok x st1)(hk:(!x.isNon)=k):LV fa ρ st=.ok (.bl k) st1:=by unfold LV;rw[h,<- hk];rfl
theorem F9:qX ρ st=.ok none st:=rfl
theorem wE(h:fa ρ st=.ok (.int q) st1):lA fa ρ st=.ok (some q) st1:=by unfold lA;rw[h];rfl
theorem AF{fl fh:FO}{l h:Option Int}(h1:fa ρ st=.ok x st1)(h2:fl ρ st1=.ok l cV)(h3:fh ρ cV=.ok h ju)(h4:BN x l h ju=.ok w LI):Fi fa fl fh ρ st=.ok w LI:=by unfold Fi;rw[h1];simp only[R.bind_ok];rw[h2];simp only[R.bind_ok];rw[h3];exact h4
theorem bu(h:fe ρ st=.ok w st1):bp i fe ρ st=.nx (ρ.set i (some w)) st1:=by unfold bp;rw[h];rfl
theorem fw(h:fe ρ st=.ok w st1):eG fe ρ st=.nx ρ st1:=by unfold eG;rw[h];rfl
theorem kR(h:fe ρ st=.ok w st1):cA fe ρ st=.rt w st1:=by unfold cA;rw[h];rfl
theorem lG{f:W->W->W->List aj->Option (List aj)}(h1:fe ρ st=.ok v st1)(h2:fo ρ st1=.ok x cV)(h3:fi ρ cV=.ok y ju)(h4:f x y v ju=some LI):lB fo fi fe f ρ st=.nx ρ LI:=by
 unfold lB;rw[h1];simp only[R.stmt_ok];rw[h2];simp only[R.stmt_ok];rw[h3];simp only[R.stmt_ok];rw[h4]
theorem tj{r:RS}(h1:t ρ st=.ok true st1)(h2:g ρ st1=r):i5 t g g' ρ st=r:=by unfold i5;rw[h1];exact h2
theorem tq{r:RS}(h1:t ρ st=.ok false st1)(h2:g' ρ st1=r):i5 t g g' ρ st=r:=by unfold i5;rw[h1];exact h2
theorem AG:cQ ρ st=.nx ρ st:=rfl
theorem L'{r:RS}(h:g ρ st=.nx ρ' st1)(h2:g' ρ' st1=r):aL g g' ρ st=r:=by rw[wB h];exact h2
theorem F_(h:g ρ st=.rt w st1):aL g g' ρ st=.rt w st1:=by unfold aL;rw[h]
theorem e7{p:Int}:dE (.int p) (.int q) st=.ok (.int (p+q)) st:=rfl
theorem F'{p q:List Nat}(h:p.length+q.length<=ji):dE (.str p) (.str q) st=.ok (.str (p++q)) st:=by simp only[dE];rw[ar h]
theorem Ga(h1:st[n]?=some (.lst ws))(h2:st[m]?=some (.lst xs))(h:(ws++xs).length<=ji):dE (.loc n) (.loc m) st=.ok (.loc st.length) (st++[.lst (ws++xs)]):=by
 unfold dE;simp only[h1,h2,nI];rw[ar h]
theorem jT{C:Int->Int->Prop}[∀i j,Decidable (C i j)]{f:Int->Int->Int}{p:Int}(h:C p q):DC C f (.int p) (.int q) st=.ok (.int (f p q)) st:=by simp only[DC];rw[ar h]
theorem nQ{p:Int}(h:x5 p q):gY (.int p) (.int q) st=.ok (.int (p*q)) st:=by simp only[gY];rw[ar h]
theorem hV{f:Int->Int->Bool}{p:Int}(h:f p q=k):DD f (.int p) (.int q) st=.ok (.bl k) st:=by rw[<- h];rfl
theorem Gb{p:Int}(h:decide (p<=q)=k):Ap (.int p) (.int q) st=.ok (.bl k) st:=by rw[<- h];rfl
theorem i7{p:Int}(h:(p==q)=k):lw (.int p) (.int q) st=.ok (.bl k) st:=by rw[<- h];rfl
theorem Gc{p:Int}(h:(!(p==q))=k):Aj (.int p) (.int q) st=.ok (.bl k) st:=by rw[<- h];rfl
theorem T7{p q:List Nat}(h:(p==q)=k):lw (.str p) (.str q) st=.ok (.bl k) st:=by rw[<- h];rfl
theorem gI(h:pG ws q=some w):bg (.tup ws) (.int q) st=.ok w st:=by unfold bg;simp only[h,cL]
theorem kv(h:ρ[i]?=some (some w):=by rfl):af i ρ st=.ok w st:=eZ h
theorem ox(h:pG ws q=some w:=by rfl):bg (.tup ws) (.int q) st=.ok w st:=gI h
theorem kn(h:ρ[i]?=some (some w):=by rfl):ag (af i) av ρ st=.ok [w] st:=al (eZ h) bb
theorem kx{q:Int}(h:ρ[i]?=some (some (.tup ws)):=by rfl)(h2:pG ws q=some w:=by rfl):e2 bg (af i) (eC (.int q)) ρ st=.ok w st:=bd (eZ h) cK (gI h2)
theorem Gd{c:Nat}(hl:l.length<=ji)(h:pG l q=some c):bg (.str l) (.int q) st=.ok (.str [c]) st:=by unfold bg;simp only[h,cL];rw[ar hl]
theorem kS(hl:lstOf st n=some ws)(h:pG ws q=some w):bg (.loc n) (.int q) st=.ok w st:=by unfold bg;simp only[hl,h,cL]
theorem jx:cW [.tup ws] st=.ok (.int ws.length) st:=rfl
theorem tu(h:l.length<=ji):cW [.str l] st=.ok (.int l.length) st:=by unfold cW;simp only;rw[ar h]
theorem io(hl:lstOf st n=some ws):cW [.loc n] st=.ok (.int ws.length) st:=by unfold cW;simp only[hl,cL]
theorem aM(h:st[n]?=some (.lst ws)):lstOf st n=some ws:=by unfold lstOf;rw[h]
theorem rR(h:st[n]?=some (.ro ws)):lstOf st n=some ws:=by unfold lstOf;rw[h]
theorem pY(h:st[n]?=some (.lst ws))(hl:ws.length<ji):cM (.loc n) [y] st=.ok .non (st.set n (.lst (ws++[y]))):=by unfold cM;simp only[h];rw[ar hl]
theorem Ge(h:st[n]?=some (.lst (ws++[y]))):qw (.loc n) [] st=.ok y (st.set n (.lst ws)):=by unfold qw;simp only[h];simp
theorem P1(h:st[n]?=some (.lst ws))(hi:Bx ws.length q=some j):qY (.loc n) (.int q) v st=some (st.set n (.lst (ws.set j v))):=by unfold qY;simp only[h,hi];rfl
theorem Gf{sep:List Nat}(h:lstOf st n=some (ls.map W.str))(hl:(ls.map List.length).sum+ls.length*sep.length<=ji):oN (.str sep) [.loc n] st=.ok (.str (oJ sep ls)) st:=by
 unfold oN;simp only[h,cL,vm];rw[ar hl]
theorem Cg{l h:Option Int}(hl:lstOf st n=some ws):BN (.loc n) l h st=.ok (.loc st.length) (st++[.lst (kH ws l h)]):=by unfold BN;simp only[hl,cL]
theorem T9{l h:Option Int}{z:List Nat}(hl:z.length<=ji):BN (.str z) l h st=.ok (.str (kH z l h)) st:=by unfold BN;simp only;rw[ar hl]
theorem T_{l h:Option Int}:BN (.tup ws) l h st=.ok (.tup (kH ws l h)) st:=rfl
theorem jU(h:fe ρ st=.ok (.tup ws) st1):cF fe ρ st=.ok (ws,none) st1:=by unfold cF;rw[h];rfl
theorem fM(h:fe ρ st=.ok (.loc n) st1)(hl:lstOf st1 n=some ws):cF fe ρ st=.ok (ws,some (n,ws)) st1:=by unfold cF;rw[h];simp only[R.bind_ok,hl]
theorem fD(h:fs ρ st=.ok [.int q] st1)(hq:-(2^62)<=q/\q<2^62):bJ fs ρ st=.ok (cB 0 q.toNat,none) st1:=by unfold bJ;rw[h];simp only[R.bind_ok];rw[ar hq]
theorem wF{l:List W}{q:Nat}(h:l.reverse[q]?=some x):pG l (-((q:Int)+1))=some x:=by
 have hq:q<l.length:=by have:=(ac.mp h).1;simpa using this
 unfold pG Bx
 rw[az (by omega),ar (by omega)]
 rw[nr hq]at h
 simp only[Option.bind_some]
 rw[show((-((q:Int)+1))+(l.length:Int)).toNat=l.length-1-q by omega]
 exact h
theorem dm{l:List α}{q:Nat}{x:α}(h:l[q]?=some x):pG l (q:Int)=some x:=by
 have hq:q<l.length:=(ac.mp h).1
 unfold pG Bx
 rw[ar (by omega),ar (by omega)]
 simpa using h
def gJ(P:RS->Prop)(r:RS):Prop:=P r
def Gg(I:bY->List aj->Prop):RS->Prop:=fun r=>∃ρ st,r=.nx ρ st/\I ρ st
def rD(I:W->List aj->Prop):RS->Prop:=fun r=>∃w st,r=.rt w st/\I w st
variable{P:RS->Prop}{de:FS}
theorem dz{r r':RS}(h:r=r')(h2:P r'):gJ P r:=by rw[h];exact h2
theorem au(h:g ρ st=.nx ρ' st1)(h2:gJ P (g' ρ' st1)):gJ P (aL g g' ρ st):=by rw[wB h];exact h2
theorem lH(h1:t ρ st=.ok true st1)(h2:gJ P (g ρ st1)):gJ P (i5 t g g' ρ st):=by rw[tj h1 rfl];exact h2
theorem iB(h1:t ρ st=.ok false st1)(h2:gJ P (g' ρ st1)):gJ P (i5 t g g' ρ st):=by rw[tq h1 rfl];exact h2
theorem fQ(h1:t ρ st=.ok true st1)(h2:gJ P (aL g de ρ st1)):gJ P (aL (i5 t g g') de ρ st):=by
 unfold aL at h2 ⊢;rw[tj h1 rfl];exact h2
theorem cf(h1:t ρ st=.ok false st1)(h2:gJ P (aL g' de ρ st1)):gJ P (aL (i5 t g g') de ρ st):=by
 unfold aL at h2 ⊢;rw[tq h1 rfl];exact h2
theorem j3{h:FS}(h2:gJ P (aL g (aL g' h) ρ st)):gJ P (aL (aL g g') h ρ st):=by
 unfold aL at h2 ⊢
 cases e:g ρ st<;>simp only[e]at h2 ⊢ <;> exact h2
theorem cX(h2:gJ P (de ρ st)):gJ P (aL cQ de ρ st):=h2
theorem b9(h:fe ρ st=.ok w st1)(h2:P (.rt w st1)):gJ P (cA fe ρ st):=by rw[kR h];exact h2
theorem f7(h:fe ρ st=.ok w st1)(h2:P (.rt w st1)):gJ P (aL (cA fe) de ρ st):=by rw[F_ (kR h)];exact h2
theorem cR{fi:FI}{f:FG}{k:DH}(I:Nat->bY->List aj->Prop)(h:fi ρ st=.ok k st1)(h0:I 0 ρ st1)(hc:∀i ρ st,I i ρ st->j7 st k.2)
  (hs:∀i w ρ st,k.1[i]?=some w->I i ρ st->∃ρ',f w ρ=some ρ'/\gJ (Gg (I (i+1))) (body ρ' st)) (he:∀ρ st,I k.1.length ρ st->gJ P (de ρ st)):gJ P (aL (fC fi f body) de ρ st):=by
 obtain⟨ρ2,cV,e,h2⟩:=tf (f:=f) (body:=body) (ck:=k.2) I (ws:=k.1) (ρ:=ρ) (st:=st1) 0 h0 hc fun i w ρ st hw hI=>by
  rw[eO]at hI ⊢
  obtain⟨ρ',e1,ρ2,cV,e2,h2⟩:=hs i w ρ st hw hI
  exact⟨ρ',ρ2,cV,e1,e2,h2⟩
 rw[eO]at h2
 exact au (by rw[Ce h];exact e) (he _ _ h2)
theorem lI(I:Nat->bY->List aj->Prop)(n:Nat)(h0:I n ρ st)
  (hs:∀n ρ st,I n ρ st->t ρ st=.ok false st\/(t ρ st=.ok true st/\gJ (Gg fun ρ2 cV=>∃m,m<n/\I m ρ2 cV) (body ρ st))) (he:∀m ρ st,I m ρ st->t ρ st=.ok false st->gJ P (de ρ st)):gJ P (aL (j8 t body) de ρ st):=by
 obtain⟨m,ρ2,cV,e,h2,h3⟩:=DZ (t:=t) (g:=body) I n h0 fun n ρ st hI=>by
  rcases hs n ρ st hI with e|⟨e,ρ2,cV,e2,m,hm,h2⟩
  ·exact .inl e
  ·exact .inr ⟨e,ρ2,cV,m,e2,hm,h2⟩
 exact au e (he _ _ _ h2 h3)
theorem kT{Q:W->Prop}(h:gJ (rD fun w bG=>(∃x,bG=st++x)/\undWs st.length [w]=true/\Q w) (body (ws.map some++List.replicate (N-ws.length) none) st)):∃w,Q w/\dq N body ws st=.ok w st:=by
 obtain⟨w,bG,e,⟨x,rfl⟩,hu,q⟩:=h
 exact⟨w,q,yx e hu⟩
theorem ip{N:Nat}{body:FS}(h:gJ (rD fun w' bG=>w'=w/\∃x,bG=st++x) (body (ws.map some++List.replicate (N-ws.length) none) st))(hu:undWs st.length [w]=true):dq N body ws st=.ok w st:=by
 obtain⟨w,bG,e,rfl,x,rfl⟩:=h
 exact yx e hu
theorem jl{Q:Nat->List aj->Prop}(h:gJ (rD fun w bG=>∃j x,w=.loc (st.length+j)/\bG=st++x/\Q j x) (body (ws.map some++List.replicate (N-ws.length) none) st)):∃j x,Q j x/\dq N body ws st=.ok (.loc (st.length+j)) (st++x):=by
 obtain⟨w,bG,e,j,x,rfl,rfl,q⟩:=h
 exact⟨j,x,q,pW e⟩
theorem gW{q:Nat}{lo:Int}(h:(cB lo q)[i]?=some w):i<q/\w=.int (lo+i):=by
 unfold cB at h
 obtain⟨h1,h2⟩:=ac.mp h
 simp only[ai,c_]at h1
 exact⟨h1,by rw[<- h2];simp⟩
theorem rS{l:List α}{q:Nat}(h:q<=l.length):kH l none (some (q:Int))=l.take q:=by
 unfold kH;rw[HT.sIx_none,HT.sIx_nat,jG h];simp
theorem rT{l:List α}{q:Nat}(h:q<=l.length):kH l (some (q:Int)) none=l.drop q:=by
 unfold kH;rw[HT.sIx_none,HT.sIx_nat,jG h];rw[bZ (by simp)]
theorem ia{q:Int}{n:Nat}(h:0<n):∃m:Nat,m<n/\q%(n:Int)=m:=by
 have h0:0<=q%(n:Int):=gv _ (by omega)
 have h1:q%(n:Int)<n:=iz _ (by omega)
 exact⟨(q%(n:Int)).toNat,by omega,by omega⟩
end
section
variable{t u:FT}{a b k:Bool}{P:RS->Prop}{g g' de:FS}{w:W}
theorem P2(h1:t ρ st=.ok a st)(h2:u ρ st=.ok b st):LS t u ρ st=.ok (a&&b) st:=by cases a;exact rQ h1;exact my h1 h2
theorem P3(h1:t ρ st=.ok a st)(h2:u ρ st=.ok b st):xA t u ρ st=.ok (a||b) st:=by cases a;exact eK h1 h2;exact wC h1
theorem P4(h1:t ρ st=.ok a st):xX t ρ st=.ok (!a) st:=pX h1 rfl
theorem fx(h:gJ (rD fun w' bG=>w'=w/\bG=st) (body (ws.map some++List.replicate (N-ws.length) none) st)):dq N body ws st=.ok w st:=by
 obtain⟨w,bG,e,rfl,rfl⟩:=h
 exact ol e
end
end L2
open L2
local macro_rules | `(tactic| walk_at "ev1") => `(tactic| first
 | (with_reducible apply eZ) <;> rfl
 | (with_reducible apply gI) <;> rfl
 | with_reducible first
  | exact cK | exact bb | exact PY | exact F9 | exact e7 | exact jx | exact AG | exact T_
  | apply bd | apply al | apply d_ | apply vE | apply be | apply bU | apply bQ | apply pX | apply L9
  | apply jS | apply PZ | apply yy | apply L_ | apply Cf | apply P0 | apply wE | apply AF | apply bu | apply fw | apply kR | apply lG
  | apply jT | apply nQ | apply hV | apply Gb | apply i7 | apply Gc | apply T7 | apply F'
 | decide
 | (show List.length _ <= ji; exact bF rfl)
 | (show @Eq Nat _ _; exact rfl)
 | (show @Eq Bool _ _; exact rfl)
 | (show @Eq (Option String) _ _; exact rfl)
 | (show @Eq _ _ _; with_reducible assumption))
local macro_rules | `(tactic| walk_at "evs") => `(tactic| repeat' walk_at "ev1")
local macro_rules | `(tactic| walk_at "tst") => `(tactic| first
 | (walk_at "evs"; done)
 | (apply rQ; (focus walk_at "tst"); done)
 | (apply my; (focus walk_at "tst"); (focus walk_at "tst"); done)
 | (apply wC; (focus walk_at "tst"); done)
 | (apply eK; (focus walk_at "tst"); (focus walk_at "tst"); done))
local macro_rules | `(tactic| walk_at "go1") => `(tactic| first
 | apply cX
 | (apply f7; (focus (walk_at "evs"; done)))
 | (apply b9; (focus (walk_at "evs"; done)))
 | (apply fQ; (focus walk_at "tst"))
 | (apply cf; (focus walk_at "tst"))
 | (apply lH; (focus walk_at "tst"))
 | (apply iB; (focus walk_at "tst"))
 | (apply au; (focus (walk_at "evs"; done))))
local macro_rules | `(tactic| walk_at "go") => `(tactic| repeat walk_at "go1")
local macro_rules | `(tactic| walk_at "tb") => `(tactic| repeat' (first | with_reducible apply P2 | with_reducible apply P3 | with_reducible apply P4 | walk_at "ev1"))
local macro_rules | `(tactic| walk_at "len") => `(tactic| (simp only [aB, bv, dg]; show _ <= 1000000; omega))
namespace L2
open PySem PySem.Spec PyProof.Rows
section
variable{ρ' ρ2:bY}{cV:List aj}{fs:FA}{g gh de:FS}{w:W}{c:Str}{cs:List Str}{P:RS->Prop}{b:Bool}
theorem T'{p q:Bool}(h:(p==q)=b):lw (.bl p) (.bl q) st=.ok (.bl b) st:=by rw[<- h];rfl
theorem Gh{zs:List W}{k:Nat}{y:W}(h:st[n]?=some (.lst zs))(hk:k<=zs.length)(hl:zs.length<ji)(Jo:k<1000000):og (.loc n) [.int k,y] st=.ok .non (st.set n (.lst (zs.take k++y::zs.drop k))):=by
 unfold og;simp only[h,bB];rw[ar ⟨by omega,hk,hl,by omega⟩]
theorem om(I:bY->List aj->Prop)(h:gJ (Gg I) (g ρ st))(h2:∀ρ st,I ρ st->gJ P (de ρ st)):gJ P (aL g de ρ st):=by
 obtain⟨ρ',bG,e,hi⟩:=h
 exact au e (h2 _ _ hi)
end
section
variable{f:FG}{t:FT}
theorem yz{ρ0:bY}(hc:j7 st ck)(T:W->Bool)(Y:W->W):∀(ws acc:List W),(∀w∈ws,∃ρ',f w ρ0=some ρ'/\t ρ' st=.ok (T w) st/\(T w=true->el ρ' st=.ok (Y w) st)) ->
  pQ f t el ck ρ0 ws acc st=.ok (acc++(ws.filter T).map Y) st
 |[],acc,_=>by unfold pQ;rw[ar hc];simp
 |w::ws,acc,h=>by
  obtain⟨ρ',e1,e2,e3⟩:=h w (by simp)
  have ih:=fun acc=>yz hc T Y ws acc fun w' hw'=>h w' (by simp[hw'])
  unfold pQ
  rw[ar hc,e1]
  simp only[e2]
  cases hT:T w with
  |true=>
   simp only[e3 hT]
   rw[ih]
   simp[cU,hT]
  |false=>
   simp only
   rw[ih]
   simp[cU,hT]
theorem tw(T:W->Bool)(Y:W->W)(h:fi ρ st=.ok (ws,ck) st1)(hl:ws.length<=ji)(hc:j7 st1 ck)
  (hs:∀w∈ws,∃ρ',f w (pi cap ρ)=some ρ'/\t ρ' st1=.ok (T w) st1/\(T w=true->el ρ' st1=.ok (Y w) st1)):d9 cap fi f t el ρ st=.ok (.loc st1.length) (st1++[.lst ((ws.filter T).map Y)]):=by
 unfold d9
 rw[h]
 simp only[R.bind_ok]
 rw[ar hl,yz hc T Y ws [] hs]
 simp only[R.bind_ok,fA,nI]
 rw[ar]
 rw[ai]
 exact aR (dN _ _) hl
theorem iG(Y:W->W)(h:fi ρ st=.ok (ws,ck) st1)(hl:ws.length<=ji)(hc:j7 st1 ck)
  (hs:∀w∈ws,∃ρ',f w (pi cap ρ)=some ρ'/\el ρ' st1=.ok (Y w) st1):d9 cap fi f kI el ρ st=.ok (.loc st1.length) (st1++[.lst (ws.map Y)]):=by
 have:=tw (fi:=fi) (f:=f) (t:=kI) (el:=el) (cap:=cap) (fun _=>true) Y h hl hc fun w hw=>by
  obtain⟨ρ',e1,e2⟩:=hs w hw
  exact⟨ρ',e1,rfl,fun _=>e2⟩
 rw[List.filter_eq_self.mpr (fun _ _=>rfl)]at this
 exact this
theorem qC{q:Nat}{lo:Int}{w:W}(h:w∈cB lo q):∃i:Nat,i<q/\w=.int (lo+i):=by
 unfold cB at h
 obtain⟨i,hi,rfl⟩:=aJ.mp h
 exact⟨i,bx.mp hi,rfl⟩
theorem gK(h:lstOf st n=some ws):d6 [.loc n] st=.ok (.tup ws) st:=by unfold d6;simp only[h,cL]
theorem Gi{xs:List W}(h:(ws++xs).length<=ji):dE (.tup ws) (.tup xs) st=.ok (.tup (ws++xs)) st:=by simp only[dE,nH];rw[ar h]
theorem Ua{p:Int}:yb [.int p,.int q] st=.ok (.int (if q>p then q else p)) st:=rfl
theorem P5{l:List α}(hj:j<=l.length)(hi:i<=j):kH l (some (i:Int)) (some (j:Int))=(l.drop i).take (j-i):=by
 unfold kH;rw[HT.sIx_nat,HT.sIx_nat,jG hj,jG (by omega)]
end
end L2
namespace P
open PySem L2
open PyProof.Rows (boot_sorted boot_set boot_ord boot_all boot_enumerate boot_int boot_str boot_bool boot_list boot_tuple boot_isinstance boot_max boot_min boot_zip)
def top(i:Nat):Stmt:=PySem.Challenge.pw_trunksay_k28_surroundings.main.body.getD i (.Pass ⟨0,0,0,0⟩)
abbrev P6:Stmt:=top 1
abbrev yA:List Str:=["names","marks","number","name"]
abbrev Ub:List Str:=["names","marks"]
theorem Ma:bh yA Ub (aO P6):=kF
abbrev P7:Stmt:=top 3
abbrev wG:List Str:=["newest"]
abbrev Uc:List Str:=["newest"]
theorem Mb:bh wG Uc (aO P7):=kF
abbrev P8:Stmt:=top 4
abbrev AH:List Str:=["rooms","keys","numbers","blocks","room"]
abbrev Ud:List Str:=["rooms","keys"]
theorem Md:bh AH Ud (aO P8):=kF
abbrev P9:Stmt:=top 5
abbrev uF:List Str:=["machine","rooms","keys","room"]
abbrev Ue:List Str:=["machine","rooms"]
theorem Me:bh uF Ue (aO P9):=kF
abbrev P_:Stmt:=top 6
abbrev AI:List Str:=["machine","rooms","blocks","views","room","view","leads"]
abbrev Uf:List Str:=["machine","rooms","blocks"]
theorem Mf:bh AI Uf (aO P_):=kF
abbrev P':Stmt:=top 7
abbrev tz:List Str:=["rooms","blocks","views","keys","room"]
abbrev Ug:List Str:=["rooms","blocks","views"]
theorem Mg:bh tz Ug (aO P'):=kF
abbrev Qa:Stmt:=top 9
abbrev AJ:List Str:=["place"]
abbrev Uh:List Str:=["place"]
theorem Mh:bh AJ Uh (aO Qa):=kF
abbrev Qb:Stmt:=top 10
abbrev yB:List Str:=["place"]
abbrev Ui:List Str:=["place"]
theorem Mi:bh yB Ui (aO Qb):=kF
abbrev Qc:Stmt:=top 11
abbrev AK:List Str:=["tree","links","tops","number","place","right","left"]
abbrev Uj:List Str:=["tree"]
theorem Mj:bh AK Uj (aO Qc):=kF
abbrev Qd:Stmt:=top 13
abbrev AL:List Str:=["machine","rows","told","best","left","right","size","letter","leads","room","way"]
abbrev Uk:List Str:=["machine","rows","told","best"]
theorem Mk:bh AL Uk (aO Qd):=kF
abbrev vH:Stmt:=top 14
abbrev yC:List Str:=["machine","rows","told","best","room","way"]
abbrev Ml:List Str:=["machine"]
theorem qD:bh yC Ml (aO vH):=kF
abbrev Gj:Stmt:=top 16
abbrev AM:List Str:=["rooms","pairs","number","one"]
abbrev Mm:List Str:=["rooms"]
theorem Gk:bh AM Mm (aO Gj):=kF
abbrev Gm:Stmt:=top 17
abbrev yD:List Str:=["one","other","rooms","number","many"]
abbrev Mn:List Str:=["one","other","rooms"]
theorem Gn:bh yD Mn (aO Gm):=kF
abbrev Gp:Stmt:=top 18
abbrev yE:List Str:=["blocks","pairs"]
abbrev Mo:List Str:=["blocks","pairs"]
theorem Gq:bh yE Mo (aO Gp):=kF
abbrev Gu:Stmt:=top 19
abbrev uG:List Str:=["blocks","pairs"]
abbrev Mp:List Str:=["blocks","pairs"]
theorem Gv:bh uG Mp (aO Gu):=kF
abbrev Gw:Stmt:=top 20
abbrev uH:List Str:=["machine","rooms","pairs","steps","blocks","parted","rows","views"]
abbrev Mq:List Str:=["machine"]
theorem Gx:bh uH Mq (aO Gw):=kF
abbrev Gy:Stmt:=top 22
abbrev wH:List Str:=["rooms","number"]
abbrev Mr:List Str:=["rooms","number"]
theorem Gz:bh wH Mr (aO Gy):=kF
abbrev GA:Stmt:=top 23
abbrev D0:List Str:=["machine","marks","pair","rooms","leads"]
abbrev Ms:List Str:=["machine","marks","pair","rooms"]
theorem GB:bh D0 Ms (aO GA):=kF
abbrev GC:Stmt:=top 24
abbrev AN:List Str:=["machine","tree","rooms","place","pair"]
abbrev Mu:List Str:=["machine","tree"]
theorem GD:bh AN Mu (aO GC):=kF
abbrev GE:Stmt:=top 25
abbrev D1:List Str:=["machine","tree"]
abbrev Mv:List Str:=["machine","tree"]
theorem GF:bh D1 Mv (aO GE):=kF
abbrev GG:Stmt:=top 26
abbrev D2:List Str:=["machine","tree"]
abbrev Mw:List Str:=["machine","tree"]
theorem GH:bh D2 Mw (aO GG):=kF
abbrev GI:Stmt:=top 28
abbrev wI:List Str:=["_law_names_here","_law_letter_here"]
abbrev Mx:List Str:=["_law_names_here","_law_letter_here"]
theorem GJ:bh wI Mx (aO GI):=kF
abbrev GK:Stmt:=top 29
abbrev yF:List Str:=["_law_left","_law_right","_law_marks"]
abbrev My:List Str:=["_law_left","_law_right","_law_marks"]
theorem GL:bh yF My (aO GK):=kF
abbrev GM:Stmt:=top 30
abbrev uI:List Str:=["_law_names_here","_law_marks","_law_found","_law_name"]
abbrev Mz:List Str:=["_law_names_here","_law_marks"]
theorem GN:bh uI Mz (aO GM):=kF
abbrev GO:Stmt:=top 31
abbrev AO:List Str:=["_law_machine_here","_law_tree","_law_heap","_law_found","_law_branches","_law_marks","_law_left","_law_right"]
abbrev MA:List Str:=["_law_machine_here","_law_tree"]
theorem GP:bh AO MA (aO GO):=kF
abbrev GQ:Stmt:=top 32
abbrev yG:List Str:=["_law_machine_here","_law_tree"]
abbrev MB:List Str:=["_law_machine_here","_law_tree"]
theorem GR:bh yG MB (aO GQ):=kF
abbrev GS:Stmt:=top 33
abbrev yH:List Str:=["_law_found","_law_due","_law_k"]
abbrev GT:List Str:=["_law_found","_law_due"]
theorem GU:bh yH GT (aO GS):=kF
abbrev GV:Stmt:=top 34
abbrev wJ:List Str:=["_law_cell_here","_law_k","_law_salt","_law_first"]
abbrev MC:List Str:=["_law_cell_here","_law_k","_law_salt"]
theorem GW:bh wJ MC (aO GV):=kF
abbrev GX:Stmt:=top 35
abbrev wK:List Str:=["_law_cell_here","_law_many","_law_salt","_law_found","_law_rest","_law_k"]
abbrev MD:List Str:=["_law_cell_here","_law_many","_law_salt"]
theorem GY:bh wK MD (aO GX):=kF
abbrev GZ:Stmt:=top 36
abbrev yI:List Str:=["_law_script","_law_k"]
abbrev ME:List Str:=["_law_script","_law_k"]
theorem G0:bh yI ME (aO GZ):=kF
abbrev G3:Stmt:=top 37
abbrev wL:List Str:=["_law_d","_law_shapes"]
abbrev MF:List Str:=["_law_d"]
theorem G4:bh wL MF (aO G3):=kF
abbrev G5:Stmt:=top 38
abbrev wM:List Str:=["_law_pool_here","_law_many"]
abbrev MG:List Str:=["_law_pool_here","_law_many"]
theorem G6:bh wM MG (aO G5):=kF
abbrev G7:Stmt:=top 39
abbrev uJ:List Str:=["_law_script","_law_at","_law_many","_law_salt","_law_found","_law_k"]
abbrev MH:List Str:=["_law_script","_law_at","_law_many","_law_salt"]
theorem G8:bh uJ MH (aO G7):=kF
abbrev G9:Stmt:=top 40
abbrev wN:List Str:=["_law_way","_law_l","_law_r"]
abbrev MI:List Str:=["_law_way","_law_l","_law_r"]
theorem G_:bh wN MI (aO G9):=kF
abbrev Ha:Stmt:=top 41
abbrev uK:List Str:=["_law_names_here","_law_many","_law_draws_here","_law_table","_law_letter_here","_law_more","_law_rows","_law_l","_law_only"]
abbrev MJ:List Str:=["_law_names_here","_law_many","_law_draws_here"]
theorem Hb:bh uK MJ (aO Ha):=kF
abbrev Hc:Stmt:=top 42
abbrev tF:List Str:=["_law_machine_here","_law_spot","_law_many","_law_table","_law_at","_law_rows","_law_row"]
abbrev MK:List Str:=["_law_machine_here","_law_spot"]
theorem Hd:bh tF MK (aO Hc):=kF
abbrev He:Stmt:=top 43
abbrev wO:List Str:=["_law_machine_here","_law_owner_here","_law_draws_here","_law_many","_law_at","_law_table","_law_rows","_law_made","_law_x","_law_row","_law_y","_law_due","_law_some"]
abbrev ML:List Str:=["_law_machine_here","_law_owner_here","_law_draws_here"]
theorem Hf:bh wO ML (aO He):=kF
abbrev Hg:Stmt:=top 44
abbrev wP:List Str:=["_law_many","_law_extra","_law_draws_here","_law_row","_law_k","_law_room"]
abbrev MM:List Str:=["_law_many","_law_extra","_law_draws_here"]
theorem Hh:bh wP MM (aO Hg):=kF
abbrev Hi:Stmt:=top 45
abbrev tH:List Str:=["_law_names_here","_law_many","_law_top","_law_draws_here","_law_good","_law_table","_law_at","_law_letter_here","_law_rows","_law_l"]
abbrev MN:List Str:=["_law_names_here","_law_many","_law_top","_law_draws_here"]
theorem Hj:bh tH MN (aO Hi):=kF
abbrev Hk:Stmt:=top 46
abbrev AQ:List Str:=["_law_script","_law_at","_law_pool_here","_law_head","_law_count","_law_many","_law_names_here","_law_draws_here","_law_machine_here","_law_top"]
abbrev MO:List Str:=["_law_script","_law_at","_law_pool_here"]
theorem Hl:bh AQ MO (aO Hk):=kF
abbrev Hm:Stmt:=top 47
abbrev yJ:List Str:=["_law_cell_here","_law_many","_law_salt","_law_rest","_law_found","_law_d","_law_at"]
abbrev MP:List Str:=["_law_cell_here","_law_many","_law_salt"]
theorem Ho:bh yJ MP (aO Hm):=kF
abbrev Hq:Stmt:=top 48
abbrev wQ:List Str:=["_law_machine_here","_law_met","_law_trees_here","_law_at","_law_other","_law_letter_here","_law_l","_law_r","_law_led"]
abbrev MQ:List Str:=["_law_machine_here"]
theorem Hr:bh wQ MQ (aO Hq):=kF
abbrev Hs:Stmt:=top 49
abbrev uL:List Str:=["_law_machine_here","_law_trees_here","_law_row","_law_number"]
abbrev MR:List Str:=["_law_machine_here","_law_trees_here","_law_row"]
theorem Ht:bh uL MR (aO Hs):=kF
abbrev Hu:Stmt:=top 50
abbrev uM:List Str:=["_law_machine_here","_law_trees_here","_law_pairs","_law_row","_law_left","_law_right","_law_letter_here","_law_side","_law_third","_law_marks","_law_rows","_law_pair","_law_steps","_law_one"]
abbrev MS:List Str:=["_law_machine_here","_law_trees_here","_law_pairs","_law_row"]
theorem Hv:bh uM MS (aO Hu):=kF
abbrev Hw:Stmt:=top 51
abbrev rE:List Str:=["_law_machine_here","_law_met","_law_pair","_law_draws_here","_law_a","_law_b","_law_k","_law_rows","_law_third"]
abbrev MU:List Str:=["_law_machine_here","_law_met","_law_pair","_law_draws_here"]
theorem Hy:bh rE MU (aO Hw):=kF
abbrev pZ:Stmt:=top 52
abbrev Ul:List Str:=["_law_script","_law_machine_here","_law_trees_here","_law_told","_law_pairs","_law_row","_law_at","_law_met","_law_draws_here","_law_others","_law_a","_law_b"]
abbrev Hz:List Str:=["_law_script"]
theorem HA:bh Ul Hz (aO pZ):=kF
structure Bl(mg:Str->Option Value):Prop where
 bool:mg "bool"=Option.none
 enumerate:mg "enumerate"=Option.none
 int:mg "int"=Option.none
 isinstance:mg "isinstance"=Option.none
 len:mg "len"=Option.none
 list:mg "list"=Option.none
 max:mg "max"=Option.none
 min:mg "min"=Option.none
 range:mg "range"=Option.none
 sorted:mg "sorted"=Option.none
 str:mg "str"=Option.none
 tuple:mg "tuple"=Option.none
 zip:mg "zip"=Option.none
def tabL:List (Addr×Pos×Str):=[(82,⟨67,29,67,52⟩,"firsts_of.<locals>.<lambda>")]
section
variable{w:World}{f:Addr}
local macro_rules | `(tactic| walk_at "w2") => `(tactic| first | exact Kc ‹_› | exact Kd ‹_› | exact x_ ‹_› | exact qW ‹_› | exact B6 ‹_› | exact pU ‹_› | exact w_lt | exact BU | exact Fe | exact Ka | exact BY ‹_› (x_ ‹_›) | exact pR ‹_› (qW ‹_›))
local macro_rules | `(tactic| walk_at "w1") => `(tactic| first | exact gF _ | refine dG ?_ ?_ | exact nF | exact j6 | refine jk ?_ ?_ | refine wb ?_ ?_ | refine Al ?_ | refine sS _ ‹_› ?_ | refine Wu (by first | exact Tz | exact Ts | exact Pz | exact Tu | exact Pg | exact Tv | exact Tw | exact Tx | exact Ph) ?_ ?_ | refine Fp ‹_› ‹_› (by omega) ?_ | refine Fj ?_ | refine xY ?_ | exact sG _ ‹_› | refine mn PV ‹Bl _›.len boot_len ?_ | refine mn pM ‹Bl _›.len boot_len ?_ | refine mn TF ‹Bl _›.max boot_max ?_ | refine mn TH ‹Bl _›.min boot_min ?_ | refine mn Ks ‹Bl _›.sorted boot_sorted ?_ | refine mn KN ‹Bl _›.sorted boot_sorted ?_ | refine E9 (by walk_at "w2") ?_ ?_ | refine Th (by walk_at "w2") ?_ ?_ | refine Kn (by walk_at "w2") (by walk_at "w2") ?_ ?_ ?_ | refine TK ?_ ?_ ?_ | exact Pk | refine Pq ?_ ?_ ?_ | refine Fk ?_ ?_ | exact Kg | refine Pm rfl ?_ | refine rL ?_ | refine TZ ‹_› ?_ ?_ | refine T5 ‹_› ?_ ?_ | refine LX ?_ | exact O_ | exact Tf | exact Te | refine nJ TJ ‹Bl _›.int boot_int ?_ | refine nJ BP ‹Bl _›.tuple pB ?_ | refine nJ Pi ‹Bl _›.list boot_list ?_ | refine nJ KO ‹Bl _›.list boot_list ?_ | refine Ki PySem.F.slot_list_append PySem.F.type_list_append vj ?_ ?_ | refine TR PySem.F.slot_list_pop PySem.F.type_list_pop Pt ?_ | refine Ki PySem.F.slot_list_extend PySem.F.type_list_extend Au ?_ ?_ | refine WC PySem.F.slot_str_join PySem.F.type_str_join Kj ?_ ?_ | refine Ki PySem.F.slot_list_insert PySem.F.type_list_insert DO ?_ ?_ | refine DJ ‹Bl _›.range ?_ | refine DL ‹Bl _›.range ?_ | refine Ku ‹Bl _›.range ?_ | refine wd ‹Bl _›.enumerate ?_ | refine F7 ‹Bl _›.enumerate ?_ | refine KB ‹Bl _›.zip ?_ | refine B8 rfl ?_ ?_ ?_ ?_ | refine q5 (sG _ ‹_›) rfl ?_ ?_ ?_ ?_ | refine B8 (m := 0) rfl ?_ ?_ ?_ ?_ | refine q5 (sG _ ‹_›) (m := 0) rfl ?_ ?_ ?_ ?_ | exact Xz _ | exact Kk | refine Kl ?_ | refine Px ?_ | refine Pe ?_ | refine To ?_ | refine Pc ?_ | refine Ti (E_ ?_ ?_) | refine Ti (LU ?_ ?_) | refine E_ ?_ ?_ | refine LU ?_ ?_ | refine J8 ?_ | refine Pa ?_ | refine O' ?_ | refine Tl ?_ | refine TV ?_ | refine Wv ?_ ?_ ?_ | refine Tk ?_ ?_ | refine Tj ?_ | refine Kf ?_ | exact Ke | refine WA ?_ ?_ ?_ | refine wc (FB ‹_›) ?_ ?_ ?_ | refine wc (PR ‹_›) ?_ ?_ ?_ | refine wc Pp ?_ ?_ ?_ | refine yf ?_ ?_ | refine PJ (bh.nd ‹_›) ?_ | refine Pn ?_ ?_ | exact FC | refine FF ?_ | refine BZ ?_ ?_ ?_ | exact FD | refine KQ ‹_› ?_ ?_ | refine KL ‹_› ?_ ?_ ?_ | refine BW ‹Bl _›.isinstance ‹Bl _›.bool boot_bool ?_ | refine BW ‹Bl _›.isinstance ‹Bl _›.int boot_int ?_ | refine BW ‹Bl _›.isinstance ‹Bl _›.str boot_str ?_ | refine BW ‹Bl _›.isinstance ‹Bl _›.tuple pB ?_)
local macro_rules | `(tactic| walk_at "w") => `(tactic| repeat' walk_at "w1")
def Um:FS:=(aL (bp 2 (eI 0)) (aL (fC (cF (af 0)) (dY 3) (aL (bp 2 (e2 gY (af 2) (eI 2))) (i5 (fq (e2 (sA false) (af 3) (af 1))) (bp 2 (e2 dE (af 2) (eI 1))) cQ))) (cA (af 2))))
def KR:List W->List aj->R W:=dq 4 Um
theorem Uo(F:iZ K "letter_of" "letter_of" P6 f fd)  :dw P w K mg base (iX P w) 1 f fd Ub (ja K mg 2 KR):=
 bV (k:=0) F Ma rfl fun fI A outer s H E hr=>by have sc:=Ma;walk_at "w"
def Up:FS:=(cA (e2 dE (d9 [none,some 0] (bJ (ag (e2 dE (af 0) (eI 1)) av)) (dY 0) kI (cP (ag (af 1) (ag (af 0) av)))) (d9 [none,some 0] (bJ (ag (af 0) av)) (dY 0) kI (cP (ag (af 0) (ag (af 1) av))))))
def HB:List W->List aj->R W:=dq 1 Up
theorem Uq(F:iZ K "pairs_with" "pairs_with" P7 f fd)(B:Bl mg) :dw P w K mg base (iX P w) 1 f fd Uc (ja K mg 1 HB):=
 bV (k:=0) F Mb rfl fun fI A outer s H E hr=>by have sc:=Mb;walk_at "w"
def Ur:FS:=(aL (bp 2 pS) (aL (bp 3 pS) (aL (fC (cF (af 0)) (dY 4) (aL (eG (wA (af 2) (e2 gp (af 1) (af 4)) (bc vz (ag (af 2) av)))) (lB (af 3) (af 4) (e2 F4 (af 2) (e2 gp (af 1) (af 4))) jn))) (cA (af 3)))))
def D3:List W->List aj->R W:=dq 5 Ur
theorem Us(F:iZ K "numbered" "numbered" P8 f fd)(B:Bl mg) :dw P w K mg base (iX P w) 1 f fd Ud (ja K mg 2 D3):=
 bV (k:=0) F Md rfl fun fI A outer s H E hr=>by have sc:=Md;walk_at "w"
def Ut:FS:=(aL (bp 2 pS) (aL (fC (cF (af 1)) (dY 3) (lB (af 2) (af 3) (e2 bg (e2 bg (af 0) (eI 1)) (af 3)) jn)) (cA (ca 2 D3 (ag (af 1) (ag (af 2) av))))))
def KS:List W->List aj->R W:=dq 4 Ut
theorem Uu(F:iZ K "good_blocks" "good_blocks" P9 f fd) (LC:dh P w K mg base 1 "numbered" 2 D3):dw P w K mg base (iX P w) 2 f fd Ue (ja K mg 2 KS):=
 bV (k:=1) F Me rfl fun fI A outer s H E hr=>by have sc:=Me;walk_at "w"
def Uv:FS:=(aL (bp 3 pS) (aL (fC (cF (af 1)) (dY 4) (aL (bp 5 (kG av)) (aL (fC (cF (e2 bg (af 0) (eI 2))) (dY 6) (aL (eG (nv gG (af 5) (ag (d9 [none,some 2,some 6,some 4] (cF (af 1)) (dY 0) kI (e2 gp (af 1) (e2 bg (e2 bg (af 2) (af 3)) (af 0)))) av))) (eG (nv gG (af 5) (ag (d9 [none,some 2,some 4,some 6] (cF (af 1)) (dY 0) kI (e2 gp (af 1) (e2 bg (e2 bg (af 3) (af 0)) (af 2)))) av))))) (lB (af 3) (af 4) (bc d6 (ag (af 5) av)) jn)))) (cA (af 3))))
def HC:List W->List aj->R W:=dq 7 Uv
theorem Ux(F:iZ K "views_of" "views_of" P_ f fd)(B:Bl mg) :dw P w K mg base (iX P w) 1 f fd Uf (ja K mg 3 HC):=
 bV (k:=0) F Mf rfl fun fI A outer s H E hr=>by have sc:=Mf;walk_at "w"
def Uy:FS:=(aL (bp 3 pS) (aL (fC (cF (af 0)) (dY 4) (lB (af 3) (af 4) (cP (ag (e2 gp (af 1) (af 4)) (ag (e2 gp (af 2) (af 4)) av))) jn)) (cA (ca 2 D3 (ag (af 0) (ag (af 3) av))))))
def HD:List W->List aj->R W:=dq 5 Uy
theorem Uz(F:iZ K "split_blocks" "split_blocks" P' f fd) (LC:dh P w K mg base 1 "numbered" 2 D3):dw P w K mg base (iX P w) 2 f fd Ug (ja K mg 3 HD):=
 bV (k:=1) F Mg rfl fun fI A outer s H E hr=>by have sc:=Mg;walk_at "w"
def WJ:FS:=(cA (e2 (sA false) (e2 bg (af 0) (eI 0)) (cP (ag (eI 1) (ag (eI 3) av)))))
def yK:List W->List aj->R W:=dq 1 WJ
theorem UA(F:iZ K "has_left" "has_left" Qa f fd)  :dw P w K mg base (iX P w) 1 f fd Uh (ja K mg 1 yK):=
 bV (k:=0) F Mh rfl fun fI A outer s H E hr=>by have sc:=Mh;walk_at "w"
def WK:FS:=(cA (e2 (sA false) (e2 bg (af 0) (eI 0)) (cP (ag (eI 2) (ag (eI 3) av)))))
def yL:List W->List aj->R W:=dq 1 WK
theorem UB(F:iZ K "has_right" "has_right" Qb f fd)  :dw P w K mg base (iX P w) 1 f fd Ui (ja K mg 1 yL):=
 bV (k:=0) F Mi rfl fun fI A outer s H E hr=>by have sc:=Mi;walk_at "w"
def UC:FS:=(aL (bp 1 (kG av)) (aL (bp 2 (kG av)) (aL (fC (mq (ag (af 0) av)) (ul 2 (b8 (dY 3) (b8 (dY 4) hG))) (aL (bp 5 (J9 (fq (ca 1 yL (ag (af 4) av))) (nv qw (af 2) av) (eC .non))) (aL (bp 6 (J9 (fq (ca 1 yK (ag (af 4) av))) (nv qw (af 2) av) (eC .non))) (aL (eG (nv cM (af 2) (ag (af 3) av))) (eG (nv cM (af 1) (ag (cP (ag (af 6) (ag (af 5) av))) av))))))) (cA (bc d6 (ag (af 1) av))))))
def KU:List W->List aj->R W:=dq 7 UC
theorem UD(F:iZ K "links_of" "links_of" Qc f fd)(B:Bl mg)(Vr:dh P w K mg base 1 "has_left" 1 yK)(Vf:dh P w K mg base 1 "has_right" 1 yL):dw P w K mg base (iX P w) 2 f fd Uj (ja K mg 1 KU):=
 bV (k:=1) F Mj rfl fun fI A outer s H E hr=>by have sc:=Mj;walk_at "w"
def UE:FS:=(fC (cF (ca 1 HB (ag (e2 qu (bc cW (ag (af 1) av)) (eI 1)) av))) (ul 2 (b8 (dY 4) (b8 (dY 5) hG))) (aL (bp 6 (e2 dE (e2 dE (e2 bg (e2 bg (af 1) (af 4)) (eI 1)) (e2 bg (e2 bg (af 1) (af 5)) (eI 1))) (eI 1))) (fC (mq (ag (e2 bg (af 0) (eI 2)) av)) (ul 2 (b8 (dY 7) (b8 (dY 8) hG))) (aL (bp 9 (e2 bg (e2 bg (af 8) (e2 bg (e2 bg (af 1) (af 4)) (eI 0))) (e2 bg (e2 bg (af 1) (af 5)) (eI 0)))) (aL (bp 10 (cP (ag (af 6) (ag (af 4) (ag (af 5) (ag (af 7) av)))))) (i5 (LS (fq (e2 (lE true) (af 9) (af 2))) (xA (fq (e2 (lE true) (af 9) (af 3))) (fq (e2 DQ (af 10) (e2 gp (af 3) (af 9)))))) (lB (af 3) (af 9) (af 10) jn) cQ))))))
def HE:List W->List aj->R W:=dq 11 UE
theorem UF(F:iZ K "put_ways" "put_ways" Qd f fd)(B:Bl mg)(Vq:dh P w K mg base 1 "pairs_with" 1 HB):dw P w K mg base (iX P w) 2 f fd Uk (ja K mg 4 HE):=
 bV (k:=1) F Mk rfl fun fI A outer s H E hr=>by have sc:=Mk;walk_at "w"
theorem uN(p2 p3 p4:Pos):FJ "each" "best" ⟨[],[⟨"each",none,⟨67,36,67,40⟩⟩],none,[],[],none,[]⟩ (.Subscript (.Name "best" p2) (.Name "each" p3) p4) (FM [("each",.local),("best",.free)]):=⟨rfl,rfl,rfl,by decide,rfl,rfl,fun _ _ _ _ _ _ _=>rfl,by decide,by decide,by decide⟩
def MV:FS:=(aL (bp 1 (kG (ag (cP (ag (eI 0) (ag (eI 0) (ag (cP av) av)))) av))) (aL (bp 2 (sQ (nO (eI 0) (eC (.bl true)) qZ))) (aL (bp 3 pS) (aL (eG (ca 4 HE (ag (af 0) (ag (af 1) (ag (af 2) (ag (af 3) av)))))) (aL (j8 (fq (e2 Ai (bc sP (ag (af 3) av)) (eI 0))) (aL (bp 4 (sR 3 1 82 ⟨67,29,67,52⟩ "firsts_of.<locals>.<lambda>")) (aL (bp 5 (B4 (af 3) (af 4))) (aL (eG (nv cM (af 1) (ag (cP (ag (af 4) (ag (e2 bg (af 5) (eI 0)) (ag (cP (ag (e2 bg (e2 bg (af 1) (e2 bg (af 5) (eI 1))) (eI 0)) (ag (e2 bg (e2 bg (af 1) (e2 bg (af 5) (eI 2))) (eI 0)) (ag (e2 bg (af 5) (eI 3)) av)))) av)))) av))) (aL (lB (af 2) (af 4) (eC (.bl true)) jn) (eG (ca 4 HE (ag (af 0) (ag (af 1) (ag (af 2) (ag (af 3) av))))))))))) (cA (bc d6 (ag (af 1) av))))))))
def vI:List W->List aj->R W:=dq 6 MV
theorem Qe(F:iZ K "firsts_of" "firsts_of" vH f fd)(Tc:WF K fd 82)(Bk:yo base mg)(B:Bl mg)(LG:dh P w K mg base 2 "put_ways" 4 HE):dw P w K mg base (iX P w) 3 f fd Ml (ja K mg 1 vI):=
 Tc.elim fun cT hT=>BS (k:=2) F qD rfl fun fI A outer s H E nX hr=>(jk (sS 1 qD (LX (dG (xY (dG nF (dG nF (dG (xY j6) j6)))) j6))) (jk (sS 2 qD (FF (BZ nF O_ FD))) (jk (sS 3 qD FC) (jk (rL (Fp LG hr (by omega) (dG (gF 0) (dG (gF 1) (dG (gF 2) (dG (gF 3) j6)))))) (jk (yf (E9 Fe (mn PF B.len boot_len (dG (gF 3) j6)) nF) (jk (sS 4 qD (KC (i:=3) (j:=1) hr (uN _ _ _) (nX.symm.trans hT.1) hT.2.1 hT.2.2 Bk B.min rfl)) (jk (sS 5 qD (PH (gF 3) (gF 4))) (jk (rL (Ki PySem.F.slot_list_append PySem.F.type_list_append vj (gF 1) (dG (xY (dG (gF 4) (dG (wb (gF 5) nF) (dG (xY (dG (wb (wb (gF 1) (wb (gF 5) nF)) nF) (dG (wb (wb (gF 1) (wb (gF 5) nF)) nF) (dG (wb (gF 5) nF) j6)))) j6)))) j6))) (jk (wc (FB hr) O_ (gF 2) (gF 4)) (Al (rL (Fp LG hr (by omega) (dG (gF 0) (dG (gF 1) (dG (gF 2) (dG (gF 3) j6)))))))))))) (Al (Fj (nJ BP B.tuple pB (dG (gF 1) j6)))))))))
def MW:FS:=(aL (bp 1 (kG av)) (aL (fC (mw (ag (af 0) av)) (ul 2 (b8 (dY 2) (b8 (dY 3) hG))) (eG (nv gG (af 1) (ag (d9 [none,some 3] (cF (Fi (af 0) (lA (e2 dE (af 2) (eI 1))) qX)) (dY 0) kI (cP (ag (af 1) (ag (af 0) av)))) av)))) (cA (af 1))))
def Ch:List W->List aj->R W:=dq 4 MW
theorem Qf(F:iZ K "pairs_of" "pairs_of" Gj f fd)(B:Bl mg) :dw P w K mg base (iX P w) 1 f fd Mm (ja K mg 1 Ch):=
 bV (k:=0) F Gk rfl fun fI A outer s H E hr=>by have sc:=Gk;walk_at "w"
def UG:FS:=(aL (bp 3 (eI 0)) (aL (j8 (fq (e2 lw (e2 bg (af 0) (af 3)) (e2 bg (af 1) (af 3)))) (bp 3 (e2 dE (af 3) (eI 1)))) (aL (bp 4 (bc cW (ag (af 2) av))) (cA (cP (ag (e2 pL (af 3) (e2 gY (af 4) (eI 2))) (ag (e2 eU (e2 pL (af 3) (af 4)) (eI 2)) (ag (e2 bg (af 2) (e2 eU (af 3) (af 4))) av))))))))
def tI:List W->List aj->R W:=dq 5 UG
theorem Qg(F:iZ K "why_apart" "why_apart" Gm f fd)(B:Bl mg) :dw P w K mg base (iX P w) 1 f fd Mn (ja K mg 3 tI):=
 bV (k:=0) F Gn rfl fun fI A outer s H E hr=>by have sc:=Gn;walk_at "w"
def MX:FS:=(cA (d9 [none,none,some 0] (cF (af 1)) (ul 2 (b8 (dY 0) (b8 (dY 1) hG))) (fq (e2 Aj (e2 gp (af 2) (af 0)) (e2 gp (af 2) (af 1)))) (cP (ag (af 0) (ag (af 1) av)))))
def vJ:List W->List aj->R W:=dq 2 MX
theorem Qh(F:iZ K "parted_by" "parted_by" Gp f fd)  :dw P w K mg base (iX P w) 1 f fd Mo (ja K mg 2 vJ):=
 bV (k:=0) F Gq rfl fun fI A outer s H E hr=>by have sc:=Gq;walk_at "w"
def MY:FS:=(cA (d9 [none,none,some 0] (cF (af 1)) (ul 2 (b8 (dY 0) (b8 (dY 1) hG))) (fq (e2 lw (e2 gp (af 2) (af 0)) (e2 gp (af 2) (af 1)))) (cP (ag (af 0) (ag (af 1) av)))))
def yM:List W->List aj->R W:=dq 2 MY
theorem Qi(F:iZ K "together_in" "together_in" Gu f fd)  :dw P w K mg base (iX P w) 1 f fd Mp (ja K mg 2 yM):=
 bV (k:=0) F Gv rfl fun fI A outer s H E hr=>by have sc:=Gv;walk_at "w"
def MZ:FS:=(aL (bp 1 (bc pq (ag (d9 [none] (cF (ca 1 vI (ag (af 0) av))) (dY 0) kI (e2 bg (af 0) (eI 0))) av))) (aL (bp 2 (ca 1 Ch (ag (af 1) av))) (aL (bp 3 (eI 0)) (aL (bp 4 (ca 2 KS (ag (af 0) (ag (af 1) av)))) (aL (bp 5 (ca 2 vJ (ag (af 4) (ag (af 2) av)))) (aL (sB (d9 [none,none] (cF (af 5)) (ul 2 (b8 (dY 0) (b8 (dY 1) hG))) kI (cP (ag (af 0) (ag (af 1) (ag (eI 0) (ag (cP av) av)))))) (dY 6)) (aL (j8 (fq (e2 Ai (bc cW (ag (af 5) av)) (eI 0))) (aL (bp 2 (ca 2 yM (ag (af 4) (ag (af 2) av)))) (aL (bp 7 (ca 3 HC (ag (af 0) (ag (af 1) (ag (af 4) av))))) (aL (bp 3 (e2 dE (af 3) (eI 1))) (aL (bp 4 (ca 3 HD (ag (af 1) (ag (af 4) (ag (af 7) av))))) (aL (bp 5 (ca 2 vJ (ag (af 4) (ag (af 2) av)))) (eG (nv gG (af 6) (ag (d9 [none,none,some 3,some 1,some 7] (cF (af 5)) (ul 2 (b8 (dY 0) (b8 (dY 1) hG))) kI (cP (ag (af 0) (ag (af 1) (ag (af 2) (ag (ca 3 tI (ag (e2 gp (af 4) (af 0)) (ag (e2 gp (af 4) (af 1)) (ag (af 3) av)))) av)))))) av))))))))) (cA (bc d6 (ag (af 6) av))))))))))
def Ci:List W->List aj->R W:=dq 8 MZ
theorem Qj(F:iZ K "unlike_rows" "unlike_rows" Gw f fd)(B:Bl mg)(NG:dh P w K mg base 3 "firsts_of" 1 vI)(Vv:dh P w K mg base 2 "good_blocks" 2 KS)(N0:dh P w K mg base 1 "pairs_of" 1 Ch)(NC:dh P w K mg base 1 "parted_by" 2 vJ)(Va:dh P w K mg base 2 "split_blocks" 3 HD)(NB:dh P w K mg base 1 "together_in" 2 yM)(U':dh P w K mg base 1 "views_of" 3 HC)(NE:dh P w K mg base 1 "why_apart" 3 tI):dw P w K mg base (iX P w) 4 f fd Mq (ja K mg 1 Ci):=
 bV (k:=3) F Gx rfl fun fI A outer s H E hr=>by have sc:=Gx;walk_at "w"
def UH:FS:=(cA (J9 (fq (uD (af 1))) (eI 0) (e2 bg (af 0) (af 1))))
def yN:List W->List aj->R W:=dq 2 UH
theorem Ql(F:iZ K "room_below" "room_below" Gy f fd)  :dw P w K mg base (iX P w) 1 f fd Mr (ja K mg 2 yN):=
 bV (k:=0) F Gz rfl fun fI A outer s H E hr=>by have sc:=Gz;walk_at "w"
def UI:FS:=(aL (bp 4 (e2 bg (e2 bg (af 0) (eI 2)) (ca 2 KR (ag (e2 bg (af 0) (eI 0)) (ag (af 1) av))))) (cA (e2 bg (e2 bg (af 4) (ca 2 yN (ag (af 3) (ag (e2 bg (af 2) (eI 0)) av)))) (ca 2 yN (ag (af 3) (ag (e2 bg (af 2) (eI 1)) av))))))
def Cj:List W->List aj->R W:=dq 5 UI
theorem Qm(F:iZ K "room_at" "room_at" GA f fd) (U4:dh P w K mg base 1 "letter_of" 2 KR)(NZ:dh P w K mg base 1 "room_below" 2 yN):dw P w K mg base (iX P w) 2 f fd Ms (ja K mg 4 Cj):=
 bV (k:=1) F GB rfl fun fI A outer s H E hr=>by have sc:=GB;walk_at "w"
def M4:FS:=(aL (bp 2 (kG av)) (aL (fC (wg (ag (af 1) (ag (ca 1 KU (ag (af 1) av)) av))) (ul 2 (b8 (dY 3) (b8 (dY 4) hG))) (eG (nv cM (af 2) (ag (ca 4 Cj (ag (af 0) (ag (e2 bg (af 3) (eI 1)) (ag (af 4) (ag (af 2) av))))) av)))) (cA (bc d6 (ag (af 2) av)))))
def yO:List W->List aj->R W:=dq 5 M4
theorem Qn(F:iZ K "rooms_of" "rooms_of" GC f fd)(B:Bl mg)(U9:dh P w K mg base 2 "links_of" 1 KU)(NF:dh P w K mg base 2 "room_at" 4 Cj):dw P w K mg base (iX P w) 3 f fd Mu (ja K mg 2 yO):=
 bV (k:=2) F GD rfl fun fI A outer s H E hr=>by have sc:=GD;walk_at "w"
def UJ:FS:=(cA (J9 (fq (e2 Ai (bc cW (ag (af 1) av)) (eI 0))) (e2 bg (ca 2 yO (ag (af 0) (ag (af 1) av))) (Ao (eI 1))) (eI 0)))
def Ck:List W->List aj->R W:=dq 2 UJ
theorem Qo(F:iZ K "room_of" "room_of" GE f fd)(B:Bl mg)(NP:dh P w K mg base 3 "rooms_of" 2 yO):dw P w K mg base (iX P w) 4 f fd Mv (ja K mg 2 Ck):=
 bV (k:=3) F GF rfl fun fI A outer s H E hr=>by have sc:=GF;walk_at "w"
def UK:FS:=(cA (e2 bg (e2 bg (af 0) (eI 1)) (ca 2 Ck (ag (af 0) (ag (af 1) av)))))
def tJ:List W->List aj->R W:=dq 2 UK
theorem Qp(F:iZ K "lets_by" "lets_by" GG f fd) (NM:dh P w K mg base 4 "room_of" 2 Ck):dw P w K mg base (iX P w) 5 f fd Mw (ja K mg 2 tJ):=
 bV (k:=4) F GH rfl fun fI A outer s H E hr=>by have sc:=GH;walk_at "w"
def M5:FS:=(cA (L4 oN (eC (.str [])) (ag (d9 [none,some 0,some 1] (bJ (ag (bc cW (ag (af 0) av)) av)) (dY 0) (fq (e2 lw (e2 BJ (e2 DE (af 2) (e2 qu (e2 qu (bc cW (ag (af 1) av)) (eI 1)) (af 0))) (eI 1)) (eI 1))) (e2 bg (af 1) (af 0))) av)))
def tK:List W->List aj->R W:=dq 2 M5
theorem Qq(F:iZ K "_law_given" "_law_given" GI f fd)(B:Bl mg) :dw P w K mg base (iX P w) 1 f fd Mx (ja K mg 2 tK):=
 bV (k:=0) F GJ rfl fun fI A outer s H E hr=>by have sc:=GJ;walk_at "w"
def M6:FS:=(cA (e2 dE (e2 dE (af 0) (af 1)) (cP (ag (cP (ag (e2 dE (bc yc (ag (e2 Ai (bc cW (ag (af 0) av)) (eI 0)) av)) (e2 gY (eI 2) (bc yc (ag (e2 Ai (bc cW (ag (af 1) av)) (eI 0)) av)))) (ag (af 2) av))) av))))
def oP:List W->List aj->R W:=dq 3 M6
theorem Qr(F:iZ K "_law_join" "_law_join" GK f fd)(B:Bl mg) :dw P w K mg base (iX P w) 1 f fd My (ja K mg 3 oP):=
 bV (k:=0) F GL rfl fun fI A outer s H E hr=>by have sc:=GL;walk_at "w"
def M7:FS:=(aL (bp 2 (eI 0)) (aL (fC (cF (af 0)) (dY 3) (bp 2 (e2 dE (e2 gY (eI 2) (af 2)) (bc yc (ag (e2 (sA false) (af 3) (af 1)) av))))) (cA (af 2))))
def Cm:List W->List aj->R W:=dq 4 M7
theorem Qs(F:iZ K "_law_letter" "_law_letter" GM f fd)(B:Bl mg) :dw P w K mg base (iX P w) 1 f fd Mz (ja K mg 2 Cm):=
 bV (k:=0) F GN rfl fun fI A outer s H E hr=>by have sc:=GN;walk_at "w"
def M8:FS:=(aL (bp 2 (kG av)) (aL (bp 3 (kG av)) (aL (fC (cF (af 1)) (ul 2 (b8 (dY 4) (b8 (dY 5) hG))) (aL (bp 6 (eI 0)) (aL (bp 7 (eI 0)) (aL (i5 (fq (e2 TB (af 4) (eI 2))) (bp 7 (nv qw (af 2) av)) cQ) (aL (i5 (fq (e2 lw (e2 eU (af 4) (eI 2)) (eI 1))) (bp 6 (nv qw (af 2) av)) cQ) (aL (eG (nv cM (af 2) (ag (e2 bg (e2 bg (e2 bg (e2 bg (af 0) (eI 2)) (ca 2 Cm (ag (e2 bg (af 0) (eI 0)) (ag (af 5) av)))) (af 6)) (af 7)) av))) (eG (nv cM (af 3) (ag (e2 bg (af 2) (Ao (eI 1))) av))))))))) (cA (af 3)))))
def Cn:List W->List aj->R W:=dq 8 M8
theorem Qt(F:iZ K "_law_run" "_law_run" GO f fd) (N6:dh P w K mg base 1 "_law_letter" 2 Cm):dw P w K mg base (iX P w) 2 f fd MA (ja K mg 2 Cn):=
 bV (k:=1) F GP rfl fun fI A outer s H E hr=>by have sc:=GP;walk_at "w"
def M9:FS:=(aL (i5 (fq (e2 lw (bc cW (ag (af 1) av)) (eI 0))) (cA (e2 bg (e2 bg (af 0) (eI 1)) (eI 0))) cQ) (cA (e2 bg (e2 bg (af 0) (eI 1)) (e2 bg (ca 2 Cn (ag (af 0) (ag (af 1) av))) (Ao (eI 1))))))
def yP:List W->List aj->R W:=dq 2 M9
theorem Qu(F:iZ K "_law_lets" "_law_lets" GQ f fd)(B:Bl mg)(N3:dh P w K mg base 2 "_law_run" 2 Cn):dw P w K mg base (iX P w) 3 f fd MB (ja K mg 2 yP):=
 bV (k:=2) F GR rfl fun fI A outer s H E hr=>by have sc:=GR;walk_at "w"
def M_(Vb:List W->List aj->R W):FS:=(aL (i5 (fq (oE "tuple" (af 1))) (aL (i5 (xA (xX (fq (oE "tuple" (af 0)))) (fq (e2 Aj (bc cW (ag (af 0) av)) (bc cW (ag (af 1) av))))) (cA (eC (.bl false))) cQ) (aL (fC (bJ (ag (bc cW (ag (af 1) av)) av)) (dY 2) (i5 (xX (fq (ca 2 Vb (ag (e2 bg (af 0) (af 2)) (ag (e2 bg (af 1) (af 2)) av))))) (cA (eC (.bl false))) cQ)) (cA (eC (.bl true))))) cQ) (aL (i5 (fq (uD (af 1))) (cA (uD (af 0))) cQ) (aL (i5 (fq (oE "bool" (af 1))) (cA (wa (oE "bool" (af 0)) (e2 lw (af 0) (af 1)))) cQ) (aL (i5 (fq (oE "int" (af 1))) (cA (wa (oE "int" (af 0)) (wa (Fa (oE "bool" (af 0))) (e2 lw (af 0) (af 1))))) cQ) (cA (wa (oE "str" (af 0)) (e2 lw (af 0) (af 1))))))))
def tL:Nat->List W->List aj->R W
 |0=>fun _ _=>.bad
 |k+1=>dq 3 (M_ (tL k))
theorem Co{I_:Addr}{RD:FuncData}(vU:iZ K "_law_same" "_law_same" GS I_ RD)(zN:mg "_law_same"=some (.ref I_))(B:Bl mg) :∀k:Nat,dh P w K mg base (0+k) "_law_same" 2 (tL k)
 |0=>Ft (ps:=GT) vU zN rfl (fun _ _ _ _ _ _ us hl=>match us,hl with|[_,_],_=>rfl)
 |k+1=>by
  have Je:=Co vU zN B  k
  exact rM (ps:=GT) vU zN rfl (fun _ _ _ _ _ _ us hl=>match us,hl with|[_,_],_=>rfl) (bV (k:=0+k) vU GU rfl fun fI A outer s H E hr=>by have sc:=GU;walk_at "w")
def UL:FS:=(aL (bp 3 (e2 eU (e2 gY (e2 dE (e2 dE (e2 dE (af 0) (e2 gY (e2 gY (eI 7) (af 1)) (af 1))) (e2 gY (eI 13) (af 1))) (af 2)) (eI 69621)) (eI 2147483647))) (cA (e2 eU (e2 gY (e2 eU (e2 dE (e2 dE (e2 gY (af 3) (e2 dE (e2 pL (af 3) (eI 1009)) (eI 3))) (e2 gY (eI 31) (af 1))) (af 2)) (eI 2147483629)) (eI 48271)) (eI 1000000007))))
def yQ:List W->List aj->R W:=dq 4 UL
theorem Qw(F:iZ K "_law_mixed" "_law_mixed" GV f fd)  :dw P w K mg base (iX P w) 1 f fd MC (ja K mg 3 yQ):=
 bV (k:=0) F GW rfl fun fI A outer s H E hr=>by have sc:=GW;walk_at "w"
def Na:FS:=(aL (bp 3 (kG av)) (aL (bp 4 (eI 0)) (aL (i5 (fq (e2 TB (af 0) (e2 Tr (eI 10) (eI 18)))) (bp 4 (af 0)) cQ) (aL (fC (bJ (ag (af 1) av)) (dY 5) (i5 (fq (e2 Ai (af 4) (eI 0))) (aL (eG (nv cM (af 3) (ag (e2 eU (af 4) (eI 64)) av))) (bp 4 (e2 pL (af 4) (eI 64)))) (eG (nv cM (af 3) (ag (ca 3 yQ (ag (af 0) (ag (af 5) (ag (af 2) av)))) av))))) (cA (af 3))))))
def lJ:List W->List aj->R W:=dq 6 Na
theorem Qx(F:iZ K "_law_draws" "_law_draws" GX f fd)(B:Bl mg)(NK:dh P w K mg base 1 "_law_mixed" 3 yQ):dw P w K mg base (iX P w) 2 f fd MD (ja K mg 3 lJ):=
 bV (k:=1) F GY rfl fun fI A outer s H E hr=>by have sc:=GY;walk_at "w"
def UM:FS:=(aL (i5 (fq (e2 lw (bc cW (ag (af 0) av)) (eI 0))) (cA (eI 0)) cQ) (cA (e2 bg (af 0) (e2 eU (af 1) (bc cW (ag (af 0) av))))))
def nR:List W->List aj->R W:=dq 2 UM
theorem Qy(F:iZ K "_law_cell" "_law_cell" GZ f fd)(B:Bl mg) :dw P w K mg base (iX P w) 1 f fd ME (ja K mg 2 nR):=
 bV (k:=0) F G0 rfl fun fI A outer s H E hr=>by have sc:=G0;walk_at "w"
def Nb:FS:=(aL (bp 1 (cP (ag (cP (ag (eI 0) (ag (eI 1) av))) (ag (cP (ag (eI 0) (ag (eI 5) av))) (ag (cP (ag (eI 0) (ag (eI 9) av))) (ag (cP (ag (eI 1) (ag (eI 2) av))) (ag (cP (ag (eI 1) (ag (eI 4) av))) (ag (cP (ag (eI 1) (ag (eI 6) av))) (ag (cP (ag (eI 2) (ag (eI 1) av))) (ag (cP (ag (eI 2) (ag (eI 3) av))) (ag (cP (ag (eI 2) (ag (eI 5) av))) (ag (cP (ag (eI 3) (ag (eI 2) av))) (ag (cP (ag (eI 3) (ag (eI 4) av))) (ag (cP (ag (eI 5) (ag (eI 2) av))) av)))))))))))))) (cA (e2 bg (af 1) (e2 eU (af 0) (eI 12)))))
def Cp:List W->List aj->R W:=dq 2 Nb
theorem Qz(F:iZ K "_law_shape" "_law_shape" G3 f fd)  :dw P w K mg base (iX P w) 1 f fd MF (ja K mg 1 Cp):=
 bV (k:=0) F G4 rfl fun fI A outer s H E hr=>by have sc:=G4;walk_at "w"
def Nc:FS:=(cA (L4 oN (eC (.str [])) (ag (bc qA (ag (d9 [none,some 0] (bJ (ag (af 1) av)) (dY 0) kI (e2 bg (af 1) (af 0))) av)) av)))
def Cq:List W->List aj->R W:=dq 2 Nc
theorem QB(F:iZ K "_law_names" "_law_names" G5 f fd)(B:Bl mg) :dw P w K mg base (iX P w) 1 f fd MG (ja K mg 2 Cq):=
 bV (k:=0) F G6 rfl fun fI A outer s H E hr=>by have sc:=G6;walk_at "w"
def Nd:FS:=(aL (bp 4 (kG av)) (aL (fC (sL (ag (eI 0) (ag (af 2) (ag (eI 50) av)))) (dY 5) (bp 4 (e2 dE (af 4) (ca 3 lJ (ag (ca 2 nR (ag (af 0) (ag (e2 dE (af 1) (e2 pL (af 5) (eI 50))) av))) (ag (bc Ak (ag (eI 50) (ag (e2 qu (af 2) (af 5)) av))) (ag (e2 dE (af 3) (e2 gY (eI 1009) (af 5))) av))))))) (cA (af 4))))
def Cr:List W->List aj->R W:=dq 6 Nd
theorem QC(F:iZ K "_law_blocks" "_law_blocks" G7 f fd)(B:Bl mg)(vS:dh P w K mg base 1 "_law_cell" 2 nR)(rh:dh P w K mg base 2 "_law_draws" 3 lJ):dw P w K mg base (iX P w) 3 f fd MH (ja K mg 4 Cr):=
 bV (k:=2) F G8 rfl fun fI A outer s H E hr=>by have sc:=G8;walk_at "w"
def UN:FS:=(aL (i5 (fq (e2 lw (af 0) (eI 0))) (cA (e2 dE (af 1) (af 2))) cQ) (aL (i5 (fq (e2 lw (af 0) (eI 1))) (cA (bc yb (ag (af 1) (ag (af 2) av)))) cQ) (aL (i5 (fq (e2 lw (af 0) (eI 2))) (cA (af 1)) cQ) (cA (af 2)))))
def yR:List W->List aj->R W:=dq 3 UN
theorem QD(F:iZ K "_law_grown" "_law_grown" G9 f fd)(B:Bl mg) :dw P w K mg base (iX P w) 1 f fd MI (ja K mg 3 yR):=
 bV (k:=0) F G_ rfl fun fI A outer s H E hr=>by have sc:=G_;walk_at "w"
def Nf:FS:=(aL (bp 3 (kG av)) (aL (fC (bJ (ag (e2 x6 (eI 1) (bc cW (ag (af 0) av))) av)) (dY 4) (aL (bp 5 (e2 dE (e2 eU (af 4) (eI 2)) (e2 eU (e2 bg (af 2) (eI 1)) (eI 2)))) (aL (i5 (fq (e2 lw (bc cW (ag (af 0) av)) (eI 0))) (bp 5 (eI 1)) cQ) (aL (bp 6 (kG av)) (aL (fC (bJ (ag (af 1) av)) (dY 7) (eG (nv cM (af 6) (ag (bc d6 (ag (d9 [none,some 1,some 5,some 7,some 2] (bJ (ag (af 1) av)) (dY 0) kI (bc Ak (ag (e2 qu (af 1) (eI 1)) (ag (e2 dE (ca 3 yR (ag (e2 eU (e2 bg (af 4) (eI 0)) (eI 4)) (ag (af 3) (ag (af 0) av)))) (af 2)) av)))) av)) av)))) (eG (nv cM (af 3) (ag (bc d6 (ag (af 6) av)) av)))))))) (aL (bp 8 (e2 qu (af 1) (eI 1))) (aL (i5 (fq (e2 lw (e2 eU (e2 bg (af 2) (eI 2)) (eI 2)) (eI 1))) (bp 8 (e2 eU (e2 bg (af 2) (eI 3)) (af 1))) cQ) (cA (cP (ag (af 0) (ag (bc d6 (ag (d9 [none,some 8] (bJ (ag (af 1) av)) (dY 0) kI (e2 lw (af 0) (af 1))) av)) (ag (bc d6 (ag (af 3) av)) av)))))))))
def Cs:List W->List aj->R W:=dq 9 Nf
theorem QF(F:iZ K "_law_graded" "_law_graded" Ha f fd)(B:Bl mg)(N1:dh P w K mg base 1 "_law_grown" 3 yR):dw P w K mg base (iX P w) 2 f fd MJ (ja K mg 3 Cs):=
 bV (k:=1) F Hb rfl fun fI A outer s H E hr=>by have sc:=Hb;walk_at "w"
def Ng:FS:=(aL (bp 2 (bc cW (ag (e2 bg (af 0) (eI 1)) av))) (aL (bp 3 (bc nK (ag (e2 bg (af 0) (eI 2)) av))) (aL (bp 4 (e2 eU (e2 bg (af 1) (eI 0)) (bc cW (ag (af 3) av)))) (aL (bp 5 (bc nK (ag (e2 bg (af 3) (af 4)) av))) (aL (bp 6 (bc nK (ag (e2 bg (af 5) (e2 eU (e2 bg (af 1) (eI 1)) (af 2))) av))) (aL (lB (af 6) (e2 eU (e2 bg (af 1) (eI 2)) (af 2)) (e2 eU (e2 bg (af 1) (eI 3)) (af 2)) qY) (aL (lB (af 5) (e2 eU (e2 bg (af 1) (eI 1)) (af 2)) (bc d6 (ag (af 6) av)) qY) (aL (lB (af 3) (af 4) (bc d6 (ag (af 5) av)) qY) (cA (cP (ag (e2 bg (af 0) (eI 0)) (ag (e2 bg (af 0) (eI 1)) (ag (bc d6 (ag (af 3) av)) av)))))))))))))
def Ct:List W->List aj->R W:=dq 7 Ng
theorem QH(F:iZ K "_law_spotted" "_law_spotted" Hc f fd)(B:Bl mg) :dw P w K mg base (iX P w) 1 f fd MK (ja K mg 2 Ct):=
 bV (k:=0) F Hd rfl fun fI A outer s H E hr=>by have sc:=Hd;walk_at "w"
def Nh:FS:=(aL (bp 3 (bc cW (ag (af 1) av))) (aL (bp 4 (eI 0)) (aL (bp 5 (kG av)) (aL (fC (cF (e2 bg (af 0) (eI 2))) (dY 6) (aL (bp 7 (kG av)) (aL (fC (bJ (ag (af 3) av)) (dY 8) (aL (bp 9 (kG av)) (aL (fC (bJ (ag (af 3) av)) (dY 10) (aL (bp 11 (e2 bg (e2 bg (af 6) (e2 bg (af 1) (af 8))) (e2 bg (af 1) (af 10)))) (aL (sB (d9 [none,some 11,some 1] (bJ (ag (af 3) av)) (dY 0) (fq (e2 lw (e2 bg (af 2) (af 0)) (af 1))) (af 0)) (dY 12)) (aL (eG (nv cM (af 9) (ag (e2 bg (af 12) (e2 eU (e2 bg (af 2) (e2 eU (af 4) (bc cW (ag (af 2) av)))) (bc cW (ag (af 12) av)))) av))) (bp 4 (e2 dE (af 4) (eI 1))))))) (eG (nv cM (af 7) (ag (bc d6 (ag (af 9) av)) av)))))) (eG (nv cM (af 5) (ag (bc d6 (ag (af 7) av)) av)))))) (cA (cP (ag (e2 bg (af 0) (eI 0)) (ag (bc d6 (ag (d9 [none,some 0] (cF (af 1)) (dY 0) kI (e2 bg (e2 bg (af 1) (eI 1)) (af 0))) av)) (ag (bc d6 (ag (af 5) av)) av)))))))))
def Cu:List W->List aj->R W:=dq 13 Nh
theorem QJ(F:iZ K "_law_blown" "_law_blown" He f fd)(B:Bl mg) :dw P w K mg base (iX P w) 1 f fd ML (ja K mg 3 Cu):=
 bV (k:=0) F Hf rfl fun fI A outer s H E hr=>by have sc:=Hf;walk_at "w"
def Ni:FS:=(aL (bp 3 (kG (ag (eI 0) av))) (aL (fC (pO (ag (eI 1) (ag (e2 dE (af 0) (af 1)) av))) (dY 4) (aL (bp 5 (af 4)) (aL (i5 (fq (e2 TB (af 4) (af 0))) (bp 5 (e2 eU (e2 bg (af 2) (e2 dE (e2 gY (eI 2) (af 4)) (eI 1))) (af 0))) cQ) (eG (nv og (af 3) (ag (e2 dE (eI 1) (e2 eU (e2 bg (af 2) (e2 gY (eI 2) (af 4))) (bc cW (ag (af 3) av)))) (ag (af 5) av))))))) (cA (af 3))))
def Cv:List W->List aj->R W:=dq 6 Ni
theorem QK(F:iZ K "_law_owner" "_law_owner" Hg f fd)(B:Bl mg) :dw P w K mg base (iX P w) 1 f fd MM (ja K mg 3 Cv):=
 bV (k:=0) F Hh rfl fun fI A outer s H E hr=>by have sc:=Hh;walk_at "w"
def Nj:FS:=(aL (bp 4 (bc d6 (ag (d9 [none,some 3] (bJ (ag (af 1) av)) (dY 0) kI (e2 lw (e2 eU (e2 bg (af 1) (af 0)) (eI 2)) (eI 1))) av))) (aL (bp 5 (kG av)) (aL (bp 6 (af 1)) (aL (fC (bJ (ag (e2 x6 (eI 1) (bc cW (ag (af 0) av))) av)) (dY 7) (aL (bp 8 (kG av)) (aL (fC (bJ (ag (af 1) av)) (dY 9) (aL (eG (nv cM (af 8) (ag (bc d6 (ag (d9 [none,some 2,some 3,some 6] (bJ (ag (af 1) av)) (dY 0) kI (e2 eU (e2 bg (af 2) (e2 dE (af 3) (af 0))) (af 1))) av)) av))) (bp 6 (e2 dE (af 6) (af 1))))) (eG (nv cM (af 5) (ag (bc d6 (ag (af 8) av)) av)))))) (cA (cP (ag (af 0) (ag (af 4) (ag (bc d6 (ag (af 5) av)) av)))))))))
def Cw:List W->List aj->R W:=dq 10 Nj
theorem QL(F:iZ K "_law_machine" "_law_machine" Hi f fd)(B:Bl mg) :dw P w K mg base (iX P w) 1 f fd MN (ja K mg 4 Cw):=
 bV (k:=0) F Hj rfl fun fI A outer s H E hr=>by have sc:=Hj;walk_at "w"
def Nk:FS:=(aL (bp 3 (ca 3 lJ (ag (ca 2 nR (ag (af 0) (ag (af 1) av))) (ag (eI 10) (ag (eI 1000003) av))))) (aL (sB (ca 1 Cp (ag (e2 bg (af 3) (eI 0)) av)) (ul 2 (b8 (dY 4) (b8 (dY 5) hG)))) (aL (bp 6 (ca 2 Cq (ag (af 2) (ag (af 4) av)))) (aL (bp 7 (ca 4 Cr (ag (af 0) (ag (e2 dE (af 1) (eI 1)) (ag (e2 dE (e2 dE (af 5) (e2 gY (e2 gY (af 5) (af 5)) (e2 x6 (eI 1) (af 4)))) (eI 40)) (ag (eI 3000017) av)))))) (aL (i5 (fq (e2 lw (e2 eU (e2 bg (af 3) (eI 3)) (eI 3)) (eI 0))) (aL (bp 8 (ca 3 Cs (ag (af 6) (ag (af 5) (ag (af 7) av))))) (aL (i5 (fq (e2 lw (e2 eU (e2 bg (af 3) (eI 4)) (eI 3)) (eI 0))) (bp 8 (ca 2 Ct (ag (af 8) (ag (Fi (af 7) (lA (eI 4)) (lA (eI 8))) av)))) cQ) (cA (ca 3 Cu (ag (af 8) (ag (ca 3 Cv (ag (af 5) (ag (eI 0) (ag (Fi (af 7) (lA (eI 8)) (lA (eI 30))) av)))) (ag (af 7) av))))))) cQ) (aL (bp 9 (af 5)) (aL (i5 (fq (e2 lw (e2 eU (e2 bg (af 3) (eI 1)) (eI 3)) (eI 0))) (bp 9 (e2 dE (eI 1) (e2 eU (e2 bg (af 3) (eI 2)) (af 5)))) cQ) (cA (ca 4 Cw (ag (af 6) (ag (af 5) (ag (af 9) (ag (af 7) av)))))))))))))
def Cy:List W->List aj->R W:=dq 10 Nk
theorem QM(F:iZ K "_law_any" "_law_any" Hk f fd) (N5:dh P w K mg base 3 "_law_blocks" 4 Cr)(NR:dh P w K mg base 1 "_law_blown" 3 Cu)(vS:dh P w K mg base 1 "_law_cell" 2 nR)(rh:dh P w K mg base 2 "_law_draws" 3 lJ)(NT:dh P w K mg base 2 "_law_graded" 3 Cs)(NJ:dh P w K mg base 1 "_law_machine" 4 Cw)(NO:dh P w K mg base 1 "_law_names" 2 Cq)(NW:dh P w K mg base 1 "_law_owner" 3 Cv)(NA:dh P w K mg base 1 "_law_shape" 1 Cp)(NV:dh P w K mg base 1 "_law_spotted" 2 Ct):dw P w K mg base (iX P w) 4 f fd MO (ja K mg 3 Cy):=
 bV (k:=3) F Hl rfl fun fI A outer s H E hr=>by have sc:=Hl;walk_at "w"
def Nl:FS:=(aL (bp 3 (eC (.str [65,66,67,68,69,70,71,72,73,74,75,76,77,78,79,80,81,82,83,84,85,86,87,88,89,90,97,98,99,100,101,102,103,104,105,106,107,108,109,110,111,112,113,114,115,116,117,118,119,120,121,122]))) (aL (bp 4 (eC (.str []))) (aL (fC (cF (ca 3 lJ (ag (af 0) (ag (af 1) (ag (af 2) av))))) (dY 5) (aL (bp 6 (e2 eU (af 5) (bc cW (ag (af 3) av)))) (aL (bp 4 (e2 dE (af 4) (e2 bg (af 3) (af 6)))) (bp 3 (e2 dE (Fi (af 3) qX (lA (af 6))) (Fi (af 3) (lA (e2 dE (af 6) (eI 1))) qX)))))) (cA (af 4)))))
def Cz:List W->List aj->R W:=dq 7 Nl
theorem QN(F:iZ K "_law_pool" "_law_pool" Hm f fd)(B:Bl mg)(rh:dh P w K mg base 2 "_law_draws" 3 lJ):dw P w K mg base (iX P w) 3 f fd MP (ja K mg 3 Cz):=
 bV (k:=2) F Ho rfl fun fI A outer s H E hr=>by have sc:=Ho;walk_at "w"
def Nm:FS:=(aL (bp 1 (kG (ag (eI 0) av))) (aL (bp 2 (sQ (nO (eI 0) (cP av) qZ))) (aL (bp 3 (eI 0)) (aL (j8 (fq (e2 DF (af 3) (bc cW (ag (af 1) av)))) (aL (fC (cF (bc nK (ag (Fi (af 1) qX (lA (e2 dE (af 3) (eI 1)))) av))) (dY 4) (fC (bJ (ag (bc cW (ag (e2 bg (af 0) (eI 2)) av)) av)) (dY 5) (fC (cF (cP (ag (cP (ag (e2 bg (af 1) (af 3)) (ag (af 4) av))) (ag (cP (ag (af 4) (ag (e2 bg (af 1) (af 3)) av))) av)))) (ul 2 (b8 (dY 6) (b8 (dY 7) hG))) (aL (bp 8 (e2 bg (e2 bg (e2 bg (e2 bg (af 0) (eI 2)) (af 5)) (af 6)) (af 7))) (i5 (fq (e2 (lE true) (af 8) (af 2))) (aL (lB (af 2) (af 8) (ca 3 oP (ag (e2 gp (af 2) (af 6)) (ag (e2 gp (af 2) (af 7)) (ag (ca 2 tK (ag (e2 bg (af 0) (eI 0)) (ag (af 5) av))) av)))) jn) (eG (nv cM (af 1) (ag (af 8) av)))) cQ))))) (bp 3 (e2 dE (af 3) (eI 1))))) (cA (af 2))))))
def CA:List W->List aj->R W:=dq 9 Nm
theorem QO(F:iZ K "_law_trees" "_law_trees" Hq f fd)(B:Bl mg)(C5:dh P w K mg base 1 "_law_given" 2 tK)(C4:dh P w K mg base 1 "_law_join" 3 oP):dw P w K mg base (iX P w) 2 f fd MQ (ja K mg 1 CA):=
 bV (k:=1) F Hr rfl fun fI A outer s H E hr=>by have sc:=Hr;walk_at "w"
def HF:FS:=(aL (i5 (xA (xX (fq (oE "tuple" (af 2)))) (xA (fq (e2 Aj (bc cW (ag (af 2) av)) (eI 4))) (xA (xX (fq (oE "tuple" (e2 bg (af 2) (eI 3))))) (fq (e2 (sA true) (bc cW (ag (e2 bg (af 2) (eI 3)) av)) (cP (ag (eI 0) (ag (eI 3) av)))))))) (cA (eC (.bl false))) cQ) (aL (fC (cF (e2 dE (Fi (af 2) qX (lA (eI 3))) (e2 bg (af 2) (eI 3)))) (dY 3) (i5 (xA (xX (fq (oE "int" (af 3)))) (fq (oE "bool" (af 3)))) (cA (eC (.bl false))) cQ)) (aL (i5 (xA (fq (e2 (lE true) (e2 bg (af 2) (eI 0)) (af 1))) (xA (fq (e2 (lE true) (e2 bg (af 2) (eI 1)) (af 1))) (fq (e2 Aj (e2 Ai (e2 bg (af 2) (eI 2)) (eI 0)) (e2 lw (bc cW (ag (e2 bg (af 2) (eI 3)) av)) (eI 3)))))) (cA (eC (.bl false))) cQ) (aL (i5 (fq (e2 lw (bc cW (ag (e2 bg (af 2) (eI 3)) av)) (eI 0))) (cA (e2 lw (e2 bg (af 2) (eI 2)) (eI 0))) cQ) (cA (wa (sH Ap DF (eI 0) (e2 bg (e2 bg (af 2) (eI 3)) (eI 0)) (bc cW (ag (e2 bg (af 0) (eI 2)) av))) (wa (e2 (sA false) (e2 bg (e2 bg (af 2) (eI 3)) (eI 1)) (cP (ag (eI 0) (ag (eI 1) av)))) (e2 (lE false) (e2 bg (e2 bg (af 2) (eI 3)) (eI 2)) (af 1)))))))))
def yS:List W->List aj->R W:=dq 4 HF
theorem QP(F:iZ K "_law_shaped" "_law_shaped" Hs f fd)(B:Bl mg) :dw P w K mg base (iX P w) 1 f fd MR (ja K mg 3 yS):=
 bV (k:=0) F Ht rfl fun fI A outer s H E hr=>by have sc:=Ht;walk_at "w"
def Nn:FS:=(aL (bp 4 (e2 gp (af 1) (e2 bg (af 3) (eI 0)))) (aL (bp 5 (e2 gp (af 1) (e2 bg (af 3) (eI 1)))) (aL (j8 (fq (e2 Ai (e2 bg (af 3) (eI 2)) (eI 0))) (aL (sB (e2 bg (af 3) (eI 3)) (ul 3 (b8 (dY 6) (b8 (dY 7) (b8 (dY 8) hG))))) (aL (bp 9 (ca 2 tK (ag (e2 bg (af 0) (eI 0)) (ag (af 6) av)))) (aL (bp 10 (e2 bg (e2 bg (af 0) (eI 2)) (af 6))) (aL (i5 (fq (e2 lw (af 7) (eI 0))) (aL (bp 11 (cP (ag (e2 bg (e2 bg (af 10) (e2 bg (af 3) (eI 0))) (af 8)) (ag (e2 bg (e2 bg (af 10) (e2 bg (af 3) (eI 1))) (af 8)) av)))) (aL (bp 4 (ca 3 oP (ag (af 4) (ag (e2 gp (af 1) (af 8)) (ag (af 9) av))))) (bp 5 (ca 3 oP (ag (af 5) (ag (e2 gp (af 1) (af 8)) (ag (af 9) av))))))) (aL (bp 11 (cP (ag (e2 bg (e2 bg (af 10) (af 8)) (e2 bg (af 3) (eI 0))) (ag (e2 bg (e2 bg (af 10) (af 8)) (e2 bg (af 3) (eI 1))) av)))) (aL (bp 4 (ca 3 oP (ag (e2 gp (af 1) (af 8)) (ag (af 4) (ag (af 9) av))))) (bp 5 (ca 3 oP (ag (e2 gp (af 1) (af 8)) (ag (af 5) (ag (af 9) av)))))))) (aL (bp 12 (e2 bg (af 3) (eI 2))) (aL (bp 3 (s_ (af 2) (af 11))) (i5 (xA (fq (uD (af 3))) (fq (e2 Aj (e2 bg (af 3) (eI 2)) (e2 qu (af 12) (eI 1))))) (cA (eC (.bl false))) cQ)))))))) (aL (bp 13 (ca 2 yP (ag (af 0) (ag (af 4) av)))) (aL (i5 (fq (e2 Ap (bc yb (ag (bc cW (ag (af 4) av)) (ag (bc cW (ag (af 5) av)) av))) (eI 100))) (i5 (xA (xX (fq (ca 2 (tL 40) (ag (ca 2 tJ (ag (af 0) (ag (af 4) av))) (ag (af 13) av))))) (xX (fq (ca 2 (tL 40) (ag (ca 2 tJ (ag (af 0) (ag (af 5) av))) (ag (Fa (af 13)) av)))))) (cA (eC (.bl false))) cQ) cQ) (cA (e2 Aj (af 13) (ca 2 yP (ag (af 0) (ag (af 5) av))))))))))
def yT:List W->List aj->R W:=dq 14 Nn
theorem QQ(F:iZ K "_law_parted" "_law_parted" Hu f fd)(B:Bl mg)(C5:dh P w K mg base 1 "_law_given" 2 tK)(C4:dh P w K mg base 1 "_law_join" 3 oP)(N4:dh P w K mg base 3 "_law_lets" 2 yP)(Je:dh P w K mg base 40 "_law_same" 2 (tL 40))(N2:dh P w K mg base 5 "lets_by" 2 tJ):dw P w K mg base (iX P w) 41 f fd MS (ja K mg 4 yT):=
 bV (k:=40) F Hv rfl fun fI A outer s H E hr=>by have sc:=Hv;walk_at "w"
def No:FS:=(aL (sB (af 2) (ul 2 (b8 (dY 4) (b8 (dY 5) hG)))) (aL (fC (sL (ag (eI 0) (ag (e2 qu (bc cW (ag (af 3) av)) (eI 2)) (ag (eI 3) av)))) (dY 6) (aL (i5 (fq (e2 Aj (e2 bg (e2 bg (af 0) (eI 1)) (af 4)) (e2 bg (e2 bg (af 0) (eI 1)) (af 5)))) (cA (eC (.bl false))) cQ) (aL (bp 7 (e2 bg (e2 bg (af 0) (eI 2)) (e2 eU (e2 bg (af 3) (af 6)) (bc cW (ag (e2 bg (af 0) (eI 2)) av))))) (aL (bp 8 (e2 bg (af 1) (e2 eU (e2 bg (af 3) (e2 dE (af 6) (eI 1))) (bc cW (ag (af 1) av))))) (i5 (fq (e2 lw (e2 eU (e2 bg (af 3) (e2 dE (af 6) (eI 2))) (eI 2)) (eI 0))) (FW 4 5 (ag (e2 bg (e2 bg (af 7) (af 4)) (af 8)) (ag (e2 bg (e2 bg (af 7) (af 5)) (af 8)) av))) (FW 4 5 (ag (e2 bg (e2 bg (af 7) (af 8)) (af 4)) (ag (e2 bg (e2 bg (af 7) (af 8)) (af 5)) av)))))))) (cA (e2 lw (e2 bg (e2 bg (af 0) (eI 1)) (af 4)) (e2 bg (e2 bg (af 0) (eI 1)) (af 5))))))
def yU:List W->List aj->R W:=dq 9 No
theorem QR(F:iZ K "_law_alike_in" "_law_alike_in" Hw f fd)(B:Bl mg) :dw P w K mg base (iX P w) 1 f fd MU (ja K mg 4 yU):=
 bV (k:=0) F Hy rfl fun fI A outer s H E hr=>by have sc:=Hy;walk_at "w"
def Np:FS:=(aL (bp 1 (ca 3 Cy (ag (af 0) (ag (eI 1) (ag (ca 3 Cz (ag (ca 2 nR (ag (af 0) (ag (eI 0) av))) (ag (eI 6) (ag (eI 2000003) av)))) av))))) (aL (bp 2 (ca 1 CA (ag (af 1) av))) (aL (bp 3 (ca 1 Ci (ag (af 1) av))) (aL (i5 (xX (fq (oE "tuple" (af 3)))) (cA (eC (.bl false))) cQ) (aL (bp 4 pS) (aL (fC (cF (af 3)) (dY 5) (aL (i5 (xX (fq (ca 3 yS (ag (af 1) (ag (af 2) (ag (af 5) av)))))) (cA (eC (.bl false))) cQ) (aL (lB (af 4) (cP (ag (e2 bg (af 5) (eI 0)) (ag (e2 bg (af 5) (eI 1)) av))) (af 5) q_) (lB (af 4) (cP (ag (e2 bg (af 5) (eI 1)) (ag (e2 bg (af 5) (eI 0)) av))) (cP (ag (e2 bg (af 5) (eI 1)) (ag (e2 bg (af 5) (eI 0)) (ag (e2 bg (af 5) (eI 2)) (ag (e2 bg (af 5) (eI 3)) av))))) q_)))) (aL (i5 (fq (e2 Ai (bc cW (ag (af 3) av)) (eI 0))) (aL (bp 6 (e2 eU (e2 bg (ca 3 lJ (ag (ca 2 nR (ag (af 0) (ag (eI 10) av))) (ag (eI 1) (ag (eI 4000037) av)))) (eI 0)) (bc cW (ag (af 3) av)))) (fC (cF (cP (ag (e2 bg (af 3) (af 6)) (ag (e2 bg (af 3) (Ao (eI 1))) av)))) (dY 5) (i5 (xX (fq (ca 4 yT (ag (af 1) (ag (af 2) (ag (af 4) (ag (af 5) av))))))) (cA (eC (.bl false))) cQ))) cQ) (aL (bp 7 (bc pq (ag (bc qB (ag (af 2) av)) av))) (aL (bp 8 (ca 3 lJ (ag (ca 2 nR (ag (af 0) (ag (eI 11) av))) (ag (eI 18) (ag (eI 5000011) av))))) (aL (bp 9 (ca 3 lJ (ag (ca 2 nR (ag (af 0) (ag (eI 12) av))) (ag (eI 9) (ag (eI 6000011) av))))) (aL (fC (cF (af 7)) (dY 10) (fC (cF (af 7)) (dY 11) (i5 (LS (fq (e2 DF (af 10) (af 11))) (fq (e2 (AA true) (cP (ag (af 10) (ag (af 11) av))) (af 4)))) (i5 (xA (xX (fq (ca 4 yU (ag (af 1) (ag (af 7) (ag (cP (ag (af 10) (ag (af 11) av))) (ag (af 8) av))))))) (xX (fq (ca 4 yU (ag (af 1) (ag (af 7) (ag (cP (ag (af 10) (ag (af 11) av))) (ag (af 9) av)))))))) (cA (eC (.bl false))) cQ) cQ))) (cA (eC (.bl true))))))))))))))
def f_q45:List W->List aj->R W:=dq 12 Np
theorem QT(F:iZ K "law" "law" pZ f fd)(B:Bl mg)(NI:dh P w K mg base 1 "_law_alike_in" 4 yU)(NH:dh P w K mg base 4 "_law_any" 3 Cy)(vS:dh P w K mg base 1 "_law_cell" 2 nR)(rh:dh P w K mg base 2 "_law_draws" 3 lJ)(NU:dh P w K mg base 41 "_law_parted" 4 yT)(NN:dh P w K mg base 3 "_law_pool" 3 Cz)(ND:dh P w K mg base 1 "_law_shaped" 3 yS)(NX:dh P w K mg base 2 "_law_trees" 1 CA)(NS:dh P w K mg base 4 "unlike_rows" 1 Ci):dw P w K mg base (iX P w) 42 f fd Hz (ja K mg 1 f_q45):=
 bV (k:=41) F HA rfl fun fI A outer s H E hr=>by have sc:=HA;walk_at "w"
end
theorem QU(ns:List α)(hl:0<ns.length)(k:Int):∃c∈ns,pG ns (k%((ns.length:Nat):Int))=some c:=by
 have h0:0<=k%((ns.length:Nat):Int):=gv _ (by omega)
 have h1:k%((ns.length:Nat):Int)<ns.length:=iz _ (by omega)
 obtain⟨m,hm⟩:=l9 h0
 rw[hm]at h1 ⊢
 have h2:m<ns.length:=by omega
 exact⟨ns[m],fV _,dm (by simp[h2])⟩
theorem on(h:st[n]?=some (.ro (ns.map W.int)))(k:Int):∃c,nR [.loc n,.int k] st=.ok (.int c) st:=by
 by_cases hn:ns=[]
 ·subst hn
  refine⟨0,?_⟩
  apply ol;apply F_;apply tj
  ·(repeat' (first|with_reducible exact io (rR h)|walk_at "ev1"))
  ·(walk_at "evs")
 ·have hl:0<ns.length:=jN.mpr hn
  obtain⟨c,hc,e⟩:=QU (ns.map W.int) (by simpa using hl) k
  obtain⟨c,_,rfl⟩:=aJ.mp hc
  refine⟨c,?_⟩
  apply ol;apply L'
  ·apply tq
   ·(repeat' (first|with_reducible exact io (rR h)|walk_at "ev1"))
    rw[bq,ai];omega
   ·(walk_at "evs")
  ·(repeat' (first|with_reducible exact io (rR h)|with_reducible exact kS (rR h) e|walk_at "ev1"))
   rw[ai];omega
theorem HG(c k s:Int)(hk:-(2^64)<k/\k<2^64)(st:List aj):∃r,0<=r/\yQ [.int c,.int k,.int s] st=.ok (.int r) st:=by
 have big:∀q:Int,0<=q%2147483647/\q%2147483647<2147483647:=fun q=>⟨gv _ (by decide),iz _ (by decide)⟩
 refine⟨(((c+7*k*k+13*k+s)*69621%2147483647*((c+7*k*k+13*k+s)*69621%2147483647/1009+3)+31*k+s)%2147483629*48271)%1000000007,gv _ (by decide),?_⟩
 apply ol;apply L'
 ·(walk_at "evs")<;>first|exact .inl (by decide)|exact .inr (by decide)|exact .inr hk
 ·(walk_at "evs")<;>first|exact .inl (by decide)|exact .inr (by decide)|exact .inl (by have:=big ((c+7*k*k+13*k+s)*69621);omega)
theorem lK(c s:Int)(m:Nat)(hm:m<=1000)(st:List aj):∃ds:List Int,ds.length=m/\(∀d∈ds,0<=d)/\lJ [.int c,.int m,.int s] st=.ok (.loc st.length) (st++[.lst (ds.map W.int)]):=by
 suffices hh:gJ (rD fun w bG=>∃j x,w=.loc (st.length+j)/\bG=st++x/\j=0/\∃ds:List Int,x=[.lst (ds.map W.int)]/\ds.length=m/\∀d∈ds,0<=d) (Na ([W.int c,.int m,.int s].map some++List.replicate (6-3) none) st) by
  obtain⟨j,x,⟨rfl,ds,rfl,h1,h2⟩,e⟩:=jl hh
  exact⟨ds,h1,h2,e⟩
 apply au
 ·(walk_at "evs")
 apply au
 ·(walk_at "evs")
 have main:∀r0:Int,gJ (rD fun w bG=>∃j x,w=.loc (st.length+j)/\bG=st++x/\j=0/\∃ds:List Int,x=[.lst (ds.map W.int)]/\ds.length=m/\∀d∈ds,0<=d)
   (aL (fC (bJ (ag (af 1) av)) (dY 5) (i5 (fq (e2 Ai (af 4) (eI 0))) (aL (eG (nv cM (af 3) (ag (e2 eU (af 4) (eI 64)) av))) (bp 4 (e2 pL (af 4) (eI 64)))) (eG (nv cM (af 3) (ag (ca 3 yQ (ag (af 0) (ag (af 5) (ag (af 2) av)))) av))))) (cA (af 3))
   [some (.int c),some (.int m),some (.int s),some (.loc st.length),some (.int r0),none] (st++[.lst []])):=by
  intro r0
  refine cR (fun i ρ bG=>∃(r:Int) (o:Option W) (ds:List Int),ρ=[some (.int c),some (.int m),some (.int s),some (.loc st.length),some (.int r),o]/\bG=st++[.lst (ds.map W.int)]/\ds.length=i/\∀d∈ds,0<=d) (fD (by(walk_at "evs");rfl) (by omega))
   ⟨r0,none,[],rfl,rfl,rfl,by simp⟩ (fun _ _ _ _=>trivial) ?_ ?_
  ·rintro i w ρ bG hw ⟨r,o,ds,rfl,rfl,hd,h⟩
   obtain⟨hi,rfl⟩:=gW hw
   refine⟨_,rfl,?_⟩
   have iE:(st++[aj.lst (ds.map W.int)])[st.length]?=some (.lst (ds.map W.int)):=by rw[bN];rfl
   have hsh:(ds.map W.int).length<ji:=by rw[ai,hd];show i<1000000;omega
   by_cases hr:0<r
   ·apply lH
    ·(walk_at "evs");simpa using hr
    apply au
    ·(repeat' (first|with_reducible exact dy iE|with_reducible exact pY iE hsh|walk_at "ev1"))
    rw[dO]
    apply dz
    ·(walk_at "evs")
    ·refine⟨_,_,rfl,r/64,_,ds++[r%64],rfl,by simp,by simp[hd],fun d hd'=>?_⟩
     rcases aI.mp hd' with hd'|hd'
     ·exact h d hd'
     ·rw[bR.mp hd'];exact gv _ (by decide)
   ·obtain⟨q,hq,e⟩:=HG c (0+i) s (by omega) (st++[aj.lst (ds.map W.int)])
    apply iB
    ·(walk_at "evs");simpa using hr
    apply dz
    ·(repeat' (first|with_reducible exact dy iE|with_reducible exact pY iE hsh|with_reducible exact e|walk_at "ev1"))
    ·refine⟨_,_,rfl,r,_,ds++[q],rfl,by rw[dO];simp,by simp[hd],fun d hd'=>?_⟩
     rcases aI.mp hd' with hd'|hd'
     ·exact h d hd'
     ·rw[bR.mp hd'];exact hq
  ·rintro ρ bG ⟨r,o,ds,rfl,rfl,hd,h⟩
   apply b9
   ·(walk_at "evs")
   ·exact⟨_,_,rfl,0,_,rfl,rfl,rfl,ds,rfl,by rw[hd];simpa using cN 0 m,h⟩
 by_cases hc:(10:Int)^18<=c
 ·apply au
  ·apply tj
   ·(walk_at "evs")<;>simpa using hc
   ·(walk_at "evs")
  ·exact main c
 ·apply au
  ·apply tq
   ·(walk_at "evs")<;>simpa using hc
   ·(walk_at "evs")
  ·exact main 0
abbrev LL:List Nat:=[65,66,67,68,69,70,71,72,73,74,75,76,77,78,79,80,81,82,83,84,85,86,87,88,89,90,97,98,99,100,101,102,103,104,105,106,107,108,109,110,111,112,113,114,115,116,117,118,119,120,121,122]
theorem KW(c s:Int)(m:Nat)(hm:m<=52)(st:List aj):∃l:List Nat,l.length=m/\l.Nodup/\(∀d∈l,d∈LL)/\Cz [.int c,.int m,.int s] st=.ok (.str l) st:=by
 suffices hh:gJ (rD fun w bG=>(∃x,bG=st++x)/\undWs st.length [w]=true/\∃l:List Nat,w=.str l/\l.length=m/\l.Nodup/\∀d∈l,d∈LL) (Nl ([W.int c,.int m,.int s].map some++List.replicate (7-3) none) st) by
  obtain⟨w,⟨l,rfl,h1,h2,h3⟩,e⟩:=kT hh
  exact⟨l,h1,h2,h3,e⟩
 obtain⟨ds,h1,h2,e⟩:=lK c s m (by omega) st
 apply au
 ·(walk_at "evs")
 apply au
 ·(walk_at "evs")
 have iE:lstOf (st++[aj.lst (ds.map W.int)]) st.length=some (ds.map W.int):=aM (by rw[bN];rfl)
 refine cR (fun i ρ bG=>∃(r f:List Nat) (o o2:Option W),ρ=[some (.int c),some (.int m),some (.int s),some (.str r),some (.str f),o,o2]/\bG=st++[.lst (ds.map W.int)]/\f.length=i/\r.length+i=52/\(f++r).Perm LL) (fM (by(repeat' (first|with_reducible exact e|walk_at "ev1"))) iE)
  ⟨LL,[],none,none,rfl,rfl,rfl,rfl,.refl _⟩ (fun i ρ bG h=>?_) ?_ ?_
 ·obtain⟨r,f,o,o2,rfl,rfl,_⟩:=h
  exact iE
 ·rintro i w ρ bG hw ⟨r,f,o,o2,rfl,rfl,hf,hr,hfl⟩
  obtain⟨d,hd,rfl⟩:∃d,ds[i]?=some d/\w=.int d:=by
   simp only[ak,aU]at hw
   obtain⟨d,h1,rfl⟩:=hw
   exact⟨d,h1,rfl⟩
  have hi:i<m:=by rw[<- h1];exact(ac.mp hd).1
  obtain⟨q,hq,eq⟩:=ia (q:=d) (n:=r.length) (by omega)
  have hL:r.length<=ji:=by show _<=1000000;omega
  have hLf:f.length<=ji:=by show _<=1000000;omega
  have hat:pG r (d%(r.length:Int))=some r[q]:=by rw[eq];exact dm (by simp[hq])
  refine⟨_,rfl,?_⟩
  apply au
  ·(repeat' (first|with_reducible exact tu hL|walk_at "ev1"))
   show 0<(r.length:Int);omega
  apply au
  ·have ha:f.length+[r[q]].length<=ji:=by show _+1<=1000000;omega
   (repeat' (first|with_reducible exact Gd hL hat|with_reducible exact F' ha|walk_at "ev1"))
  apply dz
  ·(repeat' (first|with_reducible exact T9 hL|walk_at "ev1"))
   rw[eq,rS (by omega),show((q:Int)+1)=((q+1:Nat):Int)from rfl,rT (by omega),aZ,fS]
   show _<=1000000;omega
  ·refine⟨_,_,rfl,_,_,_,_,rfl,rfl,by simp[hf],?_,?_⟩
   ·rw[eq,rS (by omega),show((q:Int)+1)=((q+1:Nat):Int)from rfl,rT (by omega),aB,aZ,fS]
    omega
   ·rw[eq,rS (by omega),show((q:Int)+1)=((q+1:Nat):Int)from rfl,rT (by omega)]
    refine List.Perm.trans ?_ hfl
    rw[aV]
    refine List.Perm.append_left f ?_
    have e:r=r.take q++r[q]::r.drop (q+1):=by rw[<- dJ hq,nu]
    have e2:(r[q]::(r.take q++r.drop (q+1))).Perm r:=(List.perm_middle.symm).trans (by rw[<- e])
    exact e2
 ·rintro ρ bG ⟨r,f,o,o2,rfl,rfl,hf,hr,hfl⟩
  apply b9
  ·(walk_at "evs")
  ·exact⟨_,_,rfl,⟨_,rfl⟩,rfl,f,rfl,by rw[hf];simpa using h1,(db.mp (hfl.nodup_iff.mpr (by decide))).1,fun d hd=>hfl.mem_iff.mp (fE _ hd)⟩
theorem iH{s:List aj}{p:Nat}{c:aj}(h:st <+: s)(hp:st.length<=p):st <+: s.set p c:=by
 obtain⟨x,rfl⟩:=h
 rw[show p=st.length+(p-st.length) by omega,gH]
 exact ax _ _
theorem oo{s y:List aj}(h:st <+: s):st <+: s++y:=h.trans (ax _ _)
theorem pre_get{s:List aj}{c:aj}(h:st <+: s)(e:st[i]?=some c):s[i]?=some c:=by
 obtain⟨x,rfl⟩:=h
 exact aG e
theorem ki{s:List aj}{p:Nat}{c d:aj}(h:s[p]?=some d):(s.set p c)[p]?=some c:=by
 rw[ba (ac.mp h).1]
theorem AR{s:List aj}{p q:Nat}{c:aj}(h:p≠q):(s.set p c)[q]?=s[q]?:=aS h
theorem QV{s:List aj}{p:Nat}{c:aj}(h:s[p]?=some c):p<s.length:=(ac.mp h).1
theorem bE{s:List aj}{c:aj}:(s++[c])[s.length]?=some c:=by rw[bN];rfl
def qm(l:List Int):List W:=l.map W.int
theorem fm{s:List aj}{p i:Nat}{ds:List Int}{d:Int}(h:s[p]?=some (.lst (qm ds)))(e:ds[i]?=some d):bg (.loc p) (.int i) s=.ok (.int d) s:=kS (aM h) (dm (by rw[qm,ak,e];rfl))
theorem HH(d:Int)(st:List aj):∃c n:Nat,c<=5/\1<=n/\n<=9/\n*n*2^c<=200/\Cp [.int d] st=.ok (.tup [.int c,.int n]) st:=by
 suffices hh:gJ (rD fun w bG=>(∃x,bG=st++x)/\undWs st.length [w]=true/\∃c n:Nat,w=.tup [.int c,.int n]/\c<=5/\1<=n/\n<=9/\n*n*2^c<=200) (Nb ([W.int d].map some++List.replicate (2-1) none) st) by
  obtain⟨w,⟨c,n,rfl,h1,h2,h3,h4⟩,e⟩:=kT hh
  exact⟨c,n,h1,h2,h3,h4,e⟩
 apply au
 ·(walk_at "evs")
 have hd:d%12=0\/d%12=1\/d%12=2\/d%12=3\/d%12=4\/d%12=5\/d%12=6\/d%12=7\/d%12=8\/d%12=9\/d%12=10\/d%12=11:=by
  obtain⟨m,hm,em⟩:=ia (q:=d) (n:=12) (by decide)
  rw[show d%12=_ from em]
  clear em
  revert m
  decide
 have hm:e2 eU (af 0) (eI 12) (([W.int d].map some++List.replicate (2-1) none).set 1 (some (.tup [.tup [.int 0,.int 1],.tup [.int 0,.int 5],.tup [.int 0,.int 9],.tup [.int 1,.int 2],.tup [.int 1,.int 4],.tup [.int 1,.int 6],.tup [.int 2,.int 1],.tup [.int 2,.int 3],.tup [.int 2,.int 5],.tup [.int 3,.int 2],.tup [.int 3,.int 4],.tup [.int 5,.int 2]]))) st=.ok (.int (d%12)) st:=bd kv cK (jT (by decide))
 have fin:∀(c n:Nat),c<=5->1<=n->n<=9->n*n*2^c<=200->pG [W.tup [.int 0,.int 1],.tup [.int 0,.int 5],.tup [.int 0,.int 9],.tup [.int 1,.int 2],.tup [.int 1,.int 4],.tup [.int 1,.int 6],.tup [.int 2,.int 1],.tup [.int 2,.int 3],.tup [.int 2,.int 5],.tup [.int 3,.int 2],.tup [.int 3,.int 4],.tup [.int 5,.int 2]] (d%12)=some (.tup [.int c,.int n]) ->
   gJ (rD fun w bG=>(∃x,bG=st++x)/\undWs st.length [w]=true/\∃c n:Nat,w=.tup [.int c,.int n]/\c<=5/\1<=n/\n<=9/\n*n*2^c<=200) (cA (e2 bg (af 1) (e2 eU (af 0) (eI 12))) (([W.int d].map some++List.replicate (2-1) none).set 1 (some (.tup [.tup [.int 0,.int 1],.tup [.int 0,.int 5],.tup [.int 0,.int 9],.tup [.int 1,.int 2],.tup [.int 1,.int 4],.tup [.int 1,.int 6],.tup [.int 2,.int 1],.tup [.int 2,.int 3],.tup [.int 2,.int 5],.tup [.int 3,.int 2],.tup [.int 3,.int 4],.tup [.int 5,.int 2]]))) st):=fun c n h1 h2 h3 h4 e=>by
  apply b9
  ·exact bd kv hm (gI e)
  ·exact⟨_,_,rfl,⟨[],by simp⟩,rfl,c,n,rfl,h1,h2,h3,h4⟩
 rcases hd with h|h|h|h|h|h|h|h|h|h|h|h
 ·exact fin 0 1 (by decide) (by decide) (by decide) (by decide) (by rw[h];rfl)
 ·exact fin 0 5 (by decide) (by decide) (by decide) (by decide) (by rw[h];rfl)
 ·exact fin 0 9 (by decide) (by decide) (by decide) (by decide) (by rw[h];rfl)
 ·exact fin 1 2 (by decide) (by decide) (by decide) (by decide) (by rw[h];rfl)
 ·exact fin 1 4 (by decide) (by decide) (by decide) (by decide) (by rw[h];rfl)
 ·exact fin 1 6 (by decide) (by decide) (by decide) (by decide) (by rw[h];rfl)
 ·exact fin 2 1 (by decide) (by decide) (by decide) (by decide) (by rw[h];rfl)
 ·exact fin 2 3 (by decide) (by decide) (by decide) (by decide) (by rw[h];rfl)
 ·exact fin 2 5 (by decide) (by decide) (by decide) (by decide) (by rw[h];rfl)
 ·exact fin 3 2 (by decide) (by decide) (by decide) (by decide) (by rw[h];rfl)
 ·exact fin 3 4 (by decide) (by decide) (by decide) (by decide) (by rw[h];rfl)
 ·exact fin 5 2 (by decide) (by decide) (by decide) (by decide) (by rw[h];rfl)
theorem HI(h:lstOf st n=some (ls.map W.str))(hl:ls.length<64):qA [.loc n] st=.ok (.loc st.length) (st++[.lst ((kQ ls).map W.str)]):=by
 show n_ [.loc n] st=_
 unfold n_
 simp only[h,cL,vm]
 rw[ar hl]
theorem yV{a b:List (List Nat)}(h:a.Perm b):(a.map List.length).sum=(b.map List.length).sum:=by
 induction h with
 |nil=>rfl
 |cons x _ ih=>simp only[aH,oX,ih]
 |swap x y l=>simp only[aH,oX];omega
 |trans _ _ ih1 ih2=>rw[ih1,ih2]
theorem tM(l:List Nat):(((l.map fun c=>[c])).map List.length).sum=l.length:=by
 induction l with
 |nil=>rfl
 |cons a r ih=>simp only[aH,oX,bv,ih,dg];omega
def D4(l:List Nat):List Nat:=oJ [] (kQ (l.map fun c=>[c]))
theorem KY(l:List Nat):(D4 l).length=l.length:=by
 unfold D4;rw[n9,List.length_flatten,yV (im _),tM]
theorem HJ(l:List Nat):(D4 l).Perm l:=by
 unfold D4;rw[n9]
 have h:(kQ (l.map fun c=>[c])).flatten.Perm (l.map fun c=>[c]).flatten:=(im _).flatten
 refine h.trans (.of_eq ?_)
 induction l with
 |nil=>rfl
 |cons a r ih=>
  have ih':=ih ((im _).flatten)
  simp only[aH,kZ,ih',l_,fA]
theorem KZ{s1:List aj}(h:fe ρ st=.ok (.loc n) s1)(hc:lstOf s1 n=some ((l.map fun c=>[c]).map W.str))(hl:l.length<64) :
  L4 oN (eC (.str [])) (ag (bc qA (ag fe av)) av) ρ st=.ok (.str (D4 l)) (s1++[.lst ((kQ (l.map fun c=>[c])).map W.str)]):=by
 have hs:=HI hc (by simpa using hl)
 have hcell2:lstOf (s1++[aj.lst ((kQ (l.map fun c=>[c])).map W.str)]) s1.length=some ((kQ (l.map fun c=>[c])).map W.str):=aM bE
 have hj:=Gf (sep:=[]) hcell2 (by rw[yV (im _),tM];show _<=1000000;simp;omega)
 exact PZ cK rfl (al (be (al h bb) hs) bb) hj
theorem HK(gN:List Nat)(c:Nat)(hp:gN.length<=50)(hc:c<=gN.length)(st:List aj):Cq [.str gN,.int c] st=.ok (.str (D4 (gN.take c))) st:=by
 have hL:gN.length<=ji:=by show _<=1000000;omega
 have hcm:d9 [none,some 0] (bJ (ag (af 1) av)) (dY 0) kI (e2 bg (af 1) (af 0)) [some (.str gN),some (.int c)] st=.ok (.loc st.length) (st++[.lst (((gN.take c).map fun c=>[c]).map W.str)]):=by
  have:=iG (fi:=bJ (ag (af 1) av)) (f:=dY 0) (el:=e2 bg (af 1) (af 0)) (cap:=[none,some 0]) (ρ:=[some (.str gN),some (.int c)]) (st:=st) (st1:=st) (ws:=cB 0 c) (ck:=none) (fun w=>match w with|.int i=>.str [gN.getD i.toNat 0]|_=>.non)
   (by
    have:=fD (fs:=ag (af 1) av) (ρ:=[some (.str gN),some (.int c)]) (st:=st) (st1:=st) (q:=(c:Int)) kn (by omega)
    rw[bB]at this
    exact this) (by rw[cN];show _<=1000000;omega) trivial ?_
  ·have e:(cB 0 c).map (fun w=>match w with|.int i=>W.str [gN.getD i.toNat 0]|_=>.non)=((gN.take c).map fun c=>[c]).map W.str:=by
    refine List.ext_getElem (by simp[cN];omega) fun i h1 h2=>?_
    have hi:i<c:=by simpa[cN]using h1
    rw[eW,eW,eW,List.getElem_take]
    unfold cB
    rw[eW,List.getElem_range]
    show W.str [gN.getD ((0:Int)+(i:Int)).toNat 0]=_
    rw[show((0:Int)+(i:Int)).toNat=i by omega,ay,aa (by omega)];rfl
   rw[this,e]
  ·intro w hw
   obtain⟨i,hi,rfl⟩:=qC hw
   refine⟨[some (.int (0+(i:Int))),some (.str gN)],rfl,bd kv kv ?_⟩
   rw[show((0:Int)+(i:Int))=(i:Int) by omega]
   have e2:pG gN (i:Int)=some (gN.getD i 0):=dm (by rw[ay,aa (by omega)];rfl)
   rw[Gd hL e2]
   simp
 have cY:(gN.take c).length=c:=by rw[aZ];omega
 have hj:=KZ hcm (aM bE) (by omega)
 refine ip (N:=2) (ws:=[.str gN,.int c]) (body:=Nc) ?_ rfl
 apply b9
 ·exact hj
 ·exact⟨_,_,rfl,rfl,_,by rw[aV]⟩
theorem HL{fs:FA}{st1:List aj}{i j k:Int}(h:fs ρ st=.ok [.int i,.int j,.int k] st1)(hq:-(2^60)<=i/\i<2^60/\-(2^60)<=j/\j<2^60/\0<k/\k<=1000):sL fs ρ st=.ok (oO i k (mY i j k),none) st1:=by
 unfold sL;rw[h];simp only[R.bind_ok];rw[ar hq]
theorem HM{i k:Int}{w:W}(h:(oO i k n)[m]?=some w):m<n/\w=.int (i+m*k):=by
 unfold oO at h
 obtain⟨h1,h2⟩:=ac.mp h
 simp only[ai,c_]at h1
 exact⟨h1,by rw[<- h2];simp⟩
theorem D5(i k:Int)(n:Nat):(oO i k n).length=n:=by simp[oO]
theorem D6{n0:Nat}(h0:st[n0]?=some (.ro (ns.map W.int)))(a:Int)(oF:Nat)(LF:Int)(hm:oF<=1000) :
  ∃(j:Nat) (x:List aj) (ds:List Int),ds.length=oF/\(∀d∈ds,0<=d)/\x[j]?=some (.lst (qm ds))/\Cr [.loc n0,.int a,.int oF,.int LF] st=.ok (.loc (st.length+j)) (st++x):=by
 suffices hh:gJ (rD fun w bG=>∃j x,w=.loc (st.length+j)/\bG=st++x/\∃ds:List Int,ds.length=oF/\(∀d∈ds,0<=d)/\x[j]?=some (.lst (qm ds))) (Nd ([W.loc n0,.int a,.int oF,.int LF].map some++List.replicate (6-4) none) st) by
  obtain⟨j,x,⟨ds,h1,h2,h3⟩,e⟩:=jl hh
  exact⟨j,x,ds,h1,h2,h3,e⟩
 apply au
 ·(walk_at "evs")
 refine cR (fun i ρ s=>∃(p:Nat) (ds:List Int) (o5:Option W),ρ=[some (.loc n0),some (.int a),some (.int oF),some (.int LF),some (.loc p),o5]/\st <+: s/\st.length<=p/\s[p]?=some (.lst (qm ds))/\ds.length=min oF (50*i)/\∀d∈ds,0<=d) (HL (i:=0) (j:=oF) (k:=50) (st1:=st++[aj.lst []]) (by(walk_at "evs")) (by omega))
  ⟨st.length,[],none,rfl,ax _ _,aw _,bE,by simp,by simp⟩ (fun _ _ _ _=>trivial) ?_ ?_
 ·rintro i w ρ s hw ⟨p,ds,o5,rfl,hp,rf,hc,hl,En⟩
  obtain⟨hi,rfl⟩:=HM hw
  refine⟨_,rfl,?_⟩
  have hlt:(50:Int)*i<oF:=by
   unfold mY at hi
   split at hi
   ·omega
   ·omega
  obtain⟨c,ec⟩:=on (pre_get hp h0) (a+(0+(i:Int)*50)/50)
  obtain⟨mm,hmm,emm⟩:∃mm:Nat,mm=min 50 (oF-50*i)/\Ak [.int 50,.int ((oF:Int)-(0+(i:Int)*50))] s=.ok (.int mm) s:=by
   refine⟨min 50 (oF-50*i),rfl,?_⟩
   show R.ok (W.int (if (oF:Int)-(0+(i:Int)*50)<50 then(oF:Int)-(0+(i:Int)*50)else 50)) s=_
   congr 2
   split<;>omega
  obtain⟨es,hes,hep,ee⟩:=lK c (LF+1009*(0+(i:Int)*50)) mm (by omega) s
  have ad:=Ga (st:=s++[aj.lst (es.map W.int)]) (pre_get (ax _ _) hc) bE (by simp[qm];show _<=1000000;omega)
  have cm:x5 1009 (0+(i:Int)*50):=.inl (by decide)
  apply dz
  ·(walk_at "evs")
   all_goals first|exact cm|exact(by decide)
  ·refine⟨_,_,rfl,_,ds++es,_,rfl,oo (oo hp),?_,?_,?_,?_⟩
   ·have:=QV hc;simp;omega
   ·rw[bE];simp[qm]
   ·rw[aB];omega
   ·intro d hd
    rcases aI.mp hd with z|z
    ·exact En d z
    ·exact hep d z
 ·rintro ρ s ⟨p,ds,o5,rfl,⟨x,rfl⟩,rf,hc,hl,En⟩
  rw[D5]at hl
  have hmn:oF<=50*mY 0 oF 50:=by
   unfold mY
   split
   ·omega
   ·omega
  apply b9
  ·(walk_at "evs")
  ·refine⟨_,_,rfl,p-st.length,x,by rw[show st.length+(p-st.length)=p by omega],rfl,ds,by omega,En,?_⟩
   rw[cn rf]at hc
   exact hc
theorem HN(g l r:Nat)(st:List aj):∃k:Nat,yR [.int g,.int l,.int r] st=.ok (.int k) st:=by
 by_cases h0:g=0
 ·subst h0
  refine⟨l+r,?_⟩
  apply fx
  apply fQ
  ·(walk_at "evs")
  apply f7
  ·(walk_at "evs")
  ·exact⟨_,_,rfl,rfl,rfl⟩
 ·have t0:((g:Int)==0)=false:=by rw[bq];omega
  by_cases h1:g=1
  ·subst h1
   refine⟨if r>l then r else l,?_⟩
   have mx:yb [.int l,.int r] st=.ok (.int ((if r>l then r else l:Nat):Int)) st:=by
    show R.ok (W.int (if (r:Int)>(l:Int)then(r:Int)else(l:Int))) st=_
    congr 2
    split<;>split<;>omega
   apply fx
   apply cf
   ·(walk_at "evs")
   apply cX
   apply fQ
   ·(walk_at "evs")
   apply f7
   ·(walk_at "evs")
   ·exact⟨_,_,rfl,rfl,rfl⟩
  ·have t1:((g:Int)==1)=false:=by rw[bq];omega
   by_cases h2:g=2
   ·subst h2
    refine⟨l,?_⟩
    apply fx
    apply cf
    ·(walk_at "evs")
    apply cX
    apply cf
    ·(walk_at "evs")
    apply cX
    apply fQ
    ·(walk_at "evs")
    apply f7
    ·(walk_at "evs")
    ·exact⟨_,_,rfl,rfl,rfl⟩
   ·have t2:((g:Int)==2)=false:=by rw[bq];omega
    refine⟨r,?_⟩
    apply fx
    apply cf
    ·(walk_at "evs")
    apply cX
    apply cf
    ·(walk_at "evs")
    apply cX
    apply cf
    ·(walk_at "evs")
    apply cX
    apply b9
    ·(walk_at "evs")
    ·exact⟨_,_,rfl,rfl,rfl⟩
section
variable{fs:FA}
theorem K0(V:β->W)(Pb:Nat->β->Prop)(hr:fs ρ st=.ok [.int n] st)(hn:n<=100000)(h:∀i:Nat,i<n->∃b,Pb i b/\el ((pi cap ρ).set 0 (some (.int i))) st=.ok (V b) st) :
  ∃r:List β,r.length=n/\(∀i b,r[i]?=some b->Pb i b)/\d9 cap (bJ fs) (dY 0) kI el ρ st=.ok (.loc st.length) (st++[.lst (r.map V)]):=by
 let f:Fin n->β:=fun i=>Classical.choose (h i i.2)
 have hf:∀i:Fin n,Pb i (f i)/\el ((pi cap ρ).set 0 (some (.int (i:Nat)))) st=.ok (V (f i)) st:=fun i=>Classical.choose_spec (h i i.2)
 let Y:W->W:=fun w=>match w with
  |.int z=>if hz:z.toNat<n then V (f ⟨z.toNat,hz⟩)else .non
  |_=>.non
 have ir:bJ fs ρ st=.ok (cB 0 n,none) st:=by
  have:=fD hr (by omega)
  rw[bB]at this
  exact this
 have hc:=iG (fi:=bJ fs) (f:=dY 0) (el:=el) (cap:=cap) (ρ:=ρ) Y ir (by rw[cN];show _<=1000000;omega) trivial fun w hw=>by
  obtain⟨i,hi,rfl⟩:=qC hw
  refine⟨_,rfl,?_⟩
  rw[show((0:Int)+(i:Int))=(i:Int) by omega]
  show _=R.ok (if hz:(i:Int).toNat<n then V (f ⟨(i:Int).toNat,hz⟩)else .non) st
  rw[dif_pos (show(i:Int).toNat<n by omega)]
  exact(hf ⟨i,hi⟩).2
 refine⟨List.ofFn f,by simp,fun i b hb=>?_,?_⟩
 ·obtain⟨h1,h2⟩:=ac.mp hb
  rw[List.getElem_ofFn]at h2
  rw[<- h2]
  exact(hf ⟨i,by simpa using h1⟩).1
 ·rw[hc]
  have e:(cB 0 n).map Y=(List.ofFn f).map V:=by
   refine List.ext_getElem (by simp[cN]) fun i h1 h2=>?_
   have hi:i<n:=by simpa[cN]using h1
   rw[eW,eW,List.getElem_ofFn]
   unfold cB
   rw[eW,List.getElem_range,show((0:Int)+(i:Int))=(i:Int) by omega]
   show(if hz:(i:Int).toNat<n then V (f ⟨(i:Int).toNat,hz⟩)else .non)=_
   rw[dif_pos (show(i:Int).toNat<n by omega)]
  rw[e]
theorem wR(V:β->W)(Pb:Nat->β->Prop)(hr:fs ρ st=.ok [.int n] st)(hn:n<=100000)(h:∀i:Nat,i<n->∃b,Pb i b/\el ((pi cap ρ).set 0 (some (.int i))) st=.ok (V b) st) :
  ∃r:List β,r.length=n/\(∀i b,r[i]?=some b->Pb i b)/\bc d6 (ag (d9 cap (bJ fs) (dY 0) kI el) av) ρ st=.ok (.tup (r.map V)) (st++[.lst (r.map V)]):=by
 obtain⟨r,h1,h2,e⟩:=K0 (cap:=cap) (el:=el) V Pb hr hn h
 exact⟨r,h1,h2,be (al e bb) (gK (aM bE))⟩
end
structure Mc where
 nm:List Nat
 gd:List Bool
 tb:List (List (List Nat))
def jy(r:List Nat):W:=.tup (r.map fun k=>W.int (k:Nat))
def fY(t:List (List Nat)):W:=.tup (t.map jy)
def Mc.w(M:Mc):W:=.tup [.str M.nm,.tup (M.gd.map W.bl),.tup (M.tb.map fY)]
def VS(n:Nat)(t:List (List Nat)):Prop:=t.length=n/\∀r∈t,r.length=n/\∀k∈r,k<n
structure lx(M:Mc)(n:Nat):Prop where
 gd:M.gd.length=n
 tb:M.tb.length=2^M.nm.length
 t:∀t∈M.tb,VS n t
theorem CB(r:List Nat)(n:Nat):(jy r).und n=true:=by
 unfold jy W.und
 induction r with
 |nil=>rfl
 |cons x r ih=>simp only[aH,undWs,ih,bO];rfl
theorem K3(t:List (List Nat))(n:Nat):(fY t).und n=true:=by
 unfold fY W.und
 induction t with
 |nil=>rfl
 |cons x r ih=>simp only[aH,undWs,ih,bO];exact CB x n
theorem HP(t:List (List (List Nat)))(n:Nat):undWs n (t.map fY)=true:=by
 induction t with
 |nil=>rfl
 |cons x r ih=>simp only[aH,undWs,ih,bO];exact K3 x n
theorem K4(t:List Bool)(n:Nat):undWs n (t.map W.bl)=true:=by
 induction t with
 |nil=>rfl
 |cons x r ih=>simp only[aH,undWs,ih,bO];rfl
theorem qE(M:Mc)(n:Nat):M.w.und n=true:=by
 unfold Mc.w
 simp[W.und,undWs,HP,K4]
theorem BG{c:Nat}(h:c<=100):x6 (.int 1) (.int c) st=.ok (.int ((2^c:Nat):Int)) st:=by
 have:=jT (C:=fun i j=>0<=j/\j<=1000000/\i.natAbs<2^64) (f:=fun i j=>i*2^j.toNat) (p:=1) (q:=(c:Int)) (st:=st) ⟨by omega,by omega,by decide⟩
 rw[show x6 (.int 1) (.int c) st=_ from this]
 simp
theorem nS{s:List aj}{p:Nat}{y:W}(h:s[p]?=some (.lst ws))(hl:ws.length<1000000):cM (.loc p) [y] s=.ok .non (s.set p (.lst (ws++[y]))):=pY h hl
theorem D7(nm:List Nat)(n dl:Nat)(ds:List Int)(st:List aj)(C7:nm.length<=6)(hn:1<=n)(Jb:n<=9)(hd:st[dl]?=some (.lst (qm ds)))(zR:4<=ds.length)(En:∀d∈ds,0<=d) :
  ∃M:Mc,M.nm=nm/\lx M n/\Cs [.str nm,.int n,.loc dl] st=.ok M.w st:=by
 suffices hh:gJ (rD fun w bG=>(∃x,bG=st++x)/\undWs st.length [w]=true/\∃M:Mc,w=M.w/\M.nm=nm/\lx M n) (Nf ([W.str nm,.int n,.loc dl].map some++List.replicate (9-3) none) st) by
  obtain⟨w,⟨M,rfl,h1,h2⟩,e⟩:=kT hh
  exact⟨M,h1,h2,e⟩
 obtain⟨d0,d1,d2,d3,dr,rfl⟩:∃a b c d r,ds=a::b::c::d::r:=by
  match ds,zR with
  |a::b::c::d::r,_=>exact⟨_,_,_,_,_,rfl⟩
 have cY:∀s:List aj,cW [.str nm] s=.ok (.int nm.length) s:=fun s=>tu (by show _<=1000000;omega)
 have p2:2^nm.length<=64:=fG (by omega) C7
 obtain⟨N,hN⟩:∃N,N=2^nm.length:=⟨_,rfl⟩
 have sh:∀s:List aj,x6 (.int 1) (.int nm.length) s=.ok (.int N) s:=fun s=>by rw[hN];exact BG (by omega)
 rw[<- hN]at p2
 have ix0:∀s:List aj,st <+: s->bg (.loc dl) (.int 0) s=.ok (.int d0) s:=fun s h=>fm (i:=0) (pre_get h hd) rfl
 have ix1:∀s:List aj,st <+: s->bg (.loc dl) (.int 1) s=.ok (.int d1) s:=fun s h=>fm (i:=1) (pre_get h hd) rfl
 have ix2:∀s:List aj,st <+: s->bg (.loc dl) (.int 2) s=.ok (.int d2) s:=fun s h=>fm (i:=2) (pre_get h hd) rfl
 have ix3:∀s:List aj,st <+: s->bg (.loc dl) (.int 3) s=.ok (.int d3) s:=fun s h=>fm (i:=3) (pre_get h hd) rfl
 apply au
 ·(walk_at "evs")
 refine cR (fun i ρ s=>∃(tb:List (List (List Nat))) (o4 o5 o6 o7:Option W),ρ=[some (.str nm),some (.int n),some (.loc dl),some (.loc st.length),o4,o5,o6,o7,none]/\st <+: s/\s[st.length]?=some (.lst (tb.map fY))/\tb.length=i/\∀t∈tb,VS n t)
  (fD (q:=(N:Int)) (st1:=st++[aj.lst []]) (al (bd cK (be kn (cY _)) (sh _)) bb) (by omega))
  ⟨[],none,none,none,none,rfl,ax _ _,bE,rfl,by simp⟩ (fun _ _ _ _=>trivial) ?_ ?_
 ·rintro i w ρ s hw ⟨tb,o4,o5,o6,o7,rfl,hp,hc,hl,ht⟩
  obtain⟨hi,rfl⟩:=gW hw
  refine⟨_,rfl,?_⟩
  have hl1:=cY s
  have i1:=ix1 s hp
  apply au
  ·(walk_at "evs")
  refine om (fun ρ s'=>∃(m:Nat) (o4:Option W),ρ=[some (.str nm),some (.int n),some (.loc dl),some (.loc st.length),o4,some (.int m),o6,o7,none]/\s'=s) ?_ ?_
  ·by_cases h0:nm.length=0
   ·have t0:((nm.length:Int)==0)=true:=by rw[cZ];omega
    apply lH
    ·(walk_at "evs")
    apply dz
    ·(walk_at "evs")
    ·exact⟨_,_,rfl,1,_,rfl,rfl⟩
   ·have t0:((nm.length:Int)==0)=false:=by rw[bq];omega
    apply iB
    ·(walk_at "evs")
    apply dz
    ·(walk_at "evs")
    ·exact⟨_,_,rfl,((0+(i:Int))%2+d1%2).toNat,_,by rw[jM (by omega)];rfl,rfl⟩
  rintro ρ s' ⟨m,o4,rfl,rfl⟩
  apply au
  ·(walk_at "evs")
  refine cR (fun j ρ z=>∃(fR:List (List Nat)) (o7:Option W),ρ=[some (.str nm),some (.int n),some (.loc dl),some (.loc st.length),o4,some (.int m),some (.loc s'.length),o7,none]/\s' <+: z/\z[s'.length]?=some (.lst (fR.map jy))/\fR.length=j/\∀r∈fR,r.length=n/\∀k∈r,k<n)
   (fD (q:=(n:Int)) (st1:=s'++[aj.lst []]) (by(walk_at "evs")) (by omega)) ⟨[],_,rfl,ax _ _,bE,rfl,by simp⟩ (fun _ _ _ _=>trivial) ?_ ?_
  ·rintro j w ρ z hw ⟨fR,o7,rfl,hz,hcz,hrl,hr⟩
   obtain⟨hj,rfl⟩:=gW hw
   refine⟨_,rfl,?_⟩
   obtain⟨g,hg,eg⟩:=ia (q:=d0) (n:=4) (by omega)
   have eg:d0%4=(g:Int):=eg
   obtain⟨r,hrn,hrb,er⟩:=wR (cap:=[none,some 1,some 5,some 7,some 2]) (ρ:=[some (.str nm),some (.int n),some (.loc dl),some (.loc st.length),o4,some (.int m),some (.loc s'.length),some (.int (0+(j:Int))),none]) (st:=z) (fs:=ag (af 1) av) (n:=n)
    (el:=bc Ak (ag (e2 qu (af 1) (eI 1)) (ag (e2 dE (ca 3 yR (ag (e2 eU (e2 bg (af 4) (eI 0)) (eI 4)) (ag (af 3) (ag (af 0) av)))) (af 2)) av))) (fun k:Nat=>W.int (k:Nat)) (fun _ k=>k<n) kn (by omega) fun q hq=>by
     obtain⟨k,ek⟩:=HN g j q z
     rw[<- eg,show(j:Int)=0+(j:Int) by omega]at ek
     refine⟨min (n-1) (k+m),by omega,?_⟩
     refine be (al (bd kv cK (jT trivial)) (al (bd (bU (al (bd (bd kv cK (ix0 z (hp.trans hz))) cK (jT (by decide))) (al kv kn)) ek rfl) kv e7) bb)) ?_
     show R.ok (W.int (if (k:Int)+(m:Int)<(n:Int)-1 then(k:Int)+(m:Int)else(n:Int)-1)) z=_
     congr 2
     split<;>omega
   have ap:=nS (y:=jy r) (pre_get (s:=z++[.lst (r.map fun k:Nat=>W.int k)]) (ax _ _) hcz) (by rw[ai];omega)
   apply dz
   ·exact fw (jS kv (dy hcz) (al er bb) ap)
   ·refine⟨_,_,rfl,fR++[r],_,rfl,iH (oo hz) (aw _),?_,by simp[hrl],?_⟩
    ·rw[ki (pre_get (ax _ _) hcz)];simp
    ·intro x hx
     rcases aI.mp hx with y|y
     ·exact hr x y
     ·simp at y;subst y
      refine⟨hrn,fun k hk=>?_⟩
      obtain⟨q,hq⟩:=bC hk
      exact hrb q k hq
  ·rintro ρ z ⟨fR,o7,rfl,hz,hcz,hrl,hr⟩
   have hrl:fR.length=n:=by rw[hrl];simp[cN]
   have hcp:=pre_get hz hc
   have ap:=nS (y:=fY fR) hcp (by rw[ai,hl];omega)
   apply dz
   ·exact fw (jS kv (dy hcp) (al (be kn (gK (aM hcz))) bb) ap)
   ·refine⟨_,_,rfl,tb++[fR],_,_,_,_,rfl,iH (hp.trans hz) (aw _),?_,by simp[hl],?_⟩
    ·rw[ki hcp];simp
    ·intro x hx
     rcases aI.mp hx with y|y
     ·exact ht x y
     ·simp at y;subst y
      exact⟨hrl,hr⟩
 ·rintro ρ s ⟨tb,o4,o5,o6,o7,rfl,hp,hc,hl,ht⟩
  have hl:tb.length=N:=by rw[hl];simp[cN]
  have i2:=ix2 s hp
  have i3:=ix3 s hp
  apply au
  ·(walk_at "evs")
  refine om (fun ρ s'=>∃k:Int,ρ=[some (.str nm),some (.int n),some (.loc dl),some (.loc st.length),o4,o5,o6,o7,some (.int k)]/\s'=s) ?_ ?_
  ·by_cases h1:d2%2=1
   ·have t1:(d2%2==1)=true:=cZ.mpr h1
    have pn:(0:Int)<(n:Int):=by omega
    apply lH
    ·(walk_at "evs")
    apply dz
    ·(walk_at "evs")
     all_goals exact pn
    ·exact⟨_,_,rfl,_,rfl,rfl⟩
   ·have t1:(d2%2==1)=false:=bq.mpr h1
    apply iB
    ·(walk_at "evs")
    apply dz
    ·(walk_at "evs")
    ·exact⟨_,_,rfl,_,rfl,rfl⟩
  rintro ρ s' ⟨k,rfl,rfl⟩
  obtain⟨gd,hgl,_,eg⟩:=wR (cap:=[none,some 8]) (ρ:=[some (.str nm),some (.int n),some (.loc dl),some (.loc st.length),o4,o5,o6,o7,some (.int k)]) (st:=s') (fs:=ag (af 1) av) (n:=n)
   (el:=e2 lw (af 0) (af 1)) W.bl (fun _ _=>True) kn (by omega) fun q hq=>⟨_,trivial,bd kv kv (i7 rfl)⟩
  obtain⟨x,rfl⟩:=hp
  apply b9
  ·exact d_ (al kv (al eg (al (be kn (gK (aM (pre_get (ax _ _) hc)))) bb))) (bF rfl)
  ·exact⟨_,_,rfl,⟨_,by rw[aV]⟩,by simp only[undWs,bO];exact qE ⟨nm,gd,tb⟩ _,⟨nm,gd,tb⟩,rfl,rfl,hgl,by rw[hl,hN],ht⟩
theorem QW{q:Nat}(h:q<n):Bx n (q:Int)=some q:=by
 unfold Bx
 rw[ar (by omega),ar (by omega)];simp
theorem AS{s:List aj}{p q:Nat}{v:W}(h:s[p]?=some (.lst ws))(hq:q<ws.length):qY (.loc p) (.int q) v s=some (s.set p (.lst (ws.set q v))):=P1 h (QW hq)
theorem HQ{fs:FA}{i j:Int}(h:fs ρ st=.ok [.int i,.int j] st1)(hq:-(2^62)<=i/\i<2^62/\-(2^62)<=j/\j<2^62):pO fs ρ st=.ok (cB i (j-i).toNat,none) st1:=by
 unfold pO;rw[h];simp only[R.bind_ok];rw[ar hq]
theorem AT{s:List aj}:nK [.tup ws] s=.ok (.loc s.length) (s++[.lst ws]):=rfl
theorem wS{l:List α}{x y:α}(h:y∈l.set i x):y∈l\/y=x:=List.mem_or_eq_of_mem_set h
theorem AU(M:Mc)(n sl:Nat)(ds:List Int)(st:List aj)(hM:lx M n)(hn:1<=n)(Jb:n<=9)(hd:st[sl]?=some (.lst (qm ds)))(zR:ds.length=4) :
  ∃M':Mc,M'.nm=M.nm/\lx M' n/\Ct [M.w,.loc sl] st=.ok M'.w st:=by
 obtain⟨d0,d1,d2,d3,rfl⟩:∃a b c d,ds=[a,b,c,d]:=by
  match ds,zR with
  |[a,b,c,d],_=>exact⟨_,_,_,_,rfl⟩
 have hT:0<M.tb.length:=by rw[hM.tb];exact Nat.pow_pos (by omega)
 obtain⟨a,ha,ea⟩:=ia (q:=d0) (n:=M.tb.length) hT
 obtain⟨b,hb,eb⟩:=ia (q:=d1) (n:=n) (by omega)
 obtain⟨c,hc,ec⟩:=ia (q:=d2) (n:=n) (by omega)
 obtain⟨v,hv,ev⟩:=ia (q:=d3) (n:=n) (by omega)
 have pT:(0:Int)<(M.tb.length:Int):=by omega
 have pn:(0:Int)<(n:Int):=by omega
 obtain⟨fR,hrows⟩:∃r,M.tb[a]?=some r:=⟨_,aa ha⟩
 obtain⟨r1,r2⟩:=hM.t fR (aA hrows)
 obtain⟨row,Ei⟩:∃r,fR[b]?=some r:=⟨_,aa (by omega)⟩
 obtain⟨q1,q2⟩:=r2 row (aA Ei)
 have g0:bg M.w (.int 0) st=.ok (.str M.nm) st:=rfl
 have g1:∀s,bg M.w (.int 1) s=.ok (.tup (M.gd.map W.bl)) s:=fun _=>rfl
 have g2:∀s,bg M.w (.int 2) s=.ok (.tup (M.tb.map fY)) s:=fun _=>rfl
 generalize hs3:st++[aj.lst (M.tb.map fY)]=s3
 have c3:s3[st.length]?=some (.lst (M.tb.map fY)):=by rw[<- hs3];exact bE
 have h3:st <+: s3:=by rw[<- hs3];exact ax _ _
 generalize hs5:s3++[aj.lst (fR.map jy)]=s5
 have c5:s5[s3.length]?=some (.lst (fR.map jy)):=by rw[<- hs5];exact bE
 have h5:s3 <+: s5:=by rw[<- hs5];exact ax _ _
 generalize hs6:s5++[aj.lst (row.map fun k:Nat=>W.int k)]=s6
 have c6:s6[s5.length]?=some (.lst (row.map fun k:Nat=>W.int k)):=by rw[<- hs6];exact bE
 have h6:s5 <+: s6:=by rw[<- hs6];exact ax _ _
 have l3:st.length<s3.length:=by rw[<- hs3];simp
 have l5:s3.length<s5.length:=by rw[<- hs5];simp
 have l6:s5.length<s6.length:=by rw[<- hs6];simp
 have dx:∀(s:List aj) (i:Nat) (d:Int),st <+: s->[d0,d1,d2,d3][i]?=some d->bg (.loc sl) (.int i) s=.ok (.int d) s:=fun s i d h e=>fm (pre_get h hd) e
 have ix4:∀s:List aj,st <+: s->bg (.loc sl) (.int 0) s=.ok (.int d0) s:=fun s h=>dx s 0 d0 h rfl
 have ix1:∀s:List aj,st <+: s->bg (.loc sl) (.int 1) s=.ok (.int d1) s:=fun s h=>dx s 1 d1 h rfl
 have ix2:∀s:List aj,st <+: s->bg (.loc sl) (.int 2) s=.ok (.int d2) s:=fun s h=>dx s 2 d2 h rfl
 have ix3:∀s:List aj,st <+: s->bg (.loc sl) (.int 3) s=.ok (.int d3) s:=fun s h=>dx s 3 d3 h rfl
 have p6:=AS (v:=.int v) c6 (q:=c) (by rw[ai];omega)
 generalize hs7:s6.set s5.length (.lst ((row.map fun k:Nat=>W.int k).set c (.int v)))=s7 at p6
 have k7:st <+: s7:=by rw[<- hs7];exact iH (h3.trans (h5.trans h6)) (by omega)
 have e6:s7[s5.length]?=some (.lst ((row.set c v).map fun k:Nat=>W.int k)):=by rw[<- hs7,ki c6];simp[qk]
 have e5:s7[s3.length]?=some (.lst (fR.map jy)):=by rw[<- hs7,AR (by omega)];exact pre_get h6 c5
 have e3:s7[st.length]?=some (.lst (M.tb.map fY)):=by rw[<- hs7,AR (by omega)];exact pre_get (h5.trans h6) c3
 have p7:=AS (v:=jy (row.set c v)) e5 (q:=b) (by rw[ai];omega)
 generalize hs8:s7.set s3.length (.lst ((fR.map jy).set b (jy (row.set c v))))=s8 at p7
 have k8:st <+: s8:=by rw[<- hs8];exact iH k7 (by omega)
 have f5:s8[s3.length]?=some (.lst ((fR.set b (row.set c v)).map jy)):=by rw[<- hs8,ki e5];simp[qk]
 have f3:s8[st.length]?=some (.lst (M.tb.map fY)):=by rw[<- hs8,AR (by omega)];exact e3
 have p8:=AS (v:=fY (fR.set b (row.set c v))) f3 (q:=a) (by rw[ai];omega)
 generalize hs9:s8.set st.length (.lst ((M.tb.map fY).set a (fY (fR.set b (row.set c v)))))=s9 at p8
 have k9:st <+: s9:=by rw[<- hs9];exact iH k8 (by omega)
 have z3:s9[st.length]?=some (.lst ((M.tb.set a (fR.set b (row.set c v))).map fY)):=by rw[<- hs9,ki f3];simp[qk]
 refine⟨⟨M.nm,M.gd,M.tb.set a (fR.set b (row.set c v))⟩,rfl,⟨hM.gd,by rw[<- hM.tb];simp,?_⟩,?_⟩
 ·intro t ht
  rcases wS ht with h|rfl
  ·exact hM.t t h
  ·refine⟨by simpa using r1,fun r hr=>?_⟩
   rcases wS hr with h|rfl
   ·exact r2 r h
   ·refine⟨by simpa using q1,fun k hk=>?_⟩
    rcases wS hk with h|rfl
    ·exact q2 k h
    ·exact hv
 ·refine ip (N:=7) (ws:=[M.w,.loc sl]) (body:=Ng) ?_ (by simp only[undWs,bO];exact qE _ _)
  apply au
  ·exact bu (be (al (bd kv cK (g1 st)) bb) jx)
  rw[ai,hM.gd]
  apply au
  ·exact bu (be (al (bd kv cK (g2 st)) bb) AT)
  rw[hs3]
  apply au
  ·refine bu (bd (bd kv cK (ix4 s3 h3)) (be kn (io (aM c3))) (jT ?_))
   rw[ai];exact pT
  rw[ai,ea]
  apply au
  ·exact bu (be (al (bd kv kv (kS (aM c3) (dm (by rw[ak,hrows];rfl)))) bb) AT)
  rw[hs5]
  apply au
  ·have iv:bg (.loc s3.length) (.int (d1%(n:Int))) s5=.ok (.tup (row.map fun k:Nat=>W.int k)) s5:=by
    rw[eb]
    exact kS (aM c5) (dm (by rw[ak,Ei];rfl))
   exact bu (be (al (bd kv (bd (bd kv cK (ix1 s5 (h3.trans h5))) kv (jT pn)) iv) bb) AT)
  rw[hs6]
  apply au
  ·rw[<- ec,<- ev]at p6
   exact lG (bd (bd kv cK (ix3 s6 (h3.trans (h5.trans h6)))) kv (jT pn)) kv (bd (bd kv cK (ix2 s6 (h3.trans (h5.trans h6)))) kv (jT pn)) p6
  apply au
  ·rw[<- eb]at p7
   exact lG (be kn (gK (aM e6))) kv (bd (bd kv cK (ix1 s7 k7)) kv (jT pn)) p7
  apply au
  ·exact lG (be kn (gK (aM f5))) kv kv p8
  obtain⟨x,rfl⟩:=k9
  apply b9
  ·exact d_ (al (bd kv cK rfl) (al (bd kv cK (g1 _)) (al (be kn (gK (aM z3))) bb))) (bF rfl)
  ·exact⟨_,_,rfl,rfl,x,rfl⟩
def nW(l:List Nat):List W:=l.map fun k=>W.int (k:Nat)
theorem yX{s:List aj}{p:Nat}{k:Nat}(h:s[p]?=some (.lst (nW l)))(e:l[i]?=some k):bg (.loc p) (.int i) s=.ok (.int k) s:=kS (aM h) (dm (by rw[nW,ak,e];rfl))
theorem HR{s:List aj}{k:Nat}(e:l[i]?=some k):bg (jy l) (.int i) s=.ok (.int k) s:=gI (dm (by rw[ak,e];rfl))
theorem HS{s:List aj}{r:List Nat}(e:t[i]?=some r):bg (fY t) (.int i) s=.ok (jy r) s:=gI (dm (by rw[ak,e];rfl))
def WL(n:Nat)(zs:List Nat):Prop:=zs.length=n/\∀r,r∈zs↔r<n
theorem HU(n dl:Nat)(ds:List Int)(st:List aj)(hn:1<=n)(Jb:n<=100)(hd:st[dl]?=some (.lst (qm ds)))(zR:2*n<=ds.length) :
  ∃zs,WL n zs/\Cv [.int n,.int 0,.loc dl] st=.ok (.loc st.length) (st++[.lst (nW zs)]):=by
 suffices hh:gJ (rD fun w bG=>∃j x,w=.loc (st.length+j)/\bG=st++x/\j=0/\∃zs,WL n zs/\x=[.lst (nW zs)]) (Ni ([W.int n,.int 0,.loc dl].map some++List.replicate (6-3) none) st) by
  obtain⟨j,x,⟨rfl,zs,h1,rfl⟩,e⟩:=jl hh
  exact⟨zs,h1,e⟩
 apply au
 ·(walk_at "evs")
 refine cR (fun i ρ s=>∃(zs:List Nat) (o4 o5:Option W),ρ=[some (.int n),some (.int 0),some (.loc dl),some (.loc st.length),o4,o5]/\s=st++[.lst (nW zs)]/\zs.length=i+1/\∀r,r∈zs↔r<i+1)
  (HQ (i:=1) (j:=(n:Int)+0) (st1:=st++[aj.lst [.int 0]]) (by(walk_at "evs")) (by omega))
  ⟨[0],none,none,rfl,rfl,rfl,by simp⟩ (fun _ _ _ _=>trivial) ?_ ?_
 ·rintro i w ρ s hw ⟨zs,o4,o5,rfl,rfl,hl,hm⟩
  obtain⟨hi,rfl⟩:=gW hw
  refine⟨_,rfl,?_⟩
  have hc:(st++[aj.lst (nW zs)])[st.length]?=some (.lst (nW zs)):=bE
  have t0:decide ((n:Int)<=1+(i:Int))=false:=aN (by omega)
  apply au
  ·(walk_at "evs")
  apply cf
  ·(walk_at "evs")
  apply cX
  obtain⟨d,hdd⟩:∃d,ds[2*(1+i)]?=some d:=⟨_,aa (by omega)⟩
  have id:=fm (s:=st++[aj.lst (nW zs)]) (aG hd) hdd
  rw[show((2*(1+i):Nat):Int)=2*(1+(i:Int)) by omega]at id
  obtain⟨q,hq,eq⟩:=ia (q:=d) (n:=zs.length) (by omega)
  have ll:=io (aM hc)
  rw[show(nW zs).length=zs.length by simp[nW]]at ll
  have pl:(0:Int)<(zs.length:Int):=by omega
  have ins:=Gh (y:=.int (1+(i:Int))) hc (k:=1+q) (by simp[nW];omega) (by simp[nW];show _<1000000;omega) (by omega)
  rw[dO,show((1+q:Nat):Int)=1+d%(zs.length:Int) by omega]at ins
  have cm:x5 2 (1+(i:Int)):=.inl (by decide)
  apply dz
  ·exact fw (jS kv (dy hc) (al (bd cK (bd (bd kv (bd cK kv (nQ cm)) id) (be kn ll) (jT pl)) e7) kn) ins)
  ·refine⟨_,_,rfl,zs.take (1+q)++(1+i)::zs.drop (1+q),_,_,rfl,?_,?_,?_⟩
   ·simp[nW,oY,oZ]
   ·simp;omega
   ·intro r
    rw[aI,a_]
    have:=hm r
    have h2:r∈zs↔r∈zs.take (1+q)\/r∈zs.drop (1+q):=by
     rw[<- aI,nu]
    constructor
    ·rintro(h|h|h)
     ·have:=this.mp (h2.mpr (.inl h));omega
     ·omega
     ·have:=this.mp (h2.mpr (.inr h));omega
    ·intro h
     by_cases e:r=1+i
     ·exact .inr (.inl e)
     ·rcases h2.mp (this.mpr (by omega))with h|h
      ·exact .inl h
      ·exact .inr (.inr h)
 ·rintro ρ s ⟨zs,o4,o5,rfl,rfl,hl,hm⟩
  rw[show(cB 1 ((n:Int)+0-1).toNat,(none:Option (Nat×List W))).fst.length=n-1 by simp[cN]]at hl hm
  apply b9
  ·(walk_at "evs")
  ·exact⟨_,_,rfl,0,_,rfl,rfl,rfl,zs,⟨by omega,fun r=>by rw[hm r];omega⟩,rfl⟩
theorem K5{cap:List (Option Nat)}{t:FT}{fs:FA}(Pb:Nat->Bool)(hr:fs ρ st=.ok [.int n] st)(hn:n<=100000)(h0:0<cap.length)(h:∀i:Nat,i<n->t ((pi cap ρ).set 0 (some (.int i))) st=.ok (Pb i) st) :
  d9 cap (bJ fs) (dY 0) t (af 0) ρ st=.ok (.loc st.length) (st++[.lst (nW ((List.range n).filter Pb))]):=by
 have ir:bJ fs ρ st=.ok (cB 0 n,none) st:=by
  have:=fD hr (by omega)
  rw[bB]at this
  exact this
 rw[tw (fi:=bJ fs) (f:=dY 0) (t:=t) (el:=af 0) (cap:=cap) (ρ:=ρ) (fun w=>match w with|.int z=>Pb z.toNat|_=>false) id ir (by rw[cN];show _<=1000000;omega) trivial fun w hw=>by
  obtain⟨i,hi,rfl⟩:=qC hw
  rw[show((0:Int)+(i:Int))=(i:Int) by omega]
  exact⟨_,rfl,h i hi,fun _=>eZ (by rw[ba (by simp[pi];exact h0)];rfl)⟩]
 congr 4
 unfold cB nW
 rw[jH,aX]
 have e:((fun w=>match w with|W.int z=>Pb z.toNat|_=>false)∘fun k:Nat=>W.int (0+(k:Int)))=Pb:=by
  funext k
  show Pb (0+(k:Int)).toNat=Pb k
  congr 1;omega
 rw[e]
 refine br fun k _=>?_
 show W.int (0+(k:Int))=_
 rw[iS]
theorem yY{f:FG}{ρ':bY}{w:W}(h:fe ρ st=.ok w st1)(h2:f w ρ=some ρ'):sB fe f ρ st=.nx ρ' st1:=by
 unfold sB;rw[h];simp only[R.stmt_ok];rw[h2]
theorem HW(M:Mc)(n ow dl:Nat)(zs:List Nat)(ds:List Int)(st:List aj)(hM:lx M n)(Jb:n<=200)(ho:WL n zs)(hc:st[ow]?=some (.lst (nW zs)))(hd:st[dl]?=some (.lst (qm ds)))(zR:0<ds.length)(XN:ds.length<=1000)(C7:M.nm.length<=10) :
  ∃M':Mc,M'.nm=M.nm/\lx M' n/\Cu [M.w,.loc ow,.loc dl] st=.ok M'.w st:=by
 suffices hh:gJ (rD fun w bG=>(∃x,bG=st++x)/\undWs st.length [w]=true/\∃M':Mc,w=M'.w/\M'.nm=M.nm/\lx M' n) (Nh ([M.w,.loc ow,.loc dl].map some++List.replicate (13-3) none) st) by
  obtain⟨w,⟨M',rfl,h1,h2⟩,e⟩:=kT hh
  exact⟨M',h1,h2,e⟩
 obtain⟨hz,hm⟩:=ho
 have p2:M.tb.length<=1024:=by rw[hM.tb];exact aR (fG (by omega) C7) (by decide)
 have ll:=io (aM hc)
 rw[show(nW zs).length=n by simp[nW,hz]]at ll
 have g2:bg M.w (.int 2) (st++[aj.lst []])=.ok (.tup (M.tb.map fY)) (st++[aj.lst []]):=rfl
 apply au
 ·(walk_at "evs")
 apply au
 ·(walk_at "evs")
 apply au
 ·(walk_at "evs")
 refine cR (fun i ρ s=>∃(tb:List (List (List Nat))) (a:Nat) (o6 o7 o8 o9 nw oQ ur:Option W),ρ=[some M.w,some (.loc ow),some (.loc dl),some (.int n),some (.int a),some (.loc st.length),o6,o7,o8,o9,nw,oQ,ur]/\st <+: s/\s[st.length]?=some (.lst (tb.map fY))/\tb.length=i/\∀t∈tb,VS n t)
  (jU (st1:=st++[aj.lst []]) (bd kv cK g2))
  ⟨[],0,none,none,none,none,none,none,none,rfl,ax _ _,bE,rfl,by simp⟩ (fun _ _ _ _=>trivial) ?_ ?_
 ·rintro i w ρ s hw ⟨tb,a,o6,o7,o8,o9,nw,oQ,ur,rfl,hp,hcT,hl,ht⟩
  obtain⟨t,hti,rfl⟩:∃t,M.tb[i]?=some t/\w=fY t:=by
   simp only[ak,aU]at hw
   obtain⟨t,h1,rfl⟩:=hw
   exact⟨t,h1,rfl⟩
  obtain⟨t1,t2⟩:=hM.t t (aA hti)
  have hi:i<M.tb.length:=(ac.mp hti).1
  refine⟨_,rfl,?_⟩
  apply au
  ·(walk_at "evs")
  refine cR (fun j ρ z=>∃(fR:List (List Nat)) (a:Nat) (o8 o9 nw oQ ur:Option W),ρ=[some M.w,some (.loc ow),some (.loc dl),some (.int n),some (.int a),some (.loc st.length),some (fY t),some (.loc s.length),o8,o9,nw,oQ,ur]/\s <+: z/\z[s.length]?=some (.lst (fR.map jy))/\fR.length=j/\∀r∈fR,r.length=n/\∀k∈r,k<n)
   (fD (q:=(n:Int)) (st1:=s++[aj.lst []]) (by(walk_at "evs")) (by omega)) ⟨[],a,_,_,_,_,_,rfl,ax _ _,bE,rfl,by simp⟩ (fun _ _ _ _=>trivial) ?_ ?_
  ·rintro x w ρ s1 hw ⟨fR,a,o8,o9,nw,oQ,ur,rfl,h1,hc1,hrl,hr⟩
   obtain⟨hx,rfl⟩:=gW hw
   rw[bB]at hx
   refine⟨_,rfl,?_⟩
   apply au
   ·(walk_at "evs")
   obtain⟨ox,hox⟩:∃k,zs[x]?=some k:=⟨_,aa (by omega)⟩
   have hox':ox<n:=(hm ox).mp (aA hox)
   obtain⟨rx,hrx⟩:∃r,t[ox]?=some r:=⟨_,aa (by omega)⟩
   obtain⟨rx1,rx2⟩:=t2 rx (aA hrx)
   refine cR (fun j ρ z=>∃(row:List Nat) (a:Nat) (nw oQ ur:Option W),ρ=[some M.w,some (.loc ow),some (.loc dl),some (.int n),some (.int a),some (.loc st.length),some (fY t),some (.loc s.length),some (.int (0+(x:Int))),some (.loc s1.length),nw,oQ,ur]/\s1 <+: z/\z[s1.length]?=some (.lst (nW row))/\row.length=j/\∀k∈row,k<n)
    (fD (q:=(n:Int)) (st1:=s1++[aj.lst []]) (by(walk_at "evs")) (by omega)) ⟨[],a,_,_,_,rfl,ax _ _,bE,rfl,by simp⟩ (fun _ _ _ _=>trivial) ?_ ?_
   ·rintro y w ρ z hw ⟨row,a,nw,oQ,ur,rfl,h2,hc2,Ev,hr2⟩
    obtain⟨hy,rfl⟩:=gW hw
    rw[bB]at hy
    refine⟨_,rfl,?_⟩
    have hz0:st <+: z:=hp.trans (h1.trans h2)
    obtain⟨oy,hoy⟩:∃k,zs[y]?=some k:=⟨_,aa (by omega)⟩
    have hoy':oy<n:=(hm oy).mp (aA hoy)
    obtain⟨Vk,hdue⟩:∃k,rx[oy]?=some k:=⟨_,aa (by omega)⟩
    have hdue':=rx2 Vk (aA hdue)
    have wx:bg (.loc ow) (.int (0+(x:Int))) z=.ok (.int ox) z:=by rw[iS];exact yX (pre_get hz0 hc) hox
    have wy:bg (.loc ow) (.int (0+(y:Int))) z=.ok (.int oy) z:=by rw[iS];exact yX (pre_get hz0 hc) hoy
    apply au
    ·exact bu (bd (bd kv (bd kv kv wx) (HS hrx)) (bd kv kv wy) (HR hdue))
    have hcomp:=K5 (cap:=[none,some 11,some 1]) (ρ:=[some M.w,some (.loc ow),some (.loc dl),some (.int n),some (.int a),some (.loc st.length),some (fY t),some (.loc s.length),some (.int (0+(x:Int))),some (.loc s1.length),some (.int (0+(y:Int))),some (.int Vk),ur]) (st:=z) (t:=fq (e2 lw (e2 bg (af 2) (af 0)) (af 1))) (fs:=ag (af 3) av) (n:=n) (fun i=>((zs.getD i 0:Nat):Int)==(Vk:Int)) kn (by omega) (by simp) fun q hq=>by
     have:zs[q]?=some (zs.getD q 0):=by rw[ay,aa (by omega)];rfl
     exact bQ (bd (bd kv kv (yX (pre_get hz0 hc) this)) kv (i7 rfl))
    generalize hso:(List.range n).filter (fun i=>((zs.getD i 0:Nat):Int)==(Vk:Int))=some' at hcomp
    have hsn:0<some'.length:=by
     obtain⟨q,hq⟩:=bC ((hm Vk).mpr hdue')
     have hqn:q<n:=by have:=(ac.mp hq).1;omega
     refine gj (a:=q) ?_
     rw[<- hso]
     exact bP.mpr ⟨bx.mpr hqn,by rw[ay,hq];simp⟩
    have hsm:∀k∈some',k<n:=fun k hk=>by
     rw[<- hso]at hk
     exact bx.mp (bP.mp hk).1
    have hsl:some'.length<=n:=by rw[<- hso];exact aR (dN _ _) (by simp)
    apply au
    ·exact yY hcomp rfl
    obtain⟨q,hq,eq⟩:=ia (q:=(a:Int)) (n:=ds.length) (by omega)
    obtain⟨d,hdd⟩:∃d,ds[q]?=some d:=⟨_,aa hq⟩
    obtain⟨k,hk,ek⟩:=ia (q:=d) (n:=some'.length) hsn
    obtain⟨c,hcc⟩:∃c,some'[k]?=some c:=⟨_,aa hk⟩
    have hz3:st <+: z++[aj.lst (nW some')]:=oo hz0
    have ld:=io (aM (pre_get hz3 hd))
    rw[show(qm ds).length=ds.length by simp[qm]]at ld
    have ls:=io (st:=z++[aj.lst (nW some')]) (n:=z.length) (aM bE)
    rw[show(nW some').length=some'.length by simp[nW]]at ls
    have id:=fm (pre_get hz3 hd) hdd
    rw[<- eq]at id
    have ic:=yX (s:=z++[aj.lst (nW some')]) (p:=z.length) bE hcc
    rw[<- ek]at ic
    have pl:(0:Int)<(ds.length:Int):=by omega
    have ps:(0:Int)<(some'.length:Int):=by omega
    have hc3:(z++[aj.lst (nW some')])[s1.length]?=some (.lst (nW row)):=aG hc2
    have ap:=nS (y:=.int c) hc3 (by simp[nW];omega)
    apply au
    ·exact fw (jS kv (dy hc3) (al (bd kv (bd (bd kv (bd kv (be kn ld) (jT pl)) id) (be kn ls) (jT ps)) ic) bb) ap)
    apply dz
    ·exact bu (bd kv cK e7)
    ·refine⟨_,_,rfl,row++[c],a+1,_,_,_,rfl,iH (oo h2) (aw _),?_,by simp[Ev],?_⟩
     ·rw[ki hc3];simp[nW]
     ·intro k' hk'
      rcases aI.mp hk' with u|u
      ·exact hr2 k' u
      ·simp at u;subst u;exact hsm _ (aA hcc)
   ·rintro ρ z ⟨row,a,nw,oQ,ur,rfl,h2,hc2,Ev,hr2⟩
    have Ev:row.length=n:=by rw[Ev];simp[cN]
    have hc3:=pre_get h2 hc1
    have ap:=nS (y:=jy row) hc3 (by rw[ai,hrl];omega)
    apply dz
    ·exact fw (jS kv (dy hc3) (al (be kn (gK (aM hc2))) bb) ap)
    ·refine⟨_,_,rfl,fR++[row],a,_,_,_,_,_,rfl,iH (h1.trans h2) (aw _),?_,by simp[hrl],?_⟩
     ·rw[ki hc3];simp
     ·intro r hr'
      rcases aI.mp hr' with u|u
      ·exact hr r u
      ·simp at u;subst u;exact⟨Ev,hr2⟩
  ·rintro ρ z ⟨fR,a,o8,o9,nw,oQ,ur,rfl,h1,hc1,hrl,hr⟩
   have hrl:fR.length=n:=by rw[hrl];simp[cN]
   have hc3:=pre_get h1 hcT
   have ap:=nS (y:=fY fR) hc3 (by rw[ai,hl];omega)
   apply dz
   ·exact fw (jS kv (dy hc3) (al (be kn (gK (aM hc1))) bb) ap)
   ·refine⟨_,_,rfl,tb++[fR],a,_,_,_,_,_,_,_,rfl,iH (hp.trans h1) (aw _),?_,by simp[hl],?_⟩
    ·rw[ki hc3];simp
    ·intro r hr'
     rcases aI.mp hr' with u|u
     ·exact ht r u
     ·simp at u;subst u;exact⟨hrl,hr⟩
 ·rintro ρ s ⟨tb,a,o6,o7,o8,o9,nw,oQ,ur,rfl,hp,hcT,hl,ht⟩
  have hl:tb.length=M.tb.length:=by rw[hl];simp
  have hc':=pre_get hp hc
  have cg:=iG (cap:=[none,some 0]) (ρ:=[some M.w,some (.loc ow),some (.loc dl),some (.int n),some (.int a),some (.loc st.length),o6,o7,o8,o9,nw,oQ,ur]) (st:=s) (st1:=s) (f:=dY 0) (el:=e2 bg (e2 bg (af 1) (eI 1)) (af 0)) (fun w=>match w with|.int z=>W.bl (M.gd.getD z.toNat false)|_=>.non)
   (fM (fe:=af 1) kv (aM hc')) (by simp[nW];show _<=1000000;omega) (aM hc') fun w hw=>by
    obtain⟨r,hr,rfl⟩:=aJ.mp hw
    have hrn:=(hm r).mp hr
    have hg:M.gd[r]?=some (M.gd.getD r false):=by rw[ay,aa (by rw[hM.gd];exact hrn)];rfl
    have g1:bg M.w (.int 1) s=.ok (.tup (M.gd.map W.bl)) s:=rfl
    exact⟨_,rfl,bd (bd kv cK g1) kv (gI (dm (by rw[ak,hg];rfl)))⟩
  rw[show(nW zs).map (fun w=>match w with|.int z=>W.bl (M.gd.getD z.toNat false)|_=>.non)=(zs.map fun r=>M.gd.getD r false).map W.bl by
   unfold nW;rw[aX,aX];refine br fun k _=>?_;show W.bl (M.gd.getD (k:Int).toNat false)=_;rw[bB];rfl]at cg
  obtain⟨x,rfl⟩:=hp
  apply b9
  ·exact d_ (al (bd kv cK rfl) (al (be (al cg bb) (gK (aM bE))) (al (be kn (gK (aM (aG hcT)))) bb))) (bF rfl)
  ·exact⟨_,_,rfl,⟨_,by rw[aV]⟩,by simp only[undWs,bO];exact qE ⟨M.nm,zs.map fun r=>M.gd.getD r false,tb⟩ _,⟨M.nm,zs.map fun r=>M.gd.getD r false,tb⟩,rfl,rfl,by simp[hz],by rw[hl,hM.tb],ht⟩
theorem AV(nm:List Nat)(n top dl:Nat)(ds:List Int)(st:List aj)(C7:nm.length<=6)(hn:1<=n)(Jb:n<=9)(Xh:1<=top)(X5:top<=n)(hd:st[dl]?=some (.lst (qm ds)))(zR:n+2^nm.length*(n*n)<=ds.length) :
  ∃M:Mc,M.nm=nm/\lx M n/\Cw [.str nm,.int n,.int top,.loc dl] st=.ok M.w st:=by
 suffices hh:gJ (rD fun w bG=>(∃x,bG=st++x)/\undWs st.length [w]=true/\∃M:Mc,w=M.w/\M.nm=nm/\lx M n) (Nj ([W.str nm,.int n,.int top,.loc dl].map some++List.replicate (10-4) none) st) by
  obtain⟨w,⟨M,rfl,h1,h2⟩,e⟩:=kT hh
  exact⟨M,h1,h2,e⟩
 have cY:∀s:List aj,cW [.str nm] s=.ok (.int nm.length) s:=fun s=>tu (by show _<=1000000;omega)
 have p2:2^nm.length<=64:=fG (by omega) C7
 obtain⟨N,hN⟩:∃N,N=2^nm.length:=⟨_,rfl⟩
 have sh:∀s:List aj,x6 (.int 1) (.int nm.length) s=.ok (.int N) s:=fun s=>by rw[hN];exact BG (by omega)
 rw[<- hN]at p2 zR
 have hdn:n<=ds.length:=by omega
 obtain⟨gd,hgl,_,eg⟩:=wR (cap:=[none,some 3]) (ρ:=[some (.str nm),some (.int n),some (.int top),some (.loc dl),none,none,none,none,none,none]) (st:=st) (fs:=ag (af 1) av) (n:=n)
  (el:=e2 lw (e2 eU (e2 bg (af 1) (af 0)) (eI 2)) (eI 1)) W.bl (fun _ _=>True) kn (by omega) fun q hq=>by
   obtain⟨d,hdd⟩:∃d,ds[q]?=some d:=⟨_,aa (by omega)⟩
   exact⟨_,trivial,bd (bd (bd kv kv (fm hd hdd)) cK (jT (by decide))) cK (i7 rfl)⟩
 apply au
 ·exact bu eg
 generalize LJ:st++[aj.lst (gd.map W.bl)]=s0
 have hst0:st <+: s0:=by rw[<- LJ];exact ax _ _
 apply au
 ·(walk_at "evs")
 apply au
 ·(walk_at "evs")
 refine cR (fun i ρ s=>∃(tb:List (List (List Nat))) (a:Nat) (o7 o8 o9:Option W),ρ=[some (.str nm),some (.int n),some (.int top),some (.loc dl),some (.tup (gd.map W.bl)),some (.loc s0.length),some (.int a),o7,o8,o9]/\s0 <+: s/\s[s0.length]?=some (.lst (tb.map fY))/\tb.length=i/\(∀t∈tb,VS n t)/\a+(N-i)*(n*n)<=ds.length)
  (fD (q:=(N:Int)) (st1:=s0++[aj.lst []]) (al (bd cK (be kn (cY _)) (sh _)) bb) (by omega))
  ⟨[],n,none,none,none,rfl,ax _ _,bE,rfl,by simp,by simpa using zR⟩ (fun _ _ _ _=>trivial) ?_ ?_
 ·rintro i w ρ s hw ⟨tb,a,o7,o8,o9,rfl,hp,hc,hl,ht,hal⟩
  obtain⟨hi,rfl⟩:=gW hw
  rw[bB]at hi
  refine⟨_,rfl,?_⟩
  rw[show N-i=(N-(i+1))+1 by omega,Nat.succ_mul]at hal
  apply au
  ·(walk_at "evs")
  refine cR (fun j ρ z=>∃(fR:List (List Nat)) (a:Nat) (o9:Option W),ρ=[some (.str nm),some (.int n),some (.int top),some (.loc dl),some (.tup (gd.map W.bl)),some (.loc s0.length),some (.int a),some (.int (0+(i:Int))),some (.loc s.length),o9]/\s <+: z/\z[s.length]?=some (.lst (fR.map jy))/\fR.length=j/\(∀r∈fR,r.length=n/\∀k∈r,k<n)/\a+((N-(i+1))*(n*n)+(n-j)*n)<=ds.length)
   (fD (q:=(n:Int)) (st1:=s++[aj.lst []]) (by(walk_at "evs")) (by omega)) ⟨[],a,_,rfl,ax _ _,bE,rfl,by simp,by simpa using hal⟩ (fun _ _ _ _=>trivial) ?_ ?_
  ·rintro j w ρ z hw ⟨fR,a,o9,rfl,hz,hcz,hrl,hr,hal⟩
   obtain⟨hj,rfl⟩:=gW hw
   rw[bB]at hj
   refine⟨_,rfl,?_⟩
   rw[show n-j=(n-(j+1))+1 by omega,Nat.succ_mul]at hal
   have pt:(0:Int)<(top:Int):=by omega
   obtain⟨r,hrn,hrb,er⟩:=wR (cap:=[none,some 2,some 3,some 6]) (ρ:=[some (.str nm),some (.int n),some (.int top),some (.loc dl),some (.tup (gd.map W.bl)),some (.loc s0.length),some (.int a),some (.int (0+(i:Int))),some (.loc s.length),some (.int (0+(j:Int)))]) (st:=z) (fs:=ag (af 1) av) (n:=n)
    (el:=e2 eU (e2 bg (af 2) (e2 dE (af 3) (af 0))) (af 1)) (fun k:Nat=>W.int (k:Nat)) (fun _ k=>k<n) kn (by omega) fun q hq=>by
     obtain⟨d,hdd⟩:∃d,ds[a+q]?=some d:=⟨_,aa (by omega)⟩
     obtain⟨k,hk,ek⟩:=ia (q:=d) (n:=top) (by omega)
     refine⟨k,by omega,?_⟩
     rw[<- ek]
     exact bd (bd kv (bd kv kv e7) (fm (pre_get (hst0.trans (hp.trans hz)) hd) hdd)) kv (jT pt)
   have ap:=nS (y:=jy r) (pre_get (s:=z++[.lst (r.map fun k:Nat=>W.int k)]) (ax _ _) hcz) (by rw[ai];omega)
   apply au
   ·exact fw (jS kv (dy hcz) (al er bb) ap)
   apply dz
   ·exact bu (bd kv kv e7)
   ·refine⟨_,_,rfl,fR++[r],a+n,_,rfl,iH (oo hz) (aw _),?_,by simp[hrl],?_,by omega⟩
    ·rw[ki (pre_get (ax _ _) hcz)];simp
    ·intro x hx
     rcases aI.mp hx with y|y
     ·exact hr x y
     ·simp at y;subst y
      refine⟨hrn,fun k hk=>?_⟩
      obtain⟨q,hq⟩:=bC hk
      exact hrb q k hq
  ·rintro ρ z ⟨fR,a,o9,rfl,hz,hcz,hrl,hr,hal⟩
   have hrl:fR.length=n:=by rw[hrl];simp[cN]
   have hcp:=pre_get hz hc
   have ap:=nS (y:=fY fR) hcp (by rw[ai,hl];omega)
   apply dz
   ·exact fw (jS kv (dy hcp) (al (be kn (gK (aM hcz))) bb) ap)
   ·refine⟨_,_,rfl,tb++[fR],a,_,_,_,rfl,iH (hp.trans hz) (aw _),?_,by simp[hl],?_,by omega⟩
    ·rw[ki hcp];simp
    ·intro x hx
     rcases aI.mp hx with y|y
     ·exact ht x y
     ·simp at y;subst y
      exact⟨hrl,hr⟩
 ·rintro ρ s ⟨tb,a,o7,o8,o9,rfl,hp,hc,hl,ht,hal⟩
  have hl:tb.length=N:=by rw[hl];simp[cN]
  obtain⟨x,rfl⟩:=hst0.trans hp
  apply b9
  ·exact d_ (al kv (al kv (al (be kn (gK (aM hc))) bb))) (bF rfl)
  ·exact⟨_,_,rfl,⟨_,rfl⟩,by simp only[undWs,bO];exact qE ⟨nm,gd,tb⟩ _,⟨nm,gd,tb⟩,rfl,rfl,hgl,by rw[hl,hN],ht⟩
theorem CC{ds:List Int}(hj:j<=ds.length)(hi:i<=j):kH (qm ds) (some (i:Int)) (some (j:Int))=qm ((ds.drop i).take (j-i)):=by
 rw[P5 (by simpa[qm]using hj) hi]
 simp[qm,oY,oZ]
theorem QX{n0:Nat}(h0:st[n0]?=some (.ro (ns.map W.int)))(a:Int)(gN:List Nat)(X3:5<=gN.length)(hp:gN.length<=50) :
  ∃(M:Mc) (n:Nat),lx M n/\1<=n/\n<=9/\M.nm.length<=5/\n*n*2^M.nm.length<=200/\M.nm=D4 (gN.take M.nm.length)/\Cy [.loc n0,.int a,.str gN] st=.ok M.w st:=by
 suffices hh:gJ (rD fun w bG=>(∃x,bG=st++x)/\undWs st.length [w]=true/\∃(M:Mc) (n:Nat),w=M.w/\lx M n/\1<=n/\n<=9/\M.nm.length<=5/\n*n*2^M.nm.length<=200/\M.nm=D4 (gN.take M.nm.length)) (Nk ([W.loc n0,.int a,.str gN].map some++List.replicate (10-3) none) st) by
  obtain⟨w,⟨M,n,rfl,h1,h2,h3,h4,h5,h6⟩,e⟩:=kT hh
  exact⟨M,n,h1,h2,h3,h4,h5,h6,e⟩
 obtain⟨c0,e0⟩:=on h0 a
 obtain⟨hs,hhl,hhp,e1⟩:=lK c0 1000003 10 (by omega) st
 have e1:lJ [.int c0,.int 10,.int 1000003] st=_:=e1
 obtain⟨d0,d1,d2,d3,d4,dr,rfl⟩:∃a b c d e r,hs=a::b::c::d::e::r:=by
  match hs,hhl with
  |a::b::c::d::e::r,_=>exact⟨_,_,_,_,_,_,rfl⟩
 apply au
 ·(walk_at "evs")
 generalize rH:st++[aj.lst ((d0::d1::d2::d3::d4::dr).map W.int)]=s1
 have k1:st <+: s1:=by rw[<- rH];exact ax _ _
 have hc1:s1[st.length]?=some (.lst (qm (d0::d1::d2::d3::d4::dr))):=by rw[<- rH];exact bE
 clear e0 e1 rH
 have i0:∀s:List aj,s1 <+: s->bg (.loc st.length) (.int 0) s=.ok (.int d0) s:=fun s h=>fm (i:=0) (pre_get h hc1) rfl
 have i1:∀s:List aj,s1 <+: s->bg (.loc st.length) (.int 1) s=.ok (.int d1) s:=fun s h=>fm (i:=1) (pre_get h hc1) rfl
 have i2:∀s:List aj,s1 <+: s->bg (.loc st.length) (.int 2) s=.ok (.int d2) s:=fun s h=>fm (i:=2) (pre_get h hc1) rfl
 have i3:∀s:List aj,s1 <+: s->bg (.loc st.length) (.int 3) s=.ok (.int d3) s:=fun s h=>fm (i:=3) (pre_get h hc1) rfl
 have i4:∀s:List aj,s1 <+: s->bg (.loc st.length) (.int 4) s=.ok (.int d4) s:=fun s h=>fm (i:=4) (pre_get h hc1) rfl
 obtain⟨c,n,hc5,hn1,Jb,hcn,es⟩:=HH d0 s1
 apply au
 ·exact yY (bU (al (bd kv cK (i0 s1 (ah _))) bb) es rfl) rfl
 have en:=HK gN c hp (by omega) s1
 have C7:(D4 (gN.take c)).length=c:=by rw[KY,aZ];omega
 have hnm2:D4 (gN.take c)=D4 (gN.take (D4 (gN.take c)).length):=by rw[C7]
 generalize D4 (gN.take c)=nm at en C7 hnm2
 apply au
 ·exact bu (bU (al kv kn) en rfl)
 obtain⟨T,hT⟩:∃T,T=n+n*n*2^c+40:=⟨_,rfl⟩
 have hnn:n*n<=81:=gS Jb Jb
 obtain⟨j,x,ds,NQ,hdp,hxj,eb⟩:=D6 (pre_get k1 h0) (a+1) T 3000017 (by omega)
 have eT:(n:Int)+(n:Int)*(n:Int)*((2^c:Nat):Int)+40=(T:Int):=by rw[hT];simp only[ig,gu];rfl
 have cm1:x5 (n:Int) (n:Int):=.inl ⟨by omega,by omega⟩
 have cm2:x5 ((n:Int)*(n:Int)) ((2^c:Nat):Int):=.inl (by rw[<- gu];omega)
 rw[<- eT]at eb
 apply au
 ·exact bu (bU (al kv (al (bd kv cK e7) (al (bd (bd kv (bd (bd kv kv (nQ cm1)) (bd cK kv (BG (by omega))) (nQ cm2)) e7) cK e7) (al cK bb)))) eb rfl)
 clear eb en es
 generalize xz:s1++x=s2
 have k2:s1 <+: s2:=by rw[<- xz];exact ax _ _
 have nX:s2[s1.length+j]?=some (.lst (qm ds)):=by rw[<- xz,dH];exact hxj
 generalize hdlo:s1.length+j=dl at nX
 have kk2:st <+: s2:=k1.trans k2
 have hT2:n+2^nm.length*(n*n)+40<=ds.length:=by rw[C7,iT,NQ,hT];omega
 have h3:=i3 s2 k2
 have hnc:n*n*2^nm.length<=200:=by rw[C7];exact hcn
 generalize n*n*2^c=q1 at hcn hT
 by_cases w3:d3%3=0
 ·have t3:(d3%3==0)=true:=cZ.mpr w3
  obtain⟨M,eM,hM,egr⟩:=D7 nm n dl ds s2 (by omega) hn1 Jb nX (by omega) hdp
  apply fQ
  ·(walk_at "evs")
  apply j3
  apply au
  ·exact bu (bU (al kv (al kv kn)) egr rfl)
  apply j3
  refine om (fun ρ s=>∃M':Mc,M'.nm=nm/\lx M' n/\ρ=[some (.loc n0),some (.int a),some (.str gN),some (.loc st.length),some (.int c),some (.int n),some (.str nm),some (.loc dl),some M'.w,none]/\s2 <+: s) ?_ ?_
  ·have h4:=i4 s2 k2
   by_cases w4:d4%3=0
   ·have t4:(d4%3==0)=true:=cZ.mpr w4
    have sl:=Cg (st:=s2) (n:=dl) (l:=some 4) (h:=some 8) (aM nX)
    rw[show(some (4:Int))=some ((4:Nat):Int)from rfl,show(some (8:Int))=some ((8:Nat):Int)from rfl,CC (by omega) (by omega)]at sl
    obtain⟨M',eM',hM',esp⟩:=AU M n s2.length ((ds.drop 4).take (8-4)) (s2++[.lst (qm ((ds.drop 4).take (8-4)))]) hM hn1 (by omega) bE (by simp;omega)
    apply lH
    ·(walk_at "evs")
    apply dz
    ·exact bu (bU (al kv (al (AF kv (wE cK) (wE cK) sl) bb)) esp rfl)
    ·exact⟨_,_,rfl,M',by rw[eM',eM],hM',rfl,ax _ _⟩
   ·have t4:(d4%3==0)=false:=bq.mpr w4
    apply iB
    ·(walk_at "evs")
    apply dz
    ·(walk_at "evs")
    ·exact⟨_,_,rfl,M,eM,hM,rfl,ah _⟩
  rintro ρ s3 ⟨M',eM',hM',rfl,k3⟩
  have sl:=Cg (st:=s3) (n:=dl) (l:=some 8) (h:=some 30) (aM (pre_get k3 nX))
  rw[show(some (8:Int))=some ((8:Nat):Int)from rfl,show(some (30:Int))=some ((30:Nat):Int)from rfl,CC (by omega) (by omega)]at sl
  obtain⟨zs,hzs,eo⟩:=HU n s3.length ((ds.drop 8).take (30-8)) (s3++[.lst (qm ((ds.drop 8).take (30-8)))]) hn1 (by omega) bE (by simp;omega)
  obtain⟨M2,eM2,hM2,ebl⟩:=HW M' n _ dl zs ds (s3++[.lst (qm ((ds.drop 8).take (30-8)))]++[.lst (nW zs)]) hM' (by omega) hzs bE (aG (aG (pre_get k3 nX))) (by omega) (by omega) (by rw[eM',C7];omega)
  obtain⟨y,rfl⟩:=kk2.trans k3
  apply f7
  ·exact bU (al kv (al (bU (al kv (al cK (al (AF kv (wE cK) (wE cK) sl) bb))) eo rfl) kn)) ebl rfl
  ·exact⟨_,_,rfl,⟨_,by rw[aV,aV]⟩,by simp only[undWs,bO];exact qE _ _,M2,n,rfl,hM2,hn1,Jb,by rw[eM2,eM',C7];exact hc5,by rw[eM2,eM'];exact hnc,by rw[eM2,eM'];exact hnm2⟩
 ·have t3:(d3%3==0)=false:=bq.mpr w3
  apply cf
  ·(walk_at "evs")
  apply cX
  apply au
  ·(walk_at "evs")
  have h1:=i1 s2 k2
  have h2:=i2 s2 k2
  have pn:(0:Int)<(n:Int):=by omega
  refine om (fun ρ s=>∃top:Nat,1<=top/\top<=n/\ρ=[some (.loc n0),some (.int a),some (.str gN),some (.loc st.length),some (.int c),some (.int n),some (.str nm),some (.loc dl),none,some (.int top)]/\s=s2) ?_ ?_
  ·by_cases w1:d1%3=0
   ·have t1:(d1%3==0)=true:=cZ.mpr w1
    obtain⟨q,hq,eq⟩:=ia (q:=d2) (n:=n) (by omega)
    apply lH
    ·(walk_at "evs")
    apply dz
    ·exact bu (bd cK (bd (bd kv cK h2) kv (jT pn)) e7)
    ·rw[eq];exact⟨_,_,rfl,1+q,by omega,by omega,rfl,rfl⟩
   ·have t1:(d1%3==0)=false:=bq.mpr w1
    apply iB
    ·(walk_at "evs")
    apply dz
    ·(walk_at "evs")
    ·exact⟨_,_,rfl,n,hn1,aw _,rfl,rfl⟩
  rintro ρ s3 ⟨top,Xh,ht2,rfl,rfl⟩
  obtain⟨M,eM,hM,em⟩:=AV nm n top dl ds s3 (by omega) hn1 Jb Xh ht2 nX (by omega)
  obtain⟨y,rfl⟩:=kk2
  apply b9
  ·exact bU (al kv (al kv (al kv kn))) em rfl
  ·exact⟨_,_,rfl,⟨_,rfl⟩,by simp only[undWs,bO];exact qE _ _,M,n,rfl,hM,hn1,Jb,by rw[eM,C7];exact hc5,by rw[eM];exact hnc,by rw[eM];exact hnm2⟩
structure Wy where
 s:Nat
 l:Nat
 r:Nat
 a:Nat
def Wy.z(p:Wy):List Int:=[(p.s:Int),(p.l:Int),(p.r:Int),(p.a:Int)]
def Wy.lt(p q:Wy):Prop:=p.s<q.s\/p.s=q.s/\(p.l<q.l\/p.l=q.l/\(p.r<q.r\/p.r=q.r/\p.a<q.a))
theorem Wy.lex(p q:Wy):HT.lexLt p.z q.z=true↔p.lt q:=by
 obtain⟨a,b,c,d⟩:=p
 obtain⟨e,f,g,h⟩:=q
 simp only[Wy.z,Wy.lt,HT.lexLt_cons,HT.lexLt_nil_nil]
 by_cases h1:(a:Int)=e
 ·rw[ar h1]
  by_cases h2:(b:Int)=f
  ·rw[ar h2]
   by_cases h3:(c:Int)=g
   ·rw[ar h3]
    by_cases h4:(d:Int)=h
    ·rw[ar h4];constructor
     ·intro z;cases z
     ·intro z;omega
    ·rw[az h4,bt];omega
   ·rw[az h3,bt];omega
  ·rw[az h2,bt];omega
 ·rw[az h1,bt];omega
theorem QY{a b c:Nat}{A B C:Prop}(t:A->B->C)(h1:a<b\/a=b/\A)(h2:b<c\/b=c/\B):a<c\/a=c/\C:=by
 rcases h1 with z|⟨rfl,p⟩
 ·rcases h2 with y|⟨rfl,_⟩
  ·exact .inl (qh z y)
  ·exact .inl z
 ·rcases h2 with y|⟨rfl,q⟩
  ·exact .inl y
  ·exact .inr ⟨rfl,t p q⟩
theorem Wy.trans{p q r:Wy}(h1:p.lt q)(h2:q.lt r):p.lt r:=QY (QY (QY qh)) h1 h2
theorem Wy.irr(p:Wy):¬ p.lt p:=fun h=>by
 rcases h with z|⟨_,z|⟨_,z|⟨_,z⟩⟩⟩<;>exact bH _ z
theorem Wy.tri{p q:Wy}(h1:¬ p.lt q)(h2:¬ q.lt p):p=q:=by
 obtain⟨a,b,c,d⟩:=p
 obtain⟨e,f,g,h⟩:=q
 obtain rfl:a=e:=ie (dk fun z=>h2 (.inl z)) (dk fun z=>h1 (.inl z))
 obtain rfl:b=f:=ie (dk fun z=>h2 (.inr ⟨rfl,.inl z⟩)) (dk fun z=>h1 (.inr ⟨rfl,.inl z⟩))
 obtain rfl:c=g:=ie (dk fun z=>h2 (.inr ⟨rfl,.inr ⟨rfl,.inl z⟩⟩)) (dk fun z=>h1 (.inr ⟨rfl,.inr ⟨rfl,.inl z⟩⟩))
 obtain rfl:d=h:=ie (dk fun z=>h2 (.inr ⟨rfl,.inr ⟨rfl,.inr ⟨rfl,z⟩⟩⟩)) (dk fun z=>h1 (.inr ⟨rfl,.inr ⟨rfl,.inr ⟨rfl,z⟩⟩⟩))
 rfl
abbrev Ro:=Nat×Wy
abbrev QZ(T:Nat->Nat->Nat->Nat)(L:Nat)(E:List Ro)(p:Ro):Prop:=∃el er:Ro,E[p.2.l]?=some el/\E[p.2.r]?=some er/\p.2.a<L/\T p.2.a el.1 er.1=p.1/\p.2.s=el.2.s+er.2.s+1
structure lL(T:Nat->Nat->Nat->Nat)(L N:Nat)(E:List Ro):Prop where
 zero:∃r,E=(0,⟨0,0,0,0⟩)::r
 lt:∀e∈E,e.1<N
 nd:(E.map Prod.fst).Nodup
 row:∀(i:Nat) (e:Ro),E[i]?=some e->0<i->e.2.l<i/\e.2.r<i/\QZ T L E e
 rise:∀(i:Nat) (e f:Ro),E[i]?=some e->E[i+1]?=some f->e.2.lt f.2
structure yZ(T:Nat->Nat->Nat->Nat)(L N:Nat)(E B:List Ro):Prop where
 nd:(B.map Prod.fst).Nodup
 ok:∀p∈B,QZ T L E p/\p.1∉E.map Prod.fst/\p.1<N
 up:∀p∈B,∀e,E[E.length-1]?=some e->e.2.lt p.2
abbrev rF(l r a:Nat)(el er:Ro):Wy:=⟨el.2.s+er.2.s+1,l,r,a⟩
def K6(T:Nat->Nat->Nat->Nat)(E B:List Ro)(l r a:Nat):Prop:=∀el er,E[l]?=some el->E[r]?=some er->(∃(i:Nat) (e:Ro),E[i]?=some e/\e.1=T a el.1 er.1/\¬ (rF l r a el er).lt e.2)\/∃p∈B,p.1=T a el.1 er.1/\¬ (rF l r a el er).lt p.2
section
variable{L:Nat}{E B:List Ro}
theorem lL.mono(h:lL T L N E):∀(k i:Nat) (e f:Ro),E[i]?=some e->E[i+k]?=some f->e.2.s<=f.2.s
 |0,i,e,f,h1,h2=>by rw[jZ,h1]at h2;cases h2;exact aw _
 |k+1,i,e,f,h1,h2=>by
  have hk:i+k<E.length:=by have:=(ac.mp h2).1;omega
  have e1:E[i+k]?=some E[i+k]:=aa hk
  have a:=h.mono k i e _ h1 e1
  have b:=h.rise (i+k) _ f e1 (by rw[<- h2];congr 1)
  unfold Wy.lt at b
  omega
theorem lL.top(h:lL T L N E){e f:Ro}(h1:E[i]?=some e)(h2:E[E.length-1]?=some f):e.2.s<=f.2.s:=by
 have hi:=(ac.mp h1).1
 exact h.mono (E.length-1-i) i e f h1 (by rw[show i+(E.length-1-i)=E.length-1 by omega];exact h2)
theorem lL.len(h:lL T L N E):E.length<=N:=by
 have:=lg (l:=List.range N) h.nd fun c hc=>by
  obtain⟨e,he,rfl⟩:=aJ.mp hc
  exact bx.mpr (h.lt e he)
 simpa using this
theorem lL.len0(h:lL T L N E):0<E.length:=by obtain⟨r,e⟩:=h.zero;rw[e];simp
theorem yZ.len(h:yZ T L N E B):B.length<=N:=by
 have:=lg (l:=List.range N) h.nd fun c hc=>by
  obtain⟨e,he,rfl⟩:=aJ.mp hc
  exact bx.mpr (h.ok e he).2.2
 simpa using this
theorem CD(h:(B.map Prod.fst).Nodup):∀{p q:Ro},p∈B->q∈B->p.1=q.1->p=q:=by
 induction B with
 |nil=>intro p q hp;cases hp
 |cons b B ih=>
  intro p q hp hq e
  simp only[aH,eE]at h
  rcases a_.mp hp with rfl|hp'<;>rcases a_.mp hq with rfl|hq'
  ·rfl
  ·exact(h.1 (aJ.mpr ⟨q,hq',e.symm⟩)).elim
  ·exact(h.1 (aJ.mpr ⟨p,hp',e⟩)).elim
  ·exact ih h.2 hp' hq' e
theorem QZ.app{x:List Ro}{p:Ro}(h:QZ T L E p):QZ T L (E++x) p:=by
 obtain⟨el,er,h1,h2,h3⟩:=h
 exact⟨el,er,by rw[aq (ac.mp h1).1];exact h1,by rw[aq (ac.mp h2).1];exact h2,h3⟩
def qF(B:List Ro)(p:Ro):List Ro:=if p.1∈B.map Prod.fst then B.map fun q=>if q.1=p.1 then p else q else B++[p]
theorem y4{p q:Ro}(h:q∈qF B p):q=p\/q∈B/\q.1≠p.1:=by
 unfold qF at h
 split at h
 ·obtain⟨x,hx,e⟩:=aJ.mp h
  split at e
  ·exact .inl e.symm
  ·rename_i hn;subst e;exact .inr ⟨hx,hn⟩
 ·rename_i hn
  rcases aI.mp h with h|h
  ·exact .inr ⟨h,fun e=>hn (aJ.mpr ⟨q,h,e⟩)⟩
  ·exact .inl (bR.mp h)
theorem y6{p:Ro}:p∈qF B p:=by
 unfold qF
 split
 ·rename_i h
  obtain⟨x,hx,e⟩:=aJ.mp h
  exact aJ.mpr ⟨x,hx,by rw[ar e]⟩
 ·exact aI.mpr (.inr (bR.mpr rfl))
theorem HX{p q:Ro}(h:q∈B)(hn:q.1≠p.1):q∈qF B p:=by
 unfold qF
 split
 ·exact aJ.mpr ⟨q,h,by rw[az hn]⟩
 ·exact aI.mpr (.inl h)
theorem K7{p:Ro}(h:(B.map Prod.fst).Nodup):((qF B p).map Prod.fst).Nodup:=by
 unfold qF
 split
 ·rw[aX]
  have e:B.map (Prod.fst∘fun q:Ro=>if q.1=p.1 then p else q)=B.map Prod.fst:=by
   refine br fun q _=>?_
   show(if q.1=p.1 then p else q).1=q.1
   split
   ·rename_i e;exact e.symm
   ·rfl
  rw[e];exact h
 ·rename_i hn
  rw[ce,db]
  refine⟨h,by simp,fun a ha b hb=>?_⟩
  simp only[aH,dD,bR]at hb
  subst hb
  exact fun z=>hn (z▸ha)
def HY(E B:List Ro)(p:Ro)(B':List Ro):Prop:=(p.1∈E.map Prod.fst/\B'=B)\/(p.1∉E.map Prod.fst/\(∃q∈B,q.1=p.1/\¬ p.2.lt q.2)/\B'=B)\/(p.1∉E.map Prod.fst/\(∀q∈B,q.1=p.1->p.2.lt q.2)/\B'=qF B p)
theorem HZ(h:lL T L N E)(b:yZ T L N E B){B':List Ro}{p:Ro}(hw:QZ T L E p)(hN:p.1<N)(qQ:p.2.l=E.length-1\/p.2.r=E.length-1)(o:HY E B p B'):yZ T L N E B':=by
 rcases o with⟨_,rfl⟩|⟨_,_,rfl⟩|⟨h1,h2,rfl⟩
 ·exact b
 ·exact b
 ·refine⟨K7 b.nd,fun q hq=>?_,fun q hq e he=>?_⟩
  ·rcases y4 hq with rfl|⟨hq,_⟩
   ·exact⟨hw,h1,hN⟩
   ·exact b.ok q hq
  ·rcases y4 hq with rfl|⟨hq,_⟩
   ·obtain⟨el,er,e1,e2,_,_,e5⟩:=hw
    rcases qQ with z|z
    ·rw[z,he]at e1;cases e1
     unfold Wy.lt;omega
    ·rw[z,he]at e2;cases e2
     unfold Wy.lt;omega
   ·exact b.up q hq e he
theorem K8{l r a:Nat}{B':List Ro}{p:Ro}(o:HY E B p B')(b:(B.map Prod.fst).Nodup)(c:K6 T E B l r a):K6 T E B' l r a:=by
 rcases o with⟨_,rfl⟩|⟨_,_,rfl⟩|⟨h1,h2,rfl⟩
 ·exact c
 ·exact c
 ·intro el er e1 e2
  rcases c el er e1 e2 with x|⟨q,hq,e,n⟩
  ·exact .inl x
  ·by_cases z:q.1=p.1
   ·have:=h2 q hq z
    exact .inr ⟨p,y6,z▸e,fun y=>n (Wy.trans y this)⟩
   ·exact .inr ⟨q,HX hq z,e,n⟩
theorem H9(h:lL T L N E){l r a:Nat}{B':List Ro}{el er:Ro}(e1:E[l]?=some el)(e2:E[r]?=some er)(qQ:l=E.length-1\/r=E.length-1)(o:HY E B (T a el.1 er.1,rF l r a el er) B'):K6 T E B' l r a:=by
 intro el' er' f1 f2
 rw[e1]at f1;rw[e2]at f2
 cases f1;cases f2
 rcases o with⟨h1,rfl⟩|⟨_,⟨q,hq,e,n⟩,rfl⟩|⟨h1,h2,rfl⟩
 ·obtain⟨x,hx,e⟩:=aJ.mp h1
  obtain⟨i,hi⟩:=bC hx
  refine .inl ⟨i,x,hi,e,fun z=>?_⟩
  rcases qQ with y|y
  ·have:=h.top hi (by rw[<- y];exact e1)
   unfold Wy.lt at z;simp only at z;omega
  ·have:=h.top hi (by rw[<- y];exact e2)
   unfold Wy.lt at z;simp only at z;omega
 ·exact .inr ⟨q,hq,e,n⟩
 ·exact .inr ⟨_,y6,rfl,fun z=>by unfold Wy.lt at z;simp only at z;omega⟩
theorem D8(h:lL T L N E)(b:yZ T L N E B){p:Ro}(hp:p∈B):lL T L N (E++[p]):=by
 obtain⟨w,hn,hN⟩:=b.ok p hp
 obtain⟨r,hr⟩:=h.zero
 refine⟨⟨r++[p],by rw[hr];rfl⟩,fun e he=>?_,?_,fun i e he hi=>?_,fun i e f h1 h2=>?_⟩
 ·rcases aI.mp he with he|he
  ·exact h.lt e he
  ·rw[bR.mp he];exact hN
 ·rw[ce,db]
  refine⟨h.nd,by simp,fun a ha c hc=>?_⟩
  simp only[aH,dD,bR]at hc
  subst hc
  exact fun z=>hn (z▸ha)
 ·by_cases hl:i<E.length
  ·rw[aq hl]at he
   obtain⟨a,c,d⟩:=h.row i e he hi
   exact⟨a,c,d.app⟩
  ·have:i=E.length:=by have:=(ac.mp he).1;simp at this;omega
   subst this
   rw[bM]at he;cases he
   obtain⟨el,er,e1,e2,e3⟩:=w
   exact⟨(ac.mp e1).1,(ac.mp e2).1,QZ.app ⟨el,er,e1,e2,e3⟩⟩
 ·by_cases hl:i+1<E.length
  ·rw[aq hl]at h2
   rw[aq (by omega)]at h1
   exact h.rise i e f h1 h2
  ·have:i+1=E.length:=by have:=(ac.mp h2).1;simp at this;omega
   rw[this,bM]at h2;cases h2
   rw[aq (by omega)]at h1
   exact b.up p hp e (by rw[<- h1];congr 1;omega)
theorem D9(h:lL T L N E)(b:yZ T L N E B){p:Ro}(hp:p∈B)(RJ:∀q∈B,¬ q.2.lt p.2):yZ T L N (E++[p]) (B.filter fun q=>decide (q.1≠p.1)):=by
 refine⟨(List.Nodup.sublist (List.filter_sublist.map _) b.nd),fun q hq=>?_,fun q hq e he=>?_⟩
 ·obtain⟨hq,jt⟩:=bP.mp hq
  obtain⟨w,hn,hN⟩:=b.ok q hq
  refine⟨w.app,?_,hN⟩
  rw[ce,aI]
  rintro(z|z)
  ·exact hn z
  ·simp only[aH,dD,bR]at z
   exact iP jt z
 ·obtain⟨hq,jt⟩:=bP.mp hq
  have he:(E++[p])[E.length]?=some e:=by rw[<- he];congr 1;simp
  rw[bM]at he;cases he
  have h1:=RJ q hq
  obtain⟨el,er,a1,a2,a3,a4,a5⟩:=(b.ok q hq).1
  obtain⟨fl,fr,c1,c2,c3,c4,c5⟩:=(b.ok p hp).1
  obtain⟨q1,⟨s,l,r,a⟩⟩:=q
  obtain⟨p1,⟨s',l',r',a'⟩⟩:=p
  simp only at a1 a2 a3 a4 a5 c1 c2 c3 c4 c5
  by_cases z:l=l'/\r=r'/\a=a'
  ·obtain⟨rfl,rfl,rfl⟩:=z
   rw[a1]at c1;rw[a2]at c2
   cases c1;cases c2
   exact(iP jt (a4.symm.trans c4)).elim
  ·by_cases y:Wy.lt ⟨s',l',r',a'⟩ ⟨s,l,r,a⟩
   ·exact y
   ·have:=Wy.tri h1 y
    cases this
    exact(z ⟨rfl,rfl,rfl⟩).elim
theorem H_{l r a:Nat}{p:Ro}(hp:p∈B)(nd:(B.map Prod.fst).Nodup)(hl:l<E.length)(hr:r<E.length)(c:K6 T E B l r a):K6 T (E++[p]) (B.filter fun q=>decide (q.1≠p.1)) l r a:=by
 intro el er e1 e2
 rw[aq hl]at e1
 rw[aq hr]at e2
 rcases c el er e1 e2 with⟨i,e,f1,f2,f3⟩|⟨q,hq,f2,f3⟩
 ·exact .inl ⟨i,e,by rw[aq (ac.mp f1).1];exact f1,f2,f3⟩
 ·by_cases z:q.1=p.1
  ·obtain rfl:=CD nd hq hp z
   exact .inl ⟨E.length,q,bM,f2,f3⟩
  ·exact .inr ⟨q,bP.mpr ⟨hq,aK z⟩,f2,f3⟩
end
def dI(f:α->Nat)(g:α->W)(l:List α):List (DK×W):=l.map fun a=>(DK.i (f a:Nat),g a)
section
variable{f:α->Nat}{g:α->W}{l:List α}
theorem AW(q:Nat)(a:α):decide ((DK.i (f a:Nat))=DK.i (q:Nat))=decide (f a=q):=by
 rw[cD,bt,bt]
 constructor
 ·intro h;injection h with h;omega
 ·intro h;rw[h]
theorem Ia(q:Nat):j9 (dI f g l) (.i q)=(l.find? fun a=>decide (f a=q)).map g:=by
 unfold j9 dI
 rw[List.find?_map]
 simp only[eA,AW,Option.map_map]
theorem y7(q:Nat):(j9 (dI f g l) (.i q)).isSome=decide (q∈l.map f):=by
 rw[Ia,gD,cD,List.find?_isSome,bt,aJ]
 simp
theorem Ib{a:α}(h:(l.map f).Nodup)(ha:a∈l):j9 (dI f g l) (.i (f a:Nat))=some (g a):=by
 rw[Ia]
 induction l with
 |nil=>cases ha
 |cons b l ih=>
  simp only[aH,eE]at h
  rw[bD]
  rcases a_.mp ha with rfl|ha'
  ·simp
  ·have:f b≠f a:=fun z=>h.1 (z▸aJ.mpr ⟨a,ha',rfl⟩)
   rw[show decide (f b=f a)=false from aN this]
   exact ih h.2 ha'
theorem tN{a:α}(h:f a∉l.map f):sO (dI f g l) (.i (f a:Nat)) (g a)=dI f g (l++[a]):=by
 unfold sO
 rw[az]
 ·unfold dI;rw[ce];rfl
 ·intro z
  unfold dI at z
  rw[List.any_map,jf]at z
  obtain⟨x,hx,e⟩:=z
  simp only[eA,AW,bt]at e
  exact h (aJ.mpr ⟨x,hx,e⟩)
theorem K9(q:Nat):j_ (dI f g l) (.i q)=dI f g (l.filter fun a=>decide (f a≠q)):=by
 unfold j_ dI
 rw[jH]
 congr 1
 refine k_ fun a _=>?_
 show decide ((DK.i (f a:Nat))≠DK.i (q:Nat))=decide (f a≠q)
 rw[decide_not,AW,decide_not]
theorem mz:(dI f g l).length=l.length:=by simp[dI]
end
def wT(w:Wy):W:=.tup (w.z.map W.int)
abbrev bW(B:List Ro):List (DK×W):=dI (fun p:Ro=>p.1) (fun p=>wT p.2) B
abbrev tW(E:List Ro):List (DK×W):=dI (fun p:Ro=>p.1) (fun _=>W.bl true) E
theorem Q0(B:List Ro)(p:Ro):sO (bW B) (.i (p.1:Nat)) (wT p.2)=bW (qF B p):=by
 by_cases h:p.1∈B.map Prod.fst
 ·unfold qF
  rw[ar h]
  unfold sO
  rw[ar]
  ·unfold bW dI
   rw[aX,aX]
   refine br fun q _=>?_
   show(if DK.i (q.1:Nat)=DK.i (p.1:Nat)then _ else _)=_
   by_cases e:q.1=p.1
   ·rw[ar (by rw[e])]
    show _=(DK.i ((if q.1=p.1 then p else q).1:Nat),wT (if q.1=p.1 then p else q).2)
    rw[ar e];show(DK.i (q.1:Nat),_)=_;rw[e]
   ·rw[az (by intro z;injection z with z;omega)]
    show _=(DK.i ((if q.1=p.1 then p else q).1:Nat),wT (if q.1=p.1 then p else q).2)
    rw[az e]
  ·unfold bW dI
   rw[List.any_map,jf]
   obtain⟨x,hx,e⟩:=aJ.mp h
   exact⟨x,hx,by simp only[eA,bt];rw[e]⟩
 ·unfold qF
  rw[az h]
  exact tN (f:=fun p:Ro=>p.1) (g:=fun p=>wT p.2) (a:=p) h
theorem tO:∀B:List Ro,jR (bW B)=some (B.map fun p=>p.2.z)
 |[]=>rfl
 |p::B=>by
  show(match Ax (wT p.2),jR (bW B)with|some a,some b=>some (a::b)|_,_=>none)=_
  rw[tO B];rfl
theorem y8(B:List Ro):∀j,j<B.length->∃p,B[kc (fun a=>(B.map fun p=>p.2.z).getD a []) j]?=some p/\∀i q,i<=j->B[i]?=some q->¬ q.2.lt p.2
 |0,h=>⟨B[0],aa h,fun i q hi hq=>by
   obtain rfl:i=0:=by omega
   rw[aa h]at hq;cases hq
   exact Wy.irr _⟩
 |j+1,h=>by
  obtain⟨p,hp,hm⟩:=y8 B j (by omega)
  have hj:B[j+1]?=some B[j+1]:=aa h
  have kz:∀(i:Nat) (q:Ro),B[i]?=some q->(B.map fun p=>p.2.z).getD i []=q.2.z:=fun i q e=>by
   rw[ay,ak,e];rfl
  unfold kc
  simp only[kz _ _ hj,kz _ _ hp]
  split
  ·rename_i z
   rw[Wy.lex]at z
   refine⟨B[j+1],hj,fun i q hi hq=>?_⟩
   rcases iU i (j+1)with y|y
   ·have:=hm i q (by omega) hq
    exact fun y=>this (Wy.trans y z)
   ·obtain rfl:i=j+1:=by omega
    rw[hj]at hq;cases hq
    exact Wy.irr _
  ·rename_i z
   refine⟨p,hp,fun i q hi hq=>?_⟩
   rcases iU i (j+1)with y|y
   ·exact hm i q (by omega) hq
   ·obtain rfl:i=j+1:=by omega
    rw[hj]at hq;cases hq
    intro y;exact z ((Wy.lex _ _).mpr y)
section
variable{kvs:List (DK×W)}
theorem fN(h:st[n]?=some (.dct kvs)):gn st (.loc n)=some (n,kvs):=by simp only[gn,h]
theorem wU(h:st[n]?=some (.dct kvs)):rC st (.loc n)=some (n,kvs):=by simp only[rC,h]
theorem tP{q:Nat}{neg b:Bool}(h:gn st (.loc n)=some (n,kvs))(hb:(if neg then !(j9 kvs (.i q)).isSome else(j9 kvs (.i q)).isSome)=b):lE neg (.int q) (.loc n) st=.ok (.bl b) st:=by
 rw[<- hb];simp only[lE,h,jJ]
theorem kj{q:Nat}{w:W}(h:gn st (.loc n)=some (n,kvs))(hb:j9 kvs (.i q)=some w):gp (.loc n) (.int q) st=.ok w st:=by
 simp only[gp,h,jJ,hb,cL]
theorem tQ{q:Nat}{v:W}(h:st[n]?=some (.dct kvs))(hl:kvs.length<ji):jn (.loc n) (.int q) v st=some (st.set n (.dct (sO kvs (.i q) v))):=by
 simp only[jn,wU h,jJ];rw[ar hl]
theorem AX(h:gn st (.loc n)=some (n,kvs)):sP [.loc n] st=.ok (.int kvs.length) st:=by
 simp only[sP,h]
theorem Q1{fk:FE}{q:Nat}{w:W}(h1:fo ρ st=.ok (.loc n) st)(h2:fk ρ st=.ok (.int q) st)(h:st[n]?=some (.dct kvs))(hg:j9 kvs (.i q)=some w):B4 fo fk ρ st=.ok w (st.set n (.dct (j_ kvs (.i q)))):=by
 unfold B4
 rw[h1];simp only[R.bind_ok,wU h]
 rw[h2];simp only[R.bind_ok,wU h,jJ,hg,cL]
theorem K_{T:Addr}{q:Str}{ks:List (List Int)}{p:DK×W}(h0:ρ[i]?=some (some (.loc n)))(h:st[n]?=some (.dct kvs))(hk:jR kvs=some ks)(ht:st[j]?=some (.tab T pos q))(hp:kvs[kc (fun a=>ks.getD a []) (kvs.length-1)]?=some p) :
  sR i j T pos q ρ st=.ok p.1.w st:=by
 unfold sR
 rw[h0];simp only[wU h,hk]
 rw[ar (show FU st j T pos q from ht),hp];rfl
theorem UO{w v:Wy}{b:Bool}(h:HT.lexLt w.z v.z=b):DQ (wT w) (wT v) st=.ok (.bl b) st:=by
 rw[<- h];rfl
theorem K'{c:Nat}{d:aj}(hc:c<st.length)(hd:d.und st.length=true)(h:gJ (Gg fun _ bG=>∃x,bG=st.set c d++x) (body (ws.map some++List.replicate (N-ws.length) none) st)):dq N body ws st=.ok .non (st.set c d):=by
 obtain⟨ρ',bG,e,x,rfl⟩:=h
 unfold dq
 rw[e]
 show R.ok W.non (kP st (st.set c d++x) [.non])=_
 unfold kP
 rw[ar]
 ·congr 1
  rw[bI (by simp),bZ (by simp)]
 ·refine⟨rfl,by simp,fun i hi=>?_⟩
  rw[aq (by simpa using hi)]
  by_cases z:c=i
  ·subst z
   exact .inr ⟨d,by rw[ba hi],hd⟩
  ·exact .inl (by rw[aS z])
end
theorem lM{P:RS->Prop}{f:FG}{k:DH}(I:Nat->bY->List aj->Prop)(h:fi ρ st=.ok k st1)(h0:I 0 ρ st1)(hc:∀i ρ st,I i ρ st->j7 st k.2)
  (hs:∀i w ρ st,k.1[i]?=some w->I i ρ st->∃ρ',f w ρ=some ρ'/\gJ (Gg (I (i+1))) (body ρ' st)) (he:∀ρ st,I k.1.length ρ st->P (.nx ρ st)):gJ P (fC fi f body ρ st):=by
 obtain⟨ρ2,cV,e,h2⟩:=tf (f:=f) (body:=body) (ck:=k.2) I (ws:=k.1) (ρ:=ρ) (st:=st1) 0 h0 hc fun i w ρ st hw hI=>by
  rw[eO]at hI ⊢
  obtain⟨ρ',e1,ρ2,cV,e2,h2⟩:=hs i w ρ st hw hI
  exact⟨ρ',ρ2,cV,e1,e2,h2⟩
 rw[eO]at h2
 rw[Ce h,e];exact he _ _ h2
def xB(n:Nat):List (Nat×Nat):=(List.range (n+1)).map (fun o=>(n,o))++(List.range n).map (fun o=>(o,n))
def iY(p:Nat×Nat):W:=.tup [.int (p.1:Nat),.int (p.2:Nat)]
theorem tU(q:Nat)(F:W->β):(cB 0 q).map F=(List.range q).map fun i=>F (.int (i:Nat)):=by
 unfold cB
 rw[aX]
 refine br fun i _=>?_
 show F (.int (0+(i:Int)))=_
 rw[iS]
theorem Ic(n:Nat)(hn:n<=1000)(st:List aj):∃x y,HB [.int n] st=.ok (.loc (st.length+2)) (st++[.lst x,.lst y,.lst ((xB n).map iY)]):=by
 refine⟨List.map (fun w=>W.tup [.int n,w]) (cB 0 ((n:Int)+1).toNat),List.map (fun w=>W.tup [w,.int n]) (cB 0 (n:Int).toNat),pW (N:=1) (body:=Up) (ws:=[.int n]) (k:=2) ?_⟩
 refine kR ?_
 refine bd (iG (fun w=>.tup [.int n,w]) (fD (al (bd kv cK e7) bb) (by omega)) ?_ trivial ?_) (iG (fun w=>.tup [w,.int n]) (fD kn (by omega)) ?_ trivial ?_) ?_
 ·rw[cB,ai,c_];show _<=1000000;omega
 ·intro w hw
  exact⟨_,rfl,(by(walk_at "evs"))⟩
 ·rw[cB,ai,c_];show _<=1000000;omega
 ·intro w hw
  exact⟨_,rfl,(by(walk_at "evs"))⟩
 ·have ea:(xB n).map iY=List.map (fun w=>W.tup [.int n,w]) (cB 0 ((n:Int)+1).toNat)++List.map (fun w=>W.tup [w,.int n]) (cB 0 (n:Int).toNat):=by
   rw[tU,tU,xB,ce,aX,aX]
   rfl
  rw[Ga (ws:=List.map (fun w=>W.tup [.int n,w]) (cB 0 ((n:Int)+1).toNat)) (xs:=List.map (fun w=>W.tup [w,.int n]) (cB 0 (n:Int).toNat)) (aG (by rw[bN];rfl)) (by rw[bN];rfl),ea]
  ·simp
  ·simp[cB];show _<=1000000;omega
theorem Q2{p:Nat×Nat}(h:(xB n)[i]?=some p):p.1<=n/\p.2<=n/\(p.1=n\/p.2=n):=by
 have:=aA h
 unfold xB at this
 rcases aI.mp this with h|h
 ·obtain⟨o,ho,rfl⟩:=aJ.mp h
  have:=bx.mp ho
  exact⟨aw _,by simp only;omega,.inl rfl⟩
 ·obtain⟨o,ho,rfl⟩:=aJ.mp h
  have:=bx.mp ho
  exact⟨by simp only;omega,aw _,.inr rfl⟩
theorem La{n l r:Nat}(hl:l<=n)(hr:r<=n)(h:l=n\/r=n):∃i:Nat,i<(xB n).length/\(xB n)[i]?=some (l,r):=by
 have:(l,r)∈xB n:=by
  unfold xB
  rw[aI]
  by_cases z:l=n
  ·subst z
   exact .inl (aJ.mpr ⟨r,bx.mpr (by omega),rfl⟩)
  ·have:r=n:=by omega
   subst this
   exact .inr (aJ.mpr ⟨l,bx.mpr (by omega),rfl⟩)
 obtain⟨i,hi⟩:=bC this
 exact⟨i,(ac.mp hi).1,hi⟩
def vK(E:List Ro)(i:Nat)(e:Ro)(w:W):Prop:=(i=0/\w=.tup [.int (e.1:Nat),.int (e.2.s:Nat),.tup []])\/(0<i/\∃el er:Ro,E[e.2.l]?=some el/\E[e.2.r]?=some er/\w=.tup [.int (e.1:Nat),.int (e.2.s:Nat),.tup [.int (el.1:Nat),.int (er.1:Nat),.int (e.2.a:Nat)]])
structure Rows(E:List Ro)(R:List W):Prop where
 len:R.length=E.length
 at':∀(i:Nat) (e:Ro),E[i]?=some e->∃w,R[i]?=some w/\vK E i e w
theorem vK.sh{E:List Ro}{e:Ro}{w:W}(h:vK E i e w):∃t,w=.tup [.int (e.1:Nat),.int (e.2.s:Nat),t]:=by
 rcases h with⟨_,rfl⟩|⟨_,_,_,_,_,rfl⟩<;>exact⟨_,rfl⟩
theorem vK.app{E x:List Ro}{e:Ro}{w:W}(h:vK E i e w):vK (E++x) i e w:=by
 rcases h with h|⟨h0,el,er,h1,h2,h3⟩
 ·exact .inl h
 ·exact .inr ⟨h0,el,er,by rw[aq (ac.mp h1).1];exact h1,by rw[aq (ac.mp h2).1];exact h2,h3⟩
def a9(M:Mc)(a l r:Nat):Nat:=((M.tb.getD a []).getD l []).getD r 0
section
variable{M:Mc}
theorem jK(hM:lx M N){a:Nat}(ht:M.tb[a]?=some t){l r:Nat}(hl:l<N)(hr:r<N):∃row,t[l]?=some row/\row[r]?=some (a9 M a l r)/\a9 M a l r<N:=by
 obtain⟨t1,t2⟩:=hM.t t (aA ht)
 have hl':l<t.length:=by omega
 have e1:t[l]?=some t[l]:=aa hl'
 obtain⟨r1,r2⟩:=t2 t[l] (fV hl')
 have hr':r<t[l].length:=by omega
 have e2:t[l][r]?=some t[l][r]:=aa hr'
 have e3:a9 M a l r=t[l][r]:=by
  unfold a9
  rw[ay,ay,ay,ht]
  simp only[Option.getD_some,e1,e2]
 exact⟨t[l],e1,by rw[e2,e3],by rw[e3];exact r2 _ (fV hr')⟩
theorem lN{l:Nat}{row:List Nat}(h:t[l]?=some row):bg (fY t) (.int (l:Nat)) st=.ok (jy row) st:=by
 unfold fY;exact gI (dm (by rw[ak,h];rfl))
theorem lO{row:List Nat}{r k:Nat}(h:row[r]?=some k):bg (jy row) (.int (r:Nat)) st=.ok (.int (k:Nat)) st:=by
 unfold jy;exact gI (dm (by rw[ak,h];rfl))
end
structure Go(T:Nat->Nat->Nat->Nat)(L N:Nat)(E B:List Ro)(D:Nat->Nat->Nat->Prop):Prop where
 best:yZ T L N E B
 cov:∀l r a,D l r a->K6 T E B l r a
theorem Go.imp{L:Nat}{E B:List Ro}{D D':Nat->Nat->Nat->Prop}(g:Go T L N E B D)(h:∀l r a,D' l r a->D l r a):Go T L N E B D':=⟨g.best,fun l r a d=>g.cov l r a (h l r a d)⟩
theorem Go.one{L:Nat}{E B B':List Ro}{D:Nat->Nat->Nat->Prop}(h:lL T L N E)(g:Go T L N E B D){l r a:Nat}{el er:Ro}(e1:E[l]?=some el)(e2:E[r]?=some er)(ha:a<L)(hN:T a el.1 er.1<N)
  (qQ:l=E.length-1\/r=E.length-1) (o:HY E B (T a el.1 er.1,rF l r a el er) B'):Go T L N E B' (fun l' r' a'=>D l' r' a'\/l'=l/\r'=r/\a'=a):=
 ⟨HZ h g.best ⟨el,er,e1,e2,ha,rfl,rfl⟩ hN qQ o,fun l' r' a' d=>by
  rcases d with d|⟨rfl,rfl,rfl⟩
  ·exact K8 o g.best.nd (g.cov _ _ _ d)
  ·exact H9 h e1 e2 qQ o⟩
theorem y9(n:Nat):∀l:List Int,undWs n (l.map W.int)=true
 |[]=>rfl
 |_::l=>by simp only[aH,undWs,y9 n l,bO];rfl
theorem Q3(n:Nat)(B:List Ro):(aj.dct (bW B)).und n=true:=by
 show undWs n ((bW B).map fun p=>p.2)=true
 unfold bW dI
 rw[aX]
 induction B with
 |nil=>rfl
 |cons b B ih=>
  simp only[aH,undWs,ih,bO]
  show(wT b.2).und n=true
  unfold wT W.und
  exact y9 n _
section
variable{M:Mc}{E B:List Ro}{R:List W}{ra rb rc:Nat}
theorem CF(hM:lx M N)(hN:N<=100)(Ei:st[ra]?=some (.lst R))(Vc:st[rb]?=some (.dct (tW E)))(Ji:st[rc]?=some (.dct (bW B)))(n1:rc≠ra)(n2:rc≠rb)(hR:Rows E R)(h:lL (a9 M) M.tb.length N E)
  (g:Go (a9 M) M.tb.length N E B fun l r a=>l<E.length-1/\r<E.length-1/\a<M.tb.length) :
  ∃B',Go (a9 M) M.tb.length N E B' (fun l r a=>l<E.length/\r<E.length/\a<M.tb.length)/\HE [M.w,.loc ra,.loc rb,.loc rc] st=.ok .non (st.set rc (.dct (bW B'))):=by
 have hE:=h.len
 have hE0:=h.len0
 suffices hh:gJ (Gg fun _ bG=>∃B',Go (a9 M) M.tb.length N E B' (fun l r a=>l<E.length/\r<E.length/\a<M.tb.length)/\∃x,bG=st.set rc (.dct (bW B'))++x) (UE ([M.w,W.loc ra,.loc rb,.loc rc].map some++List.replicate (11-4) none) st) by
  obtain⟨ρ',bG,e,B',hg,hx⟩:=hh
  exact⟨B',hg,K' (ac.mp Ji).1 (Q3 _ _) ⟨ρ',bG,e,hx⟩⟩
 obtain⟨x,y,ep⟩:=Ic (E.length-1) (by omega) st
 have hc:=(ac.mp Ji).1
 have elen:((R.length:Int)-1)=((E.length-1:Nat):Int):=by rw[hR.len];omega
 generalize rH:st++[aj.lst x,.lst y,.lst ((xB (E.length-1)).map iY)]=s1 at ep
 have rf:s1[st.length+2]?=some (.lst ((xB (E.length-1)).map iY)):=by rw[<- rH,dH];rfl
 have p1:st <+: s1:=by rw[<- rH];exact ax _ _
 have hq:∀(B':List Ro) (i:Nat) (c:aj),i≠rc->s1[i]?=some c->(s1.set rc (.dct (bW B')))[i]?=some c:=fun B' i c hi e=>by rw[aS (Ne.symm hi)];exact e
 have hq':∀(B':List Ro),(s1.set rc (.dct (bW B')))[rc]?=some (.dct (bW B')):=fun B'=>ba (aT hc p1.length_le)
 have zO:s1.set rc (.dct (bW B))=s1:=by
  refine iQ fun i=>?_
  by_cases z:rc=i
  ·subst z;rw[hq',pre_get p1 Ji]
  ·rw[aS z]
 refine lM (fun i ρ s=>∃(B':List Ro) (o4 o5 o6 o7 o8 o9 nw:Option W),ρ=[some M.w,some (.loc ra),some (.loc rb),some (.loc rc),o4,o5,o6,o7,o8,o9,nw]/\s=s1.set rc (.dct (bW B')) /\
   Go (a9 M) M.tb.length N E B' fun l r a=>(l<E.length-1/\r<E.length-1\/∃j,j<i/\(xB (E.length-1))[j]?=some (l,r))/\a<M.tb.length) (k:=((xB (E.length-1)).map iY,some (st.length+2,(xB (E.length-1)).map iY))) (st1:=s1)
  (fM (bU (al (bd (be kn (io (aM Ei))) cK rfl) bb) (by show HB [W.int ((R.length:Int)-1)] st=_;rw[elen];exact ep) rfl) (aM rf))
  ⟨B,_,_,_,_,_,_,_,rfl,zO.symm,g.imp fun l r a d=>?_⟩ ?_ ?_ ?_
 ·obtain⟨d|⟨j,z,_⟩,da⟩:=d
  ·exact⟨d.1,d.2,da⟩
  ·exact absurd z (cO _)
 ·rintro i ρ s ⟨B',o4,o5,o6,o7,o8,o9,nw,rfl,rfl,gg⟩
  exact aM (hq B' _ _ (by omega) rf)
 ·rintro i w ρ s hw ⟨B0,o4,o5,o6,o7,o8,o9,nw,rfl,rfl,gg⟩
  rw[ak]at hw
  cases hp:(xB (E.length-1))[i]? with
  |none=>rw[hp]at hw;cases hw
  |some p=>
   obtain⟨l,r⟩:=p
   rw[hp]at hw
   cases hw
   obtain⟨hl,hr,qQ⟩:=Q2 hp
   simp only at hl hr qQ
   have hl':l<E.length:=by omega
   have hr':r<E.length:=by omega
   obtain⟨el,hel⟩:∃el,E[l]?=some el:=⟨_,aa hl'⟩
   obtain⟨er,her⟩:∃er,E[r]?=some er:=⟨_,aa hr'⟩
   obtain⟨wl,Ev,rl⟩:=hR.at' l el hel
   obtain⟨wr,hwr,rr⟩:=hR.at' r er her
   obtain⟨tl,rfl⟩:=rl.sh
   obtain⟨tr,rfl⟩:=rr.sh
   clear rl rr
   have hlN:el.1<N:=h.lt el (aA hel)
   have VX:er.1<N:=h.lt er (aA her)
   have xl:∀B',bg (.loc ra) (.int (l:Nat)) (s1.set rc (.dct (bW B')))=.ok _ _:=fun B'=>kS (aM (hq B' _ _ (Ne.symm n1) (pre_get p1 Ei))) (dm Ev)
   have xr:∀B',bg (.loc ra) (.int (r:Nat)) (s1.set rc (.dct (bW B')))=.ok _ _:=fun B'=>kS (aM (hq B' _ _ (Ne.symm n1) (pre_get p1 Ei))) (dm hwr)
   refine⟨_,rfl,?_⟩
   apply au
   ·exact bu (bd (bd (bd (bd kv kv (xl B0)) cK ox) (bd (bd kv kv (xr B0)) cK ox) e7) cK e7)
   refine lM (fun k ρ s=>∃(B':List Ro) (o7 o8 o9 nw:Option W),ρ=[some M.w,some (.loc ra),some (.loc rb),some (.loc rc),some (.int (l:Nat)),some (.int (r:Nat)),some (.int ((el.2.s:Int)+(er.2.s:Int)+1)),o7,o8,o9,nw]/\s=s1.set rc (.dct (bW B')) /\
     Go (a9 M) M.tb.length N E B' fun l' r' a'=>((l'<E.length-1/\r'<E.length-1\/∃j,j<i/\(xB (E.length-1))[j]?=some (l',r'))/\a'<M.tb.length)\/l'=l/\r'=r/\a'<k) (k:=(i6 (M.tb.map fY),none)) (st1:=s1.set rc (.dct (bW B0)))
    (by show mq (ag (e2 bg (af 0) (eI 2)) av) _ _=_;unfold mq;rfl) ⟨B0,_,_,_,_,rfl,rfl,gg.imp fun l' r' a' d=>?_⟩ (fun _ _ _ _=>trivial) ?_ ?_
   ·rcases d with d|⟨_,_,d⟩
    ·exact d
    ·exact absurd d (cO _)
   ·rintro k w ρ s hw ⟨B1,o7,o8,o9,nw,rfl,rfl,gg⟩
    obtain⟨y,hy,rfl⟩:=lD hw
    rw[ak]at hy
    cases ht:M.tb[k]? with
    |none=>rw[ht]at hy;cases hy
    |some t=>
     rw[ht]at hy
     cases hy
     have hk:k<M.tb.length:=(ac.mp ht).1
     obtain⟨row,t1e,t2e,t3e⟩:=jK hM ht hlN VX
     refine⟨_,rfl,?_⟩
     apply au
     ·exact bu (bd (bd kv (bd (bd kv kv (xl B1)) cK ox) (lN t1e)) (bd (bd kv kv (xr B1)) cK ox) (lO t2e))
     apply au
     ·exact bu (d_ (al kv (al kv (al kv kn))) (bF rfl))
     have ew:W.tup [.int ((el.2.s:Int)+(er.2.s:Int)+1),.int (l:Nat),.int (r:Nat),.int (k:Nat)]=wT (rF l r k el er):=by
      unfold wT Wy.z
      simp only[aH,dD,ig];rfl
     have hto:gn (s1.set rc (.dct (bW B1))) (.loc rb)=some (rb,tW E):=fN (hq B1 _ _ (Ne.symm n2) (pre_get p1 Vc))
     have hbo:gn (s1.set rc (.dct (bW B1))) (.loc rc)=some (rc,bW B1):=fN (hq' B1)
     have fin:∀B',HY E B1 (a9 M k el.1 er.1,rF l r k el er) B'->Go (a9 M) M.tb.length N E B' fun l' r' a'=>((l'<E.length-1/\r'<E.length-1\/∃j,j<i/\(xB (E.length-1))[j]?=some (l',r'))/\a'<M.tb.length)\/l'=l/\r'=r/\a'<k+1:=fun B' o=>
      (Go.one h gg hel her hk t3e qQ o).imp fun l' r' a' d=>by
       rcases d with d|⟨rfl,rfl,d⟩
       ·exact .inl (.inl d)
       ·rcases iU a' k with z|z
        ·exact .inl (.inr ⟨rfl,rfl,z⟩)
        ·exact .inr ⟨rfl,rfl,by omega⟩
     have put:∀ρ:bY,ρ[3]?=some (some (.loc rc))->ρ[9]?=some (some (.int (a9 M k el.1 er.1:Nat)))->ρ[10]?=some (some (wT (rF l r k el er)))->lB (af 3) (af 9) (af 10) jn ρ (s1.set rc (.dct (bW B1)))=.nx ρ (s1.set rc (.dct (bW (qF B1 (a9 M k el.1 er.1,rF l r k el er))))):=fun ρ r3 r9 r10=>by
      refine lG (eZ r10) (eZ r3) (eZ r9) ?_
      rw[tQ (hq' B1) (by rw[mz];have:=gg.best.len;show _<1000000;omega),mU,Q0 B1 (a9 M k el.1 er.1,rF l r k el er)]
     rw[ew]
     by_cases c1:a9 M k el.1 er.1∈E.map Prod.fst
     ·refine iB (rQ (bQ (bd kv kv (tP (b:=false) hto (by rw[y7];simp only[dC];rw[aK c1];rfl))))) ?_
      exact⟨_,_,rfl,B1,_,_,_,_,rfl,rfl,fin B1 (.inl ⟨c1,rfl⟩)⟩
     ·have t1:∀ρ:bY,ρ[9]?=some (some (.int (a9 M k el.1 er.1:Nat)))->ρ[2]?=some (some (.loc rb))->fq (e2 (lE true) (af 9) (af 2)) ρ (s1.set rc (.dct (bW B1)))=.ok true _:=fun ρ r9 r2=>
       bQ (bd (eZ r9) (eZ r2) (tP (b:=true) hto (by rw[y7];simp only[dC];rw[aN c1];rfl)))
      by_cases c2:a9 M k el.1 er.1∈B1.map Prod.fst
      ·obtain⟨q,hqB,hq1⟩:=aJ.mp c2
       have t2:∀ρ:bY,ρ[9]?=some (some (.int (a9 M k el.1 er.1:Nat)))->ρ[3]?=some (some (.loc rc))->fq (e2 (lE true) (af 9) (af 3)) ρ (s1.set rc (.dct (bW B1)))=.ok false _:=fun ρ r9 r2=>
        bQ (bd (eZ r9) (eZ r2) (tP (b:=false) hbo (by rw[y7];simp only[dC];rw[aK c2];rfl)))
       have gt:j9 (bW B1) (.i (a9 M k el.1 er.1:Nat))=some (wT q.2):=by
        rw[<- hq1];exact Ib (f:=fun p:Ro=>p.1) (g:=fun p=>wT p.2) gg.best.nd hqB
       have t3:∀(b:Bool) (ρ:bY),HT.lexLt (rF l r k el er).z q.2.z=b->ρ[9]?=some (some (.int (a9 M k el.1 er.1:Nat)))->ρ[3]?=some (some (.loc rc))->ρ[10]?=some (some (wT (rF l r k el er)))->fq (e2 DQ (af 10) (e2 gp (af 3) (af 9))) ρ (s1.set rc (.dct (bW B1)))=.ok b _:=fun b ρ hb r9 r3 r10=>
        bQ (bd (eZ r10) (bd (eZ r3) (eZ r9) (kj hbo gt)) (UO hb))
       cases hb:HT.lexLt (rF l r k el er).z q.2.z with
       |true=>
        refine lH (my (t1 _ rfl rfl) (eK (t2 _ rfl rfl) (t3 true _ hb rfl rfl rfl))) ?_
        exact⟨_,_,put _ rfl rfl rfl,_,_,_,_,_,rfl,rfl,fin _ (.inr (.inr ⟨c1,fun q' hq' e'=>by
         obtain rfl:=CD gg.best.nd hqB hq' (hq1.trans e'.symm)
         exact(Wy.lex _ _).mp hb,rfl⟩))⟩
       |false=>
        refine iB (my (t1 _ rfl rfl) (eK (t2 _ rfl rfl) (t3 false _ hb rfl rfl rfl))) ?_
        exact⟨_,_,rfl,B1,_,_,_,_,rfl,rfl,fin B1 (.inr (.inl ⟨c1,⟨q,hqB,hq1,fun z=>by rw[(Wy.lex _ _).mpr z]at hb;cases hb⟩,rfl⟩))⟩
      ·refine lH (my (t1 _ rfl rfl) (wC (bQ (bd kv kv (tP (b:=true) hbo (by rw[y7];simp only[dC];rw[aN c2];rfl)))))) ?_
       exact⟨_,_,put _ rfl rfl rfl,_,_,_,_,_,rfl,rfl,fin _ (.inr (.inr ⟨c1,fun q' hq' e'=>(c2 (aJ.mpr ⟨q',hq',e'⟩)).elim,rfl⟩))⟩
   ·rintro ρ s ⟨B1,o7,o8,o9,nw,rfl,rfl,gg⟩
    refine⟨_,_,rfl,B1,_,_,_,_,_,_,_,rfl,rfl,gg.imp fun l' r' a' d=>?_⟩
    obtain⟨d|⟨j,hj,d⟩,da⟩:=d
    ·exact .inl ⟨.inl d,da⟩
    ·rcases iU j i with z|z
     ·exact .inl ⟨.inr ⟨j,z,d⟩,da⟩
     ·obtain rfl:j=i:=by omega
      rw[hp]at d;cases d
      exact .inr ⟨rfl,rfl,by simpa[i6]using da⟩
 ·rintro ρ s ⟨B',o4,o5,o6,o7,o8,o9,nw,rfl,rfl,gg⟩
  refine⟨_,_,rfl,B',gg.imp fun l r a d=>?_,[aj.lst x,.lst y,.lst ((xB (E.length-1)).map iY)],by rw[<- rH,List.set_append_left _ _ hc]⟩
  obtain⟨dl,dr,da⟩:=d
  refine⟨?_,da⟩
  by_cases z:l<E.length-1/\r<E.length-1
  ·exact .inl z
  ·obtain⟨j,hj,e⟩:=La (n:=E.length-1) (l:=l) (r:=r) (by omega) (by omega) (by omega)
   exact .inr ⟨j,by simpa using hj,e⟩
end
theorem Lb{z:Int}{v:W}:sQ (nO (eC (.int z)) (eC v) qZ) ρ st=.ok (.loc st.length) (st++[.dct [(.i z,v)]]):=by
 unfold sQ
 have e1:nO (eC (.int z)) (eC v) qZ ρ (st++[.dct []])=.ok [(.int z,v)] (st++[.dct []]):=rfl
 rw[e1]
 simp only[R.bind_ok,bN,dO]
 rfl
theorem Lc{z:Int}:sQ (nO (eC (.int z)) (cP av) qZ) ρ st=.ok (.loc st.length) (st++[.dct [(.i z,.tup [])]]):=by
 unfold sQ
 have e1:nO (eC (.int z)) (cP av) qZ ρ (st++[.dct []])=.ok [(.int z,.tup [])] (st++[.dct []]):=by unfold nO cP nH;simp[av,eC,qZ,R.bind]
 rw[e1]
 simp only[R.bind_ok,bN,dO]
 rfl
theorem Ie:pS ρ st=.ok (.loc st.length) (st++[.dct []]):=rfl
theorem Ig{E:List Ro}{R:List W}(h:Rows E R)(n:Nat):undWs n R=true:=by
 have ng:∀w∈R,w.und n=true:=fun w hw=>by
  obtain⟨i,hi⟩:=bC hw
  have hl:=(ac.mp hi).1
  obtain⟨w',hw',ro⟩:=h.at' i (E[i]'(by rw[<- h.len];exact hl)) (aa (by rw[<- h.len];exact hl))
  rw[hi]at hw';cases hw'
  rcases ro with⟨_,rfl⟩|⟨_,_,_,_,_,rfl⟩<;>simp[W.und,undWs]
 clear h
 induction R with
 |nil=>rfl
 |cons w R ih=>
  simp only[undWs,bw]
  exact⟨ng w (aQ ..),ih fun w hw=>ng w (aD _ hw)⟩
theorem Rows.next{E:List Ro}{R:List W}(h:Rows E R)(h0:0<E.length){p el er:Ro}(e1:E[p.2.l]?=some el)(e2:E[p.2.r]?=some er):Rows (E++[p]) (R++[.tup [.int (p.1:Nat),.int (p.2.s:Nat),.tup [.int (el.1:Nat),.int (er.1:Nat),.int (p.2.a:Nat)]]]):=
 ⟨by simp[h.len],fun i e he=>by
  by_cases hl:i<E.length
  ·rw[aq hl]at he
   obtain⟨w,hw,ro⟩:=h.at' i e he
   exact⟨w,by rw[aq (by rw[h.len];exact hl)];exact hw,ro.app⟩
  ·have:i=E.length:=by have:=(ac.mp he).1;simp at this;omega
   subst this
   rw[bM]at he;cases he
   exact⟨_,by rw[<- h.len,bM],.inr ⟨h0,el,er,by rw[aq (ac.mp e1).1];exact e1,by rw[aq (ac.mp e2).1];exact e2,rfl⟩⟩⟩
section
variable{M:Mc}
theorem D_(hM:lx M N)(C1:1<=N)(hN:N<=100)(ht:st[1]?=some (.tab 82 ⟨67,29,67,52⟩ "firsts_of.<locals>.<lambda>")) :
  ∃(E:List Ro) (R:List W),lL (a9 M) M.tb.length N E/\Rows E R/\(∀l r a,l<E.length->r<E.length->a<M.tb.length->K6 (a9 M) E [] l r a)/\vI [M.w] st=.ok (.tup R) st:=by
 suffices hh:gJ (rD fun w bG=>(∃x,bG=st++x)/\undWs st.length [w]=true/\∃(E:List Ro) (R:List W),w=.tup R/\lL (a9 M) M.tb.length N E/\Rows E R/\∀l r a,l<E.length->r<E.length->a<M.tb.length->K6 (a9 M) E [] l r a) (MV ([M.w].map some++List.replicate (6-1) none) st) by
  obtain⟨w,⟨E,R,rfl,h1,h2,h3⟩,e⟩:=kT hh
  exact⟨E,R,h1,h2,h3,e⟩
 apply au
 ·(walk_at "evs")
 apply au
 ·exact bu Lb
 apply au
 ·exact bu Ie
 have hlt:1<st.length:=(ac.mp ht).1
 rw[show(st++[aj.lst [W.tup [.int 0,.int 0,.tup []]]]++[aj.dct [(DK.i 0,W.bl true)]]).length=st.length+2 by simp,show(st++[aj.lst [W.tup [.int 0,.int 0,.tup []]]]).length=st.length+1 by simp,
  show st++[aj.lst [W.tup [.int 0,.int 0,.tup []]]]++[aj.dct [(DK.i 0,W.bl true)]]++[aj.dct []]=st++[aj.lst [W.tup [.int 0,.int 0,.tup []]],.dct (tW [(0,⟨0,0,0,0⟩)]),.dct (bW [])] by simp only[aV];rfl]
 have hT0:lL (a9 M) M.tb.length N [(0,⟨0,0,0,0⟩)]:=by
  refine⟨⟨[],rfl⟩,fun e he=>?_,by simp,fun i e he hi=>?_,fun i e f h1 h2=>?_⟩
  ·rw[bR.mp he];exact C1
  ·have:=(ac.mp he).1;simp at this;omega
  ·have:=(ac.mp h2).1;simp at this
 have hR0:Rows [(0,⟨0,0,0,0⟩)] [W.tup [.int 0,.int 0,.tup []]]:=⟨rfl,fun i e he=>by
  have:i=0:=by have:=(ac.mp he).1;simp at this;omega
  subst this
  cases he
  exact⟨_,rfl,.inl ⟨rfl,rfl⟩⟩⟩
 have g0:Go (a9 M) M.tb.length N [(0,⟨0,0,0,0⟩)] [] fun l r a=>l<[((0:Nat),(⟨0,0,0,0⟩:Wy))].length-1/\r<[((0:Nat),(⟨0,0,0,0⟩:Wy))].length-1/\a<M.tb.length:=
  ⟨⟨by simp,fun p hp=>by simp at hp,fun p hp=>by simp at hp⟩,fun l r a d=>absurd d.1 (by simp)⟩
 obtain⟨B1,g1,ew⟩:=CF (st:=st++[aj.lst [W.tup [.int 0,.int 0,.tup []]],.dct (tW [(0,⟨0,0,0,0⟩)]),.dct (bW [])]) (ra:=st.length) (rb:=st.length+1) (rc:=st.length+2) hM hN (by rw[bN];rfl) (by rw[dH];rfl) (by rw[dH];rfl) (by omega) (by omega) hR0 hT0 g0
 rw[gH]at ew
 apply au
 ·exact fw (bU (al kv (al kv (al kv kn))) ew rfl)
 clear ew g0
 refine lI (fun m ρ s=>∃(E B:List Ro) (R:List W) (o4 o5:Option W),m=N-E.length/\ρ=[some M.w,some (.loc st.length),some (.loc (st.length+1)),some (.loc (st.length+2)),o4,o5]/\s=st++[.lst R,.dct (tW E),.dct (bW B)] /\
   Rows E R/\lL (a9 M) M.tb.length N E/\Go (a9 M) M.tb.length N E B fun l r a=>l<E.length/\r<E.length/\a<M.tb.length) _ ⟨_,B1,_,_,_,rfl,rfl,rfl,hR0,hT0,g1⟩ ?_ ?_
 ·rintro m ρ s ⟨E,B,R,o4,o5,rfl,rfl,rfl,hR,hT,g⟩
  have hb:(st++[aj.lst R,.dct (tW E),.dct (bW B)])[st.length+2]?=some (.dct (bW B)):=by rw[dH];rfl
  cases B with
  |nil=>exact .inl (bQ (bd (be kn (AX (fN hb))) cK (hV rfl)))
  |cons b B=>
   refine .inr ⟨bQ (bd (be kn (AX (fN hb))) cK (hV (by rw[mz];exact aK (by simp only[bv];omega)))),?_⟩
   obtain⟨p,hp,RJ⟩:=y8 (b::B) B.length (by simp)
   have hpB:p∈b::B:=aA hp
   have hmin':∀q∈b::B,¬ q.2.lt p.2:=fun q hq=>by
    obtain⟨i,hi⟩:=bC hq
    exact RJ i q (by have:=(ac.mp hi).1;simp at this;omega) hi
   apply au
   ·refine bu (K_ (p:=(DK.i (p.1:Nat),wT p.2)) rfl hb (tO _) (aG ht) ?_)
    rw[mz,show(b::B).length-1=B.length from rfl]
    show((b::B).map _)[_]?=_
    rw[ak,hp];rfl
   apply au
   ·exact bu (Q1 (n:=st.length+2) (q:=p.1) kv kv hb (Ib (f:=fun p:Ro=>p.1) (g:=fun p=>wT p.2) g.best.nd hpB))
   rw[gH,K9]
   obtain⟨⟨el,er,w1,w2,w3,w4,w5⟩,pn,pN⟩:=g.best.ok p hpB
   obtain⟨vl,hvl,rl⟩:=hR.at' _ _ w1
   obtain⟨vr,hvr,rr⟩:=hR.at' _ _ w2
   obtain⟨tl,rfl⟩:=rl.sh
   obtain⟨tr,rfl⟩:=rr.sh
   clear rl rr
   have hT2:=D8 hT g.best hpB
   have b2:=D9 hT g.best hpB hmin'
   have hR2:=hR.next hT.len0 w1 w2
   have hel:E.length<N:=by have:=hT2.len;simp at this;omega
   generalize hB2:List.filter (fun q:Ro=>decide (q.1≠p.1)) (b::B)=B2 at b2
   have g2:Go (a9 M) M.tb.length N (E++[p]) B2 fun l r a=>l<(E++[p]).length-1/\r<(E++[p]).length-1/\a<M.tb.length:=⟨b2,fun l r a d=>by
    rw[<- hB2]
    simp only[aB,bv,dg]at d
    exact H_ hpB g.best.nd (by omega) (by omega) (g.cov l r a ⟨by omega,by omega,d.2.2⟩)⟩
   show gJ _ (aL _ _ _ (st++[aj.lst R,.dct (tW E),.dct (bW B2)]))
   have hr0:(st++[aj.lst R,.dct (tW E),.dct (bW B2)])[st.length]?=some (.lst R):=by rw[bN];rfl
   have xl:bg (.loc st.length) (.int (p.2.l:Nat)) (st++[aj.lst R,.dct (tW E),.dct (bW B2)])=.ok _ _:=kS (aM hr0) (dm hvl)
   have xr:bg (.loc st.length) (.int (p.2.r:Nat)) (st++[aj.lst R,.dct (tW E),.dct (bW B2)])=.ok _ _:=kS (aM hr0) (dm hvr)
   have xw:∀(i:Int) (w:W) (s:List aj),pG (p.2.z.map W.int) i=some w->bg (wT p.2) (.int i) s=.ok w s:=fun i w s e=>gI e
   apply au
   ·exact fw (jS kv (dy hr0) (al (d_ (al kv (al (bd kv cK (xw 0 _ _ rfl)) (al (d_ (al (bd (bd kv (bd kv cK (xw 1 _ _ rfl)) xl) cK ox) (al (bd (bd kv (bd kv cK (xw 2 _ _ rfl)) xr) cK ox) (al (bd kv cK (xw 3 _ _ rfl)) bb))) (bF rfl)) bb))) (bF rfl)) bb) (pY hr0 (by rw[hR.len];show _<1000000;omega)))
   rw[dO]
   show gJ _ (aL _ _ _ (st++[aj.lst (R++[_]),.dct (tW E),.dct (bW B2)]))
   apply au
   ·refine lG cK kv kv (tQ (kvs:=tW E) (q:=p.1) (by rw[dH];rfl) (by rw[mz];show _<1000000;omega))
   rw[gH,show sO (tW E) (.i (p.1:Nat)) (W.bl true)=tW (E++[p])from tN (f:=fun p:Ro=>p.1) (g:=fun _=>W.bl true) (a:=p) pn]
   show gJ _ (eG _ _ (st++[aj.lst (R++[_]),.dct (tW (E++[p])),.dct (bW B2)]))
   obtain⟨B3,g3,e3⟩:=CF (st:=st++[aj.lst (R++[W.tup [.int (p.1:Nat),.int (p.2.s:Nat),.tup [.int (el.1:Nat),.int (er.1:Nat),.int (p.2.a:Nat)]]]),.dct (tW (E++[p])),.dct (bW B2)]) (ra:=st.length) (rb:=st.length+1) (rc:=st.length+2) hM hN (by rw[bN];rfl) (by rw[dH];rfl) (by rw[dH];rfl) (by omega) (by omega) hR2 hT2 g2
   rw[gH]at e3
   exact⟨_,_,fw (bU (al kv (al kv (al kv kn))) e3 rfl),N-(E++[p]).length,by simp only[aB,bv,dg];omega,E++[p],B3,_,_,_,rfl,rfl,rfl,hR2,hT2,g3⟩
 ·rintro m ρ s ⟨E,B,R,o4,o5,rfl,rfl,rfl,hR,hT,g⟩ hf
  have hb:(st++[aj.lst R,.dct (tW E),.dct (bW B)])[st.length+2]?=some (.dct (bW B)):=by rw[dH];rfl
  have hB:B=[]:=by
   cases B with
   |nil=>rfl
   |cons b B=>
    have t:fq (e2 Ai (bc sP (ag (af 3) av)) (eI 0)) [some M.w,some (.loc st.length),some (.loc (st.length+1)),some (.loc (st.length+2)),o4,o5] (st++[aj.lst R,.dct (tW E),.dct (bW (b::B))])=.ok true _:=
     bQ (bd (be kn (AX (fN hb))) cK (hV (by rw[mz];exact aK (by simp only[bv];omega))))
    rw[t]at hf
    cases hf
  subst hB
  refine b9 (be kn (gK (aM (by rw[bN];rfl)))) ⟨_,_,rfl,⟨_,rfl⟩,?_,E,R,rfl,hT,hR,fun l r a h1 h2 h3=>g.cov l r a ⟨h1,h2,h3⟩⟩
  simp only[undWs,bO]
  unfold W.und
  exact Ig hR _
end
section
variable(T:Nat->Nat->Nat->Nat)(L:Nat)(g:Nat->Bool)(rs:List Nat)
def kJ:List (Nat×Nat×Nat):=(List.range L).flatMap fun a=>rs.map (fun t=>(a,0,t))++rs.map (fun t=>(a,1,t))
def led(p:Nat×Nat×Nat)(x:Nat):Nat:=if p.2.1=0 then T p.1 x p.2.2 else T p.1 p.2.2 x
def ap:Nat->Nat->Nat->Bool
 |0,a,b=>g a != g b
 |s+1,a,b=>ap s a b||(kJ L rs).any fun p=>ap s (led T p a) (led T p b)
def dQ:List Nat->List (Nat×Nat)
 |[]=>[]
 |x::r=>r.map (fun y=>(x,y))++dQ r
def jb:Nat->Nat->Nat->Bool
 |0,_,_=>true
 |s+1,a,b=>!ap T L g rs s a b
def tV(s:Nat):List (Nat×Nat):=(dQ rs).filter fun p=>jb T L g rs s p.1 p.2&&ap T L g rs s p.1 p.2
def Et(p:Nat×Nat×Nat):W:=.tup [.int (p.1:Nat),.int (p.2.1:Nat),.int (p.2.2:Nat)]
def y_:Nat->Nat->Nat->Option W
 |0,a,b=>if ap T L g rs 0 a b=true then some (.tup [])else none
 |s+1,a,b=>((kJ L rs).find? fun p=>ap T L g rs s (led T p a) (led T p b)).map Et
def za(s:Nat)(p:Nat×Nat):W:=.tup [.int (p.1:Nat),.int (p.2:Nat),.int (s:Nat),(y_ T L g rs s p.1 p.2).getD .non]
def Ea(n:Nat):List W:=(List.range n).flatMap fun s=>(tV T L g rs s).map (za T L g rs s)
structure UP(n:Nat):Prop where
 go:∀k,k<n->tV T L g rs k≠[]
 stop:tV T L g rs n=[]
end
section
variable{L:Nat}{g:Nat->Bool}
theorem lP(n:Nat):Ea T L g rs (n+1)=Ea T L g rs n++(tV T L g rs n).map (za T L g rs n):=by
 unfold Ea;rw[ii,List.flatMap_append];simp
theorem wV:∀(s a:Nat),ap T L g rs s a a=false
 |0,a=>by simp[ap]
 |s+1,a=>by
  unfold ap
  rw[wV s a,oT,fF]
  intro p _;rw[wV s];simp
theorem mB:∀(s a b:Nat),ap T L g rs s a b=ap T L g rs s b a
 |0,a,b=>by simp only[ap];cases g a<;>cases g b<;>rfl
 |s+1,a,b=>by
  unfold ap
  rw[mB s a b]
  congr 1
  refine dM _ (funext fun p=>?_)
  exact mB s _ _
theorem CG{s a b:Nat}(h:ap T L g rs (s+1) a b=false):ap T L g rs s a b=false/\∀p∈kJ L rs,ap T L g rs s (led T p a) (led T p b)=false:=by
 unfold ap at h
 rw[Bool.or_eq_false_iff,fF]at h
 exact⟨h.1,fun p hp=>by have:=h.2 p hp;simpa using this⟩
theorem UQ{s a b:Nat}(h:ap T L g rs s a b=false)(h2:∀p∈kJ L rs,ap T L g rs s (led T p a) (led T p b)=false):ap T L g rs (s+1) a b=false:=by
 unfold ap
 rw[Bool.or_eq_false_iff,fF]
 exact⟨h,fun p hp=>by rw[h2 p hp];simp⟩
theorem Ih{a b:Nat}:∀(d k:Nat),ap T L g rs (k+d) a b=false->ap T L g rs k a b=false
 |0,_,h=>h
 |d+1,k,h=>Ih d k (CG h).1
theorem AY{s a b k:Nat}(h:jb T L g rs s a b=true)(hk:k<s):ap T L g rs k a b=false:=by
 cases s with
 |zero=>omega
 |succ s=>
  have h':ap T L g rs s a b=false:=by simpa[jb]using h
  exact Ih (s-k) k (by rw[show k+(s-k)=s by omega];exact h')
theorem Q4{s a b:Nat}(h:∀k,k<s->ap T L g rs k a b=false):jb T L g rs s a b=true:=by
 cases s with
 |zero=>rfl
 |succ s=>simp only[jb];rw[h s (by omega)];rfl
theorem CI{s a b:Nat}(h:jb T L g rs (s+1) a b=true){p:Nat×Nat×Nat}(hp:p∈kJ L rs):jb T L g rs s (led T p a) (led T p b)=true:=by
 have h':ap T L g rs s a b=false:=by simpa[jb]using h
 cases s with
 |zero=>rfl
 |succ s=>simp only[jb];rw[(CG h').2 p hp];rfl
theorem Ii{s a b:Nat}(h:jb T L g rs (s+1) a b=true):ap T L g rs (s+1) a b=((kJ L rs).find? fun p=>ap T L g rs s (led T p a) (led T p b)).isSome:=by
 have h':ap T L g rs s a b=false:=by simpa[jb]using h
 conv=>lhs;unfold ap
 rw[h',oT,cD,jf,List.find?_isSome]
theorem Ij{s a b:Nat}(h:jb T L g rs s a b=true):(y_ T L g rs s a b).isSome=ap T L g rs s a b:=by
 cases s with
 |zero=>
  show(if ap T L g rs 0 a b=true then some (W.tup [])else none).isSome=_
  split<;>simp_all
 |succ s=>
  show(((kJ L rs).find? fun p=>ap T L g rs s (led T p a) (led T p b)).map Et).isSome=_
  rw[gD,Ii h]
def zb(T:Nat->Nat->Nat->Nat)(L:Nat)(g:Nat->Bool)(rs:List Nat)(s a b:Nat):Option Nat:=(List.range s).find? fun k=>ap T L g rs k a b
theorem zc{s a b:Nat}:zb T L g rs s a b=none↔jb T L g rs s a b=true:=by
 unfold zb
 rw[iy]
 constructor
 ·intro h
  exact Q4 fun k hk=>by have:=h k (bx.mpr hk);simpa using this
 ·intro h k hk
  rw[AY h (bx.mp hk)];simp
theorem Ik(s a b:Nat):zb T L g rs (s+1) a b=match zb T L g rs s a b with
  |some k=>some k
  |none=>if ap T L g rs s a b=true then some s else none:=by
 unfold zb
 rw[ii,List.find?_append]
 cases(List.range s).find? fun k=>ap T L g rs k a b with
 |some k=>rfl
 |none=>
  simp only[Option.none_or,bD,List.find?_nil]
  cases ap T L g rs s a b<;>rfl
theorem Q5{s a b k:Nat}(h:zb T L g rs s a b=some k):k<s:=bx.mp (gZ h)
theorem Il{s a b:Nat}:zb T L g rs (s+1) a b=some s↔jb T L g rs s a b=true/\ap T L g rs s a b=true:=by
 rw[Ik]
 constructor
 ·intro h
  cases e:zb T L g rs s a b with
  |some k=>rw[e]at h;cases h;exact absurd (Q5 e) (bH _)
  |none=>
   rw[e]at h
   refine⟨zc.mp e,?_⟩
   by_cases z:ap T L g rs s a b=true
   ·exact z
   ·simp only at h;rw[az z]at h;cases h
 ·rintro⟨h1,h2⟩
  rw[zc.mpr h1];simp only;rw[ar h2]
def Q6(T:Nat->Nat->Nat->Nat)(L:Nat)(g:Nat->Bool)(rs:List Nat)(s:Nat):Nat:=((dQ rs).filter fun p=>jb T L g rs s p.1 p.2).length
theorem nT(s a b:Nat):jb T L g rs (s+1) a b=(jb T L g rs s a b&&!ap T L g rs s a b):=by
 cases s with
 |zero=>simp[jb]
 |succ s=>
  show(!ap T L g rs (s+1) a b)=((!ap T L g rs s a b)&&!ap T L g rs (s+1) a b)
  cases e:ap T L g rs (s+1) a b with
  |true=>simp
  |false=>rw[(CG e).1];rfl
theorem mC(p q:α->Bool):∀l:List α,(l.filter p).length=(l.filter fun x=>p x&&q x).length+(l.filter fun x=>p x&&!q x).length
 |[]=>rfl
 |x::l=>by
  have:=mC p q l
  simp only[cU]
  cases p x<;>cases q x<;>simp<;>omega
theorem UR{s:Nat}(h:tV T L g rs s≠[]):Q6 T L g rs (s+1)<Q6 T L g rs s:=by
 have e:=mC (fun p:Nat×Nat=>jb T L g rs s p.1 p.2) (fun p=>ap T L g rs s p.1 p.2) (dQ rs)
 have h1:0<(tV T L g rs s).length:=jN.mpr h
 unfold tV at h1
 unfold Q6
 simp only[nT]
 omega
theorem oq:∀l:List Nat,(dQ l).length<=l.length*l.length
 |[]=>aw _
 |x::r=>by
  have:=oq r
  simp only[dQ,aB,ai,bv,Nat.add_mul,Nat.mul_add];omega
theorem mD:∀{l:List Nat} {p:Nat×Nat},p∈dQ l->p.1∈l/\p.2∈l
 |x::r,p,h=>by
  rcases aI.mp h with h|h
  ·obtain⟨y,hy,rfl⟩:=aJ.mp h
   exact⟨aQ,aD _ hy⟩
  ·have:=mD h
   exact⟨aD _ this.1,aD _ this.2⟩
theorem AZ:∀{l:List Nat},l.Pairwise (· < ·)->∀{a b:Nat},(a,b)∈dQ l↔a∈l/\b∈l/\a<b
 |[],_,a,b=>by simp[dQ]
 |x::r,h,a,b=>by
  obtain⟨h1,h2⟩:=cy.mp h
  simp only[dQ,aI,aJ,AZ h2,a_]
  constructor
  ·rintro(⟨y,hy,e⟩|⟨q1,q2,q3⟩)
   ·cases e;exact⟨.inl rfl,.inr hy,h1 _ hy⟩
   ·exact⟨.inr q1,.inr q2,q3⟩
  ·rintro⟨q1,q2,q3⟩
   rcases q1 with rfl|q1
   ·rcases q2 with rfl|q2
    ·omega
    ·exact .inl ⟨b,q2,rfl⟩
   ·rcases q2 with rfl|q2
    ·have:=h1 _ q1;omega
    ·exact .inr ⟨q1,q2,q3⟩
theorem rV(L:Nat)(rs:List Nat):(kJ L rs).length=L*(2*rs.length):=by
 unfold kJ
 rw[List.length_flatMap]
 simp only[aB,ai]
 rw[List.map_const',c_,List.sum_replicate_nat]
 congr 1;omega
theorem zd(L:Nat)(rs:List Nat):kJ (L+1) rs=kJ L rs++(rs.map (fun t=>(L,0,t))++rs.map (fun t=>(L,1,t))):=by
 unfold kJ;rw[ii,List.flatMap_append];simp
theorem Im:∀(L:Nat) {rs:List Nat} {i:Nat},i<L*(2*rs.length)->∃t,rs[i%rs.length]?=some t/\(kJ L rs)[i]?=some (i/(rs.length*2),i/rs.length%2,t)
 |0,rs,i,h=>by omega
 |L+1,rs,i,h=>by
  have hm:0<rs.length:=by
   rcases gk rs.length with z|z
   ·rw[z]at h;omega
   ·exact z
  rw[zd]
  by_cases hi:i<L*(2*rs.length)
  ·obtain⟨t,h1,h2⟩:=Im L hi
   exact⟨t,h1,by rw[aq (by rw[rV];exact hi)];exact h2⟩
  ·have hl:(kJ L rs).length=L*(2*rs.length):=rV L rs
   obtain⟨j,rfl⟩:∃j,i=L*(2*rs.length)+j:=⟨i-L*(2*rs.length),by omega⟩
   have hj:j<2*rs.length:=by rw[Nat.add_mul]at h;omega
   have e1:(L*(2*rs.length)+j)/rs.length=L*2+j/rs.length:=by
    rw[show L*(2*rs.length)=L*2*rs.length by rw[Nat.mul_assoc],iT,Nat.mul_add_div hm]
   have e2:(L*(2*rs.length)+j)%rs.length=j%rs.length:=by
    rw[show L*(2*rs.length)=L*2*rs.length by rw[Nat.mul_assoc],iT,Nat.mul_add_mod]
   have e3:(L*(2*rs.length)+j)/(rs.length*2)=L:=by
    rw[show L*(2*rs.length)=rs.length*2*L by rw[iT,iT 2],Nat.mul_add_div (by omega),ma (by omega)];rfl
   rw[cn (by omega),hl,e1,e2,e3,Nat.add_sub_cancel_left]
   by_cases hj1:j<rs.length
   ·refine⟨rs[j],by rw[Nat.mod_eq_of_lt hj1];exact aa hj1,?_⟩
    rw[aq (by simpa using hj1),ak,aa hj1,ma hj1]
    simp
   ·have hj2:j-rs.length<rs.length:=by omega
    refine⟨rs[j-rs.length],?_,?_⟩
    ·rw[Nat.mod_eq_sub_mod (by omega),Nat.mod_eq_of_lt hj2];exact aa hj2
    ·rw[cn (by simp;omega),ai,ak,aa hj2]
     have:j/rs.length=1:=by
      rw[Nat.div_eq_of_lt_le]<;>omega
     rw[this]
     show some (L,1,_)=some (L,(L*2+1)%2,_)
     rw[show(L*2+1)%2=1 by omega]
end
def jL:Nat->List KX->List (KX×W)
 |_,[]=>[]
 |n,k::ks=>(k,.int (n:Nat))::jL (n+1) ks
theorem lQ:∀(ks:List KX) (n:Nat),(jL n ks).length=ks.length
 |[],_=>rfl
 |k::ks,n=>by simp only[jL,bv,lQ ks]
theorem vL(k:KX):∀(ks:List KX) (n:Nat),jL n (ks++[k])=jL n ks++[(k,.int ((n+ks.length:Nat):Int))]
 |[],n=>rfl
 |x::ks,n=>by
  simp only[l_,jL,vL k ks,bv]
  rw[show n+1+ks.length=n+(ks.length+1) by omega]
theorem jc(p:KX×W)(l:List (KX×W))(k:KX):dS (p::l) k=if p.1=k then some p.2 else dS l k:=by
 unfold dS
 rw[bD]
 by_cases h:p.1=k
 ·rw[ar h];simp[h]
 ·rw[az h];simp[h]
theorem j4(k:KX):∀(ks:List KX) (n:Nat),dS (jL n ks) k=if k∈ks then some (.int ((n+ks.idxOf k:Nat):Int))else none
 |[],n=>rfl
 |x::ks,n=>by
  simp only[jL]
  rw[jc]
  by_cases h:x=k
  ·subst h;simp
  ·rw[az h,j4 k ks]
   have e:(x::ks).idxOf k=ks.idxOf k+1:=by rw[List.idxOf_cons,show(x==k)=false from bq.mpr h];rfl
   rw[e]
   by_cases h2:k∈ks
   ·rw[ar h2,ar (aD _ h2)];rw[show n+1+ks.idxOf k=n+(ks.idxOf k+1) by omega]
   ·rw[az h2,az (by simp[h2];exact fun z=>h z.symm)]
theorem p5:∀l:List Int,gm (l.map W.int)=some l
 |[]=>rfl
 |z::l=>by simp only[aH,gm,p5 l,Option.map_some]
theorem CJ(l:List Int):kg (.tup (l.map W.int))=some (.fl l):=by simp only[kg,p5]
theorem Ld(i:Int)(l:List Int):kg (.tup [.int i,.tup (l.map W.int)])=some (.pr i l):=by
 simp only[kg,gm,Option.map_none,p5,Option.map_some]
theorem rW(k:KX):kg k.w=some k:=by
 cases k with
 |bo b=>rfl
 |fl l=>exact CJ l
 |pr i l=>exact Ld i l
theorem Q7{k:KX}(h:∀p∈kvs,p.1.tag=k.tag)(hl:kvs.length<ji):(um kvs k||F3 kvs k)=true:=by
 unfold um F3 yu
 have a:(kvs.all fun p=>p.1.tag==k.tag)=true:=by rw[fT];intro p hp;rw[h p hp];simp
 by_cases z:k.tag=0
 ·have b:(kvs.all fun p=>p.1.tag==0)=true:=by rw[fT];intro p hp;rw[h p hp,z];simp
  rw[b];simp[z];exact hl
 ·rw[a];simp[z];exact hl
theorem tX:∀{ks:List KX} {n:Nat} {p:KX×W},p∈jL n ks->p.1∈ks
 |k::ks,n,p,h=>by
  rcases a_.mp h with rfl|h
  ·exact aQ
  ·exact aD _ (tX h)
section
variable{fk fd:FE}{y z:W}{k:KX}
theorem CK(h1:fo ρ st=.ok (.loc n) st)(hd:dL st (.loc n)=some (n,kvs))(h2:fk ρ st=.ok y st)(hk:kg y=some k)(h3:fd ρ st=.ok z st)(ok:(um kvs k||F3 kvs k)=true) :
  wA fo fk fd ρ st=match dS kvs k with|some w=>.ok w st|none=>.ok z (st.set n (.dcx (jw kvs k z))):=by
 unfold wA
 rw[h1];simp only[R.bind_ok,hd]
 rw[h2];simp only[R.bind_ok]
 rw[h3];simp only[R.bind_ok,hd,hk,ok,dC]
 all_goals rfl
theorem Nq{w:W}(hd:dL st (.loc n)=some (n,kvs))(hk:kg y=some k)(ok:(um kvs k||F3 kvs k)=true)(hg:dS kvs k=some w):F4 (.loc n) y st=.ok w st:=by
 unfold F4
 simp only[hd,hk,ok,dC,hg,cL]
theorem Io(hd:dL st (.loc n)=some (n,kvs))(hl:kvs.length<=ji):vz [.loc n] st=.ok (.int kvs.length) st:=by
 unfold vz;simp only[hd];rw[ar hl]
end
def uO:List KX->aj
 |[]=>.dct []
 |k::ks=>.dcx (jL 0 (k::ks))
theorem CL{ks:List KX}(h:st[n]?=some (uO ks)):dL st (.loc n)=some (n,jL 0 ks):=by
 unfold dL
 simp only[h]
 cases ks<;>rfl
theorem Ip{ks:List KX}{a b:KX}(ha:a∈ks)(h:ks.idxOf a=ks.idxOf b):a=b:=by
 have hl:=List.idxOf_lt_length_of_mem ha
 have e1:ks[ks.idxOf a]?=some a:=by rw[aa hl];simp
 have hl2:ks.idxOf b<ks.length:=by omega
 have e2:ks[ks.idxOf b]?=some b:=by rw[aa hl2];simp
 rw[h,e2]at e1;cases e1;rfl
abbrev pz(B:Nat->Nat)(l:List Nat):List (DK×W):=dI (fun a:Nat=>a) (fun a=>W.int (B a:Nat)) l
theorem re{r q:Nat}{kvs:List (DK×W)}{kf:Nat->KX}{tg:Nat}(hr:st[r]?=some (.lst (rs.map fun a=>W.int (a:Nat))))(hq:st[q]?=some (.dct kvs))(hk:∀a∈rs,j9 kvs (.i (a:Nat))=some (kf a).w)(ht:∀a∈rs,(kf a).tag=tg)(me:rs.Nodup)(hl:rs.length<=1000) :
  ∃(B:Nat->Nat) (c:aj),(∀a∈rs,∀b∈rs,(B a=B b↔kf a=kf b))/\D3 [.loc r,.loc q] st=.ok (.loc (st.length+1)) (st++[c,.dct (pz B rs)]):=by
 suffices hh:gJ (rD fun w bG=>∃j x,w=.loc (st.length+j)/\bG=st++x/\∃(B:Nat->Nat) (c:aj),(∀a∈rs,∀b∈rs,(B a=B b↔kf a=kf b))/\j=1/\x=[c,.dct (pz B rs)]) (Ur ([W.loc r,.loc q].map some++List.replicate (5-2) none) st) by
  obtain⟨j,x,⟨B,c,h1,rfl,rfl⟩,e⟩:=jl hh
  exact⟨B,c,h1,e⟩
 have hrl:=(ac.mp hr).1
 have hql:=(ac.mp hq).1
 apply au
 ·exact bu rfl
 apply au
 ·exact bu rfl
 refine cR (k:=(rs.map fun a=>W.int (a:Nat),some (r,rs.map fun a=>W.int (a:Nat)))) (fun i ρ s=>∃(ks:List KX) (o4:Option W),ks.Nodup/\ks.length<=i/\(∀k∈ks,k.tag=tg)/\(∀a∈rs.take i,kf a∈ks) /\
   ρ=[some (.loc r),some (.loc q),some (.loc st.length),some (.loc (st.length+1)),o4]/\s=st++[uO ks,.dct (pz (fun a=>ks.idxOf (kf a)) (rs.take i))]) (fM kv (aM (aG (aG hr)))) ?_ ?_ ?_ ?_
 ·refine⟨[],none,.nil,cH _,fun _ h=>(by cases h),fun a h=>(by simp at h),?_,?_⟩
  ·simp
  ·simp[uO,dI]
 ·rintro i ρ s ⟨ks,o4,_,_,_,_,rfl,rfl⟩
  exact aM (aG hr)
 ·rintro i w ρ s hw ⟨ks,o4,h1,h2,h3,h4,rfl,rfl⟩
  rw[ak]at hw
  obtain⟨a,ha,rfl⟩:=aU.mp hw
  have hi:i<rs.length:=(ac.mp ha).1
  have ham:a∈rs:=aA ha
  have C3:rs.take (i+1)=rs.take i++[a]:=by rw[iV,ha];rfl
  have hant:a∉rs.take i:=fun z=>by
   have:(rs.take (i+1)).Nodup:=me.sublist (iJ _ _)
   rw[C3,db]at this
   exact this.2.2 a z a (by simp) rfl
  refine⟨_,rfl,?_⟩
  generalize hs:st++[uO ks,.dct (pz (fun a=>ks.idxOf (kf a)) (rs.take i))]=s
  have c2:s[st.length]?=some (uO ks):=by rw[<- hs,bN];rfl
  have c3:s[st.length+1]?=some (.dct (pz (fun a=>ks.idxOf (kf a)) (rs.take i))):=by rw[<- hs,dH];rfl
  have cq:s[q]?=some (.dct kvs):=by rw[<- hs];exact aG hq
  have hd:=CL c2
  have ix:∀{s':List aj},s'[q]?=some (.dct kvs)->gp (.loc q) (.int (a:Nat)) s'=.ok (kf a).w s':=fun z=>kj (fN z) (hk a ham)
  have okk:∀Jg:List KX,(∀k∈Jg,k.tag=tg)->Jg.length<=i+1->(um (jL 0 Jg) (kf a)||F3 (jL 0 Jg) (kf a))=true:=fun Jg z1 z2=>Q7 (fun p hp=>by rw[z1 _ (tX hp),ht a ham]) (by rw[lQ];show _<1000000;omega)
  have hb:∀f:Nat->W,(f a)=(fun x=>f x) a:=fun f=>rfl
  have put:∀(Jg:List KX) (s':List aj),s'[st.length+1]?=some (.dct (pz (fun a=>Jg.idxOf (kf a)) (rs.take i)))->jn (.loc (st.length+1)) (.int (a:Nat)) (.int (Jg.idxOf (kf a):Nat)) s'=some (s'.set (st.length+1) (.dct (pz (fun a=>Jg.idxOf (kf a)) (rs.take (i+1))))):=fun Jg s' z=>by
   rw[tQ z (by rw[mz,aZ];show _<1000000;omega),C3]
   congr 3
   exact tN (f:=fun a:Nat=>a) (g:=fun a=>W.int (Jg.idxOf (kf a):Nat)) (a:=a) (by simpa using hant)
  by_cases hm:kf a∈ks
  ·apply au
   ·refine fw (w:=.int ((0+ks.idxOf (kf a):Nat):Int)) (st1:=s) ?_
    rw[CK kv hd (bd kv kv (ix cq)) (rW _) (be kn (Io hd (by rw[lQ];show _<=1000000;omega))) (okk ks h3 (by omega)),j4,ar hm]
   refine⟨_,_,lG (bd kv (bd kv kv (ix cq)) (Nq hd (rW _) (okk ks h3 (by omega)) (by rw[j4,ar hm]))) kv kv (by rw[eO];exact put ks s c3),ks,_,h1,by omega,h3,fun b hb=>?_,rfl,?_⟩
   ·rw[C3]at hb
    rcases aI.mp hb with z|z
    ·exact h4 b z
    ·simp at z;subst z;exact hm
   ·rw[<- hs,gB _ _ (by omega),show st.length+1-st.length=1 by omega];rfl
  ·have xo:s.set st.length (.dcx (jL 0 (ks++[kf a])))=st++[uO (ks++[kf a]),.dct (pz (fun a=>ks.idxOf (kf a)) (rs.take i))]:=by
    rw[<- hs,gB _ _ (by omega),ql]
    have:uO (ks++[kf a])=.dcx (jL 0 (ks++[kf a])):=by cases ks<;>rfl
    rw[this];rfl
   apply au
   ·refine fw (w:=.int (ks.length:Nat)) (st1:=s.set st.length (.dcx (jL 0 (ks++[kf a])))) ?_
    rw[CK kv hd (bd kv kv (ix cq)) (rW _) (be kn (Io hd (by rw[lQ];show _<=1000000;omega))) (okk ks h3 (by omega)),j4,az hm]
    simp only[lQ]
    congr 3
    unfold jw
    rw[j4,az hm,vL,eO];rfl
   rw[xo]
   have bks:pz (fun b=>ks.idxOf (kf b)) (rs.take i)=pz (fun b=>(ks++[kf a]).idxOf (kf b)) (rs.take i):=by
    unfold pz dI
    refine br fun b hb=>?_
    show(DK.i (b:Nat),W.int ((ks.idxOf (kf b):Nat):Int))=(DK.i (b:Nat),W.int (((ks++[kf a]).idxOf (kf b):Nat):Int))
    rw[List.idxOf_append,ar (h4 b hb)]
   rw[bks]
   have h3':∀k∈ks++[kf a],k.tag=tg:=fun k hk=>by
    rcases aI.mp hk with z|z
    ·exact h3 k z
    ·simp at z;subst z;exact ht a ham
   have hm':kf a∈ks++[kf a]:=by simp
   generalize hs':st++[uO (ks++[kf a]),.dct (pz (fun b=>(ks++[kf a]).idxOf (kf b)) (rs.take i))]=s'
   have c2':s'[st.length]?=some (uO (ks++[kf a])):=by rw[<- hs',bN];rfl
   have c3':s'[st.length+1]?=some (.dct (pz (fun b=>(ks++[kf a]).idxOf (kf b)) (rs.take i))):=by rw[<- hs',dH];rfl
   have cq':s'[q]?=some (.dct kvs):=by rw[<- hs'];exact aG hq
   have hd':=CL c2'
   refine⟨_,_,lG (bd kv (bd kv kv (ix cq')) (Nq hd' (rW _) (okk (ks++[kf a]) h3' (by simp;omega)) (by rw[j4,ar hm']))) kv kv (by rw[eO];exact put (ks++[kf a]) s' c3'),ks++[kf a],_,?_,by simp;omega,h3',fun b hb=>?_,rfl,?_⟩
   ·rw[db]
    exact⟨h1,by simp,fun x hx y hy z=>by simp at hy;subst hy;subst z;exact hm hx⟩
   ·rw[C3]at hb
    rcases aI.mp hb with z|z
    ·exact fE _ (h4 b z)
    ·simp at z;subst z;exact hm'
   ·rw[<- hs',gH];rfl
 ·rintro ρ s ⟨ks,o4,h1,h2,h3,h4,rfl,rfl⟩
  rw[ai,bX]at h4 ⊢
  refine⟨_,_,kR kv,1,_,rfl,rfl,fun a=>ks.idxOf (kf a),uO ks,fun a ha b hb=>⟨fun z=>Ip (h4 a ha) z,fun z=>by simp only[z]⟩,rfl,rfl⟩
abbrev dZ(rs:List Nat):List W:=rs.map fun a=>W.int (a:Nat)
abbrev vD(V:Nat->W)(l:List Nat):List (DK×W):=dI (fun a:Nat=>a) V l
theorem iq{V:Nat->W}{a:Nat}(hn:l.Nodup)(h:a∈l):j9 (vD V l) (.i (a:Nat))=some (V a):=Ib (f:=fun a:Nat=>a) (g:=V) (by simpa using hn) h
theorem qG{a:Nat}(me:rs.Nodup)(ha:rs[i]?=some a):i<rs.length/\a∈rs/\rs.take (i+1)=rs.take i++[a]/\a∉rs.take i:=by
 have C3:rs.take (i+1)=rs.take i++[a]:=by rw[iV,ha];rfl
 refine⟨(ac.mp ha).1,aA ha,C3,fun z=>?_⟩
 have:(rs.take (i+1)).Nodup:=me.sublist (iJ _ _)
 rw[C3,db]at this
 exact this.2.2 a z a (by simp) rfl
theorem Iq{V:Nat->W}{a:Nat}{s:List aj}(me:rs.Nodup)(ha:rs[i]?=some a)(hl:rs.length<=1000)(hs:s[n]?=some (.dct (vD V (rs.take i)))):jn (.loc n) (.int (a:Nat)) (V a) s=some (s.set n (.dct (vD V (rs.take (i+1))))):=by
 obtain⟨_,_,C3,hant⟩:=qG me ha
 rw[tQ hs (by rw[mz,aZ];show _<1000000;omega),C3]
 congr 3
 exact tN (f:=fun a:Nat=>a) (g:=V) (a:=a) (by simpa using hant)
theorem ze{r rv dv iv:Nat}{V:Nat->W}{e:FE}{P:RS->Prop}{de:FS}(hr:st[r]?=some (.lst (dZ rs)))(me:rs.Nodup)(hl:rs.length<=1000)
  (XJ:∀o,(ρ.set iv o)[rv]?=some (some (.loc r))) (XQ:∀o,(ρ.set iv o)[dv]?=some (some (.loc st.length))) (Xg:iv<ρ.length)
  (he:∀a∈rs,∀c,e (ρ.set iv (some (.int (a:Nat)))) (st++[c])=.ok (V a) (st++[c]))
  (Jc:∀o,gJ P (de (ρ.set iv o) (st++[.dct (vD V rs)]))) :
  gJ P (aL (fC (cF (af rv)) (dY iv) (lB (af dv) (af iv) e jn)) de ρ (st++[.dct []])):=by
 have h0:ρ=ρ.set iv ρ[iv]:=by simp
 refine cR (k:=(dZ rs,some (r,dZ rs))) (fun i ρ' s=>∃o,ρ'=ρ.set iv o/\s=st++[.dct (vD V (rs.take i))]) (fM (eZ (by have:=XJ ρ[iv];rwa[<- h0]at this)) (aM (aG hr))) ⟨_,h0,rfl⟩ ?_ ?_ ?_
 ·rintro i ρ' s ⟨o,rfl,rfl⟩
  exact aM (aG hr)
 ·rintro i w ρ' s hw ⟨o,rfl,rfl⟩
  rw[ak]at hw
  obtain⟨a,ha,rfl⟩:=aU.mp hw
  obtain⟨hi,ham,_,_⟩:=qG me ha
  refine⟨ρ.set iv (some (.int (a:Nat))),?_,?_⟩
  ·show dY iv _ _=_
   unfold dY
   simp[Xg]
  ·refine⟨_,_,lG (he a ham _) (eZ (XQ _)) (eZ (by rw[ba Xg])) (Iq me ha hl bE),_,rfl,?_⟩
   rw[dO];rfl
 ·rintro ρ' s ⟨o,rfl,rfl⟩
  rw[ai,bX]
  exact Jc o
def gM(M:Mc)(a:Nat):Bool:=M.gd.getD a false
theorem Le{M:Mc}{r:Nat}(hM:lx M N)(hr:st[r]?=some (.lst (dZ rs)))(VX:∀a∈rs,a<N)(me:rs.Nodup)(hl:rs.length<=1000) :
  ∃(B:Nat->Nat) (x:List aj),(∀a∈rs,∀b∈rs,(B a=B b↔gM M a=gM M b))/\x[2]?=some (.dct (pz B rs))/\KS [M.w,.loc r] st=.ok (.loc (st.length+2)) (st++x):=by
 suffices hh:gJ (rD fun w bG=>∃j x,w=.loc (st.length+j)/\bG=st++x/\j=2/\∃(B:Nat->Nat),(∀a∈rs,∀b∈rs,(B a=B b↔gM M a=gM M b))/\x[2]?=some (.dct (pz B rs))) (Ut ([M.w,.loc r].map some++List.replicate (4-2) none) st) by
  obtain⟨j,x,⟨rfl,B,h1,h2⟩,e⟩:=jl hh
  exact⟨B,x,h1,h2,e⟩
 apply au
 ·exact bu rfl
 refine ze (V:=fun a=>W.bl (gM M a)) hr me hl (fun o=>rfl) (fun o=>rfl) (by simp) (fun a ha c=>?_) fun o=>?_
 ·refine bd kx kv (gI (dm ?_))
  rw[ak,aa (by rw[hM.gd];exact VX a ha)]
  simp[gM,ay,aa (show a<M.gd.length by rw[hM.gd];exact VX a ha)]
 ·obtain⟨B,c,hB,e⟩:=re (st:=st++[.dct (vD (fun a=>W.bl (gM M a)) rs)]) (r:=r) (q:=st.length) (rs:=rs) (kf:=fun a=>.bo (gM M a)) (tg:=0) (aG hr) bE (fun a ha=>iq me ha) (fun _ _=>rfl) me hl
  refine⟨_,_,kR (bU (al kv kn) e rfl),2,[.dct (vD (fun a=>W.bl (gM M a)) rs),c,.dct (pz B rs)],by simp,by simp,rfl,B,fun a ha b hb=>?_,rfl⟩
  rw[hB a ha b hb]
  simp
theorem Ir{r b v:Nat}{vw:Nat->List Int}(hr:st[r]?=some (.lst (dZ rs)))(hb:st[b]?=some (.dct (pz B rs)))(hv:st[v]?=some (.dct (vD (fun a=>.tup ((vw a).map W.int)) rs)))(me:rs.Nodup)(hl:rs.length<=1000) :
  ∃(B':Nat->Nat) (x:List aj),(∀a∈rs,∀b∈rs,(B' a=B' b↔B a=B b/\vw a=vw b))/\x[2]?=some (.dct (pz B' rs))/\HD [.loc r,.loc b,.loc v] st=.ok (.loc (st.length+2)) (st++x):=by
 suffices hh:gJ (rD fun w bG=>∃j x,w=.loc (st.length+j)/\bG=st++x/\j=2/\∃(B':Nat->Nat),(∀a∈rs,∀b∈rs,(B' a=B' b↔B a=B b/\vw a=vw b))/\x[2]?=some (.dct (pz B' rs))) (Uy ([W.loc r,.loc b,.loc v].map some++List.replicate (5-3) none) st) by
  obtain⟨j,x,⟨rfl,B,h1,h2⟩,e⟩:=jl hh
  exact⟨B,x,h1,h2,e⟩
 apply au
 ·exact bu rfl
 refine ze (V:=fun a=>(KX.pr (B a:Nat) (vw a)).w) hr me hl (fun o=>rfl) (fun o=>rfl) (by simp) (fun a ha c=>?_) fun o=>?_
 ·exact d_ (al (bd kv kv (kj (fN (aG hb)) (iq me ha))) (al (bd kv kv (kj (fN (aG hv)) (iq me ha))) bb)) (by show 2<=1000000;decide)
 ·obtain⟨B',c,hB,e⟩:=re (st:=st++[.dct (vD (fun a=>(KX.pr (B a:Nat) (vw a)).w) rs)]) (r:=r) (q:=st.length) (rs:=rs) (kf:=fun a=>.pr (B a:Nat) (vw a)) (tg:=2) (aG hr) bE (fun a ha=>iq me ha) (fun _ _=>rfl) me hl
  refine⟨_,_,kR (bU (al kv kn) e rfl),2,[.dct (vD (fun a=>(KX.pr (B a:Nat) (vw a)).w) rs),c,.dct (pz B' rs)],by simp,by simp,rfl,B',fun a ha b hb=>?_,rfl⟩
  rw[hB a ha b hb,KX.pr.injEq]
  exact⟨fun z=>⟨by omega,z.2⟩,fun z=>⟨by rw[z.1],z.2⟩⟩
theorem wW{zs ys:List W}(h:st[n]?=some (.lst zs))(h2:st[m]?=some (.lst ys))(hl:zs.length+ys.length<=1000000):gG (.loc n) [.loc m] st=.ok .non (st.set n (.lst (zs++ys))):=by
 unfold gG pP
 simp only[h,h2,aM h2,cL]
 rw[ar hl]
def Iu:W->Nat
 |.int z=>z.toNat
 |_=>0
theorem tY(a:Nat):Iu (.int (a:Nat))=a:=by show((a:Int)).toNat=a;omega
theorem Iv(rs:List Nat)(f:Nat->W):(dZ rs).map (fun w=>f (Iu w))=rs.map f:=by
 unfold dZ;rw[aX];exact br fun a _=>by show f (Iu (.int (a:Nat)))=f a;rw[tY]
theorem Iw{w:W}(h:w∈dZ rs):∃a∈rs,w=.int (a:Nat):=by
 obtain⟨a,ha,rfl⟩:=aJ.mp h;exact⟨a,ha,rfl⟩
def rX(M:Mc)(rs:List Nat)(B:Nat->Nat)(a:Nat):List Int:=(kJ M.tb.length rs).map fun p=>((B (led (a9 M) p a):Nat):Int)
structure Rm(M:Mc)(N:Nat)(rs:List Nat):Prop where
 ok:lx M N
 lt:∀a∈rs,a<N
 nd:rs.Nodup
 len:rs.length<=100
 sz:M.tb.length*(2*rs.length)<=10000
 cl:∀k,k<M.tb.length->∀a∈rs,∀b∈rs,a9 M k a b∈rs
theorem Iy{M:Mc}{r b:Nat}(hM:Rm M N rs)(hr:st[r]?=some (.lst (dZ rs)))(hb:st[b]?=some (.dct (pz B rs))) :
  ∃x:List aj,x[0]?=some (.dct (vD (fun a=>.tup ((rX M rs B a).map W.int)) rs))/\HC [M.w,.loc r,.loc b] st=.ok (.loc st.length) (st++x):=by
 suffices hh:gJ (rD fun w bG=>∃j x,w=.loc (st.length+j)/\bG=st++x/\j=0/\x[0]?=some (.dct (vD (fun a=>.tup ((rX M rs B a).map W.int)) rs))) (Uv ([M.w,.loc r,.loc b].map some++List.replicate (7-3) none) st) by
  obtain⟨j,x,⟨rfl,h1⟩,e⟩:=jl hh
  exact⟨x,h1,e⟩
 have cY:=hM.len
 apply au
 ·exact bu rfl
 refine cR (k:=(dZ rs,some (r,dZ rs))) (fun i ρ s=>∃x o4 o5 o6,ρ=[some M.w,some (.loc r),some (.loc b),some (.loc st.length),o4,o5,o6]/\s=st++.dct (vD (fun a=>.tup ((rX M rs B a).map W.int)) (rs.take i))::x) (fM kv (aM (aG hr))) ⟨[],none,none,none,rfl,rfl⟩ ?_ ?_ ?_
 ·rintro i ρ' s ⟨x,o4,o5,o6,rfl,rfl⟩
  exact aM (aG hr)
 ·rintro i w ρ' s hw ⟨x,o4,o5,o6,rfl,rfl⟩
  rw[ak]at hw
  obtain⟨a,ha,rfl⟩:=aU.mp hw
  obtain⟨hi,ham,_,_⟩:=qG hM.nd ha
  refine⟨_,rfl,?_⟩
  have c3:(st++.dct (vD (fun a=>.tup ((rX M rs B a).map W.int)) (rs.take i))::x)[st.length]?=some (.dct (vD (fun a=>.tup ((rX M rs B a).map W.int)) (rs.take i))):=by rw[bN];rfl
  have cr:(st++.dct (vD (fun a=>.tup ((rX M rs B a).map W.int)) (rs.take i))::x)[r]?=some (.lst (dZ rs)):=aG hr
  have cb:(st++.dct (vD (fun a=>.tup ((rX M rs B a).map W.int)) (rs.take i))::x)[b]?=some (.dct (pz B rs)):=aG hb
  have hss:∀(y:List aj) (c:aj),∃x',(st++.dct (vD (fun a=>.tup ((rX M rs B a).map W.int)) (rs.take i))::x++y).set st.length c=st++c::x':=fun y c=>⟨x++y,by rw[aV,dO];rfl⟩
  generalize st++.dct (vD (fun a=>.tup ((rX M rs B a).map W.int)) (rs.take i))::x=s0 at c3 cr cb hss
  apply au
  ·exact bu (vE bb (cH _))
  refine cR (k:=(M.tb.map fY,none)) (fun k ρ s=>∃y o6,ρ=[some M.w,some (.loc r),some (.loc b),some (.loc st.length),some (.int (a:Nat)),some (.loc s0.length),o6]/\s=s0++.lst ((kJ k rs).map fun p=>W.int (B (led (a9 M) p a):Nat))::y) (jU kx) ⟨[],_,rfl,rfl⟩ (fun _ _ _ _=>trivial) ?_ ?_
  ·rintro k w ρ' s hw ⟨y,o6,rfl,rfl⟩
   rw[ak]at hw
   obtain⟨t,ht,rfl⟩:=aU.mp hw
   have hk:k<M.tb.length:=(ac.mp ht).1
   refine⟨_,rfl,?_⟩
   have rf:(kJ k rs).length<=10000:=by
    rw[rV]
    refine aR (Nat.mul_le_mul_right _ (eL hk)) hM.sz
   have c5:(s0++.lst ((kJ k rs).map fun p=>W.int (B (led (a9 M) p a):Nat))::y)[s0.length]?=some (.lst ((kJ k rs).map fun p=>W.int (B (led (a9 M) p a):Nat))):=by rw[bN];rfl
   have cr':(s0++.lst ((kJ k rs).map fun p=>W.int (B (led (a9 M) p a):Nat))::y)[r]?=some (.lst (dZ rs)):=aG cr
   have cb':(s0++.lst ((kJ k rs).map fun p=>W.int (B (led (a9 M) p a):Nat))::y)[b]?=some (.dct (pz B rs)):=aG cb
   apply au
   ·refine fw (jS kv (dy c5) (al (iG (fun w=>W.int (B (a9 M k a (Iu w)):Nat)) (fM kv (aM cr')) (by rw[ai];show _<=1000000;omega) (aM cr') fun w hw=>?_) bb) (wW (aG c5) bE (by rw[ai,ai,ai];omega)))
    obtain⟨z,hz,rfl⟩:=Iw hw
    obtain⟨row,e1,e2,_⟩:=jK hM.ok ht (hM.lt a ham) (hM.lt z hz)
    rw[tY]
    exact⟨_,rfl,bd kv (bd (bd kv kv (lN e1)) kv (lO e2)) (kj (fN cb') (iq hM.nd (hM.cl k hk a ham z hz)))⟩
   rw[aV,dO,Iv rs fun t=>W.int (B (a9 M k a t):Nat)]
   generalize hy:(y++[.lst (rs.map fun t=>W.int (B (a9 M k a t):Nat))]:List aj)=y1
   generalize hL1:((kJ k rs).map fun p=>W.int (B (led (a9 M) p a):Nat))++(rs.map fun t=>W.int (B (a9 M k a t):Nat))=L1
   have hl1:L1.length<=20000:=by rw[<- hL1];simp;omega
   show gJ _ (eG _ _ (s0++.lst L1::(y++[_])))
   rw[hy]
   have c5':(s0++.lst L1::y1)[s0.length]?=some (.lst L1):=by rw[bN];rfl
   have cr2:(s0++.lst L1::y1)[r]?=some (.lst (dZ rs)):=aG cr
   have cb2:(s0++.lst L1::y1)[b]?=some (.dct (pz B rs)):=aG cb
   refine⟨_,_,fw (jS kv (dy c5') (al (iG (fun w=>W.int (B (a9 M k (Iu w) a):Nat)) (fM kv (aM cr2)) (by rw[ai];show _<=1000000;omega) (aM cr2) fun w hw=>?_) bb) (wW (aG c5') bE (by rw[ai,ai];omega))),y1++[.lst (rs.map fun t=>W.int (B (a9 M k t a):Nat))],_,rfl,?_⟩
   ·obtain⟨z,hz,rfl⟩:=Iw hw
    obtain⟨row,e1,e2,_⟩:=jK hM.ok ht (hM.lt z hz) (hM.lt a ham)
    rw[tY]
    exact⟨_,rfl,bd kv (bd (bd kv kv (lN e1)) kv (lO e2)) (kj (fN cb2) (iq hM.nd (hM.cl k hk z hz a ham)))⟩
   ·rw[aV,dO,Iv rs fun t=>W.int (B (a9 M k t a):Nat)]
    show s0++.lst (L1++_)::(y1++_)=s0++.lst _::_
    congr 3
    rw[zd,<- hL1]
    simp[led,aX,eA]
  ·rintro ρ' s ⟨y,o6,rfl,rfl⟩
   rw[ai]
   have c5:(s0++.lst ((kJ M.tb.length rs).map fun p=>W.int (B (led (a9 M) p a):Nat))::y)[s0.length]?=some (.lst ((kJ M.tb.length rs).map fun p=>W.int (B (led (a9 M) p a):Nat))):=by rw[bN];rfl
   have ev:W.tup ((kJ M.tb.length rs).map fun p=>W.int (B (led (a9 M) p a):Nat))=.tup ((rX M rs B a).map W.int):=by
    unfold rX;rw[aX];rfl
   obtain⟨x',hx⟩:=hss (.lst ((kJ M.tb.length rs).map fun p=>W.int (B (led (a9 M) p a):Nat))::y) (.dct (vD (fun a=>.tup ((rX M rs B a).map W.int)) (rs.take (i+1))))
   refine⟨_,_,lG (be kn (gK (aM c5))) kv kv (by rw[ev];exact Iq (V:=fun a=>.tup ((rX M rs B a).map W.int)) hM.nd ha (by omega) (aG c3)),x',_,_,_,rfl,hx⟩
 ·rintro ρ' s ⟨x,o4,o5,o6,rfl,rfl⟩
  rw[ai,bX]
  exact⟨_,_,kR kv,0,_,rfl,rfl,rfl,rfl⟩
theorem Lf{fs:FA}{zs:List W}(h:fs ρ st=.ok [.loc n] st1)(hl:lstOf st1 n=some zs):mw fs ρ st=.ok (i6 zs,some (n,zs)) st1:=by
 unfold mw;rw[h];simp only[R.bind_ok,hl]
theorem Lg(rs:List Nat)(i:Nat):(dZ rs).drop i=dZ (rs.drop i):=by unfold dZ;rw[oZ]
theorem A0{r:Nat}(hr:st[r]?=some (.lst (dZ rs)))(hl:rs.length<=100) :
  ∃x:List aj,x[0]?=some (.lst ((dQ rs).map iY))/\Ch [.loc r] st=.ok (.loc st.length) (st++x):=by
 suffices hh:gJ (rD fun w bG=>∃j x,w=.loc (st.length+j)/\bG=st++x/\j=0/\x[0]?=some (.lst ((dQ rs).map iY))) (MW ([W.loc r].map some++List.replicate (4-1) none) st) by
  obtain⟨j,x,⟨rfl,h1⟩,e⟩:=jl hh
  exact⟨x,h1,e⟩
 have rf:=oq rs
 have hp2:(dQ rs).length<=10000:=aR rf (aR (gS hl hl) (by decide))
 apply au
 ·exact bu (vE bb (cH _))
 refine cR (k:=(i6 (dZ rs),some (r,dZ rs))) (fun i ρ s=>∃Q y o2 o3,dQ rs=Q++dQ (rs.drop i)/\ρ=[some (.loc r),some (.loc st.length),o2,o3]/\s=st++.lst (Q.map iY)::y) (Lf kn (aM (aG hr))) ⟨[],[],none,none,rfl,rfl,rfl⟩ ?_ ?_ ?_
 ·rintro i ρ' s ⟨Q,y,o2,o3,_,rfl,rfl⟩
  exact aM (aG hr)
 ·rintro i w ρ' s hw ⟨Q,y,o2,o3,hQ,rfl,rfl⟩
  obtain⟨y',hy',rfl⟩:=lD hw
  rw[ak]at hy'
  obtain⟨a,ha,rfl⟩:=aU.mp hy'
  have hi:i<rs.length:=(ac.mp ha).1
  have hdr:rs.drop i=a::rs.drop (i+1):=by
   rw[dJ hi];congr 1
   rw[aa hi]at ha;exact aY ha
  refine⟨_,rfl,?_⟩
  have c1:(st++.lst (Q.map iY)::y)[st.length]?=some (.lst (Q.map iY)):=by rw[bN];rfl
  have cr:(st++.lst (Q.map iY)::y)[r]?=some (.lst (dZ rs)):=aG hr
  have hcut:kH (dZ rs) (some ((i:Int)+1)) none=dZ (rs.drop (i+1)):=by
   rw[show((i:Int)+1)=((i+1:Nat):Int) by omega,rT (by rw[ai];omega),Lg]
  have sl:BN (.loc r) (some ((i:Int)+1)) none (st++.lst (Q.map iY)::y)=.ok (.loc (st++.lst (Q.map iY)::y).length) ((st++.lst (Q.map iY)::y)++[.lst (dZ (rs.drop (i+1)))]):=by
   rw[Cg (aM cr),hcut]
  have hQl:Q.length+(rs.drop (i+1)).length<=10000:=by
   have:=dM List.length hQ
   rw[hdr]at this
   simp only[dQ,aB,ai]at this
   omega
  refine⟨_,_,fw (jS kv (dy c1) (al (iG (fun w=>W.tup [.int (a:Nat),w]) (fM (AF kv (wE (bd kv cK e7)) F9 sl) (aM bE)) (by rw[ai];show _<=1000000;omega) (aM bE) fun w hw=>⟨_,rfl,d_ (al kv kn) (by show 2<=1000000;decide)⟩) bb) (wW (aG (aG c1)) bE (by rw[ai,ai,ai];omega))),Q++(rs.drop (i+1)).map (fun b=>(a,b)),y++[.lst (dZ (rs.drop (i+1)))]++[.lst ((dZ (rs.drop (i+1))).map fun w=>W.tup [.int (a:Nat),w])],_,_,?_,rfl,?_⟩
  ·rw[hQ,hdr];simp[dQ]
  ·rw[aV,aV,dO]
   simp[iY]
   rfl
 ·rintro ρ' s ⟨Q,y,o2,o3,hQ,rfl,rfl⟩
  rw[qx,ai,List.drop_length]at hQ
  simp only[dQ,eD]at hQ
  exact⟨_,_,kR kv,0,_,rfl,rfl,rfl,by rw[hQ];rfl⟩
def tZ:W->Nat
 |.tup [.int z,_]=>z.toNat
 |_=>0
def t5:W->Nat
 |.tup [_,.int z]=>z.toNat
 |_=>0
theorem qH(p:Nat×Nat):tZ (iY p)=p.1:=by show((p.1:Int)).toNat=_;omega
theorem qI(p:Nat×Nat):t5 (iY p)=p.2:=by show((p.2:Int)).toNat=_;omega
theorem vM(F:Nat->Nat->Bool)(ps:List (Nat×Nat)):((ps.map iY).filter fun w=>F (tZ w) (t5 w))=(ps.filter fun p=>F p.1 p.2).map iY:=by
 rw[jH]
 congr 1
section
variable{b q:Nat}{ps:List (Nat×Nat)}
theorem vN(me:rs.Nodup)(hb:st[b]?=some (.dct (pz B rs)))(hq:st[q]?=some (.lst (ps.map iY)))(hm:∀p∈ps,p.1∈rs/\p.2∈rs)(hl:ps.length<=10000) :
  vJ [.loc b,.loc q] st=.ok (.loc st.length) (st++[.lst ((ps.filter fun p=>!(B p.1==B p.2)).map iY)]):=by
 refine pW (N:=2) (body:=MX) (ws:=[.loc b,.loc q]) (k:=0) (x:=[.lst ((ps.filter fun p=>!(B p.1==B p.2)).map iY)]) ?_
 refine kR ?_
 have:=tw (cap:=[none,none,some 0]) (fi:=cF (af 1)) (f:=ul 2 (b8 (dY 0) (b8 (dY 1) hG))) (t:=fq (e2 Aj (e2 gp (af 2) (af 0)) (e2 gp (af 2) (af 1)))) (el:=cP (ag (af 0) (ag (af 1) av))) (ρ:=[W.loc b,.loc q].map some++List.replicate (2-2) none) (st:=st) (st1:=st) (fun w=>!(B (tZ w)==B (t5 w))) (fun w=>w) (fM kv (aM hq)) (by rw[ai];show _<=1000000;omega) (aM hq) fun w hw=>by
  obtain⟨p,hp,rfl⟩:=aJ.mp hw
  refine⟨_,rfl,bQ (bd (bd kv kv (kj (fN hb) (iq me (hm p hp).1))) (bd kv kv (kj (fN hb) (iq me (hm p hp).2))) (Gc ?_)),fun _=>d_ (al kv kn) (by show 2<=1000000;decide)⟩
  rw[qH,qI,cD];simp;omega
 rw[vM (fun x y=>!(B x==B y)),List.map_id']at this
 exact this
theorem zf(me:rs.Nodup)(hb:st[b]?=some (.dct (pz B rs)))(hq:st[q]?=some (.lst (ps.map iY)))(hm:∀p∈ps,p.1∈rs/\p.2∈rs)(hl:ps.length<=10000) :
  yM [.loc b,.loc q] st=.ok (.loc st.length) (st++[.lst ((ps.filter fun p=>B p.1==B p.2).map iY)]):=by
 refine pW (N:=2) (body:=MY) (ws:=[.loc b,.loc q]) (k:=0) (x:=[.lst ((ps.filter fun p=>B p.1==B p.2).map iY)]) ?_
 refine kR ?_
 have:=tw (cap:=[none,none,some 0]) (fi:=cF (af 1)) (f:=ul 2 (b8 (dY 0) (b8 (dY 1) hG))) (t:=fq (e2 lw (e2 gp (af 2) (af 0)) (e2 gp (af 2) (af 1)))) (el:=cP (ag (af 0) (ag (af 1) av))) (ρ:=[W.loc b,.loc q].map some++List.replicate (2-2) none) (st:=st) (st1:=st) (fun w=>(B (tZ w)==B (t5 w))) (fun w=>w) (fM kv (aM hq)) (by rw[ai];show _<=1000000;omega) (aM hq) fun w hw=>by
  obtain⟨p,hp,rfl⟩:=aJ.mp hw
  refine⟨_,rfl,bQ (bd (bd kv kv (kj (fN hb) (iq me (hm p hp).1))) (bd kv kv (kj (fN hb) (iq me (hm p hp).2))) (i7 ?_)),fun _=>d_ (al kv kn) (by show 2<=1000000;decide)⟩
  rw[qH,qI,cD];simp;omega
 rw[vM (fun x y=>B x==B y),List.map_id']at this
 exact this
theorem A1{f:bY->List aj->R Bool}{a b:List aj}(h1:f ρ st=.ok false a)(h2:f ρ st=.ok true b):False:=by
 rw[h1]at h2;cases h2
theorem Q8{r d:Nat}{va vb:List Int}{x y:Int}{t:Nat}(hr:st[r]?=some (.lst (dZ rs)))(hm:rs.length=m)(W1:0<m)(X2:m<=100)(hd:d<=10000)(hs:∀i,i<d->va[i]?=vb[i]?/\i<va.length)(hx:va[d]?=some x)(hy:vb[d]?=some y)(XR:x≠y)(ht:rs[d%m]?=some t) :
  tI [.tup (va.map W.int),.tup (vb.map W.int),.loc r] st=.ok (Et (d/(m*2),d/m%2,t)) st:=by
 refine ip ?_ rfl
 apply au
 ·exact bu cK
 refine lI (fun n ρ s=>∃k o4,d=k+n/\s=st/\ρ=[some (.tup (va.map W.int)),some (.tup (vb.map W.int)),some (.loc r),some (.int (k:Nat)),o4]) d ⟨0,none,by omega,rfl,rfl⟩ ?_ ?_
 ·rintro n ρ s ⟨k,o4,hk,rfl,rfl⟩
  rcases gk n with z|z
  ·subst z
   obtain rfl:d=k:=by omega
   refine .inl (bQ (bd (bd kv kv (gI (dm (by rw[ak,hx];rfl)))) (bd kv kv (gI (dm (by rw[ak,hy];rfl)))) (i7 (by simpa using XR))))
  ·obtain⟨h1,h2⟩:=hs k (by omega)
   have e1:va[k]?=some va[k]:=aa h2
   refine .inr ⟨bQ (bd (bd kv kv (gI (dm (by rw[ak,e1];rfl)))) (bd kv kv (gI (dm (by rw[ak,<- h1,e1];rfl)))) (i7 (by simp))),_,_,bu (bd kv cK e7),n-1,by omega,k+1,o4,by omega,rfl,?_⟩
   show _=[_,_,_,some (W.int ((k+1:Nat):Int)),_]
   rw[show((k+1:Nat):Int)=(k:Int)+1 by omega];rfl
 ·rintro n ρ s ⟨k,o4,hk,rfl,rfl⟩ hf
  have hkd:k=d:=by
   rcases gk n with z|z
   ·omega
   ·exfalso
    obtain⟨h1,h2⟩:=hs k (by omega)
    have e1:va[k]?=some va[k]:=aa h2
    exact A1 hf (bQ (bd (bd kv kv (gI (dm (by rw[ak,e1];rfl)))) (bd kv kv (gI (dm (by rw[ak,<- h1,e1];rfl)))) (i7 (by simp))))
  subst hkd
  have ln:cW [.loc r] s=.ok (.int (m:Nat)) s:=by
   have:=io (aM hr)
   rw[ai,hm]at this;exact this
  apply au
  ·exact bu (be kn ln)
  have m1:gY (.int (m:Nat)) (.int 2) s=.ok (.int ((m*2:Nat):Int)) s:=by
   rw[show((m*2:Nat):Int)=(m:Int)*2 by omega];exact nQ (by unfold x5;omega)
  have d1:pL (.int (k:Nat)) (.int ((m*2:Nat):Int)) s=.ok (.int ((k/(m*2):Nat):Int)) s:=by rw[Int.natCast_ediv];exact jT (by omega)
  have d2:pL (.int (k:Nat)) (.int (m:Nat)) s=.ok (.int ((k/m:Nat):Int)) s:=by rw[Int.natCast_ediv];exact jT (by omega)
  have d3:eU (.int ((k/m:Nat):Int)) (.int 2) s=.ok (.int ((k/m%2:Nat):Int)) s:=by rw[md];exact jT (by omega)
  have d4:eU (.int (k:Nat)) (.int (m:Nat)) s=.ok (.int ((k%m:Nat):Int)) s:=by rw[md];exact jT (by omega)
  refine⟨_,_,kR (d_ (al (bd kv (bd kv cK m1) d1) (al (bd (bd kv kv d2) cK d3) (al (bd kv (bd kv kv d4) (kS (aM hr) (dm (by rw[ak,ht];rfl)))) bb))) (by show 3<=1000000;decide)),rfl,[],by simp⟩
end
theorem wX{L:Nat}{p:Nat×Nat×Nat}(h:p∈kJ L rs):p.1<L/\p.2.2∈rs:=by
 unfold kJ at h
 rw[fX]at h
 obtain⟨a,ha,h⟩:=h
 have:=bx.mp ha
 rcases aI.mp h with h|h<;>(obtain⟨t,ht,rfl⟩:=aJ.mp h;exact⟨this,ht⟩)
section
variable{M:Mc}{s:Nat}
theorem Rm.led(hM:Rm M N rs){p:Nat×Nat×Nat}(hp:p∈kJ M.tb.length rs){a:Nat}(ha:a∈rs):led (a9 M) p a∈rs:=by
 obtain⟨h1,h2⟩:=wX hp
 unfold P.led
 split
 ·exact hM.cl _ h1 _ ha _ h2
 ·exact hM.cl _ h1 _ h2 _ ha
abbrev A2(M:Mc)(rs:List Nat)(s a b:Nat):Bool:=ap (a9 M) M.tb.length (gM M) rs s a b
abbrev jo(M:Mc)(rs:List Nat)(s a b:Nat):Bool:=jb (a9 M) M.tb.length (gM M) rs s a b
abbrev fZ(M:Mc)(rs:List Nat)(s:Nat):List (Nat×Nat):=tV (a9 M) M.tb.length (gM M) rs s
abbrev fK(M:Mc)(rs:List Nat)(s:Nat):List W:=Ea (a9 M) M.tb.length (gM M) rs s
abbrev d7(M:Mc)(rs:List Nat)(s:Nat)(p:Nat×Nat):W:=za (a9 M) M.tb.length (gM M) rs s p
abbrev t6(M:Mc)(rs:List Nat)(n:Nat):Prop:=UP (a9 M) M.tb.length (gM M) rs n
def Jm(M:Mc)(rs:List Nat)(s:Nat)(B:Nat->Nat):Prop:=∀a∈rs,∀b∈rs,(B a=B b↔A2 M rs s a b=false)
theorem US(h:∀a∈rs,∀b∈rs,(B a=B b↔gM M a=gM M b)):Jm M rs 0 B:=fun a ha b hb=>by
 rw[h a ha b hb];unfold A2 ap;simp
theorem UT(hM:Rm M N rs){B':Nat->Nat}(h:Jm M rs s B)(h':∀a∈rs,∀b∈rs,(B' a=B' b↔B a=B b/\rX M rs B a=rX M rs B b)):Jm M rs (s+1) B':=fun a ha b hb=>by
 rw[h' a ha b hb,h a ha b hb]
 unfold rX
 rw[List.map_inj_left]
 constructor
 ·rintro⟨z1,z2⟩
  exact UQ z1 fun p hp=>(h _ (hM.led hp ha) _ (hM.led hp hb)).mp (by have:=z2 p hp;omega)
 ·intro z
  obtain⟨z1,z2⟩:=CG z
  exact⟨z1,fun p hp=>by rw[(h _ (hM.led hp ha) _ (hM.led hp hb)).mpr (z2 p hp)]⟩
theorem CM(h:Jm M rs s B){a b:Nat}(ha:a∈rs)(hb:b∈rs):(B a==B b)=!A2 M rs s a b:=by
 rw[cD,cZ,h a ha b hb];simp
theorem Lh(h:Jm M rs s B):(((dQ rs).filter fun p=>jo M rs s p.1 p.2).filter fun p=>B p.1==B p.2)=(dQ rs).filter fun p=>jo M rs (s+1) p.1 p.2:=by
 rw[List.filter_filter]
 refine k_ fun p hp=>?_
 obtain⟨h1,h2⟩:=mD hp
 rw[CM h h1 h2,Bool.and_comm];exact(nT s p.1 p.2).symm
theorem zg(h:Jm M rs s B):(((dQ rs).filter fun p=>jo M rs s p.1 p.2).filter fun p=>!(B p.1==B p.2))=fZ M rs s:=by
 rw[List.filter_filter]
 refine k_ fun p hp=>?_
 obtain⟨h1,h2⟩:=mD hp
 rw[CM h h1 h2,Bool.not_not,Bool.and_comm]
theorem rY{p:Nat×Nat}(hp:p∈fZ M rs s):(p.1∈rs/\p.2∈rs)/\jo M rs s p.1 p.2=true/\A2 M rs s p.1 p.2=true:=by
 obtain⟨h1,h2⟩:=bP.mp hp
 rw[bw]at h2
 exact⟨mD h1,h2⟩
theorem Li(hM:Rm M N rs)(h:Jm M rs s B){r:Nat}(hr:st[r]?=some (.lst (dZ rs))){a b:Nat}(hp:(a,b)∈fZ M rs (s+1)) :
  ∃w,y_ (a9 M) M.tb.length (gM M) rs (s+1) a b=some w/\tI [.tup ((rX M rs B a).map W.int),.tup ((rX M rs B b).map W.int),.loc r] st=.ok w st:=by
 obtain⟨⟨ha,hb⟩,ho,hap⟩:=rY hp
 have ha:a∈rs:=ha
 have hb:b∈rs:=hb
 have hs:=Ii (T:=a9 M) (L:=M.tb.length) (g:=gM M) (rs:=rs) ho
 have hap':ap (a9 M) M.tb.length (gM M) rs (s+1) a b=true:=hap
 rw[hap']at hs
 obtain⟨p,hfind⟩:=dU.mp hs.symm
 refine⟨Et p,?_,?_⟩
 ·show(((kJ M.tb.length rs).find? fun p=>ap (a9 M) M.tb.length (gM M) rs s (led (a9 M) p a) (led (a9 M) p b)).map Et)=_
  rw[hfind];rfl
 obtain⟨hF,d,hd,hpd,hbe⟩:=jg.mp hfind
 have hd':d<M.tb.length*(2*rs.length):=by rw[<- rV];exact hd
 obtain⟨t,ht,hat⟩:=Im M.tb.length hd'
 have hat2:(kJ M.tb.length rs)[d]?=some p:=by rw[aa hd,hpd]
 rw[hat2]at hat
 cases hat
 have W1:0<rs.length:=gj ha
 have vl:∀x:Nat,(rX M rs B x).length=(kJ M.tb.length rs).length:=fun x=>by unfold rX;rw[ai]
 have vat:∀(x i:Nat) (q:Nat×Nat×Nat),(kJ M.tb.length rs)[i]?=some q->(rX M rs B x)[i]?=some ((B (led (a9 M) q x):Nat):Int):=fun x i q e=>by unfold rX;rw[ak,e];rfl
 have hpm:(d/(rs.length*2),d/rs.length%2,t)∈kJ M.tb.length rs:=aA hat2
 refine Q8 (d:=d) hr rfl W1 hM.len (by have:=hM.sz;omega) (fun i hi=>?_) (vat a d _ hat2) (vat b d _ hat2) (fun z=>?_) ht
 ·have hi':i<(kJ M.tb.length rs).length:=by omega
  have e1:=aa hi'
  refine⟨?_,by rw[vl];exact hi'⟩
  rw[vat a i _ e1,vat b i _ e1]
  have hq:=fV hi'
  have:=hbe i hi
  rw[(h _ (hM.led hq ha) _ (hM.led hq hb)).mpr (by simpa using this)]
 ·have:=(h _ (hM.led hpm ha) _ (hM.led hpm hb)).mp (by omega)
  have hF':A2 M rs s (led (a9 M) (d/(rs.length*2),d/rs.length%2,t) a) (led (a9 M) (d/(rs.length*2),d/rs.length%2,t) b)=true:=hF
  rw[this]at hF';cases hF'
end
section
variable{M:Mc}
theorem wY(hl:rs.length<=100)(s:Nat):(fZ M rs s).length<=10000:=aR (dN _ _) (aR (oq rs) (aR (gS hl hl) (by decide)))
theorem wZ(hl:rs.length<=100)(s:Nat):((dQ rs).filter fun p=>jo M rs s p.1 p.2).length<=10000:=aR (dN _ _) (aR (oq rs) (aR (gS hl hl) (by decide)))
theorem w6:∀n:Nat,(fK M rs n).length+Q6 (a9 M) M.tb.length (gM M) rs n=(dQ rs).length
 |0=>by
  unfold Q6 fK Ea
  rw[List.range_zero,List.flatMap_nil]
  simp[jb]
 |n+1=>by
  have ih:=w6 n
  unfold fK at ih ⊢
  rw[lP,aB,ai]
  have e:=mC (fun p:Nat×Nat=>jo M rs n p.1 p.2) (fun p=>A2 M rs n p.1 p.2) (dQ rs)
  unfold Q6 at ih ⊢
  simp only[nT]
  unfold tV
  have e':((dQ rs).filter fun p=>jb (a9 M) M.tb.length (gM M) rs n p.1 p.2).length=((dQ rs).filter fun x=>jb (a9 M) M.tb.length (gM M) rs n x.1 x.2&&ap (a9 M) M.tb.length (gM M) rs n x.1 x.2).length+((dQ rs).filter fun x=>jb (a9 M) M.tb.length (gM M) rs n x.1 x.2&&!ap (a9 M) M.tb.length (gM M) rs n x.1 x.2).length:=e
  omega
theorem UU(hl:rs.length<=100)(n:Nat):(fK M rs n).length<=10000:=by
 have:=w6 (M:=M) (rs:=rs) n
 have h2:(dQ rs).length<=10000:=aR (oq rs) (aR (gS hl hl) (by decide))
 omega
structure Uw(M:Mc)(rs:List Nat)(st S:List aj)(ρ:bY)(s:Nat):Prop where
 mk'::ex:∃(r q b p w:Nat) (o7:Option W) (B:Nat->Nat),ρ=[some M.w,some (.loc r),some (.loc q),some (.int (s:Nat)),some (.loc b),some (.loc p),some (.loc w),o7]/\(∃x,S=st++x)/\st.length<=w/\r<w/\Jm M rs s B/\(∀k,k<s->fZ M rs k≠[]) /\
  S[r]?=some (.lst (dZ rs))/\S[q]?=some (.lst (((dQ rs).filter fun p=>jo M rs s p.1 p.2).map iY))/\S[b]?=some (.dct (pz B rs))/\S[p]?=some (.lst ((fZ M rs s).map iY))/\S[w]?=some (.lst (fK M rs (s+1)))
abbrev uT:FT:=fq (e2 Ai (bc cW (ag (af 5) av)) (eI 0))
abbrev uB:FS:=(aL (bp 2 (ca 2 yM (ag (af 4) (ag (af 2) av)))) (aL (bp 7 (ca 3 HC (ag (af 0) (ag (af 1) (ag (af 4) av))))) (aL (bp 3 (e2 dE (af 3) (eI 1))) (aL (bp 4 (ca 3 HD (ag (af 1) (ag (af 4) (ag (af 7) av))))) (aL (bp 5 (ca 2 vJ (ag (af 4) (ag (af 2) av)))) (eG (nv gG (af 6) (ag (d9 [none,none,some 3,some 1,some 7] (cF (af 5)) (ul 2 (b8 (dY 0) (b8 (dY 1) hG))) kI (cP (ag (af 0) (ag (af 1) (ag (af 2) (ag (ca 3 tI (ag (e2 gp (af 4) (af 0)) (ag (e2 gp (af 4) (af 1)) (ag (af 3) av)))) av)))))) av))))))))
theorem CN{S:List aj}{s:Nat}(h:Uw M rs st S ρ s):uT ρ S=.ok (!(fZ M rs s).isEmpty) S:=by
 obtain⟨r,q,b,p,w,o7,B,rfl,hx,hw,hrw,hB,hgo,cr,cq,cb,cp,cw⟩:=h.ex
 have ln:=io (aM cp)
 rw[ai]at ln
 refine bQ (bd (be kn ln) cK (hV ?_))
 rw[cD,bt]
 cases fZ M rs s with
 |nil=>simp
 |cons x l=>simp
theorem Lj(hM:Rm M N rs){S:List aj}{s:Nat}(h:Uw M rs st S ρ s)(hn:fZ M rs s≠[]):gJ (Gg fun ρ2 S2=>Uw M rs st S2 ρ2 (s+1)) (uB ρ S):=by
 obtain⟨r,q,b,p,w,o7,B,rfl,⟨x,hx⟩,hw,hrw,hB,hgo,cr,cq,cb,cp,cw⟩:=h.ex
 have cY:=hM.len
 have Ev:=(ac.mp cw).1
 have ev1:=zf hM.nd cb cq (fun p hp=>mD (bP.mp hp).1) (wZ cY s)
 rw[Lh hB]at ev1
 apply au
 ·exact bu (bU (al kv kn) ev1 rfl)
 have cq1:(S++[.lst (((dQ rs).filter fun p=>jo M rs (s+1) p.1 p.2).map iY)])[S.length]?=some (.lst (((dQ rs).filter fun p=>jo M rs (s+1) p.1 p.2).map iY)):=bE
 have pre1:∃y,(S++[.lst (((dQ rs).filter fun p=>jo M rs (s+1) p.1 p.2).map iY)]:List aj)=S++y:=⟨_,rfl⟩
 generalize S++[.lst (((dQ rs).filter fun p=>jo M rs (s+1) p.1 p.2).map iY)]=S1 at cq1 pre1
 obtain⟨y1,hy1⟩:=pre1
 have cr1:S1[r]?=some (.lst (dZ rs)):=by rw[hy1];exact aG cr
 have cb1:S1[b]?=some (.dct (pz B rs)):=by rw[hy1];exact aG cb
 obtain⟨xv,hxv,ev2⟩:=Iy hM cr1 cb1
 apply au
 ·exact bu (bU (al kv (al kv kn)) ev2 rfl)
 have cv2:(S1++xv)[S1.length]?=some (.dct (vD (fun a=>.tup ((rX M rs B a).map W.int)) rs)):=by rw[bN];exact hxv
 apply au
 ·exact bu (bd kv cK e7)
 obtain⟨B',x3,hB',hx3,ev3⟩:=Ir (aG cr1) (aG cb1) cv2 hM.nd (by omega)
 have hB1:Jm M rs (s+1) B':=UT hM hB hB'
 apply au
 ·exact bu (bU (al kv (al kv kn)) ev3 rfl)
 have cb3:(S1++xv++x3)[(S1++xv).length+2]?=some (.dct (pz B' rs)):=by rw[dH];exact hx3
 have ev4:=vN hM.nd cb3 (aG (aG cq1)) (fun p hp=>mD (bP.mp hp).1) (wZ cY (s+1))
 rw[zg hB1]at ev4
 apply au
 ·exact bu (bU (al kv kn) ev4 rfl)
 have cp4:(S1++xv++x3++[.lst ((fZ M rs (s+1)).map iY)])[(S1++xv++x3).length]?=some (.lst ((fZ M rs (s+1)).map iY)):=bE
 have cr4:(S1++xv++x3++[.lst ((fZ M rs (s+1)).map iY)])[r]?=some (.lst (dZ rs)):=aG (aG (aG cr1))
 have cv4:(S1++xv++x3++[.lst ((fZ M rs (s+1)).map iY)])[S1.length]?=some (.dct (vD (fun a=>.tup ((rX M rs B a).map W.int)) rs)):=aG (aG cv2)
 have cq4:(S1++xv++x3++[.lst ((fZ M rs (s+1)).map iY)])[S.length]?=_:=aG (aG (aG cq1))
 have cb4:(S1++xv++x3++[.lst ((fZ M rs (s+1)).map iY)])[(S1++xv).length+2]?=some (.dct (pz B' rs)):=aG cb3
 have cw4:(S1++xv++x3++[.lst ((fZ M rs (s+1)).map iY)])[w]?=some (.lst (fK M rs (s+1))):=aG (aG (aG (by rw[hy1];exact aG cw)))
 have hwS1:w<S1.length:=by rw[hy1,aB];omega
 have hwq:w≠S.length:=by omega
 have hwb:w≠(S1++xv).length+2:=by rw[aB];omega
 have hwp:w≠(S1++xv++x3).length:=by rw[aB,aB];omega
 have hX:∃z,(S1++xv++x3++[.lst ((fZ M rs (s+1)).map iY)]:List aj)=st++z:=⟨x++y1++xv++x3++[.lst ((fZ M rs (s+1)).map iY)],by rw[hy1,hx];simp⟩
 generalize hS4:(S1++xv++x3++[.lst ((fZ M rs (s+1)).map iY)]:List aj)=S4 at cp4 cr4 cv4 cq4 cb4 cw4 hX
 have hrows:((fZ M rs (s+1)).map iY).map (fun w=>d7 M rs (s+1) (tZ w,t5 w))=(fZ M rs (s+1)).map (d7 M rs (s+1)):=by
  rw[aX]
  refine br fun p hp=>?_
  show d7 M rs (s+1) (tZ (iY p),t5 (iY p))=_
  rw[qH,qI]
 have hout:fK M rs (s+1)++(fZ M rs (s+1)).map (d7 M rs (s+1))=fK M rs (s+2):=(lP (s+1)).symm
 have ec:=iG (cap:=[none,none,some 3,some 1,some 7]) (fi:=cF (af 5)) (f:=ul 2 (b8 (dY 0) (b8 (dY 1) hG))) (el:=cP (ag (af 0) (ag (af 1) (ag (af 2) (ag (ca 3 tI (ag (e2 gp (af 4) (af 0)) (ag (e2 gp (af 4) (af 1)) (ag (af 3) av)))) av))))) (ρ:=[some M.w,some (.loc r),some (.loc S.length),some (.int ((s:Int)+1)),some (.loc ((S1++xv).length+2)),some (.loc (S1++xv++x3).length),some (.loc w),some (.loc S1.length)]) (st:=S4) (st1:=S4) (fun w=>d7 M rs (s+1) (tZ w,t5 w)) (fM kv (aM cp4)) (by rw[ai];have:=wY (M:=M) cY (s+1);show _<=1000000;omega) (aM cp4) fun v hv=>by
  obtain⟨p,hp,rfl⟩:=aJ.mp hv
  obtain⟨⟨ha,hb⟩,_⟩:=rY hp
  obtain⟨ww,h1,h2⟩:=Li hM hB cr4 (a:=p.1) (b:=p.2) hp
  refine⟨_,rfl,?_⟩
  rw[qH,qI]
  have er:d7 M rs (s+1) (p.1,p.2)=.tup [.int (p.1:Nat),.int (p.2:Nat),.int ((s:Int)+1),ww]:=by
   unfold d7 za
   rw[h1];rfl
  rw[er]
  exact d_ (al kv (al kv (al kv (al (bU (al (bd kv kv (kj (fN cv4) (iq hM.nd ha))) (al (bd kv kv (kj (fN cv4) (iq hM.nd hb))) kn)) h2 rfl) bb)))) (by show 4<=1000000;decide)
 rw[hrows]at ec
 have hol:=UU (M:=M) cY (s+1)
 have IU:=wY (M:=M) cY (s+1)
 have ee:=fw (jS (F:=gG) (eZ (i:=6) rfl) (dy cw4) (al ec bb) (wW (aG cw4) bE (by rw[ai];omega)))
 rw[hout]at ee
 obtain⟨z,hz⟩:=hX
 have hwS4:w<S4.length:=(ac.mp cw4).1
 refine⟨_,_,ee,⟨r,S.length,(S1++xv).length+2,(S1++xv++x3).length,w,_,B',rfl,?_,hw,hrw,hB1,fun k hk=>?_,?_,?_,?_,?_,?_⟩⟩
 ·refine⟨(z++[aj.lst ((fZ M rs (s+1)).map (d7 M rs (s+1)))]).set (w-st.length) (.lst (fK M rs (s+2))),?_⟩
  rw[hz,aV,gB _ _ hw]
 ·by_cases zk:k=s
  ·subst zk;exact hn
  ·exact hgo k (by omega)
 ·rw[aS (by omega)];exact aG cr4
 ·rw[aS hwq];exact aG cq4
 ·rw[aS hwb];exact aG cb4
 ·rw[aS hwp];exact aG cp4
 ·rw[ba (by rw[aB];omega)]
end
structure A3(M:Mc)(N:Nat)(rs:List Nat):Prop where
 up:rs.Pairwise (· < ·)
 zero:0∈rs
 lt:∀a∈rs,a<N
 cl:∀k,k<M.tb.length->∀a∈rs,∀b∈rs,a9 M k a b∈rs
 least:∀C:Nat->Prop,C 0->(∀k,k<M.tb.length->∀a b,C a->C b->C (a9 M k a b))->∀a∈rs,C a
theorem zh(h:rs.Pairwise (· < ·)):rs.Nodup:=h.imp fun z=>bf z
abbrev zI(l:List Nat):List Int:=l.map fun a=>((a:Nat):Int)
theorem Q9{l':List Nat}(h:zI l=zI l'):l=l':=by
 have:=dM (List.map Int.toNat) h
 simpa[zI,aX,eA]using this
theorem Aq{l':List Nat}(h:l.Pairwise (· < ·))(h':l'.Pairwise (· < ·))(hm:∀a,a∈l↔a∈l'):l=l':=by
 have hp:l.Perm l':=(List.perm_ext_iff_of_nodup (zh h) (zh h')).mpr hm
 have p1:(zI l).Pairwise (· <= ·):=iR.mpr (h.imp fun z=>by omega)
 have p2:(zI l').Pairwise (· <= ·):=iR.mpr (h'.imp fun z=>by omega)
 exact Q9 ((PySem.W.eq_sortI (hp.map _) p1).trans (PySem.W.eq_sortI (kC _) p2).symm)
theorem A3.one{M:Mc}{Vs:List Nat}(h:A3 M N rs)(h':A3 M N Vs):rs=Vs:=
 Aq h.up h'.up fun a=>⟨fun z=>h.least (· ∈ Vs) h'.zero (fun k hk a b=>fun x y=>h'.cl k hk a x b y) a z,fun z=>h'.least (· ∈ rs) h.zero (fun k hk a b=>fun x y=>h.cl k hk a x b y) a z⟩
theorem Nr(hn:l.Nodup):∃rs,sortI (zI l)=zI rs/\rs.Perm l/\rs.Pairwise (· < ·):=by
 have hp:=PySem.W.sortI_perm (zI l)
 have e:zI ((sortI (zI l)).map Int.toNat)=sortI (zI l):=by
  unfold zI
  rw[aX]
  conv=>rhs;rw[<- nY (sortI _)]
  refine br fun z hz=>?_
  obtain⟨a,_,rfl⟩:=aJ.mp (hp.mem_iff.mp hz)
  show((((a:Int)).toNat:Nat):Int)=(a:Int)
  omega
 have hq:((sortI (zI l)).map Int.toNat).Perm l:=by
  have:=hp.map Int.toNat
  rw[show(zI l).map Int.toNat=l by simp[zI,aX,eA]]at this
  exact this
 refine⟨(sortI (zI l)).map Int.toNat,e.symm,hq,?_⟩
 have h1:=PySem.W.sortI_rises (zI l)
 rw[<- e]at h1
 have h2:=iR.mp h1
 have h3:((sortI (zI l)).map Int.toNat).Nodup:=hq.nodup_iff.mpr hn
 exact(List.pairwise_and_iff.mpr ⟨h2,h3⟩).imp fun{a b} z=>by have:=z.1;have:=z.2;omega
theorem CO{l:List Nat}(h:st[n]?=some (.lst (dZ l)))(hl:l.length<64)(hs:sortI (zI l)=zI rs):pq [.loc n] st=.ok (.loc st.length) (st++[.lst (dZ rs)]):=by
 unfold pq
 simp only[aM h,cL]
 rw[show dZ l=(zI l).map W.int by unfold dZ zI;rw[aX];rfl,p5,cL,ar (by simpa[zI]using hl),hs]
 unfold zI dZ
 rw[aX];rfl
theorem UV{M:Mc}{E:List Ro}(t:lL (a9 M) M.tb.length N E)(cov:∀l r a,l<E.length->r<E.length->a<M.tb.length->K6 (a9 M) E [] l r a)(hp:rs.Perm (E.map Prod.fst))(hu:rs.Pairwise (· < ·)):A3 M N rs:=by
 have hm:∀a,a∈rs↔∃e∈E,e.1=a:=fun a=>by rw[hp.mem_iff,aJ]
 refine⟨hu,?_,fun a ha=>?_,fun k hk a ha b hb=>?_,fun C c0 cc a ha=>?_⟩
 ·obtain⟨r,e⟩:=t.zero
  exact(hm 0).mpr ⟨_,by rw[e];exact aQ,rfl⟩
 ·obtain⟨e,he,rfl⟩:=(hm a).mp ha
  exact t.lt e he
 ·obtain⟨e,he,rfl⟩:=(hm a).mp ha
  obtain⟨f,hf,rfl⟩:=(hm b).mp hb
  obtain⟨i,hi⟩:=bC he
  obtain⟨j,hj⟩:=bC hf
  rcases cov i j k (ac.mp hi).1 (ac.mp hj).1 hk e f hi hj with⟨m,g,hg,e1,_⟩|⟨p,hp,_⟩
  ·exact(hm _).mpr ⟨g,aA hg,e1⟩
  ·cases hp
 ·have key:∀(n i:Nat) (e:Ro),i<n->E[i]?=some e->C e.1:=by
   intro n
   induction n with
   |zero=>intro i e h;omega
   |succ n ih=>
    intro i e hi he
    rcases gk i with z|z
    ·subst z
     obtain⟨r,e0⟩:=t.zero
     rw[e0]at he;cases he;exact c0
    ·obtain⟨h1,h2,el,er,h3,h4,h5,h6,_⟩:=t.row i e he z
     rw[<- h6]
     exact cc _ h5 _ _ (ih _ el (by omega) h3) (ih _ er (by omega) h4)
  obtain⟨e,he,rfl⟩:=(hm a).mp ha
  obtain⟨i,hi⟩:=bC he
  exact key (i+1) i e (by omega) hi
theorem CP:∀{ws:List W},(∀w∈ws,w.und n=true)->undWs n ws=true
 |[],_=>rfl
 |w::ws,h=>by simp only[undWs,h w aQ,Bool.true_and];exact CP fun v hv=>h v (aD _ hv)
theorem Iz(M:Mc)(rs:List Nat)(s n:Nat)(p:Nat×Nat):(d7 M rs s p).und n=true:=by
 unfold d7 za
 cases hw:y_ (a9 M) M.tb.length (gM M) rs s p.1 p.2 with
 |none=>rfl
 |some w=>
  cases s with
  |zero=>
   have:(if ap (a9 M) M.tb.length (gM M) rs 0 p.1 p.2=true then some (W.tup [])else none)=some w:=hw
   split at this
   ·cases this;rfl
   ·cases this
  |succ s=>
   obtain⟨q,_,rfl⟩:=aU.mp (show(((kJ M.tb.length rs).find? fun q=>ap (a9 M) M.tb.length (gM M) rs s (led (a9 M) q p.1) (led (a9 M) q p.2)).map Et)=some w from hw)
   rfl
theorem Lk(M:Mc)(rs:List Nat)(k n:Nat):undWs n [.tup (fK M rs k)]=true:=by
 have:undWs n (fK M rs k)=true:=CP fun w hw=>by
  obtain⟨s,_,hw⟩:=fX.mp hw
  obtain⟨p,_,rfl⟩:=aJ.mp hw
  exact Iz M rs s n p
 show((W.tup (fK M rs k)).und n&&true)=true
 rw[bO];unfold W.und;exact this
def Xb:W->W
 |.tup (x::_)=>x
 |w=>w
theorem Eb{M:Mc}(hM:lx M N)(C1:1<=N)(hN:N<=50)(hsz:M.tb.length*(2*N)<=10000)(ht:st[1]?=some (.tab 82 ⟨67,29,67,52⟩ "firsts_of.<locals>.<lambda>")) :
  ∃rs n,A3 M N rs/\t6 M rs n/\Ci [M.w] st=.ok (.tup (fK M rs n)) st:=by
 obtain⟨E,R,t,hR,cov,ef⟩:=D_ hM C1 (by omega) ht
 obtain⟨rs,hsrt,hperm,Eu⟩:=Nr t.nd
 have uS:=UV t cov hperm Eu
 have hlE:=t.len
 have hll:rs.length=E.length:=by rw[hperm.length_eq,ai]
 have hRm:Rm M N rs:=⟨hM,uS.lt,zh Eu,by omega,aR (Nat.mul_le_mul_left _ (by omega)) hsz,uS.cl⟩
 suffices hh:gJ (rD fun w bG=>(∃x,bG=st++x)/\undWs st.length [w]=true/\∃n,t6 M rs n/\w=.tup (fK M rs n)) (MZ ([M.w].map some++List.replicate (8-1) none) st) by
  obtain⟨w,⟨n,h1,rfl⟩,e⟩:=kT hh
  exact⟨rs,n,uS,h1,e⟩
 have hRE:R.map Xb=dZ (E.map Prod.fst):=by
  refine iQ fun i=>?_
  rw[ak,ak,ak]
  cases he:E[i]? with
  |none=>
   rw[gy (by rw[hR.len];exact List.getElem?_eq_none_iff.mp he)];rfl
  |some e=>
   obtain⟨w,hw,ut⟩:=hR.at' i e he
   obtain⟨tt,rfl⟩:=ut.sh
   rw[hw];rfl
 have ec:=iG (cap:=[none]) (fi:=cF (ca 1 vI (ag (af 0) av))) (f:=dY 0) (el:=e2 bg (af 0) (eI 0)) (ρ:=[M.w].map some++List.replicate (8-1) none) (st:=st) (st1:=st) Xb (jU (bU kn ef rfl)) (by rw[hR.len];show _<=1000000;omega) trivial fun w hw=>by
  obtain⟨i,hi⟩:=bC hw
  have hiE:i<E.length:=by rw[<- hR.len];exact(ac.mp hi).1
  obtain⟨w',hw',ut⟩:=hR.at' i _ (aa hiE)
  rw[hi]at hw';cases hw'
  obtain⟨tt,rfl⟩:=ut.sh
  exact⟨_,rfl,bd kv cK ox⟩
 rw[hRE]at ec
 apply au
 ·exact bu (be (al ec bb) (CO (l:=E.map Prod.fst) bE (by rw[ai];omega) hsrt))
 have cr:(st++[.lst (dZ (E.map Prod.fst))]++[.lst (dZ rs)])[(st++[aj.lst (dZ (E.map Prod.fst))]).length]?=some (.lst (dZ rs)):=bE
 have hrlen:(st++[aj.lst (dZ (E.map Prod.fst))]).length=st.length+1:=by simp
 have LJ:(st++[.lst (dZ (E.map Prod.fst))]++[.lst (dZ rs)]:List aj)=st++[.lst (dZ (E.map Prod.fst)),.lst (dZ rs)]:=by simp
 rw[hrlen]at cr ⊢
 rw[LJ]at cr ⊢
 generalize hS0:(st++[.lst (dZ (E.map Prod.fst)),.lst (dZ rs)]:List aj)=S0 at cr
 have hl0:S0.length=st.length+2:=by rw[<- hS0];simp
 obtain⟨x1,hx1,ev1⟩:=A0 cr hRm.len
 apply au
 ·exact bu (bU kn ev1 rfl)
 have cq:(S0++x1)[S0.length]?=some (.lst ((dQ rs).map iY)):=by rw[bN];exact hx1
 have hq0:(dQ rs).filter (fun p=>jo M rs 0 p.1 p.2)=dQ rs:=List.filter_eq_self.mpr fun _ _=>rfl
 rw[<- hq0]at cq
 apply au
 ·exact bu cK
 obtain⟨B,x2,hB,hx2,ev2⟩:=Le hM (aG (x:=x1) cr) uS.lt (zh Eu) (by have:=hRm.len;omega)
 have hB0:Jm M rs 0 B:=US hB
 apply au
 ·exact bu (bU (al kv kn) ev2 rfl)
 have cb:(S0++x1++x2)[(S0++x1).length+2]?=some (.dct (pz B rs)):=by rw[dH];exact hx2
 have ev3:=vN (zh Eu) cb (aG (x:=x2) cq) (fun p hp=>mD (bP.mp hp).1) (wZ hRm.len 0)
 rw[zg hB0]at ev3
 apply au
 ·exact bu (bU (al kv kn) ev3 rfl)
 have cp:(S0++x1++x2++[.lst ((fZ M rs 0).map iY)])[(S0++x1++x2).length]?=some (.lst ((fZ M rs 0).map iY)):=bE
 have ew:d9 [none,none] (cF (af 5)) (ul 2 (b8 (dY 0) (b8 (dY 1) hG))) kI (cP (ag (af 0) (ag (af 1) (ag (eI 0) (ag (cP av) av))))) [some M.w,some (.loc (st.length+1)),some (.loc S0.length),some (.int 0),some (.loc ((S0++x1).length+2)),some (.loc (S0++x1++x2).length),none,none] (S0++x1++x2++[.lst ((fZ M rs 0).map iY)])
   = .ok (.loc (S0++x1++x2++[aj.lst ((fZ M rs 0).map iY)]).length) (S0++x1++x2++[.lst ((fZ M rs 0).map iY)]++[.lst (((fZ M rs 0).map iY).map fun w=>d7 M rs 0 (tZ w,t5 w))]):=by
  refine iG (fun w=>d7 M rs 0 (tZ w,t5 w)) (fM kv (aM cp)) (by rw[ai];have:=wY (M:=M) hRm.len 0;show _<=1000000;omega) (aM cp) fun v hv=>?_
  obtain⟨p,hp,rfl⟩:=aJ.mp hv
  obtain⟨_,_,hap⟩:=rY hp
  refine⟨_,rfl,?_⟩
  rw[qH,qI]
  have er:d7 M rs 0 (p.1,p.2)=.tup [.int (p.1:Nat),.int (p.2:Nat),.int 0,.tup []]:=by
   have hy:y_ (a9 M) M.tb.length (gM M) rs 0 p.1 p.2=some (.tup []):=ar hap
   unfold d7 za
   rw[hy];rfl
  rw[er]
  exact d_ (al kv (al kv (al cK (al (d_ bb (by show 0<=1000000;omega)) bb)))) (by show 4<=1000000;decide)
 have hrows:((fZ M rs 0).map iY).map (fun w=>d7 M rs 0 (tZ w,t5 w))=fK M rs 1:=by
  rw[aX]
  have:fK M rs 1=(fZ M rs 0).map (d7 M rs 0):=by unfold fK;rw[lP];rfl
  rw[this]
  refine br fun p hp=>?_
  show d7 M rs 0 (tZ (iY p),t5 (iY p))=_
  rw[qH,qI]
 rw[hrows]at ew
 apply au
 ·exact yY ew rfl
 refine lI (fun n ρ S=>∃s,n=Q6 (a9 M) M.tb.length (gM M) rs s/\Uw M rs st S ρ s) _ ⟨0,rfl,⟨st.length+1,S0.length,(S0++x1).length+2,(S0++x1++x2).length,(S0++x1++x2++[aj.lst ((fZ M rs 0).map iY)]).length,none,B,rfl,?_,?_,?_,hB0,fun k hk=>absurd hk (cO _),aG (aG (aG (aG cr))),aG (aG (aG cq)),aG (aG cb),aG cp,bE⟩⟩ ?_ ?_
 ·exact⟨_,by rw[<- hS0,aV,aV,aV,aV]⟩
 ·simp only[aB];omega
 ·simp only[aB];omega
 ·rintro n ρ S ⟨s,rfl,hU⟩
  have hT:=CN hU
  cases hnil:fZ M rs s with
  |nil=>rw[hnil]at hT;exact .inl hT
  |cons p l=>
   rw[hnil]at hT
   have jt:fZ M rs s≠[]:=by rw[hnil];simp
   obtain⟨ρ2,S2,e,hU2⟩:=Lj hRm hU jt
   exact .inr ⟨hT,ρ2,S2,e,_,UR jt,s+1,rfl,hU2⟩
 ·rintro n ρ S ⟨s,rfl,hU⟩ hf
  have hT:=CN hU
  have hnil:fZ M rs s=[]:=by
   have:(L2.R.ok (!(fZ M rs s).isEmpty) S:L2.R Bool)=.ok false S:=hT.symm.trans hf
   injection this with e1 e2
   simpa using e1
  obtain⟨r,q,b,p,w,o7,B,rfl,⟨x,rfl⟩,hw,hrw,hB,hgo,cr,cq,cb,cp,cw⟩:=hU.ex
  have eo:fK M rs (s+1)=fK M rs s:=by unfold fK;rw[lP];rw[show tV (a9 M) M.tb.length (gM M) rs s=[]from hnil];simp
  rw[eo]at cw
  refine⟨_,_,kR (be kn (gK (aM cw))),⟨x,rfl⟩,Lk M rs s _,s,⟨hgo,hnil⟩,rfl⟩
structure Pl where
 b:Nat
 m:List Nat
def Pl.w(p:Pl):W:=.tup [.int p.b,.str p.m]
def jz(t:List Pl):W:=.tup (t.map Pl.w)
inductive St(n:Nat):List Nat->Nat->List Nat->Nat->Option Nat×Option Nat->Prop
 |z {S:List Nat}:St n S 0 (1::S) 1 (none,none)
 |l {a:Nat} {S:List Nat}:St n (a::S) 1 ((1+a)::S) (1+a) (some (n-1),none)
 |r {a:Nat} {S:List Nat}:St n (a::S) 2 ((1+a)::S) (1+a) (none,some (n-1))
 |b {c a:Nat} {S:List Nat}:St n (c::a::S) 3 ((1+c+a)::S) (1+c+a) (some (n-1-c),some (n-1))
inductive Gr:List Pl->List Nat->List Nat->List (Option Nat×Option Nat)->Prop
 |nil:Gr [] [] [] []
 |snoc {ps:List Pl} {S S' sz:List Nat} {lk:List (Option Nat×Option Nat)} {b k:Nat} {m:List Nat} {x:Option Nat×Option Nat}:Gr ps S sz lk->St ps.length S b S' k x->Gr (ps++[⟨b,m⟩]) S' (sz++[k]) (lk++[x])
def At(sz:List Nat):List Nat->Nat->Prop
 |[],n=>n=0
 |a::S,n=>sz[n-1]?=some a/\a<=n/\1<=a/\At sz S (n-a)
theorem At.app{sz x:List Nat}:∀{S:List Nat} {n:Nat},n<=sz.length->At sz S n->At (sz++x) S n
 |[],_,_,h=>h
 |a::S,n,hn,⟨h1,h2,h3,h4⟩=>⟨by rw[aq (by omega)];exact h1,h2,h3,At.app (by omega) h4⟩
theorem St.at'{sz S':List Nat}{b k:Nat}{x:Option Nat×Option Nat}(h:St n S b S' k x)(hn:sz.length=n)(ha:At sz S n):At (sz++[k]) S' (n+1):=by
 have hk:(sz++[k])[n+1-1]?=some k:=by rw[fj,<- hn];simp
 cases h with
 |z=>exact⟨hk,by omega,by omega,by rw[fj];exact ha.app (by omega)⟩
 |@l a S=>exact⟨hk,by have:=ha.2.1;omega,by omega,by rw[show n+1-(1+a)=n-a by omega];exact ha.2.2.2.app (by omega)⟩
 |@r a S=>exact⟨hk,by have:=ha.2.1;omega,by omega,by rw[show n+1-(1+a)=n-a by omega];exact ha.2.2.2.app (by omega)⟩
 |@b c a S=>exact⟨hk,by have:=ha.2.1;have:=ha.2.2.2.2.1;omega,by omega,by rw[show n+1-(1+c+a)=n-c-a by omega];exact ha.2.2.2.2.2.2.app (by omega)⟩
theorem Gr.ok{ps:List Pl}{sz:List Nat}{lk:List (Option Nat×Option Nat)}(h:Gr ps S sz lk):sz.length=ps.length/\lk.length=ps.length/\At sz S ps.length:=by
 induction h with
 |nil=>exact⟨rfl,rfl,rfl⟩
 |snoc _ hs ih=>
  obtain⟨h1,h2,h3⟩:=ih
  exact⟨by simp[h1],by simp[h2],by rw[aB];exact hs.at' h1 h3⟩
theorem Gr.step{ps:List Pl}{sz:List Nat}{lk:List (Option Nat×Option Nat)}(h:Gr ps S sz lk):∀i,i<ps.length->∃S1 S2 p k x,Gr (ps.take i) S1 (sz.take i) (lk.take i)/\ps[i]?=some p/\sz[i]?=some k/\lk[i]?=some x/\St i S1 p.b S2 k x/\Gr (ps.take (i+1)) S2 (sz.take (i+1)) (lk.take (i+1)):=by
 induction h with
 |nil=>intro i hi;simp at hi
 |@snoc ps S S' sz lk b k m x hg hs ih=>
  intro i hi
  obtain⟨l1,l2,_⟩:=hg.ok
  by_cases e:i=ps.length
  ·subst e
   refine⟨S,S',⟨b,m⟩,k,x,?_,by simp,by rw[<- l1];simp,by rw[<- l2];simp,hs,?_⟩
   ·rw[kB,<- l1,kB]
    rw[l1,<- l2,kB];exact hg
   ·rw[bZ (by simp),bZ (by simp[l1]),bZ (by simp[l2])]
    exact .snoc hg hs
  ·have hi':i<ps.length:=by simp at hi;omega
   obtain⟨S1,S2,p,k1,x1,g1,q1,q2,q3,rH,g2⟩:=ih i hi'
   refine⟨S1,S2,p,k1,x1,?_,by rw[aq hi'];exact q1,by rw[aq (by omega)];exact q2,by rw[aq (by omega)];exact q3,rH,?_⟩
   ·rw[bI (by omega),bI (by omega),bI (by omega)];exact g1
   ·rw[bI (by omega),bI (by omega),bI (by omega)];exact g2
theorem Gr.cut{ps:List Pl}{sz:List Nat}{lk:List (Option Nat×Option Nat)}(h:Gr ps S sz lk)(hi:i<ps.length):∃(p:Pl) (L R:Nat),ps[i]?=some p/\sz[i]?=some (1+L+R)/\L+R<=i/\p.b<=3/\(0<L↔p.b%2=1)/\(0<R↔2<=p.b)/\(2<=p.b->1<=i/\sz[i-1]?=some R):=by
 obtain⟨S1,S2,p,k,x,g1,q1,q2,q3,hs,_⟩:=h.step i hi
 obtain⟨l1,l2,ha⟩:=g1.ok
 have cY:(ps.take i).length=i:=by rw[aZ];omega
 rw[cY]at ha
 obtain⟨b,m⟩:=p
 have get:∀j a,1<=i->j=i-1->(sz.take i)[j]?=some a->sz[j]?=some a:=fun j a hi1 hj e=>by
  rw[df (by omega)]at e;exact e
 cases hs with
 |z=>exact⟨⟨0,m⟩,0,0,q1,q2,by omega,by simp,by simp,by simp,by simp⟩
 |@l a S=>
  have ha1:(sz.take i)[i-1]?=some a:=ha.1
  have ha2:a<=i:=ha.2.1
  have ha3:1<=a:=ha.2.2.1
  exact⟨⟨1,m⟩,a,0,q1,q2,by omega,by simp,by simp;omega,by simp,by simp⟩
 |@r a S=>
  have ha1:(sz.take i)[i-1]?=some a:=ha.1
  have ha2:a<=i:=ha.2.1
  have ha3:1<=a:=ha.2.2.1
  exact⟨⟨2,m⟩,0,a,q1,by rw[q2],by omega,by simp,by simp,by simp;omega,fun _=>⟨by omega,get _ _ (by omega) rfl ha1⟩⟩
 |@b c a S=>
  have ha1:(sz.take i)[i-1]?=some c:=ha.1
  have ha2:c<=i:=ha.2.1
  have ha3:1<=c:=ha.2.2.1
  have hb2:a<=i-c:=ha.2.2.2.2.1
  have hb3:1<=a:=ha.2.2.2.2.2.1
  exact⟨⟨3,m⟩,a,c,q1,by rw[q2];congr 1<;>omega,by omega,by simp,by simp;omega,by simp;omega,fun _=>⟨by omega,get _ _ (by omega) rfl ha1⟩⟩
theorem UW{b:Nat}(h:b<=3)(st:List aj):sA false (.int b) (.tup [.int 1,.int 3]) st=.ok (.bl (decide (b%2=1))) st:=by
 obtain rfl|rfl|rfl|rfl:b=0\/b=1\/b=2\/b=3:=by omega
 all_goals rfl
theorem UX{b:Nat}(h:b<=3)(st:List aj):sA false (.int b) (.tup [.int 2,.int 3]) st=.ok (.bl (decide (2<=b))) st:=by
 obtain rfl|rfl|rfl|rfl:b=0\/b=1\/b=2\/b=3:=by omega
 all_goals rfl
theorem Ll{p:Pl}(h:p.b<=3)(st:List aj):yK [p.w] st=.ok (.bl (decide (p.b%2=1))) st:=by
 have:=UW h st
 have i0:bg p.w (.int 0) st=.ok (.int p.b) st:=rfl
 apply fx
 apply b9
 ·(walk_at "evs")
 ·exact⟨_,_,rfl,rfl,rfl⟩
theorem IA{p:Pl}(h:p.b<=3)(st:List aj):yL [p.w] st=.ok (.bl (decide (2<=p.b))) st:=by
 have:=UX h st
 have i0:bg p.w (.int 0) st=.ok (.int p.b) st:=rfl
 apply fx
 apply b9
 ·(walk_at "evs")
 ·exact⟨_,_,rfl,rfl,rfl⟩
def oW:Option Nat->W
 |none=>.non
 |some k=>.int k
def qJ(x:Option Nat×Option Nat):W:=.tup [oW x.1,oW x.2]
def m9:List Nat->Nat->List Nat
 |[],_=>[]
 |a::S,n=>(n-1)::m9 S (n-a)
theorem p9:∀(S:List Nat) (n:Nat),(m9 S n).length=S.length
 |[],_=>rfl
 |a::S,n=>by simp[m9,p9 S]
theorem At.le{sz:List Nat}:∀{S:List Nat} {n:Nat},At sz S n->S.length<=n
 |[],_,_=>cH _
 |a::S,n,⟨_,h2,h3,h4⟩=>by have:=At.le h4;simp;omega
theorem St.det{S1 S2:List Nat}{b k1 k2:Nat}{x1 x2:Option Nat×Option Nat}(h1:St n S b S1 k1 x1)(h2:St n S b S2 k2 x2):S1=S2/\k1=k2/\x1=x2:=by
 cases h1<;>cases h2<;>exact⟨rfl,rfl,rfl⟩
theorem Gr.det{ps:List Pl}{sz:List Nat}{lk:List (Option Nat×Option Nat)}(h:Gr ps S sz lk):∀{Vj:List Pl} {S' Vt:List Nat} {Vi:List (Option Nat×Option Nat)},Gr Vj S' Vt Vi->ps=Vj->S=S':=by
 induction h with
 |nil=>
  intro Vj S' Vt Vi h' e
  cases h' with
  |nil=>rfl
  |snoc _ _=>simp at e
 |snoc hg hs ih=>
  intro Vj S' Vt Vi h' e
  cases h' with
  |nil=>simp at e
  |snoc hg' hs'=>
   have e2:=List.append_inj' e rfl
   have:=ih hg' e2.1
   subst this
   have e3:Pl.mk _ _=Pl.mk _ _:=List.head_eq_of_cons_eq e2.2
   injection e3 with eb em
   subst eb
   rw[<- e2.1]at hs'
   exact(hs.det hs').1
def mE(l:List Nat):List W:=l.map fun k:Nat=>W.int k
section
variable{ps:List Pl}{sz:List Nat}{lk:List (Option Nat×Option Nat)}
theorem IB(h:Gr ps S sz lk)(hn:ps.length<=1000)(st:List aj):KU [jz ps] st=.ok (.tup (lk.map qJ)) st:=by
 obtain⟨l1,l2,_⟩:=h.ok
 have hu:∀(l:List (Option Nat×Option Nat)) (n:Nat),undWs n (l.map qJ)=true:=by
  intro l n
  induction l with
  |nil=>rfl
  |cons x r ih=>
   obtain⟨a,b⟩:=x
   simp only[aH,undWs,ih,bO,qJ,W.und]
   cases a<;>cases b<;>rfl
 refine ip (N:=7) (ws:=[jz ps]) (body:=UC) ?_ (by simp[undWs,W.und,hu])
 apply au
 ·(walk_at "evs")
 apply au
 ·(walk_at "evs")
 rw[show(st++[aj.lst []]).length=st.length+1 by simp,show st++[aj.lst []]++[aj.lst []]=st++[aj.lst [],aj.lst []] by simp]
 refine cR (fun i ρ bG=>∃(S1:List Nat) (o3 o4 o5 o6:Option W),ρ=[some (jz ps),some (.loc st.length),some (.loc (st.length+1)),o3,o4,o5,o6]/\bG=st++[.lst ((lk.take i).map qJ),.lst (mE (m9 S1 i).reverse)]/\Gr (ps.take i) S1 (sz.take i) (lk.take i)/\i<=ps.length) (k:=(i6 (ps.map Pl.w),none))
  (by show mq (ag (af 0) av) _ _=_;unfold mq;rfl) ⟨[],none,none,none,none,rfl,rfl,.nil,cH _⟩ (fun _ _ _ _=>trivial) ?_ ?_
 ·rintro i w ρ bG hw ⟨S1,o3,o4,o5,o6,rfl,rfl,hg,hi⟩
  obtain⟨y,hy,rfl⟩:=lD hw
  have hip:i<ps.length:=by have:=(ac.mp hy).1;simpa using this
  obtain⟨S1',S2,p,k,x,g1,q1,q2,q3,hs,g2⟩:=h.step i hip
  rw[ak,q1]at hy
  cases hy
  refine⟨_,rfl,?_⟩
  have hS:=hg.det g1 rfl
  subst hS
  obtain⟨lz,ll,ha⟩:=g1.ok
  have hti:(ps.take i).length=i:=by rw[aZ];omega
  rw[hti]at ha lz ll
  have hSl:=ha.le
  obtain⟨p',L,R,q1',q2',_,hb3,hL,hR,_⟩:=h.cut hip
  rw[q1]at q1';cases q1'
  have hlk:lk.take (i+1)=lk.take i++[x]:=by rw[iV,q3];rfl
  have hrt:=fun st=>IA (p:=p) hb3 st
  have hlf:=fun st=>Ll (p:=p) hb3 st
  have pop:∀(A:List W) (B:List Nat) (q:Nat),qw (.loc (st.length+1)) [] (st++[.lst A,.lst (mE (q::B).reverse)])=.ok (.int q) (st++[.lst A,.lst (mE B.reverse)]):=fun A B q=>by
   have hc:(st++[aj.lst A,.lst (mE (q::B).reverse)])[st.length+1]?=some (.lst (mE B.reverse++[.int q])):=by rw[dH];simp[mE]
   rw[Ge hc,gH];rfl
  have isl:∀(A:List W) (B:List W),oM (st++[.lst A,.lst B]) (.loc (st.length+1))=true:=fun A B=>dy (by rw[dH];rfl)
  have isl0:∀(A:List W) (B:List W),oM (st++[.lst A,.lst B]) (.loc st.length)=true:=fun A B=>dy (by rw[bN];rfl)
  have app:∀(A:List W) (B:List Nat) (q:Nat),B.length<1000->cM (.loc (st.length+1)) [.int q] (st++[.lst A,.lst (mE B.reverse)])=.ok .non (st++[.lst A,.lst (mE (q::B).reverse)]):=fun A B q hB=>by
   have hc:(st++[aj.lst A,.lst (mE B.reverse)])[st.length+1]?=some (.lst (mE B.reverse)):=by rw[dH];rfl
   rw[pY hc (by simp[mE];show _<1000000;omega),gH]
   simp[mE]
  have app0:∀(B:List W) (w:W),cM (.loc st.length) [w] (st++[.lst ((lk.take i).map qJ),.lst B])=.ok .non (st++[.lst ((lk.take i).map qJ++[w]),.lst B]):=fun B w=>by
   have hc:(st++[aj.lst ((lk.take i).map qJ),.lst B])[st.length]?=some (.lst ((lk.take i).map qJ)):=by rw[bN];rfl
   rw[pY hc (by simp;show _<1000000;omega),dO];rfl
  have fin:∀(o3 o4 o5 o6:Option W) (B:List Nat),B=m9 S2 (i+1)->Gg (fun ρ bG=>∃(S1:List Nat) (o3 o4 o5 o6:Option W),ρ=[some (jz ps),some (.loc st.length),some (.loc (st.length+1)),o3,o4,o5,o6]/\bG=st++[.lst ((lk.take (i+1)).map qJ),.lst (mE (m9 S1 (i+1)).reverse)]/\Gr (ps.take (i+1)) S1 (sz.take (i+1)) (lk.take (i+1))/\i+1<=ps.length)
    (.nx [some (jz ps),some (.loc st.length),some (.loc (st.length+1)),o3,o4,o5,o6] (st++[.lst ((lk.take i).map qJ++[qJ x]),.lst (mE B.reverse)])):=by
   rintro o3 o4 o5 o6 B rfl
   exact⟨_,_,rfl,S2,_,_,_,_,rfl,by rw[hlk];simp,g2,by omega⟩
  obtain⟨b,m⟩:=p
  have hiS:∀T:List Nat,T.length<=i->(m9 T i).length<1000:=fun T hT=>by rw[p9];omega
  cases hs with
  |@z=>
   have hr:yL [(Pl.mk 0 m).w]=fun st=>.ok (.bl false) st:=funext hrt
   have hl:yK [(Pl.mk 0 m).w]=fun st=>.ok (.bl false) st:=funext hlf
   have a1:=app ((lk.take i).map qJ) (m9 S1 i) i (hiS _ hSl)
   have a2:=app0 (mE (i::m9 S1 i).reverse) (.tup [.non,.non])
   apply au
   ·apply bu
    apply vG
    ·(repeat' (first|with_reducible exact js hr _|walk_at "ev1"))
    ·(walk_at "evs")
   apply au
   ·apply bu
    apply vG
    ·(repeat' (first|with_reducible exact js hl _|walk_at "ev1"))
    ·(walk_at "evs")
   apply au
   ·(repeat' (first|with_reducible exact isl _ _|walk_at "ev1"))
   apply dz
   ·(repeat' (first|with_reducible exact isl0 _ _|walk_at "ev1"))
   ·exact fin _ _ _ _ (i::m9 S1 i) rfl
  |@l a S=>
   have hr:yL [(Pl.mk 1 m).w]=fun st=>.ok (.bl false) st:=funext hrt
   have hl:yK [(Pl.mk 1 m).w]=fun st=>.ok (.bl true) st:=funext hlf
   have hSl':S.length<=i:=by simp at hSl;omega
   have p1:=pop ((lk.take i).map qJ) (m9 S (i-a)) (i-1)
   have a1:=app ((lk.take i).map qJ) (m9 S (i-a)) i (by rw[p9];omega)
   have a2:=app0 (mE (i::m9 S (i-a)).reverse) (.tup [.int (i-1:Nat),.non])
   apply au
   ·apply bu
    apply vG
    ·(repeat' (first|with_reducible exact js hr _|walk_at "ev1"))
    ·(walk_at "evs")
   apply au
   ·apply bu
    apply vF
    ·(repeat' (first|with_reducible exact js hl _|walk_at "ev1"))
    ·exact jS kv (isl _ _) bb p1
   apply au
   ·(repeat' (first|with_reducible exact isl _ _|walk_at "ev1"))
   apply dz
   ·(repeat' (first|with_reducible exact isl0 _ _|walk_at "ev1"))
   ·exact fin _ _ _ _ (i::m9 S (i-a)) (by simp only[m9];congr 1;congr 1;omega)
  |@r a S=>
   have hr:yL [(Pl.mk 2 m).w]=fun st=>.ok (.bl true) st:=funext hrt
   have hl:yK [(Pl.mk 2 m).w]=fun st=>.ok (.bl false) st:=funext fun st=>(hlf st).trans (by rw[show decide ((Pl.mk 2 m).b%2=1)=false from by simp])
   have hSl':S.length<=i:=by simp at hSl;omega
   have p1:=pop ((lk.take i).map qJ) (m9 S (i-a)) (i-1)
   have a1:=app ((lk.take i).map qJ) (m9 S (i-a)) i (by rw[p9];omega)
   have a2:=app0 (mE (i::m9 S (i-a)).reverse) (.tup [.non,.int (i-1:Nat)])
   apply au
   ·apply bu
    apply vF
    ·(repeat' (first|with_reducible exact js hr _|walk_at "ev1"))
    ·exact jS kv (isl _ _) bb p1
   apply au
   ·apply bu
    apply vG
    ·(repeat' (first|with_reducible exact js hl _|walk_at "ev1"))
    ·(walk_at "evs")
   apply au
   ·(repeat' (first|with_reducible exact isl _ _|walk_at "ev1"))
   apply dz
   ·(repeat' (first|with_reducible exact isl0 _ _|walk_at "ev1"))
   ·exact fin _ _ _ _ (i::m9 S (i-a)) (by simp only[m9];congr 1;congr 1;omega)
  |@b c a S=>
   have hr:yL [(Pl.mk 3 m).w]=fun st=>.ok (.bl true) st:=funext hrt
   have hl:yK [(Pl.mk 3 m).w]=fun st=>.ok (.bl true) st:=funext fun st=>(hlf st).trans (by rw[show decide ((Pl.mk 3 m).b%2=1)=true from by simp])
   have hSl':S.length<=i:=by simp at hSl;omega
   have hca:(i-c-1)=(i-1-c):=by omega
   have p1:=pop ((lk.take i).map qJ) ((i-1-c)::m9 S (i-c-a)) (i-1)
   have p2:=pop ((lk.take i).map qJ) (m9 S (i-c-a)) (i-1-c)
   have a1:=app ((lk.take i).map qJ) (m9 S (i-c-a)) i (by rw[p9];omega)
   have a2:=app0 (mE (i::m9 S (i-c-a)).reverse) (.tup [.int (i-1-c:Nat),.int (i-1:Nat)])
   have ht:m9 (c::a::S) i=(i-1)::(i-1-c)::m9 S (i-c-a):=by simp only[m9,hca]
   rw[ht]
   apply au
   ·apply bu
    apply vF
    ·(repeat' (first|with_reducible exact js hr _|walk_at "ev1"))
    ·exact jS kv (isl _ _) bb p1
   apply au
   ·apply bu
    apply vF
    ·(repeat' (first|with_reducible exact js hl _|walk_at "ev1"))
    ·exact jS kv (isl _ _) bb p2
   apply au
   ·(repeat' (first|with_reducible exact isl _ _|walk_at "ev1"))
   apply dz
   ·(repeat' (first|with_reducible exact isl0 _ _|walk_at "ev1"))
   ·exact fin _ _ _ _ (i::m9 S (i-c-a)) (by simp only[m9];congr 1;congr 1;omega)
 ·rintro ρ bG ⟨S1,o3,o4,o5,o6,rfl,rfl,hg,hi⟩
  have cY:(i6 (ps.map Pl.w)).length=ps.length:=by simp[i6]
  have hc:(st++[aj.lst ((lk.take (i6 (ps.map Pl.w),(none:Option (Nat×List W))).1.length).map qJ),.lst (mE (m9 S1 (i6 (ps.map Pl.w),(none:Option (Nat×List W))).1.length).reverse)])[st.length]?=some (.lst (lk.map qJ)):=by
   rw[bN]
   show some (aj.lst ((lk.take (i6 (ps.map Pl.w)).length).map qJ))=_
   rw[cY,bZ (by omega)]
  apply b9
  ·(repeat' (first|with_reducible exact gK (aM hc)|walk_at "ev1"))
  ·exact⟨_,_,rfl,rfl,_,rfl⟩
end
theorem Q_(t:List Pl)(n:Nat):(jz t).und n=true:=by
 unfold jz W.und
 induction t with
 |nil=>rfl
 |cons x r ih=>simp only[aH,undWs,ih,bO];simp[Pl.w,W.und,undWs]
theorem qK(a:List Pl)(st:List aj):cW [jz a] st=.ok (.int a.length) st:=by
 unfold jz
 rw[jx,ai]
theorem WM(p:Pl)(st:List aj):bg p.w (.int 1) st=.ok (.str p.m) st:=rfl
theorem IC{c:Nat}:sA false (.str [c]) (.str l) st=.ok (.bl (decide (c∈l))) st:=rfl
theorem CQ{st1:List aj}(h:fe ρ st=.ok (.str l) st1):cF fe ρ st=.ok (lf l,none) st1:=by unfold cF;rw[h];rfl
theorem zl{w:W}(h:(lf l)[i]?=some w):∃c,l[i]?=some c/\w=.str [c]:=by
 simp only[lf,ak,aU]at h
 obtain⟨c,h1,rfl⟩:=h
 exact⟨c,h1,rfl⟩
theorem vO(l:List Nat):(lf l).length=l.length:=by simp[lf]
theorem ou{l:List α}{c:α}(h:l[i]?=some c):l.take (i+1)=l.take i++[c]:=by
 rw[List.take_succ,h];rfl
def gc(m:List Nat)(l:List Nat):Nat:=l.foldl (fun a c=>2*a+if c∈m then 1 else 0) 0
theorem qL(m l:List Nat)(c:Nat):gc m (l++[c])=2*gc m l+if c∈m then 1 else 0:=by unfold gc;rw[gE];rfl
theorem w9(m:List Nat)(l:List Nat):gc m l<2^l.length:=by
 have key:∀(l:List Nat) (a k:Nat),a<2^k->l.foldl (fun a c=>2*a+if c∈m then 1 else 0) a<2^(k+l.length):=by
  intro l
  induction l with
  |nil=>intro a k h;simpa using h
  |cons c r ih=>
   intro a k h
   have:=ih (2*a+if c∈m then 1 else 0) (k+1) (by rw[Nat.pow_succ];split<;>omega)
   rw[List.foldl_cons,bv,show k+(r.length+1)=k+1+r.length by omega];exact this
 have:=key l 0 0 (by simp)
 simpa[gc]using this
theorem Ec(names m:List Nat)(st:List aj):KR [.str names,.str m] st=.ok (.int (gc m names:Nat)) st:=by
 refine ip (N:=4) (ws:=[.str names,.str m]) (body:=Um) ?_ rfl
 apply au
 ·(walk_at "evs")
 refine cR (fun i ρ s=>∃o3:Option W,ρ=[some (.str names),some (.str m),some (.int (gc m (names.take i):Nat)),o3]/\s=st) (CQ (st1:=st) kv) ⟨none,rfl,rfl⟩ (fun _ _ _ _=>trivial) ?_ ?_
 ·rintro i w ρ s hw ⟨o3,rfl,rfl⟩
  obtain⟨c,hc,rfl⟩:=zl hw
  refine⟨_,rfl,?_⟩
  have e:=qL m (names.take i) c
  rw[<- ou hc]at e
  apply au
  ·exact bu (bd kv cK (nQ (.inr (by decide))))
  by_cases h:c∈m
  ·have t1:decide (c∈m)=true:=aK h
   rw[ar h]at e
   apply lH
   ·exact bQ (bd kv kv (by rw[IC,t1]))
   apply dz
   ·exact bu (bd kv cK e7)
   ·exact⟨_,_,rfl,_,by rw[e,ig,gu,mS];rfl,rfl⟩
  ·have t1:decide (c∈m)=false:=aN h
   rw[az h]at e
   apply iB
   ·exact bQ (bd kv kv (by rw[IC,t1]))
   apply dz
   ·exact AG
   ·exact⟨_,_,rfl,_,by rw[e,ig,gu,mS];rfl,rfl⟩
 ·rintro ρ s ⟨o3,rfl,rfl⟩
  apply b9
  ·(walk_at "evs")
  ·exact⟨_,_,rfl,by rw[show(lf names,(none:Option (Nat×List W))).fst.length=names.length from vO names,bX],[],by simp⟩
theorem A4(names m:List Nat)(st:List aj):Cm [.str names,.str m] st=.ok (.int (gc m names:Nat)) st:=by
 refine ip (N:=4) (ws:=[.str names,.str m]) (body:=M7) ?_ rfl
 apply au
 ·(walk_at "evs")
 refine cR (fun i ρ s=>∃o3:Option W,ρ=[some (.str names),some (.str m),some (.int (gc m (names.take i):Nat)),o3]/\s=st) (CQ (st1:=st) kv) ⟨none,rfl,rfl⟩ (fun _ _ _ _=>trivial) ?_ ?_
 ·rintro i w ρ s hw ⟨o3,rfl,rfl⟩
  obtain⟨c,hc,rfl⟩:=zl hw
  refine⟨_,rfl,?_⟩
  have e:=qL m (names.take i) c
  rw[<- ou hc]at e
  have bi:yc [.bl (decide (c∈m))] s=.ok (.int ((if c∈m then 1 else 0:Nat):Int)) s:=by
   by_cases h:c∈m
   ·rw[aK h,ar h];rfl
   ·rw[aN h,az h];rfl
  apply dz
  ·exact bu (bd (bd cK kv (nQ (.inl (by decide)))) (be (al (bd kv kv IC) bb) bi) e7)
  ·exact⟨_,_,rfl,_,by rw[e,ig,gu];rfl,rfl⟩
 ·rintro ρ s ⟨o3,rfl,rfl⟩
  apply b9
  ·(walk_at "evs")
  ·exact⟨_,_,rfl,by rw[show(lf names,(none:Option (Nat×List W))).fst.length=names.length from vO names,bX],[],by simp⟩
def CS(r:List Nat):Option Nat->Nat
 |none=>0
 |some k=>r.getD k 0
def Jn(M:Mc)(r:List Nat)(m:List Nat)(x:Option Nat×Option Nat):Nat:=((M.tb.getD (gc m M.nm) []).getD (CS r x.1) []).getD (CS r x.2) 0
def Ra(M:Mc):List Pl->List (Option Nat×Option Nat)->List Nat->List Nat
 |p::ps,x::xs,r=>Ra M ps xs (r++[Jn M r p.m x])
 |_,_,r=>r
def Rb(n:Nat)(x:Option Nat×Option Nat):Prop:=(∀k,x.1=some k->k<n)/\∀k,x.2=some k->k<n
theorem zm(r:List Nat)(o:Option Nat)(p:Nat)(st:List aj)(hc:st[p]?=some (.lst (nW r)))(ho:∀k,o=some k->k<r.length):yN [.loc p,oW o] st=.ok (.int (CS r o:Nat)) st:=by
 cases o with
 |none=>
  apply fx
  apply b9
  ·exact vF (bQ (Cf kv rfl)) cK
  ·exact⟨_,_,rfl,rfl,rfl⟩
 |some k=>
  have hk:=ho k rfl
  have e:r[k]?=some (r.getD k 0):=by rw[ay,aa hk];rfl
  apply fx
  apply b9
  ·exact vG (bQ (Cf kv rfl)) (bd kv kv (yX hc e))
  ·exact⟨_,_,rfl,rfl,rfl⟩
theorem Gr.lk{ps:List Pl}{sz:List Nat}{lk:List (Option Nat×Option Nat)}(h:Gr ps S sz lk){x:Option Nat×Option Nat}(hx:lk[i]?=some x):Rb i x:=by
 obtain⟨_,l2,_⟩:=h.ok
 have hi:i<ps.length:=by have:=(ac.mp hx).1;omega
 obtain⟨S1,S2,p,k,x',g1,q1,q2,q3,hs,g2⟩:=h.step i hi
 rw[hx]at q3;cases q3
 obtain⟨_,_,ha⟩:=g1.ok
 rw[show(ps.take i).length=i by rw[aZ];omega]at ha
 obtain⟨b,m⟩:=p
 cases hs with
 |z=>exact⟨fun k e=>by simp at e,fun k e=>by simp at e⟩
 |@l a S=>have:=ha.2.1;have:=ha.2.2.1;exact⟨fun k e=>by simp at e;omega,fun k e=>by simp at e⟩
 |@r a S=>have:=ha.2.1;have:=ha.2.2.1;exact⟨fun k e=>by simp at e,fun k e=>by simp at e;omega⟩
 |@b c a S=>have:=ha.2.1;have:=ha.2.2.1;exact⟨fun k e=>by simp at e;omega,fun k e=>by simp at e;omega⟩
theorem t7(M:Mc)(p:Pl)(x:Option Nat×Option Nat):∀(ps:List Pl) (lk:List (Option Nat×Option Nat)) (r:List Nat),ps.length=lk.length->Ra M (ps++[p]) (lk++[x]) r=Ra M ps lk r++[Jn M (Ra M ps lk r) p.m x]
 |[],[],r,_=>rfl
 |q::ps,y::lk,r,h=>by
  show Ra M (ps++[p]) (lk++[x]) _=_
  rw[t7 M p x ps lk _ (by simpa using h)];rfl
 |[],_::_,_,h=>by simp at h
 |_::_,[],_,h=>by simp at h
def iC(M:Mc)(ps:List Pl)(lk:List (Option Nat×Option Nat)):List Nat:=Ra M ps lk []
theorem ID{r:List Nat}{o:Option Nat}(hn:1<=n)(hr:∀k∈r,k<n)(ho:∀k,o=some k->k<r.length):CS r o<n:=by
 cases o with
 |none=>exact hn
 |some k=>
  have hk:=ho k rfl
  have e:r[k]?=some (r.getD k 0):=by rw[ay,aa hk];rfl
  exact hr _ (aA e)
theorem IE{M:Mc}{r:List Nat}{m:List Nat}{x:Option Nat×Option Nat}(hM:lx M n)(hn:1<=n)(hr:∀k∈r,k<n)(hx:Rb r.length x) :
  ∃t q,M.tb[gc m M.nm]?=some t/\t[CS r x.1]?=some q/\q[CS r x.2]?=some (Jn M r m x)/\Jn M r m x<n:=by
 have h1:gc m M.nm<M.tb.length:=by rw[hM.tb];exact w9 m M.nm
 have e1:M.tb[gc m M.nm]?=some (M.tb.getD (gc m M.nm) []):=by rw[ay,aa h1];rfl
 obtain⟨t1,t2⟩:=hM.t _ (aA e1)
 have h2:CS r x.1<(M.tb.getD (gc m M.nm) []).length:=by rw[t1];exact ID hn hr hx.1
 have e2:(M.tb.getD (gc m M.nm) [])[CS r x.1]?=some ((M.tb.getD (gc m M.nm) []).getD (CS r x.1) []):=by rw[ay (l:=M.tb.getD (gc m M.nm) []),aa h2];rfl
 obtain⟨t3,t4⟩:=t2 _ (aA e2)
 have h3:CS r x.2<((M.tb.getD (gc m M.nm) []).getD (CS r x.1) []).length:=by rw[t3];exact ID hn hr hx.2
 have e3:((M.tb.getD (gc m M.nm) []).getD (CS r x.1) [])[CS r x.2]?=some (Jn M r m x):=by unfold Jn;rw[ay (l:=(M.tb.getD (gc m M.nm) []).getD (CS r x.1) []),aa h3];rfl
 exact⟨_,_,e1,e2,e3,t4 _ (aA e3)⟩
theorem t8{M:Mc}{k:Nat}(h:M.tb[k]?=some t)(st:List aj):bg (.tup (M.tb.map fY)) (.int k) st=.ok (fY t) st:=gI (dm (by rw[ak,h];rfl))
theorem UY{M:Mc}{r:List Nat}{m:List Nat}{x:Option Nat×Option Nat}{p:Nat}(hM:lx M n)(hn:1<=n)(hr:∀k∈r,k<n)(hx:Rb r.length x)(st:List aj)(hc:st[p]?=some (.lst (nW r))) :
  Cj [M.w,.str m,qJ x,.loc p] st=.ok (.int (Jn M r m x:Nat)) st:=by
 obtain⟨t,q,e1,e2,e3,_⟩:=IE (m:=m) hM hn hr hx
 have g0:bg M.w (.int 0) st=.ok (.str M.nm) st:=rfl
 have g2:bg M.w (.int 2) st=.ok (.tup (M.tb.map fY)) st:=rfl
 have x0:bg (qJ x) (.int 0) st=.ok (oW x.1) st:=rfl
 have x1:bg (qJ x) (.int 1) st=.ok (oW x.2) st:=rfl
 have lt:=Ec M.nm m st
 have b1:=zm r x.1 p st hc hx.1
 have b2:=zm r x.2 p st hc hx.2
 apply fx
 apply au
 ·exact bu (bd (bd kv cK g2) (bU (al (bd kv cK g0) kn) lt rfl) (t8 e1 st))
 apply b9
 ·exact bd (bd kv (bU (al kv (al (bd kv cK x0) bb)) b1 rfl) (HS e2)) (bU (al kv (al (bd kv cK x1) bb)) b2 rfl) (HR e3)
 ·exact⟨_,_,rfl,rfl,rfl⟩
section
variable{ps:List Pl}{sz:List Nat}{lk:List (Option Nat×Option Nat)}{M:Mc}
theorem t9(h:Gr ps S sz lk){p:Pl}{x:Option Nat×Option Nat}(hp:ps[i]?=some p)(hx:lk[i]?=some x):iC M (ps.take (i+1)) (lk.take (i+1))=iC M (ps.take i) (lk.take i)++[Jn M (iC M (ps.take i) (lk.take i)) p.m x]:=by
 obtain⟨_,l2,_⟩:=h.ok
 unfold iC
 rw[ou hp,ou hx,t7 M p x _ _ _ (by rw[aZ,aZ,l2])]
theorem t_(h:Gr ps S sz lk)(hM:lx M n)(hn:1<=n):∀i,i<=ps.length->(iC M (ps.take i) (lk.take i)).length=i/\∀k∈iC M (ps.take i) (lk.take i),k<n:=by
 obtain⟨_,l2,_⟩:=h.ok
 intro i
 induction i with
 |zero=>intro _;exact⟨rfl,by simp[iC,Ra]⟩
 |succ i ih=>
  intro hi
  obtain⟨h1,h2⟩:=ih (by omega)
  obtain⟨p,hp⟩:∃p,ps[i]?=some p:=⟨_,aa (by omega)⟩
  obtain⟨x,hx⟩:∃x,lk[i]?=some x:=⟨_,aa (by omega)⟩
  obtain⟨_,_,_,_,_,e⟩:=IE (m:=p.m) hM hn h2 (by rw[h1];exact h.lk hx)
  rw[t9 h hp hx]
  refine⟨by simp[h1],fun k hk=>?_⟩
  rcases aI.mp hk with z|z
  ·exact h2 k z
  ·simp at z;subst z;exact e
theorem Lm{a b:List W}{w:W}(h:(pj a b)[i]?=some w):∃x y,a[i]?=some x/\b[i]?=some y/\w=.tup [x,y]:=sM h
theorem UZ{fs:FA}{st1:List aj}{xs ys:List W}(h:fs ρ st=.ok [.tup xs,.tup ys] st1):wg fs ρ st=.ok (pj xs ys,none) st1:=by unfold wg;rw[h];rfl
theorem zn(h:Gr ps S sz lk)(hl:ps.length<=900)(hM:lx M n)(hn:1<=n)(st:List aj):yO [M.w,jz ps] st=.ok (jy (iC M ps lk)) st:=by
 obtain⟨_,l2,_⟩:=h.ok
 have lo:=IB h (by omega) (st++[aj.lst []])
 refine ip (N:=5) (ws:=[M.w,jz ps]) (body:=M4) ?_ (by simp only[undWs,bO];exact CB _ _)
 apply au
 ·(walk_at "evs")
 refine cR (fun i ρ s=>∃(o3 o4:Option W),ρ=[some M.w,some (jz ps),some (.loc st.length),o3,o4]/\st <+: s/\s[st.length]?=some (.lst (nW (iC M (ps.take i) (lk.take i))))/\i<=ps.length) (k:=(pj (ps.map Pl.w) (lk.map qJ),none))
  (UZ (st1:=st++[aj.lst []]) (al kv (al (bU kn lo rfl) bb))) ⟨none,none,rfl,ax _ _,bE,cH _⟩ (fun _ _ _ _=>trivial) ?_ ?_
 ·rintro i w ρ s hw ⟨o3,o4,rfl,hp,hc,hi⟩
  obtain⟨a,b,ha,hb,rfl⟩:=Lm hw
  have hip:i<ps.length:=by have:=(ac.mp ha).1;simpa using this
  obtain⟨p,hpp⟩:∃p,ps[i]?=some p:=⟨_,aa hip⟩
  obtain⟨x,hx⟩:∃x,lk[i]?=some x:=⟨_,aa (by omega)⟩
  rw[ak,hpp]at ha;cases ha
  rw[ak,hx]at hb;cases hb
  refine⟨_,rfl,?_⟩
  obtain⟨r1,r2⟩:=t_ (M:=M) h hM hn i hi
  have ra:=UY (m:=p.m) hM hn r2 (by rw[r1];exact h.lk hx) s hc
  have ap:=nS (y:=.int (Jn M (iC M (ps.take i) (lk.take i)) p.m x:Nat)) hc (by simp[nW];omega)
  apply dz
  ·exact fw (jS kv (dy hc) (al (bU (al kv (al (bd kv cK (WM p s)) (al kv kn))) ra rfl) bb) ap)
  ·refine⟨_,_,rfl,_,_,rfl,iH hp (aw _),?_,by omega⟩
   rw[ki hc,t9 h hpp hx];simp[nW]
 ·rintro ρ s ⟨o3,o4,rfl,⟨x,rfl⟩,hc,hi⟩
  rw[show(pj (ps.map Pl.w) (lk.map qJ),(none:Option (Nat×List W))).fst.length=ps.length by rw[sN];simp[l2],bX,show ps.length=lk.length by omega,bX]at hc
  apply b9
  ·exact be kn (gK (aM hc))
  ·exact⟨_,_,rfl,rfl,x,rfl⟩
end
theorem vP(b:Bool)(k:Nat)(st:List aj):tL (k+1) [.bl b,.bl b] st=.ok (.bl true) st:=by
 have hb:lw (.bl b) (.bl b) st=.ok (.bl true) st:=T' (by simp)
 refine ip (N:=3) (ws:=[.bl b,.bl b]) (body:=M_ (tL k)) ?_ rfl
 apply cf
 ·(walk_at "evs")
 apply cX
 apply cf
 ·(walk_at "evs")
 apply cX
 apply fQ
 ·(walk_at "evs")
 apply f7
 ·apply wD
  ·(walk_at "evs")
  ·(walk_at "evs")
 ·exact⟨_,_,rfl,rfl,[],by simp⟩
section
variable{ps:List Pl}{sz:List Nat}{lk:List (Option Nat×Option Nat)}{M:Mc}
theorem oz(h:Gr ps S sz lk)(hM:lx M n)(hn:1<=n):(iC M ps lk).length=ps.length/\∀k∈iC M ps lk,k<n:=by
 obtain⟨_,l2,_⟩:=h.ok
 have:=t_ (M:=M) h hM hn ps.length (aw _)
 rw[bX,show ps.length=lk.length by omega,bX]at this
 exact⟨by rw[this.1];omega,this.2⟩
def A5(M:Mc)(ps:List Pl)(lk:List (Option Nat×Option Nat)):Nat:=(iC M ps lk).getD (ps.length-1) 0
def U0(M:Mc)(ps:List Pl)(lk:List (Option Nat×Option Nat)):Bool:=M.gd.getD (if 0<ps.length then A5 M ps lk else 0) false
theorem CU(h:Gr ps S sz lk)(hM:lx M n)(hn:1<=n)(h0:0<ps.length)(st:List aj):bg (jy (iC M ps lk)) (.int (-1)) st=.ok (.int (A5 M ps lk:Nat)) st:=by
 have hl:=(oz (M:=M) h hM hn).1
 refine gI ?_
 rw[show(-1:Int)=-((0:Nat)+1:Int) by rfl]
 refine wF ?_
 rw[nr (by rw[ai];omega),ai,ak,hl,show ps.length-1-0=ps.length-1 by omega,aa (by omega)]
 show some (W.int _)=some (W.int _)
 unfold A5
 rw[ay,aa (by omega)];rfl
theorem Nt(hM:lx M n){k:Nat}(hk:k<n)(st:List aj):bg (.tup (M.gd.map W.bl)) (.int k) st=.ok (.bl (M.gd.getD k false)) st:=
 gI (dm (by rw[ak,aa (by rw[hM.gd];exact hk),ay,aa (by rw[hM.gd];exact hk)];rfl))
theorem Rc(h:Gr ps S sz lk)(hM:lx M n)(hn:1<=n):(if 0<ps.length then A5 M ps lk else 0)<n:=by
 split
 ·rename_i h0
  obtain⟨hl,hr⟩:=oz (M:=M) h hM hn
  unfold A5
  rw[ay,aa (by omega)]
  exact hr _ (fV _)
 ·exact hn
theorem CV(h:Gr ps S sz lk)(hl:ps.length<=900)(hM:lx M n)(hn:1<=n)(st:List aj):tJ [M.w,jz ps] st=.ok (.bl (U0 M ps lk)) st:=by
 have g1:bg M.w (.int 1) st=.ok (.tup (M.gd.map W.bl)) st:=rfl
 have ro:=zn h hl hM hn st
 have ln:=qK ps st
 have e:Ck [M.w,jz ps] st=.ok (.int ((if 0<ps.length then A5 M ps lk else 0:Nat):Int)) st:=by
  by_cases h0:0<ps.length
  ·have d:decide ((0:Int)<(ps.length:Int))=true:=aK (by omega)
   rw[ar h0]
   apply fx
   apply b9
   ·exact vF (bQ (bd (be kn ln) cK (hV d))) (bd (bU (al kv kn) ro rfl) (yy cK) (CU h hM hn h0 st))
   ·exact⟨_,_,rfl,rfl,rfl⟩
  ·have d:decide ((0:Int)<(ps.length:Int))=false:=aN (by omega)
   rw[az h0]
   apply fx
   apply b9
   ·exact vG (bQ (bd (be kn ln) cK (hV d))) cK
   ·exact⟨_,_,rfl,rfl,rfl⟩
 apply fx
 apply b9
 ·exact bd (bd kv cK g1) (bU (al kv kn) e rfl) (Nt hM (Rc h hM hn) st)
 ·exact⟨_,_,rfl,rfl,rfl⟩
end
def uP(n a k:Nat):Bool:=decide (a/2^(n-1-k)%2=1)
def uo(nm:List Nat)(a:Nat):List Nat:=((List.range nm.length).filter (uP nm.length a)).map fun k=>nm.getD k 0
def VT(nm:List Nat)(a i:Nat):List Nat:=((List.range' (nm.length-i) i).filter (uP nm.length a)).map fun k=>nm.getD k 0
theorem Ln(m:Nat):Builtin.bitAnd (m:Int) 1=((m%2:Nat):Int):=by
 unfold Builtin.bitAnd
 rw[aK (by omega),aK (by omega)]
 show((((m:Int).toNat &&& 1:Nat)):Int)=_
 rw[bB,Nat.and_one_is_mod]
theorem Lo:BJ (.int (m:Nat)) (.int 1) st=.ok (.int ((m%2:Nat):Int)) st:=by
 rw[<- Ln];exact jT trivial
theorem Re{a c:Nat}:DE (.int (a:Nat)) (.int (c:Nat)) st=.ok (.int ((a/2^c:Nat):Int)) st:=by
 have:=jT (C:=fun(_ j:Int)=>0<=j) (f:=fun i j=>i/2^j.toNat) (p:=(a:Int)) (q:=(c:Int)) (st:=st) (by omega)
 rw[show DE (.int (a:Nat)) (.int (c:Nat)) st=_ from this,bB]
 simp
theorem Lp(nm:List Nat)(a:Nat):VT nm a nm.length=uo nm a:=by
 unfold VT uo;rw[ql,List.range_eq_range']
theorem Lq(nm:List Nat)(a i:Nat):(VT nm a i).length<=i:=by
 unfold VT
 rw[ai]
 exact aR (dN _ _) (by simp)
theorem Lr(nm:List Nat)(a:Nat):(uo nm a).length<=nm.length:=by rw[<- Lp];exact Lq nm a _
theorem pA{l:List α}{x:α}(h:l[i]?=some x):l.take (i+1)=l.take i++[x]:=by
 rw[iV,h];rfl
section
variable{nm:List Nat}{a:Nat}
theorem Ls(hd:nm.Nodup){k c:Nat}(hk:nm[k]?=some c):c∈uo nm a↔uP nm.length a k=true:=by
 have hl:=(ac.mp hk).1
 unfold uo
 constructor
 ·intro h
  obtain⟨j,hj,e⟩:=aJ.mp h
  obtain⟨h1,h2⟩:=bP.mp hj
  have h1:=bx.mp h1
  have ej:nm[j]?=some c:=by rw[ay,aa h1]at e;rw[aa h1];exact dM some e
  have:j=k:=by
   obtain⟨q1,e1⟩:=ac.mp ej
   obtain⟨q2,e2⟩:=ac.mp hk
   rcases iW j k with z|z|z
   ·exact(kL.mp hd j k q1 q2 z (e1.trans e2.symm)).elim
   ·exact z
   ·exact(kL.mp hd k j q2 q1 z (e2.trans e1.symm)).elim
  rw[<- this];exact h2
 ·intro h
  exact aJ.mpr ⟨k,bP.mpr ⟨bx.mpr hl,h⟩,by rw[ay,hk];rfl⟩
theorem vQ(hd:nm.Nodup)(ha:a<2^nm.length):∀j,j<=nm.length->gc (uo nm a) (nm.take j)=a/2^(nm.length-j)
 |0,_=>by
  rw[Nat.sub_zero,ma ha];rfl
 |j+1,h=>by
  have hj:nm[j]?=some nm[j]:=aa (by omega)
  rw[pA hj,qL,vQ hd ha j (by omega)]
  have e:2^(nm.length-j)=2^(nm.length-(j+1))*2:=by rw[<- Nat.pow_succ];congr 1;omega
  rw[e,<- Nat.div_div_eq_div_mul]
  have hm:=Ls (a:=a) hd hj
  unfold uP at hm
  rw[show nm.length-1-j=nm.length-(j+1) by omega,bt]at hm
  generalize a/2^(nm.length-(j+1))=q at hm ⊢
  by_cases z:nm[j]∈uo nm a
  ·rw[ar z];have:=hm.mp z;omega
  ·rw[az z];have:¬ q%2=1:=fun y=>z (hm.mpr y);omega
theorem zo(hd:nm.Nodup)(ha:a<2^nm.length):gc (uo nm a) nm=a:=by
 have:=vQ hd ha nm.length (aw _)
 rw[bX,ql,Nat.pow_zero,Nat.div_one]at this
 exact this
end
theorem Ed(l:List Nat):(l.map fun c=>[c]).flatten=l:=by
 induction l with
 |nil=>rfl
 |cons x l ih=>simp only[aH,kZ,ih,List.singleton_append]
theorem Lu{n:Nat}{s1:List aj}(h:fe ρ st=.ok (.loc n) s1)(hc:s1[n]?=some (.lst ((l.map fun c=>[c]).map W.str)))(hl:l.length<=1000):L4 oN (eC (.str [])) (ag fe av) ρ st=.ok (.str l) s1:=by
 refine PZ cK rfl (al h bb) ?_
 have:=Gf (sep:=[]) (aM hc) (by rw[tM];simp;show _<=1000000;omega)
 rw[this,n9,Ed]
theorem IF{nm:List Nat}{a:Nat}(h1:ρ[i]?=some (some (.str nm)))(h2:ρ[j]?=some (some (.int (a:Nat))))(hn:nm.length<=60) :
  ∃x,L4 oN (eC (.str [])) (ag (d9 [none,some i,some j] (bJ (ag (bc cW (ag (af i) av)) av)) (dY 0) (fq (e2 lw (e2 BJ (e2 DE (af 2) (e2 qu (e2 qu (bc cW (ag (af 1) av)) (eI 1)) (af 0))) (eI 1)) (eI 1))) (e2 bg (af 1) (af 0))) av) ρ st=.ok (.str (uo nm a)) (st++[x]):=by
 have hL:nm.length<=ji:=by show _<=1000000;omega
 refine⟨_,Lu (n:=st.length) (s1:=st++[.lst (((cB 0 (nm.length:Int).toNat).filter (fun w=>match w with|.int z=>uP nm.length a z.toNat|_=>false)).map (fun w=>match w with|.int z=>.str [nm.getD z.toNat 0]|_=>.non))]) ?_ ?_ (by have:=Lr nm a;omega)⟩
 ·refine tw _ _ (fD (al (be (al (eZ h1) bb) (tu hL)) bb) (by omega)) (by simp[cB];show _<=1000000;omega) trivial ?_
  intro w hw
  unfold cB at hw
  obtain⟨k,hk,rfl⟩:=aJ.mp hw
  have hk:k<nm.length:=by simpa using hk
  have ec:pi [none,some i,some j] ρ=[none,some (.str nm),some (.int (a:Nat))]:=by simp[pi,h1,h2]
  rw[ec]
  refine⟨[some (.int (0+(k:Int))),some (.str nm),some (.int (a:Nat))],rfl,?_,fun _=>?_⟩
  ·have e1:(nm.length:Int)-1-(0+(k:Int))=((nm.length-1-k:Nat):Int):=by omega
   refine bQ (bd (bd (bd kv (bd (bd (be kn (tu hL)) cK rfl) kv rfl) ?_) cK (Lo (m:=a/2^(nm.length-1-k)))) cK (i7 ?_))
   ·show DE _ (.int ((nm.length:Int)-1-(0+(k:Int)))) _=_
    rw[e1];exact Re
   ·show _=uP nm.length a (0+(k:Int)).toNat
    rw[show(0+(k:Int)).toNat=k by omega]
    unfold uP
    rw[cD,cZ,bt]
    omega
  ·refine bd kv kv ?_
   rw[iS]
   exact Gd hL (dm (by rw[ay,bB,aa hk];rfl))
 ·rw[bN]
  show some _=some _
  congr 2
  unfold cB uo
  rw[bB,jH,aX,aX,aX]
  have ef:(fun w:W=>match w with|.int z=>uP nm.length a z.toNat|_=>false)∘(fun i:Nat=>W.int (0+(i:Int)))=uP nm.length a:=by
   funext k
   show uP nm.length a (0+(k:Int)).toNat=_
   rw[show(0+(k:Int)).toNat=k by omega]
  rw[ef]
  refine br fun k _=>?_
  show W.str [nm.getD (0+(k:Int)).toNat 0]=W.str [nm.getD k 0]
  rw[show(0+(k:Int)).toNat=k by omega]
theorem zp(nm:List Nat)(a:Nat)(hn:nm.length<=60)(st:List aj):tK [.str nm,.int (a:Nat)] st=.ok (.str (uo nm a)) st:=by
 refine ip (N:=2) (ws:=[.str nm,.int (a:Nat)]) (body:=M5) ?_ rfl
 obtain⟨x,e⟩:=IF (ρ:=[some (.str nm),some (.int (a:Nat))]) (st:=st) (nm:=nm) (a:=a) (i:=0) (j:=1) rfl rfl hn
 exact b9 e ⟨_,_,rfl,rfl,_,rfl⟩
inductive MT where
 |nil
 |nd (l r:MT) (m:List Nat)
def MT.one:MT->Nat
 |.nil=>0
 |.nd _ _ _=>1
def MT.size:MT->Nat
 |.nil=>0
 |.nd l r _=>l.size+r.size+1
def MT.po:MT->List Pl
 |.nil=>[]
 |.nd l r m=>l.po++r.po++[⟨l.one+2*r.one,m⟩]
def CW:MT->List MT->List MT
 |.nil,S=>S
 |.nd l r m,S=>.nd l r m::S
def push(S:List MT)(p:Pl):List MT:=match p.b,S with
 |0,S=>.nd .nil .nil p.m::S
 |1,l::S=>.nd l .nil p.m::S
 |2,r::S=>.nd .nil r p.m::S
 |3,r::l::S=>.nd l r p.m::S
 |_,S=>S
def stk(ps:List Pl):List MT:=ps.foldl push []
theorem w_:∀(t:MT) (S:List MT),t.po.foldl push S=CW t S
 |.nil,S=>rfl
 |.nd l r m,S=>by
  unfold MT.po
  rw[gE,gE,w_ l,w_ r]
  cases l<;>cases r<;>rfl
theorem jA:∀t:MT,t.po.length=t.size
 |.nil=>rfl
 |.nd l r m=>by unfold MT.po MT.size;rw[aB,aB,jA l,jA r];rfl
theorem ua(ps:List Pl)(p:Pl):stk (ps++[p])=push (stk ps) p:=by unfold stk;rw[gE];rfl
theorem Lv(ps:List Pl)(t:MT):stk (ps++t.po)=CW t (stk ps):=by unfold stk;rw[gE,w_]
theorem IG{t:MT}(h:t≠.nil):stk t.po=[t]:=by
 have:=Lv [] t
 rw[fA]at this
 rw[this]
 cases t with
 |nil=>exact(h rfl).elim
 |nd l r m=>rfl
def Ee:List MT->List Pl
 |[]=>[]
 |t::S=>Ee S++t.po
structure XB(ps:List Pl)(S sz:List Nat):Prop where
 s:S=(stk ps).map MT.size
 ne:∀t∈stk ps,t≠.nil
 fl:Ee (stk ps)=ps
 at':∀i,i<ps.length->∃t ts,stk (ps.take (i+1))=t::ts/\sz[i]?=some t.size
theorem nU{t:MT}(h:t≠.nil):t.one=1:=by
 cases t with
 |nil=>exact(h rfl).elim
 |nd l r m=>rfl
theorem Rf{ps:List Pl}{sz:List Nat}{lk:List (Option Nat×Option Nat)}(h:Gr ps S sz lk):XB ps S sz:=by
 induction h with
 |nil=>exact⟨rfl,(fun t ht=>by cases ht),rfl,fun i hi=>absurd hi (cO _)⟩
 |@snoc ps S S' sz lk b k m x hg hs ih=>
  have cY:=hg.ok.1
  suffices hh:∃t ts,stk (ps++[⟨b,m⟩])=t::ts/\t≠.nil/\(∀u∈ts,u≠.nil)/\S'=t.size::ts.map MT.size/\k=t.size/\Ee ts++t.po=ps++[⟨b,m⟩] by
   obtain⟨t,ts,h1,h2,h3,h4,h5,h6⟩:=hh
   refine⟨by rw[h1,h4];rfl,fun u hu=>?_,by rw[h1];exact h6,fun i hi=>?_⟩
   ·rw[h1]at hu
    rcases a_.mp hu with rfl|hu
    ·exact h2
    ·exact h3 u hu
   ·rcases iU i ps.length with z|z
    ·obtain⟨u,us,g1,g2⟩:=ih.at' i z
     exact⟨u,us,by rw[bI (by omega)];exact g1,by rw[aq (by omega)];exact g2⟩
    ·have hi':i=ps.length:=by rw[aB]at hi;simp at hi;omega
     subst hi'
     exact⟨t,ts,by rw[bZ (by simp)];exact h1,by rw[<- cY,bM,h5]⟩
  have hS:=ih.s
  have jt:=ih.ne
  have hfl:=ih.fl
  rw[ua]
  generalize stk ps=st at hS jt hfl
  cases hs with
  |z=>exact⟨.nd .nil .nil m,st,rfl,(fun z=>by cases z),jt,by rw[hS];rfl,rfl,by rw[hfl];rfl⟩
  |@l a S=>
   cases st with
   |nil=>cases hS
   |cons t ts=>
    obtain⟨e1,e2⟩:=du hS
    refine⟨.nd t .nil m,ts,rfl,(fun z=>by cases z),fun u hu=>jt u (aD _ hu),?_,?_,?_⟩
    ·rw[e2,e1];show _=(t.size+0+1)::_;rw[mV 1]
    ·rw[e1];show _=t.size+0+1;omega
    ·rw[<- hfl];show _++(t.po++[]++[⟨t.one+2*0,m⟩])=(Ee ts++t.po)++_
     rw[nU (jt t (aQ ..)),eD,aV]
  |@r a S=>
   cases st with
   |nil=>cases hS
   |cons t ts=>
    obtain⟨e1,e2⟩:=du hS
    refine⟨.nd .nil t m,ts,rfl,(fun z=>by cases z),fun u hu=>jt u (aD _ hu),?_,?_,?_⟩
    ·rw[e2,e1];show _=(0+t.size+1)::_;rw[eO,mV 1]
    ·rw[e1];show _=0+t.size+1;omega
    ·rw[<- hfl];show _++([]++t.po++[⟨0+2*t.one,m⟩])=(Ee ts++t.po)++_
     rw[nU (jt t (aQ ..)),fA,aV]
  |@b c a S=>
   cases st with
   |nil=>cases hS
   |cons t ts=>
    cases ts with
    |nil=>obtain⟨_,e2⟩:=du hS;cases e2
    |cons u us=>
     obtain⟨e1,e2⟩:=du hS
     obtain⟨e2,e3⟩:=du e2
     refine⟨.nd u t m,us,rfl,(fun z=>by cases z),fun v hv=>jt v (aD _ (aD _ hv)),?_,?_,?_⟩
     ·rw[e3,e1,e2];show _=(u.size+t.size+1)::_;rw[show 1+t.size+u.size=u.size+t.size+1 by omega]
     ·rw[e1,e2];show _=u.size+t.size+1;omega
     ·rw[<- hfl];show _++(u.po++t.po++[⟨u.one+2*t.one,m⟩])=((Ee us++u.po)++t.po)++_
      rw[nU (jt t (aQ ..)),nU (jt u (aD _ (aQ ..)))]
      simp only[aV]
theorem IH:∀(t:MT) {ps:List Pl} {S sz:List Nat} {lk:List (Option Nat×Option Nat)},Gr ps S sz lk->∃S' Vt Vi,Gr (ps++t.po) S' Vt Vi/\S'=match t with
  |.nil=>S
  |t=>t.size::S
 |.nil,ps,S,sz,lk,h=>⟨S,sz,lk,by rw[show MT.nil.po=[]from rfl,eD];exact h,rfl⟩
 |.nd l r m,ps,S,sz,lk,h=>by
  obtain⟨S1,z1,k1,g1,e1⟩:=IH l h
  obtain⟨S2,z2,k2,g2,e2⟩:=IH r g1
  have key:∃S' k x,St (ps++l.po++r.po).length S2 (l.one+2*r.one) S' k x/\S'=(MT.nd l r m).size::S:=by
   cases l with
   |nil=>
    have e1:S1=S:=e1
    cases r with
    |nil=>
     have e2:S2=S1:=e2
     rw[e2,e1]
     exact⟨_,_,_,.z,rfl⟩
    |nd a b c=>
     have e2:S2=(MT.nd a b c).size::S1:=e2
     rw[e2,e1]
     exact⟨_,_,_,.r,by show(1+(MT.nd a b c).size)::S=(0+(MT.nd a b c).size+1)::S;rw[eO,mV]⟩
   |nd a b c=>
    have e1:S1=(MT.nd a b c).size::S:=e1
    cases r with
    |nil=>
     have e2:S2=S1:=e2
     rw[e2,e1]
     exact⟨_,_,_,.l,by show(1+(MT.nd a b c).size)::S=((MT.nd a b c).size+0+1)::S;rw[jZ,mV]⟩
    |nd a' b' c'=>
     have e2:S2=(MT.nd a' b' c').size::S1:=e2
     rw[e2,e1]
     exact⟨_,_,_,.b,by show(1+(MT.nd a' b' c').size+(MT.nd a b c).size)::S=((MT.nd a b c).size+(MT.nd a' b' c').size+1)::S;rw[show 1+(MT.nd a' b' c').size+(MT.nd a b c).size=(MT.nd a b c).size+(MT.nd a' b' c').size+1 by omega]⟩
  obtain⟨S',k,x,hs,e⟩:=key
  refine⟨S',z2++[k],k2++[x],?_,e⟩
  have:=Gr.snoc (m:=m) g2 hs
  rw[show ps++(MT.nd l r m).po=ps++l.po++r.po++[⟨l.one+2*r.one,m⟩] by show ps++(l.po++r.po++_)=_;simp only[aV]]
  exact this
theorem Nu(t:MT):∃S sz lk,Gr t.po S sz lk:=by
 obtain⟨S,sz,lk,h,_⟩:=IH t Gr.nil
 exact⟨S,sz,lk,by rw[fA]at h;exact h⟩
theorem Lw{ps:List Pl}{sz:List Nat}{lk:List (Option Nat×Option Nat)}(h:Gr ps S sz lk)(hi:i<ps.length) :
  ∃(p:Pl) (l r:MT) (S0:List MT),ps[i]?=some p/\p.b=l.one+2*r.one/\stk (ps.take i)=CW r (CW l S0)/\stk (ps.take (i+1))=.nd l r p.m::S0:=by
 obtain⟨S1,S2,p,k,x,g1,hp,_,_,hs,_⟩:=h.step i hi
 have g:=Rf g1
 have hS:=g.s
 have jt:=g.ne
 have e1:stk (ps.take (i+1))=push (stk (ps.take i)) p:=by rw[pA hp,ua]
 generalize stk (ps.take i)=st at hS jt e1
 obtain⟨b,m⟩:=p
 have c1:∀{t:MT},t≠.nil->∀S,CW t S=t::S:=fun{t} h S=>by
  cases t with
  |nil=>exact(h rfl).elim
  |nd _ _ _=>rfl
 cases hs with
 |z=>exact⟨_,.nil,.nil,st,hp,rfl,rfl,e1⟩
 |@l a S=>
  cases st with
  |nil=>cases hS
  |cons t ts=>
   have ht:=jt t (aQ ..)
   exact⟨_,t,.nil,ts,hp,by rw[nU ht];rfl,(c1 ht ts).symm,e1⟩
 |@r a S=>
  cases st with
  |nil=>cases hS
  |cons t ts=>
   have ht:=jt t (aQ ..)
   exact⟨_,.nil,t,ts,hp,by rw[nU ht];rfl,(c1 ht ts).symm,e1⟩
 |@b c a S=>
  cases st with
  |nil=>cases hS
  |cons t ts=>
   cases ts with
   |nil=>obtain⟨_,e2⟩:=du hS;cases e2
   |cons u us=>
    have ht:=jt t (aQ ..)
    have hu:=jt u (aD _ (aQ ..))
    exact⟨_,u,t,us,hp,by rw[nU ht,nU hu],by rw[c1 ht,c1 hu],e1⟩
theorem p_{l:List α}{x:α}(h:l[i]?=some x):l.set i x=l:=by
 refine iQ fun j=>?_
 by_cases z:i=j
 ·subst z;rw[ba (ac.mp h).1,h]
 ·rw[aS z]
theorem WN{f:MT->W}{ih ib il ir hp:Nat}{b:Nat}{l r:MT}{S0:List MT}{s:List aj}{Q:RS->Prop}{de:FS}(hb:b=l.one+2*r.one)(h1:ρ[ib]?=some (some (.int (b:Nat))))(h2:ρ[ih]?=some (some (.loc hp)))(h3:ρ[ir]?=some (some (f .nil)))(h4:ρ[il]?=some (some (f .nil)))
  (d1:ir≠ib) (d2:ir≠ih) (d3:ir≠il) (hc:s[hp]?=some (.lst ((CW r (CW l S0)).map f).reverse)) (h:gJ Q (de ((ρ.set ir (some (f r))).set il (some (f l))) (s.set hp (.lst (S0.map f).reverse)))) :
  gJ Q (aL (i5 (fq (e2 TB (af ib) (eI 2))) (bp ir (nv qw (af ih) av)) cQ) (aL (i5 (fq (e2 lw (e2 eU (af ib) (eI 2)) (eI 1))) (bp il (nv qw (af ih) av)) cQ) de) ρ s):=by
 have m2:∀s,eU (.int (b:Nat)) (.int 2) s=.ok (.int ((b%2:Nat):Int)) s:=fun s=>by rw[md];exact jT (by decide)
 have key:gJ Q (aL (i5 (fq (e2 lw (e2 eU (af ib) (eI 2)) (eI 1))) (bp il (nv qw (af ih) av)) cQ) de (ρ.set ir (some (f r))) (s.set hp (.lst ((CW l S0).map f).reverse))):=by
  have hc2:(s.set hp (.lst ((CW l S0).map f).reverse))[hp]?=some (.lst ((CW l S0).map f).reverse):=ba (ac.mp hc).1
  have g1:(ρ.set ir (some (f r)))[ib]?=some (some (.int (b:Nat))):=by rw[aS d1];exact h1
  have g2:(ρ.set ir (some (f r)))[ih]?=some (some (.loc hp)):=by rw[aS d2];exact h2
  cases l with
  |nil=>
   refine cf (bQ (bd (bd (eZ g1) cK (m2 _)) cK (i7 (by rw[bq,hb];show ¬ (((0+2*r.one)%2:Nat):Int)=1;omega)))) ?_
   refine cX ?_
   have e:(ρ.set ir (some (f r))).set il (some (f .nil))=ρ.set ir (some (f r)):=p_ (by rw[aS d3];exact h4)
   rw[e]at h;exact h
  |nd a c d=>
   refine fQ (bQ (bd (bd (eZ g1) cK (m2 _)) cK (i7 (by rw[cZ,hb];show(((1+2*r.one)%2:Nat):Int)=1;omega)))) ?_
   have hc3:(s.set hp (.lst ((CW (.nd a c d) S0).map f).reverse))[hp]?=some (.lst ((S0.map f).reverse++[f (.nd a c d)])):=by
    rw[hc2];show some (aj.lst ((f (.nd a c d)::S0.map f).reverse))=_;rw[la]
   refine au (bu (jS (eZ g2) (dy hc3) bb (Ge hc3))) ?_
   rw[mU];exact h
 cases r with
 |nil=>
  refine cf (bQ (bd (eZ h1) cK (hV (aN (by rw[hb];have:l.one<=1:=(by cases l<;>simp[MT.one]);show ¬ (2:Int)<=((l.one+2*0:Nat):Int);omega))))) ?_
  refine cX ?_
  rw[p_ h3,p_ (show s[hp]?=some (.lst ((CW l S0).map f).reverse)from hc)]at key
  exact key
 |nd a c d=>
  refine fQ (bQ (bd (eZ h1) cK (hV (aK (by rw[hb];show(2:Int)<=((l.one+2*1:Nat):Int);omega))))) ?_
  have hc3:s[hp]?=some (.lst (((CW l S0).map f).reverse++[f (.nd a c d)])):=by
   rw[hc];show some (aj.lst ((f (.nd a c d)::(CW l S0).map f).reverse))=_;rw[la]
  exact au (bu (jS (eZ h2) (dy hc3) bb (Ge hc3))) key
def hW(M:Mc):MT->Nat
 |.nil=>0
 |.nd l r m=>a9 M (gc m M.nm) (hW M l) (hW M r)
theorem ub(M:Mc)(l r:MT)(m:List Nat):hW M (.nd l r m)=a9 M (gc m M.nm) (hW M l) (hW M r):=rfl
section
variable{M:Mc}
theorem uc(hM:lx M n)(hn:1<=n):∀t:MT,hW M t<n
 |.nil=>hn
 |.nd l r m=>by
  have h1:gc m M.nm<M.tb.length:=by rw[hM.tb];exact w9 m M.nm
  obtain⟨row,_,_,h⟩:=jK hM (aa h1) (uc hM hn l) (uc hM hn r)
  exact h
def kU(ps:List Pl)(j:Nat):MT:=(stk (ps.take (j+1))).headD .nil
theorem Rg(hM:lx M n)(hn:1<=n){ps:List Pl}{sz:List Nat}{lk:List (Option Nat×Option Nat)}(h:Gr ps S sz lk)(hl:ps.length<=900000)(st:List aj) :
  ∃x,Cn [M.w,jz ps] st=.ok (.loc (st.length+1)) (st++x)/\x[1]?=some (.lst ((List.range ps.length).map fun j=>W.int (hW M (kU ps j):Nat))):=by
 suffices hh:gJ (rD fun w bG=>∃j x,w=.loc (st.length+j)/\bG=st++x/\j=1/\x[1]?=some (.lst ((List.range ps.length).map fun j=>W.int (hW M (kU ps j):Nat)))) (M8 ([M.w,jz ps].map some++List.replicate (8-2) none) st) by
  obtain⟨j,x,⟨rfl,hx⟩,e⟩:=jl hh
  exact⟨x,e,hx⟩
 apply au
 ·exact bu (vE bb (bF rfl))
 apply au
 ·exact bu (vE bb (bF rfl))
 have l1:(st++[aj.lst []]).length=st.length+1:=by simp
 rw[l1]
 refine cR (fun i ρ s=>∃(o4 o5 o6 o7:Option W),ρ=[some M.w,some (jz ps),some (.loc st.length),some (.loc (st.length+1)),o4,o5,o6,o7]/\s=st++[.lst ((stk (ps.take i)).map fun t=>W.int (hW M t:Nat)).reverse,.lst ((List.range i).map fun j=>W.int (hW M (kU ps j):Nat))])
  (k:=(ps.map Pl.w,none)) (st1:=(st++[aj.lst []])++[aj.lst []]) (jU kv) ⟨none,none,none,none,rfl,by rw[aV];rfl⟩ (fun _ _ _ _=>trivial) ?_ ?_
 ·rintro i w ρ s hw ⟨o4,o5,o6,o7,rfl,rfl⟩
  have hi:i<ps.length:=by have:=(ac.mp hw).1;simpa using this
  obtain⟨p,l,r,S0,hp,hb,LJ,rH⟩:=Lw h hi
  have hw:w=p.w:=by
   simp only at hw
   rw[ak,hp]at hw
   exact(aY hw).symm
  subst hw
  refine⟨_,rfl,?_⟩
  apply au
  ·exact bu cK
  apply au
  ·exact bu cK
  rw[LJ]
  refine WN (f:=fun t=>W.int (hW M t:Nat)) (l:=l) (r:=r) (S0:=S0) hb rfl rfl rfl rfl (by decide) (by decide) (by decide) (by rw[bN];rfl) ?_
  have h1:gc p.m M.nm<M.tb.length:=by rw[hM.tb];exact w9 p.m M.nm
  have ht:=aa h1
  obtain⟨row,e1,e2,_⟩:=jK hM ht (uc hM hn l) (uc hM hn r)
  rw[dO]
  show gJ _ (aL _ _ [some M.w,some (jz ps),some (.loc st.length),some (.loc (st.length+1)),some (.int p.b),some (.str p.m),some (.int (hW M l:Nat)),some (.int (hW M r:Nat))] (st++[.lst (S0.map fun t=>W.int (hW M t:Nat)).reverse,.lst ((List.range i).map fun j=>W.int (hW M (kU ps j):Nat))]))
  have hc:(st++[aj.lst (S0.map fun t=>W.int (hW M t:Nat)).reverse,.lst ((List.range i).map fun j=>W.int (hW M (kU ps j):Nat))])[st.length]?=some (.lst (S0.map fun t=>W.int (hW M t:Nat)).reverse):=by rw[bN];rfl
  have hS0:S0.length<=900000:=by
   have:=dM List.length rH
   have g:=Rf (h.step i hi).choose_spec.choose_spec.choose_spec.choose_spec.choose_spec.2.2.2.2.2
   have h2:=(h.step i hi).choose_spec.choose_spec.choose_spec.choose_spec.choose_spec.2.2.2.2.2.ok.2.2.le
   rw[g.s,ai,this,aZ]at h2
   simp at h2;omega
  apply au
  ·exact fw (jS kv (dy hc) (al (bd (bd (bd kx (bU (al kx kn) (A4 M.nm p.m _) rfl) (t8 ht _)) kv (lN e1)) kv (lO e2)) bb) (pY hc (by rw[List.length_reverse,ai];show _<1000000;omega)))
  rw[dO]
  have hc1:(st++[aj.lst (S0.map fun t=>W.int (hW M t:Nat)).reverse,.lst ((List.range i).map fun j=>W.int (hW M (kU ps j):Nat))].set 0 (.lst ((S0.map fun t=>W.int (hW M t:Nat)).reverse++[W.int (a9 M (gc p.m M.nm) (hW M l) (hW M r):Nat)])))[st.length]?=some (.lst ((S0.map fun t=>W.int (hW M t:Nat)).reverse++[W.int (a9 M (gc p.m M.nm) (hW M l) (hW M r):Nat)])):=by rw[bN];rfl
  have hc2:(st++[aj.lst (S0.map fun t=>W.int (hW M t:Nat)).reverse,.lst ((List.range i).map fun j=>W.int (hW M (kU ps j):Nat))].set 0 (.lst ((S0.map fun t=>W.int (hW M t:Nat)).reverse++[W.int (a9 M (gc p.m M.nm) (hW M l) (hW M r):Nat)])))[st.length+1]?=some (.lst ((List.range i).map fun j=>W.int (hW M (kU ps j):Nat))):=by rw[dH];rfl
  have last:pG ((S0.map fun t=>W.int (hW M t:Nat)).reverse++[W.int (a9 M (gc p.m M.nm) (hW M l) (hW M r):Nat)]) (-1)=some (.int (a9 M (gc p.m M.nm) (hW M l) (hW M r):Nat)):=wF (q:=0) (by rw[List.reverse_append];rfl)
  refine dz (fw (jS kv (dy hc2) (al (bd kv (yy cK) (kS (aM hc1) last)) bb) (pY hc2 (by rw[ai,c_];show _<1000000;omega)))) ?_
  refine⟨_,_,rfl,_,_,_,_,rfl,?_⟩
  rw[gH,rH]
  have htop:kU ps i=.nd l r p.m:=by unfold kU;rw[rH];rfl
  rw[ii,ce]
  simp only[aH,dD,la,htop]
  rfl
 ·rintro ρ s ⟨o4,o5,o6,o7,rfl,rfl⟩
  apply b9
  ·exact eZ rfl
  ·refine⟨_,_,rfl,1,_,rfl,rfl,rfl,?_⟩
   rw[show(ps.map Pl.w,(none:Option (Nat×List W))).fst.length=ps.length by simp]
   rfl
theorem A6{t:MT}(h:t≠.nil):kU t.po (t.po.length-1)=t:=by
 have hl:1<=t.po.length:=by
  rw[jA]
  cases t with
  |nil=>exact(h rfl).elim
  |nd l r m=>unfold MT.size;omega
 unfold kU
 rw[show t.po.length-1+1=t.po.length by omega,bX,IG h];rfl
end
theorem II{sz:List Nat}:∀{S:List Nat} {n:Nat},At sz S n->∀p∈m9 S n,p<n
 |[],_,_,p,hp=>by cases hp
 |a::S,n,⟨_,h2,h3,h4⟩,p,hp=>by
  rcases a_.mp hp with rfl|hp
  ·omega
  ·have:=II h4 p hp;omega
theorem IJ{R:List Nat}{v p:Nat}(h:p<R.length):(R++[v]).getD p 0=R.getD p 0:=by
 rw[ay,ay,aq h]
theorem IK{R:List Nat}{v:Nat}:(R++[v]).getD R.length 0=v:=by
 rw[ay,bM];rfl
section
variable{M:Mc}
theorem U1(hM:lx M n)(hn:1<=n){ps:List Pl}{sz:List Nat}{lk:List (Option Nat×Option Nat)}(h:Gr ps S sz lk):(m9 S ps.length).map (fun p=>(iC M ps lk).getD p 0)=(stk ps).map (hW M):=by
 induction h with
 |nil=>rfl
 |@snoc ps S S' sz lk b k m x hg hs ih=>
  have hRl:=(oz hg hM hn).1
  obtain⟨_,e2,ha⟩:=hg.ok
  have er:iC M (ps++[⟨b,m⟩]) (lk++[x])=iC M ps lk++[Jn M (iC M ps lk) m x]:=t7 M ⟨b,m⟩ x ps lk [] e2.symm
  rw[er,ua,aB]
  have hps:=II ha
  generalize stk ps=st at ih
  generalize iC M ps lk=R at hRl ih
  have old:∀(v:Nat) (L:List Nat),(∀p∈L,p<ps.length)->L.map (fun p=>(R++[v]).getD p 0)=L.map fun p=>R.getD p 0:=fun v L hL=>br fun p hp=>IJ (by rw[hRl];exact hL p hp)
  have new:∀v:Nat,(R++[v]).getD ps.length 0=v:=fun v=>by rw[<- hRl];exact IK
  show(m9 S' (ps.length+1)).map _=_
  cases hs with
  |z=>
   show((ps.length+1-1)::m9 S (ps.length+1-1)).map _=(MT.nd .nil .nil m::st).map (hW M)
   rw[fj,aH,new,old _ _ hps,ih];rfl
  |@l a S0=>
   cases st with
   |nil=>cases ih
   |cons t ts=>
    obtain⟨i1,i2⟩:=du ih
    have i1:R.getD (ps.length-1) 0=hW M t:=i1
    show((ps.length+1-1)::m9 S0 (ps.length+1-(1+a))).map _=(MT.nd t .nil m::ts).map (hW M)
    rw[fj,show ps.length+1-(1+a)=ps.length-a by omega,aH,new,old _ _ (fun p hp=>hps p (aD _ hp)),i2]
    show a9 M (gc m M.nm) (R.getD (ps.length-1) 0) 0::_=a9 M (gc m M.nm) (hW M t) 0::_
    rw[i1]
  |@r a S0=>
   cases st with
   |nil=>cases ih
   |cons t ts=>
    obtain⟨i1,i2⟩:=du ih
    have i1:R.getD (ps.length-1) 0=hW M t:=i1
    show((ps.length+1-1)::m9 S0 (ps.length+1-(1+a))).map _=(MT.nd .nil t m::ts).map (hW M)
    rw[fj,show ps.length+1-(1+a)=ps.length-a by omega,aH,new,old _ _ (fun p hp=>hps p (aD _ hp)),i2]
    show a9 M (gc m M.nm) 0 (R.getD (ps.length-1) 0)::_=a9 M (gc m M.nm) 0 (hW M t)::_
    rw[i1]
  |@b c a S0=>
   cases st with
   |nil=>cases ih
   |cons t ts=>
    obtain⟨i1,i2⟩:=du ih
    cases ts with
    |nil=>cases i2
    |cons u us=>
     obtain⟨i2,i3⟩:=du i2
     have i1:R.getD (ps.length-1) 0=hW M t:=i1
     have i2:R.getD (ps.length-c-1) 0=hW M u:=i2
     show((ps.length+1-1)::m9 S0 (ps.length+1-(1+c+a))).map _=(MT.nd u t m::us).map (hW M)
     rw[fj,show ps.length+1-(1+c+a)=ps.length-c-a by omega,aH,new,old _ _ (fun p hp=>hps p (aD _ (aD _ hp))),i3]
     show a9 M (gc m M.nm) (R.getD (ps.length-1-c) 0) (R.getD (ps.length-1) 0)::_=a9 M (gc m M.nm) (hW M u) (hW M t)::_
     rw[show ps.length-1-c=ps.length-c-1 by omega,i1,i2]
theorem Rh(hM:lx M n)(hn:1<=n){t:MT}(h0:t≠.nil){sz:List Nat}{lk:List (Option Nat×Option Nat)}(h:Gr t.po S sz lk):A5 M t.po lk=hW M t:=by
 have g:=U1 hM hn h
 have hS:=(Rf h).s
 rw[IG h0]at g hS
 subst hS
 exact(du g).1
theorem A7(hM:lx M n)(hn:1<=n){t:MT}(h0:t≠.nil)(hl:t.size<=900):∃R:List Nat,R.length=t.po.length/\(∀st,yO [M.w,jz t.po] st=.ok (jy R) st)/\(∀st,bg (jy R) (.int (-1)) st=.ok (.int (hW M t:Nat)) st)/\∀st,tJ [M.w,jz t.po] st=.ok (.bl (M.gd.getD (hW M t) false)) st:=by
 obtain⟨S,sz,lk,hg⟩:=Nu t
 have hl':t.po.length<=900:=by rw[jA];exact hl
 have hp:0<t.po.length:=by
  rw[jA]
  cases t with
  |nil=>exact(h0 rfl).elim
  |nd l r m=>unfold MT.size;omega
 have e:=Rh hM hn h0 hg
 refine⟨iC M t.po lk,(oz hg hM hn).1,fun st=>zn hg hl' hM hn st,fun st=>?_,fun st=>?_⟩
 ·rw[<- e];exact CU hg hM hn hp st
 ·have:=CV hg hl' hM hn st
  unfold U0 at this
  rw[ar hp,e]at this;exact this
end
theorem A8{l':List Nat}{a:Nat}(h:l <+: l')(e:l[i]?=some a):l'[i]?=some a:=by
 obtain⟨t,rfl⟩:=h
 rw[aq (ac.mp e).1];exact e
structure Mt(M:Mc)(N:Nat)(mt:List Nat):Prop where
 zero:∃r,mt=0::r
 nd:mt.Nodup
 lt:∀a∈mt,a<N
 least:∀C:Nat->Prop,C 0->(∀k,k<M.tb.length->∀a b,C a->C b->C (a9 M k a b))->∀a∈mt,C a
theorem Mt.len{M:Mc}(h:Mt M N mt):mt.length<=N:=by
 have:=lg h.nd (l:=List.range N) fun c hc=>bx.mpr (h.lt c hc)
 rwa[c_]at this
def qa(mt:List Nat)(z:Nat):List Nat:=if z∈mt then mt else mt++[z]
theorem zq(mt:List Nat)(z:Nat):mt <+: qa mt z:=by unfold qa;split;exact ah _;exact ax _ _
theorem zr(mt:List Nat)(z:Nat):z∈qa mt z:=by
 unfold qa;split
 ·assumption
 ·simp
theorem Mt.ext{M:Mc}(h:Mt M N mt){k a b:Nat}(hk:k<M.tb.length)(ha:a∈mt)(hb:b∈mt)(hN:a9 M k a b<N):Mt M N (qa mt (a9 M k a b)):=by
 unfold qa
 split
 ·exact h
 ·rename_i hn
  obtain⟨r,hr⟩:=h.zero
  refine⟨⟨r++[a9 M k a b],by rw[hr];rfl⟩,?_,fun c hc=>?_,fun C c0 cc c hc=>?_⟩
  ·rw[db]
   exact⟨h.nd,by simp,fun x hx y hy z=>by simp at hy;subst hy;subst z;exact hn hx⟩
  ·rcases aI.mp hc with z|z
   ·exact h.lt c z
   ·simp at z;subst z;exact hN
  ·rcases aI.mp hc with z|z
   ·exact h.least C c0 cc c z
   ·simp at z;subst z;exact cc k hk a b (h.least C c0 cc a ha) (h.least C c0 cc b hb)
theorem Lx(t:MT):(t.po.length=0->t.one=0)/\(t.po.length≠0->t.one=1):=by
 rw[jA]
 cases t with
 |nil=>exact⟨fun _=>rfl,fun h=>(h rfl).elim⟩
 |nd l r m=>exact⟨fun h=>(by unfold MT.size at h;omega),fun _=>rfl⟩
theorem qb(l r:MT)(m:List Nat)(hl:l.size+r.size<=900000)(st:List aj):oP [jz l.po,jz r.po,.str m] st=.ok (jz (MT.nd l r m).po) st:=by
 refine ip (N:=3) (ws:=[jz l.po,jz r.po,.str m]) (body:=M6) ?_ (by simp only[undWs,bO];exact Q_ _ _)
 have hi:∀(t:MT) (i:Nat) (ρ:bY),ρ[i]?=some (some (jz t.po))->bc yc (ag (e2 Ai (bc cW (ag (af i) av)) (eI 0)) av) ρ st=.ok (.int (t.one:Nat)) st:=fun t i ρ hr=>by
  obtain⟨z1,z2⟩:=Lx t
  by_cases z:t.po.length=0
  ·rw[z1 z]
   exact be (al (bd (be (al (eZ hr) bb) (qK _ _)) cK (hV (k:=false) (by rw[z];rfl))) bb) rfl
  ·rw[z2 z]
   exact be (al (bd (be (al (eZ hr) bb) (qK _ _)) cK (hV (k:=true) (aK (by omega)))) bb) rfl
 have e:((l.one:Nat):Int)+2*((r.one:Nat):Int)=((l.one+2*r.one:Nat):Int):=by omega
 have h1:=jA l
 have h2:=jA r
 refine b9 (bd (bd kv kv (Gi (by rw[aB,ai,ai];show _<=1000000;omega))) (d_ (al (d_ (al (bd (hi l 0 _ rfl) (bd cK (hi r 1 _ rfl) (nQ (.inl ⟨by omega,by omega⟩))) e7) kn) (bF rfl)) bb) (bF rfl)) (Gi (by simp only[aB,bv,dg,ai];show _<=1000000;omega))) ⟨_,_,rfl,?_,[],by simp⟩
 rw[e]
 show W.tup _=W.tup ((l.po++r.po++[(⟨l.one+2*r.one,m⟩:Pl)]).map Pl.w)
 rw[ce,ce];rfl
abbrev tD(tm:Nat->MT)(mt:List Nat):List (DK×W):=vD (fun a=>jz (tm a).po) mt
structure Tm(M:Mc)(N:Nat)(mt:List Nat)(tm:Nat->MT):Prop where
 met:Mt M N mt
 rm:∀a∈mt,hW M (tm a)=a
 sz:∀a∈mt,(tm a).size+1<=2^mt.length
def A9(mt:List Nat)(tm:Nat->MT)(z:Nat)(t:MT):Nat->MT:=if z∈mt then tm else fun a=>if a=z then t else tm a
theorem Tm.ext{M:Mc}{tm:Nat->MT}(hM:lx M N)(hd:M.nm.Nodup)(h:Tm M N mt tm){k a b:Nat}(hk:k<M.tb.length)(ha:a∈mt)(hb:b∈mt)(hN:a9 M k a b<N) :
  Tm M N (qa mt (a9 M k a b)) (A9 mt tm (a9 M k a b) (.nd (tm a) (tm b) (uo M.nm k))):=by
 refine⟨h.met.ext hk ha hb hN,?_,?_⟩
 ·unfold qa A9
  split
  ·exact h.rm
  ·intro c hc
   dsimp only
   by_cases e:c=a9 M k a b
   ·rw[ar e,ub,zo hd (by rw[<- hM.tb];exact hk),h.rm a ha,h.rm b hb,e]
   ·rw[az e]
    rcases aI.mp hc with z|z
    ·exact h.rm c z
    ·simp at z;exact(e z).elim
 ·unfold qa A9
  split
  ·exact h.sz
  ·intro c hc
   have e1:2^(mt++[a9 M k a b]).length=2^mt.length*2:=by rw[aB];rfl
   rw[e1]
   dsimp only
   by_cases e:c=a9 M k a b
   ·rw[ar e]
    have:=h.sz a ha
    have:=h.sz b hb
    show(tm a).size+(tm b).size+1+1<=_
    omega
   ·rw[az e]
    rcases aI.mp hc with z|z
    ·have:=h.sz c z;omega
    ·simp at z;exact(e z).elim
theorem Tm.le{M:Mc}{tm:Nat->MT}(h:Tm M N mt tm)(hN:N<=9){a:Nat}(ha:a∈mt):(tm a).size<=511:=by
 have h1:=h.sz a ha
 have h2:2^mt.length<=2^9:=fG (by decide) (aR h.met.len hN)
 have h3:(2:Nat)^9=512:=by decide
 omega
section
variable{M:Mc}
theorem IL(V:Nat->W)(l:List Nat)(q:Nat):(j9 (vD V l) (.i q)).isSome=decide (q∈l):=by
 rw[y7];simp
abbrev Xc:FS:=(aL (bp 8 (e2 bg (e2 bg (e2 bg (e2 bg (af 0) (eI 2)) (af 5)) (af 6)) (af 7))) (i5 (fq (e2 (lE true) (af 8) (af 2))) (aL (lB (af 2) (af 8) (ca 3 oP (ag (e2 gp (af 2) (af 6)) (ag (e2 gp (af 2) (af 7)) (ag (ca 2 tK (ag (e2 bg (af 0) (eI 0)) (ag (af 5) av))) av)))) jn) (eG (nv cM (af 1) (ag (af 8) av)))) cQ))
theorem IM(hM:lx M N)(IU:M.nm.length<=60)(hN:N<=9){tm:Nat->MT}{x:List aj}(hm:Tm M N mt tm){k q o a b:Nat}(hk:k<M.tb.length)(ha:a∈mt)(hb:b∈mt)(o8:Option W) :
  Xc [some M.w,some (.loc st.length),some (.loc (st.length+1)),some (.int (q:Nat)),some (.int (o:Nat)),some (.int (k:Nat)),some (.int (a:Nat)),some (.int (b:Nat)),o8] (st++.lst (dZ mt)::.dct (tD tm mt)::x)
   = .nx [some M.w,some (.loc st.length),some (.loc (st.length+1)),some (.int (q:Nat)),some (.int (o:Nat)),some (.int (k:Nat)),some (.int (a:Nat)),some (.int (b:Nat)),some (.int (a9 M k a b:Nat))] (st++.lst (dZ (qa mt (a9 M k a b)))::.dct (tD (A9 mt tm (a9 M k a b) (.nd (tm a) (tm b) (uo M.nm k))) (qa mt (a9 M k a b)))::x):=by
 have ht:=aa hk
 obtain⟨r1,a1,a2,a3⟩:=jK hM ht (hm.met.lt a ha) (hm.met.lt b hb)
 have hln:=hm.met.len
 refine(wB (bu (bd (bd (bd kx kv (t8 ht _)) kv (lN a1)) kv (lO a2)))).trans ?_
 generalize a9 M k a b=z at a3 ⊢
 have c0:(st++.lst (dZ mt)::.dct (tD tm mt)::x)[st.length]?=some (.lst (dZ mt)):=by rw[bN];rfl
 have c1:(st++.lst (dZ mt)::.dct (tD tm mt)::x)[st.length+1]?=some (.dct (tD tm mt)):=by rw[dH];rfl
 have d1:gn (st++.lst (dZ mt)::.dct (tD tm mt)::x) (.loc (st.length+1))=some (st.length+1,tD tm mt):=by unfold gn;simp only[c1]
 have tsx:=bQ (bd (f:=lE true) (fa:=af 8) (fb:=af 2) (ρ:=[some M.w,some (.loc st.length),some (.loc (st.length+1)),some (.int (q:Nat)),some (.int (o:Nat)),some (.int (k:Nat)),some (.int (a:Nat)),some (.int (b:Nat)),some (.int (z:Nat))]) kv kv (tP (q:=z) (neg:=true) d1 rfl))
 simp only[dC,IL]at tsx
 unfold qa A9
 by_cases h:z∈mt
 ·rw[aK h]at tsx
  simp only[ar h]
  exact tq tsx AG
 ·rw[aN h]at tsx
  simp only[az h]
  refine tj tsx ?_
  have nd:=hm.met.nd
  have ga:=kj d1 (iq (V:=fun a=>jz (tm a).po) nd ha)
  have gb:=kj d1 (iq (V:=fun a=>jz (tm a).po) nd hb)
  have l1:=hm.le hN ha
  have l2:=hm.le hN hb
  have hput:jn (.loc (st.length+1)) (.int (z:Nat)) (jz (MT.nd (tm a) (tm b) (uo M.nm k)).po) (st++.lst (dZ mt)::.dct (tD tm mt)::x)=some (st++.lst (dZ mt)::.dct (tD (fun c=>if c=z then .nd (tm a) (tm b) (uo M.nm k)else tm c) (mt++[z]))::x):=by
   rw[tQ c1 (by rw[mz];show _<1000000;omega),gH]
   congr 1
   show st++.lst (dZ mt)::.dct _::x=_
   congr 3
   have e1:tD tm mt=vD (fun c=>jz (if c=z then MT.nd (tm a) (tm b) (uo M.nm k)else tm c).po) mt:=by
    refine br fun c hc=>?_
    have:c≠z:=fun e=>h (e▸hc)
    show(_,jz (tm c).po)=(_,jz (if c=z then _ else tm c).po)
    rw[az this]
   rw[e1]
   have:=tN (f:=fun a:Nat=>a) (g:=fun c=>jz (if c=z then MT.nd (tm a) (tm b) (uo M.nm k)else tm c).po) (l:=mt) (a:=z) (by simpa using h)
   simp only[dC]at this
   rw[this]
  refine(wB (lG (bU (al (bd kv kv ga) (al (bd kv kv gb) (al (bU (al kx kn) (zp M.nm k IU _) rfl) bb))) (qb _ _ _ (by omega) _) rfl) kv kv hput)).trans ?_
  have c2:(st++.lst (dZ mt)::.dct (tD (fun c=>if c=z then .nd (tm a) (tm b) (uo M.nm k)else tm c) (mt++[z]))::x)[st.length]?=some (.lst (dZ mt)):=by rw[bN];rfl
  rw[fw (jS (F:=cM) (eZ (i:=1) rfl) (dy c2) (al (fa:=af 8) kv bb) (pY c2 (by rw[ai];show _<1000000;omega))),dO]
  simp[dZ]
end
section
variable{M:Mc}
abbrev Xd:FS:=(fC (cF (cP (ag (cP (ag (e2 bg (af 1) (af 3)) (ag (af 4) av))) (ag (cP (ag (af 4) (ag (e2 bg (af 1) (af 3)) av))) av)))) (ul 2 (b8 (dY 6) (b8 (dY 7) hG))) Xc)
abbrev XC:FS:=(fC (bJ (ag (bc cW (ag (e2 bg (af 0) (eI 2)) av)) av)) (dY 5) Xd)
abbrev tR(M:Mc)(st:List aj)(q:Nat)(o4 o5 o6 o7 o8:Option W):bY:=[some M.w,some (.loc st.length),some (.loc (st.length+1)),some (.int (q:Nat)),o4,o5,o6,o7,o8]
abbrev tS(st:List aj)(mt:List Nat)(tm:Nat->MT)(x:List aj):List aj:=st++.lst (dZ mt)::.dct (tD tm mt)::x
theorem Ri(hM:lx M N)(me:M.nm.Nodup)(IU:M.nm.length<=60)(hN:N<=9){tm:Nat->MT}{x:List aj}(hm:Tm M N mt tm){k q c o:Nat}(hk:k<M.tb.length)(hc:mt[q]?=some c)(ho:o∈mt)(o6 o7 o8:Option W) :
  gJ (Gg fun ρ S=>∃nV uq o6 o7 o8,mt <+: nV/\Tm M N nV uq/\a9 M k c o∈nV/\a9 M k o c∈nV/\ρ=tR M st q (some (.int (o:Nat))) (some (.int (k:Nat))) o6 o7 o8/\S=tS st nV uq x)
   (Xd (tR M st q (some (.int (o:Nat))) (some (.int (k:Nat))) o6 o7 o8) (tS st mt tm x)):=by
 have ht:=aa hk
 have hcm:c∈mt:=aA hc
 obtain⟨_,_,_,a3⟩:=jK hM ht (hm.met.lt c hcm) (hm.met.lt o ho)
 obtain⟨_,_,_,b3⟩:=jK hM ht (hm.met.lt o ho) (hm.met.lt c hcm)
 have cm:(tS st mt tm x)[st.length]?=some (.lst (dZ mt)):=by rw[bN];rfl
 have ic:bg (.loc st.length) (.int (q:Nat)) (tS st mt tm x)=.ok (.int (c:Nat)) (tS st mt tm x):=kS (aM cm) (dm (by rw[ak,hc];rfl))
 have m1:=hm.ext hM me hk hcm ho a3
 have p1:=zq mt (a9 M k c o)
 have i1:=zr mt (a9 M k c o)
 have e1:=IM (st:=st) (x:=x) (q:=q) (o:=o) hM IU hN hm hk hcm ho
 generalize qa mt (a9 M k c o)=mt1 at m1 p1 i1 e1
 generalize A9 mt tm (a9 M k c o) (.nd (tm c) (tm o) (uo M.nm k))=tm1 at m1 e1
 have m2:=m1.ext hM me hk (p1.subset ho) (p1.subset hcm) b3
 have p2:=zq mt1 (a9 M k o c)
 have i2:=zr mt1 (a9 M k o c)
 have e2':=IM (st:=st) (x:=x) (q:=q) (o:=o) hM IU hN m1 hk (p1.subset ho) (p1.subset hcm)
 generalize qa mt1 (a9 M k o c)=mt2 at m2 p2 i2 e2'
 generalize A9 mt1 tm1 (a9 M k o c) (.nd (tm1 o) (tm1 c) (uo M.nm k))=tm2 at m2 e2'
 refine lM (k:=([W.tup [.int (c:Nat),.int (o:Nat)],W.tup [.int (o:Nat),.int (c:Nat)]],none)) (fun j ρ S=>∃o6 o7 o8,ρ=tR M st q (some (.int (o:Nat))) (some (.int (k:Nat))) o6 o7 o8/\S=match j with|0=>tS st mt tm x|1=>tS st mt1 tm1 x|_=>tS st mt2 tm2 x)
  (jU (d_ (al (d_ (al (bd kv kv ic) kn) (by show 2<=1000000;decide)) (al (d_ (al kv (al (bd kv kv ic) bb)) (by show 2<=1000000;decide)) bb)) (by show 2<=1000000;decide))) ⟨o6,o7,o8,rfl,rfl⟩ (fun _ _ _ _=>trivial) ?_ ?_
 ·rintro j w ρ S hw ⟨o6,o7,o8,rfl,rfl⟩
  match j,hw with
  |0,hw=>
   cases hw
   exact⟨_,rfl,_,_,e1 o8,_,_,_,rfl,rfl⟩
  |1,hw=>
   cases hw
   exact⟨_,rfl,_,_,e2' o8,_,_,_,rfl,rfl⟩
 ·rintro ρ S ⟨o6,o7,o8,rfl,rfl⟩
  exact⟨_,_,rfl,mt2,tm2,o6,o7,o8,p1.trans p2,m2,p2.subset i1,i2,rfl,rfl⟩
theorem Rj(hM:lx M N)(me:M.nm.Nodup)(IU:M.nm.length<=10)(hN:N<=9){tm:Nat->MT}{x:List aj}(hm:Tm M N mt tm){q c o:Nat}(hc:mt[q]?=some c)(ho:o∈mt)(o5 o6 o7 o8:Option W) :
  gJ (Gg fun ρ S=>∃nV uq o5 o6 o7 o8,mt <+: nV/\Tm M N nV uq/\(∀k,k<M.tb.length->a9 M k c o∈nV/\a9 M k o c∈nV)/\ρ=tR M st q (some (.int (o:Nat))) o5 o6 o7 o8/\S=tS st nV uq x)
   (XC (tR M st q (some (.int (o:Nat))) o5 o6 o7 o8) (tS st mt tm x)):=by
 have hL:M.tb.length<=1024:=by
  rw[hM.tb];exact aR (fG (by decide) IU) (by decide)
 have hln:cW [W.tup (M.tb.map fY)] (tS st mt tm x)=.ok (.int (M.tb.length:Nat)) (tS st mt tm x):=by
  have:=jx (ws:=M.tb.map fY) (st:=tS st mt tm x)
  rwa[ai]at this
 have hir:bJ (ag (bc cW (ag (e2 bg (af 0) (eI 2)) av)) av) (tR M st q (some (.int (o:Nat))) o5 o6 o7 o8) (tS st mt tm x)=.ok (cB 0 ((M.tb.length:Nat):Int).toNat,none) (tS st mt tm x):=fD (al (be (al (bd kv cK (gI (by rfl))) bb) hln) bb) (by omega)
 refine lM (fun i ρ S=>∃nV uq o5 o6 o7 o8,mt <+: nV/\Tm M N nV uq/\(∀k,k<i->a9 M k c o∈nV/\a9 M k o c∈nV)/\ρ=tR M st q (some (.int (o:Nat))) o5 o6 o7 o8/\S=tS st nV uq x) hir ⟨mt,tm,o5,o6,o7,o8,ah _,hm,fun k hk=>absurd hk (cO _),rfl,rfl⟩ (fun _ _ _ _=>trivial) ?_ ?_
 ·rintro i w ρ S hw ⟨nV,uq,o5,o6,o7,o8,hp,hm',lT,rfl,rfl⟩
  obtain⟨hi,rfl⟩:=gW hw
  have hi':i<M.tb.length:=by simpa using hi
  refine⟨_,rfl,?_⟩
  rw[iS]
  obtain⟨ρ2,S2,e,mt2,tm2,a6,a7,a8,p2,m2,z1,z2,rfl,rfl⟩:=Ri (st:=st) (x:=x) hM me (by omega) hN hm' hi' (A8 hp hc) (hp.subset ho) o6 o7 o8
  refine⟨_,_,e,mt2,tm2,_,_,_,_,hp.trans p2,m2,fun k hk=>?_,rfl,rfl⟩
  rcases lu.mp hk with z|z
  ·exact⟨p2.subset (lT k z).1,p2.subset (lT k z).2⟩
  ·subst z;exact⟨z1,z2⟩
 ·rintro ρ S ⟨nV,uq,o5,o6,o7,o8,hp,hm',lT,rfl,rfl⟩
  exact⟨_,_,rfl,nV,uq,o5,o6,o7,o8,hp,hm',fun k hk=>lT k (by simpa[cB]using hk),rfl,rfl⟩
theorem IN(hM:lx M N)(me:M.nm.Nodup)(IU:M.nm.length<=10)(C1:1<=N)(hN:N<=9):∃mt tm y,Tm M N mt tm/\(∀k,k<M.tb.length->∀a∈mt,∀b∈mt,a9 M k a b∈mt)/\CA [M.w] st=.ok (.loc (st.length+1)) (tS st mt tm y):=by
 suffices hh:gJ (rD fun w bG=>∃j x,w=.loc (st.length+j)/\bG=st++x/\j=1/\∃mt tm y,Tm M N mt tm/\(∀k,k<M.tb.length->∀a∈mt,∀b∈mt,a9 M k a b∈mt)/\x=.lst (dZ mt)::.dct (tD tm mt)::y) (Nm ([M.w].map some++List.replicate (9-1) none) st) by
  obtain⟨j,x,⟨rfl,mt,tm,y,h1,h2,rfl⟩,e⟩:=jl hh
  exact⟨mt,tm,y,h1,h2,e⟩
 apply au
 ·exact bu (vE (al cK bb) (by show 1<=1000000;decide))
 apply au
 ·exact bu Lc
 apply au
 ·exact bu cK
 have m0:Tm M N [0] fun _=>.nil:=⟨⟨⟨[],rfl⟩,by simp,fun a ha=>by simp at ha;omega,fun C c0 _ a ha=>by simp at ha;subst ha;exact c0⟩,fun a ha=>by simp at ha;subst ha;rfl,fun a ha=>by show 0+1<=2^1;decide⟩
 refine lI (fun n ρ S=>∃q mt tm x o4 o5 o6 o7 o8,n+q=N/\q<=mt.length/\Tm M N mt tm/\(∀i j a b,i<q->j<q->mt[i]?=some a->mt[j]?=some b->∀k,k<M.tb.length->a9 M k a b∈mt)/\ρ=tR M st q o4 o5 o6 o7 o8/\S=tS st mt tm x) N ⟨0,[0],fun _=>.nil,[],none,none,none,none,none,by omega,by simp,m0,fun i j a b hi=>absurd hi (cO _),by simp,by simp;rfl⟩ ?_ ?_
 ·rintro n ρ S ⟨q,mt,tm,x,o4,o5,o6,o7,o8,hnq,hq,hm,lT,rfl,rfl⟩
  have hlm:=hm.met.len
  have cm:(tS st mt tm x)[st.length]?=some (.lst (dZ mt)):=by rw[bN];rfl
  have ln:=io (aM cm)
  rw[ai]at ln
  have tsx:fq (e2 DF (af 3) (bc cW (ag (af 1) av))) (tR M st q o4 o5 o6 o7 o8) (tS st mt tm x)=.ok (decide (q<mt.length)) (tS st mt tm x):=bQ (bd kv (be kn ln) (hV (by rw[cD];simp)))
  by_cases hlt:q<mt.length
  ·refine .inr ⟨by rw[tsx,aK hlt],?_⟩
   obtain⟨c,hc⟩:∃c,mt[q]?=some c:=⟨_,aa hlt⟩
   have hcut:kH (dZ mt) none (some ((q:Int)+1))=dZ (mt.take (q+1)):=by
    rw[show((q:Int)+1)=((q+1:Nat):Int) by omega,rS (by rw[ai];omega)]
    unfold dZ;rw[oY]
   have sl:BN (.loc st.length) none (some ((q:Int)+1)) (tS st mt tm x)=.ok (.loc (tS st mt tm x).length) (tS st mt tm x++[.lst (dZ (mt.take (q+1)))]):=by
    rw[Cg (aM cm),hcut]
   have ls:nK [.loc (tS st mt tm x).length] (tS st mt tm x++[.lst (dZ (mt.take (q+1)))])=.ok (.loc (tS st mt tm x++[aj.lst (dZ (mt.take (q+1)))]).length) (tS st mt tm x++[.lst (dZ (mt.take (q+1)))]++[.lst (dZ (mt.take (q+1)))]):=by
    unfold nK;simp only[aM bE,cL]
   have hx1:(tS st mt tm x++[.lst (dZ (mt.take (q+1)))]++[.lst (dZ (mt.take (q+1)))]:List aj)=tS st mt tm (x++[.lst (dZ (mt.take (q+1)))]++[.lst (dZ (mt.take (q+1)))]):=by unfold tS;simp
   have hloc:(tS st mt tm x++[aj.lst (dZ (mt.take (q+1)))]).length=st.length+(x.length+3):=by unfold tS;simp
   have Ep:∀(nV:List Nat) (uq:Nat->MT),(tS st nV uq (x++[.lst (dZ (mt.take (q+1)))]++[.lst (dZ (mt.take (q+1)))]))[st.length+(x.length+3)]?=some (.lst (dZ (mt.take (q+1)))):=fun nV uq=>by
    rw[dH,fW,fW,cn (by simp)];simp
   have ei:cF (bc nK (ag (Fi (af 1) qX (lA (e2 dE (af 3) (eI 1)))) av)) (tR M st q o4 o5 o6 o7 o8) (tS st mt tm x)=.ok (dZ (mt.take (q+1)),some (st.length+(x.length+3),dZ (mt.take (q+1)))) (tS st mt tm (x++[.lst (dZ (mt.take (q+1)))]++[.lst (dZ (mt.take (q+1)))])):=by
    rw[<- hx1,<- hloc]
    refine fM (be (al (AF kv F9 (wE (bd kv cK e7)) sl) bb) ls) (aM bE)
   generalize x++[.lst (dZ (mt.take (q+1)))]++[.lst (dZ (mt.take (q+1)))]=x1 at Ep ei
   refine cR (fun i ρ S=>∃nV uq o4 o5 o6 o7 o8,mt <+: nV/\Tm M N nV uq/\(∀i' o,i'<i->mt[i']?=some o->i'<q+1->∀k,k<M.tb.length->a9 M k c o∈nV/\a9 M k o c∈nV)/\ρ=tR M st q o4 o5 o6 o7 o8/\S=tS st nV uq x1) ei ⟨mt,tm,o4,o5,o6,o7,o8,ah _,hm,fun i' o hi=>absurd hi (cO _),rfl,rfl⟩ ?_ ?_ ?_
   ·rintro i ρ S ⟨nV,uq,o4,o5,o6,o7,o8,_,_,_,rfl,rfl⟩
    exact aM (Ep nV uq)
   ·rintro i w ρ S hw ⟨nV,uq,o4,o5,o6,o7,o8,hp,hm',hc',rfl,rfl⟩
    rw[ak]at hw
    obtain⟨o,ho,rfl⟩:=aU.mp hw
    have qN:mt[i]?=some o:=by
     rw[List.getElem?_take]at ho
     split at ho
     ·exact ho
     ·cases ho
    refine⟨_,rfl,?_⟩
    obtain⟨ρ2,S2,e,mt2,tm2,a5,a6,a7,a8,p2,m2,z,rfl,rfl⟩:=Rj (st:=st) (x:=x1) hM me IU hN hm' (A8 hp hc) (hp.subset (aA qN)) o5 o6 o7 o8
    refine⟨_,_,e,mt2,tm2,_,_,_,_,_,hp.trans p2,m2,fun i' o' hi' he' hq' k hk=>?_,rfl,rfl⟩
    rcases lu.mp hi' with y|y
    ·exact⟨p2.subset (hc' i' o' y he' hq' k hk).1,p2.subset (hc' i' o' y he' hq' k hk).2⟩
    ·subst y;rw[qN]at he';cases he';exact z k hk
   ·rintro ρ S ⟨nV,uq,o4,o5,o6,o7,o8,hp,hm',hc',rfl,rfl⟩
    have htl:(dZ (mt.take (q+1))).length=q+1:=by rw[ai,aZ];omega
    rw[htl]at hc'
    have hlm':=hm'.met.len
    refine⟨_,_,bu (bd kv cK e7),n-1,by omega,q+1,nV,uq,x1,o4,o5,o6,o7,o8,by omega,?_,hm',fun i j a b hi hj ha hb k hk=>?_,by show _=tR _ _ _ _ _ _ _ _;unfold tR;rw[show((q+1:Nat):Int)=(q:Int)+1 by omega];rfl,rfl⟩
    ·have:=hp.length_le;omega
    ·have old:∀{i a:Nat},i<q+1->nV[i]?=some a->mt[i]?=some a:=fun{i a} hi he=>by
      have hl:i<mt.length:=by omega
      have:=A8 hp (aa hl)
      rw[he]at this;rw[aa hl,this]
     have ha':=old hi ha
     have hb':=old hj hb
     by_cases zi:i=q
     ·subst zi
      rw[hc]at ha';cases ha'
      exact(hc' j b hj hb' hj k hk).1
     ·by_cases zj:j=q
      ·subst zj
       rw[hc]at hb';cases hb'
       exact(hc' i a hi ha' hi k hk).2
      ·exact hp.subset (lT i j a b (by omega) (by omega) ha' hb' k hk)
  ·exact .inl (by rw[tsx,aN hlt])
 ·rintro n ρ S ⟨q,mt,tm,x,o4,o5,o6,o7,o8,hnq,hq,hm,lT,rfl,rfl⟩ hf
  have cm:(tS st mt tm x)[st.length]?=some (.lst (dZ mt)):=by rw[bN];rfl
  have ln:=io (aM cm)
  rw[ai]at ln
  have N7:mt.length<=q:=by
   rcases iU q mt.length with z|z
   ·exact(A1 hf (bQ (bd kv (be kn ln) (hV (aK (by omega)))))).elim
   ·exact z
  refine⟨_,_,kR kv,1,_,rfl,rfl,rfl,mt,tm,x,hm,fun k hk a ha b hb=>?_,rfl⟩
  obtain⟨i,hi⟩:=bC ha
  obtain⟨j,hj⟩:=bC hb
  exact lT i j a b (aT (ac.mp hi).1 N7) (aT (ac.mp hj).1 N7) hi hj k hk
end
theorem zt{f g:α->List β}:∀{l:List α},(∀a∈l,f a=g a)->l.flatMap f=l.flatMap g
 |[],_=>rfl
 |a::l,h=>by rw[List.flatMap_cons,List.flatMap_cons,h a aQ,zt fun b hb=>h b (aD _ hb)]
theorem zu(k k':KX)(v:W):∀kvs:List (KX×W),dS (kvs.map fun p=>if p.1=k then(p.1,v)else p) k'=if k'=k then(dS kvs k).map (fun _=>v)else dS kvs k'
 |[]=>by simp[dS]
 |p::l=>by
  rw[aH,jc,jc,jc,zu k k' v l]
  by_cases hp:p.1=k
  ·rw[ar hp]
   by_cases hk:k'=k
   ·rw[ar (show(p.1,v).1=k' from hp.trans hk.symm),ar hk,ar hp];rfl
   ·rw[az (show ¬ (p.1,v).1=k' from fun z=>hk (z.symm.trans hp)),az hk,az hk,az (fun z:p.1=k'=>hk (z.symm.trans hp))]
  ·rw[az hp]
   by_cases hk:k'=k
   ·rw[az (fun z=>hp (z.trans hk)),ar hk,ar hk,az hp]
   ·rw[az hk,az hk]
theorem zv(k k':KX)(v:W):∀kvs:List (KX×W),dS (kvs++[(k,v)]) k'=match dS kvs k' with|some w=>some w|none=>if k=k' then some v else none
 |[]=>by rw[fA,jc];rfl
 |p::l=>by
  rw[l_,jc,jc,zv k k' v l]
  by_cases hp:p.1=k'
  ·rw[ar hp,ar hp]
  ·rw[az hp,az hp]
theorem qc(kvs:List (KX×W))(k k':KX)(v:W):dS (jw kvs k v) k'=if k'=k then some v else dS kvs k':=by
 unfold jw
 by_cases h:(dS kvs k).isSome=true
 ·rw[ar h,zu]
  by_cases hk:k'=k
  ·rw[ar hk,ar hk]
   obtain⟨w,hw⟩:=dU.mp h
   rw[hw];rfl
  ·rw[az hk,az hk]
 ·rw[az h,zv]
  have hn:dS kvs k=none:=by cases e:dS kvs k with|none=>rfl|some w=>rw[e]at h;exact absurd rfl h
  by_cases hk:k'=k
  ·subst hk;rw[hn,ar rfl]
  ·rw[az hk]
   cases dS kvs k' with
   |some w=>rfl
   |none=>simp only;rw[az (fun z=>hk z.symm)]
theorem qM{k:KX}{v:W}{t:Nat}(h:∀p∈kvs,p.1.tag=t)(hk:k.tag=t):∀p∈jw kvs k v,p.1.tag=t:=by
 unfold jw
 intro p hp
 split at hp
 ·obtain⟨q,hq,rfl⟩:=aJ.mp hp
  split
  ·exact h q hq
  ·exact h q hq
 ·rcases aI.mp hp with z|z
  ·exact h p z
  ·simp at z;subst z;exact hk
theorem ud(kvs:List (KX×W))(k:KX)(v:W):(jw kvs k v).length<=kvs.length+1:=by
 unfold jw
 split
 ·rw[ai];omega
 ·simp
theorem oA{S y:List aj}{z:Nat×List (KX×W)}(h:dL S (.loc n)=some z):dL (S++y) (.loc n)=some z:=by
 unfold dL at h ⊢
 cases e:S[n]? with
 |none=>simp only[e]at h;cases h
 |some c=>simp only[e]at h;simp only[aG e];exact h
theorem Nv{S:List aj}{k:KX}{y:W}{b:Bool}(hd:dL S (.loc n)=some (n,kvs))(hk:kg y=some k)(ok:um kvs k=true)(hb:(!(dS kvs k).isSome)=b):AA true y (.loc n) S=.ok (.bl b) S:=by
 unfold AA
 simp only[hd,hk,ok,dC,hb]
theorem IP{S:List aj}{k:KX}{y v:W}(hd:dL S (.loc n)=some (n,kvs))(hk:kg y=some k)(ok:um kvs k=true):q_ (.loc n) y v S=some (S.set n (.dcx (jw kvs k v))):=by
 unfold q_
 simp only[hd,hk,ok,dC]
theorem U2(a b:Nat):W.tup [.int (a:Nat),.int (b:Nat)]=.tup (([(a:Nat),(b:Nat)]:List Int).map W.int):=rfl
theorem ue(a b:Nat):kg (.tup [.int (a:Nat),.int (b:Nat)])=some (.fl [(a:Nat),(b:Nat)]):=by rw[U2];exact CJ _
theorem CY{S:List aj}(h:n<S.length):dL (S.set n (.dcx kvs)) (.loc n)=some (n,kvs):=by
 unfold dL
 simp only[ba h]
theorem Nw{a b c d:Nat}:(KX.fl [(a:Nat),(b:Nat)]=KX.fl [(c:Nat),(d:Nat)])↔a=c/\b=d:=by
 rw[KX.fl.injEq]
 simp only[List.cons.injEq,and_true]
 omega
section
variable{M:Mc}
theorem IQ(hM:lx M N){k:Nat}(hk:k<N)(st:List aj):bg (.tup (M.gd.map W.bl)) (.int k) st=.ok (.bl (gM M k)) st:=Nt hM hk st
theorem zw(hM:lx M N)(hN:1<=N)(t:MT)(hl:t.size<=900000)(st:List aj):yP [M.w,jz t.po] st=.ok (.bl (gM M (hW M t))) st:=by
 refine ip (N:=2) (ws:=[M.w,jz t.po]) (body:=M9) ?_ rfl
 have ll:=qK t.po st
 by_cases z:t=.nil
 ·subst z
  refine fQ (bQ (bd (be kn ll) cK (i7 rfl))) ?_
  exact f7 (bd kx cK (IQ (k:=0) hM hN st)) ⟨_,_,rfl,rfl,[],by simp⟩
 ·have h0:t.po.length≠0:=by
   rw[jA]
   cases t with
   |nil=>exact(z rfl).elim
   |nd l r m=>unfold MT.size;omega
  refine cf (bQ (bd (be kn ll) cK (i7 (by rw[bq];omega)))) ?_
  refine cX ?_
  obtain⟨S,sz,lk,hg⟩:=Nu t
  obtain⟨x,e,hx⟩:=Rg hM hN hg (by rw[jA];exact hl) st
  have hx2:(st++x)[st.length+1]?=some (.lst ((List.range t.po.length).map fun j=>W.int (hW M (kU t.po j):Nat))):=by rw[dH];exact hx
  refine b9 (bd kx (bd (bU (al kv kn) e rfl) (yy cK) (kS (aM hx2) (wF (q:=0) (x:=.int (hW M t:Nat)) ?_))) (IQ hM (uc hM hN t) _)) ⟨_,_,rfl,rfl,_,rfl⟩
  obtain⟨k,hk⟩:∃k,t.po.length=k+1:=⟨t.po.length-1,by omega⟩
  rw[hk,ii,ce,List.reverse_append]
  have:=A6 z
  rw[hk]at this
  show some (W.int (hW M (kU t.po k):Nat))=_
  rw[show k+1-1=k by omega]at this
  rw[this]
theorem zx(hM:lx M N)(hN:1<=N)(t:MT)(hl:t.size<=900)(st:List aj):tJ [M.w,jz t.po] st=.ok (.bl (gM M (hW M t))) st:=by
 by_cases z:t=.nil
 ·subst z
  have:=CV (M:=M) .nil (cH _) hM hN st
  exact this
 ·obtain⟨R,_,_,_,h⟩:=A7 hM hN z hl
  exact h st
end
section
variable{M:Mc}{s x y:Nat}
theorem zy{L:Nat}{q:Nat×Nat×Nat}(h:q∈kJ L rs):q.2.1=0\/q.2.1=1:=by
 unfold kJ at h
 obtain⟨a,_,h⟩:=fX.mp h
 rcases aI.mp h with z|z
 ·obtain⟨t,_,rfl⟩:=aJ.mp z;exact .inl rfl
 ·obtain⟨t,_,rfl⟩:=aJ.mp z;exact .inr rfl
theorem IR:y_ (a9 M) M.tb.length (gM M) rs s x y=y_ (a9 M) M.tb.length (gM M) rs s y x:=by
 cases s with
 |zero=>
  show(if ap _ _ _ _ 0 x y=true then _ else _)=if ap _ _ _ _ 0 y x=true then _ else _
  rw[mB]
 |succ s=>
  show((kJ _ _).find? _).map Et=((kJ _ _).find? _).map Et
  congr 1
  congr 1
  funext p
  exact mB _ _ _
structure Pd(M:Mc)(rs:List Nat)(s x y:Nat):Prop where
 hx:x∈rs
 hy:y∈rs
 o:jo M rs s x y=true
 a:A2 M rs s x y=true
theorem Pd.one{s':Nat}(h:Pd M rs s x y)(h':Pd M rs s' x y):s=s':=by
 have h1:=Il.mpr ⟨h.o,h.a⟩
 have h2:=Il.mpr ⟨h'.o,h'.a⟩
 rcases iW s s' with z|z|z
 ·have:=AY h'.o z
  rw[show ap (a9 M) M.tb.length (gM M) rs s x y=true from h.a]at this;cases this
 ·exact z
 ·have:=AY h.o z
  rw[show ap (a9 M) M.tb.length (gM M) rs s' x y=true from h'.a]at this;cases this
theorem vR(s a b:Nat):jo M rs s a b=jo M rs s b a:=by
 cases s with
 |zero=>rfl
 |succ s=>show(!ap _ _ _ _ s a b)=!ap _ _ _ _ s b a;rw[mB]
theorem Pd.comm(h:Pd M rs s x y):Pd M rs s y x:=⟨h.hy,h.hx,by rw[vR];exact h.o,by show ap _ _ _ _ _ _ _=_;rw[mB];exact h.a⟩
theorem Pd.ne(h:Pd M rs s x y):x≠y:=fun e=>by
 have:=h.a
 rw[e]at this
 rw[show A2 M rs s y y=false from wV _ _]at this;cases this
theorem Pd.row(h:Pd M rs s x y):(s=0/\d7 M rs s (x,y)=.tup [.int (x:Nat),.int (y:Nat),.int 0,.tup []]/\gM M x≠gM M y) \/
  ∃s' q,s=s'+1/\q∈kJ M.tb.length rs/\d7 M rs s (x,y)=.tup [.int (x:Nat),.int (y:Nat),.int ((s'+1:Nat):Int),Et q]/\A2 M rs s' (led (a9 M) q x) (led (a9 M) q y)=true/\jo M rs s' (led (a9 M) q x) (led (a9 M) q y)=true:=by
 have hw:=Ij (T:=a9 M) (L:=M.tb.length) (g:=gM M) (rs:=rs) (s:=s) (a:=x) (b:=y) h.o
 have hap:ap (a9 M) M.tb.length (gM M) rs s x y=true:=h.a
 rw[hap]at hw
 obtain⟨w,e⟩:=dU.mp hw
 cases s with
 |zero=>
  have e':(if ap (a9 M) M.tb.length (gM M) rs 0 x y=true then some (W.tup [])else none)=some w:=e
  rw[ar hap]at e';cases e'
  refine .inl ⟨rfl,?_,?_⟩
  ·unfold d7 za;rw[e];rfl
  ·have:(gM M x != gM M y)=true:=hap
   simpa using this
 |succ s=>
  obtain⟨q,hq,rfl⟩:=aU.mp (show(((kJ M.tb.length rs).find? fun q=>ap (a9 M) M.tb.length (gM M) rs s (led (a9 M) q x) (led (a9 M) q y)).map Et)=some w from e)
  have hm:=gZ hq
  have hq1:ap (a9 M) M.tb.length (gM M) rs s (led (a9 M) q x) (led (a9 M) q y)=true:=List.find?_some (p:=fun q=>ap (a9 M) M.tb.length (gM M) rs s (led (a9 M) q x) (led (a9 M) q y)) hq
  refine .inr ⟨s,q,rfl,hm,?_,hq1,CI h.o hm⟩
  unfold d7 za;rw[e];rfl
theorem Rk{p:Nat×Nat}(hp:p∈fZ M rs s):Pd M rs s p.1 p.2:=by
 obtain⟨⟨h1,h2⟩,h3,h4⟩:=rY hp
 exact⟨h1,h2,h3,h4⟩
end
theorem Ef{fc:FE}{cV ju LI Jh:List aj}{x y w v:W}(h1:fa ρ st=.ok x st1)(h2:fb ρ st1=.ok y cV)(h3:f x y cV=.ok (.bl true) ju)(h4:fc ρ ju=.ok w LI)(h5:f' y w LI=.ok v Jh):sH f f' fa fb fc ρ st=.ok v Jh:=by
 unfold sH;rw[h1];simp only[R.bind_ok];rw[h2];simp only[R.bind_ok];rw[h3];simp only[R.bind_ok];rw[h4];exact h5
section
variable{M:Mc}{s x y:Nat}
theorem Eg{d:Nat}{tm:Nat->MT}(hd:st[d]?=some (.dct (tD tm mt)))(uS:∀a∈rs,a∈mt)(h:Pd M rs s x y):yS [M.w,.loc d,d7 M rs s (x,y)] st=.ok (.bl true) st:=by
 have d1:gn st (.loc d)=some (d,tD tm mt):=by unfold gn;simp only[hd]
 have inn:∀a∈rs,lE true (.int (a:Nat)) (.loc d) st=.ok (.bl false) st:=fun a ha=>tP (neg:=true) d1 (by rw[IL,aK (uS a ha)];rfl)
 have iny:∀a∈rs,lE false (.int (a:Nat)) (.loc d) st=.ok (.bl true) st:=fun a ha=>tP (neg:=false) d1 (by rw[IL,aK (uS a ha)];rfl)
 rcases h.row with⟨rfl,e,_⟩|⟨s',q,rfl,hq,e,_,_⟩
 ·rw[e]
  refine ip (N:=4) (ws:=[M.w,.loc d,.tup [.int (x:Nat),.int (y:Nat),.int 0,.tup []]]) (body:=HF) ?_ rfl
  refine cf (st1:=st) ?_ (cX ?_)
  ·refine eK (by(walk_at "evs")) (eK (by(walk_at "evs")) (eK (by(walk_at "evs")) ?_))
   exact bQ (bd (be (al kx bb) jx) (d_ (al cK (al cK bb)) (by show 2<=1000000;decide)) rfl)
  refine cR (k:=([.int (x:Nat),.int (y:Nat),.int 0],none)) (fun i ρ S=>∃o,ρ=[some M.w,some (.loc d),some (.tup [.int (x:Nat),.int (y:Nat),.int 0,.tup []]),o]/\S=st) (jU (bd (AF kv F9 (wE cK) (by rfl)) kx (by rfl))) ⟨none,rfl,rfl⟩ (fun _ _ _ _=>trivial) ?_ ?_
  ·rintro i w ρ S hw ⟨o,rfl,rfl⟩
   have:∃z,w=.int z:=by
    match i,hw with
    |0,hw=>cases hw;exact⟨_,rfl⟩
    |1,hw=>cases hw;exact⟨_,rfl⟩
    |2,hw=>cases hw;exact⟨_,rfl⟩
   obtain⟨z,rfl⟩:=this
   exact⟨_,rfl,iB (eK (by(walk_at "evs")) (by(walk_at "evs"))) ⟨_,_,rfl,_,rfl,rfl⟩⟩
  ·rintro ρ S ⟨o,rfl,rfl⟩
   refine cf (st1:=S) ?_ (cX ?_)
   ·refine eK (bQ (bd kx kv (inn x h.hx))) (eK (bQ (bd kx kv (inn y h.hy))) ?_)
    exact bQ (bd (bd kx cK (hV (k:=false) rfl)) (bd (be (al kx bb) jx) cK (i7 (k:=false) rfl)) rfl)
   refine fQ (by(walk_at "evs")) ?_
   exact f7 (by(walk_at "evs")) ⟨_,_,rfl,rfl,[],by simp⟩
 ·rw[e]
  obtain⟨q1,q2⟩:=wX hq
  have q3:=zy hq
  obtain⟨k,sd,t⟩:=q
  unfold Et
  refine ip (N:=4) (ws:=[M.w,.loc d,.tup [.int (x:Nat),.int (y:Nat),.int ((s'+1:Nat):Int),.tup [.int (k:Nat),.int (sd:Nat),.int (t:Nat)]]]) (body:=HF) ?_ rfl
  refine cf (st1:=st) ?_ (cX ?_)
  ·refine eK (by(walk_at "evs")) (eK (by(walk_at "evs")) (eK (by(walk_at "evs")) ?_))
   exact bQ (bd (be (al kx bb) jx) (d_ (al cK (al cK bb)) (by show 2<=1000000;decide)) rfl)
  refine cR (k:=([.int (x:Nat),.int (y:Nat),.int ((s'+1:Nat):Int),.int (k:Nat),.int (sd:Nat),.int (t:Nat)],none)) (fun i ρ S=>∃o,ρ=[some M.w,some (.loc d),some (.tup [.int (x:Nat),.int (y:Nat),.int ((s'+1:Nat):Int),.tup [.int (k:Nat),.int (sd:Nat),.int (t:Nat)]]),o]/\S=st) (jU (bd (AF kv F9 (wE cK) (by rfl)) kx (by rfl))) ⟨none,rfl,rfl⟩ (fun _ _ _ _=>trivial) ?_ ?_
  ·rintro i w ρ S hw ⟨o,rfl,rfl⟩
   have:∃z,w=.int z:=by
    match i,hw with
    |0,hw=>cases hw;exact⟨_,rfl⟩
    |1,hw=>cases hw;exact⟨_,rfl⟩
    |2,hw=>cases hw;exact⟨_,rfl⟩
    |3,hw=>cases hw;exact⟨_,rfl⟩
    |4,hw=>cases hw;exact⟨_,rfl⟩
    |5,hw=>cases hw;exact⟨_,rfl⟩
   obtain⟨z,rfl⟩:=this
   exact⟨_,rfl,iB (eK (by(walk_at "evs")) (by(walk_at "evs"))) ⟨_,_,rfl,_,rfl,rfl⟩⟩
  ·rintro ρ S ⟨o,rfl,rfl⟩
   refine cf (st1:=S) ?_ (cX ?_)
   ·refine eK (bQ (bd kx kv (inn x h.hx))) (eK (bQ (bd kx kv (inn y h.hy))) ?_)
    exact bQ (bd (bd kx cK (hV (k:=true) (aK (by omega)))) (bd (be (al kx bb) jx) cK (i7 (k:=true) rfl)) rfl)
   refine cf (by(walk_at "evs")) (cX ?_)
   have hsd:sA false (.int (sd:Nat)) (.tup [.int 0,.int 1]) S=.ok (.bl true) S:=by
    rcases q3 with z|z<;>(have z:sd=_:=z;subst z;rfl)
   have hln:cW [W.tup (M.tb.map fY)] S=.ok (.int (M.tb.length:Nat)) S:=by
    have:=jx (ws:=M.tb.map fY) (st:=S)
    rwa[ai]at this
   exact b9 (wD (Ef cK (bd kx cK ox) (Gb (k:=true) (aK (by omega))) (be (al kx bb) hln) (hV (k:=true) (aK (by show((k:Nat):Int)<_;have:k<M.tb.length:=q1;omega)))) (wD (bd (bd kx cK ox) (d_ (al cK (al cK bb)) (by show 2<=1000000;decide)) hsd) (bd (bd kx cK ox) kv (iny t q2)))) ⟨_,_,rfl,rfl,[],by simp⟩
end
section
variable{M:Mc}
structure IS(M:Mc)(rs:List Nat)(n:Nat)(kvs:List (KX×W)):Prop where
 val:∀(x y:Nat) v,dS kvs (.fl [(x:Nat),(y:Nat)])=some v->∃s,Pd M rs s x y/\v=d7 M rs s (x,y)
 has:∀s x y,s<n->Pd M rs s x y->(dS kvs (.fl [(x:Nat),(y:Nat)])).isSome=true
 ok:∀l:List Int,um kvs (.fl l)=true
theorem IS.get{s x y:Nat}(h:IS M rs n kvs)(hs:s<n)(p:Pd M rs s x y):dS kvs (.fl [(x:Nat),(y:Nat)])=some (d7 M rs s (x,y)):=by
 obtain⟨v,e⟩:=dU.mp (h.has s x y hs p)
 obtain⟨s',p',rfl⟩:=h.val x y v e
 rw[p.one p'];exact e
theorem Ly{fk:FE}{y:W}{k:KX}(h1:fo ρ st=.ok (.loc n) st)(hd:dL st (.loc n)=some (n,kvs))(h2:fk ρ st=.ok y st)(hk:kg y=some k)(ok:um kvs k=true):s_ fo fk ρ st=.ok ((dS kvs k).getD .non) st:=by
 unfold s_
 rw[h1];simp only[R.bind_ok,hd]
 rw[h2];simp only[R.bind_ok,hd,hk,ok,dC]
abbrev yW(M:Mc)(rs:List Nat)(s x y:Nat):W:=(y_ (a9 M) M.tb.length (gM M) rs s x y).getD .non
theorem Rn(s x y:Nat):d7 M rs s (x,y)=.tup [.int (x:Nat),.int (y:Nat),.int (s:Nat),yW M rs s x y]:=rfl
abbrev XF:FT:=fq (e2 Ai (e2 bg (af 3) (eI 2)) (eI 0))
theorem A_(hM:lx M N)(C1:1<=N)(hN:N<=9)(me:M.nm.Nodup)(IU:M.nm.length<=60){d e:Nat}{tm:Nat->MT}(hd:st[d]?=some (.dct (tD tm mt)))(he:dL st (.loc e)=some (e,kvs))(hT:Tm M N mt tm)(uS:∀a∈rs,a∈mt)(lT:∀k,k<M.tb.length->∀a∈rs,∀b∈rs,a9 M k a b∈rs)(hP:IS M rs n kvs)(hn:n<=1000){s0 x0 y0:Nat}(h0:Pd M rs s0 x0 y0)(LJ:s0<n) :
  yT [M.w,.loc d,.loc e,d7 M rs s0 (x0,y0)] st=.ok (.bl true) st:=by
 refine ip (N:=14) (ws:=[M.w,.loc d,.loc e,d7 M rs s0 (x0,y0)]) (body:=Nn) ?_ rfl
 have d1:gn st (.loc d)=some (d,tD tm mt):=by unfold gn;simp only[hd]
 have ixd:∀a∈rs,gp (.loc d) (.int (a:Nat)) st=.ok (jz (tm a).po) st:=fun a ha=>kj d1 (iq (V:=fun a=>jz (tm a).po) hT.met.nd (uS a ha))
 apply au
 ·exact bu (bd kv kx (ixd x0 h0.hx))
 apply au
 ·exact bu (bd kv kx (ixd y0 h0.hy))
 refine lI (fun m ρ S=>∃x y tl tr o6 o7 o8 o9 nw oQ ur,Pd M rs m x y/\m<n/\hW M tl=x/\hW M tr=y/\tl.size<=511+512*(n-m)/\tr.size<=511+512*(n-m)/\ρ=[some M.w,some (.loc d),some (.loc e),some (d7 M rs m (x,y)),some (jz tl.po),some (jz tr.po),o6,o7,o8,o9,nw,oQ,ur,none]/\S=st) s0
  ⟨x0,y0,tm x0,tm y0,none,none,none,none,none,none,none,h0,LJ,hT.rm x0 (uS x0 h0.hx),hT.rm y0 (uS y0 h0.hy),by have:=hT.le hN (uS x0 h0.hx);omega,by have:=hT.le hN (uS y0 h0.hy);omega,rfl,rfl⟩ ?_ ?_
 ·rintro m ρ S ⟨x,y,tl,tr,o6,o7,o8,o9,nw,oQ,ur,hp,hm,rx,ry,sx,sy,rfl,rfl⟩
  have tsx:XF [some M.w,some (.loc d),some (.loc e),some (d7 M rs m (x,y)),some (jz tl.po),some (jz tr.po),o6,o7,o8,o9,nw,oQ,ur,none] S=.ok (decide (0<m)) S:=bQ (bd kx cK (hV (by rw[cD];simp)))
  rcases hp.row with⟨rfl,_,_⟩|⟨s',q,rfl,hq,er,ha,ho⟩
  ·exact .inl tsx
  ·refine .inr ⟨tsx.trans (by simp),?_⟩
   obtain⟨q1,q2⟩:=wX hq
   have q3:=zy hq
   obtain⟨k,sd,t⟩:=q
   have q1:k<M.tb.length:=q1
   have q2:t∈rs:=q2
   have q3:sd=0\/sd=1:=q3
   have ht:=aa q1
   have lt:∀a∈rs,a<N:=fun a ha=>hT.met.lt a (uS a ha)
   have hts:=hT.le hN (uS t q2)
   have rt:=hT.rm t (uS t q2)
   have hnum:gc (uo M.nm k) M.nm=k:=zo me (by rw[<- hM.tb];exact q1)
   rw[er]
   unfold Et
   dsimp only
   apply au
   ·exact yY kx rfl
   apply au
   ·exact bu (bU (al kx kn) (zp M.nm k IU _) rfl)
   apply au
   ·exact bu (bd kx kv (t8 ht _))
   have key:∀(x' y':Nat) (Vl Vu:MT) (o4:Option W),Pd M rs s' x' y'->hW M Vl=x'->hW M Vu=y'->Vl.size<=tl.size+512->Vu.size<=tr.size+512 ->
    gJ (Gg fun ρ S'=>∃m',m'<s'+1/\∃x y tl tr o6 o7 o8 o9 nw oQ ur,Pd M rs m' x y/\m'<n/\hW M tl=x/\hW M tr=y/\tl.size<=511+512*(n-m')/\tr.size<=511+512*(n-m')/\ρ=[some M.w,some (.loc d),some (.loc e),some (d7 M rs m' (x,y)),some (jz tl.po),some (jz tr.po),o6,o7,o8,o9,nw,oQ,ur,none]/\S'=S)
     ((aL (bp 12 (e2 bg (af 3) (eI 2))) (aL (bp 3 (s_ (af 2) (af 11))) (i5 (xA (fq (uD (af 3))) (fq (e2 Aj (e2 bg (af 3) (eI 2)) (e2 qu (af 12) (eI 1))))) (cA (eC (.bl false))) cQ)))
      [some M.w,some (.loc d),some (.loc e),some (.tup [.int (x:Nat),.int (y:Nat),.int ((s'+1:Nat):Int),.tup [.int (k:Nat),.int (sd:Nat),.int (t:Nat)]]),some (jz Vl.po),some (jz Vu.po),some (.int (k:Nat)),some (.int (sd:Nat)),some (.int (t:Nat)),some (.str (uo M.nm k)),some (fY M.tb[k]),some (.tup [.int (x':Nat),.int (y':Nat)]),o4,none] S):=by
    intro x' y' Vl Vu o4 hp' r1 r2 s1 s2
    apply au
    ·exact bu kx
    apply au
    ·exact bu (Ly kv he kv (ue x' y') (hP.ok _))
    rw[hP.get (by omega) hp',Option.getD_some]
    refine iB ?_ ⟨_,_,rfl,s',by omega,x',y',Vl,Vu,_,_,_,_,_,_,_,hp',by omega,r1,r2,by omega,by omega,rfl,rfl⟩
    refine eK (bQ (Cf kv rfl)) (bQ (bd kx (bd kv cK rfl) (Gc ?_)))
    show(!((s':Int)==((s'+1:Nat):Int)-1))=false
    rw[show((s'+1:Nat):Int)-1=(s':Int) by omega];simp
   rcases q3 with rfl|rfl
   ·obtain⟨r1,a1,a2,_⟩:=jK hM ht (lt x hp.hx) (lt t q2)
    obtain⟨r2,b1,b2,_⟩:=jK hM ht (lt y hp.hy) (lt t q2)
    refine fQ (bQ (bd kv cK (i7 rfl))) ?_
    apply j3
    apply au
    ·exact bu (d_ (al (bd (bd kv kx (lN a1)) kv (lO a2)) (al (bd (bd kv kx (lN b1)) kv (lO b2)) bb)) (by show 2<=1000000;decide))
    apply j3
    apply au
    ·exact bu (bU (al kv (al (bd kv kv (ixd t q2)) kn)) (qb tl (tm t) _ (by omega) _) rfl)
    apply au
    ·exact bu (bU (al kv (al (bd kv kv (ixd t q2)) kn)) (qb tr (tm t) _ (by omega) _) rfl)
    exact key (a9 M k x t) (a9 M k y t) _ _ _ ⟨lT k q1 x hp.hx t q2,lT k q1 y hp.hy t q2,ho,ha⟩ (by rw[ub,hnum,rx,rt]) (by rw[ub,hnum,ry,rt]) (by show _+_+1<=_;omega) (by show _+_+1<=_;omega)
   ·obtain⟨r1,a1,a2,_⟩:=jK hM ht (lt t q2) (lt x hp.hx)
    obtain⟨r2,b1,b2,_⟩:=jK hM ht (lt t q2) (lt y hp.hy)
    refine cf (bQ (bd kv cK (i7 rfl))) ?_
    apply j3
    apply au
    ·exact bu (d_ (al (bd (bd kv kv (lN a1)) kx (lO a2)) (al (bd (bd kv kv (lN b1)) kx (lO b2)) bb)) (by show 2<=1000000;decide))
    apply j3
    apply au
    ·exact bu (bU (al (bd kv kv (ixd t q2)) (al kv kn)) (qb (tm t) tl _ (by omega) _) rfl)
    apply au
    ·exact bu (bU (al (bd kv kv (ixd t q2)) (al kv kn)) (qb (tm t) tr _ (by omega) _) rfl)
    exact key (a9 M k t x) (a9 M k t y) _ _ _ ⟨lT k q1 t q2 x hp.hx,lT k q1 t q2 y hp.hy,ho,ha⟩ (by rw[ub,hnum,rx,rt]) (by rw[ub,hnum,ry,rt]) (by show _+_+1<=_;omega) (by show _+_+1<=_;omega)
 ·rintro m ρ S ⟨x,y,tl,tr,o6,o7,o8,o9,nw,oQ,ur,hp,hm,rx,ry,sx,sy,rfl,rfl⟩ hf
  have m0:m=0:=by
   rcases gk m with z|z
   ·exact z
   ·exact(A1 hf (bQ (bd kx cK (hV (aK (by omega)))))).elim
  subst m0
  have hg:gM M x≠gM M y:=by
   rcases hp.row with⟨_,_,h⟩|⟨_,_,z,_⟩
   ·exact h
   ·cases z
  have e1:=zw hM C1 tl (by omega) S
  have e2':=zw hM C1 tr (by omega) S
  rw[rx]at e1
  rw[ry]at e2'
  apply au
  ·exact bu (bU (al kv kn) e1 rfl)
  have hny:gM M y=!gM M x:=by cases h1:gM M x<;>cases h2:gM M y<;>simp_all
  refine om (fun ρ S'=>ρ=[some M.w,some (.loc d),some (.loc e),some (d7 M rs 0 (x,y)),some (jz tl.po),some (jz tr.po),o6,o7,o8,o9,nw,oQ,ur,some (.bl (gM M x))]/\S'=S) ?_ ?_
  ·have tmx:fq (e2 Ap (bc yb (ag (bc cW (ag (af 4) av)) (ag (bc cW (ag (af 5) av)) av))) (eI 100)) [some M.w,some (.loc d),some (.loc e),some (d7 M rs 0 (x,y)),some (jz tl.po),some (jz tr.po),o6,o7,o8,o9,nw,oQ,ur,some (.bl (gM M x))] S=.ok (decide (max tl.size tr.size<=100)) S:=by
    refine bQ (bd (be (al (be kn (qK _ _)) (al (be kn (qK _ _)) bb)) Ua) cK (Gb ?_))
    rw[jA,jA,cD,bt,bt]
    split<;>omega
   by_cases hmx:max tl.size tr.size<=100
   ·rw[aK hmx]at tmx
    refine lH tmx ?_
    have p1:=zx hM C1 tl (by omega) S
    have p2:=zx hM C1 tr (by omega) S
    rw[rx]at p1
    rw[ry,hny]at p2
    refine iB (eK (pX (a:=true) (bQ (bU (al (bU (al kv kn) p1 rfl) kn) (vP _ 39 _) rfl)) rfl) (pX (a:=true) (bQ (bU (al (bU (al kv kn) p2 rfl) (al (L9 kv rfl) bb)) (vP _ 39 _) rfl)) rfl)) ⟨_,_,rfl,rfl,rfl⟩
   ·rw[aN hmx]at tmx
    exact iB tmx ⟨_,_,rfl,rfl,rfl⟩
  ·rintro ρ S' ⟨rfl,rfl⟩
   have jt:Aj (.bl (gM M x)) (.bl (gM M y)) S'=.ok (.bl true) S':=by rw[hny];cases gM M x<;>rfl
   exact b9 (bd kv (bU (al kv kn) e2' rfl) jt) ⟨_,_,rfl,rfl,[],by simp⟩
end
section
variable{M:Mc}{x y:Nat}
theorem A'(hE:t6 M rs n)(Eu:rs.Pairwise (· < ·))(hx:x∈rs)(hy:y∈rs)(ho:jo M rs n x y=true):A2 M rs n x y=false:=by
 have main:∀{x y:Nat},x∈rs->y∈rs->jo M rs n x y=true->x<y->A2 M rs n x y=false:=fun{x y} hx hy ho hlt=>by
  cases h:A2 M rs n x y with
  |false=>rfl
  |true=>
   have hm:(x,y)∈tV (a9 M) M.tb.length (gM M) rs n:=bP.mpr ⟨(AZ Eu).mpr ⟨hx,hy,hlt⟩,by
    show(jo M rs n x y&&A2 M rs n x y)=true
    rw[ho,h];rfl⟩
   rw[hE.stop]at hm;cases hm
 rcases iW x y with z|z|z
 ·exact main hx hy ho z
 ·subst z;exact wV _ _
 ·have:=main hy hx (by rw[vR];exact ho) z
  show ap _ _ _ _ _ _ _=_
  rw[mB];exact this
theorem CZ(hE:t6 M rs n)(Eu:rs.Pairwise (· < ·))(hx:x∈rs)(hy:y∈rs)(ho:jo M rs n x y=true){q:Nat×Nat×Nat}(hq:q∈kJ M.tb.length rs):jo M rs n (led (a9 M) q x) (led (a9 M) q y)=true:=by
 refine CI (s:=n) ?_ hq
 rw[nT]
 have h1:jb (a9 M) M.tb.length (gM M) rs n x y=true:=ho
 have h2:ap (a9 M) M.tb.length (gM M) rs n x y=false:=A' hE Eu hx hy ho
 rw[h1,h2];rfl
theorem Nx(h:A2 M rs n x y=false):gM M x=gM M y:=by
 have:ap (a9 M) M.tb.length (gM M) rs 0 x y=false:=Ih n 0 (by rw[eO];exact h)
 have:(gM M x != gM M y)=false:=this
 simpa using this
theorem IT{L k sd t:Nat}(hk:k<L)(hs:sd=0\/sd=1)(ht:t∈rs):(k,sd,t)∈kJ L rs:=by
 unfold kJ
 refine fX.mpr ⟨k,bx.mpr hk,aI.mpr ?_⟩
 rcases hs with rfl|rfl
 ·exact .inl (aJ.mpr ⟨t,ht,rfl⟩)
 ·exact .inr (aJ.mpr ⟨t,ht,rfl⟩)
theorem xa{d:Int}{n:Nat}(hn:0<n){st:List aj}:∃q:Nat,q<n/\eU (.int d) (.int (n:Nat)) st=.ok (.int (q:Nat)) st:=by
 have h1:0<=d%(n:Int):=gv _ (by omega)
 have h2:d%(n:Int)<n:=iz _ (by omega)
 refine⟨(d%(n:Int)).toNat,by omega,?_⟩
 rw[jM h1]
 exact jT (by omega)
theorem Ny{v w:W}(h1:fa ρ st=.ok v st)(h2:fb ρ st=.ok w st):FW i j (ag fa (ag fb av)) ρ st=.nx ((ρ.set i (some v)).set j (some w)) st:=by
 unfold FW
 rw[al h1 (al h2 bb)];rfl
theorem zz(hM:lx M N)(hE:t6 M rs n)(hR:A3 M N rs)(hl:rs.length<=1000){r dl:Nat}{ds:List Int}(hr:st[r]?=some (.lst (dZ rs)))(NQ:st[dl]?=some (.lst (qm ds)))(zR:ds.length<=1000){a0 b0:Nat}(WV:a0∈rs)(XW:b0∈rs)(XU:jo M rs n a0 b0=true) :
  yU [M.w,.loc r,.tup [.int (a0:Nat),.int (b0:Nat)],.loc dl] st=.ok (.bl true) st:=by
 refine ip (N:=9) (ws:=[M.w,.loc r,.tup [.int (a0:Nat),.int (b0:Nat)],.loc dl]) (body:=No) ?_ rfl
 have L0:0<M.tb.length:=by rw[hM.tb];exact Nat.pos_of_ne_zero (by simp)
 have R0:0<rs.length:=gj hR.zero
 have ldl:=io (aM NQ)
 rw[show(qm ds).length=ds.length by simp[qm]]at ldl
 have lr:=io (aM hr)
 rw[ai]at lr
 have ltb:cW [W.tup (M.tb.map fY)] st=.ok (.int (M.tb.length:Nat)) st:=by
  have:=jx (ws:=M.tb.map fY) (st:=st)
  rwa[ai]at this
 have gd:∀a∈rs,bg (.tup (M.gd.map W.bl)) (.int (a:Nat)) st=.ok (.bl (gM M a)) st:=fun a ha=>IQ hM (hR.lt a ha) st
 apply au
 ·exact yY kv rfl
 refine cR (k:=(oO 0 3 (mY 0 ((ds.length:Int)-2) 3),none)) (fun i ρ S=>∃a b o6 o7 o8,a∈rs/\b∈rs/\jo M rs n a b=true/\ρ=[some M.w,some (.loc r),some (.tup [.int (a0:Nat),.int (b0:Nat)]),some (.loc dl),some (.int (a:Nat)),some (.int (b:Nat)),o6,o7,o8]/\S=st)
  (HL (al cK (al (bd (be kn ldl) cK rfl) (al cK bb))) (by omega)) ⟨a0,b0,none,none,none,WV,XW,XU,rfl,rfl⟩ (fun _ _ _ _=>trivial) ?_ ?_
 ·rintro i w ρ S hw ⟨a,b,o6,o7,o8,ha,hb,ho,rfl,rfl⟩
  have hgg:=Nx (A' hE hR.up ha hb ho)
  obtain⟨hi,rfl⟩:3*i+2<ds.length/\w=.int ((3*i:Nat):Int):=by
   simp only[oO,ak]at hw
   obtain⟨j,hj,rfl⟩:=aU.mp hw
   have hjl:=(ac.mp hj).1
   rw[c_]at hjl
   rw[g_ hjl]at hj
   cases hj
   refine⟨?_,by congr 1;omega⟩
   unfold mY at hjl
   split at hjl
   ·omega
   ·omega
  obtain⟨z1,e1⟩:∃z,ds[3*i]?=some z:=⟨_,aa (by omega)⟩
  obtain⟨z2,e2'⟩:∃z,ds[3*i+1]?=some z:=⟨_,aa (by omega)⟩
  obtain⟨z3,e3⟩:∃z,ds[3*i+2]?=some z:=⟨_,aa (by omega)⟩
  obtain⟨k,hk,m1⟩:=xa (d:=z1) (st:=S) L0
  obtain⟨ti,hti,m2⟩:=xa (d:=z2) (st:=S) R0
  obtain⟨sd,hsd,m3⟩:=xa (d:=z3) (n:=2) (st:=S) (by omega)
  obtain⟨t,ht⟩:∃t,rs[ti]?=some t:=⟨_,aa hti⟩
  have htm:=aA ht
  have Jp:=aa hk
  have i2:bg (.loc dl) (.int (((3*i:Nat):Int)+1)) S=.ok (.int z2) S:=by
   rw[show((3*i:Nat):Int)+1=((3*i+1:Nat):Int) by omega];exact fm NQ e2'
  have i3:bg (.loc dl) (.int (((3*i:Nat):Int)+2)) S=.ok (.int z3) S:=by
   rw[show((3*i:Nat):Int)+2=((3*i+2:Nat):Int) by omega];exact fm NQ e3
  have jt:Aj (.bl (gM M a)) (.bl (gM M b)) S=.ok (.bl false) S:=by rw[hgg];cases gM M b<;>rfl
  refine⟨_,rfl,?_⟩
  refine cf (bQ (bd (bd kx kv (gd a ha)) (bd kx kv (gd b hb)) jt)) (cX ?_)
  apply au
  ·exact bu (bd kx (bd (bd kv kv (fm NQ e1)) (be (al kx bb) ltb) m1) (t8 Jp _))
  apply au
  ·exact bu (bd kv (bd (bd kv (bd kv cK e7) i2) (be kn lr) m2) (kS (aM hr) (dm (by rw[ak,ht];rfl))))
  have tsx:=bQ (bd (f:=lw) (bd (f:=eU) (bd (f:=bg) (fa:=af 3) (ρ:=[some M.w,some (.loc r),some (.tup [.int (a0:Nat),.int (b0:Nat)]),some (.loc dl),some (.int (a:Nat)),some (.int (b:Nat)),some (.int ((3*i:Nat):Int)),some (fY M.tb[k]),some (.int (t:Nat))]) kv (bd (eZ (i:=6) rfl) (cK (w:=.int 2)) e7) i3) (cK (w:=.int 2)) m3) (cK (w:=.int 0)) (i7 rfl))
  rcases(show sd=0\/sd=1 by omega)with rfl|rfl
  ·obtain⟨r1,a1,a2,_⟩:=jK hM Jp (hR.lt a ha) (hR.lt t htm)
   obtain⟨r2,b1,b2,_⟩:=jK hM Jp (hR.lt b hb) (hR.lt t htm)
   refine lH tsx ⟨_,_,Ny (bd (bd kv kv (lN a1)) kv (lO a2)) (bd (bd kv kv (lN b1)) kv (lO b2)),_,_,_,_,_,hR.cl k hk a ha t htm,hR.cl k hk b hb t htm,CZ hE hR.up ha hb ho (IT (sd:=0) hk (.inl rfl) htm),rfl,rfl⟩
  ·obtain⟨r1,a1,a2,_⟩:=jK hM Jp (hR.lt t htm) (hR.lt a ha)
   obtain⟨r2,b1,b2,_⟩:=jK hM Jp (hR.lt t htm) (hR.lt b hb)
   refine iB tsx ⟨_,_,Ny (bd (bd kv kv (lN a1)) kv (lO a2)) (bd (bd kv kv (lN b1)) kv (lO b2)),_,_,_,_,_,hR.cl k hk t htm a ha,hR.cl k hk t htm b hb,CZ hE hR.up ha hb ho (IT (sd:=1) hk (.inr rfl) htm),rfl,rfl⟩
 ·rintro ρ S ⟨a,b,o6,o7,o8,ha,hb,ho,rfl,rfl⟩
  have hgg:=Nx (A' hE hR.up ha hb ho)
  have heq:lw (.bl (gM M a)) (.bl (gM M b)) S=.ok (.bl true) S:=by rw[hgg];cases gM M b<;>rfl
  exact b9 (bd (bd kx kv (gd a ha)) (bd kx kv (gd b hb)) heq) ⟨_,_,rfl,rfl,[],by simp⟩
end
section
variable{M:Mc}
def m_(M:Mc)(rs:List Nat)(n:Nat):List (Nat×Nat×Nat):=(List.range n).flatMap fun s=>(fZ M rs s).map fun p=>(s,p)
theorem jV(n:Nat):fK M rs n=(m_ M rs n).map fun i=>d7 M rs i.1 i.2:=by
 unfold fK Ea m_
 rw[List.map_flatMap]
 refine zt fun s _=>?_
 rw[aX];rfl
theorem Ba{i:Nat×Nat×Nat}(h:i∈m_ M rs n):i.1<n/\Pd M rs i.1 i.2.1 i.2.2:=by
 obtain⟨s,hs,h⟩:=fX.mp h
 obtain⟨p,hp,rfl⟩:=aJ.mp h
 exact⟨bx.mp hs,Rk hp⟩
structure Pj(M:Mc)(rs:List Nat)(J:List (Nat×Nat×Nat))(kvs:List (KX×W)):Prop where
 val:∀(x y:Nat) v,dS kvs (.fl [(x:Nat),(y:Nat)])=some v->∃s,Pd M rs s x y/\v=d7 M rs s (x,y)
 has:∀i∈J,(dS kvs (.fl [(i.2.1:Nat),(i.2.2:Nat)])).isSome=true/\(dS kvs (.fl [(i.2.2:Nat),(i.2.1:Nat)])).isSome=true
 tag:∀p∈kvs,p.1.tag=1
 len:kvs.length<=2*J.length
theorem Bb(h:∀p∈kvs,p.1.tag=1)(hl:kvs.length<=30000)(l:List Int):um kvs (.fl l)=true:=by
 unfold um yu
 have a:(kvs.all fun p=>p.1.tag==(KX.fl l).tag)=true:=by rw[fT];intro p hp;rw[h p hp];rfl
 rw[a]
 have hl:kvs.length<ji:=by show _<1000000;omega
 simp[KX.tag,hl]
theorem Pj.step{J:List (Nat×Nat×Nat)}(h:Pj M rs J kvs){s a b:Nat}(p:Pd M rs s a b):Pj M rs (J++[(s,a,b)]) (jw (jw kvs (.fl [(a:Nat),(b:Nat)]) (d7 M rs s (a,b))) (.fl [(b:Nat),(a:Nat)]) (d7 M rs s (b,a))):=by
 refine⟨fun x y v e=>?_,fun i hi=>?_,qM (qM h.tag rfl) rfl,?_⟩
 ·rw[qc,qc]at e
  simp only[Nw]at e
  by_cases h1:x=b/\y=a
  ·rw[ar h1]at e;cases e
   obtain⟨rfl,rfl⟩:=h1
   exact⟨s,p.comm,rfl⟩
  ·rw[az h1]at e
   by_cases h2:x=a/\y=b
   ·rw[ar h2]at e;cases e
    obtain⟨rfl,rfl⟩:=h2
    exact⟨s,p,rfl⟩
   ·rw[az h2]at e
    exact h.val x y v e
 ·have pt:∀x y:Nat,((dS kvs (.fl [(x:Nat),(y:Nat)])).isSome=true\/(x=b/\y=a)\/(x=a/\y=b))->(dS (jw (jw kvs (.fl [(a:Nat),(b:Nat)]) (d7 M rs s (a,b))) (.fl [(b:Nat),(a:Nat)]) (d7 M rs s (b,a))) (.fl [(x:Nat),(y:Nat)])).isSome=true:=fun x y hh=>by
   rw[qc,qc]
   simp only[Nw]
   split
   ·rfl
   ·split
    ·rfl
    ·rename_i n1 n2
     rcases hh with z|z|z
     ·exact z
     ·exact(n1 z).elim
     ·exact(n2 z).elim
  rcases aI.mp hi with z|z
  ·exact⟨pt _ _ (.inl (h.has i z).1),pt _ _ (.inl (h.has i z).2)⟩
  ·simp at z;subst z
   exact⟨pt _ _ (.inr (.inr ⟨rfl,rfl⟩)),pt _ _ (.inr (.inl ⟨rfl,rfl⟩))⟩
 ·have c1:=ud (jw kvs (.fl [(a:Nat),(b:Nat)]) (d7 M rs s (a,b))) (.fl [(b:Nat),(a:Nat)]) (d7 M rs s (b,a))
  have c2:=ud kvs (.fl [(a:Nat),(b:Nat)]) (d7 M rs s (a,b))
  have:=h.len
  rw[aB];simp;omega
theorem Pj.done(Eu:rs.Pairwise (· < ·))(h:Pj M rs (m_ M rs n) kvs)(hl:(m_ M rs n).length<=15000):IS M rs n kvs:=by
 refine⟨h.val,fun s x y hs p=>?_,Bb h.tag (by have:=h.len;omega)⟩
 have mem:∀{x y:Nat},Pd M rs s x y->x<y->(s,x,y)∈m_ M rs n:=fun{x y} p hlt=>fX.mpr ⟨s,bx.mpr hs,aJ.mpr ⟨(x,y),bP.mpr ⟨(AZ Eu).mpr ⟨p.hx,p.hy,hlt⟩,by
  show(jo M rs s x y&&A2 M rs s x y)=true
  rw[p.o,p.a];rfl⟩,rfl⟩⟩
 rcases iW x y with z|z|z
 ·exact(h.has _ (mem p z)).1
 ·exact(p.ne z).elim
 ·exact(h.has _ (mem p.comm z)).2
theorem C0(hE:t6 M rs n)(hl:rs.length<=9):n<=81/\(m_ M rs n).length<=81:=by
 have a:=w6 (M:=M) (rs:=rs) n
 have b:=oq rs
 have c:rs.length*rs.length<=9*9:=gS hl hl
 have d:(m_ M rs n).length=(fK M rs n).length:=by rw[jV,ai]
 have e:∀m,m<=n->m<=(fK M rs m).length:=fun m=>by
  induction m with
  |zero=>intro _;exact cH _
  |succ m ih=>
   intro hm
   have h1:=ih (by omega)
   have h2:=hE.go m (by omega)
   have h3:fK M rs (m+1)=fK M rs m++(fZ M rs m).map (d7 M rs m):=lP m
   rw[h3,aB,ai]
   have:0<(fZ M rs m).length:=jN.mpr h2
   omega
 have:=e n (aw _)
 omega
abbrev XG:FS:=(aL (i5 (xX (fq (ca 3 yS (ag (af 1) (ag (af 2) (ag (af 5) av)))))) (cA (eC (.bl false))) cQ) (aL (lB (af 4) (cP (ag (e2 bg (af 5) (eI 0)) (ag (e2 bg (af 5) (eI 1)) av))) (af 5) q_) (lB (af 4) (cP (ag (e2 bg (af 5) (eI 1)) (ag (e2 bg (af 5) (eI 0)) av))) (cP (ag (e2 bg (af 5) (eI 1)) (ag (e2 bg (af 5) (eI 0)) (ag (e2 bg (af 5) (eI 2)) (ag (e2 bg (af 5) (eI 3)) av))))) q_)))
abbrev lR(M:Mc)(d e:Nat)(T:W)(o5 o6 o7 o8 o9 nw oQ:Option W):bY:=[some (.loc 0),some M.w,some (.loc d),some T,some (.loc e),o5,o6,o7,o8,o9,nw,oQ]
theorem Eh{d e:Nat}{tm:Nat->MT}(Eu:rs.Pairwise (· < ·))(hE:t6 M rs n)(hl:rs.length<=9)(hd:st[d]?=some (.dct (tD tm mt)))(he:st[e]?=some (.dct []))(U5:e≠d)(uS:∀a∈rs,a∈mt){Q:RS->Prop}{de:FS}(o5:Option W)
  (hh:∀c kvs o5,dL (st.set e c) (.loc e)=some (e,kvs)->IS M rs n kvs->(st.set e c)[d]?=some (.dct (tD tm mt))->gJ Q (de (lR M d e (.tup (fK M rs n)) o5 none none none none none none) (st.set e c))) :
  gJ Q (aL (fC (cF (af 3)) (dY 5) XG) de (lR M d e (.tup (fK M rs n)) o5 none none none none none none) st):=by
 obtain⟨hn,hil⟩:=C0 hE hl
 have hlt:e<st.length:=(ac.mp he).1
 have hd':∀c,(st.set e c)[d]?=some (.dct (tD tm mt)):=fun c=>by rw[aS U5];exact hd
 have self:st.set e (.dct [])=st:=p_ he
 have d0:dL st (.loc e)=some (e,[]):=by unfold dL;simp only[he]
 refine cR (k:=(fK M rs n,none)) (fun i ρ S=>∃c kvs o5,S=st.set e c/\dL (st.set e c) (.loc e)=some (e,kvs)/\Pj M rs ((m_ M rs n).take i) kvs/\ρ=lR M d e (.tup (fK M rs n)) o5 none none none none none none) (jU kv) ⟨.dct [],[],o5,self.symm,by rw[self];exact d0,⟨(fun x y v z=>by cases z),(fun i hi=>by simp at hi),(fun p hp=>by cases hp),cH _⟩,rfl⟩ (fun _ _ _ _=>trivial) ?_ ?_
 ·rintro i w ρ S hw ⟨c,kvs,o5,rfl,dx,hJ,rfl⟩
  have hw:(fK M rs n)[i]?=some w:=hw
  rw[jV,ak]at hw
  obtain⟨⟨s,a,b⟩,hit,rfl⟩:=aU.mp hw
  obtain⟨_,hp⟩:=Ba (aA hit)
  have C3:(m_ M rs n).take (i+1)=(m_ M rs n).take i++[(s,a,b)]:=pA hit
  have cY:=hJ.len
  rw[aZ]at cY
  refine⟨_,rfl,?_⟩
  refine cf (pX (a:=true) (bQ (bU (al kv (al kv kn)) (Eg (hd' c) uS hp) rfl)) rfl) (cX ?_)
  have p1:=IP (v:=d7 M rs s (a,b)) dx (ue a b) (Bb hJ.tag (by omega) _)
  have dx1:=CY (kvs:=jw kvs (.fl [(a:Nat),(b:Nat)]) (d7 M rs s (a,b))) (S:=st.set e c) (n:=e) (by rw[List.length_set];exact hlt)
  have p2:=IP (v:=d7 M rs s (b,a)) dx1 (ue b a) (Bb (qM hJ.tag rfl) (by have:=ud kvs (.fl [(a:Nat),(b:Nat)]) (d7 M rs s (a,b));omega) _)
  apply au
  ·exact lG kv kv (d_ (al kx (al kx bb)) (by show 2<=1000000;decide)) p1
  have er:d7 M rs s (b,a)=.tup [.int (b:Nat),.int (a:Nat),.int (s:Nat),yW M rs s a b]:=by rw[Rn];unfold yW;rw[IR]
  rw[er]at p2
  refine⟨_,_,lG (d_ (al kx (al kx (al kx (al kx bb)))) (by show 4<=1000000;decide)) kv (d_ (al kx (al kx bb)) (by show 2<=1000000;decide)) p2,_,_,_,by rw[mU,mU],CY hlt,?_,rfl⟩
  rw[C3,<- er]
  exact hJ.step hp
 ·rintro ρ S ⟨c,kvs,o5,rfl,dx,hJ,rfl⟩
  rw[show((fK M rs n,(none:Option (Nat×List W))).fst).length=(m_ M rs n).length by rw[jV];simp,bX]at hJ
  exact hh c kvs o5 dx (hJ.done Eu (by omega)) (hd' c)
end
theorem Lz{d:Nat}{V:Nat->W}(h:st[d]?=some (.dct (vD V mt)))(hl:mt.length<=1000):qB [.loc d] st=.ok (.loc st.length) (st++[.lst (dZ mt)]):=by
 unfold qB
 have e:gn st (.loc d)=some (d,vD V mt):=by unfold gn;simp only[h]
 have hl2:(vD V mt).length<=ji:=by rw[mz];show _<=1000000;omega
 simp only[e]
 rw[ar hl2]
 congr 3
 unfold vD dI dZ
 rw[aX];rfl
theorem law_ok:FH (wn tabL) f_q45:=by
 intro ns RU
 suffices hh:gJ (rD fun w bG=>w=.bl true) (Np ([W.loc 0].map some++List.replicate (12-1) none) (.ro (ns.map W.int)::wn tabL)) by
  obtain⟨w,bG,e,rfl⟩:=hh
  exact⟨_,rP e⟩
 have h0:(aj.ro (ns.map W.int)::wn tabL)[0]?=some (.ro (ns.map W.int)):=rfl
 have ht:(aj.ro (ns.map W.int)::wn tabL)[1]?=some (.tab 82 ⟨67,29,67,52⟩ "firsts_of.<locals>.<lambda>"):=rfl
 generalize LJ:(aj.ro (ns.map W.int)::wn tabL:List aj)=s0 at h0 ht
 obtain⟨c0,e0⟩:=on h0 0
 obtain⟨gN,rf,hpd,_,e1⟩:=KW c0 2000003 6 (by omega) s0
 obtain⟨M,N,hM,C1,hN9,C7,hsz,hms,ea⟩:=QX h0 1 gN (by omega) (by omega)
 apply au
 ·exact bu (bU (al kv (al cK (al (bU (al (bU (al kv (al cK bb)) e0 rfl) (al cK (al cK bb))) e1 rfl) bb))) ea rfl)
 have me:M.nm.Nodup:=by rw[hms];exact(HJ _).nodup_iff.mpr (hpd.sublist (iJ _ _))
 have hsz2:M.tb.length*(2*N)<=10000:=by
  rw[hM.tb]
  have a:2^M.nm.length*N<=N*N*2^M.nm.length:=by
   rw[iT (N*N)]
   exact Nat.mul_le_mul_left _ (Nat.le_mul_of_pos_right _ C1)
  rw[show 2^M.nm.length*(2*N)=2*(2^M.nm.length*N) by rw[Nat.mul_left_comm]]
  omega
 obtain⟨mt,tm,y,hT,lT,et⟩:=IN (st:=s0) hM me (by omega) C1 hN9
 apply au
 ·exact bu (bU kn et rfl)
 have t1:(tS s0 mt tm y)[1]?=some (.tab 82 ⟨67,29,67,52⟩ "firsts_of.<locals>.<lambda>"):=aG ht
 have z1:(tS s0 mt tm y)[0]?=some (.ro (ns.map W.int)):=aG h0
 have cd:(tS s0 mt tm y)[s0.length+1]?=some (.dct (tD tm mt)):=by rw[dH];rfl
 have NQ:s0.length+1<(tS s0 mt tm y).length:=(ac.mp cd).1
 obtain⟨rs,n,hR,hE,eu⟩:=Eb hM C1 (by omega) hsz2 t1
 apply au
 ·exact bu (bU kn eu rfl)
 obtain⟨Vs,hs',hp',hu'⟩:=Nr hT.met.nd
 have hrs':A3 M N Vs:=⟨hu',hp'.mem_iff.mpr (by obtain⟨r,e⟩:=hT.met.zero;rw[e];exact aQ),fun a ha=>hT.met.lt a (hp'.mem_iff.mp ha),fun k hk a ha b hb=>hp'.mem_iff.mpr (lT k hk a (hp'.mem_iff.mp ha) b (hp'.mem_iff.mp hb)),fun C c0 cc a ha=>hT.met.least C c0 cc a (hp'.mem_iff.mp ha)⟩
 obtain rfl:=hR.one hrs'
 have uS:∀a∈rs,a∈mt:=fun a ha=>hp'.mem_iff.mp ha
 have hml:=hT.met.len
 have hrl:rs.length<=9:=by have:=hp'.length_eq;omega
 obtain⟨hn81,hil⟩:=C0 hE hrl
 refine cf (pX (a:=true) (bQ (L_ (c:="tuple") kv rfl rfl)) rfl) (cX ?_)
 generalize tS s0 mt tm y=S1 at t1 z1 cd NQ eu et
 apply au
 ·exact bu Ie
 have U5:S1.length≠s0.length+1:=by omega
 refine Eh hR.up hE hrl (aG (x:=[.dct []]) cd) bE U5 uS none fun c kvs o5 dx hP Bo=>?_
 have z2:((S1++[aj.dct []]).set S1.length c)[0]?=some (.ro (ns.map W.int)):=by rw[aS (by omega)];exact aG z1
 generalize (S1++[aj.dct []]).set S1.length c=S2 at dx Bo z2
 generalize S1.length=e at dx U5
 generalize s0.length+1=d at Bo U5
 refine om (fun ρ S=>∃o5 o6 x,ρ=lR M d e (.tup (fK M rs n)) o5 o6 none none none none none/\S=S2++x) ?_ ?_
 ·have lo:cW [W.tup (fK M rs n)] S2=.ok (.int ((m_ M rs n).length:Nat)) S2:=by
   have:=jx (ws:=fK M rs n) (st:=S2)
   rwa[jV,ai,<- jV]at this
  by_cases hz:(m_ M rs n).length=0
  ·exact iB (bQ (bd (be kn lo) cK (hV (k:=false) (aN (by omega))))) ⟨_,_,rfl,_,_,[],rfl,by simp⟩
  ·refine lH (bQ (bd (be kn lo) cK (hV (k:=true) (aK (by omega))))) ?_
   obtain⟨c2,e2'⟩:=on z2 10
   obtain⟨hs,hhl,_,e3⟩:=lK c2 4000037 1 (by omega) S2
   obtain⟨dr,rfl⟩:∃a,hs=[a]:=by
    match hs,hhl with
    |[a],_=>exact⟨_,rfl⟩
   have i0:bg (.loc S2.length) (.int 0) (S2++[.lst ([dr].map W.int)])=.ok (.int dr) (S2++[.lst ([dr].map W.int)]):=fm (i:=0) (ds:=[dr]) bE rfl
   obtain⟨at',hat,mo⟩:=xa (d:=dr) (n:=(m_ M rs n).length) (st:=S2++[.lst ([dr].map W.int)]) (by omega)
   have lo2:cW [W.tup (fK M rs n)] (S2++[.lst ([dr].map W.int)])=.ok (.int ((m_ M rs n).length:Nat)) (S2++[.lst ([dr].map W.int)]):=by
    have:=jx (ws:=fK M rs n) (st:=S2++[.lst ([dr].map W.int)])
    rwa[jV,ai,<- jV]at this
   apply au
   ·exact bu (bd (bd (bU (al (bU (al kv (al cK bb)) e2' rfl) (al cK (al cK bb))) e3 rfl) cK i0) (be kn lo2) mo)
   obtain⟨⟨s1,a1,b1⟩,q1⟩:∃i,(m_ M rs n)[at']?=some i:=⟨_,aa hat⟩
   obtain⟨⟨s2,a2,b2⟩,q2⟩:∃i,(m_ M rs n).reverse[0]?=some i:=⟨_,aa (by rw[List.length_reverse];omega)⟩
   obtain⟨n1,pd1⟩:=Ba (aA q1)
   obtain⟨n2,pd2⟩:=Ba (List.mem_reverse.mp (aA q2))
   have x1:bg (.tup (fK M rs n)) (.int (at':Nat)) (S2++[.lst ([dr].map W.int)])=.ok (d7 M rs s1 (a1,b1)) (S2++[.lst ([dr].map W.int)]):=gI (dm (by rw[jV,ak,q1];rfl))
   have x2:bg (.tup (fK M rs n)) (.int (-1)) (S2++[.lst ([dr].map W.int)])=.ok (d7 M rs s2 (a2,b2)) (S2++[.lst ([dr].map W.int)]):=gI (wF (q:=0) (by rw[jV,<- List.map_reverse,ak,q2];rfl))
   have hd3:=aG (x:=[.lst ([dr].map W.int)]) Bo
   have dx3:=oA (y:=[.lst ([dr].map W.int)]) dx
   generalize hS3:S2++[.lst ([dr].map W.int)]=S3 at x1 x2 hd3 dx3
   have pk:∀{s a b:Nat},Pd M rs s a b->s<n->yT [M.w,.loc d,.loc e,d7 M rs s (a,b)] S3=.ok (.bl true) S3:=fun p hs=>A_ hM C1 hN9 me (by omega) hd3 dx3 hT uS hR.cl hP (by omega) p hs
   refine lM (k:=([d7 M rs s1 (a1,b1),d7 M rs s2 (a2,b2)],none)) (fun i ρ S=>∃o5,ρ=lR M d e (.tup (fK M rs n)) o5 (some (.int (at':Nat))) none none none none none/\S=S3) (jU (d_ (al (bd kv kv x1) (al (bd kv (yy cK) x2) bb)) (by show 2<=1000000;decide))) ⟨o5,rfl,rfl⟩ (fun _ _ _ _=>trivial) ?_ ?_
   ·rintro i w ρ S hw ⟨o5,rfl,rfl⟩
    have:∃s a b,w=d7 M rs s (a,b)/\Pd M rs s a b/\s<n:=by
     match i,hw with
     |0,hw=>cases hw;exact⟨_,_,_,rfl,pd1,n1⟩
     |1,hw=>cases hw;exact⟨_,_,_,rfl,pd2,n2⟩
    obtain⟨s,a,b,rfl,hp,hs⟩:=this
    exact⟨_,rfl,iB (pX (a:=true) (bQ (bU (al kv (al kv (al kv kn))) (pk hp hs) rfl)) rfl) ⟨_,_,rfl,_,rfl,rfl⟩⟩
   ·rintro ρ S ⟨o5,rfl,rfl⟩
    exact⟨_,_,rfl,_,_,_,rfl,hS3.symm⟩
 ·rintro ρ S ⟨o5,o6,x,rfl,rfl⟩
  have hd3:=aG (x:=x) Bo
  have dx3:=oA (y:=x) dx
  have z3:=aG (x:=x) z2
  generalize S2++x=S3 at hd3 dx3 z3
  have el:=Lz hd3 (by omega)
  have es:=CO (st:=S3++[.lst (dZ mt)]) (n:=S3.length) (l:=mt) bE (by omega) hs'
  apply au
  ·exact bu (be (al (be kn el) bb) es)
  have c7:(S3++[.lst (dZ mt)]++[.lst (dZ rs)])[(S3++[aj.lst (dZ mt)]).length]?=some (.lst (dZ rs)):=bE
  have dx4:=oA (y:=[.lst (dZ rs)]) (oA (y:=[.lst (dZ mt)]) dx3)
  have z4:=aG (x:=[.lst (dZ rs)]) (aG (x:=[.lst (dZ mt)]) z3)
  generalize (S3++[aj.lst (dZ mt)]).length=r at c7
  generalize S3++[.lst (dZ mt)]++[.lst (dZ rs)]=S4 at c7 dx4 z4
  obtain⟨c8,e8⟩:=on z4 11
  obtain⟨ds,zR,_,f8⟩:=lK c8 5000011 18 (by omega) S4
  apply au
  ·exact bu (bU (al (bU (al kv (al cK bb)) e8 rfl) (al cK (al cK bb))) f8 rfl)
  have z5:=aG (x:=[.lst (ds.map W.int)]) z4
  obtain⟨c9,e9⟩:=on z5 12
  obtain⟨gs,hgs,_,f9⟩:=lK c9 6000011 9 (by omega) (S4++[.lst (ds.map W.int)])
  apply au
  ·exact bu (bU (al (bU (al kv (al cK bb)) e9 rfl) (al cK (al cK bb))) f9 rfl)
  have q7:(S4++[.lst (ds.map W.int)]++[.lst (gs.map W.int)])[r]?=some (.lst (dZ rs)):=aG (aG c7)
  have q8:(S4++[.lst (ds.map W.int)]++[.lst (gs.map W.int)])[S4.length]?=some (.lst (qm ds)):=aG bE
  have q9:(S4++[.lst (ds.map W.int)]++[.lst (gs.map W.int)])[(S4++[aj.lst (ds.map W.int)]).length]?=some (.lst (qm gs)):=bE
  have dx5:=oA (y:=[.lst (gs.map W.int)]) (oA (y:=[.lst (ds.map W.int)]) dx4)
  generalize (S4++[aj.lst (ds.map W.int)]).length=g9 at q9
  generalize S4++[.lst (ds.map W.int)]++[.lst (gs.map W.int)]=S5 at q7 q8 q9 dx5
  generalize S4.length=g8 at q8
  have old:∀{a b:Nat},a∈rs->b∈rs->dS kvs (.fl [(a:Nat),(b:Nat)])=none->jo M rs n a b=true:=fun{a b} ha hb hx=>by
   have:∀m,m<=n->jo M rs m a b=true:=fun m=>by
    induction m with
    |zero=>intro _;rfl
    |succ m ih=>
     intro hm
     have h1:=ih (by omega)
     show jb (a9 M) M.tb.length (gM M) rs (m+1) a b=true
     rw[nT]
     have h1':jb (a9 M) M.tb.length (gM M) rs m a b=true:=h1
     rw[h1']
     cases hap:ap (a9 M) M.tb.length (gM M) rs m a b with
     |false=>rfl
     |true=>
      have:=hP.has m a b (by omega) ⟨ha,hb,h1,hap⟩
      rw[hx]at this;cases this
   exact this n (aw _)
  refine cR (k:=(dZ rs,some (r,dZ rs))) (fun i ρ S=>∃nw oQ,ρ=lR M d e (.tup (fK M rs n)) o5 o6 (some (.loc r)) (some (.loc g8)) (some (.loc g9)) nw oQ/\S=S5) (fM kv (aM q7)) ⟨none,none,rfl,rfl⟩ (by rintro i ρ S ⟨_,_,rfl,rfl⟩;exact aM q7) ?_ ?_
  ·rintro i w ρ S hw ⟨nw,oQ,rfl,rfl⟩
   rw[ak]at hw
   obtain⟨a,ha,rfl⟩:=aU.mp hw
   have ham:=aA ha
   refine⟨_,rfl,?_⟩
   refine lM (k:=(dZ rs,some (r,dZ rs))) (fun i ρ S'=>∃oQ,ρ=lR M d e (.tup (fK M rs n)) o5 o6 (some (.loc r)) (some (.loc g8)) (some (.loc g9)) (some (.int (a:Nat))) oQ/\S'=S) (fM kv (aM q7)) ⟨oQ,rfl,rfl⟩ (by rintro i ρ S' ⟨_,rfl,rfl⟩;exact aM q7) ?_ ?_
   ·rintro j w ρ S' hw ⟨oQ,rfl,rfl⟩
    rw[ak]at hw
    obtain⟨b,hb,rfl⟩:=aU.mp hw
    have hbm:=aA hb
    refine⟨_,rfl,?_⟩
    have i1:DF (.int (a:Nat)) (.int (b:Nat)) S'=.ok (.bl (decide (a<b))) S':=hV (by rw[cD];simp)
    by_cases hlt:a<b
    ·rw[aK hlt]at i1
     cases hx:dS kvs (.fl [(a:Nat),(b:Nat)])with
     |some v=>
      have i2:=Nv (b:=false) dx5 (ue a b) (hP.ok _) (by rw[hx];rfl)
      exact iB (my (bQ (bd kv kv i1)) (bQ (bd (d_ (al kv kn) (by show 2<=1000000;decide)) kv i2))) ⟨_,_,rfl,_,rfl,rfl⟩
     |none=>
      have i2:=Nv (b:=true) dx5 (ue a b) (hP.ok _) (by rw[hx];rfl)
      refine lH (my (bQ (bd kv kv i1)) (bQ (bd (d_ (al kv kn) (by show 2<=1000000;decide)) kv i2))) ?_
      have k1:=zz hM hE hR (by omega) q7 q8 (by omega) ham hbm (old ham hbm hx)
      have k2:=zz hM hE hR (by omega) q7 q9 (by omega) ham hbm (old ham hbm hx)
      exact iB (eK (pX (a:=true) (bQ (bU (al kv (al kv (al (d_ (al kv kn) (by show 2<=1000000;decide)) kn))) k1 rfl)) rfl) (pX (a:=true) (bQ (bU (al kv (al kv (al (d_ (al kv kn) (by show 2<=1000000;decide)) kn))) k2 rfl)) rfl)) ⟨_,_,rfl,_,rfl,rfl⟩
    ·rw[aN hlt]at i1
     exact iB (rQ (bQ (bd kv kv i1))) ⟨_,_,rfl,_,rfl,rfl⟩
   ·rintro ρ S' ⟨oQ,rfl,rfl⟩
    exact⟨_,_,rfl,_,_,rfl,rfl⟩
  ·rintro ρ S ⟨nw,oQ,rfl,rfl⟩
   exact b9 cK ⟨_,_,rfl,rfl⟩
theorem all_mk{l:PySem.W.OpenLaw}{w:World}{fa:Addr}(X:K.In h)(G:h.Ns mainGlobals mg)(XM:mg "law"=some (.ref fa))
  {Bn Bs:Addr} {Rx RC RO Jf:Option Addr} {RL RH:Array (Option Value)} {Rq Rv RN Ru Rz RB IY IZ Ja Be IV:Value} {jW:Addr}
  (zJ:DefIn K "letter_of" P6)
  (xh:DefIn K "pairs_with" P7)
  (Br:DefIn K "numbered" P8)
  (uU:DefIn K "good_blocks" P9)
  (Bj:DefIn K "views_of" P_)
  (uj:DefIn K "split_blocks" P')
  (Bu:DefIn K "has_left" Qa)
  (zM:DefIn K "has_right" Qb)
  (Bp:DefIn K "links_of" Qc)
  (Bg:DefIn K "put_ways" Qd)
  (Bt:DefIn K "pairs_of" Gj)
  (zB:DefIn K "why_apart" Gm)
  (zA:DefIn K "parted_by" Gp)
  (uQ:DefIn K "together_in" Gu)
  (uX:DefIn K "unlike_rows" Gw)
  (xg:DefIn K "room_below" Gy)
  (Ek:DefIn K "room_at" GA)
  (Bm:DefIn K "rooms_of" GC)
  (Er:DefIn K "room_of" GE)
  (Ej:DefIn K "lets_by" GG)
  (xi:DefIn K "_law_given" GI)
  (zD:DefIn K "_law_join" GK)
  (u0:DefIn K "_law_letter" GM)
  (Bc:DefIn K "_law_run" GO)
  (zH:DefIn K "_law_lets" GQ)
  (zG:DefIn K "_law_same" GS)
  (xt:DefIn K "_law_mixed" GV)
  (xn:DefIn K "_law_draws" GX)
  (zK:DefIn K "_law_cell" GZ)
  (xf:DefIn K "_law_shape" G3)
  (xj:DefIn K "_law_names" G5)
  (uR:DefIn K "_law_blocks" G7)
  (xk:DefIn K "_law_grown" G9)
  (uZ:DefIn K "_law_graded" Ha)
  (ug:DefIn K "_law_spotted" Hc)
  (xy:DefIn K "_law_blown" He)
  (xu:DefIn K "_law_owner" Hg)
  (uf:DefIn K "_law_machine" Hi)
  (Bd:DefIn K "_law_any" Hk)
  (zQ:DefIn K "_law_pool" Hm)
  (xq:DefIn K "_law_trees" Hq)
  (uY:DefIn K "_law_shaped" Hs)
  (uW:DefIn K "_law_parted" Hu)
  (rG:DefIn K "_law_alike_in" Hw)
  (Vh:nsIn K mainGlobals "firsts_of"=some (some (.ref Bn)))
  (U3:K.lookup Bn=some ⟨Rq,Rx,.func (fnOf "firsts_of" "firsts_of" (h9 vH) (gC vH) (aO vH) .none Rv RN Ru RC (.ref jW) Rz),RL⟩)
  (El:codeIn K (.ref jW) "firsts_of"=true)
  (Vo:keepIn K (.ref Bn)=true)
  (tc_firsts_of:codeHdIn K jW 82=true)
  (tk_firsts_of:K.lookup 82=none)
  (NL:nsIn K mainGlobals "law"=some (some (.ref Bs)))
  (Vm:K.lookup Bs=some ⟨RB,RO,.func (fnOf "law" "law" (h9 pZ) (gC pZ) (aO pZ) .none IY IZ Ja Jf Be IV),RH⟩)
  (Eo:codeIn K Be "law"=true)
  (Vx:keepIn K (.ref Bs)=true)
  (RE:nsIn K mainGlobals "bool"=some none)
  (zL:nsIn K mainGlobals "enumerate"=some none)
  (Vz:nsIn K mainGlobals "int"=some none)
  (xc:nsIn K mainGlobals "isinstance"=some none)
  (U6:nsIn K mainGlobals "len"=some none)
  (Rw:nsIn K mainGlobals "list"=some none)
  (Vp:nsIn K mainGlobals "max"=some none)
  (Vg:nsIn K mainGlobals "min"=some none)
  (LK:nsIn K mainGlobals "range"=some none)
  (IW:nsIn K mainGlobals "sorted"=some none)
  (U8:nsIn K mainGlobals "str"=some none)
  (LA:nsIn K mainGlobals "tuple"=some none)
  (VA:nsIn K mainGlobals "zip"=some none) :
  ∃fd:FuncData,(∀(s:Shared) (v:Value),BindsTo s fd ⟨[v],[]⟩ [("_law_script",v)])/\∀base:Heap,K.In base->base.Ns mainGlobals mg->yo base mg->dw l.prog w K mg base (iX l.prog w) 42 fa fd Hz (ja K mg 1 f_q45):=by
 have e:=XM.symm.trans (mg_of X G NL)
 cases e
 have F_q10:=Ab (st:=vH) U3 El Vo
 have m_q10:=mg_of X G Vh
 obtain⟨_,_,vU,zN⟩:=zG.fn X G
 have F_q45:=Ab (st:=pZ) Vm Eo Vx
 have m_q45:=mg_of X G NL
 have B:Bl mg:=⟨mg_none_of X G RE,mg_none_of X G zL,mg_none_of X G Vz,mg_none_of X G xc,mg_none_of X G U6,mg_none_of X G Rw,mg_none_of X G Vp,mg_none_of X G Vg,mg_none_of X G LK,mg_none_of X G IW,mg_none_of X G U8,mg_none_of X G LA,mg_none_of X G VA⟩
 refine⟨fnOf "law" "law" (h9 pZ) (gC pZ) (aO pZ) .none IY IZ Ja Jf Be IV,fun s v=>.of_eq rfl,fun base _ _ Bk=>?_⟩
 have qd:=@PM l.prog w K mg base
 have U4:=qd zJ X G fun F=>Uo F  
 have Vq:=qd xh X G fun F=>Uq F B 
 have LC:=qd Br X G fun F=>Us F B 
 have Vv:=qd uU X G fun F=>Uu F  LC
 have U':=qd Bj X G fun F=>Ux F B 
 have Va:=qd uj X G fun F=>Uz F  LC
 have Vr:=qd Bu X G fun F=>UA F  
 have Vf:=qd zM X G fun F=>UB F  
 have U9:=qd Bp X G fun F=>UD F B Vr Vf
 have LG:=qd Bg X G fun F=>UF F B Vq
 have NG:dh l.prog w K mg base 3 "firsts_of" 1 vI:=rM F_q10 m_q10 rfl (by intro _ _ _ _ _ _ _ q;obtain⟨_,rfl⟩:=Xt q;rfl) (Qe F_q10 ⟨jW,rfl,tc_firsts_of,tk_firsts_of⟩ Bk B LG)
 have N0:=qd Bt X G fun F=>Qf F B 
 have NE:=qd zB X G fun F=>Qg F B 
 have NC:=qd zA X G fun F=>Qh F  
 have NB:=qd uQ X G fun F=>Qi F  
 have NS:=qd uX X G fun F=>Qj F B NG Vv N0 NC Va NB U' NE
 have NZ:=qd xg X G fun F=>Ql F  
 have NF:=qd Ek X G fun F=>Qm F  U4 NZ
 have NP:=qd Bm X G fun F=>Qn F B U9 NF
 have NM:=qd Er X G fun F=>Qo F B NP
 have N2:=qd Ej X G fun F=>Qp F  NM
 have C5:=qd xi X G fun F=>Qq F B 
 have C4:=qd zD X G fun F=>Qr F B 
 have N6:=qd u0 X G fun F=>Qs F B 
 have N3:=qd Bc X G fun F=>Qt F  N6
 have N4:=qd zH X G fun F=>Qu F B N3
 have Je:=Co (P:=l.prog) (w:=w) (base:=base) vU zN B  40
 have NK:=qd xt X G fun F=>Qw F  
 have rh:=qd xn X G fun F=>Qx F B NK
 have vS:=qd zK X G fun F=>Qy F B 
 have NA:=qd xf X G fun F=>Qz F  
 have NO:=qd xj X G fun F=>QB F B 
 have N5:=qd uR X G fun F=>QC F B vS rh
 have N1:=qd xk X G fun F=>QD F B 
 have NT:=qd uZ X G fun F=>QF F B N1
 have NV:=qd ug X G fun F=>QH F B 
 have NR:=qd xy X G fun F=>QJ F B 
 have NW:=qd xu X G fun F=>QK F B 
 have NJ:=qd uf X G fun F=>QL F B 
 have NH:=qd Bd X G fun F=>QM F  N5 NR vS rh NT NJ NO NW NA NV
 have NN:=qd zQ X G fun F=>QN F B rh
 have NX:=qd xq X G fun F=>QO F B C5 C4
 have ND:=qd uY X G fun F=>QP F B 
 have NU:=qd uW X G fun F=>QQ F B C5 C4 N4 Je N2
 have NI:=qd rG X G fun F=>QR F B 
 exact QT F_q45 B NI NH vS rh NU NN ND NX NS
end P
end
namespace PySem.W.Fast
def tw15024091343515403134:=0
def tw1530724380173079901:=0
def tw15295571039050306072:=0
def tw5176824540254002385:=0
def tw1335993121259697679:=0
def tw5195192054288053615:=0
def tw4663010941116270794:=0
def tw13633318891803207110:=0
def tw664415620455175558:=0
def tw9402718229952661829:=0
def tw6679375576134840068:=0
def tw1991168787029497889:=0
def tw3029095539626598080:=0
def tw8918131707961961631:=0
def tw18066190740113140453:=0
def tw3327032057893366976:=0
def tw13096196009357969538:=0
def tw8685539169430919843:=0
def tw12864016554552870098:=0
def tw14855362736561938784:=0
def tw1795185589613115357:=0
def tw14254237105926927706:=0
def tw18164182570209357264:=0
def tw15299359261636598337:=0
def tw14061737565311234421:=0
def tw12302909928353921790:=0
def tw16664112135936432592:=0
def tw14628141247009931590:=0
def tw1785570787386623953:=0
def tw8465702561012094472:=0
def tw8039653191544321715:=0
def tw5469198155435009640:=0
def tw14759864439534715241:=0
def tw1701439725254467209:=0
def tw2575071316974532306:=0
def tw9535477537427211342:=0
def tw4353617641846335669:=0
def tw1528780323849110980:=0
def tw10202829133893526852:=0
def tw4699273593841602985:=0
def tw14297514322826352400:=0
def tw13030034863109349578:=0
def tw6556187824952948793:=0
def tw688225372022543132:=0
def tw5790534864727305287:=0
def tw18419330693201480601:=0
def tw9243408721454509214:=0
def tw16380630141121425714:=0
def tw88749884952793058:=0
def tw2539549626606647426:=0
def tw17117019569845566745:=0
def tw3458053160258108617:=0
def tw723690817092124625:=0
def tw17467631459969157169:=0
def tw15503072784644352514:=0
def tw4072972280592435537:=0
def tw3954498675614629525:=0
def tw565063443013168722:=0
def tw10318776048025284049:=0
def tw10904062567975239939:=0
def tw18408762352183320710:=0
def tw11451204786356756927:=0
def tw10112462771882389840:=0
def tw9392749027110775514:=0
def tw6418803011580813998:=0
def tw10903744105471160887:=0
def tw8839414734952046907:=0
def tw14516970352629521408:=0
def tw16583489827032891779:=0
def tw11447299401765577179:=0
def tw7673000416193288067:=0
def tw15581598334562021645:=0
def tw16673726340908758211:=0
def tw12692723994500473429:=0
def tw136633431717445868:=0
def tw12213495814037858672:=0
def tw1919085987481155965:=0
def tw8856901492519933165:=0
def tw7672837250582082105:=0
def tw9130673254401134903:=0
def tw11676111276177533611:=0
def tw627264507896080546:=0
def tw15651916459709123333:=0
def tw14808338199189801208:=0
def tw465284616370995851:=0
def tw13024808152194858457:=0
def tw4306375709266269981:=0
def tw5458440223219003093:=0
def tw7976912641012980728:=0
def tw6256564552671717300:=0
def tw14231523741206061668:=0
def tw5129419214986878702:=0
def tw6364184098385476424:=0
def tw10122271573769025410:=0
def tw10584699420138084722:=0
def tw8870102198515768167:=0
def tw17523894093073318475:=0
def tw7159422726557046824:=0
def tw9957971457943273970:=0
def tw12900810262138183803:=0
def tw5129030676834596624:=0
def tw10553987165965176237:=0
def tw6239928789973351856:=0
def tw10150360010044947734:=0
def tw13768270282992332134:=0
def tw11222890722349254596:=0
def tw5977088272725777217:=0
def tw14199987530463330142:=0
def tw781698024832129200:=0
def tw9427358943528776357:=0
def tw3883788550078032296:=0
def tw14383153906240021073:=0
def tw8057609551235222025:=0
def tw671975279664388485:=0
def tw5040284042548494113:=0
def tw13933469708875984862:=0
def tw17445022637873281118:=0
def tw2329462145557053392:=0
def tw16938188638198433071:=0
def tw17113667586224459056:=0
def tw11782076388410310572:=0
def tw5648910712298797454:=0
def tw3191502420063470264:=0
def tw11781267108080783794:=0
def tw9605583011615395228:=0
def tw14073119277023413037:=0
def tw13879462615632247748:=0
def tw12262588127947641451:=0
def tw16681132602303495844:=0
def tw14654981952920390052:=0
def tw6826456238028532153:=0
def tw7333994417500902089:=0
def tw5265035415500983198:=0
def tw10875749711468226308:=0
def tw7556314864110183071:=0
def tw726125749159588594:=0
def tw14971827324770638673:=0
def tw16970419580672220030:=0
def tw12550419448874904720:=0
def tw117850081996289063:=0
def tw11281447456782491123:=0
def tw8514374087418503872:=0
def tw4515934285028093635:=0
def tw962143398462957027:=0
def tw8671841642279610792:=0
def tw10586746888863745067:=0
def tw9900513075791271757:=0
def tw7682487475178283041:=0
def tw17526039420238165418:=0
def tw17157374014500182123:=0
def tw14218677709357975787:=0
def tw10679216935465880280:=0
def tw16343445276439190760:=0
def tw966146717062836479:=0
def tw14528537369283318258:=0
def tw8891717200354824818:=0
def tw18410550141073790506:=0
def tw6590075865714726531:=0
def tw4155992082611046222:=0
def tw15254676393897296413:=0
def tw8786063355211575430:=0
def tw11046066119926737170:=0
def tw17636679141877025892:=0
def tw12801400115771986111:=0
def tw7305988948705446533:=0
def tw16824644719019720405:=0
def tw12657474847285783184:=0
def tw3601005669636381889:=0
def tw15943112662950994351:=0
def tw10706078435950689919:=0
def tw2954131849597242241:=0
def tw2104986051767213776:=0
def tw10814774132783442691:=0
def tw15417529955841686905:=0
def tw11832155050700780682:=0
def tw4463348945359029712:=0
def tw8164292873446798342:=0
def tw9083288517897716514:=0
def tw9959720554260564312:=0
def tw11570630849431078937:=0
def tw10395977254278774034:=0
def tw6614192097088803178:=0
def tw15012548359290172239:=0
def tw977729221194679343:=0
def tw11003797796439678208:=0
def tw10204681265650709217:=0
def tw17920258023130642691:=0
def tw6520565700657436692:=0
def tw17810579069846982260:=0
def tw7014932857272681795:=0
def tw5555375512957056846:=0
def tw7080515979185596229:=0
def tw7178258278517120641:=0
def tw4815920706257547961:=0
def tw10768599268844738689:=0
def tw14150320953049299915:=0
def tw9828102464743563539:=0
def tw9651831431002530937:=0
def tw9523724819787527162:=0
def tw9479455110634579672:=0
def tw9436418051035673008:=0
def tw9433202547457971216:=0
def tw9358935595470932391:=0
def tw8587814182827744930:=0
def tw8365299918442932511:=0
def tw8114624555672935503:=0
def tw8075063014573588266:=0
def tw8062272661764600974:=0
def tw7502136160868155235:=0
def tw7174735019533952106:=0
def tw7164366955693533649:=0
def tw7024744504332115342:=0
def tw6825961468512255896:=0
def tw66794158904369367:=0
def tw6439569269133933351:=0
def tw6408861201468689777:=0
def tw6407340314226687020:=0
def tw6156142213113931398:=0
def tw5960858706961200790:=0
def tw5560102196031839565:=0
def tw4973601989710159565:=0
def tw4584805958472723119:=0
def tw452924876843559604:=0
def tw430409386822444444:=0
def tw4180683731623130954:=0
def tw4051565848228009390:=0
def tw392626441538611909:=0
def tw3846243491999675669:=0
def tw3678856220133816497:=0
def tw3548573525521424030:=0
def tw337086255901872069:=0
def tw2830779034634478857:=0
def tw2822534939910401265:=0
def tw2446140234561814724:=0
def tw2348102447360408033:=0
def tw2049276749506258849:=0
def tw18406898018713064116:=0
def tw18304587760566525731:=0
def tw18279840087294972618:=0
def tw1762523135487769209:=0
def tw1747505985075643100:=0
def tw1743976328130326692:=0
def tw17232411616164052504:=0
def tw17224452877069550694:=0
def tw17026174370829319298:=0
def tw16149100606086226099:=0
def tw16096019136929365794:=0
def tw15466100293369950665:=0
def tw15403625774314398505:=0
def tw15377523785450498773:=0
def tw14991847784412818841:=0
def tw14858792225220151847:=0
def tw14691121696646446238:=0
def tw14090384989332647260:=0
def tw13951284272246927078:=0
def tw13803212355899807531:=0
def tw13393729801877997723:=0
def tw13310648919106660139:=0
def tw13033219450245727445:=0
def tw12927615870431378206:=0
def tw1246824552280298436:=0
def tw12344450252391498238:=0
def tw11930756783463183968:=0
def tw11819970786364458343:=0
def tw11645319357077655902:=0
def tw116060275250850611:=0
def tw11593304899981289576:=0
def tw11268979373541489997:=0
def tw11105834621481649781:=0
def tw11033466611540460234:=0
def tw10976743200048294074:=0
def tw10764404401316227595:=0
def tw10760387222603061599:=0
def tw10708550460482469252:=0
def tw10672049743041882436:=0
def tw10555166825994921417:=0
def tw10479020618294230934:=0
end PySem.W.Fast
open PySem PySem.W PyProof.Rows
set_option maxRecDepth 100000 in
set_option maxHeartbeats 0 in
theorem PySem.Challenge.cw_trunksay_k28_surroundings_holds : PySem.Challenge.rw_trunksay_k28_surroundings.Holds := by
 w_on; o_law; k_head; (case hw => w_witness2)
 k_fill
 refine L2.walkT (l := PySem.Challenge.rw_trunksay_k28_surroundings) (k := 42) (x := "_law_script") (G := P.f_q45) P.tabL (by decide) rfl rfl ⟨rfl, by decide, by decide⟩ (fun w h Y => PySem.W.km_in_of Y) (fun w h Y T hT => PySem.W.km_tabs_of Y T hT) (fun w T hT => ?KT) (fun w T hT => ?CT) ?F P.law_ok
 case KT =>
  simp only [P.tabL, aH, dD, a_, List.not_mem_nil, or_false] at hT
  rcases hT with rfl
  ·kernel_rfl
 case CT =>
  simp only [P.tabL, aH, dD, a_, List.not_mem_nil, or_false] at hT
  rcases hT with rfl
  ·exact ⟨86, by kernel_rfl⟩
 case F =>
  intro w mg fa h KX G hmg
  refine' P.all_mk KX G hmg ?_ ?_ ?_ ?_ ?_ ?_ ?_ ?_ ?_ ?_ ?_ ?_ ?_ ?_ ?_ ?_ ?_ ?_ ?_ ?_ ?_ ?_ ?_ ?_ ?_ ?_ ?_ ?_ ?_ ?_ ?_ ?_ ?_ ?_ ?_ ?_ ?_ ?_ ?_ ?_ ?_ ?_ ?_ ?_ ?_ ?_ ?_ ?_ ?tc_firsts_of ?tk_firsts_of ?_ ?_ ?_ ?_ ?_ ?_ ?_ ?_ ?_ ?_ ?_ ?_ ?_ ?_ ?_ ?_ ?_
  any_goals (refine' L2.DefIn.mk ?a ?l ?c ?k; (case a => k_is); (case l => k_is); (case c => k_is); (case k => k_is))
  any_goals k_is
  (case tc_firsts_of => kernel_rfl)
  (case tk_firsts_of => kernel_rfl)
