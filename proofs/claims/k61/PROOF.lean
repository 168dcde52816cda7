import PyProof.Rows.All
import Wide.All
import OpenK.AllK
import Wide.FinOn
import Lean
import PyProof.EqAt
import PyProof.EqKinds
import PyProof.TupleCall
import PyProof.StrLawsIn
import PyProof.StationsW
import PyProof.NeData
import OpenK.KOwn
import PyProof.NsDelKeeps
import PyProof.ExcArgsOwn
import PyProof.ExcAttrAll.ValueError
import PyProof.IsiH_tuple
import KE.KIsAll
import PyProof.CollectStr
import PyProof.ZipIter
import PyProof.Rows.ZipGen
import PyProof.JoinWalk
import PyProof.CollectIter
import PyProof.EnumMake
import PyProof.SumAny
import PyProof.DictTruth
import KE.KDictList
import KE.KNest
import KE.KEqDict
import PyProof.ListRange
import KE.KEqSeq
import PyProof.Rows.SetFrom
import PyProof.ListMulRoad
import PyProof.AttrMissHeap
import PyProof.ListNew
import PySem.Challenge.RW_trunksay_k61_next_filling
set_option Elab.async false
set_option linter.all false
set_option genSizeOf false
set_option maxRecDepth 100000

def tv0:=trivial
open Array renaming length_toList→dI,getElem?_toList→fA,getElem?_eq_getElem→im,getD_eq_getD_getElem?→kH
open Bool renaming and_eq_true→bX,false_ne_true→cF,and_true→cK,not_eq_true'→gU,eq_iff_iff→iG,or_eq_true→nU
open Function renaming comp_def→eh
open Int renaming toNat_natCast→aO,natCast_mul→dm,natCast_add→dL,emod_nonneg→iF,fdiv_eq_ediv_of_nonneg→lv,emod_lt_of_pos→lH,mul_comm→nC
open LawfulBEq renaming eq_of_beq→mF
open List renaming getElem?_eq_some_iff→ac,getElem?_eq_getElem→ae,prefix_refl→ah,getElem?_map→aj,length_map→al,getD_eq_getElem?_getD→ao,mem_of_getElem?→ay,getElem?_eq_none→az,mem_cons_of_mem→aA,length_append→aE,mem_cons→aH,mem_append_right→aI,getElem?_range→aJ,getElem?_append_left→aK,length_take→aM,size_toArray→aN,map_cons→aP,map_map→aS,mem_append→aY,mem_cons_self→aZ,mem_map→ba,prefix_append→bb,drop_eq_getElem_cons→bd,append_assoc→bh,getElem?_set_self→bn,length_cons→br,map_append→bw,mem_singleton→bB,pairwise_cons→bG,map_congr_left→bJ,take_of_length_le→bK,mem_range→bN,mem_append_left→bS,getElem?_set_ne→bT,find?_cons→bZ,ext_getElem?→b6,length_filter_le→b_,replicate_succ→ca,append_nil→ce,take_length→cz,length_range→cC,take_append_of_le_length→cE,mem_filter→cH,flatten_cons→cP,length_singleton→dg,getElem?_take_of_lt→dh,getElem?_append_right→dE,drop_zero→dF,getElem_mem→dU,filter_cons→dW,foldl_cons→eK,range_succ_eq_map→eV,drop_of_length_le→eW,nodup_cons→fG,getElem?_of_mem→fN,eq_of_mem_replicate→fQ,filterMap_cons→fT,eq_nil_of_length_eq_zero→gb,nil_append→gq,length_nil→gr,filter_map→gz,length_replicate→gG,getElem?_reverse→gI,take_append_drop→gJ,mem_of_mem_take→g8,length_drop→ie,not_mem_nil→ii,pairwise_iff_getElem→io,length_set→iD,lookup_append→iN,getElem?_take→iS,getElem?_replicate→iW,map_id→iX,length_eq_zero_iff→iY,nodup_append→jr,length_eq_one_iff→jt,set_append_right→jC,lookup_cons→jJ,sum_cons→jN,length_pos_iff→kt,mem_filterMap→lu,take_left→lG,any_eq_false→l0,find?_append→l6,any_cons→me,any_eq_true→mM,getElem_map→mO,drop_eq_nil_of_le→nw,of_mem_zip→nS,forIn_cons→nT,range_succ→nY,set_getElem_self→oz,map_take→pZ,map_nil→rY,map_set→r9
open List.Perm renaming refl→g7,append_left→ou
open Nat renaming le_refl→aw,le_trans→aL,le_of_ble_eq_true→aQ,lt_of_lt_of_le→aU,ne_of_lt→aX,lt_succ_self→cJ,zero_le→cL,lt_succ_of_lt→cQ,lt_irrefl→cW,le_succ→dJ,pow_le_pow_right→d8,add_left_cancel→eQ,zero_add→eX,ne_of_gt→fJ,le_of_lt→gj,min_eq_left→gy,add_assoc→gD,add_zero→ig,lt_of_le_of_lt→iM,not_lt→iP,mul_comm→jn,lt_of_succ_lt_succ→ju,not_lt_zero→kh,succ_mul→kE,lt_or_ge→kG,zero_mul→kI,sub_self→kJ,add_sub_cancel→lI,eq_zero_or_pos→lJ,mul_le_mul→lK,succ_ne_self→mJ,pow_succ→nD,div_div_eq_div_mul→nE,mul_one→oX,pow_pos→oY,add_comm→rX,sub_zero→r6,mul_zero→r_
open Option renaming map_eq_some_iff→aG
open Option.some renaming inj→aF
open PyProof renaming noPylong_small→no
open PyProof.Rows renaming callWith_type1→bR,slot_tuple_getitem→dN,callWith_builtin1→jI,subscriptTail_builtinR→nq,boot_enumerate→oV,Constant_none→pU
open PyProof.Rows.F renaming plain_set_update_loop→eP,entry_set_update_loop→iw
open PySem renaming wpAny_bind→aa,wpAny_pure→aq,wpAny_callSpecial?_slot→be,wpAny_call_entry→bp,wpAny_loadPart'→bv,wpAny_newObj_type→bF,wpAny_field→bU,wpAny_setField_rec→cr,isSubtype_type→cI,wpAny_holding→dz,wpAny_attempt→dA,wpAny_seqItems→dG,builtinLookup_eq_fast→dP,wpAny_isInstance→dS,wpAny_mono→eJ,wpAny_Call_Name_kw→fw,wpAny_passesOwn→fF,wpAny_of_eq→fK,wpAny_setState_of→fL,wpAny_setEntries_of→fU,wpAny_pyIter_tuple→gk,typeLookup_type→gs,codeAny_builtin→gu,wpAny_truthy_bool→gQ,wpAny_pyIter_list→gR,isSubtype_stop→gZ,codeAny_mono→ic,wpAny_specialOf→iE,typeIs_str→iL,wpAny_rule→iQ,wpAny_setField→jo,wpAny_pyIter_enum→jq,wpAny_pyIter_slot→js,plainId_quiet→jM,sizeLine_eq→j0,wpAny_execs_nil→ke,wpAny_typeOf→kD,tupleKind_room_in1→lx,wpAny_letOwnedTupleGo_enum→ly,entryFor_alias→lD,wpAny_fieldsOf→lE,wpAny_onRaise→mf,noFill_tuple_add→mE,wpAny_Call_method0_late→mG,wpAny_pyNext_enum_itemD→mH,wpAny_askSetting→mK,wpAny_pyIter_rangeiter→nn,call_meets→nv,callType_new→nA,wpAny_ite_split→nV,wpAny_updateSeq→nX,wpAny_isTrue_Compare1→om,wpAny_nextOf_list_end→oy,wpAny_standAt→pV,seq_tuple_add→pW,wpAny_handled→pX,wpAny_call→qr,concat_meets→rT,seqIndex_neg→rW,call_meetsIn→rZ,putSet_of→tu
open PySem.Around renaming under_plainId→fM
open PySem.Calls renaming spliced_cons→fq,callWith_builtin→gm,spliced_nil→gT,evalArgs_plain→j3,Name_function_global→ln,call_function_entry→lL
open PySem.F renaming slot_tuple_iterator_next→fx,slot_enumerate_next→gH,args_tuple_iterator_next_1→kg,slot_zip_next→ki,entry_tuple_iterator_next→kF,args_enumerate_next_1→mI,entry_enumerate_next→ny,typeCall_enumerate_1→nB,newCall_enumerate_1→oo,entry_enumerate_new→oq
open PySem.Heap renaming get?_push_of_some→ai,get?_push_size→ar,lt_size→aC,size_push→bt,get?_update_other→cm,get?_update_self→cx,get?_push_ne→jp
open PySem.Heap.SameBut renaming update→eO
open PySem.Obj renaming data_mapFields→fy,isFreed_of_fields→jB
open PySem.SeqAt renaming str_beq→pY
open PySem.Value renaming isStrOf_shape→kr
def au:=@if_pos
def ax:=@if_neg
def a8:=@decide_eq_false
def bf:=@decide_eq_true
def bH:=@decide_eq_true_iff
def bI:=@beq_eq_false_iff_ne
def db:=@beq_iff_eq
def gY:=@congrArg
def iC:=@if_true
def iR:=@of_decide_eq_false
def l5:=@of_decide_eq_true
def rV:=@if_false
def r4:=@or_false
set_option compiler.extract_closed false
noncomputable section
variable{us bq:List PySem.Value}{x:Option Nat×Option Nat}{u v:PySem.Value}{a b it C:PySem.Addr}{o e c tg c6 nO:PySem.Expr}{P prog:PySem.Program}{h h' base:PySem.Heap}{α β:Type}{ag:List (PySem.Addr×PySem.Obj)}{s:PySem.Shared}{g':Array PySem.GenState}{t' i j n m kk ep q:Nat}{ch fp μ μ':List PySem.Addr}{N ls:List (List Nat)}{M:PySem.Model}{A:PySem.Around}{E Q Qv:PySem.Value->PySem.Shared->Prop}{pos h_ p fm p2 dw tp:PySem.Pos}{op:PySem.CmpOp}{K:PySem.W.Frag}{es kq jY:List PySem.Expr}{g:PySem.Value->PySem.Value->PySem.Sem PySem.Value}{body:List PySem.Stmt}{f:Option Nat×Option Nat->Option Nat}{mA mg:PySem.Str->Option PySem.Value}{name:PySem.Str}{pl:PySem.Sem Bool}{kw:List (PySem.Str×PySem.Value)}{env:PySem.Env}{fd:PySem.FuncData}{ps ks:List PySem.Str}{kindOf:PySem.Str->Option PySem.NameKind}{scope:PySem.Scope}{T:Nat->Nat->Nat->Nat}{l nm S rs ns:List Nat}{XP:(PySem.Str->Option PySem.Value)->PySem.Heap->Prop}{YP:PySem.World->PySem.Heap->Prop}{cl:List (PySem.Str×PySem.Addr)}{cap:List (Option Nat)}{use:Option (PySem.Value->PySem.Sem Unit)}
open PySem.W (Frag)
open PySem.W (instObj hideAll lookIn plainGet findIn isFn makesIn emptyDict keepIn kia_one fnOf codeIn excIn nsIn mg_of mg_none_of)
namespace L2
open PySem PySem.Spec PyProof.Rows
noncomputable abbrev jv:=Sum Int Str
def wU:jv->Value->Bool
 |.inl k,v=>Value.isInt k v
 |.inr x,v=>Value.isStrOf x v
def Vd(w:World):jv->Int
 |.inl k=>hashInt k
 |.inr x=>hashStr w x
theorem eY:∀{k:jv} {v:Value},wU k v=true->(∃i t,k=Sum.inl i/\v=Value.int i t)\/(∃x t,k=Sum.inr x/\v=Value.str x t)
 |.inl i,v,h=>by
  obtain⟨t,e⟩:=Value.isInt_shape (k:=i) (v:=v) h
  exact .inl ⟨i,t,rfl,e⟩
 |.inr x,v,h=>by
  obtain⟨t,e⟩:=kr (x:=x) (v:=v) h
  exact .inr ⟨x,t,rfl,e⟩
theorem DW(i:Int)(t:Tok):wU (.inl i) (.int i t)=true:=by simp[wU,Value.isInt]
theorem DY(x:Str)(t:Tok):wU (.inr x) (.str x t)=true:=by simp[wU,Value.isStrOf]
theorem NP(a b:Int):decide ((Sum.inl a:jv)=Sum.inl b)=(a==b):=by
 by_cases e:a=b
 ·subst e;simp
 ·have h:¬ (Sum.inl a:jv)=Sum.inl b:=fun q=>e (Sum.inl.inj q)
  rw[a8 h]
  exact(bI.mpr e).symm
theorem NQ(a b:Str):decide ((Sum.inr a:jv)=Sum.inr b)=decide (a=b):=by
 by_cases e:a=b
 ·subst e;simp
 ·have h:¬ (Sum.inr a:jv)=Sum.inr b:=fun q=>e (Sum.inr.inj q)
  rw[a8 h,a8 e]
theorem NR(a:Int)(b:Str):decide ((Sum.inl a:jv)=Sum.inr b)=false:=a8 (fun q=>nomatch q)
theorem NS(a:Str)(b:Int):decide ((Sum.inr a:jv)=Sum.inl b)=false:=a8 (fun q=>nomatch q)
def d9(prog:Program)(w:World):PySem.KeyKind prog w jv where
 is:=wU
 hash:=Vd w
 inj:=fun v a b ha hb=>by
  rcases eY ha with⟨i,t,rfl,rfl⟩|⟨x,t,rfl,rfl⟩
  ·rcases eY hb with⟨j,u,rfl,e⟩|⟨y,u,rfl,e⟩
   ·injection e with e1 _;rw[e1]
   ·exact nomatch e
  ·rcases eY hb with⟨j,u,rfl,e⟩|⟨y,u,rfl,e⟩
   ·exact nomatch e
   ·injection e with e1 _;rw[e1]
 byValue:=fun k v h=>by
  rcases eY h with⟨i,t,rfl,rfl⟩|⟨x,t,rfl,rfl⟩<;>rfl
 pyHash:=fun hv h=>by
  rcases eY hv with⟨i,t,rfl,rfl⟩|⟨x,t,rfl,rfl⟩
  ·exact wpAny_pyHash_int h
  ·exact wpAny_pyHash_str h
 eqBool:=fun hu hv h=>by
  rcases eY hu with⟨i,t,rfl,rfl⟩|⟨x,t,rfl,rfl⟩
  ·rcases eY hv with⟨j,u,rfl,rfl⟩|⟨y,u,rfl,rfl⟩
   ·rw[NP]at h;exact wpAny_eqBool_int h
   ·rw[NR]at h;exact SeqAt.EqAt.int_str i t y u _ _ _ _ h
  ·rcases eY hv with⟨j,u,rfl,rfl⟩|⟨y,u,rfl,rfl⟩
   ·rw[NS]at h;exact SeqAt.EqAt.str_int x t j u _ _ _ _ h
   ·rw[NQ]at h;exact wpAny_eqBool_str h
 «strs»:=fun k x t v h=>by
  rcases eY h with⟨i,u,rfl,e⟩|⟨y,u,rfl,e⟩
  ·exact nomatch e
  ·injection e with e1 _
   subst e1
   cases v<;>rfl
theorem zh(prog:Program)(w:World)(i:Int)(t:Tok):(d9 prog w).is (.inl i) (.int i t)=true:=DW i t
theorem zi(prog:Program)(w:World)(x:Str)(t:Tok):(d9 prog w).is (.inr x) (.str x t)=true:=DY x t
inductive V where
 |non|bl (b:Bool)|int (i:Int)|str (x:Str)|byt (b:Array UInt8)|flt (b:UInt64)|ref (a:Addr)|ty (n:String)
 deriving DecidableEq
def cD:V->Value->Prop
 |.non,u=>u=Value.none
 |.bl b,u=>u=Value.bool b
 |.int i,u=>∃t,u=Value.int i t
 |.str x,u=>∃t,u=Value.str x t
 |.byt b,u=>∃t,u=Value.bytes b t
 |.flt b,u=>∃t,u=Value.float b t
 |.ref a,u=>u=Value.ref a
 |.ty n,u=>u=Value.type n
abbrev cu:List V->List Value->Prop:=Paired cD
theorem cu.length{xs:List V}(r:cu xs us):xs.length=us.length:=Paired.length r
theorem cu.get:∀{xs:List V} {us:List Value} {i:Nat} {x:V},cu xs us->xs[i]?=some x->∃u,us[i]?=some u/\cD x u
 |_,_,_,_,.nil,e=>by simp at e
 |_,_,0,_,.cons r _,e=>by simp at e;subst e;exact⟨_,rfl,r⟩
 |_,_,i+1,x,.cons _ t,e=>by
  obtain⟨u,h1,h2⟩:=cu.get (i:=i) (x:=x) t (by simpa using e)
  exact⟨u,by simpa using h1,h2⟩
theorem cu.set{x:V}(r:cD x u):∀{xs:List V} {us:List Value} (i:Nat),cu xs us->cu (xs.set i x) (us.set i u)
 |_,_,_,.nil=>.nil
 |_,_,0,.cons _ t=>.cons r t
 |_,_,i+1,.cons q t=>.cons q (cu.set r i t)
theorem cu.append:∀{xs ys:List V} {us ws:List Value},cu xs us->cu ys ws->cu (xs++ys) (us++ws)
 |_,_,_,_,.nil,s=>s
 |_,_,_,_,.cons r t,s=>.cons r (cu.append t s)
theorem cu.take:∀{xs:List V} {us:List Value} (n:Nat),cu xs us->cu (xs.take n) (us.take n)
 |_,_,0,_=>.nil
 |_,_,_+1,.nil=>.nil
 |_,_,n+1,.cons r t=>.cons r (cu.take n t)
theorem cu.drop:∀{xs:List V} {us:List Value} (n:Nat),cu xs us->cu (xs.drop n) (us.drop n)
 |_,_,0,r=>r
 |_,_,_+1,.nil=>.nil
 |_,_,n+1,.cons _ t=>cu.drop n t
def nZ:Option V->Option Value->Prop
 |some v,some u=>cD v u
 |none,none=>True
 |_,_=>False
def KV{κ:Type}:List (κ×V)->List (κ×Value)->Prop:=Paired fun(p:κ×V) (q:κ×Value)=>p.1=q.1/\cD p.2 q.2
def kV:jv->V
 |.inl i=>.int i
 |.inr x=>.str x
inductive HO where
 /-- a list -/
 |lst (xs:List V)
 /-- a tuple (never changes) -/
 |tup (xs:List V)
 /-- a dict whose keys are ints and texts;one whose keys are tuples of ints and texts (the empty one is both) -/
 |dK (kvs:List (jv×V))|dT (kvs:List (List jv×V))
 /-- a set of ints: bq members,bq size -/
 |set (S:Int->Bool) (n:Nat)
 /-- an instance of the class at C,bq dict at dx,bq attributes -/
 |ins (C dx:Addr) (fs:List (Str×V))
 /-- the dict of the instance at x -/
 |own (x:Addr)
 /-- the dict of an exception -/
 |xd (fs:List (Str×V))
 /-- a bound method,f of x -/
 |met (f x:Addr)
 /-- a range object lo,lo+1,.. below hi -/
 |rng (lo hi:Int)
 /-- a thing that is known to the object (the script;a dict while a loop walks it): read,never written while it is so -/
 |frz (o:Obj) (u:HO)
 /-- a code object's table -/
 |tbl (ps:Array Value)
 /-- any other thing,by what is true of bq one object (a def of WF own: SetO a S n:=HO.ext fun h=>..) -/
 |ext (φ:Heap->Prop)
noncomputable abbrev Hp:=Addr->Option HO
def ei(H:Hp)(a:Addr)(o:HO):Hp:=fun b=>if b=a then some o else H b
theorem eN{H:Hp}{o:HO}:ei H a o a=some o:=by unfold ei;rw[au rfl]
theorem cv{H:Hp}{o:HO}(h:b≠a):ei H a o b=H b:=by unfold ei;rw[ax h]
theorem Rp{H:Hp}{o u:HO}(h:H a=some o)(h':H b=some u)(d:o≠u):a≠b:=by
 intro e;subst e;rw[h]at h';exact d (aF h')
theorem e_{H:Hp}{o:HO}(h:H a=some o)(h':H b=none):a≠b:=by
 intro e;subst e;rw[h]at h';cases h'
section
variable(P:Program)(w:World)
def fH(H:Hp)(h:Heap)(a:Addr):HO->Prop
 |.lst xs=>xs.length<=sizeLine/\∃(bq:List Value) (n:Nat),cu xs bq/\h.get? a=some { cls:=.type "list",data:=.seq bq.toArray n }
 |.tup xs=>xs.length<=sizeLine/\∃bq:List Value,cu xs bq/\IsTup h a bq.toArray
 |.dK kvs=>kvs.length<=sizeLine/\(a==sysModules)=false/\∃vs,KV kvs vs/\h.DictOf (d9 P w) a vs
 |.dT kvs=>kvs.length<=sizeLine/\(a==sysModules)=false/\∃xs:List (List jv×Addr×Value),
   Paired (fun(p:List jv×V) (q:List jv×Addr×Value)=>p.1=q.1/\H q.2.1=some (.tup (p.1.map kV))/\cD p.2 q.2.2) kvs xs /\
   ∃o es ep,h.get? a=some o/\o.ExactDict/\o.data=.dict es ep/\es.toList=xs.map (entryOfKey (tupleKind (d9 P w)))/\(xs.map (·.1)).Nodup
 |.set S n=>h.SetOf (intKind P w) a S n
 |.ins C dx fs=>H dx=some (.own a)/\fs.length<=1000/\dx≠a/\h.get? a=some (instObj C dx) /\
   ∃mA,h.Ns1 dx mA/\(∀f,nZ (fs.lookup f) (mA f))/\PySem.Within mA (fs.map (·.1))
 |.own _=>∃o,h.get? a=some o
 |.xd fs=>∃mA,h.Ns1 a mA/\∀f,nZ (fs.lookup f) (mA f)
 |.rng lo hi=>∃t u v,h.get? a=some { cls:=.type "range",data:=.fields #[.int lo t,.int hi u,.int 1 v] }
 |.frz o u=>h.get? a=some o/\fH H h a u
 |.tbl ps=>h.get? a=some { cls:=.none,data:=.fields ps }
 |.met f x=>h.get? a=some (PySem.W.methodObj (.ref f) (.ref x))
 |.ext φ=>φ h/\(∃o,h.get? a=some o)/\∀h1 h2:Heap,φ h1->(∀o,h1.get? a=some o->h2.get? a=some o)->φ h2
def p5(H:Hp)(h:Heap):Prop:=∀a o,H a=some o->fH P w H h a o
end
section
variable{w:World}{H H':Hp}{o:HO}
theorem fH.lt(x:fH P w H h a o):a<h.objs.size:=by
 cases o with
 |lst xs=>obtain⟨_,_,_,_,e⟩:=x;exact aC e
 |tup xs=>obtain⟨_,_,_,p⟩:=x;exact p.lt
 |dK kvs=>obtain⟨_,_,_,_,o,_,_,e,_⟩:=x;exact aC e
 |dT kvs=>obtain⟨_,_,_,_,o,_,_,e,_⟩:=x;exact aC e
 |set S n=>obtain⟨o,_,_,_,e,_⟩:=x;exact aC e
 |ins C dx fs=>obtain⟨_,_,_,e,_⟩:=x;exact aC e
 |own y=>obtain⟨_,e⟩:=x;exact aC e
 |xd fs=>obtain⟨_,⟨_,_,_,e,_⟩,_⟩:=x;exact aC e
 |rng lo hi=>obtain⟨_,_,_,e⟩:=x;exact aC e
 |frz ob u=>obtain⟨e,_⟩:=x;exact aC e
 |tbl ps=>exact aC (show h.get? a=some _ from x)
 |met f y=>exact aC (show h.get? a=some _ from x)
 |ext φ=>obtain⟨_,⟨_,e⟩,_⟩:=x;exact aC e
theorem Paired.mapP{F G:α->β->Prop}:∀{l₁:List α} {l₂:List β},Paired F l₁ l₂->(∀a b,F a b->G a b)->Paired G l₁ l₂
 |_,_,.nil,_=>.nil
 |_,_,.cons r t,f=>.cons (f _ _ r) (Paired.mapP t f)
theorem Paired.imp'{F G:α->β->Prop}(f:∀a b,F a b->G a b){l₁:List α}{l₂:List β}(r:Paired F l₁ l₂):Paired G l₁ l₂:=Paired.mapP r f
theorem fH.stay(x:fH P w H h a o)(k:∀b u,(b=a\/H b=some (.own a))->h.get? b=some u->h'.get? b=some u)
  (ho:∀b,H b=some (.own a)->H' b=some (.own a)) (ht:∀b xs,H b=some (.tup xs)->H' b=some (.tup xs)):fH P w H' h' a o:=by
 induction o with
 |lst xs=>obtain⟨z,bq,n,r,e⟩:=x;exact⟨z,bq,n,r,k _ _ (.inl rfl) e⟩
 |tup xs=>obtain⟨z,bq,r,ob,e,c⟩:=x;exact⟨z,bq,r,ob,k _ _ (.inl rfl) e,c⟩
 |dK kvs=>obtain⟨z,y,vs,r,ob,es,ep,e,c⟩:=x;exact⟨z,y,vs,r,ob,es,ep,k _ _ (.inl rfl) e,c⟩
 |dT kvs=>
  obtain⟨z,y,xs,r,ob,es,ep,e,c⟩:=x
  exact⟨z,y,xs,Paired.mapP r fun p q z=>⟨z.1,ht _ _ z.2.1,z.2.2⟩,ob,es,ep,k _ _ (.inl rfl) e,c⟩
 |set S n=>obtain⟨ob,es,ep,t,e,c⟩:=x;exact⟨ob,es,ep,t,k _ _ (.inl rfl) e,c⟩
 |ins C dx fs=>
  obtain⟨d,z,ne,e,mA,⟨od,es,ep,e2,c⟩,r⟩:=x
  exact⟨ho _ d,z,ne,k _ _ (.inl rfl) e,mA,⟨od,es,ep,k _ _ (.inr d) e2,c⟩,r⟩
 |own y=>obtain⟨ob,e⟩:=x;exact⟨ob,k _ _ (.inl rfl) e⟩
 |xd fs=>obtain⟨mA,⟨od,es,ep,e,c⟩,r⟩:=x;exact⟨mA,⟨od,es,ep,k _ _ (.inl rfl) e,c⟩,r⟩
 |rng lo hi=>obtain⟨t,u,v,e⟩:=x;exact⟨t,u,v,k _ _ (.inl rfl) e⟩
 |frz ob u ih=>obtain⟨e,q⟩:=x;exact⟨k _ _ (.inl rfl) e,ih q⟩
 |tbl ps=>
  have e:h.get? a=some { cls:=.none,data:=.fields ps }:=x
  show h'.get? a=some { cls:=.none,data:=.fields ps }
  exact k a _ (.inl rfl) e
 |met f y=>
  have e:h.get? a=some (PySem.W.methodObj (.ref f) (.ref y)):=x
  show h'.get? a=some (PySem.W.methodObj (.ref f) (.ref y))
  exact k a _ (.inl rfl) e
 |ext φ=>obtain⟨p,⟨o,e⟩,st⟩:=x;exact⟨st _ _ p fun o q=>k _ _ (.inl rfl) q,⟨o,k _ _ (.inl rfl) e⟩,st⟩
theorem p5.lt(x:p5 P w H h)(e:H a=some o):a<h.objs.size:=(x a o e).lt
theorem p5.fresh(x:p5 P w H h)(e:h.objs.size<=a):H a=none:=by
 cases q:H a with
 |none=>rfl
 |some u=>exact absurd (aU (x.lt q) e) (cW _)
theorem p5.kept(x:p5 P w H h)(k:∀b u,h.get? b=some u->h'.get? b=some u):p5 P w H h':=fun a o e=>
 (x a o e).stay (fun b u _ q=>k b u q) (fun _ q=>q) fun _ _ q=>q
theorem p5.laid(x:p5 P w H h)(k:∀b u,h.get? b=some u->h'.get? b=some u)(hp:h.objs.size<=a)(new:fH P w (ei H a o) h' a o):p5 P w (ei H a o) h':=fun b u e=>by
 have hn:=x.fresh hp
 by_cases hb:b=a
 ·subst hb;rw[eN]at e;cases e;exact new
 ·rw[cv hb]at e
  exact(x b u e).stay (fun c v _ q=>k c v q) (fun c q=>by rw[cv (e_ q hn)];exact q) fun c xs q=>by rw[cv (e_ q hn)];exact q
end
def Rd(H:Hp)(a:Addr)(u:HO):Prop:=H a=some u\/∃o,H a=some (.frz o u)
theorem Rd.ok{w:World}{H:Hp}{u:HO}(r:Rd H a u)(x:p5 P w H h):fH P w H h a u:=by
 rcases r with r|⟨o,r⟩
 ·exact x a u r
 ·obtain⟨_,q⟩:=x a _ r
  exact q
def Rq:Option HO->Prop
 |some (.lst _)=>True
 |some (.dK _)=>True
 |some (.dT _)=>True
 |some (.set _ _)=>True
 |some (.ins _ _ _)=>True
 |some (.ext _)=>True
 |_=>False
section
variable{w:World}{H:Hp}{x e:Addr}{o':HO}
theorem p5.write(ok:p5 P w H h)(mu:Rq (H x))(he:e=x\/H e=some (.own x))(k:∀b u,b≠e->h.get? b=some u->h'.get? b=some u)(Rn:∃u,h'.get? e=some u)
  (new:fH P w (ei H x o') h' x o'):p5 P w (ei H x o') h':=fun b u q=>by
 have nown:∀c y,H c=some (.own y)->c≠x:=fun c y r z=>by subst z;rw[r]at mu;exact mu
 have ntup:∀c xs,H c=some (.tup xs)->c≠x:=fun c xs r z=>by subst z;rw[r]at mu;exact mu
 by_cases hb:b=x
 ·subst hb;rw[eN]at q;cases q;exact new
 ·rw[cv hb]at q
  by_cases hbe:b=e
  ·have q':H b=some (.own x):=by
    rcases he with z|z
    ·exact absurd (hbe.trans z) hb
    ·rw[hbe];exact z
   rw[q]at q';cases q'
   obtain⟨v,hv⟩:=Rn
   exact⟨v,by rw[hbe];exact hv⟩
  ·refine(ok b u q).stay (fun c v hc r=>k c v ?_ r) (fun c r=>by rw[cv (nown c b r)];exact r) fun c xs r=>by rw[cv (ntup c xs r)];exact r
   rcases hc with rfl|hc
   ·exact hbe
   ·rintro rfl
    rcases he with z|z
    ·exact nown c b hc z
    ·rw[hc]at z;cases z;exact hb rfl
end
structure Un(fs ex:List Addr)(H H':Hp)(h h':Heap):Prop where
 keep:∀b o,h.get? b=some o->H b=none->b∉fs->b∉ex->h'.get? b=some o
 slot:∀b o,h.get? b=some o->H b=none->b∈fs->b∉ex->∃sl,h'.get? b=some { o with slots:=sl }
 free:∀b o,h.get? b=some o->H b=none->b∉ex->H' b=none
 there:∀b o,h.get? b=some o->b∉ex->∃o',h'.get? b=some o'
 tups:∀b xs,H b=some (.tup xs)->H' b=some (.tup xs)
 frzs:∀b o u,H b=some (.frz o u)->H' b=some (.frz o u)
 tbls:∀b ps,H b=some (.tbl ps)->∃more,H' b=some (.tbl (ps++more))
section
variable{fs UE ex W5:List Addr}{H H1 H2:Hp}{h1 h2:Heap}{x e:Addr}{o:HO}
theorem Un.any(u:Un fs ex H H1 h h1){ob:Obj}(q:h.get? b=some ob)(n:H b=none)(hx:b∉ex):∃sl,h1.get? b=some { ob with slots:=sl }:=by
 by_cases hb:b∈fs
 ·exact u.slot b ob q n hb hx
 ·exact⟨ob.slots,u.keep b ob q n hb hx⟩
theorem Un.kept(k:∀b u,h.get? b=some u->h'.get? b=some u):Un fs ex H H h h':=
 ⟨fun b ob q _ _ _=>k b ob q,fun b ob q _ _ _=>⟨ob.slots,k b ob q⟩,fun _ _ _ n _=>n,fun b ob q _=>⟨ob,k b ob q⟩,fun _ _ q=>q,fun _ _ _ q=>q,fun _ ps q=>⟨#[],by rw[q];simp⟩⟩
theorem Un.refl:Un fs ex H H h h:=Un.kept fun _ _ q=>q
theorem Un.laid(k:∀b u,h.get? b=some u->h'.get? b=some u)(hp:h.objs.size<=a)(hn:H a=none):Un fs ex H (ei H a o) h h' where
 keep:=fun b u q _ _ _=>k b u q
 slot:=fun b u q _ _ _=>⟨u.slots,k b u q⟩
 free:=fun b u q n _=>by rw[cv (aX (aU (aC q) hp))];exact n
 there:=fun b u q _=>⟨u,k b u q⟩
 tups:=fun b xs q=>by rw[cv (e_ q hn)];exact q
 frzs:=fun b u xs q=>by rw[cv (e_ q hn)];exact q
 tbls:=fun b ps q=>⟨#[],by rw[cv (e_ q hn),q];simp⟩
theorem Un.write(mu:Rq (H x))(he:e=x\/H e=some (.own x))(k:∀b u,b≠e->h.get? b=some u->h'.get? b=some u)(Rn:∃u,h'.get? e=some u):Un fs ex H (ei H x o) h h':=by
 have hx:∀b,H b=none->b≠x:=fun b n z=>by subst z;rw[n]at mu;exact mu
 have hb:∀b,H b=none->b≠e:=fun b n z=>by
  subst z
  rcases he with r|r
  ·exact hx b n r
  ·rw[n]at r;cases r
 have hm:∀b u,H b=some u->¬ Rq (some u)->b≠x:=fun b u q nm z=>by subst z;rw[q]at mu;exact nm mu
 refine⟨fun b u q n _ _=>k b u (hb b n) q,fun b u q n _ _=>⟨u.slots,k b u (hb b n) q⟩,fun b u q n _=>by rw[cv (hx b n)];exact n,fun b u q _=>?_,
  fun b xs q=>by rw[cv (hm b _ q fun z=>z)];exact q,fun b u xs q=>by rw[cv (hm b _ q fun z=>z)];exact q,fun b ps q=>⟨#[],by rw[cv (hm b _ q fun z=>z),q];simp⟩⟩
 by_cases hbe:b=e
 ·subst hbe;exact Rn
 ·exact⟨u,k b u hbe q⟩
end
def UL(h:Heap)(H:Hp):List Addr:=(List.range h.objs.size).filter fun a=>(H a).isSome
def xP(h:Heap)(H:Hp):Heap:=hideAll h (UL h H)
theorem DZ(h:Heap)(H:Hp):(xP h H).objs.size=h.objs.size:=PySem.W.hideAll_size _ _
theorem E4{H:Hp}{o:Obj}(e:h.get? b=some o)(n:H b=none):(xP h H).get? b=some o:=
 PySem.W.hideAll_get _ e fun hm=>by
  have q:(H b).isSome=true:=(cH.mp hm).2
  rw[n]at q;simp at q
theorem JK{H:Hp}{o:Obj}(e:(xP h H).get? b=some o):h.get? b=some o/\H b=none:=by
 have e':h.get? b=some o:=PySem.W.of_hideAll (UL h H) e
 refine⟨e',?_⟩
 cases q:H b with
 |none=>rfl
 |some x=>
  have hm:b∈UL h H:=cH.mpr ⟨bN.mpr (aC e'),by simp[q]⟩
  have z:(xP h H).get? b=none:=PySem.W.hideAll_none (UL h H) hm
  rw[z]at e;cases e
noncomputable def JL(g h:Heap)(L:Addr):List (Addr×Obj):=(List.range h.objs.size).filterMap fun a=>if a=L\/(g.get? a).isSome=true then none else(h.get? a).map fun o=>(a,o)
def gc(g h:Heap)(L d:Addr):List (Addr×Obj):=(JL g h L).filter fun p=>decide (p.1≠d)
structure Mod(K:Frag)(mg:Str->Option Value)(base:Heap):Prop where
 kin:K.In base
 glob:base.Ns mainGlobals mg
 blt:∃mb,base.Ns builtinsNs mb/\∀x:Str,x ≠ "__name__"->mb x=bootBuiltins x
 nolimit:base.NoLimit
structure Cx where
 prog:Program
 w:World
 K:Frag
 mg:Str->Option Value
 base:Heap
 A:Around
 N:List Str
 s₀:Shared
 H₀:Hp
 env:Env
 outer:List Env
 stack:List Env
 ex:List Addr
 fn:Str->Bool
 calm:Bool
 pn:List (Addr×Obj)
 xe:Value->Shared->Prop
noncomputable def uC(l:List Env):List Addr:=l.filterMap (·.frame)
abbrev Cx.fs(X:Cx):List Addr:=uC X.outer
def Rs(sc:Scope)(x:Str):Prop:=sc.names.lookup x=some .local\/sc.names.lookup x=some .cell\/sc.names.lookup x=some .free
def JM(sc:Scope)(x:Str):Prop:=sc.names.lookup x=some .local\/sc.names.lookup x=some .cell
def Ve(env:Env)(h:Heap)(m:Str->Option Value)(x:Str)(u:Value):Prop:=
 (env.kindOf x=some .local/\m x=some u)\/((env.kindOf x=some .cell\/env.kindOf x=some .free)/\∃c,env.cells.lookup x=some c/\h.IsCell c (some u))
structure Cx.Ok(X:Cx):Prop where
 mod:Mod X.K X.mg X.base
 kind:X.env.scope.kind=.function
 glob:X.env.globals=mainGlobals
 blt:X.env.builtins=builtinsNs
 above:X.s₀.heap.objs.size<=X.env.locals
 inj:∀x y c,X.env.cells.lookup x=some c->X.env.cells.lookup y=some c->x=y
 has:∀x,(X.env.kindOf x=some .cell\/X.env.kindOf x=some .free)->∃c,X.env.cells.lookup x=some c
 cab:∀x c,X.fn x=true->X.env.cells.lookup x=some c->X.s₀.heap.objs.size<=c
 hd:X.calm=true->X.A.handled=none
 frames:X.A.frames=some X.stack
 stk:X.stack=X.outer\/(X.stack=X.env::X.outer/\X.env.frame=some X.env.locals)
 exf:∀b∈X.ex,b≠X.env.locals/\∀x c,X.env.cells.lookup x=some c->c≠b
 bs:∀b o,X.base.get? b=some o->X.s₀.heap.get? b=some o/\X.H₀ b=none
 bsz:X.base.objs.size<=X.s₀.heap.objs.size
 noex:∀b o,X.base.get? b=some o->b∉X.ex
 exfs:∀b∈X.ex,b∉X.fs
 funs:X.s₀.heap.FunFrames X.base X.outer
 frf:∀b∈X.fs,X.H₀ b=none
structure bA(X:Cx)(ag:List (Addr×Obj))(σ:List (Option V))(H:Hp)(s:Shared):Prop where
 ok:X.Ok
 os:s.os=X.s₀.os
 bare:AllBare s.gens
 base:Un X.fs X.ex X.H₀ H X.s₀.heap s.heap
 loc:∃m,s.heap.Ns X.env.locals m/\∀(i:Nat) (x:Str) (v:V),X.N[i]?=some x->σ[i]?=some (some v)->Rs X.env.scope x->∃u,cD v u/\Ve X.env s.heap m x u
 cell:∀x c,X.env.cells.lookup x=some c->∃v,s.heap.IsCell c v
 free:H X.env.locals=none
 freeC:∀x c,X.env.cells.lookup x=some c->H c=none
 pin:∀p∈X.pn++ag,s.heap.get? p.1=some p.2/\H p.1=none/\p.1≠X.env.locals/\p.1∉X.fs/\∀v,p.2.data≠.cell v
 hok:p5 X.prog X.w H s.heap
 len:σ.length=X.N.length
section
variable{X:Cx}{σ:List (Option V)}{H H':Hp}
theorem Cx.Ok.nofr(ok:X.Ok){o:Obj}(e:X.base.get? b=some o):b∉X.fs:=fun hb=>by
 have:=(ok.funs.mem hb).1
 rw[e]at this;cases this
theorem bA.bs(I:bA X ag σ H s):∀b o,X.base.get? b=some o->s.heap.get? b=some o/\H b=none:=fun b o e=>
 ⟨I.base.keep b o (I.ok.bs b o e).1 (I.ok.bs b o e).2 (I.ok.nofr e) (I.ok.noex b o e),I.base.free b o (I.ok.bs b o e).1 (I.ok.bs b o e).2 (I.ok.noex b o e)⟩
theorem bA.bk(I:bA X ag σ H s):∀b o,X.base.get? b=some o->s.heap.get? b=some o:=fun b o e=>(I.bs b o e).1
theorem bA.mod(I:bA X ag σ H s):Mod X.K X.mg X.base:=I.ok.mod
theorem bA.kIn(I:bA X ag σ H s):X.K.In s.heap:=I.ok.mod.kin.keeps I.bk
theorem bA.lt(I:bA X ag σ H s):X.env.locals<s.heap.objs.size:=let ⟨_,hn,_⟩:=I.loc;hn.lt
theorem bA.sz(I:bA X ag σ H s):X.s₀.heap.objs.size<=s.heap.objs.size:=aL I.ok.above (gj I.lt)
theorem bA.nofs(I:bA X ag σ H s)(h:s.heap.objs.size<=a):a∉X.fs:=fun hb=>by
 obtain⟨_,o,ho,_⟩:=I.ok.funs.mem hb
 exact absurd (aU (aC ho) (aL I.sz h)) (cW _)
theorem bA.cne(I:bA X ag σ H s):∀x c,X.env.cells.lookup x=some c->c≠X.env.locals:=fun x c e z=>by
 obtain⟨v,o,ho,hd⟩:=I.cell x c e
 obtain⟨m,⟨o',es,ep,ho',hd',_⟩,_⟩:=I.loc
 rw[z,ho']at ho;cases ho;rw[hd']at hd;cases hd
theorem bA.funs(I:bA X ag σ H s):s.heap.FunFrames X.base X.outer:=by
 have all:∀(l:List Env),(∀b∈uC l,b∈X.fs)->X.s₀.heap.FunFrames X.base l->s.heap.FunFrames X.base l:=by
  intro l
  induction l with
  |nil=>intro _ _;trivial
  |cons env r ih=>
   intro hs hl
   obtain⟨hk,⟨L,o,hf,hn,ho,hd⟩,hr⟩:=hl
   have hL:L∈X.fs:=hs L (by unfold uC;rw[fT,hf];exact aZ)
   obtain⟨sl,e⟩:=I.base.slot L o ho (I.ok.frf L hL) hL fun z=>I.ok.exfs L z hL
   exact⟨hk,⟨L,_,hf,hn,e,hd⟩,ih (fun b hb=>hs b (by unfold uC;rw[fT,hf];exact aA _ hb)) hr⟩
 exact all X.outer (fun _ hb=>hb) I.ok.funs
theorem bA.stack(I:bA X ag σ H s):s.heap.FunFrames X.base X.stack:=by
 rcases I.ok.stk with e|⟨e,hf⟩
 ·rw[e];exact I.funs
 ·rw[e]
  obtain⟨m,hn,_⟩:=I.loc
  refine .cons (by rw[I.ok.kind];decide) hf hn ?_ I.funs
  exact Heap.get?_none_of_le (aL I.ok.bsz I.ok.above)
theorem bA.stkSub(I:bA X ag σ H s):∀b∈uC X.stack,b∈X.env.locals::X.fs:=fun b hb=>by
 rcases I.ok.stk with e|⟨e,hf⟩
 ·rw[e]at hb;exact aA _ hb
 ·rw[e]at hb
  unfold uC at hb
  rw[fT,hf]at hb
  exact hb
theorem bA.stkFree(I:bA X ag σ H s):∀b∈uC X.stack,H b=none:=fun b hb=>by
 rcases aH.mp (I.stkSub b hb)with e|hb
 ·rw[e];exact I.free
 ·obtain⟨_,o,ho,_⟩:=I.ok.funs.mem hb
  exact I.base.free b o ho (I.ok.frf b hb) fun z=>I.ok.exfs b z hb
theorem bA.step{g':Array GenState}{t':Nat}{d':Drawn}{ch:List Addr}(I:bA X ag σ H s)
  (CD:∀b∈ch,(b∈X.ex\/X.s₀.heap.objs.size<=b)/\b≠X.env.locals/\(∀x c,X.env.cells.lookup x=some c->c≠b)/\∀p∈X.pn++ag,p.1≠b)
  (keep:∀b o,b≠X.env.locals->b∉X.fs->b∉ch->s.heap.get? b=some o->H b=none->h'.get? b=some o)
  (slot:∀b o,b≠X.env.locals->b∈X.fs->b∉ch->s.heap.get? b=some o->H b=none->∃sl,h'.get? b=some { o with slots:=sl }) (free:∀b o,b∉ch->s.heap.get? b=some o->H b=none->H' b=none)
  (there:∀b o,b∉ch->s.heap.get? b=some o->∃o',h'.get? b=some o')
  (tups:∀b xs,H b=some (.tup xs)->H' b=some (.tup xs)) (frzs:∀b o u,H b=some (.frz o u)->H' b=some (.frz o u)) (tbls:∀b ps,H b=some (.tbl ps)->∃more,H' b=some (.tbl (ps++more)))
  (ns:∀m,s.heap.Ns X.env.locals m->h'.Ns X.env.locals m) (hok:p5 X.prog X.w H' h') (hg:AllBare g') :
  bA X ag σ H' { s with heap:=h',gens:=g',drawn:=d',toks:=t' }:=by
 have neL:∀b o,X.s₀.heap.get? b=some o->b≠X.env.locals:=fun b o e=>aX (aU (aC e) I.ok.above)
 have neC:∀b o,X.s₀.heap.get? b=some o->b∉X.ex->b∉ch:=fun b o e hx hb=>by
  rcases(CD b hb).1 with z|z
  ·exact hx z
  ·exact absurd (aU (aC e) z) (cW _)
 have cellK:∀x c,X.env.cells.lookup x=some c->∀v,s.heap.IsCell c v->h'.IsCell c v:=fun x c e v zq=>by
  obtain⟨o,ho,hd⟩:=zq
  have nch:c∉ch:=fun z=>(CD c z).2.2.1 x c e rfl
  by_cases hc:c∈X.fs
  ·obtain⟨sl,q⟩:=slot c o (I.cne x c e) hc nch ho (I.freeC x c e)
   exact⟨_,q,hd⟩
  ·exact⟨o,keep c o (I.cne x c e) hc nch ho (I.freeC x c e),hd⟩
 refine⟨I.ok,I.os,hg,⟨fun b o e n hb hx=>?_,fun b o e n hb hx=>?_,fun b o e n hx=>?_,fun b o e hx=>?_,fun b xs e=>tups b xs (I.base.tups b xs e),fun b o xs e=>frzs b o xs (I.base.frzs b o xs e),fun b ps e=>?_⟩,?_,fun x c e=>?_,?_,fun x c e=>?_,fun p hp=>?_,hok,I.len⟩
 ·exact keep b o (neL b o e) hb (neC b o e hx) (I.base.keep b o e n hb hx) (I.base.free b o e n hx)
 ·obtain⟨sl,e1⟩:=I.base.slot b o e n hb hx
  obtain⟨sl',e2⟩:=slot b _ (neL b o e) hb (neC b o e hx) e1 (I.base.free b o e n hx)
  exact⟨sl',e2⟩
 ·obtain⟨o',e1⟩:=I.base.there b o e hx
  exact free b o' (neC b o e hx) e1 (I.base.free b o e n hx)
 ·obtain⟨o',e1⟩:=I.base.there b o e hx
  exact there b o' (neC b o e hx) e1
 ·obtain⟨m1,e1⟩:=I.base.tbls b ps e
  obtain⟨m2,e2⟩:=tbls b _ e1
  exact⟨m1++m2,by rw[e2,Array.append_assoc]⟩
 ·obtain⟨m,hn,hl⟩:=I.loc
  refine⟨m,ns m hn,fun i x v e1 e2 e3=>?_⟩
  obtain⟨u,r,l⟩:=hl i x v e1 e2 e3
  refine⟨u,r,?_⟩
  rcases l with l|⟨k,c,e,z⟩
  ·exact .inl l
  ·exact .inr ⟨k,c,e,cellK x c e _ z⟩
 ·obtain⟨v,z⟩:=I.cell x c e
  exact⟨v,cellK x c e v z⟩
 ·obtain⟨m,⟨o,_,_,ho,_⟩,_⟩:=I.loc
  exact free _ o (fun z=>(CD _ z).2.1 rfl) ho I.free
 ·obtain⟨v,o,ho,hd⟩:=I.cell x c e
  exact free c o (fun z=>(CD c z).2.2.1 x c e rfl) ho (I.freeC x c e)
 ·obtain⟨e,n,ne,nf,d⟩:=I.pin p hp
  have nch:p.1∉ch:=fun z=>(CD p.1 z).2.2.2 p hp rfl
  exact⟨keep p.1 p.2 ne nf nch e n,free p.1 p.2 nch e n,ne,nf,d⟩
theorem bA.un{t':Nat}(I:bA X ag σ H s)(u:Un X.fs [] H H' s.heap h')(hok:p5 X.prog X.w H' h'):bA X ag σ H' { s with heap:=h',toks:=t' }:=by
 obtain⟨m,⟨o,es,ep,ho,r⟩,_⟩:=id I.loc
 obtain⟨sl,hL⟩:=u.any ho I.free (by simp)
 exact I.step (g':=s.gens) (d':=s.drawn) (ch:=[]) (fun _ z=>nomatch z) (fun b o _ hb _ e n=>u.keep b o e n hb (by simp)) (fun b o _ hb _ e n=>u.slot b o e n hb (by simp)) (fun b o _ e n=>u.free b o e n (by simp)) (fun b o _ e=>u.there b o e (by simp)) u.tups u.frzs u.tbls (fun m' hm=>by
  obtain⟨o',es',ep',ho',r'⟩:=hm
  rw[ho]at ho';cases ho'
  exact⟨_,es',ep',hL,r'⟩) hok I.bare
theorem bA.call{g':Array GenState}{t':Nat}{d':Drawn}{ch:List Addr}(I:bA X ag σ H s)(u:Un (uC X.stack) ch H H' s.heap h')(hok:p5 X.prog X.w H' h')(hg:AllBare g')
  (CD:∀b∈ch,(b∈X.ex\/X.s₀.heap.objs.size<=b)/\b≠X.env.locals/\(∀x c,X.env.cells.lookup x=some c->c≠b)/\∀p∈X.pn++ag,p.1≠b) :
  bA X ag σ H' { s with heap:=h',gens:=g',drawn:=d',toks:=t' }:=by
 obtain⟨m,⟨o,es,ep,ho,r⟩,_⟩:=id I.loc
 obtain⟨sl,hL⟩:=u.any ho I.free fun z=>(CD _ z).2.1 rfl
 exact I.step (ch:=ch) CD (fun b o hL hb hc e n=>u.keep b o e n (fun z=>(aH.mp (I.stkSub b z)).elim hL hb) hc) (fun b o _ _ hc e n=>u.any e n hc) (fun b o hc e n=>u.free b o e n hc) (fun b o hc e=>u.there b o e hc) u.tups u.frzs u.tbls (fun m' hm=>by
  obtain⟨o',es',ep',ho',r'⟩:=hm
  rw[ho]at ho';cases ho'
  exact⟨_,es',ep',hL,r'⟩) hok hg
theorem bA.turned{t':Nat}{it:Addr}(I:bA X ag σ H s)(k:∀b o,b≠it->s.heap.get? b=some o->h'.get? b=some o)(hn:H it=none)(hL:it≠X.env.locals)
  (h1:it∈X.ex\/X.s₀.heap.objs.size<=it) (h2:∀x c,X.env.cells.lookup x=some c->c≠it) (h3:∀p∈X.pn++ag,p.1≠it):bA X ag σ H { s with heap:=h',toks:=t' }:=by
 have nit:∀b u,H b=some u->b≠it:=fun b u e z=>by rw[z,hn]at e;cases e
 refine I.step (g':=s.gens) (d':=s.drawn) (ch:=[it]) (fun b hb=>?_) (fun b o _ _ hc e _=>k b o (fun z=>hc (by simp[z])) e) (fun b o _ _ hc e _=>⟨o.slots,k b o (fun z=>hc (by simp[z])) e⟩) (fun _ _ _ _ n=>n)
  (fun b o hc e=>⟨o,k b o (fun z=>hc (by simp[z])) e⟩) (fun _ _ e=>e) (fun _ _ _ e=>e) (fun b ps e=>⟨#[],by rw[e];simp⟩) (fun m hm=>?_) (fun b u e=>?_) I.bare
 ·have e:b=it:=by simpa using hb
  subst e
  exact⟨h1,hL,h2,h3⟩
 ·obtain⟨o,es,ep,ho,r⟩:=hm
  exact⟨o,es,ep,k _ o (Ne.symm hL) ho,r⟩
 ·refine(I.hok b u e).stay (fun c v hc q=>k c v ?_ q) (fun _ q=>q) fun _ _ q=>q
  rcases hc with z|z
  ·rw[z];exact nit b u e
  ·exact nit c _ z
theorem bA.tok(I:bA X ag σ H s)(t:Nat):bA X ag σ H { s with toks:=t }:=I.un (h':=s.heap) (t':=t) Un.refl I.hok
theorem bA.kept{t':Nat}(I:bA X ag σ H s)(k:∀b u,s.heap.get? b=some u->h'.get? b=some u):bA X ag σ H { s with heap:=h',toks:=t' }:=I.un (Un.kept k) (I.hok.kept k)
theorem bA.laid{a:Addr}{o:HO}{t':Nat}(I:bA X ag σ H s)(k:∀b u,s.heap.get? b=some u->h'.get? b=some u)(hp:s.heap.objs.size<=a)(new:fH X.prog X.w (ei H a o) h' a o) :
  bA X ag σ (ei H a o) { s with heap:=h',toks:=t' }:=I.un (Un.laid k hp (I.hok.fresh hp)) (I.hok.laid k hp new)
theorem bA.write{x e:Addr}{o:HO}(I:bA X ag σ H s)(mu:Rq (H x))(he:e=x\/H e=some (.own x))(k:∀b u,b≠e->s.heap.get? b=some u->h'.get? b=some u)(Rn:∃u,h'.get? e=some u)
  (new:fH X.prog X.w (ei H x o) h' x o):bA X ag σ (ei H x o) { s with heap:=h',toks:=t' }:=I.un (Un.write mu he k Rn) (I.hok.write mu he k Rn new)
theorem bA.pins_of{pins':List (Addr×Obj)}(I:bA X ag σ H s)(h:∀p∈pins',s.heap.get? p.1=some p.2/\H p.1=none/\p.1≠X.env.locals/\p.1∉X.fs/\∀v,p.2.data≠.cell v):bA X pins' σ H s:=
 ⟨I.ok,I.os,I.bare,I.base,I.loc,I.cell,I.free,I.freeC,fun p hp=>(aY.mp hp).elim (fun z=>I.pin p (bS _ z)) (h p),I.hok,I.len⟩
theorem zj{N:List Str}(hN:N.Nodup){x:Str}(a:N[i]?=some x)(b:N[j]?=some x):i=j:=by
 obtain⟨h1,e1⟩:=ac.mp a
 obtain⟨h2,e2⟩:=ac.mp b
 exact(List.getElem_inj hN).mp (e1.trans e2.symm)
theorem D0{M:Model}{A:Around}{E:Value->Shared->Prop}{x:Str}{v:V}{Q:Unit->Shared->Prop}(I:bA X ag σ H s)(hN:X.N.Nodup)(hi:X.N[i]?=some x)(hx:JM X.env.scope x)(r:cD v u)
  (h:∀s',bA X ag (σ.set i (some v)) H s'->(∃a,Heap.SameBut a s.heap s'.heap/\(a=X.env.locals\/X.env.cells.lookup x=some a))->Q () s') (hf:X.fn x=true\/X.env.scope.names.lookup x=some .local:=by first|exact .inl rfl|exact .inr rfl|assumption):wpAny M A (storeName X.env x u) Q E s:=by
 obtain⟨m,hn,hl⟩:=id I.loc
 have hcls:(X.env.scope.kind==.class||(X.env.scope.kind==.module&&X.env.locals != X.env.globals))=false:=by rw[I.ok.kind];rfl
 have hiσ:i<σ.length:=by rw[I.len];exact(ac.mp hi).1
 have cne:=I.cne
 have tracked:∀{a:Addr} {h':Heap},(∃o,s.heap.get? a=some o/\H a=none)->Heap.SameBut a s.heap h'->p5 X.prog X.w H h':=fun{a h'} ha hs b ob e=>by
  obtain⟨_,_,hfree⟩:=ha
  refine(I.hok b ob e).stay (fun c w' hc q=>(hs.2 c ?_).trans q) (fun _ q=>q) fun _ _ q=>q
  rintro rfl
  rcases hc with rfl|hc
  ·rw[hfree]at e;cases e
  ·rw[hfree]at hc;cases hc
 rcases hx with hk|hk
 ·refine wpAny_storeName_local hk hn (fun h' hn' hs=>?_) hcls
  obtain⟨oL,_,_,hoL,_⟩:=id hn
  refine h _ ⟨I.ok,I.os,I.bare,⟨fun b o e n hb hx=>?_,fun b o e n hb hx=>?_,I.base.free,fun b o e hx=>?_,I.base.tups,I.base.frzs,I.base.tbls⟩,⟨_,hn',fun j y v' e1 e2 e3=>?_⟩,fun y c e=>?_,I.free,I.freeC,fun p hp=>?_,tracked ⟨oL,hoL,I.free⟩ hs,by simpa using I.len⟩ ⟨_,hs,.inl rfl⟩
  ·exact(hs.2 b (aX (aU (aC e) I.ok.above))).trans (I.base.keep b o e n hb hx)
  ·obtain⟨sl,e1⟩:=I.base.slot b o e n hb hx
   exact⟨sl,(hs.2 b (aX (aU (aC e) I.ok.above))).trans e1⟩
  ·obtain⟨o',e1⟩:=I.base.there b o e hx
   exact⟨o',(hs.2 b (aX (aU (aC e) I.ok.above))).trans e1⟩
  ·by_cases hj:j=i
   ·subst hj
    rw[hi]at e1;cases e1
    rw[bn hiσ]at e2
    cases e2
    exact⟨u,r,.inl ⟨hk,by simp⟩⟩
   ·rw[bT (Ne.symm hj)]at e2
    obtain⟨u',r',q⟩:=hl j y v' e1 e2 e3
    refine⟨u',r',?_⟩
    rcases q with⟨k,e⟩|⟨k,c,e,z⟩
    ·refine .inl ⟨k,?_⟩
     have:y≠x:=fun e=>hj (zj hN e1 (e▸hi))
     simp[this,e]
    ·exact .inr ⟨k,c,e,z.sameBut hs (cne y c e)⟩
  ·obtain⟨w',z⟩:=I.cell y c e
   exact⟨w',z.sameBut hs (cne y c e)⟩
  ·obtain⟨e,n,ne,nf,d⟩:=I.pin p hp
   exact⟨(hs.2 p.1 ne).trans e,n,ne,nf,d⟩
 ·have hfn:X.fn x=true:=by
   rcases hf with z|z
   ·exact z
   ·rw[z]at hk;cases hk
  obtain⟨c,hc⟩:=I.ok.has x (.inl hk)
  obtain⟨w',z⟩:=I.cell x c hc
  refine wpAny_storeName_cell I.ok.kind hk hc z (fun h' hc' hs=>?_)
  obtain⟨oc,hoc,hocd⟩:=id z
  refine h { s with heap:=h' } ⟨I.ok,I.os,I.bare,⟨fun b o e n hb hx=>?_,fun b o e n hb hx=>?_,I.base.free,fun b o e hx=>?_,I.base.tups,I.base.frzs,I.base.tbls⟩,⟨m,hn.sameBut hs (Ne.symm (cne x c hc)),fun j y v' e1 e2 e3=>?_⟩,fun y c' e=>?_,I.free,I.freeC,fun p hp=>?_,tracked ⟨oc,hoc,I.freeC x c hc⟩ hs,by simpa using I.len⟩ ⟨c,hs,.inr hc⟩
  ·exact(hs.2 b (aX (aU (aC e) (I.ok.cab x c hfn hc)))).trans (I.base.keep b o e n hb hx)
  ·obtain⟨sl,e1⟩:=I.base.slot b o e n hb hx
   exact⟨sl,(hs.2 b (aX (aU (aC e) (I.ok.cab x c hfn hc)))).trans e1⟩
  ·obtain⟨o',e1⟩:=I.base.there b o e hx
   exact⟨o',(hs.2 b (aX (aU (aC e) (I.ok.cab x c hfn hc)))).trans e1⟩
  ·by_cases hj:j=i
   ·subst hj
    rw[hi]at e1;cases e1
    rw[bn hiσ]at e2
    cases e2
    exact⟨u,r,.inr ⟨.inl hk,c,hc,hc'⟩⟩
   ·rw[bT (Ne.symm hj)]at e2
    obtain⟨u',r',q⟩:=hl j y v' e1 e2 e3
    refine⟨u',r',?_⟩
    rcases q with q|⟨k,c',e,z'⟩
    ·exact .inl q
    ·refine .inr ⟨k,c',e,z'.sameBut hs ?_⟩
     rintro rfl
     exact hj (zj hN e1 (I.ok.inj _ _ _ e hc▸hi))
  ·by_cases hcc:c'=c
   ·subst hcc;exact⟨_,hc'⟩
   ·obtain⟨w2,z2⟩:=I.cell y c' e
    exact⟨w2,z2.sameBut hs hcc⟩
  ·obtain⟨e,n,ne,nf,d⟩:=I.pin p hp
   refine⟨(hs.2 p.1 ?_).trans e,n,ne,nf,d⟩
   intro q
   rw[q,hoc]at e
   have q':oc=p.2:=aF e
   exact d w' (by rw[<- q'];exact hocd)
theorem zk{M:Model}{A:Around}{E:Value->Shared->Prop}{x:Str}{v:V}{Q:Unit->Shared->Prop}(I:bA X ag σ H s)(hN:X.N.Nodup)(hi:X.N[i]?=some x)(hx:JM X.env.scope x)(r:cD v u)
  (h:∀s',bA X ag (σ.set i (some v)) H s'->Q () s') (hf:X.fn x=true\/X.env.scope.names.lookup x=some .local:=by first|exact .inl rfl|exact .inr rfl|assumption):wpAny M A (storeName X.env x u) Q E s:=
 D0 I hN hi hx r (fun s' I' _=>h s' I') hf
theorem bA.call'{s':Shared}{ch:List Addr}(I:bA X ag σ H s)(ho:s'.os=s.os)(u:Un (uC X.stack) ch H H' s.heap s'.heap)(hok:p5 X.prog X.w H' s'.heap)(hg:AllBare s'.gens)
  (CD:∀b∈ch,(b∈X.ex\/X.s₀.heap.objs.size<=b)/\b≠X.env.locals/\(∀x c,X.env.cells.lookup x=some c->c≠b)/\∀p∈X.pn++ag,p.1≠b):bA X ag σ H' s':=by
 obtain⟨h',g',d',t',o'⟩:=s'
 have e:o'=s.os:=ho
 subst e
 exact I.call (g':=g') (t':=t') (d':=d') u hok hg CD
end
abbrev XK:=Value->Option Addr->Hp->Prop
noncomputable abbrev St:=List (Option V)
abbrev VK:=V->Hp->Prop
abbrev TE:=St->Hp->VK->Prop
abbrev TT:=St->Hp->(Bool->Hp->Prop)->Prop
abbrev TA:=St->Hp->(List V->Hp->Prop)->Prop
structure zl where
 nx:St->Hp->Prop
 rt:VK
 bk:St->Hp->Prop:=fun _ _=>False
 ct:St->Hp->Prop:=fun _ _=>False
abbrev TS:=zl->St->Hp->Prop
def EP(X:Cx)(ag:List (Addr×Obj))(σ:St)(Q:VK)(u:Value)(s':Shared):Prop:=∃v H',bA X ag σ H' s'/\cD v u/\Q v H'
def TP(X:Cx)(ag:List (Addr×Obj))(σ:St)(Q:Bool->Hp->Prop)(b:Bool)(s':Shared):Prop:=∃H',bA X ag σ H' s'/\Q b H'
def AP(X:Cx)(ag:List (Addr×Obj))(σ:St)(Q:List V->Hp->Prop)(us:List Value)(s':Shared):Prop:=∃vs H',bA X ag σ H' s'/\cu vs us/\Q vs H'
def SP(X:Cx)(ag:List (Addr×Obj))(D:zl)(f:Flow)(s':Shared):Prop:=
 match f with
 |.next=>∃σ' H',bA X ag σ' H' s'/\D.nx σ' H'
 |.brk=>∃σ' H',bA X ag σ' H' s'/\D.bk σ' H'
 |.cont=>∃σ' H',bA X ag σ' H' s'/\D.ct σ' H'
 |.ret u=>∃v σ' H',bA X ag σ' H' s'/\cD v u/\D.rt v H'
def PE(X:Cx)(e:Expr)(t:TE):Prop:=
 ∀(ag:List (Addr×Obj)) (s:Shared) (σ:St) (H:Hp) (Q:VK),bA X ag σ H s->t σ H Q->wpAny (model X.prog X.w) X.A (eval e X.env) (EP X ag σ Q) X.xe s
def PT(X:Cx)(e:Expr)(t:TT):Prop:=
 ∀(ag:List (Addr×Obj)) (s:Shared) (σ:St) (H:Hp) (Q:Bool->Hp->Prop),bA X ag σ H s->t σ H Q->wpAny (model X.prog X.w) X.A (isTrue e X.env (eval e X.env)) (TP X ag σ Q) X.xe s
def PW(X:Cx)(e:Expr)(t:TT):Prop:=
 ∀(v9:Sem Value) (ag:List (Addr×Obj)) (s:Shared) (σ:St) (H:Hp) (Q:Bool->Hp->Prop),bA X ag σ H s->t σ H Q->wpAny (model X.prog X.w) X.A (isTrue e X.env v9) (TP X ag σ Q) X.xe s
theorem PW.pt{X:Cx}{t:TT}(h:PW X e t):PT X e t:=h _
def PA(X:Cx)(es:List Expr)(t:TA):Prop:=
 ∀(pos:Pos) (ag:List (Addr×Obj)) (s:Shared) (σ:St) (H:Hp) (Q:List V->Hp->Prop),bA X ag σ H s->t σ H Q->wpAny (model X.prog X.w) X.A (spliced (backTo pos (starEach es X.env))) (AP X ag σ Q) X.xe s
def PS(X:Cx)(st:Stmt)(t:TS):Prop:=
 ∀(ag:List (Addr×Obj)) (s:Shared) (σ:St) (H:Hp) (D:zl),bA X ag σ H s->t D σ H->wpAny (model X.prog X.w) X.A (exec st X.env) (SP X ag D) X.xe s
def D3(X:Cx)(st:List Stmt)(t:TS):Prop:=
 ∀(ag:List (Addr×Obj)) (s:Shared) (σ:St) (H:Hp) (D:zl),bA X ag σ H s->t D σ H->wpAny (model X.prog X.w) X.A (execs st X.env) (SP X ag D) X.xe s
theorem gg{t:Sem α}{Q Q':α->Shared->Prop}(h:wpAny M A t Q E s)(hQ:∀a s,Q a s->Q' a s):wpAny M A t Q' E s:=eJ h hQ fun _ _ x=>x
section
variable{X:Cx}
def Rt(i:Nat):TE:=fun σ H Q=>∃v,σ[i]?=some (some v)/\Q v H
def tC(v:V):TE:=fun _ H Q=>Q v H
theorem NT{x:Str}{pos:Pos}(hN:X.N[i]?=some x)(hv:Rs X.env.scope x)(hd:(x==("__debug__":Str))=false:=by decide)(E2:(x==("__classdict__":Str))=false:=by decide):PE X (.Name x pos) (Rt i):=by
 intro ag s σ H Q I h
 obtain⟨v,e,h⟩:=h
 obtain⟨m,hn,hl⟩:=I.loc
 obtain⟨u,r,l⟩:=hl i x v hN e hv
 have fin:EP X ag σ Q u s:=⟨v,H,I,r,h⟩
 rcases l with⟨hk,hm⟩|⟨hk,c,hc,f9⟩
 ·exact wpAny_Name (wpAny_loadName_local I.ok.kind hk hn hm fin) hd
 ·rcases hk with hk|hk
  ·exact wpAny_Name (wpAny_loadName_cell I.ok.kind hk hc f9 fin) hd
  ·exact wpAny_Name (wpAny_loadName_free I.ok.kind hk hc f9 fin E2) hd
theorem NU{i j pos}:PE X (.Constant (.int i) j pos) (tC (.int i)):=fun _ _ _ H _ I h=>wpAny_Constant_int ⟨.int i,H,I.tok _,⟨_,rfl⟩,h⟩
theorem Ru{b j pos}:PE X (.Constant (.bool b) j pos) (tC (.bl b)):=fun _ _ _ H _ I h=>Constant_bool ⟨.bl b,H,I,rfl,h⟩
theorem NV{j pos}:PE X (.Constant .none j pos) (tC .non):=fun _ _ _ H _ I h=>pU ⟨.non,H,I,rfl,h⟩
theorem NW{x j pos}:PE X (.Constant (.str x) j pos) (tC (.str x)):=fun _ _ _ H _ I h=>Calls.Constant_str ⟨.str x,H,I.tok _,⟨_,rfl⟩,h⟩
def Gl(X:Cx)(x:Str):Prop:=X.env.kindOf x=some .globalImplicit
theorem uD{E:Value->Shared->Prop}{σ:St}{H:Hp}{x:Str}{pos:Pos}(I:bA X ag σ H s)(hg:Gl X x)(hm:X.mg x=some u)(h:Q u s)
  (hd:(x==("__debug__":Str))=false:=by decide):wpAny (model X.prog X.w) X.A (eval (.Name x pos) X.env) Q E s:=
 ln I.ok.kind hg (Calls.loadGlobal_global (by rw[I.ok.glob];exact I.mod.glob.keeps I.bk) hm h) hd
theorem kP{E:Value->Shared->Prop}{σ:St}{H:Hp}{x:Str}{pos:Pos}(I:bA X ag σ H s)(hg:Gl X x)(hm:X.mg x=none)(hv:bootBuiltins x=some u)(h:Q u s)
  (hn:x ≠ "__name__":=by decide) (hd:(x==("__debug__":Str))=false:=by decide):wpAny (model X.prog X.w) X.A (eval (.Name x pos) X.env) Q E s:=by
 obtain⟨mb,h1,h2⟩:=I.mod.blt
 exact ln I.ok.kind hg (Calls.loadGlobal_builtin (by rw[I.ok.glob];exact I.mod.glob.keeps I.bk) hm (by rw[I.ok.blt];exact h1.keeps I.bk) ((h2 x hn).trans hv) h) hd
theorem JN{x:Str}{v:V}{pos:Pos}(hg:Gl X x)(hm:X.mg x=some u)(r:cD v u)(hd:(x==("__debug__":Str))=false:=by decide):PE X (.Name x pos) (tC v):=
 fun _ _ _ H _ I h=>uD I hg hm ⟨v,H,I,r,h⟩ hd
theorem JO{x:Str}{v:V}{pos:Pos}(hg:Gl X x)(hm:X.mg x=none)(hv:bootBuiltins x=some u)(r:cD v u)(hn:x ≠ "__name__":=by decide)(hd:(x==("__debug__":Str))=false:=by decide):PE X (.Name x pos) (tC v):=
 fun _ _ _ H _ I h=>kP I hg hm hv ⟨v,H,I,r,h⟩ hn hd
variable{a b:Expr}{ta tb:TE}
def PC(X:Cx)(op:CmpOp)(a b:Expr)(t:TE):Prop:=
 ∀(ag:List (Addr×Obj)) (s:Shared) (σ:St) (H:Hp) (Q:VK),bA X ag σ H s->t σ H Q ->
  wpAny (model X.prog X.w) X.A (eval a X.env) (fun v s₁=>wpAny (model X.prog X.w) X.A (eval b X.env) (fun u s₂=>wpAny (model X.prog X.w) X.A (compareOp op v u) (EP X ag σ Q) X.xe s₂) X.xe s₁) X.xe s
theorem zm(b:Expr)(h:op≠.In)(h2:op≠.NotIn):behindInMarks op b=false:=by
 have e1:(op==CmpOp.In)=false:=by cases op<;>first|rfl|exact absurd rfl h
 have e2:(op==CmpOp.NotIn)=false:=by cases op<;>first|rfl|exact absurd rfl h2
 cases b<;>simp[behindInMarks,e1,e2]
def Rv(ta:TE):TE:=fun σ H Q=>ta σ H fun x H1=>Q (.bl (decide (x=.non))) H1
def LN(ta:TE):TE:=fun σ H Q=>ta σ H fun x H1=>Q (.bl (!decide (x=.non))) H1
theorem cD.none_iff{x:V}(r:cD x v):(v==Value.none)=decide (x=.non):=by
 cases x with
 |non=>cases r;rfl
 |bl _=>cases r;rfl
 |int _=>obtain⟨t,rfl⟩:=r;rfl
 |str _=>obtain⟨t,rfl⟩:=r;rfl
 |byt _=>obtain⟨t,rfl⟩:=r;rfl
 |flt _=>obtain⟨t,rfl⟩:=r;rfl
 |ref _=>cases r;rfl
 |ty _=>cases r;rfl
theorem E5{j h_}(ha:PE X a ta):PC X .Is a (.Constant .none j h_) (Rv ta):=by
 intro ag s σ H Q I h
 refine gg (ha ag s σ H _ I h) fun v s1 zq=>?_
 obtain⟨x,H1,I1,r1,q1⟩:=zq
 exact pU (is_none_gen ⟨.bl _,H1,I1,by rw[r1.none_iff];rfl,q1⟩)
theorem JP{j h_}(ha:PE X a ta):PC X .IsNot a (.Constant .none j h_) (LN ta):=by
 intro ag s σ H Q I h
 refine gg (ha ag s σ H _ I h) fun v s1 zq=>?_
 obtain⟨x,H1,I1,r1,q1⟩:=zq
 exact pU (isnot_none_gen ⟨.bl _,H1,I1,by rw[r1.none_iff];rfl,q1⟩)
def tB(t:TE):TT:=fun σ H Q=>t σ H fun x H1=>∃c,x=.bl c/\Q c H1
theorem NX{t:TE}(h:PC X op a b t)(h1:behindInMarks op b=false:=by first|exact zm _ (by decide) (by decide)|rfl):PE X (.Compare a [op] [b] pos) t:=fun ag s σ H Q I hw=>wpAny_Compare1 (h ag s σ H Q I hw) h1
theorem E6{t:TE}(h:PC X op a b t)(h1:behindInMarks op b=false:=by first|exact zm _ (by decide) (by decide)|rfl):PT X (.Compare a [op] [b] pos) (tB t):=by
 intro ag s σ H Q I hw
 refine om (gg (h ag s σ H _ I hw) fun v s1 h1=>gg h1 fun u s2 h2=>gg h2 fun c s3 ⟨x,H1,I1,r1,q1⟩=>?_) h1
 obtain⟨d,rfl,q⟩:=q1
 cases r1
 exact gQ ⟨H1,I1,q⟩
theorem NY{t:TE}(h:PE X e t)(he:∀v9,isTrue e X.env v9=(do let v <- v9;standAt e.pos;holding [v] (truthy v)):=by intro _;rfl):PT X e (tB t):=by
 intro ag s σ H Q I hw
 refine isTrue_plain (gg (h ag s σ H _ I hw) fun v s1 ⟨x,H1,I1,r1,q1⟩=>?_) (he _)
 obtain⟨d,rfl,q⟩:=q1
 cases r1
 exact gQ ⟨H1,I1,q⟩
variable{tA UK:TT}{gc:List Expr}
def Vf(t u:TT):TT:=fun σ H Q=>t σ H fun c H1=>if c=true then u σ H1 Q else Q false H1
def WK(t u:TT):TT:=fun σ H Q=>t σ H fun c H1=>if c=true then Q true H1 else u σ H1 Q
def Vg(t:TT):TT:=fun σ H Q=>t σ H fun c H1=>Q (!c) H1
theorem JQ(ha:PT X a tA):PW X (.BoolOp .And [a] pos) tA:=by
 intro wh ag s σ H Q I h
 refine isTrue_and (gg (ha ag s σ H Q I h) fun c s1 e=>?_)
 cases c with
 |true=>exact isTrue_and_nil e
 |false=>exact e
theorem NZ(ha:PT X a tA):PW X (.BoolOp .Or [a] pos) tA:=by
 intro wh ag s σ H Q I h
 refine isTrue_or (gg (ha ag s σ H Q I h) fun c s1 e=>?_)
 cases c with
 |false=>exact isTrue_or_nil e
 |true=>exact e
theorem N0(ha:PT X a tA)(hb:PW X (.BoolOp .And (b::gc) pos) UK):PW X (.BoolOp .And (a::b::gc) pos) (Vf tA UK):=by
 intro wh ag s σ H Q I h
 refine isTrue_and (gg (ha ag s σ H _ I h) fun c s1 zq=>?_)
 obtain⟨H1,I1,q1⟩:=zq
 cases c with
 |true=>exact hb wh ag s1 σ H1 Q I1 q1
 |false=>exact⟨H1,I1,q1⟩
theorem Rw(ha:PT X a tA)(hb:PW X (.BoolOp .Or (b::gc) pos) UK):PW X (.BoolOp .Or (a::b::gc) pos) (WK tA UK):=by
 intro wh ag s σ H Q I h
 refine isTrue_or (gg (ha ag s σ H _ I h) fun c s1 zq=>?_)
 obtain⟨H1,I1,q1⟩:=zq
 cases c with
 |true=>exact⟨H1,I1,q1⟩
 |false=>exact hb wh ag s1 σ H1 Q I1 q1
theorem N1(ha:PT X a tA):PT X (.UnaryOp .Not a pos) (Vg tA):=by
 intro ag s σ H Q I h
 exact isTrue_not (ha ag s σ H (fun c H1=>Q (!c) H1) I h)
def Rx(ta tb:TE):TE:=fun σ H Q=>ta σ H fun x H1=>∃c,x=.bl c/\if c=true then tb σ H1 Q else Q (.bl false) H1
def Ry(ta:TE):TE:=fun σ H Q=>ta σ H fun x H1=>∃c,x=.bl c/\Q (.bl (!c)) H1
theorem N2{op}{t:TE}(h:PE X a t):PE X (.BoolOp op [a] pos) t:=fun ag s σ H Q I hw=>BoolOp_one (h ag s σ H Q I hw)
theorem N3(ha:PE X a ta)(hb:PE X (.BoolOp .And (b::gc) pos) tb):PE X (.BoolOp .And (a::b::gc) pos) (Rx ta tb):=by
 intro ag s σ H Q I h
 refine BoolOp_and (gg (ha ag s σ H _ I h) fun v s1 zq=>?_)
 obtain⟨x,H1,I1,r1,q1⟩:=zq
 obtain⟨c,rfl,q1⟩:=q1
 cases r1
 refine gQ ?_
 cases c with
 |true=>exact hb ag s1 σ H1 Q I1 q1
 |false=>exact⟨.bl false,H1,I1,rfl,q1⟩
theorem N4(ha:PE X a ta):PE X (.UnaryOp .Not a pos) (Ry ta):=by
 intro ag s σ H Q I h
 refine UnaryOp_ (gg (ha ag s σ H _ I h) fun v s1 zq=>?_)
 obtain⟨x,H1,I1,r1,q1⟩:=zq
 obtain⟨c,rfl,q1⟩:=q1
 cases r1
 exact not_of (gQ ⟨.bl (!c),H1,I1,rfl,q1⟩)
def WL(t:TT)(ta tb:TE):TE:=fun σ H Q=>t σ H fun c H1=>if c=true then ta σ H1 Q else tb σ H1 Q
theorem E7(hc:PT X c tA)(ha:PE X a ta)(hb:PE X b tb):PE X (.IfExp c a b pos) (WL tA ta tb):=by
 intro ag s σ H Q I h
 refine wpAny_IfExp (gg (hc ag s σ H _ I h) fun d s1 zq=>?_)
 obtain⟨H1,I1,q1⟩:=zq
 cases d with
 |true=>exact ha ag s1 σ H1 Q I1 q1
 |false=>exact hb ag s1 σ H1 Q I1 q1
end
def oZ(K:Frag)(H:Hp)(a:Addr)(xs:List V):Prop:=
 Rd H a (.lst xs) \/
  ∃(o:Obj) (bq:Array Value) (n:Nat),K.lookup a=some o/\o.cls=.type "list"/\o.dict=none/\o.data=.seq bq n/\bq.size<=sizeLine/\cu xs bq.toList
def fS(K:Frag)(H:Hp)(a:Addr)(xs:List V):Prop:=
 Rd H a (.tup xs) \/
  ∃(o:Obj) (bq:Array Value) (n:Nat),K.lookup a=some o/\o.cls=.type "tuple"/\o.data=.seq bq n/\bq.size<=sizeLine/\cu xs bq.toList
noncomputable def Vh:Value->Option V
 |.none=>some .non
 |.bool b=>some (.bl b)
 |.int i _=>some (.int i)
 |.str x _=>some (.str x)
 |.bytes b _=>some (.byt b)
 |.float b _=>some (.flt b)
 |.ref a=>some (.ref a)
 |.type n=>some (.ty n)
 |_=>none
theorem cD.abs{x:V}(r:cD x u):Vh u=some x:=by
 cases x with
 |non=>cases r;rfl
 |bl _=>cases r;rfl
 |int _=>obtain⟨t,rfl⟩:=r;rfl
 |str _=>obtain⟨t,rfl⟩:=r;rfl
 |byt _=>obtain⟨t,rfl⟩:=r;rfl
 |flt _=>obtain⟨t,rfl⟩:=r;rfl
 |ref _=>cases r;rfl
 |ty _=>cases r;rfl
theorem cD.inj{x y:V}(r:cD x u)(q:cD y u):x=y:=aF (r.abs.symm.trans q.abs)
theorem cu.inj:∀{xs ys:List V} {us:List Value},cu xs us->cu ys us->xs=ys
 |_,_,_,.nil,.nil=>rfl
 |_,_,_,.cons r t,.cons r' t'=>by rw[r.inj r',cu.inj t t']
section
variable{X:Cx}{σ:St}{H:Hp}{xs ys:List V}
theorem oZ.of(h:H a=some (.lst xs)):oZ K H a xs:=.inl (.inl h)
theorem fS.of(h:H a=some (.tup xs)):fS K H a xs:=.inl (.inl h)
theorem bA.list(I:bA X ag σ H s)(h:oZ X.K H a xs):∃bq:List Value,cu xs bq/\PlainL s.heap a bq.toArray/\xs.length<=sizeLine:=by
 rcases h with h|⟨o,bq,n,hk,hc,hd,hs,hz,r⟩
 ·obtain⟨z,bq,n,r,e⟩:=h.ok I.hok
  exact⟨bq,r,⟨_,n,e,rfl,rfl,rfl⟩,z⟩
 ·refine⟨bq.toList,r,⟨o,n,I.kIn a o hk,hc,hd,by simpa using hs⟩,?_⟩
  have e:=r.length
  simp only[dI]at e
  omega
theorem bA.tuple(I:bA X ag σ H s)(h:fS X.K H a xs):∃bq:List Value,cu xs bq/\IsTup s.heap a bq.toArray/\xs.length<=sizeLine:=by
 rcases h with h|⟨o,bq,n,hk,hc,hs,hz,r⟩
 ·obtain⟨z,bq,r,p⟩:=h.ok I.hok
  exact⟨bq,r,p,z⟩
 ·refine⟨bq.toList,r,⟨o,I.kIn a o hk,hc,n,by simpa using hs⟩,?_⟩
  have e:=r.length
  simp only[dI]at e
  omega
theorem bA.list_inj(I:bA X ag σ H s)(h:oZ X.K H a xs)(h':oZ X.K H a ys):xs=ys:=by
 obtain⟨bq,r,⟨o,n,e,_,_,d⟩,_⟩:=I.list h
 obtain⟨its',r',⟨o',n',e',_,_,d'⟩,_⟩:=I.list h'
 rw[e]at e';cases e'
 rw[d]at d'
 injection d' with d1 _
 have:bq=its':=by simpa using gY Array.toList d1
 subst this
 exact r.inj r'
theorem bA.tuple_inj(I:bA X ag σ H s)(h:fS X.K H a xs)(h':fS X.K H a ys):xs=ys:=by
 obtain⟨bq,r,⟨o,e,_,n,d⟩,_⟩:=I.tuple h
 obtain⟨its',r',⟨o',e',_,n',d'⟩,_⟩:=I.tuple h'
 rw[e]at e';cases e'
 rw[d]at d'
 injection d' with d1 _
 have:bq=its':=by simpa using gY Array.toList d1
 subst this
 exact r.inj r'
end
section
variable{X:Cx}{σ:St}{H:Hp}
end
section
variable{X:Cx}{st:Stmt}{gc:List Stmt}{t u:TS}{te:TE}
def Rz:TS:=fun D σ H=>D.nx σ H
def Vi(t u:TS):TS:=fun D σ H=>t { D with nx:=u D } σ H
theorem JR:D3 X [] Rz:=fun _ _ σ H _ I h=>ke ⟨σ,H,I,h⟩
theorem E8(h1:PS X st t)(h2:D3 X gc u):D3 X (st::gc) (Vi t u):=by
 intro ag s σ H D I h
 refine wpAny_execs_cons (gg (h1 ag s σ H { D with nx:=u D } I h) fun f s1 q=>?_)
 cases f with
 |next=>
  obtain⟨σ',H',I',q⟩:=q
  exact h2 ag s1 σ' H' D I' q
 |ret v=>exact q
 |brk=>exact q
 |cont=>exact q
theorem JS(h1:PS X st t):D3 X [st] t:=by
 intro ag s σ H D I h
 refine wpAny_execs_cons (gg (h1 ag s σ H D I h) fun f s1 q=>?_)
 cases f with
 |next=>exact ke q
 |ret v=>exact q
 |brk=>exact q
 |cont=>exact q
theorem bA.quiet{σ:St}{H:Hp}(I:bA X ag σ H s):interactive X.env=false:=by simp[interactive,I.ok.kind]
def RA(te:TE):TS:=fun D σ H=>te σ H fun _ H1=>D.nx σ H1
theorem JT(he:PE X e te)(hs:swapsWith e none pos.line X.env=pure false:=by rfl):PS X (.Expr e pos) (RA te):=by
 intro ag s σ H D I h
 exact wpAny_Expr_any (gg (he ag s σ H _ I h) fun v s1 ⟨x,H1,I1,r1,q1⟩=>⟨σ,H1,I1,q1⟩) I.quiet hs
def Vj(te:TE):TS:=fun D σ H=>te σ H D.rt
theorem N5(he:PE X e te):PS X (.Return (some e) pos) (Vj te):=by
 intro ag s σ H D I h
 exact wpAny_Return_some (gg (he ag s σ H _ I h) fun v s1 ⟨x,H1,I1,r1,q1⟩=>⟨x,σ,H1,I1,r1,q1⟩)
def Vk(c:TT)(t u:TS):TS:=fun D σ H=>c σ H fun b H1=>if b=true then t D σ H1 else u D σ H1
theorem RB{a b:List Stmt}{tc:TT}(hc:PT X c tc)(ha:D3 X a t)(hb:D3 X b u):PS X (.If c a b pos) (Vk tc t u):=by
 intro ag s σ H D I h
 refine wpAny_If (gg (hc ag s σ H _ I h) fun d s1 zq=>?_)
 obtain⟨H1,I1,q1⟩:=zq
 cases d with
 |true=>exact ha ag s1 σ H1 D I1 q1
 |false=>exact hb ag s1 σ H1 D I1 q1
end
abbrev TG:=V->St->Hp->(St->Hp->Prop)->Prop
abbrev JU:=List V->St->Hp->(St->Hp->Prop)->Prop
def PG(X:Cx)(Q7:Expr)(t:TG):Prop:=
 ∀(ag:List (Addr×Obj)) (s:Shared) (σ:St) (H:Hp) (v:V) (u:Value) (Q:St->Hp->Prop),bA X ag σ H s->cD v u->t v σ H Q ->
  wpAny (model X.prog X.w) X.A (assign Q7 X.env u) (fun _ s'=>∃σ' H',bA X ag σ' H' s'/\Q σ' H') X.xe s
def LO(X:Cx)(ts:List Expr)(t:JU):Prop:=
 ∀(ag:List (Addr×Obj)) (s:Shared) (σ:St) (H:Hp) (vs:List V) (us:List Value) (Q:St->Hp->Prop),bA X ag σ H s->cu vs us->t vs σ H Q ->
  wpAny (model X.prog X.w) X.A (assignInOrder ((assignEach ts X.env).map (·.2)) us) (fun _ s'=>∃σ' H',bA X ag σ' H' s'/\Q σ' H') X.xe s
abbrev JV:=V->V->V->Hp->(Hp->Prop)->Prop
def D4(X:Cx)(t:JV):Prop:=
 ∀(ag:List (Addr×Obj)) (s:Shared) (σ:St) (H:Hp) (o i v:V) (ov iv u:Value) (Q:Hp->Prop),bA X ag σ H s->cD o ov->cD i iv->cD v u->t o i v H Q ->
  wpAny (model X.prog X.w) X.A (setItem ov iv u) (fun _ s'=>∃H',bA X ag σ H' s'/\Q H') X.xe s
section
variable{X:Cx}
def LP(i:Nat):TG:=fun v σ H Q=>Q (σ.set i (some v)) H
theorem JW{x:Str}(hN:X.N.Nodup)(hi:X.N[i]?=some x)(hx:JM X.env.scope x)(hf:X.fn x=true\/X.env.scope.names.lookup x=some .local:=by first|exact .inl rfl|exact .inr rfl|assumption):PG X (.Name x pos) (LP i):=by
 intro ag s σ H v u Q I r h
 exact wpAny_assign_Name (zk I hN hi hx r (fun s' I'=>⟨_,H,I',h⟩) hf)
def Vl:JU:=fun vs σ H Q=>vs=[]/\Q σ H
def RC(t:TG)(u:JU):JU:=fun vs σ H Q=>∃v r,vs=v::r/\t v σ H fun σ' H'=>u r σ' H' Q
theorem JX:LO X [] Vl:=by
 intro ag s σ H vs us Q I r h
 obtain⟨e,h⟩:=h
 subst e
 cases r
 exact assignInOrder_nil ⟨σ,H,I,h⟩
theorem E9{t:TG}{u:JU}(h1:PG X e t)(h2:LO X es u)
  (hs:(assignEach (e::es) X.env).map (·.2)=assign e X.env::(assignEach es X.env).map (·.2):=by rfl):LO X (e::es) (RC t u):=by
 intro ag s σ H vs us Q I r h
 obtain⟨v,vr,e1,h⟩:=h
 subst e1
 cases r with
 |cons r rr=>
  rw[hs]
  refine assignInOrder_cons (gg (h1 ag s σ H _ _ _ I r h) fun _ s1 zq=>?_)
  obtain⟨σ1,H1,I1,q1⟩:=zq
  exact h2 ag s1 σ1 H1 _ _ Q I1 rr q1
def Vm(K:Frag)(n:Nat)(t:JU):TG:=fun v σ H Q=>∃a xs,v=.ref a/\fS K H a xs/\xs.length=n/\t xs σ H Q
theorem N6{k:Nat}{t:JU}(hc:X.calm=true)(h:LO X es t)
  (hn:(assignEach es X.env).length=n:=by rfl) (mP:(assignEach es X.env).findIdx? (·.1)=none:=by rfl):PG X (.Tuple es k pos) (Vm X.K n t):=by
 intro ag s σ H v u Q I r hw
 obtain⟨a,xs,e1,hq,hl,hw⟩:=hw
 subst e1
 cases r
 obtain⟨bq,rv,ht,hz⟩:=I.tuple hq
 refine assign_Tuple_tuple (I.ok.hd hc) ht (by simp[hn,<- hl,rv.length]) mP fun h' hx=>?_
 have I1:bA X ag σ H { s with heap:=h' }:=I.kept (t':=s.toks) fun b o e=>hx b o (aX (aC e)) e
 exact h ag _ σ H xs _ Q I1 (by simpa using rv) hw
def Vn(to ti:TE)(t:JV):TG:=fun v σ H Q=>to σ H fun o H1=>ti σ H1 fun i H2=>t o i v H2 fun H3=>Q σ H3
theorem N7{i:Expr}{to ti:TE}{t:JV}(ho:PE X o to)(hi:PE X i ti)(hs:D4 X t)
  (ha:∀v,assign (.Subscript o i pos) X.env v=(do
   let ov <- holding [v] (eval o X.env)
   let iv <- holding [v,ov] (eval i X.env)
   standAt pos
   holding [v,ov,iv] (setItem ov iv v)
   release [v,ov,iv] []):=by intro _;rfl):PG X (.Subscript o i pos) (Vn to ti t):=by
 intro ag s σ H v u Q I r h
 rw[ha]
 refine aa (dz (gg (ho ag s σ H _ I h) fun ov s1 zq=>?_))
 obtain⟨x,H1,I1,r1,q1⟩:=zq
 refine aa (dz (gg (hi ag s1 σ H1 _ I1 q1) fun iv s2 zq=>?_))
 obtain⟨y,H2,I2,r2,q2⟩:=zq
 refine aa (pV (aa (dz (gg (hs ag s2 σ H2 x y v ov iv u _ I2 r1 r2 r q2) fun _ s3 zq=>?_))))
 obtain⟨H3,I3,q3⟩:=zq
 exact wpAny_release ⟨σ,H3,I3,q3⟩
def JY(te:TE)(g:TG):TS:=fun D σ H=>te σ H fun x H1=>g x σ H1 D.nx
theorem N8{te:TE}{g:TG}(he:PE X e te)(hg:PG X tg g)(hs:swapsWithSole [tg] e pos.line X.env=pure false:=by rfl)(hw:swappedStores [tg] e X.env=pure none:=by rfl)
  (h1:(assignEach [tg] X.env).map (·.2)=[assign tg X.env]:=by rfl):PS X (.Assign [tg] e pos) (JY te g):=by
 intro ag s σ H D I h
 refine wpAny_Assign_stores (gg (he ag s σ H _ I h) fun v s1 ⟨x,H1,I1,r1,q1⟩=>?_) hs hw
 rw[h1]
 exact gg (hg ag s1 σ H1 x v _ I1 r1 q1) fun _ s2 q=>q
theorem N9{x:Str}{te:TE}(hN:X.N.Nodup)(hi:X.N[i]?=some x)(hx:JM X.env.scope x)(he:PE X e te)(hs:swapsWith e (some (.Name x h_)) pos.line X.env=pure false:=by rfl)(hf:X.fn x=true\/X.env.scope.names.lookup x=some .local:=by first|exact .inl rfl|exact .inr rfl|assumption) :
  PS X (.Assign [.Name x h_] e pos) (JY te (LP i)):=by
 intro ag s σ H D I h
 refine wpAny_Assign_Name (gg (he ag s σ H _ I h) fun v s1 ⟨y,H1,I1,r1,q1⟩=>?_) hs
 exact zk I1 hN hi hx r1 (fun s2 I2=>⟨_,H1,I2,q1⟩) hf
end
section
variable{X:Cx}
def E_(c:TT)(tb:TS):TS:=fun D σ H=>∃W:Nat->St->Hp->Prop,(∃m,W m σ H)/\∀m σ H,W m σ H ->
 c σ H fun b H1=>if b=true then ∃N:St->Hp->Prop,(∀σ' H',N σ' H'->∃m',m'<m/\W m' σ' H')/\tb { D with nx:=N,ct:=N,bk:=D.nx } σ H1 else D.nx σ H1
theorem Fa{tc:TT}{tb:TS}(hp:PassesOwn (model X.prog X.w) X.A X.env X.xe)(hc:PT X c tc)(hb:D3 X body tb):PS X (.While c body [] pos) (E_ tc tb):=by
 intro ag s σ H D I h
 obtain⟨W,⟨m0,w0⟩,turn⟩:=h
 refine wpAny_While (codeAny_whileLoop (fun n s'=>∃σ' H',bA X ag σ' H' s'/\W n σ' H') ?_ m0 ⟨σ,H,I,w0⟩)
 rintro n s1 ⟨σ1,H1,I1,w1⟩
 refine fF hp (gg (hc ag s1 σ1 H1 _ I1 (turn n σ1 H1 w1)) fun b s2 zq=>?_)
 obtain⟨H2,I2,q2⟩:=zq
 cases b with
 |true=>
  obtain⟨N,hN,q2⟩:=q2
  rw[au rfl]
  refine fF hp (gg (hb ag s2 σ1 H2 _ I2 q2) fun f s3 q3=>?_)
  cases f with
  |next=>
   obtain⟨σ3,H3,I3,n3⟩:=q3
   obtain⟨m',hm,w3⟩:=hN σ3 H3 n3
   exact⟨m',hm,σ3,H3,I3,w3⟩
  |cont=>
   obtain⟨σ3,H3,I3,n3⟩:=q3
   obtain⟨m',hm,w3⟩:=hN σ3 H3 n3
   exact⟨m',hm,σ3,H3,I3,w3⟩
  |brk=>exact q3
  |ret v=>exact q3
 |false=>
  rw[ax cF]
  exact ke ⟨σ1,H2,I2,q2⟩
end
structure It where
 go:Nat->Hp->Prop
 yld:Nat->Hp->V->Hp->Prop
 stop:Nat->Hp->Prop
def sf(X:Cx)(ag:List (Addr×Obj))(H:Hp)(b:Addr):Prop:=
 H b=none/\b≠X.env.locals/\b∉X.fs/\(b∈X.ex\/X.s₀.heap.objs.size<=b)/\(∀x c,X.env.cells.lookup x=some c->c≠b)/\∀p∈X.pn++ag,p.1≠b
theorem bA.fpOk{X:Cx}{σ:St}{H H':Hp}(I:bA X ag σ H s)(hb:s.heap.objs.size<=b)(hn:H' b=none):sf X ag H' b:=by
 refine⟨hn,fJ (aU I.lt hb),I.nofs hb,.inr (aL I.sz hb),fun x c e z=>?_,fun p hp z=>?_⟩
 ·obtain⟨v,q⟩:=I.cell x c e
  exact absurd (aU q.lt (by rw[z];exact hb)) (cW _)
 ·exact absurd (aU (aC (I.pin p hp).1) (by rw[z];exact hb)) (cW _)
structure xQ(P:Program)(w:World)(K:Frag)(tg:Expr)(J:It)(fp:List Addr)(it:Addr)(tn:Nat->Heap->Prop):Prop where
 mem:it∈fp
 obj:∀i h,tn i h->∀b∈fp,∃o,h.get? b=some o/\∀v,o.data≠.cell v
 keep:∀i h h',tn i h->(∀b∈fp,∀o,h.get? b=some o->h'.get? b=some o)->tn i h'
 item:∀(X:Cx),X.prog=P->X.w=w->X.K=K->X.calm=true->∀(i:Nat) (ag:List (Addr×Obj)) (s:Shared) (σ:St) (H:Hp) (E:Value->Shared->Prop),bA X ag σ H s->(∀b∈fp,sf X ag H b)->tn i s.heap->J.go i H ->
  wpAny (model P w) X.A (pyNext (.ref it)) (fun r s1=>∃u,r=some u /\
   wpAny (model P w) X.A (letOwnedTupleGo tg (.ref it) u) (fun _ s2=>∃x H',bA X ag σ H' s2/\cD x u/\J.yld i H x H'/\tn (i+1) s2.heap/\∀b∈fp,H' b=none) E s1) E s
 done:∀(X:Cx),X.prog=P->X.w=w->X.K=K->X.calm=true->∀(i:Nat) (ag:List (Addr×Obj)) (s:Shared) (σ:St) (H:Hp) (E:Value->Shared->Prop),bA X ag σ H s->(∀b∈fp,sf X ag H b)->tn i s.heap->J.stop i H ->
  wpAny (model P w) X.A (pyNext (.ref it)) (fun r s1=>r=none/\bA X ag σ H s1) E s
 self:∀(A:Around) (i:Nat) (s:Shared) (Q:Value->Shared->Prop) (E:Value->Shared->Prop),tn i s.heap->Q (.ref it) s->wpAny (model P w) A (pyIter (.ref it)) Q E s
abbrev TI:=St->Hp->(It->Hp->Prop)->Prop
def UM(X:Cx)(ag:List (Addr×Obj))(σ:St)(tg:Expr)(R:It->Hp->Prop)(We:Value)(s2:Shared):Prop:=
 ∃(it:Addr) (fp:List Addr) (tn:Nat->Heap->Prop) (J:It) (H':Hp),We=.ref it/\bA X ag σ H' s2/\xQ X.prog X.w X.K tg J fp it tn/\tn 0 s2.heap/\(∀b∈fp,sf X ag H' b)/\R J H'
def PI(X:Cx)(tg c6:Expr)(wi:TI):Prop:=
 ∀(ag:List (Addr×Obj)) (s:Shared) (σ:St) (H:Hp) (R:It->Hp->Prop),bA X ag σ H s->wi σ H R ->
  wpAny (model X.prog X.w) X.A (eval c6 X.env) (fun v s1=>wpAny (model X.prog X.w) X.A (pyIter v) (UM X ag σ tg R) X.xe s1) X.xe s
theorem CG      {E:Value -> Shared -> Prop} {s:Shared}    {o:Obj} {n:String} {vs:Array Value} {Q:Unit -> Shared -> Prop} (ho : s.heap.get? it = some o) (hc : o.cls = .type n) (hd : o.data = .fields vs)
    (hn : ["enumerate", "zip", "dict_itemiterator", "dict_reverseitemiterator", "odict_iterator", "itertools.zip_longest", "itertools.pairwise"].contains n = false) (hQ : Q () s) : wpAny M A (letOwnedTupleGo tg (.ref it) u) Q E s := by
  unfold letOwnedTupleGo
  cases tg <;> first
    | exact aq         hQ
    | (cases u <;> first
        | exact aq         hQ
        | (refine aa         (wpAny_load ho ?_)
           rw [hc, hd]
           show wpAny M A (if (["enumerate", "zip", "dict_itemiterator", "dict_reverseitemiterator", "odict_iterator", "itertools.zip_longest", "itertools.pairwise"].contains n && vs[0]? == some (rawInt _)) = true then _ else _) Q E s
           rw [ax     (by intro h; rw [hn, Bool.false_and] at h; cases h)]
           exact aq         hQ))
noncomputable def Wl(K:Frag)(a:Addr):It:=
 ⟨fun i H=>∃xs x,oZ K H a xs/\xs[i]?=some x,fun i H x H'=>H'=H/\∀xs,oZ K H a xs->xs[i]?=some x,fun i H=>∃xs,oZ K H a xs/\xs.length<=i⟩
noncomputable def Wm(K:Frag)(a:Addr):It:=
 ⟨fun i H=>∃xs x,fS K H a xs/\xs[i]?=some x,fun i H x H'=>H'=H/\∀xs,fS K H a xs->xs[i]?=some x,fun i H=>∃xs,fS K H a xs/\xs.length<=i⟩
noncomputable def UN(lo:Int)(n:Nat):It:=⟨fun i _=>i<n,fun i H x H'=>H'=H/\x=.int (lo+i),fun i _=>n<=i⟩
theorem D5{w:World}(a it:Addr):xQ P w K tg (Wl K a) [it] it (fun i h=>h.IsListIter it a i) where
 mem:=by simp
 obj:=fun i h st b hb=>by
  have e:b=it:=by simpa using hb
  subst e
  obtain⟨o,e,c,d⟩:=st
  exact⟨o,e,fun v z=>by rw[d]at z;cases z⟩
 keep:=fun i h h' st k=>st.at fun o e=>k it (by simp) o e
 item:=by
  intro X hP hw hK hc i ag s σ H E I hf st hg
  subst hP hw hK
  obtain⟨xs,x,hq,hx⟩:=hg
  obtain⟨bq,rv,p,hz⟩:=I.list hq
  obtain⟨u,hu,ru⟩:=rv.get hx
  obtain⟨f0,f1,f2,f3,f4,f5⟩:=hf it (by simp)
  refine wpAny_pyNext_list_item st p.isList (x:=u) (by simpa using hu) fun h' bz sb=>?_
  have I1:bA X ag σ H { s with heap:=h' }:=I.turned (t':=s.toks) (fun b o hb e=>(sb.2 b hb).trans e) f0 f1 f3 f4 f5
  obtain⟨o,e,c,d⟩:=id bz
  exact⟨u,rfl,CG (s:={ s with heap:=h' }) e c d (by decide) ⟨x,H,I1,ru,⟨rfl,fun ys hy=>by rw[I.list_inj hy hq];exact hx⟩,bz,fun b hb=>(hf b hb).1⟩⟩
 done:=by
  intro X hP hw hK hc i ag s σ H E I hf st hg
  subst hP hw hK
  obtain⟨xs,hq,hx⟩:=hg
  obtain⟨bq,rv,p,hz⟩:=I.list hq
  obtain⟨f0,f1,f2,f3,f4,f5⟩:=hf it (by simp)
  have hl:=rv.length
  exact wpAny_pyNext_list_end (I.ok.hd hc) st p.isList (by simp;omega) fun h' eb=>⟨rfl,I.turned (t':=s.toks) (fun b o hb e=>eb b o hb e) f0 f1 f3 f4 f5⟩
 self:=fun _ _ _ _ _ st h=>wpAny_pyIter_listiter st h
theorem Be{w:World}(a it:Addr):xQ P w K tg (Wm K a) [it] it (fun i h=>h.IsTupleIter it a i) where
 mem:=by simp
 obj:=fun i h st b hb=>by
  have e:b=it:=by simpa using hb
  subst e
  obtain⟨o,e,c,d⟩:=st
  exact⟨o,e,fun v z=>by rw[d]at z;cases z⟩
 keep:=fun i h h' st k=>st.at fun o e=>k it (by simp) o e
 item:=by
  intro X hP hw hK hc i ag s σ H E I hf st hg
  subst hP hw hK
  obtain⟨xs,x,hq,hx⟩:=hg
  obtain⟨bq,rv,p,hz⟩:=I.tuple hq
  obtain⟨u,hu,ru⟩:=rv.get hx
  obtain⟨f0,f1,f2,f3,f4,f5⟩:=hf it (by simp)
  refine wpAny_pyNext_tuple_item st (show s.heap.IsTuple a bq.toArray from p) (x:=u) (by simpa using hu) fun h' bz sb=>?_
  have I1:bA X ag σ H { s with heap:=h' }:=I.turned (t':=s.toks) (fun b o hb e=>(sb.2 b hb).trans e) f0 f1 f3 f4 f5
  obtain⟨o,e,c,d⟩:=id bz
  exact⟨u,rfl,CG (s:={ s with heap:=h' }) e c d (by decide) ⟨x,H,I1,ru,⟨rfl,fun ys hy=>by rw[I.tuple_inj hy hq];exact hx⟩,bz,fun b hb=>(hf b hb).1⟩⟩
 done:=by
  intro X hP hw hK hc i ag s σ H E I hf st hg
  subst hP hw hK
  obtain⟨xs,hq,hx⟩:=hg
  obtain⟨bq,rv,p,hz⟩:=I.tuple hq
  obtain⟨f0,f1,f2,f3,f4,f5⟩:=hf it (by simp)
  have hl:=rv.length
  exact wpAny_pyNext_tuple_end (I.ok.hd hc) st (show s.heap.IsTuple a bq.toArray from p) (by simp;omega) fun h' eb=>⟨rfl,I.turned (t':=s.toks) (fun b o hb e=>eb b o hb e) f0 f1 f3 f4 f5⟩
 self:=fun _ _ _ _ _ st h=>wpAny_pyIter_tupleiter st h
theorem Bf{w:World}(it:Addr)(lo:Int)(n:Nat):xQ P w K tg (UN lo n) [it] it (fun i h=>IsRangeIter h it (lo+(i:Nat)*1) ((n:Int)-(i:Nat)) 1) where
 mem:=by simp
 obj:=fun i h st b hb=>by
  have e:b=it:=by simpa using hb
  subst e
  exact⟨_,st,fun v z=>by
   have z':Data.fields _=Data.cell v:=z
   cases z'⟩
 keep:=fun i h h' st k=>k it (by simp) _ st
 item:=by
  intro X hP hw hK hc i ag s σ H E I hf st hg
  subst hP hw hK
  obtain⟨f0,f1,f2,f3,f4,f5⟩:=hf it (by simp)
  have W:=Walks.range (prog:=X.prog) (w:=X.w) (I.ok.hd hc) it lo 1 n
  refine W.item i s _ _ hg st fun v h' tk hv bz kk=>?_
  obtain⟨t,rfl⟩:=hv
  have I1:bA X ag σ H { s with heap:=h',toks:=tk }:=I.turned (fun b o hb e=>kk b o (by simpa using hb) e) f0 f1 f3 f4 f5
  refine⟨_,rfl,CG (s:={ s with heap:=h',toks:=tk }) (n:="range_iterator") bz rfl rfl (by decide) ⟨.int (lo+i),H,I1,⟨t,?_⟩,⟨rfl,rfl⟩,bz,fun b hb=>(hf b hb).1⟩⟩
  rw[Int.mul_one]
 done:=by
  intro X hP hw hK hc i ag s σ H E I hf st hg
  subst hP hw hK
  obtain⟨f0,f1,f2,f3,f4,f5⟩:=hf it (by simp)
  exact wpAny_pyNext_range_end (I.ok.hd hc) st (by have:n<=i:=hg;omega) fun h' eb=>⟨rfl,I.turned (t':=s.toks) (fun b o hb e=>eb b o hb e) f0 f1 f3 f4 f5⟩
 self:=fun _ _ _ _ _ st h=>nn st h
section
variable{X:Cx}
def RD(K:Frag)(tl:TE):TI:=fun σ H R=>tl σ H fun x H1=>∃a,x=.ref a/\(∃xs,oZ K H1 a xs)/\R (Wl K a) H1
def Vo(K:Frag)(tl:TE):TI:=fun σ H R=>tl σ H fun x H1=>∃a,x=.ref a/\(∃xs,fS K H1 a xs)/\R (Wm K a) H1
theorem JZ{l:Expr}{tl:TE}(hl:PE X l tl):PI X tg l (RD X.K tl):=by
 intro ag s σ H R I h
 refine gg (hl ag s σ H _ I h) fun v s1 zq=>?_
 obtain⟨x,H1,I1,r1,q1⟩:=zq
 obtain⟨a,e,⟨xs,hq⟩,q⟩:=q1
 subst e
 cases r1
 obtain⟨bq,rv,p,hz⟩:=I1.list hq
 refine gR p.isList ?_
 refine⟨s1.heap.objs.size,[s1.heap.objs.size],_,_,H1,rfl,I1.kept (t':=s1.toks) fun b o e=>ai _ e,D5 a _,⟨_,ar _ rfl,rfl,rfl⟩,fun b hb=>?_,q⟩
 have e:b=s1.heap.objs.size:=by simpa using hb
 subst e
 exact I1.fpOk (aw _) (I1.hok.fresh (aw _))
theorem N_{l:Expr}{tl:TE}(hl:PE X l tl):PI X tg l (Vo X.K tl):=by
 intro ag s σ H R I h
 refine gg (hl ag s σ H _ I h) fun v s1 zq=>?_
 obtain⟨x,H1,I1,r1,q1⟩:=zq
 obtain⟨a,e,⟨xs,hq⟩,q⟩:=q1
 subst e
 cases r1
 obtain⟨bq,rv,p,hz⟩:=I1.tuple hq
 refine gk (show s1.heap.IsTuple a bq.toArray from p) ?_
 refine⟨s1.heap.objs.size,[s1.heap.objs.size],_,_,H1,rfl,I1.kept (t':=s1.toks) fun b o e=>ai _ e,Be a _,⟨_,ar _ rfl,rfl,rfl⟩,fun b hb=>?_,q⟩
 have e:b=s1.heap.objs.size:=by simpa using hb
 subst e
 exact I1.fpOk (aw _) (I1.hok.fresh (aw _))
theorem Fb{σ:St}{H:Hp}{R:It->Hp->Prop}{lo hi:Int}{t u v:Tok}{tk:Nat}(I:bA X ag σ H s)(h1:-(2^62)<=lo)(h2:lo<2^62)(h3:-(2^62)<=hi)(h4:hi<2^62)
  (q:R (UN lo (hi-lo).toNat) H):wpAny (model X.prog X.w) X.A (pyIter (.ref s.heap.objs.size)) (UM X ag σ tg R) E { s with heap:=s.heap.push { cls:=.type "range",data:=.fields #[.int lo t,.int hi u,.int 1 v] },toks:=tk }:=by
 refine wpAny_pyIter_range (IsRange.new ..) (small_one h1 h2 h3 h4) ?_
 have I1:bA X ag σ H { s with heap:=s.heap.push { cls:=.type "range",data:=.fields #[.int lo t,.int hi u,.int 1 v] },toks:=tk }:=I.kept fun b o e=>ai _ e
 refine⟨(s.heap.push { cls:=.type "range",data:=.fields #[.int lo t,.int hi u,.int 1 v] }).objs.size,[(s.heap.push { cls:=.type "range",data:=.fields #[.int lo t,.int hi u,.int 1 v] }).objs.size],_,_,H,rfl,
  I1.kept (t':=tk) fun b o e=>ai _ e,Bf _ lo (hi-lo).toNat,?_,fun b hb=>?_,q⟩
 ·have e1:lo+((0:Nat):Int)*1=lo:=by simp
  have e2:(((hi-lo).toNat:Nat):Int)-((0:Nat):Int)=Builtin.Range.rangeSize lo hi 1:=by rw[rangeSize_one];split<;>omega
  show IsRangeIter _ _ (lo+((0:Nat):Int)*1) ((((hi-lo).toNat:Nat):Int)-((0:Nat):Int)) 1
  rw[e1,e2]
  exact ar _ rfl
 ·have e:b=(s.heap.push { cls:=.type "range",data:=.fields #[.int lo t,.int hi u,.int 1 v] }).objs.size:=by simpa using hb
  subst e
  exact I1.fpOk (aw _) (I1.hok.fresh (aw _))
def RE(ta:TA):TI:=fun σ H R=>ta σ H fun vs H1=>∃j:Int,vs=[.int j]/\-(2^62)<=j/\j<2^62/\R (UN 0 j.toNat) H1
theorem D6{a:Expr}{ta:TA}{p pos:Pos}(hg:Gl X "range")(hm:X.mg "range"=none)(ha:PA X [a] ta)(hs:starEach [a] X.env=[(false,eval a X.env)]:=by rfl):PI X tg (.Call (.Name "range" p) [a] [] pos) (RE ta):=by
 intro ag s σ H R I h
 refine Call_ (kP I hg hm boot_range (bR (gg (ha pos ag s σ H _ I h) fun us s1 ⟨vs,H1,I1,r1,q1⟩=>?_) hs rfl))
 obtain⟨j,e,q1,q2,q⟩:=q1
 subst e
 cases r1 with
 |cons r rr=>
  cases rr
  obtain⟨t,rfl⟩:=r
  exact call_range_1 (Fb I1 (by omega) (by omega) q1 q2 (by simpa using q))
def Vp(wi:TI)(g:TG)(tb:TS):TS:=fun D σ H=>wi σ H fun J H1=>∃W:Nat->Nat->St->Hp->Prop,(∃m,W 0 m σ H1)/\∀i m σ H,W i m σ H ->
 (J.stop i H/\D.nx σ H)\/(J.go i H/\∃N:St->Hp->Prop,(∀σ' H',N σ' H'->∃m',m'<m/\W (i+1) m' σ' H')/\∀x H',J.yld i H x H'->g x σ H' fun σ2 H2=>tb { D with nx:=N,ct:=N,bk:=D.nx } σ2 H2)
noncomputable def xR(fp:List Addr)(h:Heap):List (Addr×Obj):=fp.filterMap fun b=>(h.get? b).map fun o=>(b,o)
theorem jD{o:Obj}(hb:b∈fp)(e:h.get? b=some o):(b,o)∈xR fp h:=lu.mpr ⟨b,hb,by rw[e];rfl⟩
theorem D7{p:Addr×Obj}(hp:p∈xR fp h):p.1∈fp/\h.get? p.1=some p.2:=by
 obtain⟨b,hb,e⟩:=lu.mp hp
 cases q:h.get? b with
 |none=>rw[q]at e;cases e
 |some o=>
  rw[q]at e
  have e':(b,o)=p:=aF e
  subst e'
  exact⟨hb,q⟩
theorem bA.pinned{σ:St}{H:Hp}(I:bA X ag σ H s)(hf:∀b∈fp,sf X ag H b)(ho:∀b∈fp,∃o,s.heap.get? b=some o/\∀v,o.data≠.cell v):bA X (ag++xR fp s.heap) σ H s:=
 I.pins_of fun p hp=>(aY.mp hp).elim (fun z=>I.pin p (aI _ z)) fun z=>by
  obtain⟨hb,e⟩:=D7 z
  obtain⟨f0,f1,f2,_⟩:=hf p.1 hb
  obtain⟨o,e',d⟩:=ho p.1 hb
  rw[e]at e';cases e'
  exact⟨e,f0,f1,f2,d⟩
theorem bA.unpinned{pl:List (Addr×Obj)}{σ:St}{H:Hp}(I:bA X (ag++pl) σ H s):bA X ag σ H s:=I.pins_of fun p hp=>I.pin p (aI _ (bS _ hp))
theorem N'{wi:TI}{g:TG}{tb:TS}{pos:Pos}(hp:PassesOwn (model X.prog X.w) X.A X.env X.xe)(hc:X.calm=true)(hi:PI X tg c6 wi)(hg:PG X tg g)(hb:D3 X body tb)
  (hs:∀x,foldedSetIterable c6 X.env x=pure x:=by intro _;rfl):PS X (.For tg c6 body [] pos) (Vp wi g tb):=by
 intro ag s σ H D I h
 refine wpAny_For (gg (hi ag s σ H _ I h) fun v s1 h1=>gg h1 fun We s2 h2=>?_) hs
 obtain⟨it,fp,tn,J,H2,e,I2,T,cV,f2,W,⟨m0,w0⟩,turn⟩:=h2
 subst e
 have stat:∀{H':Hp},(∀b∈fp,H' b=none)->∀b∈fp,sf X ag H' b:=fun hn b hb=>⟨hn b hb,(f2 b hb).2⟩
 refine codeAny_forLoop_any (fun n s'=>∃i σ' H',bA X ag σ' H' s'/\tn i s'.heap/\(∀b∈fp,H' b=none)/\W i n σ' H') ?_ m0 ⟨0,σ,H2,I2,cV,fun b hb=>(f2 b hb).1,w0⟩
 rintro n s3 ⟨i,σ3,H3,I3,lZ,fr3,w3⟩
 rcases turn i n σ3 H3 w3 with⟨stop,qn⟩|⟨go,N,hN,step⟩
 ·refine fF hp (gg (T.done X rfl rfl rfl hc i ag s3 σ3 H3 X.xe I3 (stat fr3) lZ stop) fun r s4 zq=>?_)
  obtain⟨hr,I4⟩:=zq
  subst hr
  exact ke ⟨σ3,H3,I4,qn⟩
 ·refine fF hp (gg (T.item X rfl rfl rfl hc i ag s3 σ3 H3 X.xe I3 (stat fr3) lZ go) fun r s4 zq=>?_)
  obtain⟨u,hr,h4⟩:=zq
  subst hr
  refine fF hp (gg h4 fun _ s5 zq=>?_)
  obtain⟨x,H5,I5,r5,y5,st5,fr5⟩:=zq
  have I5':=I5.pinned (stat fr5) (T.obj _ _ st5)
  refine fF hp (gg (hg _ s5 σ3 H5 x u _ I5' r5 (step x H5 y5)) fun _ s6 zq=>?_)
  obtain⟨σ6,H6,I6,q6⟩:=zq
  refine fF hp (gg (hb _ s6 σ6 H6 _ I6 q6) fun f s7 q7=>?_)
  have again:∀{σ7:St} {H7:Hp},bA X (ag++xR fp s5.heap) σ7 H7 s7->N σ7 H7->∃m,m<n/\∃i σ' H',bA X ag σ' H' s7/\tn i s7.heap/\(∀b∈fp,H' b=none)/\W i m σ' H':=fun{σ7 H7} I7 n7=>by
   obtain⟨m',hm,w7⟩:=hN σ7 H7 n7
   refine⟨m',hm,i+1,σ7,H7,I7.unpinned,T.keep _ _ _ st5 fun b hb o e=>(I7.pin (b,o) (aI _ (aI _ (jD hb e)))).1,fun b hb=>?_,w7⟩
   obtain⟨o,e,d⟩:=T.obj _ _ st5 b hb
   exact(I7.pin (b,o) (aI _ (aI _ (jD hb e)))).2.1
  cases f with
  |next=>obtain⟨σ7,H7,I7,n7⟩:=q7;exact again I7 n7
  |cont=>obtain⟨σ7,H7,I7,n7⟩:=q7;exact again I7 n7
  |brk=>obtain⟨σ7,H7,I7,q7⟩:=q7;exact⟨σ7,H7,I7.unpinned,q7⟩
  |ret v=>obtain⟨x7,σ7,H7,I7,r7,q7⟩:=q7;exact⟨x7,σ7,H7,I7.unpinned,r7,q7⟩
end
abbrev R2:=V->V->Hp->VK->Prop
def nF(X:Cx)(f:Value->Value->Sem Value)(r:R2):Prop:=
 ∀(ag:List (Addr×Obj)) (s:Shared) (σ:St) (H:Hp) (x y:V) (v u:Value) (Q:VK),bA X ag σ H s->cD x v->cD y u->r x y H Q ->
  wpAny (model X.prog X.w) X.A (f v u) (EP X ag σ Q) X.xe s
def Vq(X:Cx)(f:Value->Sem Value)(r:V->Hp->VK->Prop):Prop:=
 ∀(ag:List (Addr×Obj)) (s:Shared) (σ:St) (H:Hp) (x:V) (v:Value) (Q:VK),bA X ag σ H s->cD x v->r x H Q ->
  wpAny (model X.prog X.w) X.A (f v) (EP X ag σ Q) X.xe s
def jx(X:Cx)(f:Value)(r:List V->Hp->VK->Prop):Prop:=
 ∀(ag:List (Addr×Obj)) (s:Shared) (σ:St) (H:Hp) (xs:List V) (us:List Value) (Q:VK),bA X ag σ H s->cu xs us->r xs H Q ->
  wpAny (model X.prog X.w) X.A (call f us) (EP X ag σ Q) X.xe s
def RF(r:R2)(ta tb:TE):TE:=fun σ H Q=>ta σ H fun x H1=>tb σ H1 fun y H2=>r x y H2 Q
def WM(r:V->Hp->VK->Prop)(ta:TE):TE:=fun σ H Q=>ta σ H fun x H1=>r x H1 Q
def rI(C:Int->Int->Prop)(g:Int->Int->V):R2:=fun x y H Q=>∃i j,x=.int i/\y=.int j/\C i j/\Q (g i j) H
def JC(g:Int->Int->V):R2:=fun x y H Q=>∃i j,x=.int i/\y=.int j/\Q (g i j) H
def rU(g:Int->V):V->Hp->VK->Prop:=fun x H Q=>∃i,x=.int i/\Q (g i) H
section
variable{X:Cx}{a b:Expr}{ta tb tc:TE}
theorem Oa(ha:PE X a ta)(hb:PE X b tb){σ:St}{H:Hp}{R:V->V->Hp->Prop}(I:bA X ag σ H s)
  (h:ta σ H fun x H1=>tb σ H1 fun y H2=>R x y H2) {Q:Value->Shared->Prop} {f:Value->Value->Sem Value}
  (hf:∀v u s2 x y H2,bA X ag σ H2 s2->cD x v->cD y u->R x y H2->wpAny (model X.prog X.w) X.A (f v u) Q X.xe s2) :
  wpAny (model X.prog X.w) X.A (eval a X.env) (fun v s₁=>wpAny (model X.prog X.w) X.A (eval b X.env) (fun u s₂=>wpAny (model X.prog X.w) X.A (f v u) Q X.xe s₂) X.xe s₁) X.xe s:=by
 refine gg (ha ag s σ H _ I h) fun v s1 zq=>?_
 obtain⟨x,H1,I1,r1,q1⟩:=zq
 refine gg (hb ag s1 σ H1 _ I1 q1) fun u s2 zq=>?_
 obtain⟨y,H2,I2,r2,q2⟩:=zq
 exact hf v u s2 x y H2 I2 r1 r2 q2
theorem RG{op:Operator}{r:R2}(ho:nF X (binaryOp op) r)(ha:PE X a ta)(hb:PE X b tb):PE X (.BinOp a op b pos) (RF r ta tb):=by
 intro ag s σ H Q I h
 exact wpAny_BinOp (Oa ha hb I h fun v u s2 x y H2 I2 rx ry q=>ho ag s2 σ H2 x y v u Q I2 rx ry q)
theorem RH{op:UnaryOp}{r:V->Hp->VK->Prop}(ho:Vq X (unaryOp op) r)(ha:PE X a ta):PE X (.UnaryOp op a pos) (WM r ta):=by
 intro ag s σ H Q I h
 exact UnaryOp_ (gg (ha ag s σ H _ I h) fun v s1 ⟨x,H1,I1,r1,q1⟩=>ho ag s1 σ H1 x v Q I1 r1 q1)
theorem Rf{f:Value->Value->Sem Value}{C:Int->Int->Prop}{g:Int->Int->Int}
  (rule:∀(i j:Int) (t u:Tok) (s:Shared) (Q:Value->Shared->Prop) (E:Value->Shared->Prop),C i j->Q (.int (g i j) s.toks) { s with toks:=s.toks+1 }->wpAny (model X.prog X.w) X.A (f (.int i t) (.int j u)) Q E s) :
  nF X f (rI C fun i j=>.int (g i j)):=by
 intro ag s σ H x y v u Q I rx ry h
 obtain⟨i,j,rfl,rfl,hc,q⟩:=h
 obtain⟨t,rfl⟩:=rx
 obtain⟨t',rfl⟩:=ry
 exact rule i j t t' s _ _ hc ⟨.int (g i j),H,I.tok _,⟨_,rfl⟩,q⟩
theorem Ob{f:Value->Value->Sem Value}{g:Int->Int->Int}
  (rule:∀(i j:Int) (t u:Tok) (s:Shared) (Q:Value->Shared->Prop) (E:Value->Shared->Prop),Q (.int (g i j) s.toks) { s with toks:=s.toks+1 }->wpAny (model X.prog X.w) X.A (f (.int i t) (.int j u)) Q E s) :
  nF X f (JC fun i j=>.int (g i j)):=by
 intro ag s σ H x y v u Q I rx ry h
 obtain⟨i,j,rfl,rfl,q⟩:=h
 obtain⟨t,rfl⟩:=rx
 obtain⟨t',rfl⟩:=ry
 exact rule i j t t' s _ _ ⟨.int (g i j),H,I.tok _,⟨_,rfl⟩,q⟩
theorem Oc{f:Value->Value->Sem Value}{g:Int->Int->Bool}
  (rule:∀(i j:Int) (t u:Tok) (s:Shared) (Q:Value->Shared->Prop) (E:Value->Shared->Prop),Q (.bool (g i j)) s->wpAny (model X.prog X.w) X.A (f (.int i t) (.int j u)) Q E s) :
  nF X f (JC fun i j=>.bl (g i j)):=by
 intro ag s σ H x y v u Q I rx ry h
 obtain⟨i,j,rfl,rfl,q⟩:=h
 obtain⟨t,rfl⟩:=rx
 obtain⟨t',rfl⟩:=ry
 exact rule i j t t' s _ _ ⟨.bl (g i j),H,I,rfl,q⟩
def Vr(i j:Int):Prop:=0<j/\j<1073741824
def Od(i j:Int):Prop:=0<=j/\j<=1000000/\i.natAbs<2^64
def Oe(i j:Int):Prop:=(-(2^64)<i/\i<2^64)\/(-(2^64)<j/\j<2^64)
theorem Oe.ok{i j:Int}(h:Oe i j):IntMulOk i j:=by
 rcases h with⟨h1,h2⟩|⟨h1,h2⟩
 ·exact .of_left (intBits_le_64 h1 h2)
 ·exact .of_right (intBits_le_64 h1 h2)
theorem Bg(k:Nat):(0:Int)<=2^k:=by
 rw[two_pow_cast]
 exact Int.natCast_nonneg _
theorem Of:nF X (binaryOp .Add) (JC fun i j=>.int (i+j)):=Ob fun _ _ _ _ _ _ _ q=>add_int q
theorem Og:nF X (binaryOp .Sub) (JC fun i j=>.int (i-j)):=Ob fun _ _ _ _ _ _ _ q=>sub_int q
theorem Oh:nF X (binaryOp .Mult) (rI Oe fun i j=>.int (i*j)):=Rf fun _ _ _ _ _ _ _ hc q=>mul_int q hc.ok
theorem J0:nF X (binaryOp .FloorDiv) (rI Vr fun i j=>.int (i/j)):=Rf fun i j _ _ _ _ _ hc q=>by
 have h1:(0:Int)<j:=hc.1
 have h2:j<1073741824:=hc.2
 exact floordiv_int (by omega) (by rw[lv i (by omega)];exact q) (.inl (no (by omega)))
theorem Oi:nF X (binaryOp .Mod) (rI (fun _ j=>0<j) fun i j=>.int (i%j)):=Rf fun i j _ _ _ _ _ hc q=>by
 have h1:(0:Int)<j:=hc
 exact mod_int' (by omega) (by rw[Int.fmod_eq_emod_of_nonneg i (by omega)];exact q)
theorem Oj:nF X (binaryOp .Pow) (rI Od fun i j=>.int (i^j.toNat)):=Rf fun _ _ _ _ _ _ _ hc q=>pow_int_small hc.1 hc.2.1 hc.2.2 q
theorem Fc:nF X (binaryOp .LShift) (rI Od fun i j=>.int (i*2^j.toNat)):=Rf fun _ _ _ _ _ _ _ hc q=>lshift_int_small hc.1 hc.2.1 hc.2.2 q
theorem Ol:nF X (binaryOp .RShift) (rI (fun _ j=>0<=j) fun i j=>.int (i/2^j.toNat)):=Rf fun i j _ _ _ _ _ hc q=>
 rshift_int hc (by rw[lv i (Bg _)];exact q)
theorem Om:nF X (binaryOp .BitAnd) (JC fun i j=>.int (Builtin.bitAnd i j)):=Ob fun _ _ _ _ _ _ _ q=>and_int q
theorem WN{f:Value->Sem Value}{g:Int->Int}
  (rule:∀(i:Int) (t:Tok) (s:Shared) (Q:Value->Shared->Prop) (E:Value->Shared->Prop),Q (.int (g i) s.toks) { s with toks:=s.toks+1 }->wpAny (model X.prog X.w) X.A (f (.int i t)) Q E s) :
  Vq X f (rU fun i=>.int (g i)):=by
 intro ag s σ H x v Q I rx h
 obtain⟨i,rfl,q⟩:=h
 obtain⟨t,rfl⟩:=rx
 exact rule i t s _ _ ⟨.int (g i),H,I.tok _,⟨_,rfl⟩,q⟩
theorem On:Vq X (unaryOp .USub) (rU fun i=>.int (-i)):=WN fun _ _ _ _ _ q=>neg_int q
end
section
variable{X:Cx}{a b:Expr}{ta tb tc:TE}
theorem Fd{σ:St}{H:Hp}{Q:VK}{k k':Bool}(I:bA X ag σ H s)(q:Q (.bl k) H)(e:k=k'):EP X ag σ Q (.bool k') s:=by
 subst e
 exact⟨.bl k,H,I,rfl,q⟩
theorem RI:nF X (compareOp .Lt) (JC fun i j=>.bl (decide (i<j))):=Oc fun _ _ _ _ _ _ _ q=>lt_int q
theorem RJ:nF X (compareOp .Gt) (JC fun i j=>.bl (decide (j<i))):=Oc fun _ _ _ _ _ _ _ q=>gt_int q
theorem RL:nF X (compareOp .GtE) (JC fun i j=>.bl (decide (j<=i))):=Oc fun _ _ _ _ _ _ _ q=>ge_int q
theorem D8:nF X (compareOp .In) (fun x y H Q=>∃i j,x=.str i/\y=.str j/\Q (.bl (!(Builtin.Str.occurrences j i 0 j.length 1).isEmpty)) H):=by
 intro ag s σ H x y v u Q I rx ry h
 obtain⟨i,j,rfl,rfl,q⟩:=h
 obtain⟨t,rfl⟩:=rx
 obtain⟨t',rfl⟩:=ry
 exact in_str (Fd I q rfl)
theorem xS:nF X (compareOp .NotIn) (fun x y H Q=>∃i j,x=.str i/\y=.str j/\Q (.bl (!(!(Builtin.Str.occurrences j i 0 j.length 1).isEmpty))) H):=by
 intro ag s σ H x y v u Q I rx ry h
 obtain⟨i,j,rfl,rfl,q⟩:=h
 obtain⟨t,rfl⟩:=rx
 obtain⟨t',rfl⟩:=ry
 exact notIn_str (Fd I q rfl)
theorem Fe(b:Expr)(h:op≠.In:=by decide)(h2:op≠.NotIn:=by decide):behindInMarks op b=false:=by
 have e1:(op==CmpOp.In)=false:=by cases op<;>first|rfl|exact absurd rfl h
 have e2:(op==CmpOp.NotIn)=false:=by cases op<;>first|rfl|exact absurd rfl h2
 cases b<;>simp[behindInMarks,e1,e2]
theorem J1{r:R2}(ho:nF X (compareOp op) r)(ha:PE X a ta)(hb:PE X b tb)(hm:behindInMarks op b=false):PE X (.Compare a [op] [b] pos) (RF r ta tb):=by
 intro ag s σ H Q I h
 exact wpAny_Compare1 (Oa ha hb I h fun v u s2 x y H2 I2 rx ry q=>ho ag s2 σ H2 x y v u Q I2 rx ry q) hm
def RM(t:TE):TT:=fun σ H Q=>t σ H fun x H'=>∃k,x=.bl k/\Q k H'
theorem J2{r:R2}(ho:nF X (compareOp op) r)(ha:PE X a ta)(hb:PE X b tb)(hm:behindInMarks op b=false):PT X (.Compare a [op] [b] pos) (RM (RF r ta tb)):=by
 intro ag s σ H Q I h
 refine om (gg (ha ag s σ H _ I h) fun v s1 ⟨x,H1,I1,r1,q1⟩=>gg (hb ag s1 σ H1 _ I1 q1) fun u s2 ⟨y,H2,I2,r2,q2⟩=>
  gg (ho ag s2 σ H2 x y v u _ I2 r1 r2 q2) fun c s3 ⟨z,H3,I3,r3,k,e,q3⟩=>?_) hm
 subst e
 cases r3
 exact gQ ⟨H3,I3,q3⟩
theorem si:(sizeLine:Nat)<2^63:=by rw[j0];decide
theorem Bh:nF X (binaryOp .Add) (fun x y H Q=>∃i j,x=.str i/\y=.str j/\i.length+j.length<=sizeLine/\Q (.str (i++j)) H):=by
 intro ag s σ H x y v u Q I rx ry h
 obtain⟨i,j,rfl,rfl,hz,q⟩:=h
 obtain⟨t,rfl⟩:=rx
 obtain⟨t',rfl⟩:=ry
 exact add_str (fun t' tk=>⟨.str (i++j),H,I.tok _,⟨_,rfl⟩,q⟩) hz
theorem nG{x:V}(r:cu [x] us):∃u,us=[u]/\cD x u:=by
 cases r with
 |cons r1 r2=>cases r2;exact⟨_,rfl,r1⟩
theorem wV:jx X (.type "int") (fun xs H Q=>(∃i,xs=[.int i]/\Q (.int i) H)\/∃k,xs=[.bl k]/\Q (.int (if k then 1 else 0)) H):=by
 intro ag s σ H xs us Q I r h
 rcases h with⟨i,rfl,q⟩|⟨k,rfl,q⟩
 ·obtain⟨u,rfl,t,rfl⟩:=nG r
  exact call_int_int ⟨.int i,H,I,⟨_,rfl⟩,q⟩
 ·obtain⟨u,rfl,r1⟩:=nG r
  cases r1
  exact call_int_bool ⟨.int (if k then 1 else 0),H,I.tok _,⟨_,rfl⟩,q⟩
end
structure Bi(h:Heap)(x dx C:Addr)(mA:Str->Option Value):Prop where
 obj:h.get? x=some (instObj C dx)
 ns:h.Ns1 dx mA
 ne:dx≠x
theorem D9{dx:Addr}(n:h.Ns1 dx mA):∃od,h.get? dx=some od/\∀name,lookIn name od=some (mA name):=by
 obtain⟨o,es,ep,ho,hd,hk,_,hm⟩:=n
 refine⟨o,ho,fun name=>?_⟩
 have e:=hm name
 unfold nsFind findBy at e
 rw[<- Array.find?_toList]at e
 unfold lookIn
 rw[hd]
 dsimp only
 split
 ·rename_i y q
  rw[q]at e
  exact gY some e
 ·rename_i q
  rw[q]at e
  have a:es.toList.any (·.refKey)=false:=by
   rw[l0]
   intro y hy
   obtain⟨z,t,hkey⟩:=hk y (Array.mem_toList_iff.mp hy)
   simp[DictEntry.refKey,hkey]
  have a':¬ es.toList.any (·.refKey)=true:=by rw[a];exact cF
  rw[ax a']
  exact gY some e
theorem Bi.look{x dx:Addr}(I:Bi h x dx C mA):∃od,PySem.W.InstAt h x (instObj C dx) C (some od)/\∀name,lookIn name od=some (mA name):=
 let ⟨od,ho,hl⟩:=D9 I.ns
 ⟨od,⟨I.obj,rfl,rfl,ho⟩,hl⟩
section
variable{w:World}{x dx f:Addr}
theorem J3{Wg:Bool}(X:K.In s.heap)(I:Bi s.heap x dx C mA)(hg:plainGet K C name=true)(hh:PySem.W.hasDictIn K C=true)
  (ha:findIn K (.ref C) name=some none) (hv:mA name=some v) (Vc:PySem.W.handedIn v=true) (h:Q v { s with toks:=s.toks+1 }) :
  wpAny (model prog w) A (getAttr (.ref x) name Wg) Q E s:=by
 obtain⟨od,J,hl⟩:=I.look
 exact PySem.W.get_value X J (PySem.W.plainGet_of hg).1 (PySem.W.findObj_own hh ha rfl (by rw[hl,hv])) Vc h
theorem Ff{Q:Value×List Value->Shared->Prop}(X:K.In s.heap)(I:Bi s.heap x dx C mA)(hg:plainGet K C name=true)
  (hf:findIn K (.ref C) name=some (some (.ref f))) (ht:isFn K (.ref f)=true) (hv:mA name=none) (h:Q (.ref f,[.ref x]) s) :
  wpAny (model prog w) A (getMethod (.ref x) name pl) Q E s:=by
 obtain⟨od,J,hl⟩:=I.look
 exact PySem.W.method_fn X J (PySem.W.plainGet_of hg).1 (PySem.W.plainGet_of hg).2 hf (db.mp ht) (by show(lookIn name od).map (·.isSome)=some false;rw[hl,hv];rfl) h
theorem J4{ns:List Str}{Q:Unit->Shared->Prop}(X:K.In s.heap)(I:Bi s.heap x dx C mA)
  (hs:findIn K (.ref C) "__setattr__"=some (some (.builtin "object.__setattr__"))) (hp:PySem.W.plainOver K C=true) (ht:PySem.W.takerIn K C name=some none) (hh:PySem.W.hasDictIn K C=true)
  (hw:PySem.Within mA ns) (hsz:ns.length<=sizeLine)
  (h:∀h',Bi h' x dx C (fun y=>if y=name then some v else mA y)->Heap.SameBut dx s.heap h'->Q () { s with heap:=h',toks:=s.toks+2 }) :
  wpAny (model prog w) A (setAttr (.ref x) name v) Q E s:=by
 obtain⟨od,J,hl⟩:=I.look
 refine PySem.W.set_plain X J hs (PySem.W.osa_open (s:={ s with toks:=s.toks+1 }) (r:=none) X J hp ht fun b=>?_)
 obtain⟨cd,hc,hd'⟩:=PySem.W.any_some hh
 have hx:s.heap.get? x=some ⟨.ref C,some dx,.plain,#[]⟩:=I.obj
 refine aa (aq (aa (aa (wpAny_loadPart hx (aa (PySem.W.Looks.here (s:={ s with toks:=s.toks+1 }) (PySem.W.looks_clsIn X hc) ?_))))))
 rw[hd']
 refine aq (a:=some dx) (aa (aq (aa ?_)))
 refine wpAny_nsSet1 (s:={ s with toks:=s.toks+1 }) I.ns fun h' U7 ze=>?_
 obtain⟨oD,esD,epD,hoD,hdD,hcD⟩:=U7.count (PySem.Within.cons name v hw)
 refine aa (wpAny_lookBehind hoD (by rw[hdD];exact pastItsLine_dict (aL hcD (by rw[br];omega))) ?_)
 exact aq (h _ ⟨(ze.2 _ (Ne.symm I.ne)).trans I.obj,U7,I.ne⟩ ze)
theorem Fg{R:Result->Shared->Prop}{vs:List Value}(X:K.In s.heap)(hm:makesIn K C=true)
  (hi:findIn K (.ref C) "__init__"=some (some (.ref f))) (hf:PySem.W.typeIn K (.ref f)=some (.type "function"))
  (h:codeAny (model prog w) (A.under (.builtin "type.__call__" ⟨.ref C::vs,kw⟩)) (.call (.ref f) ⟨.ref (s.heap.objs.size+1)::vs,kw⟩) (PySem.W.InitBack (s.heap.objs.size+1) R)
   { s with heap:=(s.heap.push emptyDict).push (instObj C s.heap.objs.size) }) :
  codeAny (model prog w) A (.call (.ref C) ⟨vs,kw⟩) R s:=by
 obtain⟨hh,g,d,t,os⟩:=s
 exact PySem.W.make_core (PySem.W.makes_of X hm) (PySem.W.looks_findIn X hi) (fun self=>PySem.W.bind_fn X self hf) (.inl rfl) h
end
noncomputable def n_(f:Str)(v:V):List (Str×V)->List (Str×V)
 |[]=>[(f,v)]
 |(g,x)::r=>if g=f then(g,v)::r else(g,x)::n_ f v r
theorem tw(f g:Str)(v:V):∀fs:List (Str×V),(n_ f v fs).lookup g=if g=f then some v else fs.lookup g
 |[]=>by
  show List.lookup g [(f,v)]=_
  by_cases h:g=f
  ·have hb:(g==f)=true:=db.mpr h
   simp only[List.lookup,hb,au h]
  ·have hb:(g==f)=false:=bI.mpr h
   simp only[List.lookup,hb,ax h]
 |(k,x)::r=>by
  have ih:=tw f g v r
  rw[show n_ f v ((k,x)::r)=(if k=f then(k,v)::r else(k,x)::n_ f v r)from rfl]
  by_cases hk:k=f
  ·rw[au hk]
   by_cases h:g=k
   ·have hb:(g==k)=true:=db.mpr h
    simp only[List.lookup,hb,au (h.trans hk)]
   ·have hb:(g==k)=false:=bI.mpr h
    simp only[List.lookup,hb,ax (fun e:g=f=>h (e.trans hk.symm))]
  ·rw[ax hk]
   by_cases h:g=k
   ·have hb:(g==k)=true:=db.mpr h
    simp only[List.lookup,hb,ax (fun e:g=f=>hk (h.symm.trans e))]
   ·have hb:(g==k)=false:=bI.mpr h
    simp only[List.lookup,hb]
    exact ih
theorem sj(f:Str)(v:V):∀fs:List (Str×V),f∈(n_ f v fs).map (·.1)/\∀g,g∈fs.map (·.1)->g∈(n_ f v fs).map (·.1)
 |[]=>⟨by simp[n_],fun g h=>by simp at h⟩
 |(k,x)::r=>by
  obtain⟨i1,i2⟩:=sj f v r
  rw[show n_ f v ((k,x)::r)=(if k=f then(k,v)::r else(k,x)::n_ f v r)from rfl]
  by_cases hk:k=f
  ·rw[au hk]
   subst hk
   exact⟨by simp,fun g h=>by simpa using h⟩
  ·rw[ax hk]
   refine⟨?_,fun g h=>?_⟩
   ·rw[aP]
    exact aA _ i1
   ·rw[aP]at h ⊢
    rcases aH.mp h with e|e
    ·exact aH.mpr (.inl e)
    ·exact aA _ (i2 g e)
theorem tz(f:Str)(v:V):∀fs:List (Str×V),(n_ f v fs).length<=fs.length+1
 |[]=>by simp[n_]
 |(k,x)::r=>by
  have ih:=tz f v r
  rw[show n_ f v ((k,x)::r)=(if k=f then(k,v)::r else(k,x)::n_ f v r)from rfl]
  by_cases hk:k=f
  ·rw[au hk,br,br];omega
  ·rw[ax hk,br,br];omega
theorem nZ.some_of{v:V}{o:Option Value}(r:nZ (some v) o):∃u,o=some u/\cD v u:=by
 cases o with
 |none=>exact(show False from r).elim
 |some u=>exact⟨u,rfl,r⟩
theorem nZ.none_of{o:Option Value}(r:nZ none o):o=none:=by
 cases o with
 |none=>rfl
 |some u=>exact(show False from r).elim
theorem D_{v:V}(r:cD v u):PySem.W.handedIn u=true:=by
 cases v with
 |non=>cases(show u=Value.none from r);rfl
 |bl b=>cases(show u=Value.bool b from r);rfl
 |int i=>obtain⟨t,e⟩:=(show ∃t,u=Value.int i t from r);cases e;rfl
 |str x=>obtain⟨t,e⟩:=(show ∃t,u=Value.str x t from r);cases e;rfl
 |byt b=>obtain⟨t,e⟩:=(show ∃t,u=Value.bytes b t from r);cases e;rfl
 |flt b=>obtain⟨t,e⟩:=(show ∃t,u=Value.float b t from r);cases e;rfl
 |ref a=>cases(show u=Value.ref a from r);rfl
 |ty n=>cases(show u=Value.type n from r);rfl
section
variable{w:World}{H H':Hp}{dx:Addr}{fs UE:List (Str×V)}
theorem uE(hok:p5 P w H h)(e:H a=some (.ins C dx fs)):∃mA,Bi h a dx C mA/\(∀f,nZ (fs.lookup f) (mA f))/\PySem.Within mA (fs.map (·.1))/\fs.length<=1000/\H dx=some (.own a):=by
 obtain⟨d,z,ne,ob,mA,n,r,q⟩:=(show fH P w H h a (.ins C dx fs)from hok a _ e)
 exact⟨mA,⟨ob,n,ne⟩,r,q,z,d⟩
end
structure Cls(K:Frag)(C:Addr):Prop where
 pg:plainGet K C Str.empty=true
 hd:PySem.W.hasDictIn K C=true
 po:PySem.W.plainOver K C=true
 sa:findIn K (.ref C) "__setattr__"=some (some (.builtin "object.__setattr__"))
theorem Cls.get(c:Cls K C)(f:Str):plainGet K C f=true:=c.pg
def p6(K:Frag)(C:Addr)(f:Str):Prop:=findIn K (.ref C) f=some none
theorem p6.taker{f:Str}(n:p6 K C f):PySem.W.takerIn K C f=some none:=by
 unfold PySem.W.takerIn
 rw[show findIn K (.ref C) f=some none from n]
 rfl
structure RN(K:Frag)(C:Addr)(m:Str)(f:Addr):Prop where
 at_:findIn K (.ref C) m=some (some (.ref f))
 fn:isFn K (.ref f)=true
 kp:keepIn K (.ref f)=true
section
variable{X:Cx}{σ:St}{H:Hp}{dx:Addr}{fs:List (Str×V)}{f:Str}{v:V}
theorem Bj{b:Bool}(I:bA X ag σ H s)(e:H a=some (.ins C dx fs))(c:Cls X.K C)(n:p6 X.K C f)(l:fs.lookup f=some v)
  (h:∀u s',bA X ag σ H s'->cD v u->Q u s'):wpAny (model X.prog X.w) A (getAttr (.ref a) f b) Q E s:=by
 obtain⟨mA,O,r,_,_,_⟩:=uE I.hok e
 obtain⟨u,hu,ru⟩:=nZ.some_of (v:=v) (o:=mA f) (by rw[<- l];exact r f)
 exact J3 I.kIn O (c.get f) c.hd n hu (D_ ru) (h u _ (I.tok _) ru)
theorem uU{m:Str}{g:Addr}{Q:Value×List Value->Shared->Prop}(I:bA X ag σ H s)(e:H a=some (.ins C dx fs))(c:Cls X.K C)(k:RN X.K C m g)(l:fs.lookup m=none)
  (h:Q (.ref g,[.ref a]) s):wpAny (model X.prog X.w) A (getMethod (.ref a) m pl) Q E s:=by
 obtain⟨mA,O,r,_,_,_⟩:=uE I.hok e
 have hn:mA m=none:=nZ.none_of (by rw[<- l];exact r m)
 exact Ff I.kIn O (c.get m) k.at_ k.fn hn h
theorem Bk{y:V}{Q:Unit->Shared->Prop}(I:bA X ag σ H s)(e:H a=some (.ins C dx fs))(c:Cls X.K C)(n:p6 X.K C f)(hl:fs.length<1000)(ry:cD y u)
  (h:∀s',bA X ag σ (ei H a (.ins C dx (n_ f y fs))) s'->Q () s'):wpAny (model X.prog X.w) A (setAttr (.ref a) f u) Q E s:=by
 obtain⟨mA,O,r,wi,_,ho⟩:=uE I.hok e
 have hz:(fs.map (·.1)).length<=sizeLine:=by rw[al,j0];omega
 refine J4 I.kIn O c.sa c.po n.taker c.hd wi hz fun h' O' sb=>h _ ?_
 have hd:∃o,h'.get? dx=some o:=let ⟨o,_,_,e',_⟩:=O'.ns;⟨o,e'⟩
 refine I.write (x:=a) (e:=dx) (by rw[e];exact True.intro) (.inr ho) (fun b q hb z=>(sb.2 b hb).trans z) hd ?_
 refine⟨by rw[cv O.ne];exact ho,?_,O.ne,O'.obj,_,O'.ns,fun g=>?_,fun g hg=>?_⟩
 ·have:=tz f y fs;omega
 ·show nZ ((n_ f y fs).lookup g) (if g=f then some u else mA g)
  rw[tw]
  by_cases q:g=f
  ·rw[au q,au q];exact ry
  ·rw[ax q,ax q];exact r g
 ·by_cases q:g=f
  ·rw[q];exact(sj f y fs).1
  ·refine(sj f y fs).2 g (wi g fun z=>hg ?_)
   show(if g=f then some u else mA g)=none
   rw[ax q];exact z
theorem bA.made(I:bA X ag σ H s):bA X ag σ (ei (ei H s.heap.objs.size (.own (s.heap.objs.size+1))) (s.heap.objs.size+1) (.ins C s.heap.objs.size []))
  { s with heap:=(s.heap.push emptyDict).push (instObj C s.heap.objs.size) }:=by
 have e1:(s.heap.push emptyDict).get? s.heap.objs.size=some emptyDict:=ar s.heap rfl
 have e2:((s.heap.push emptyDict).push (instObj C s.heap.objs.size)).get? (s.heap.objs.size+1)=some (instObj C s.heap.objs.size):=by
  have:=ar (s.heap.push emptyDict) (o:=instObj C s.heap.objs.size) rfl
  rwa[bt]at this
 have e3:(s.heap.push emptyDict).Ns s.heap.objs.size (fun _=>none):=⟨emptyDict,#[],_,e1,rfl,(fun e he=>absurd he (by simp)),fun _=>rfl⟩
 have I1:=I.laid (a:=s.heap.objs.size) (o:=.own (s.heap.objs.size+1)) (h':=s.heap.push emptyDict) (t':=s.toks) (fun b u q=>ai _ q) (aw _) ⟨_,e1⟩
 refine I1.laid (a:=s.heap.objs.size+1) (o:=.ins C s.heap.objs.size []) (t':=s.toks) (fun b u q=>ai _ q) (Nat.le_of_eq (bt _ _)) ?_
 have ne:s.heap.objs.size≠s.heap.objs.size+1:=aX (cJ _)
 refine⟨by rw[cv ne,eN],cL _,ne,e2,fun _=>none,(Heap.Ns1.of_empty e3).at fun o q=>ai _ q,fun _=>True.intro,fun y hy=>absurd rfl hy⟩
theorem J5{w:World}(hb:attributeBase e f env (eval e env)=eval e env)
  (h:wpAny (model prog w) A (eval e env) (fun o s₁=>wpAny (model prog w) A (getAttr o f true) Q E s₁) E s):wpAny (model prog w) A (eval (.Attribute e f pos) env) Q E s:=
 Attribute_any_ h (by rw[arm_eval_Attribute,hb])
end
def Vt(K:Frag)(ta:TE)(f:Str):TE:=fun σ H Q=>ta σ H fun x H1=>∃a C dx fs v,x=.ref a/\H1 a=some (.ins C dx fs)/\Cls K C/\p6 K C f/\fs.lookup f=some v/\Q v H1
def Vu(K:Frag)(ta tv:TE)(f:Str):TS:=fun D σ H=>tv σ H fun y H1=>ta σ H1 fun x H2=>∃a C dx fs,x=.ref a/\H2 a=some (.ins C dx fs)/\Cls K C/\p6 K C f/\fs.length<1000 /\
 D.nx σ (ei H2 a (.ins C dx (n_ f y fs)))
section
variable{X:Cx}{value:Expr}{f:Str}{Wb:Pos}{ta tv:TE}
theorem Oo(he:PE X e ta)(hb:attributeBase e f X.env (eval e X.env)=eval e X.env):PE X (.Attribute e f pos) (Vt X.K ta f):=by
 intro ag s σ H Q I h
 refine J5 hb (gg (he ag s σ H _ I h) fun u s1 zq=>?_)
 obtain⟨x,H1,I1,rx,a,C,dx,fs,v,ex,ea,c,n,l,q⟩:=zq
 subst ex
 obtain rfl:u=Value.ref a:=rx
 exact Bj I1 ea c n l fun u' s2 I2 ru=>⟨v,H1,I2,ru,q⟩
theorem Op(ha:PE X o ta)(hv:PE X value tv)(hs:swapsWith value (some (.Attribute o f h_)) pos.line X.env=pure false):PS X (.Assign [.Attribute o f h_] value pos) (Vu X.K ta tv f):=by
 intro ag s σ H D I h
 refine plainObj_wpAny_Assign_Attribute (gg (hv ag s σ H _ I h) fun u s1 ⟨y,H1,I1,ry,q⟩=>gg (ha ag s1 σ H1 _ I1 q) fun ov s2 ⟨x,H2,I2,rx,a,C,dx,fs,ex,ea,c,n,l,q2⟩=>?_) hs
 subst ex
 obtain rfl:ov=Value.ref a:=rx
 exact Bk I2 ea c n l ry fun s3 I3=>⟨σ,_,I3,q2⟩
end
section
variable{X:Cx}{σ:St}{H:Hp}{c:Value}{b:Bool}
inductive t6(K:Frag)(H:Hp):V->Value->Prop where
 |non:t6 K H .non (.type "NoneType")
 |bl (x:Bool):t6 K H (.bl x) (.type "bool")
 |int (i:Int):t6 K H (.int i) (.type "int")
 |str (x:Str):t6 K H (.str x) (.type "str")
 |flt (x:UInt64):t6 K H (.flt x) (.type "float")
 |lst {a:Addr} {xs:List V} (e:H a=some (.lst xs)):t6 K H (.ref a) (.type "list")
 |frz {a:Addr} {o:Obj} {xs:List V} (e:H a=some (.frz o (.lst xs))):t6 K H (.ref a) (.type "list")
 |tup {a:Addr} {xs:List V} (e:H a=some (.tup xs)):t6 K H (.ref a) (.type "tuple")
 |dK {a:Addr} {kvs:List (jv×V)} (e:H a=some (.dK kvs)):t6 K H (.ref a) (.type "dict")
 |dT {a:Addr} {kvs:List (List jv×V)} (e:H a=some (.dT kvs)):t6 K H (.ref a) (.type "dict")
 |ins {a C dx:Addr} {fs:List (Str×V)} (e:H a=some (.ins C dx fs)) (cl:Cls K C) (ha:findIn K (.ref C) "__class__"=some (some (.builtin "object.__class__")))
   (hn:PySem.W.specialIn K (.builtin "object.__class__") "__get__"=some (some (.builtin "getset_descriptor.__get__"))) (WH:PySem.W.takesIn K (.builtin "object.__class__")=some true)
   (hm:PySem.W.mroIn K C (.type "object")=some true):t6 K H (.ref a) (.ref C)
theorem o_{x:V}{t:Value}(I:bA X ag σ H s)(rx:cD x u)(ty:t6 X.K H x t)(e:PySem.W.kitOne X.K t c=some b)(h:∀tk,Q (.bool b) { s with toks:=tk }) :
  wpAny (model X.prog X.w) A (call (.builtin "isinstance") [u,c]) Q E s:=by
 cases ty with
 |non=>cases(show u=Value.none from rx);exact kia_one PySem.W.kitx_none I.kIn True.intro e (fun z=>nomatch z) h
 |bl y=>cases(show u=Value.bool y from rx);exact kia_one PySem.W.kitx_bool I.kIn True.intro e (fun z=>nomatch z) h
 |int i=>obtain⟨t,q⟩:=(show ∃t,u=Value.int i t from rx);cases q;exact kia_one PySem.W.kitx_int I.kIn True.intro e (fun z=>nomatch z) h
 |str y=>obtain⟨t,q⟩:=(show ∃t,u=Value.str y t from rx);cases q;exact kia_one PySem.W.kitx_str I.kIn True.intro e (fun z=>nomatch z) h
 |flt y=>obtain⟨t,q⟩:=(show ∃t,u=Value.float y t from rx);cases q;exact kia_one PySem.W.kitx_float I.kIn True.intro e (fun z=>nomatch z) h
 |@lst a xs ea=>
  cases(show u=Value.ref a from rx)
  obtain⟨_,_,n,_,h1⟩:=(show fH X.prog X.w H s.heap a (.lst xs)from I.hok a _ ea)
  exact kia_one PySem.W.kitx_list I.kIn ⟨_,h1,rfl⟩ e (fun z=>nomatch z) h
 |@frz a ob xs ea=>
  cases(show u=Value.ref a from rx)
  obtain⟨_,_,_,n,_,h1⟩:=(show fH X.prog X.w H s.heap a (.frz ob (.lst xs))from I.hok a _ ea)
  exact kia_one PySem.W.kitx_list I.kIn ⟨_,h1,rfl⟩ e (fun z=>nomatch z) h
 |@tup a xs ea=>
  cases(show u=Value.ref a from rx)
  obtain⟨_,_,_,p⟩:=(show fH X.prog X.w H s.heap a (.tup xs)from I.hok a _ ea)
  obtain⟨o,h1,h2,_⟩:=p
  exact kia_one PySem.W.kitx_tuple I.kIn ⟨o,h1,h2⟩ e (fun z=>nomatch z) h
 |@dK a kvs ea=>
  cases(show u=Value.ref a from rx)
  obtain⟨_,_,vs,_,p⟩:=(show fH X.prog X.w H s.heap a (.dK kvs)from I.hok a _ ea)
  obtain⟨o,es,ep,h1,h2,_⟩:=p
  exact kia_one PySem.W.kitx_dict I.kIn ⟨o,h1,h2.1⟩ e (fun z=>nomatch z) h
 |@dT a kvs ea=>
  cases(show u=Value.ref a from rx)
  obtain⟨_,_,xs,_,o,es,ep,h1,h2,_⟩:=(show fH X.prog X.w H s.heap a (.dT kvs)from I.hok a _ ea)
  exact kia_one PySem.W.kitx_dict I.kIn ⟨o,h1,h2.1⟩ e (fun z=>nomatch z) h
 |@ins a C dx fs ea cl ha hn WH hm=>
  cases(show u=Value.ref a from rx)
  obtain⟨mA,O,_⟩:=uE I.hok ea
  obtain⟨od,J,_⟩:=O.look
  exact kia_one (PySem.W.kitx_own (cl.get _) cl.hd ha hn WH hm) I.kIn J e (fun z=>nomatch z) h
end
structure g_(k:Nat)(A:Around):Prop where
 hd:A.handled=none
 dp:A.depth+2*k+5<recursionLimit
 un:A.units+16*k+200<cLine
theorem g_.mono{k:Nat}(r:g_ k A)(h:j<=k):g_ j A:=⟨r.hd,by have:=r.dp;omega,by have:=r.un;omega⟩
theorem g_.deeper{k:Nat}(r:g_ (k+1) A)(env:Env):g_ k (A.deeper env):=
 ⟨r.hd,by have:=r.dp;show A.depth+1+2*k+5<_;omega,by have:=r.un;show A.units+3+16*k+200<_;omega⟩
theorem Bm:(A.under (.builtin "type.__call__" ⟨.ref C::us,kw⟩)).depth=A.depth+1:=by
 first|rfl|simp[Around.under,Code.weight,Code.isCreation,Code.isGuard,Code.isCaller,Code.frames,Code.isFrame,guardIds]
theorem Bn:(A.under (.builtin "type.__call__" ⟨.ref C::us,kw⟩)).units=A.units+1:=by
 first|rfl|simp[Around.under,Code.cUnits,Code.frames,Code.isFrame]
theorem g_.make{k:Nat}(r:g_ (k+1) A)(C:Addr)(us:List Value)(kw:List (Str×Value)):g_ k (A.under (.builtin "type.__call__" ⟨.ref C::us,kw⟩)):=
 ⟨r.hd,by have:=r.dp;rw[Bm];omega,by have:=r.un;rw[Bn];omega⟩
theorem g_.depth{k:Nat}(r:g_ k A):A.depth<recursionLimit:=by have:=r.dp;omega
theorem g_.units{k:Nat}(r:g_ k A):A.units+64<cLine:=by have:=r.un;omega
def Vv:TA:=fun _ H Q=>Q [] H
def RO(ta:TE)(tr:TA):TA:=fun σ H Q=>ta σ H fun x H1=>tr σ H1 fun xs H2=>Q (x::xs) H2
section
variable{X:Cx}{te:TE}{t:TA}
theorem Fh:PA X [] Vv:=fun _ _ _ _ H Q I h=>gT ⟨[],H,I,.nil,h⟩
theorem xU(ha:PE X e te)(hr:PA X es t)(hs:starEach (e::es) X.env=(false,eval e X.env)::starEach es X.env:=by rfl):PA X (e::es) (RO te t):=by
 intro pos ag s σ H Q I h
 rw[hs]
 show wpAny _ _ (spliced ((false,eval e X.env)::backTo pos (starEach es X.env))) _ _ s
 refine fq (gg (ha ag s σ H _ I h) fun u s1 zq=>?_)
 obtain⟨x,H1,I1,r1,q1⟩:=zq
 exact gg (hr pos ag s1 σ H1 _ I1 q1) fun us s2 ⟨xs,H2,I2,r2,q2⟩=>⟨x::xs,H2,I2,.cons r1 r2,q2⟩
end
abbrev Sp:=List V->Hp->VK->XK->Prop
abbrev Ea:=List Env->Hp->Shared->XK->Value->Shared->Prop
structure Bo(P:Program)(w:World)(K:Frag)(mg:Str->Option Value)(base:Heap)(A:Around)(outer:List Env)(s:Shared)(H:Hp):Prop where
 frames:A.frames=some outer
 mod:Mod K mg base
 bs:∀b o,base.get? b=some o->s.heap.get? b=some o/\H b=none
 bsz:base.objs.size<=s.heap.objs.size
 funs:s.heap.FunFrames base outer
 frf:∀b∈uC outer,H b=none
 hok:p5 P w H s.heap
 bare:AllBare s.gens
def CE(outer:List Env)(P:Program)(w:World)(H:Hp)(s:Shared)(Q:VK)(u:Value)(s':Shared):Prop:=
 ∃v H',s'.os=s.os/\AllBare s'.gens/\Un (uC outer) [] H H' s.heap s'.heap/\p5 P w H' s'.heap/\cD v u/\Q v H'
def CR(CX:Ea)(outer:List Env)(P:Program)(w:World)(H:Hp)(s:Shared)(Q:VK)(E:XK)(r:Result)(s':Shared):Prop:=
 match r with
 |.ok (.ret u)=>CE outer P w H s Q u s'
 |.ok _=>False
 |.error e=>CX outer H s E e s'
structure cX(P:Program)(w:World)(K:Frag)(mg:Str->Option Value)(base:Heap)(CX:Ea)(k:Nat)(f:Addr)(fd:FuncData)(ps:List Str)(sp:Sp):Prop where
 len:∀vs H Q E,sp vs H Q E->vs.length=ps.length
 run:∀(A:Around) (outer:List Env) (s:Shared) (H:Hp) (args:Args) (us:List Value) (vs:List V) (Q:VK) (E:XK),g_ k A->Bo P w K mg base A outer s H->BindsTo s fd args (ps.zip us)->cu vs us->sp vs H Q E ->
  codeAny (model P w) A (.call (.ref f) args) (CR CX outer P w H s Q E) s
theorem cX.mono{w:World}{CX:Ea}{k:Nat}{f:Addr}{sp:Sp}(F:cX P w K mg base CX j f fd ps sp)(h:j<=k) :
  cX P w K mg base CX k f fd ps sp:=⟨F.len,fun A outer s H args us vs Q E hr=>F.run A outer s H args us vs Q E (hr.mono h)⟩
theorem cX.imp{w:World}{CX:Ea}{k:Nat}{f:Addr}{sp WI:Sp}(F:cX P w K mg base CX k f fd ps sp)
  (h:∀vs H Q E,WI vs H Q E->sp vs H Q E):cX P w K mg base CX k f fd ps WI:=
 ⟨fun vs H Q E q=>F.len vs H Q E (h _ _ _ _ q),fun A outer s H args us vs Q E hr he hb hv hs=>F.run A outer s H args us vs Q E hr he hb hv (h _ _ _ _ hs)⟩
theorem Bo.make{w:World}{outer:List Env}{H:Hp}(e:Bo P w K mg base A outer s H)(C:Addr)(us:List Value)(kw:List (Str×Value)) :
  Bo P w K mg base (A.under (.builtin "type.__call__" ⟨.ref C::us,kw⟩)) outer s H:=⟨by first|exact e.frames|(simpa[Around.under,Code.envs,Code.isFrame,pushEnvs]using e.frames),e.mod,e.bs,e.bsz,e.funs,e.frf,e.hok,e.bare⟩
section
variable{X:Cx}{σ:St}{H:Hp}{s':Shared}
theorem bA.env0(I:bA X ag σ H s):Bo X.prog X.w X.K X.mg X.base X.A X.stack s H:=
 ⟨I.ok.frames,I.ok.mod,I.bs,aL I.ok.bsz I.sz,I.stack,I.stkFree,I.hok,I.bare⟩
theorem bA.after{Q:VK}(I:bA X ag σ H s)(h:CE X.stack X.prog X.w H s Q u s'):EP X ag σ Q u s':=by
 obtain⟨v,H',os,bare,un,hok,r,q⟩:=h
 obtain⟨hh,g,d,t,os'⟩:=s'
 obtain rfl:os'=s.os:=os
 exact⟨v,H',I.call (h':=hh) (g':=g) (d':=d) (t':=t) (ch:=[]) un hok bare (fun b z=>absurd z (by simp)),r,q⟩
end
def pE(K:Frag)(fd:FuncData)(ps:List Str)(ds:List Value):Prop:=
 ∀(s:Shared) (us:List Value),K.In s.heap->(us++ds).length=ps.length->BindsTo s fd ⟨us,[]⟩ (ps.zip (us++ds))
theorem pE.all(h:∀us:List Value,us.length=ps.length->bindArgs fd ⟨us,[]⟩=pure (ps.zip us)):pE K fd ps []:=fun s us _ hl=>by
 rw[ce]at hl ⊢
 exact .of_eq (h us hl)
def Oq(CX:Ea)(X:Cx)(E:XK):Prop:=∀(ag:List (Addr×Obj)) (σ:St) (H:Hp) (s:Shared) (e:Value) (s':Shared),bA X ag σ H s->CX X.stack H s E e s'->X.xe e s'
section
variable{X:Cx}{CX:Ea}{k:Nat}{f:Addr}{sp:Sp}{dvs:List V}{ds:List Value}{E:XK}{x m:Str}{ta:TE}{t:TA}
structure Mk(K:Frag)(C f:Addr):Prop where
 makes:makesIn K C=true
 init:findIn K (.ref C) "__init__"=some (some (.ref f))
 fn:isFn K (.ref f)=true
 kp:keepIn K (.ref C)=true
theorem Fi{σ:St}{H:Hp}{Q:VK}{vs:List V}(M:Mk X.K C f)(F:cX X.prog X.w X.K X.mg X.base CX k f fd ps sp)(hr:g_ (k+1) X.A)(hb:pE X.K fd ps ds)(hd:cu dvs ds)
  (hx:Oq CX X E) (I:bA X ag σ H s) (r:cu vs us)
  (h:∀x dx,H x=none->H dx=none->dx≠x->sp (.ref x::(vs++dvs)) (ei (ei H dx (.own x)) x (.ins C dx [])) (fun v H2=>v=.non/\Q (.ref x) H2) E) :
  wpAny (model X.prog X.w) X.A (call (.ref C) us) (EP X ag σ Q) X.xe s:=by
 have hq:=h (s.heap.objs.size+1) s.heap.objs.size (I.hok.fresh (dJ _)) (I.hok.fresh (aw _)) (aX (cJ _))
 have I2:=bA.made (C:=C) I
 have r2:cu (V.ref (s.heap.objs.size+1)::(vs++dvs)) (Value.ref (s.heap.objs.size+1)::(us++ds)):=.cons rfl (r.append hd)
 have hl:(Value.ref (s.heap.objs.size+1)::us++ds).length=ps.length:=by
  have e:=r2.length
  rw[F.len _ _ _ _ hq]at e
  exact e.symm
 refine qr (Fg (f:=f) I.kIn M.makes M.init (db.mp M.fn) (ic (F.run _ X.stack _ _ ⟨Value.ref (s.heap.objs.size+1)::us,[]⟩ (Value.ref (s.heap.objs.size+1)::(us++ds)) _ _ E (hr.make C us [])
  (I2.env0.make C us []) (hb _ (Value.ref (s.heap.objs.size+1)::us) I2.kIn hl) r2 hq) fun r s' hq'=>?_))
 cases r with
 |error e=>exact hx ag σ _ _ e s' I2 hq'
 |ok fl=>
  cases fl with
  |ret u=>
   obtain⟨v,H',I3,rv,ev,q3⟩:=I2.after hq'
   subst ev
   exact⟨rv,⟨V.ref (s.heap.objs.size+1),H',I3,rfl,q3⟩⟩
  |next=>exact False.elim hq'
  |brk=>exact False.elim hq'
  |cont=>exact False.elim hq'
end
def PK(X:Cx)(WJ:List Keyword)(t:TA):Prop:=
 ∀(pos:Pos) (ag:List (Addr×Obj)) (s:Shared) (σ:St) (H:Hp) (Q:List V->Hp->Prop),bA X ag σ H s->t σ H Q->wpAny (model X.prog X.w) X.A (evalAll ((backToKw pos (keywordEach WJ X.env)).map (·.2))) (AP X ag σ Q) X.xe s
section
variable{X:Cx}{CX:Ea}{k:Nat}{f:Addr}{sp:Sp}{E:XK}{x m:Str}{Wh:Pos}{WJ:List Keyword}{te ta:TE}{t tk:TA}{nm:Option Str}
variable{g:List Value->List Value->List Value}{gV:List V->List V->List V}
end
structure bj(N P:List Str)(sc:Scope):Prop where
 kind:sc.kind=.function
 co:sc.isCoroutine=false
 gen:sc.isGenerator=false
 nd:N.Nodup
 pre:N.take P.length=P
 par:∀x∈P,sc.names.lookup x=some .local\/sc.names.lookup x=some .cell
 nofree:∀y∈sc.names,y.2≠.free
theorem wW{x:Str}:∀{binds:List (Str×Value)} {m:Str->Option Value},(∀v,(x,v)∉binds)->bindL kindOf binds m x=m x
 |[],_,_=>rfl
 |(n,v)::r,m,h=>by
  unfold bindL
  rw[wW fun w hw=>h w (aA _ hw)]
  split
  ·have:x≠n:=by rintro rfl;exact h v aZ
   simp[this]
  ·rfl
theorem wX{x:Str}:∀{binds:List (Str×Value)} {m:Str->Option Value},(∀v,(x,v)∉binds)->bindC kindOf binds m x=m x
 |[],_,_=>rfl
 |(n,v)::r,m,h=>by
  unfold bindC
  rw[wX fun w hw=>h w (aA _ hw)]
  split
  ·rfl
  ·have:x≠n:=by rintro rfl;exact h v aZ
   simp[this]
theorem wY{x:Str}:∀{P:List Str} {vs:List Value} {i:Nat} {m:Str->Option Value},P.Nodup->P[i]?=some x->vs[i]?=some v->kindOf x=some .local ->
  bindL kindOf (P.zip vs) m x=some v
 |[],_,_,_,_,h,_,_=>by simp at h
 |_::_,[],_,_,_,_,h,_=>by simp at h
 |p::P,w::vs,0,m,nd,h1,h2,hk=>by
  simp at h1 h2;subst h1;subst h2
  show bindL kindOf ((p,w)::P.zip vs) m p=_
  unfold bindL
  rw[wW fun v hv=>(fG.mp nd).1 (nS hv).1,au hk]
  simp
 |p::P,w::vs,i+1,m,nd,h1,h2,hk=>by
  show bindL kindOf ((p,w)::P.zip vs) m x=_
  unfold bindL
  exact wY (i:=i) (fG.mp nd).2 (by simpa using h1) (by simpa using h2) hk
theorem wZ{x:Str}:∀{P:List Str} {vs:List Value} {i:Nat} {m:Str->Option Value},P.Nodup->P[i]?=some x->vs[i]?=some v->kindOf x≠some .local ->
  bindC kindOf (P.zip vs) m x=some v
 |[],_,_,_,_,h,_,_=>by simp at h
 |_::_,[],_,_,_,_,h,_=>by simp at h
 |p::P,w::vs,0,m,nd,h1,h2,hk=>by
  simp at h1 h2;subst h1;subst h2
  show bindC kindOf ((p,w)::P.zip vs) m p=_
  unfold bindC
  rw[wX fun v hv=>(fG.mp nd).1 (nS hv).1,ax hk]
  simp
 |p::P,w::vs,i+1,m,nd,h1,h2,hk=>by
  show bindC kindOf ((p,w)::P.zip vs) m x=_
  unfold bindC
  exact wZ (i:=i) (fG.mp nd).2 (by simpa using h1) (by simpa using h2) hk
def tF(N:List Str)(vs:List V):St:=vs.map some++List.replicate (N.length-vs.length) none
def Bp(CX:Ea)(P:Program)(w:World)(K:Frag)(mg:Str->Option Value)(base:Heap)(N:List Str)(f':Str)(scope:Scope)(f:Addr)(cd:Value)(A:Around)(outer:List Env)(s:Shared)(H:Hp)(E:XK):Cx where
 prog:=P
 w:=w
 K:=K
 mg:=mg
 base:=base
 A:=A.deeper (envOfC f' scope s.heap.objs.size f cd)
 N:=N
 s₀:=s
 H₀:=H
 env:=envOfC f' scope s.heap.objs.size f cd
 outer:=outer
 stack:=envOfC f' scope s.heap.objs.size f cd::outer
 ex:=[]
 calm:=true
 fn:=fun _=>true
 pn:=[]
 xe:=fun e s'=>wpAny (model P w) (A.deeper (envOfC f' scope s.heap.objs.size f cd)) (leaving (envOfC f' scope s.heap.objs.size f cd) e) (fun _ s''=>CX outer H s E e s'') (fun e' s''=>CX outer H s E e' s'') s'
theorem mi{sc:Scope}{n:Nat}{x:Str}(h:sc.names.lookup x=some .cell):∃c,(cellsFrom n sc.names []).lookup x=some c:=by
 have q:=PySem.W.cellsFrom_some sc.names n [] (.inl h)
 exact Option.isSome_iff_exists.mp q
theorem Eb{CX:Ea}{w:World}{N:List Str}{f':Str}{f:Addr}{cd:Value}{outer:List Env}{s1:Shared}{H:Hp}{E:XK}{vs:List V}
  (S:bj N ps scope) (hd:A.handled=none) (e0:Bo P w K mg base A outer s H) (hl:vs.length=ps.length) (r:cu vs us)
  (x:InCallC s s.heap.objs.size (bindL (envOfC f' scope s.heap.objs.size f cd).kindOf (ps.zip us) fun _=>none) (cellsFrom (s.heap.objs.size+1) scope.names []) (bindC (envOfC f' scope s.heap.objs.size f cd).kindOf (ps.zip us) fun _=>none) s1) :
  bA (Bp CX P w K mg base N f' scope f cd A outer s H E) [] (tF N vs) H s1:=by
 have qu:ps.length<=N.length:=by have:=gY List.length S.pre;rw[aM]at this;omega
 obtain⟨h1,tk,rfl,hk⟩:=x.done
 have noA:∀b:Addr,b∉(Bp CX P w K mg base N f' scope f cd A outer s H E).ex:=fun b z=>absurd (show b∈([]:List Addr)from z) (by simp)
 refine⟨⟨e0.mod,S.kind,rfl,rfl,aw _,fun y z c h1 h2=>?_,fun y hy=>?_,fun y c _ h=>?_,fun _=>hd,Around.frames_deeper e0.frames,.inr ⟨rfl,rfl⟩,fun b z=>absurd z (noA b),e0.bs,e0.bsz,fun b _ _=>noA b,fun b z=>absurd z (noA b),e0.funs,e0.frf⟩,
  rfl,e0.bare,Un.kept hk,⟨_,x.toInCall.ns,fun i y v h1 h2 h3=>?_⟩,fun y c h=>⟨_,x.cell y c h⟩,e0.hok.fresh (aw _),fun y c h=>?_,fun p hp=>absurd (show p∈([]:List (Addr×Obj))from hp) (by simp),e0.hok.kept hk,?_⟩
 ·exact name_of_addr x.apart (PySem.mem_of_lookup h1) (PySem.mem_of_lookup h2)
 ·have hy:scope.names.lookup y=some .cell\/scope.names.lookup y=some .free:=hy
  rcases hy with hy|hy
  ·exact mi hy
  ·exact absurd rfl (S.nofree _ (PySem.mem_of_lookup hy))
 ·exact gj (x.above y c (PySem.mem_of_lookup h))
 ·have hi:i<vs.length:=by
   unfold tF at h2
   by_cases hi:i<vs.length
   ·exact hi
   ·rw[dE (by simpa using hi)]at h2
    rw[iW]at h2
    split at h2<;>cases h2
  have ha:vs[i]?=some v:=by
   unfold tF at h2
   rw[aK (by simpa using hi),aj]at h2
   cases e:vs[i]? with
   |none=>rw[e]at h2;cases h2
   |some a=>rw[e]at h2;cases h2;rfl
  obtain⟨u,hu,rv⟩:=r.get ha
  have hp:ps[i]?=some y:=by
   rw[<- S.pre,dh (by omega)];exact h1
  have ndP:ps.Nodup:=by rw[<- S.pre];exact S.nd.sublist (List.take_sublist _ _)
  refine⟨u,rv,?_⟩
  rcases S.par y (ay hp)with k|k
  ·exact .inl ⟨k,wY ndP hp hu k⟩
  ·obtain⟨c,e⟩:=mi (n:=s.heap.objs.size+1) k
   refine .inr ⟨.inl k,c,e,?_⟩
   have q:=x.cell y c e
   rw[wZ ndP hp hu (by show scope.names.lookup y≠_;rw[k];decide)]at q
   exact q
 ·exact e0.hok.fresh (gj (x.above y c (PySem.mem_of_lookup h)))
 ·unfold tF
  show _=N.length
  rw[aE,al,gG]
  omega
theorem RP{CX:Ea}{w:World}{k:Nat}{f:Addr}{f':Str}{params:Arguments}{dV kV se pm fO ct oc:Value}{an od:Option Addr}
  {NB:Array (Option Value)} {N ps:List Str} {sp:Sp} (lk:K.lookup f=some ⟨oc,od,.func (fnOf name f' params body scope dV kV se pm an fO ct),NB⟩) (E2:codeIn K fO f'=true) (S:bj N ps scope)
  (len:∀vs H Q E,sp vs H Q E->vs.length=ps.length)
  (AZ:∀(A:Around) (outer:List Env) (s:Shared) (H:Hp) (vs:List V) (Q:VK) (E:XK),g_ k (A.deeper (envOfC f' scope s.heap.objs.size f fO))->sp vs H Q E ->
   ∃t,D3 (Bp CX P w K mg base N f' scope f fO A outer s H E) body t/\t { nx:=fun _ H'=>Q .non H',rt:=Q } (tF N vs) H) :
  cX P w K mg base CX (k+1) f (fnOf name f' params body scope dV kV se pm an fO ct) ps sp:=by
 refine⟨len,fun A outer s H args us vs Q E hr e0 hb r NL=>?_⟩
 have hl:=len _ _ _ _ NL
 have KX:K.In s.heap:=e0.mod.kin.keeps fun b o e=>(e0.bs b o e).1
 have lim:s.heap.NoLimit:=e0.mod.nolimit.keeps fun b o e=>(e0.bs b o e).1
 have ij:∀y∈ps.zip us,scope.names.lookup y.1=some .local\/(scope.names.lookup y.1=some .cell/\((cellsFrom (s.heap.objs.size+1) scope.names []).lookup y.1).isSome=true):=fun zq hy=>by
  obtain⟨n,v⟩:=zq
  rcases S.par n (nS hy).1 with q|q
  ·exact .inl q
  ·exact .inr ⟨q,PySem.W.cellsFrom_some _ _ _ (.inl q)⟩
 refine codeAny_call_function hr.depth (KX _ _ lk) rfl S.co S.gen rfl (PySem.W.codeRec_of KX E2) (hb _ _ _ _ ?_)
 refine wpAny_newFunctionEnv_cells S.kind ij fun env he s1 x=>?_
 subst he
 refine⟨lim.keeps x.toInCall.keep,codeAny_func ?_⟩
 obtain⟨t,ht,hq⟩:=AZ A outer s H vs Q E (hr.deeper _) NL
 have I:bA (Bp CX P w K mg base N f' scope f fO A outer s H E) [] (tF N vs) H s1:=Eb S hr.hd e0 hl r x
 refine eJ (ht [] s1 (tF N vs) H _ I hq) (fun fl s' hs=>?_) fun e s' hs=>hs
 have fin:∀{σ':St} {H':Hp} {v:V} {u:Value},bA (Bp CX P w K mg base N f' scope f fO A outer s H E) [] σ' H' s'->cD v u->Q v H'->CE outer P w H s Q u s':=
  fun{σ' H' v u} J rv q=>⟨v,H',J.os,J.bare,J.base,J.hok,rv,q⟩
 cases fl with
 |ret u=>
  obtain⟨v,σ',H',J,rv,q⟩:=hs
  exact fin J rv q
 |next=>
  obtain⟨σ',H',J,q⟩:=hs
  exact fin (v:=V.non) (u:=Value.none) J rfl q
 |brk=>
  obtain⟨_,_,_,q⟩:=hs
  exact False.elim q
 |cont=>
  obtain⟨_,_,_,q⟩:=hs
  exact False.elim q
section
variable{X:Cx}{x:Str}{t:TA}{id T:String}{r:List V->Hp->VK->Prop}
def Vw(r:List V->Hp->VK->Prop)(t:TA):TE:=fun σ H Q=>t σ H fun vs H1=>r vs H1 Q
theorem zn(hc:jx X (.builtin id) r)(hg:Gl X x)(hm:X.mg x=none)(hv:bootBuiltins x=some (.builtin id))(ha:PA X (e::es) t)(hn:x ≠ "__name__":=by decide)(Jt:(x==("__debug__":Str))=false:=by decide)
  (he:starEach (e::es) X.env=(false,eval e X.env)::starEach es X.env:=by rfl) (qu:(backTo pos (starEach es X.env)).any (·.1)=false:=by rfl):PE X (.Call (.Name x p) (e::es) [] pos) (Vw r t):=by
 intro ag s σ H Q I h
 refine fw (kP I hg hm hv ?_ hn Jt)
 exact jI (gg (ha pos ag s σ H _ I h) fun us s1 ⟨vs,H1,I1,r1,q1⟩=>hc ag s1 σ H1 vs us Q I1 r1 q1) he qu
theorem Ec(hc:jx X (.type T) r)(hg:Gl X x)(hm:X.mg x=none)(hv:bootBuiltins x=some (.type T))(ha:PA X (e::es) t)(hn:x ≠ "__name__":=by decide)(Jt:(x==("__debug__":Str))=false:=by decide)
  (he:starEach (e::es) X.env=(false,eval e X.env)::starEach es X.env:=by rfl) (qu:(backTo pos (starEach es X.env)).any (·.1)=false:=by rfl):PE X (.Call (.Name x p) (e::es) [] pos) (Vw r t):=by
 intro ag s σ H Q I h
 refine fw (kP I hg hm hv ?_ hn Jt)
 exact bR (gg (ha pos ag s σ H _ I h) fun us s1 ⟨vs,H1,I1,r1,q1⟩=>hc ag s1 σ H1 vs us Q I1 r1 q1) he qu
end
end L2
variable{xs:List (List L2.jv×PySem.Addr×PySem.Value)}{H H':L2.Hp}{X:L2.Cx}{σ:L2.St}{y:L2.V}{te:L2.TE}{vs:List L2.V}{kvs:List (L2.jv×L2.V)}
namespace HT
open PySem PyProof.Rows
section
open PySem.SeqAt
open PySem.AutoSeq1 (wpAny_loadPart')
open PySem.MeetsSeq PySem.MeetsSeq2 PySem.MeetsSeq3
end
section
variable{w:World}
theorem cat_tup{t:Addr}{vs ws:List Value}(ht:IsTup s.heap t vs.toArray)(hb:IsTup s.heap b ws.toArray)(hv:vs≠[])
  (h1:ws=[]->Q (.ref t) s) (h2:ws≠[]->Q (.ref s.heap.objs.size) { s with heap:=s.heap.push { cls:=.type "tuple",data:=.seq (vs++ws).toArray } })
  (hsz:vs.length+ws.length<=sizeLine):wpAny (model prog w) A (binaryOp .Add (.ref t) (.ref b)) Q E s:=by
 obtain⟨⟨cls,dd,data,sl⟩,ho,hc,n,hd⟩:=id ht
 obtain⟨⟨cls2,dd2,data2,sl2⟩,ho2,hc2,n2,hd2⟩:=id hb
 simp only at hc hd hc2 hd2
 subst hc hd hc2 hd2
 have e:vs.toArray++ws.toArray=(vs++ws).toArray:=by simp
 by_cases hw:ws=[]
 ·exact rT ⟨_,ho,rfl⟩ ⟨_,ho2,rfl⟩ mE pW PySem.F.slot_tuple_add PySem.F.entry_tuple_add (PySem.F.args_tuple_add_2 _ _)
   (tuple_addW1 t b vs.toArray ws.toArray n n2 dd dd2 sl sl2 (by simpa using hv) (by simp[hw])) ⟨ho,ho2,h1 hw⟩
 ·refine rT ⟨_,ho,rfl⟩ ⟨_,ho2,rfl⟩ mE pW PySem.F.slot_tuple_add PySem.F.entry_tuple_add (PySem.F.args_tuple_add_2 _ _)
   (tuple_addW2 t b vs.toArray ws.toArray n n2 dd dd2 sl sl2 (by simpa using hv) (by simpa using hw) (by rw[aN,aN];exact hsz)) ⟨ho,ho2,?_⟩
  rw[e]
  exact h2 hw
noncomputable def sIx(n d:Nat):Option Int->Nat
 |none=>d
 |some v=>if v<0 then(v+(n:Int)).toNat else min v.toNat n
theorem sIx_none(n d:Nat):sIx n d none=d:=rfl
theorem sIx_nat(n d k:Nat):sIx n d (some (k:Int))=min k n:=by
 show(if (k:Int)<0 then((k:Int)+(n:Int)).toNat else min (k:Int).toNat n)=min k n
 rw[ax (by omega),aO]
theorem sIx_le(n d:Nat)(hd:d<=n)(o:Option Int):sIx n d o<=n:=by
 cases o with
 |none=>exact hd
 |some v=>
  show(if v<0 then(v+(n:Int)).toNat else min v.toNat n)<=n
  by_cases hv:v<0
  ·rw[au hv];omega
  ·rw[ax hv];exact Nat.min_le_right _ _
theorem CH(v:Int)(n d:Nat):(if v<0 then max (v+(n:Int)) 0 else min v (n:Int))=((sIx n d (some v):Nat):Int):=by
 show(if v<0 then max (v+(n:Int)) 0 else min v (n:Int))=(((if v<0 then(v+(n:Int)).toNat else min v.toNat n):Nat):Int)
 by_cases hv:v<0
 ·simp only[au hv];omega
 ·simp only[ax hv];omega
theorem Bq(lo hi:Option Int)(n:Nat):Builtin.Slice.sliceAdjust lo hi 1 (n:Int)=(((sIx n 0 lo:Nat):Int),((sIx n n hi:Nat):Int)):=by
 have h1:¬ ((1:Int)<0):=by omega
 unfold Builtin.Slice.sliceAdjust
 simp only[h1,rV]
 refine Prod.ext ?_ ?_
 ·cases lo with
  |none=>rfl
  |some v=>exact CH v n 0
 ·cases hi with
  |none=>rfl
  |some v=>exact CH v n n
theorem Br(i j:Nat):Builtin.Slice.slicePlaces (i:Int) (j:Int) 1=j-i:=by
 unfold Builtin.Slice.slicePlaces
 have h1:(1:Int)>0:=by omega
 simp only[h1,iC,Int.ediv_one]
 split<;>omega
theorem uV{o:Option Int}{Q:Option Int->Shared->Prop}(p:IsPart v o)(h:Q o s):wpAny (model prog w) A (Builtin.Slice.slicePartIndex v) Q E s:=by
 cases p with
 |none=>exact slicePart_none h
 |int i t=>exact slicePart_int h
theorem sliceApplied_gen{sl:Addr}{vl vu:Value}{lo hi:Option Int}{Q:Int×Int×Nat->Shared->Prop}(hs:s.heap.IsSliceOf sl vl vu .none)(pl:IsPart vl lo)(pu:IsPart vu hi)
  (h:Q (((sIx n 0 lo:Nat):Int),1,sIx n n hi-sIx n 0 lo) s):wpAny (model prog w) A (Builtin.Slice.sliceApplied (.ref sl) (pure (n:Int))) Q E s:=by
 obtain⟨os,hos,hcs,Nq⟩:=id hs
 unfold Builtin.Slice.sliceApplied Builtin.Slice.sliceFields
 refine aa (aa (bU hos Nq (x:=vl) rfl (aa (bU hos Nq (x:=vu) rfl (aa (bU hos Nq (x:=.none) rfl (aq ?_)))))))
 refine aa (slicePart_none ?_)
 show wpAny _ _ (if ((1:Int)==0)=true then _ else _) _ _ s
 rw[ax (by decide)]
 refine aa (uV pl (aa (uV pu (aa (aq ?_)))))
 show wpAny _ _ (match Builtin.Slice.sliceAdjust lo hi 1 (n:Int)with|(lo,hi)=>pure (lo,(1:Int),Builtin.Slice.slicePlaces lo hi 1)) _ _ s
 rw[Bq lo hi n]
 show wpAny _ _ (pure (((sIx n 0 lo:Nat):Int),(1:Int),Builtin.Slice.slicePlaces ((sIx n 0 lo:Nat):Int) ((sIx n n hi:Nat):Int) 1)) _ _ s
 rw[Br]
 exact aq h
theorem Fj(xs:Array Value)(i k:Nat):((List.range k).filterMap fun(m:Nat)=>xs[((i:Int)+(m:Int)*1).toNat]?).toArray=((xs.toList.drop i).take k).toArray:=by
 have e:(fun(m:Nat)=>xs[((i:Int)+(m:Int)*1).toNat]?)=fun m=>xs[i+m]?:=by
  funext m
  have:((i:Int)+(m:Int)*1).toNat=i+m:=by omega
  rw[this]
 rw[e]
 have:=pick_run xs i k
 rw[List.filterMap_map]at this
 have e2:((fun x=>xs[x]?)∘fun x=>i+x)=fun m=>xs[i+m]?:=rfl
 rw[e2]at this
 rw[this]
theorem getItem_tuple_cut{t sl:Addr}{items:Array Value}{vl vu:Value}{lo hi:Option Int}(ht:IsTup s.heap t items)(hs:s.heap.IsSliceOf sl vl vu .none)(pl:IsPart vl lo)(pu:IsPart vu hi)
  (hw:¬ (sIx items.size 0 lo=0/\sIx items.size items.size hi=items.size))
  (h:Q (.ref s.heap.objs.size) { s with heap:=s.heap.push { cls:=.type "tuple",data:=.seq ((items.toList.drop (sIx items.size 0 lo)).take (sIx items.size items.size hi-sIx items.size 0 lo)).toArray } })
  (hsz:items.size<=sizeLine):wpAny (model prog w) A (getItem (.ref t) (.ref sl)) Q E s:=by
 have htake:sizeOk (.seq ((items.toList.drop (sIx items.size 0 lo)).take (sIx items.size items.size hi-sIx items.size 0 lo)).toArray):=by
  show((items.toList.drop (sIx items.size 0 lo)).take (sIx items.size items.size hi-sIx items.size 0 lo)).toArray.size<=sizeLine
  rw[aN,aM,ie,dI]
  omega
 have hj:sIx items.size items.size hi<=items.size:=sIx_le _ _ (aw _) hi
 obtain⟨os,hos,hcs,Nq⟩:=id hs
 have hTs:s.TypeIs (.ref sl) "slice":=⟨os,hos,hcs⟩
 unfold getItem
 try with_reducible refine dz ?_
 first|refine aa (aq ?_)|skip
 refine aa (wpAny_sequenceKey ht.typeIs (by decide) ?_)
 refine aa (be (name:=Str.ofString "__getitem__") ht.typeIs dN
  (bp dN ht.typeIs entry_tuple_getitem ?_ (args_tuple_getitem _ _)))
 show wpAny _ _ (Builtin.Tuple.tupleItemsOf (.ref t) >>= _) _ _ s
 refine aa (tupleItemsOf_ ht ?_)
 refine aa (kD hTs ?_)
 rw[au (by decide)]
 refine aa (sliceApplied_gen hs pl pu ?_)
 have hno:¬ ((((sIx items.size 0 lo:Nat):Int)==0&&(1:Int)==1&&(sIx items.size items.size hi-sIx items.size 0 lo)==items.size)=true):=by
  intro q
  rw[bX,bX]at q
  have q1:((sIx items.size 0 lo:Nat):Int)=0:=mF q.1.1
  have q2:sIx items.size items.size hi-sIx items.size 0 lo=items.size:=mF q.2
  exact hw ⟨by omega,by omega⟩
 show wpAny _ _ (if (((sIx items.size 0 lo:Nat):Int)==0&&(1:Int)==1&&(sIx items.size items.size hi-sIx items.size 0 lo)==items.size)=true then _ else _) _ _ s
 rw[ax hno,Fj]
 first
  |exact aa (m:=Builtin.Tuple.tupleExact _) (bF (aq ⟨_,rfl,aq h⟩) htake)
  |exact aa (m:=Builtin.Tuple.tupleExact _) (bF (aa (aq (aq ⟨_,rfl,aq h⟩))) htake)
  |exact aa (aa (m:=Builtin.Tuple.tupleExact _) (bF (aq (aq ⟨_,rfl,aq h⟩)) htake))
  |exact aa (aa (m:=Builtin.Tuple.tupleExact _) (bF (aq ⟨_,rfl,aq h⟩) htake))
end
end HT
namespace L2
open PySem PySem.Spec PyProof.Rows
abbrev TO:=St->Hp->(Option Int->Hp->Prop)->Prop
def PO(X:Cx)(e:Option Expr)(t:TO):Prop:=
 ∀(ag:List (Addr×Obj)) (s:Shared) (σ:St) (H:Hp) (Q:Option Int->Hp->Prop),bA X ag σ H s->t σ H Q ->
  wpAny (model X.prog X.w) X.A (evalPart e X.env) (fun u s'=>∃o H',bA X ag σ H' s'/\IsPart u o/\Q o H') X.xe s
def J6:TO:=fun _ H Q=>Q none H
def RQ(t:TE):TO:=fun σ H Q=>t σ H fun x H1=>∃i,x=.int i/\Q (some i) H1
section
variable{lo hi:Option Expr}{tl th:TO}
theorem J7:PO X none J6:=by
 intro ag s σ H Q I h
 rw[evalPart_none]
 exact aq ⟨none,H,I,.none,h⟩
theorem J8(h:PE X e te):PO X (some e) (RQ te):=by
 intro ag s σ H Q I hw
 rw[evalPart_some]
 refine gg (h ag s σ H _ I hw) fun u s1 zq=>?_
 obtain⟨x,H1,I1,r1,q1⟩:=zq
 obtain⟨i,rfl,q⟩:=q1
 obtain⟨t,rfl⟩:=r1
 exact⟨some i,H1,I1,.int i t,q⟩
def RR(X:Cx)(r:V->Option Int->Option Int->Hp->VK->Prop):Prop:=
 ∀(ag:List (Addr×Obj)) (s:Shared) (σ:St) (H:Hp) (x:V) (v vl vu:Value) (lo hi:Option Int) (sl:Addr) (Q:VK),bA X ag σ H s->cD x v->s.heap.IsSliceOf sl vl vu .none->IsPart vl lo->IsPart vu hi->r x lo hi H Q ->
  ∃T id,typeLookup (.type T) "__getitem__"=pure (some (.builtin id))/\s.TypeIs v T/\wpAny (model X.prog X.w) X.A (getItem v (.ref sl)) (EP X ag σ Q) X.xe s
def WO(r:V->Option Int->Option Int->Hp->VK->Prop)(te:TE)(tl th:TO):TE:=fun σ H Q=>te σ H fun x H1=>tl σ H1 fun l H2=>th σ H2 fun u H3=>r x l u H3 Q
theorem Fk{r:V->Option Int->Option Int->Hp->VK->Prop}(hr:RR X r)(he:PE X e te)(hl:PO X lo tl)(hu:PO X hi th):PE X (.Subscript e (.Slice lo hi none p2) pos) (WO r te tl th):=by
 intro ag s σ H Q I h
 refine Subscript_ (gg (he ag s σ H _ I h) fun v s1 zq=>?_)
 obtain⟨x,H1,I1,r1,q1⟩:=zq
 refine wpAny_Slice (gg (hl ag s1 σ H1 _ I1 q1) fun vl s2 ⟨l,H2,I2,pl,q2⟩=>gg (hu ag s2 σ H2 _ I2 q2) fun vu s3 zq=>?_)
 obtain⟨u,H3,I3,pu,q3⟩:=zq
 rw[evalPart_none]
 refine aq ?_
 have I4:bA X ag σ H3 { s3 with heap:=s3.heap.push { cls:=.type "slice",data:=.fields #[vl,vu,.none] } }:=I3.kept (t':=s3.toks) fun b ob q=>ai _ q
 obtain⟨T,id,hT,ht,hg⟩:=hr ag { s3 with heap:=s3.heap.push { cls:=.type "slice",data:=.fields #[vl,vu,.none] } } σ H3 x v vl vu l u s3.heap.objs.size Q I4 r1 (Heap.IsSliceOf.new ..) pl pu q3
 show wpAny (model X.prog X.w) X.A (subscriptTail e (.Slice lo hi none p2) v (.ref s3.heap.objs.size)) (EP X ag σ Q) X.xe { s3 with heap:=s3.heap.push { cls:=.type "slice",data:=.fields #[vl,vu,.none] } }
 exact tail_any (ops:=[.ref s3.heap.objs.size,v]) ht hT hg (by with_unfolding_all rfl)
noncomputable def uW(xs:List V)(lo hi:Option Int):List V:=(xs.drop (HT.sIx xs.length 0 lo)).take (HT.sIx xs.length xs.length hi-HT.sIx xs.length 0 lo)
theorem tH(xs:List V)(lo hi:Option Int):(uW xs lo hi).length<=xs.length:=by
 unfold uW
 rw[aM,ie]
 omega
def Vx(K:Frag):V->Option Int->Option Int->Hp->VK->Prop:=fun x lo hi H Q=>∃a xs,x=.ref a/\fS K H a xs /\
 ¬ (HT.sIx xs.length 0 lo=0/\HT.sIx xs.length xs.length hi=xs.length)/\∀p,H p=none->Q (.ref p) (ei H p (.tup (uW xs lo hi)))
theorem Os:RR X (Vx X.K):=by
 intro ag s σ H x v vl vu lo hi sl Q I rx hs pl pu h
 obtain⟨a,xs,rfl,hx,hw,q⟩:=h
 cases rx
 obtain⟨bq,r,ht,hz⟩:=I.tuple hx
 have da:bq.toArray.size=xs.length:=by rw[aN];exact r.length.symm
 refine⟨"tuple",_,dN.lookup,ht.typeIs,?_⟩
 refine HT.getItem_tuple_cut ht hs pl pu (by rw[da];exact hw) ?_ (by rw[da];exact hz)
 rw[da]
 refine⟨.ref s.heap.objs.size,_,I.laid (t':=s.toks) (o:=.tup (uW xs lo hi)) (fun b ob q=>ai _ q) (aw _) ?_,rfl,q _ (I.hok.fresh (aw _))⟩
 exact⟨aL (tH xs lo hi) hz,_,(r.drop (HT.sIx xs.length 0 lo)).take (HT.sIx xs.length xs.length hi-HT.sIx xs.length 0 lo),IsTup.new _ _⟩
def RT(K:Frag):R2:=fun x y H Q=>∃a b xs ys,x=.ref a/\y=.ref b/\fS K H a xs/\fS K H b ys/\xs≠[]/\xs.length+ys.length<=sizeLine /\
 (ys=[]->Q (.ref a) H)/\(ys≠[]->∀p,H p=none->Q (.ref p) (ei H p (.tup (xs++ys))))
theorem cu.nil_iff{xs:List V}(r:cu xs us):us=[]↔xs=[]:=by
 cases r with
 |nil=>simp
 |cons _ _=>simp
theorem J9:nF X (binaryOp .Add) (RT X.K):=by
 intro ag s σ H x y v u Q I rx ry h
 obtain⟨a,b,xs,ys,rfl,rfl,ha,hb,hx,hz,q1,q2⟩:=h
 cases rx
 cases ry
 obtain⟨bq,r1,p1,_⟩:=I.tuple ha
 obtain⟨its2,r2,p2,_⟩:=I.tuple hb
 refine HT.cat_tup p1 p2 (fun z=>hx (r1.nil_iff.mp z)) (fun z=>⟨.ref a,H,I,rfl,q1 (r2.nil_iff.mp z)⟩) (fun z=>?_) (by rw[<- r1.length,<- r2.length];exact hz)
 refine⟨.ref s.heap.objs.size,_,I.laid (t':=s.toks) (o:=.tup (xs++ys)) (fun b ob q=>ai _ q) (aw _) ?_,rfl,q2 (fun w=>z (r2.nil_iff.mpr w)) _ (I.hok.fresh (aw _))⟩
 exact⟨by rw[aE];exact hz,_,r1.append r2,IsTup.new _ _⟩
theorem zo:jx X (.type "tuple") (fun xs H Q=>∃a ys,xs=[.ref a]/\fS X.K H a ys/\Q (.ref a) H):=by
 intro ag s σ H xs us Q I r h
 obtain⟨a,ys,rfl,ha,q⟩:=h
 obtain⟨u,rfl,ru⟩:=nG r
 cases ru
 obtain⟨bq,_,p1,_⟩:=I.tuple ha
 exact call_tuple_same (items:=bq.toArray) p1 ⟨.ref a,H,I,rfl,q⟩
end
noncomputable def CI(n:Nat)(i:Int):Option Nat:=if 0<=i then(if i<n then some i.toNat else none)else if -(n:Int)<=i then some (i+n).toNat else none
def tI(xs:List α)(i:Int):Option α:=(CI xs.length i).bind fun j=>xs[j]?
theorem CJ{i:Int}(h:CI n i=some j):seqIndex? i n=some j/\j<n/\-(n:Int)<=i/\i<n:=by
 unfold CI at h
 by_cases h0:0<=i
 ·rw[au h0]at h
  by_cases h1:i<n
  ·rw[au h1]at h
   have e:i.toNat=j:=aF h
   exact⟨by rw[seqIndex_of h0 h1,e],by omega,by omega,h1⟩
  ·rw[ax h1]at h;cases h
 ·rw[ax h0]at h
  by_cases h1:-(n:Int)<=i
  ·rw[au h1]at h
   have e:(i+n).toNat=j:=aF h
   exact⟨by rw[rW (by omega) h1,e],by omega,h1,by omega⟩
  ·rw[ax h1]at h;cases h
theorem xV{xs:List α}{i:Int}{v:α}(h:tI xs i=some v):∃j,seqIndex? i xs.length=some j/\xs[j]?=some v/\j<xs.length/\-(xs.length:Int)<=i/\i<xs.length:=by
 unfold tI at h
 cases e:CI xs.length i with
 |none=>rw[e]at h;cases h
 |some j=>
  rw[e]at h
  obtain⟨h1,h2,h3,h4⟩:=CJ e
  exact⟨j,h1,h,h2,h3,h4⟩
def CK(b:Expr):Prop:=∀o i,subscripted b false o i=operate [o,i] (getItem o i)
def JD(X:Cx)(r:R2):Prop:=
 ∀(value slice:Expr) (ag:List (Addr×Obj)) (s:Shared) (σ:St) (H:Hp) (x y:V) (v u:Value) (Q:VK),bA X ag σ H s->cD x v->cD y u->r x y H Q ->
  subscripted slice false v u=operate [v,u] (getItem v u)->wpAny (model X.prog X.w) X.A (subscriptTail value slice v u) (EP X ag σ Q) X.xe s
def Ed(X:Cx)(id:String)(r:V->List V->Hp->VK->Prop):Prop:=
 ∀(ag:List (Addr×Obj)) (s:Shared) (σ:St) (H:Hp) (x:V) (xs:List V) (v:Value) (us:List Value) (Q:VK),bA X ag σ H s->cD x v->cu xs us->r x xs H Q ->
  wpAny (model X.prog X.w) X.A (call (.builtin id) (v::us)) (EP X ag σ Q) X.xe s
section
variable{a b:Expr}{ta tb:TE}
theorem JD.or{r r':R2}(h:JD X r)(h':JD X r'):JD X (fun x y H Q=>r x y H Q\/r' x y H Q):=by
 intro value slice ag s σ H x y v u Q I rx ry q hs
 rcases q with q|q
 ·exact h value slice ag s σ H x y v u Q I rx ry q hs
 ·exact h' value slice ag s σ H x y v u Q I rx ry q hs
theorem RU{r:R2}(hr:JD X r)(ha:PE X a ta)(hb:PE X b tb)(hs:CK b):PE X (.Subscript a b pos) (RF r ta tb):=by
 intro ag s σ H Q I h
 exact Subscript_ (Oa ha hb I h fun v u s2 x y H2 I2 rx ry q=>hr a b ag s2 σ H2 x y v u Q I2 rx ry q (hs _ _))
def RV(K:Frag):R2:=fun x y H Q=>∃p xs i v,x=.ref p/\y=.int i/\oZ K H p xs/\tI xs i=some v/\Q v H
def RW(K:Frag):R2:=fun x y H Q=>∃p xs i v,x=.ref p/\y=.int i/\fS K H p xs/\tI xs i=some v/\Q v H
def RX:R2:=fun x y H Q=>∃z i c,x=.str z/\y=.int i/\z.length<=sizeLine/\tI z.cps.toList i=some c/\Q (.str ⟨#[c]⟩) H
theorem J_:JD X (RV X.K):=by
 intro value slice ag s σ H x y v u Q I rx ry h hs
 obtain⟨p,xs,i,z,rfl,rfl,hq,he,q⟩:=h
 cases rx
 obtain⟨t,rfl⟩:=ry
 obtain⟨bq,r,pl,hz⟩:=I.list hq
 obtain⟨j,h1,h2,h3,h4,h5⟩:=xV he
 obtain⟨w,ew,ql⟩:=r.get h2
 have hl:=r.length
 have hn:=si
 have fin:EP X ag σ Q w s:=⟨z,H,I,ql,q⟩
 by_cases h0:0<=i
 ·have hj:i.toNat=j:=by
   rw[seqIndex_of h0 h5]at h1
   exact aF h1
  exact item_listR pl.isList h0 (by omega) (by rw[hj];simpa using ew) fin hs
 ·have hj:(i+(bq.toArray.size:Int)).toNat=j:=by
   rw[rW (by omega) h4]at h1
   rw[aN,<- hl]
   exact aF h1
  exact nq (x:=w) pl.isList.typeIs slot_list_getitem.lookup
   (wpAny_getItem_list_neg (Q:=fun r s'=>r=w/\EP X ag σ Q r s') pl.isList (by omega) (by rw[aN]<;>omega) (by omega) (by rw[hj];simpa using ew) ⟨rfl,fin⟩) hs
theorem Ot:JD X (RW X.K):=by
 intro value slice ag s σ H x y v u Q I rx ry h hs
 obtain⟨p,xs,i,z,rfl,rfl,hq,he,q⟩:=h
 cases rx
 obtain⟨t,rfl⟩:=ry
 obtain⟨bq,r,pl,hz⟩:=I.tuple hq
 obtain⟨j,h1,h2,h3,h4,h5⟩:=xV he
 obtain⟨w,ew,ql⟩:=r.get h2
 have hl:=r.length
 have hn:=si
 have fin:EP X ag σ Q w s:=⟨z,H,I,ql,q⟩
 exact nq (x:=w) pl.typeIs slot_tuple_getitem.lookup
  (getItem_tuple (j:=j) (Q:=fun r s'=>r=w/\EP X ag σ Q r s') pl (by omega) (by omega) (by rw[aN,<- hl];exact h1) (by simpa using ew) ⟨rfl,fin⟩) hs
theorem Ou:JD X RX:=by
 intro value slice ag s σ H x y v u Q I rx ry h hs
 obtain⟨z,i,c,rfl,rfl,hz,he,q⟩:=h
 obtain⟨t,rfl⟩:=rx
 obtain⟨t',rfl⟩:=ry
 obtain⟨j,h1,h2,h3,h4,h5⟩:=xV he
 have hl:z.cps.toList.length=z.length:=by simp[Str.length]
 rw[hl]at h1 h4 h5
 have hn:=si
 exact tail_any (iL s z t) slot_str_getitem.lookup (getItem_str (c:=c) (by
  have e1:decide (i < -(2^63:Int))=false:=a8 (by omega)
  have e2:decide (i≥2^63)=false:=a8 (by omega)
  rw[e1,e2,Bool.or_false]) (by rw[h1];simpa using h2) ⟨.str ⟨#[c]⟩,H,I.tok _,⟨_,rfl⟩,q⟩) hs
def WP(K:Frag):R2:=fun x y H Q=>RV K x y H Q\/RW K x y H Q\/RX x y H Q
theorem Ov:JD X (WP X.K):=J_.or (Ot.or Ou)
theorem Bs(bq:List Value)(n j:Nat)(u:Value):Obj.mapSeq (·.setIfInBounds j u) { cls:=.type "list",data:=.seq bq.toArray n }={ cls:=.type "list",data:=.seq (bq.set j u).toArray n }:=by
 simp[Obj.mapSeq]
theorem bA.lst{p:Addr}{xs:List V}(I:bA X ag σ H s)(h:H p=some (.lst xs)) :
  ∃(bq:List Value) (n:Nat),cu xs bq/\s.heap.get? p=some { cls:=.type "list",data:=.seq bq.toArray n }/\xs.length<=sizeLine:=by
 obtain⟨z,bq,n,r,e⟩:=I.hok p _ h
 exact⟨bq,n,r,e,z⟩
theorem bA.lstUpd{p:Addr}{xs ys:List V}{its':List Value}{n':Nat}{f:Obj->Obj}(I:bA X ag σ H s)(h:H p=some (.lst xs))
  (ho:s.heap.get? p=some { cls:=.type "list",data:=.seq bq.toArray n }) (hf:f { cls:=.type "list",data:=.seq bq.toArray n }={ cls:=.type "list",data:=.seq its'.toArray n' }) (r:cu ys its') (hz:ys.length<=sizeLine) (t:Nat) :
  bA X ag σ (ei H p (.lst ys)) { s with heap:=s.heap.update p f,toks:=t }:=by
 have e:(s.heap.update p f).get? p=some { cls:=.type "list",data:=.seq its'.toArray n' }:=by
  rw[cx f ho (by rw[hf]<;>rfl),hf]
 refine I.write (x:=p) (e:=p) (by rw[h];trivial) (.inl rfl) (fun b u hb q=>(cm _ _ (Ne.symm hb)).trans q) ⟨_,e⟩ ?_
 exact⟨hz,its',n',r,e⟩
def RY:V->V->V->Hp->(Hp->Prop)->Prop:=fun o i v H Q=>∃p xs k j,o=.ref p/\i=.int k/\H p=some (.lst xs)/\CI xs.length k=some j/\Q (ei H p (.lst (xs.set j v)))
theorem Fl:D4 X RY:=by
 intro ag s σ H o i v ov iv u Q I ro ri rv h
 obtain⟨p,xs,k,j,rfl,rfl,hp,hj,q⟩:=h
 cases ro
 obtain⟨t,rfl⟩:=ri
 obtain⟨bq,n,r,ho,hz⟩:=I.lst hp
 obtain⟨h1,h2,h3,h4⟩:=CJ hj
 have hl:=r.length
 have hn:=si
 have I':bA X ag σ (ei H p (.lst (xs.set j v))) { s with heap:=s.heap.update p (Obj.mapSeq (·.setIfInBounds j u)) }:=
  I.lstUpd hp ho (Bs bq n j u) (r.set rv j) (by rw[iD];exact hz) s.toks
 by_cases h0:0<=k
 ·have hk:k.toNat=j:=by
   rw[seqIndex_of h0 h4]at h1
   exact aF h1
  exact PySem.W.ki_setAt ho h0 (by omega) (by rw[aN,<- hl];exact h4) (by rw[hk];exact⟨_,I',q⟩)
 ·have hk:(k+(bq.toArray.size:Int)).toNat=j:=by
   rw[rW (by omega) h3]at h1
   rw[aN,<- hl]
   exact aF h1
  exact PySem.W.ki_setBack ho (by omega) (by rw[aN,<- hl];exact h3) (by omega) (by rw[hk];exact⟨_,I',q⟩)
theorem xW(lo hi:Option Int)(n:Nat):(sliceBounds lo hi none n).1=((HT.sIx n 0 lo:Nat):Int)/\(sliceBounds lo hi none n).2.1=((HT.sIx n n hi:Nat):Int)/\(sliceBounds lo hi none n).2.2=1:=by
 refine⟨?_,?_,rfl⟩
 ·cases lo with
  |none=>simp[sliceBounds,HT.sIx]
  |some i=>
   simp only[sliceBounds,HT.sIx,Option.getD_none,show(1:Int)>0 by decide,iC]
   by_cases h:i<0
   ·simp only[h,iC]<;>omega
   ·simp only[h,rV]<;>omega
 ·cases hi with
  |none=>simp[sliceBounds,HT.sIx]
  |some i=>
   simp only[sliceBounds,HT.sIx,Option.getD_none,show(1:Int)>0 by decide,iC]
   by_cases h:i<0
   ·simp only[h,iC]<;>omega
   ·simp only[h,rV]<;>omega
theorem wq(bq:List Value)(lo hi:Option Int):slicePick bq.toArray lo hi none=((bq.drop (HT.sIx bq.length 0 lo)).take (HT.sIx bq.length bq.length hi-HT.sIx bq.length 0 lo)).toArray:=by
 obtain⟨h1,h2,h3⟩:=xW lo hi bq.toArray.size
 unfold slicePick
 rw[h1,h2,h3]
 simp only[sliceRange_one,pick_run,aN]<;>rfl
def Vy(K:Frag):V->Option Int->Option Int->Hp->VK->Prop:=fun x lo hi H Q=>∃a xs,x=.ref a/\oZ K H a xs/\∀p,H p=none->Q (.ref p) (ei H p (.lst (uW xs lo hi)))
theorem J':RR X (Vy X.K):=by
 intro ag s σ H x v vl vu lo hi sl Q I rx hs pl pu h
 obtain⟨a,xs,rfl,hx,q⟩:=h
 cases rx
 obtain⟨bq,r,ht,hz⟩:=I.list hx
 have da:=r.length
 refine⟨"list",_,slot_list_getitem.lookup,ht.isList.typeIs,?_⟩
 refine wpAny_getItem_list_slice ht.isList hs pl pu .none (by simp) ?_ (by rw[aN]<;>omega)
 rw[wq,<- da]
 refine⟨.ref s.heap.objs.size,_,I.laid (t':=s.toks) (o:=.lst (uW xs lo hi)) (fun b ob q=>ai _ q) (aw _) ?_,rfl,q _ (I.hok.fresh (aw _))⟩
 exact⟨aL (tH xs lo hi) hz,_,0,(r.drop (HT.sIx xs.length 0 lo)).take (HT.sIx xs.length xs.length hi-HT.sIx xs.length 0 lo),ar _ rfl⟩
theorem qv:jx X (.builtin "len") (fun xs H Q=>∃p ys,xs=[.ref p]/\(oZ X.K H p ys\/fS X.K H p ys)/\Q (.int ys.length) H):=by
 intro ag s σ H xs us Q I r h
 obtain⟨p,ys,rfl,hq,q⟩:=h
 obtain⟨u,rfl,rx⟩:=nG r
 cases rx
 have hn:=si
 rcases hq with hq|hq
 ·obtain⟨bq,r',pl,hz⟩:=I.list hq
  have da:=r'.length
  exact Calls.call_len_list pl.isList (by simp only[aN]<;>omega) ⟨.int ys.length,H,I.tok _,⟨s.toks+1,by rw[aN,da]⟩,q⟩
 ·obtain⟨bq,r',pl,hz⟩:=I.tuple hq
  have da:=r'.length
  exact len_tuple pl (by simp only[aN]<;>omega) ⟨.int ys.length,H,I.tok _,⟨s.toks+1,by rw[aN,da]⟩,q⟩
theorem xX:jx X (.builtin "len") (fun xs H Q=>∃z,xs=[.str z]/\z.length<=sizeLine/\Q (.int z.length) H):=by
 intro ag s σ H xs us Q I r h
 obtain⟨z,rfl,hz,q⟩:=h
 obtain⟨u,rfl,t,rfl⟩:=nG r
 have hn:=si
 exact len_str (by omega) ⟨.int z.length,H,I.tok _,⟨_,rfl⟩,q⟩
theorem xY:jx X (.type "list") (fun xs H Q=>∃p ys,xs=[.ref p]/\(oZ X.K H p ys\/fS X.K H p ys)/\∀l,H l=none->Q (.ref l) (ei H l (.lst ys))):=by
 intro ag s σ H xs us Q I r h
 obtain⟨p,ys,rfl,hq,q⟩:=h
 obtain⟨u,rfl,rx⟩:=nG r
 cases rx
 have fin:∀(bq:List Value),cu ys bq->ys.length<=sizeLine->∀(h':Heap) (c':Nat),(∀b o',s.heap.get? b=some o'->h'.get? b=some o') ->
   h'.get? s.heap.objs.size=some { cls:=.type "list",dict:=none,data:=.seq bq.toArray c',slots:=#[] }->EP X ag σ Q (.ref s.heap.objs.size) { s with heap:=h' }:=fun bq r' hz h' c' kp e=>
  ⟨.ref s.heap.objs.size,_,I.laid (t':=s.toks) kp (aw _) (show fH X.prog X.w _ h' _ (.lst ys)from⟨hz,bq,c',r',e⟩),rfl,q _ (I.hok.fresh (aw _))⟩
 rcases hq with hq|hq
 ·obtain⟨bq,r',pl,hz⟩:=I.list hq
  have da:=r'.length
  obtain⟨o,ho,hc,n,hd⟩:=pl.isList
  exact call_list_seq p (.inl rfl) ho hc hd (fun h' c' kp e=>fin bq r' hz h' c' kp e) (by simp only[aN]<;>omega)
 ·obtain⟨bq,r',pl,hz⟩:=I.tuple hq
  have da:=r'.length
  obtain⟨o,ho,hc,n,hd⟩:=pl
  exact call_list_seq p (.inr rfl) ho hc hd (fun h' c' kp e=>fin bq r' hz h' c' kp e) (by simp only[aN]<;>omega)
theorem ww:jx X (.type "tuple") (fun xs H Q=>∃p ys,xs=[.ref p]/\((oZ X.K H p ys/\∀l,H l=none->Q (.ref l) (ei H l (.tup ys)))\/(fS X.K H p ys/\Q (.ref p) H))):=by
 intro ag s σ H xs us Q I r h
 obtain⟨p,ys,rfl,h⟩:=h
 obtain⟨u,rfl,rx⟩:=nG r
 cases rx
 rcases h with⟨hq,q⟩|⟨hq,q⟩
 ·obtain⟨bq,r',pl,hz⟩:=I.list hq
  have da:=r'.length
  refine call_tuple_list pl.isList (fun h' kp=>?_) (by simp only[aN]<;>omega)
  have I1:bA X ag σ H { s with heap:=h' }:=I.kept (t':=s.toks) kp
  have I2:bA X ag σ (ei H h'.objs.size (.tup ys)) { s with heap:=h'.push { cls:=.type "tuple",data:=.seq bq.toArray } }:=
   I1.laid (t':=s.toks) (fun b o e=>ai _ e) (aw _) (show fH X.prog X.w _ _ _ (.tup ys)from⟨hz,bq,r',IsTup.new _ _⟩)
  exact⟨.ref h'.objs.size,_,I2,rfl,q _ (I1.hok.fresh (aw _))⟩
 ·obtain⟨bq,r',pl,hz⟩:=I.tuple hq
  exact call_tuple_same pl ⟨.ref p,H,I,rfl,q⟩
def UO(K:Frag)(T:String)(x:V)(H:Hp):Prop:=match x with
 |.str _=>T="str"
 |.int _=>T="int"
 |.ref p=>(T="list"/\∃xs,oZ K H p xs)\/(T="tuple"/\∃o,K.lookup p=some o/\o.cls=.type "tuple"/\o.dict=none) \/
   (T="dict"/\((∃kvs,H p=some (.dK kvs))\/∃kvs,H p=some (.dT kvs)))\/(T="set"/\∃S n,H p=some (.set S n))
 |_=>False
theorem Fm{T:String}{x:V}(I:bA X ag σ H s)(r:cD x v)(ty:UO X.K T x H) :
  s.TypeIs v T/\∀a,v=.ref a->∃ob,s.heap.get? a=some ob/\ob.dict=none:=by
 cases x with
 |str z=>
  obtain⟨t,rfl⟩:=r
  cases(show T="str" from ty)
  exact⟨iL s z t,fun _ e=>nomatch e⟩
 |int i=>
  obtain⟨t,rfl⟩:=r
  cases(show T="int" from ty)
  exact⟨typeIs_int s i t,fun _ e=>nomatch e⟩
 |ref p=>
  cases r
  rcases ty with⟨rfl,xs,hq⟩|⟨rfl,o,hk,hc,hd⟩|⟨rfl,hk⟩|⟨rfl,S,n,hk⟩
  ·obtain⟨bq,_,pl,_⟩:=I.list hq
   refine⟨pl.isList.typeIs,fun a e=>?_⟩
   cases e
   obtain⟨o,n,e,c,hd,_⟩:=pl
   exact⟨o,e,hd⟩
  ·refine⟨⟨o,I.kIn p o hk,hc⟩,fun a e=>?_⟩
   cases e
   exact⟨o,I.kIn _ o hk,hd⟩
  ·have z:∃o,s.heap.get? p=some o/\o.ExactDict:=by
    rcases hk with⟨kvs,hk⟩|⟨kvs,hk⟩
    ·obtain⟨_,_,_,_,o,_,_,e,ex,_⟩:=I.hok p _ hk
     exact⟨o,e,ex⟩
    ·obtain⟨_,_,_,_,o,_,_,e,ex,_⟩:=I.hok p _ hk
     exact⟨o,e,ex⟩
   obtain⟨o,e,ex⟩:=z
   refine⟨⟨o,e,ex.1⟩,fun a e2=>?_⟩
   cases e2
   exact⟨o,e,ex.2.1⟩
  ·obtain⟨o,_,_,_,e,ex,_⟩:=I.hok p _ hk
   refine⟨⟨o,e,ex.1⟩,fun a e2=>?_⟩
   cases e2
   exact⟨o,e,ex.2.1⟩
 |_=>exact False.elim ty
variable{to:TE}{t:TA}{T id:String}{r:V->List V->Hp->VK->Prop}
end
def Wn(X:Cx)(id:String)(r:V->List V->Hp->VK->Prop):Prop:=
 ∀(ag:List (Addr×Obj)) (s:Shared) (σ:St) (H:Hp) (x:V) (xs:List V) (v:Value) (us:List Value) (Q:VK),bA X ag σ H s->cD x v->cu xs us->r x xs H Q ->
  wpAny (model X.prog X.w) X.A (call (.builtin id) (v::us)) (EP X ag σ Q) X.xe s
theorem cu.one{x:V}(h:cu [x] us):∃u,us=[u]/\cD x u:=by cases h with|cons r t=>cases t;exact⟨_,rfl,r⟩
theorem cu.two{x:V}(h:cu [x,y] us):∃u v,us=[u,v]/\cD x u/\cD y v:=by cases h with|cons r t=>obtain⟨v,rfl,q⟩:=cu.one t;exact⟨_,v,rfl,r,q⟩
theorem cu.zero:∀{us:List Value},cu [] us->us=[]
 |_,.nil=>rfl
theorem cu.dropLast{xs:List V}(h:cu xs us):cu xs.dropLast us.dropLast:=by
 induction h with
 |nil=>exact .nil
 |cons r t ih=>
  cases t with
  |nil=>exact .nil
  |cons q t'=>exact .cons r ih
theorem cu.rep{xs:List V}(h:cu xs us):∀k:Nat,cu (List.replicate k xs).flatten (List.replicate k us).flatten
 |0=>.nil
 |k+1=>by
  rw[ca,ca,cP,cP]
  exact cu.append h (cu.rep h k)
theorem Bt(l:List α):l.eraseIdx (l.length-1)=l.dropLast:=by
 induction l with
 |nil=>rfl
 |cons a r ih=>
  cases r with
  |nil=>rfl
  |cons b r=>
   have e:(a::b::r).length-1=((b::r).length-1)+1:=by
    have h1:(a::b::r).length=r.length+2:=rfl
    have h2:(b::r).length=r.length+1:=rfl
    omega
   rw[e,List.eraseIdx_cons_succ,ih]
   all_goals rfl
theorem w4(bq:List Value):∀(k:Nat) (f_:List Value),
  List.foldl (fun x1 x2=>x1++x2) f_.toArray (List.replicate k bq.toArray)=(f_++(List.replicate k bq).flatten).toArray
 |0,f_=>by simp
 |k+1,f_=>by
  have e:f_.toArray++bq.toArray=(f_++bq).toArray:=by simp
  have e2:(f_++bq)++(List.replicate k bq).flatten=f_++(List.replicate (k+1) bq).flatten:=by
   rw[ca,cP,bh]
  rw[<- e2,<- w4 bq k (f_++bq),<- e,ca,eK]
section
variable{l:Addr}{xs ys zs:List V}
theorem bA.lset{its':List Value}{f:Array Value->Array Value}{t':Nat}(I:bA X ag σ H s)(hH:H l=some (.lst xs))
  (e:s.heap.get? l=some { cls:=.type "list",data:=.seq bq.toArray n }) (hf:f bq.toArray=its'.toArray) (hv:cu ys its') (hz:ys.length<=sizeLine) :
  bA X ag σ (ei H l (.lst ys)) { s with heap:=s.heap.update l (Obj.mapSeq f),toks:=t' }:=by
 have q:=PySem.IsL.update e f
 rw[hf]at q
 refine I.write (x:=l) (e:=l) (by rw[hH];exact trivial) (.inl rfl) (fun b' u hb hu=>(cm s.heap (Obj.mapSeq f) (Ne.symm hb)).trans hu) ⟨_,q⟩ ?_
 exact⟨hz,its',_,hv,q⟩
theorem bA.lnew{t':Nat}(I:bA X ag σ H s)(hv:cu ys bq)(hz:ys.length<=sizeLine) :
  bA X ag σ (ei H s.heap.objs.size (.lst ys)) { s with heap:=s.heap.push { cls:=.type "list",data:=.seq bq.toArray },toks:=t' }:=
 I.laid (fun _ _ q=>ai _ q) (aw _) ⟨hz,bq,0,hv,ar _ rfl⟩
theorem bA.fresh(I:bA X ag σ H s):H s.heap.objs.size=none:=I.hok.fresh (aw _)
theorem bA.lstM(I:bA X ag σ H s)(hH:H l=some (.lst xs)):xs.length<=sizeLine/\∃(bq:List Value) (n:Nat),cu xs bq/\xs.length=bq.length/\s.heap.get? l=some { cls:=.type "list",data:=.seq bq.toArray n }:=by
 obtain⟨z,bq,n,r,e⟩:=I.hok l _ hH
 exact⟨z,bq,n,r,r.length,e⟩
theorem Fp(h:n<=sizeLine):Builtin.List.listTooLong n=false:=by
 unfold Builtin.List.listTooLong
 exact a8 (by omega)
end
section
def CL:V->List V->Hp->VK->Prop:=fun x vs H Q=>∃l xs y,x=.ref l/\vs=[y]/\H l=some (.lst xs)/\xs.length<sizeLine/\Q .non (ei H l (.lst (xs++[y])))
theorem Ee:Wn X "list.append" CL:=by
 intro ag s σ H x vs v us Q I rx rv h
 obtain⟨l,xs,y,rfl,rfl,hH,hz,q⟩:=h
 cases rx
 obtain⟨u,rfl,ru⟩:=rv.one
 obtain⟨z,bq,n,r,hl,e⟩:=I.lstM hH
 refine nv F.slot_list_append ⟨_,e,rfl⟩ F.entry_list_append (F.args_list_append_2 _ _) (PySem.list_append l bq.toArray n u (by rw[aN];omega)) ⟨e,?_⟩
 refine⟨.non,_,I.lset (its':=bq++[u]) hH e (by simp) (r.append (.cons ru .nil)) ?_,rfl,q⟩
 rw[aE,dg]
 omega
def RZ:V->List V->Hp->VK->Prop:=fun x vs H Q=>∃l xs y,x=.ref l/\vs=[]/\H l=some (.lst xs)/\xs[xs.length-1]?=some y/\Q y (ei H l (.lst xs.dropLast))
theorem Ox:Wn X "list.pop" RZ:=by
 intro ag s σ H x vs v us Q I rx rv h
 obtain⟨l,xs,y,rfl,rfl,hH,hy,q⟩:=h
 cases rx
 have hus:=rv.zero
 subst hus
 obtain⟨z,bq,n,r,hl,e⟩:=I.lstM hH
 obtain⟨u,hu,ru⟩:=r.get hy
 have hy':bq.toArray[bq.toArray.size-1]?=some u:=by
  show bq.toArray[bq.length-1]?=some u
  rw[<- fA,<- hl]
  exact hu
 refine nv F.slot_list_pop ⟨_,e,rfl⟩ F.entry_list_pop (F.args_list_pop_1 _) (MeetsSeq.list_pop_last l bq.toArray n u hy' (by rw[aN];omega)) ⟨e,?_⟩
 refine⟨y,_,I.lset (its':=bq.dropLast) hH e ?_ r.dropLast ?_,ru,q⟩
 ·show bq.toArray.eraseIdxIfInBounds (bq.toArray.size-1)=bq.dropLast.toArray
  rw[aN,List.eraseIdxIfInBounds_toArray,Bt]
 ·rw[List.length_dropLast]
  omega
def Vz:R2:=fun x y H Q=>∃l b xs zs,x=.ref l/\y=.ref b/\H l=some (.lst xs)/\H b=some (.lst zs)/\xs.length+zs.length<=sizeLine/\∀p,H p=none->Q (.ref p) (ei H p (.lst (xs++zs)))
theorem Oy:nF X (binaryOp .Add) Vz:=by
 intro ag s σ H x y v u Q I rx ry h
 obtain⟨l,b,xs,zs,rfl,rfl,hH,hB,hz,q⟩:=h
 cases rx
 cases ry
 obtain⟨z,bq,n,r,hl,e⟩:=I.lstM hH
 obtain⟨z2,its2,n2,r2,hl2,e2⟩:=I.lstM hB
 refine PySem.P.add_list e e2 ?_ (by rw[aN,aN];omega)
 have ea:bq.toArray++its2.toArray=(bq++its2).toArray:=by simp
 rw[ea]
 exact⟨.ref _,_,I.lnew (t':=s.toks) (r.append r2) (by rw[aE];omega),rfl,q _ I.fresh⟩
def VA:R2:=fun x y H Q=>∃l k xs,x=.ref l/\y=.int k/\H l=some (.lst xs)/\-(2^63)<=k/\k<2^63/\xs.length*k.toNat<=sizeLine /\
 ∀p,H p=none->Q (.ref p) (ei H p (.lst (List.replicate k.toNat xs).flatten))
theorem Ka(xs:List α)(k:Nat):(List.replicate k xs).flatten.length=k*xs.length:=by
 induction k with
 |zero=>simp
 |succ k ih=>rw[ca,cP,aE,ih,kE,rX]
theorem Oz:nF X (binaryOp .Mult) VA:=by
 intro ag s σ H x y v u Q I rx ry h
 obtain⟨l,k,xs,rfl,rfl,hH,h1,h2,hz,q⟩:=h
 cases rx
 obtain⟨t,rfl⟩:=ry
 obtain⟨z,bq,n,r,hl,e⟩:=I.lstM hH
 have da:bq.toArray.size*k.toNat<=sizeLine:=by rw[aN,<- hl];exact hz
 have pD:¬ bq.toArray.size*k.toNat>(2^63-1)/8:=by
  have:(sizeLine:Nat)<=(2^63-1)/8:=by decide
  omega
 have hfit:¬ (!Builtin.List.listFitsIndex k)=true:=by
  rw[fitsIndex_both h1 h2]
  exact cF
 have hlong:¬ Builtin.List.listTooLong (bq.toArray.size*k.toNat)=true:=by
  rw[Fp da]
  exact cF
 have hnew:List.foldl (fun x1 x2=>x1++x2) #[] (List.replicate (if bq.toArray.isEmpty=true then 0 else k.toNat) bq.toArray)=(List.replicate k.toNat bq).flatten.toArray:=by
  have f0:∀m:Nat,List.foldl (fun x1 x2=>x1++x2) #[] (List.replicate m bq.toArray)=(List.replicate m bq).flatten.toArray:=fun m=>by
   have:=w4 bq m []
   rw[gq]at this
   exact this
  rw[f0]
  cases bq with
  |nil=>simp
  |cons a r'=>rw[ax (by simp)]
 refine wpAny_binaryOp_repeat_ref (T:="list") (U:="int") (by decide) ⟨_,e,rfl⟩ (fun s'=>typeIs_int s' k t) noFill_list_mul F.fills_int_mul F.slot_int_rmul repeat_list F.slot_int_index.lookup
  (nv F.slot_int_rmul (typeIs_int s k t) F.entry_int_rmul (F.args_int_rmul_2 _ _) (int___rmul___int_list k t l bq.toArray n)
   ⟨e,rfl,⟨_,e,rfl⟩,nv F.slot_list_mul ⟨_,e,rfl⟩ F.entry_list_mul (F.args_list_mul_2 _ _) (AutoListH.list___mul___list_int_3 l bq.toArray n k t hfit pD hlong) ⟨e,?_⟩⟩)
 rw[hnew]
 exact⟨.ref _,_,I.lnew (t':=s.toks) (r.rep k.toNat) (by rw[Ka,jn];exact hz),rfl,q _ I.fresh⟩
end
section
variable{w:World}
end
section
end
end L2
namespace Att
open PySem PySem.W PySem.Calls PyProof.Rows
theorem t_{P:Params}:∀(ns:List Int) (vs:List Value),WellAll P h vs (ns.map WData.int)->IntsAre vs ns:=by
 intro ns
 induction ns with
 |nil=>
  intro vs w
  rw[rY]at w
  cases w
  exact .nil
 |cons n ns ih=>
  intro vs w
  rw[aP]at w
  cases w with
  |cons a b=>
   cases a
   exact .cons _ _ (ih _ b)
theorem Ef{l:OpenLaw}(hn:l.most=some n){P:Params}{args:List WData}{ni:List Value}
  (EV:l.row.toRowW.claim.pre args=true) (E1:WellAll P h ni args) :
  ∃a vs ns,ni=[Value.ref a]/\args=[WData.list (ns.map WData.int)]/\h.get? a=some { cls:=.type "list",data:=.seq vs.toArray }/\IntsAre vs ns/\ns.length<=n:=by
 have hsh:WShape.hasAll [] args [.list .int]=true:=(pre_splitW EV).1
 have hc:l.pre.holds [] { args:=args }=true:=(pre_splitW EV).2
 obtain⟨d,r,rfl,h1,h2⟩:=hasAllW_cons hsh
 obtain rfl:=hasAllW_nil h2
 obtain⟨xs,rfl,h3⟩:=hasW_list h1
 obtain⟨ns,rfl⟩:=items_int h3
 have da:ns.length<=n:=by
  unfold OpenLaw.pre at hc
  have h4:(WTm.not (.lt (.lit (.int (n:Int))) (.len (.arg 0)))).holds [] { args:=[.list (ns.map .int)] }=true:=by
   have h4:=(holds_andW hc).1
   rw[hn]at h4
   exact h4
  have h5:=condW_of h4 (w_not (w_lt w_lit (w_len_list (w_arg rfl))))
  rw[al]at h5
  refine Nat.le_of_not_lt fun q=>?_
  have q':(n:Int)<((ns.length:Nat):Int):=by omega
  first
   |(rw[bf q']at h5;exact absurd h5 (by decide))
   |(simp at h5;omega)
 cases E1 with
 |cons w1 w2=>
  cases w2
  cases w1 with
  |list ho hall=>exact⟨_,_,ns,rfl,rfl,ho,t_ ns _ hall,da⟩
theorem Eg(l:OpenLaw)(args:List WData):l.row.toRowW.claim.post args (.bool true) args=true:=
 postW_of (r:=l.row.toRowW) (X:=(true==true))
  (show WShape.has [] (.bool true) .bool=true by first|rfl|decide|simp[WShape.has,WShape.arms,WShape.armsAll])
  (show(WTm.eq .res (.lit (.bool true))).value [] { args:=args,res:=some (.bool true),after:=args }=some (.bool (true==true))from w_eq_bool (w_res rfl) w_lit) rfl
theorem attach_call{l:OpenLaw}{q:Program}{xL:List Str}{d:DefRec}
  (hn:l.most=some n) (UC:d.params.defaults=[])
  (call:∀(w:World) (s₀ s₁:Shared) (mg mb:Str->Option Value) (fa:Addr) (o:Obj) (pm cd se:Value) (a:Addr) (vs:List Value) (ns:List Int),
   Ground q xL [] XP w s₀ mg mb s₁.heap->YP w s₁.heap ->
   s₁.heap.get? fa=some o->o.data=.func (docDef d.name d.params d.body d.scope pm cd se)->s₁.heap.CodeRec cd d.name->mg d.name=some (.ref fa) ->
   s₁.heap.get? a=some { cls:=.type "list",data:=.seq vs.toArray }->IntsAre vs ns->ns.length<=n->s₁.gens=#[] ->
   codeAny (model l.prog w) callerA (.call (.ref fa) ⟨[.ref a],[]⟩) (fun r s'=>r=.ok (.ret (.bool true))/\OldK s₁.heap s'.heap/\s'.os=s₁.os/\AllBare s'.gens) s₁) :
  WalkO q xL XP YP l.row.toRowW d [] (fun f vs=>PySem.call f vs):=by
 intro w s₀ s₁ mg mb G Y fa o pm cd se dV kV ho hd E2 hD hmg hg args ni as EV hlay hrd E1 hlo
 obtain rfl:dV=.none:=Dflts.none hD UC
 obtain rfl:kV=.none:=Dflts.noKw hD
 obtain⟨a,vs,ns,rfl,rfl,hobj,hints,da⟩:=Ef hn EV E1
 refine enter_call (ic (call w s₀ s₁ mg mb fa o pm cd se a vs ns G Y ho (fd_plain hd) E2 hmg hobj hints da hg) fun r s' hq=>?_)
 obtain⟨rfl,h2,h3,h4⟩:=hq
 exact⟨.inl ⟨.bool true,.bool true,[],rfl,fun _=>rfl,.bool true,Eg l _,fun _=>⟨List.Pairwise.nil,fun _ hm=>(nomatch hm)⟩⟩,h2,h3,h4⟩
section
variable{w:World}
end
end Att
namespace L2
open PySem PySem.Spec PyProof.Rows
theorem w5:∀{vs:List Value} {ns:List Int},IntsAre vs ns->cu (ns.map V.int) vs
 |_,_,.nil=>.nil
 |_,_,.cons n t h=>.cons ⟨t,rfl⟩ (w5 h)
def Kb(H:Hp):Prop:=∀b,H b=none\/∃o xs,H b=some (.frz o (.lst xs))
theorem Fq{P:Program}{w:World}{mb:Str->Option Value}{CX:Ea}{k:Nat}{fa:Addr}{fd:FuncData}{x:Str}{sp:Sp}{s₁:Shared}{vs:List Value}{ns:List Int}
  (KX:K.In s₁.heap) (JJ:s₁.heap.Ns mainGlobals mg) (hb:s₁.heap.Ns builtinsNs mb) (W1:∀x:Str,x ≠ "__name__"->mb x=bootBuiltins x) (Wa:s₁.heap.NoLimit) (hg:s₁.gens=#[])
  (ha:s₁.heap.get? a=some { cls:=.type "list",data:=.seq vs.toArray }) (hi:IntsAre vs ns) (hl:ns.length<=sizeLine) (hr:g_ k callerA)
  (F:∀base:Heap,K.In base->base.Ns mainGlobals mg->cX P w K mg base CX k fa fd [x] sp) (UJ:∀(s:Shared) (u:Value),BindsTo s fd ⟨[u],[]⟩ [(x,u)])
  (NL:∀H:Hp,Kb H->oZ K H a (ns.map V.int)->sp [.ref a] H (fun v _=>v=.bl true) fun _ _ _=>False)
  (Wd:∀H e s',CX [] H s₁ (fun _ _ _=>False) e s'->False) :
  codeAny (model P w) callerA (.call (.ref fa) ⟨[.ref a],[]⟩) (fun r s'=>r=.ok (.ret (.bool true))/\OldK s₁.heap s'.heap/\s'.os=s₁.os/\AllBare s'.gens) s₁:=by
 have rv:=w5 hi
 have lenV:=hi.length
 have core:∀H:Hp,Kb H->oZ K H a (ns.map V.int)->p5 P w H s₁.heap->(∀b,H b≠none->b=a)->(H a≠none->K.lookup a=none) ->
   codeAny (model P w) callerA (.call (.ref fa) ⟨[.ref a],[]⟩) (fun r s'=>r=.ok (.ret (.bool true))/\OldK s₁.heap s'.heap/\s'.os=s₁.os/\AllBare s'.gens) s₁:=by
  intro H hO hS hok hA hK
  have base_of:∀{b:Addr} {o:Obj},s₁.heap.get? b=some o->H b=none->(xP s₁.heap H).get? b=some o:=fun e n=>E4 e n
  have noA:∀{b:Addr} {o:Obj} {es:Array DictEntry} {ep:Nat},s₁.heap.get? b=some o->o.data=.dict es ep->H b=none:=fun{b o es ep} e d=>by
   cases q:H b with
   |none=>rfl
   |some u=>
    have e':b=a:=hA b (by rw[q];simp)
    subst e'
    rw[ha]at e;cases e
    have d':Data.seq vs.toArray _=Data.dict es ep:=d
    cases d'
  have nsK:∀{b:Addr} {m:Str->Option Value},s₁.heap.Ns b m->(xP s₁.heap H).Ns b m:=fun{b m} ⟨o,es,ep,e,d,r⟩=>⟨o,es,ep,base_of e (noA e d),d,r⟩
  have hKb:K.In (xP s₁.heap H):=fun b o e=>base_of (KX b o e) (by
   cases q:H b with
   |none=>rfl
   |some u=>
    have e':b=a:=hA b (by rw[q];simp)
    subst e'
    rw[hK (by rw[q];simp)]at e;cases e)
  have hM:Mod K mg (xP s₁.heap H):=⟨hKb,nsK JJ,⟨mb,nsK hb,W1⟩,let ⟨mc,h1,h2⟩:=Wa;⟨mc,nsK h1,h2⟩⟩
  have e0:Bo P w K mg (xP s₁.heap H) callerA [] s₁ H:=⟨rfl,hM,fun b o e=>JK e,Nat.le_of_eq (DZ _ _),trivial,fun b hb=>absurd (show b∈([]:List Addr)from hb) (by simp),hok,.of_eq hg⟩
  refine ic ((F _ hKb (nsK JJ)).run callerA [] s₁ H ⟨[.ref a],[]⟩ [.ref a] [.ref a] _ _ hr e0 (UJ s₁ (.ref a)) (.cons rfl .nil) (NL H hO hS)) fun r s' h=>?_
  cases r with
  |error e=>exact(Wd H e s' h).elim
  |ok fl=>
   cases fl with
   |next=>exact False.elim h
   |brk=>exact False.elim h
   |cont=>exact False.elim h
   |ret u=>
    obtain⟨v,H',os,bare,un,hok',r',q⟩:=h
    have q':v=.bl true:=q
    subst q'
    obtain rfl:u=Value.bool true:=r'
    refine⟨rfl,OldK.of_keep fun b o e=>?_,os,bare⟩
    cases q:H b with
    |none=>exact un.keep b o e q (by intro z;exact absurd (show b∈([]:List Addr)from z) (by simp)) (by simp)
    |some u=>
     rcases hO b with z|⟨ob,xs,z⟩
     ·rw[q]at z;cases z
     ·have z2:=un.frzs b ob _ z
      obtain⟨e1,_⟩:=hok b _ z
      obtain⟨e2,_⟩:=hok' b _ z2
      rw[e]at e1;cases e1
      exact e2
 cases hk:K.lookup a with
 |some o=>
  have e:=KX a o hk
  rw[ha]at e
  cases e
  refine core (fun _=>none) (fun _=>.inl rfl) (.inr ⟨_,vs.toArray,_,hk,rfl,rfl,rfl,by rw[aN,lenV];exact hl,by simpa using rv⟩) (fun b u z=>by have z':(none:Option HO)=some u:=z;cases z') (fun b z=>absurd rfl z) fun z=>absurd rfl z
 |none=>
  refine core (fun b=>if b=a then some (.frz { cls:=.type "list",data:=.seq vs.toArray } (.lst (ns.map V.int)))else none) (fun b=>?_) (.inl (.inr ⟨{ cls:=.type "list",data:=.seq vs.toArray },au rfl⟩)) (fun b u z=>?_) (fun b z=>?_) fun _=>hk
  ·by_cases hb:b=a
   ·exact .inr ⟨_,_,au hb⟩
   ·exact .inl (ax hb)
  ·by_cases hb:b=a
   ·have z':=(au hb).symm.trans z
    cases z'
    subst hb
    exact⟨ha,by rw[al];exact hl,vs,_,rv,ha⟩
   ·have z':=(ax hb).symm.trans z
    cases z'
  ·by_cases hb:b=a
   ·exact hb
   ·exact absurd (ax hb) z
theorem walk_of{l:PySem.W.OpenLaw}{n k:Nat}{q:Program}{xL:List Str}{d:DefRec}{K:Params->Frag}{CX:World->Ea}{sp:World->Sp}{x:Str}
  (hn:l.most=some n) (U7:n<=sizeLine) (UC:d.params.defaults=[]) (hr:g_ k callerA)
  (hY:∀(w:World) (h:Heap),YP w h->(K w.params).In h)
  (F:∀(w:World) (mg:Str->Option Value) (fa:Addr) (h:Heap),(K w.params).In h->h.Ns mainGlobals mg->mg d.name=some (.ref fa) ->
   ∃fd:FuncData,(∀(s:Shared) (u:Value),BindsTo s fd ⟨[u],[]⟩ [(x,u)]) /\
    ∀base:Heap,(K w.params).In base->base.Ns mainGlobals mg->cX l.prog w (K w.params) mg base (CX w) k fa fd [x] (sp w))
  (NL:∀(w:World) (H:Hp) (a:Addr) (ns:List Int),ns.length<=n->Kb H->oZ (K w.params) H a (ns.map V.int)->sp w [.ref a] H (fun v _=>v=.bl true) fun _ _ _=>False)
  (Wd:∀(w:World) (H:Hp) (s:Shared) (e:Value) (s':Shared),CX w [] H s (fun _ _ _=>False) e s'->False) :
  PySem.W.WalkO q xL XP YP l.row.toRowW d [] (fun f vs=>PySem.call f vs):=by
 refine Att.attach_call hn UC fun w s₀ s₁ mg mb fa o pm cd se a vs ns G Y ho hd E2 hmg hobj hints da hg=>?_
 have KX:=hY w _ Y
 obtain⟨fd,hb,hF⟩:=F w mg fa _ KX G.T.g hmg
 exact Fq KX G.T.g G.T.b G.T.builtins G.T.nolimit hg hobj hints (aL da U7) hr hF hb (fun H hO hS=>NL w H a ns da hO hS) fun H e s'=>Wd w H s₁ e s'
noncomputable def hG(s:Stmt):Arguments:=match s with
 |.FunctionDef _ a _ _ _ _ _ _ _ _=>a
 |_=>{ posonlyargs:=[],args:=[],vararg:=none,kwonlyargs:=[],kw_defaults:=[],kwarg:=none,defaults:=[] }
noncomputable def gi(s:Stmt):List Stmt:=match s with
 |.FunctionDef _ _ b _ _ _ _ _ _ _=>b
 |_=>[]
noncomputable def aR(s:Stmt):Scope:=match s with
 |.FunctionDef _ _ _ _ _ _ sc _ _ _=>sc
 |_=>{ kind:=.function,names:=[],isGenerator:=false,isCoroutine:=false }
structure i9(K:Frag)(x f':Str)(st:Stmt)(f:Addr)(fd:FuncData):Prop where
 ex:∃(oc:Value) (od:Option Addr) (kV se pm:Value) (an:Option Addr) (fO ct:Value) (NB:Array (Option Value)),
  fd=fnOf x f' (hG st) (gi st) (aR st) .none kV se pm an fO ct/\K.lookup f=some ⟨oc,od,.func fd,NB⟩/\codeIn K fO f'=true
 kp:keepIn K (.ref f)=true
section
variable{w:World}
theorem i9.binds{x f':Str}{st:Stmt}{f:Addr}(F:i9 K x f' st f fd)
  (h:∀(kV se pm:Value) (an:Option Addr) (fO ct:Value) (us:List Value),us.length=ps.length->bindArgs (fnOf x f' (hG st) (gi st) (aR st) .none kV se pm an fO ct) ⟨us,[]⟩=pure (ps.zip us)):pE K fd ps []:=by
 obtain⟨oc,od,kV,se,pm,an,fO,ct,NB,rfl,lk,E2⟩:=F.ex
 exact .all (h kV se pm an fO ct)
theorem xZ{x f':Str}{st:Stmt}{f:Addr}{oc:Value}{od an:Option Addr}{NB:Array (Option Value)}{kV se pm fO ct:Value}(l:K.lookup f=some ⟨oc,od,.func (fnOf x f' (hG st) (gi st) (aR st) .none kV se pm an fO ct),NB⟩)
  (c:codeIn K fO f'=true) (k:keepIn K (.ref f)=true):i9 K x f' st f (fnOf x f' (hG st) (gi st) (aR st) .none kV se pm an fO ct):=⟨⟨oc,od,kV,se,pm,an,fO,ct,NB,rfl,l,c⟩,k⟩
end
theorem Fs{k:Nat}(hr:g_ k A):A.units+1<cLine:=iM (Nat.add_le_add_left (by decide:1<=64) _) hr.units
section
theorem pv(i:Nat){x:Str}{pos:Pos}(hN:X.N[i]?=some x:=by rfl)(hv:Rs X.env.scope x:=by first|exact Or.inl rfl|exact Or.inr (Or.inl rfl)|exact Or.inr (Or.inr rfl))(hd:(x==("__debug__":Str))=false:=by decide)
  (E2:(x==("__classdict__":Str))=false:=by decide):PE X (.Name x pos) (Rt i):=NT hN hv hd E2
end
def uc(H H':Hp):Prop:=∀b o,H b=some o->H' b=some o
theorem uc.refl(H:Hp):uc H H:=fun _ _ h=>h
section
variable{κ:Type}[DecidableEq κ]
noncomputable def py(kvs:List (κ×V))(k:κ):Option V:=(kvs.find? fun kv=>decide (kv.1=k)).map (·.2)
noncomputable def sv(kvs:List (κ×V))(k:κ)(v:V):List (κ×V):=
 if (kvs.any fun kv=>decide (kv.1=k))=true then kvs.map (fun kv=>if kv.1=k then(kv.1,v)else kv)else kvs++[(k,v)]
theorem qw{p:κ×V}{r:List (κ×V)}{k:κ}(e:p.1=k):py (p::r) k=some p.2:=by simp[py,bZ,e]
theorem qx{p:κ×V}{r:List (κ×V)}{k:κ}(e:¬ p.1=k):py (p::r) k=py r k:=by simp[py,bZ,e]
theorem zp(k:κ):∀kvs:List (κ×V),(kvs.any fun kv=>decide (kv.1=k))=(py kvs k).isSome
 |[]=>rfl
 |p::r=>by
  rw[me]
  by_cases e:p.1=k
  ·simp only[qw e,bf e,Bool.true_or,Option.isSome_some]
  ·rw[qx e,a8 e,Bool.false_or];exact zp k r
theorem tJ(kvs:List (κ×V))(k:κ)(v:V):(sv kvs k v).length<=kvs.length+1:=by
 unfold sv
 split
 ·rw[al];omega
 ·rw[aE,br,gr];omega
theorem nZ.isSome_eq{o:Option V}{u:Option Value}(r:nZ o u):o.isSome=u.isSome:=by
 cases o with
 |none=>cases u with
  |none=>rfl
  |some _=>exact(show False from r).elim
 |some _=>cases u with
  |none=>exact(show False from r).elim
  |some _=>rfl
theorem nZ.getD{o:Option V}{u:Option Value}{d:V}{d':Value}(r:nZ o u)(rd:cD d d'):cD (o.getD d) (u.getD d'):=by
 cases o with
 |none=>cases u with
  |none=>exact rd
  |some _=>exact(show False from r).elim
 |some _=>cases u with
  |none=>exact(show False from r).elim
  |some _=>exact r
theorem KV.val{kvs:List (κ×V)}{vs:List (κ×Value)}(r:KV kvs vs)(k:κ):nZ (py kvs k) (valueAt vs k):=by
 unfold KV at r
 induction r with
 |nil=>exact True.intro
 |@cons p q ps qs h t ih=>
  obtain⟨h1,h2⟩:=h
  by_cases e:p.1=k
  ·have e':q.1=k:=h1.symm.trans e
   have b:valueAt (q::qs) k=some q.2:=by simp[valueAt,bZ,e']
   rw[qw e,b];exact h2
  ·have e':¬ q.1=k:=fun z=>e (h1.trans z)
   have b:valueAt (q::qs) k=valueAt qs k:=by simp[valueAt,bZ,e']
   rw[qx e,b];exact ih
theorem KV.any{kvs:List (κ×V)}{vs:List (κ×Value)}(r:KV kvs vs)(k:κ):(kvs.any fun kv=>decide (kv.1=k))=vs.any fun kv=>decide (kv.1=k):=by
 unfold KV at r
 induction r with
 |nil=>rfl
 |cons h t ih=>rw[me,me,ih,h.1]
theorem KV.repl{kvs:List (κ×V)}{vs:List (κ×Value)}(r:KV kvs vs)(k:κ)(ry:cD y u) :
  KV (kvs.map fun kv=>if kv.1=k then(kv.1,y)else kv) (vs.map fun kv=>if kv.1=k then(kv.1,u)else kv):=by
 unfold KV at r ⊢
 induction r with
 |nil=>exact .nil
 |@cons p q ps qs h t ih=>
  rw[aP,aP]
  refine .cons ?_ ih
  obtain⟨h1,h2⟩:=h
  by_cases e:p.1=k
  ·rw[au e,au (h1.symm.trans e)];exact⟨h1,ry⟩
  ·rw[ax e,ax (fun z=>e (h1.trans z))];exact⟨h1,h2⟩
theorem KV.put{kvs:List (κ×V)}{vs:List (κ×Value)}(r:KV kvs vs)(k:κ)(ry:cD y u):KV (sv kvs k y) (stored vs k u):=by
 unfold sv stored
 rw[r.any k]
 by_cases e:(vs.any fun kv=>decide (kv.1=k))=true
 ·rw[au e,au e];exact r.repl k ry
 ·rw[ax e,ax e];exact Paired.snoc r ⟨rfl,ry⟩
theorem KV.length{kvs:List (κ×V)}{vs:List (κ×Value)}(r:KV kvs vs):kvs.length=vs.length:=Paired.length r
end
theorem CM{w:World}{k:jv}(r:cD (kV k) u):(d9 P w).is k u=true:=by
 cases k with
 |inl i=>obtain⟨t,e⟩:=(show ∃t,u=Value.int i t from r);subst e;exact zh P w i t
 |inr x=>obtain⟨t,e⟩:=(show ∃t,u=Value.str x t from r);subst e;exact zi P w x t
theorem w6{w:World}:∀{ks:List jv} {us:List Value},cu (ks.map kV) us->ItemsAre (d9 P w) ks us
 |[],_,r=>by rw[rY]at r;cases r;exact .nil
 |k::ks,_,r=>by
  rw[aP]at r
  cases r with
  |cons h t=>exact .cons (CM h) (w6 t)
abbrev KT(H:Hp):List (List jv×V)->List (List jv×Addr×Value)->Prop:=Paired fun p q=>p.1=q.1/\H q.2.1=some (.tup (p.1.map kV))/\cD p.2 q.2.2
theorem KT.val{kvs:List (List jv×V)}(r:KT H kvs xs)(k:List jv):nZ (py kvs k) ((atKey xs k).map (·.2)):=by
 induction r with
 |nil=>exact True.intro
 |@cons p q ps qs h t ih=>
  obtain⟨h1,_,h2⟩:=h
  by_cases e:p.1=k
  ·have e':q.1=k:=h1.symm.trans e
   have b:atKey (q::qs) k=some q.2:=by simp[atKey,bZ,e']
   rw[qw e,b];exact h2
  ·have e':¬ q.1=k:=fun z=>e (h1.trans z)
   have b:atKey (q::qs) k=atKey qs k:=by simp[atKey,bZ,e']
   rw[qx e,b];exact ih
theorem KT.repl{kvs:List (List jv×V)}(r:KT H kvs xs)(k:List jv)(ry:cD y u) :
  KT H (kvs.map fun kv=>if kv.1=k then(kv.1,y)else kv) (xs.map (putAt k u)):=by
 induction r with
 |nil=>exact .nil
 |@cons p q ps qs h t ih=>
  rw[aP,aP]
  refine .cons ?_ ih
  obtain⟨h1,h2,h3⟩:=h
  unfold putAt
  by_cases e:p.1=k
  ·rw[au e,au (h1.symm.trans e)];exact⟨h1,h2,ry⟩
  ·rw[ax e,ax (fun z=>e (h1.trans z))];exact⟨h1,h2,h3⟩
theorem KT.put{kvs:List (List jv×V)}(r:KT H kvs xs)(k:List jv)(hb:H b=some (.tup (k.map kV)))(ry:cD y u) :
  KT H (sv kvs k y) (storedH xs k b u):=by
 have e:(kvs.any fun kv=>decide (kv.1=k))=(atKey xs k).isSome:=by
  rw[zp,(r.val k).isSome_eq,Option.isSome_map]
 unfold sv storedH
 rw[e]
 by_cases q:(atKey xs k).isSome=true
 ·rw[au q,au q];exact r.repl k ry
 ·rw[ax q,ax q];exact Paired.snoc r ⟨rfl,hb,ry⟩
theorem KT.keeps{kvs:List (List jv×V)}(r:KT H kvs xs)(ht:∀b ys,H b=some (.tup ys)->H' b=some (.tup ys)):KT H' kvs xs:=
 Paired.mapP r fun _ _ z=>⟨z.1,ht _ _ z.2.1,z.2.2⟩
section
variable{w:World}
theorem LQ{u:HO}(ok:p5 P w H h)(e:Rd H a u):fH P w H h a u:=e.ok ok
theorem zq(ok:p5 P w H h)(e:Rd H a (.dK kvs)):kvs.length<=sizeLine/\(a==sysModules)=false/\∃vs,KV kvs vs/\h.DictOf (d9 P w) a vs:=
 show fH P w H h a (.dK kvs)from LQ ok e
theorem LR(ok:p5 P w H h)(e:H a=some (.dK kvs)):kvs.length<=sizeLine/\(a==sysModules)=false/\∃vs,KV kvs vs/\h.DictOf (d9 P w) a vs:=zq ok (.inl e)
theorem x5{ks:List jv}(ok:p5 P w H h)(e:H a=some (.tup (ks.map kV))):(tupleKind (d9 P w)).is h ks a:=by
 obtain⟨_,bq,r,o,h1,h2,n,h3⟩:=(show fH P w H h a (.tup (ks.map kV))from ok a _ e)
 exact⟨o,bq.toArray,n,h1,h2,h3,by simpa using w6 r⟩
theorem zr{kvs:List (List jv×V)}(ok:p5 P w H h)(e:Rd H a (.dT kvs)):kvs.length<=sizeLine/\(a==sysModules)=false /\
  ∃xs,KT H kvs xs/\h.DictOfH (tupleKind (d9 P w)) a xs:=by
 obtain⟨z,y,xs,r,o,es,ep,h1,h2,h3,h4,h5⟩:=(show fH P w H h a (.dT kvs)from LQ ok e)
 refine⟨z,y,xs,r,o,es,ep,h1,h2,h3,h4,fun x hx=>?_,h5⟩
 have all:∀{l:List (List jv×V)} {m:List (List jv×Addr×Value)},KT H l m->∀x∈m,(tupleKind (d9 P w)).is h x.1 x.2.1:=by
  intro l m q
  induction q with
  |nil=>intro x hx;exact nomatch hx
  |@cons p q ps qs hq t ih=>
   intro x hx
   rcases aH.mp hx with e|hx
   ·subst e
    exact x5 ok (by rw[<- hq.1];exact hq.2.1)
   ·exact ih x hx
 exact all r x hx
theorem R0{kvs:List (List jv×V)}(ok:p5 P w H h)(e:H a=some (.dT kvs)):kvs.length<=sizeLine/\(a==sysModules)=false /\
  ∃xs,KT H kvs xs/\h.DictOfH (tupleKind (d9 P w)) a xs:=zr ok (.inl e)
end
def wz(H:Hp)(a:Addr)(y:V)(r:Option V):Prop:=
 (∃kvs k,Rd H a (.dK kvs)/\y=kV k/\r=py kvs k)\/∃kvs k b,Rd H a (.dT kvs)/\y=.ref b/\H b=some (.tup (k.map kV))/\r=py kvs k
def Kc(H:Hp)(a:Addr)(y v:V)(H':Hp):Prop:=
 (∃kvs k,H a=some (.dK kvs)/\y=kV k/\kvs.length<sizeLine/\H'=ei H a (.dK (sv kvs k v))) \/
 ∃kvs k b,H a=some (.dT kvs)/\y=.ref b/\H b=some (.tup (k.map kV))/\kvs.length<sizeLine/\H'=ei H a (.dT (sv kvs k v))
theorem Kc.k{k:jv}{v:V}(e:H a=some (.dK kvs))(hl:kvs.length<sizeLine):Kc H a (kV k) v (ei H a (.dK (sv kvs k v))):=.inl ⟨kvs,k,e,rfl,hl,rfl⟩
section
variable{v:V}{r:Value}{o:Option V}
theorem bA.big(I:bA X ag σ H s):sysModules<s.heap.objs.size:=by
 have h:mainGlobals<s.heap.objs.size:=(I.mod.glob.keeps I.bk).lt
 exact Nat.lt_trans (by decide) h
theorem Eh(hu:A.units+1<cLine)(I:bA X ag σ H s)(g:wz H a y (some v))(ry:cD y u)(h:∀w' s',bA X ag σ H s'->cD v w'->Q w' s') :
  wpAny (model X.prog X.w) A (getItem (.ref a) u) Q E s:=by
 rcases g with⟨kvs,k,e,ey,l⟩|⟨kvs,k,b,e,ey,eb,l⟩
 ·subst ey
  obtain⟨z,hd,vs,rel,dd⟩:=zq I.hok e
  obtain⟨w',hw,ql⟩:=nZ.some_of (v:=v) (o:=valueAt vs k) (by rw[l];exact rel.val k)
  exact wpAny_getItem_of (CM ry) dd.mapOf hw (h w' _ (I.tok _) ql)
 ·subst ey
  cases(show u=Value.ref b from ry)
  obtain⟨z,hd,xs,rel,dd⟩:=zr I.hok e
  obtain⟨w',hw,ql⟩:=nZ.some_of (v:=v) (o:=(atKey xs k).map (·.2)) (by rw[l];exact rel.val k)
  obtain⟨p,hp,hp2⟩:=aG.mp hw
  refine wpAny_getItem_heap (lx hu) (x5 I.hok eb) dd hp ?_
  rw[hp2]
  exact h w' _ (I.tok _) ql
theorem CN{ob:HO}(I:bA X ag σ H s)(mu:Rq (H a))(hs:Heap.SameBut a s.heap h')(he:∃q,h'.get? a=some q)(new:fH X.prog X.w (ei H a ob) h' a ob) :
  bA X ag σ (ei H a ob) { s with heap:=h',toks:=t' }:=
 I.write (x:=a) (e:=a) mu (.inl rfl) (fun b q hb z=>(hs.2 b hb).trans z) he new
theorem OA{w:World}{vs:List (jv×Value)}(z:kvs.length<=sizeLine)(hd:(a==sysModules)=false)(rel:KV kvs vs)(dd:h'.DictOf (d9 P w) a vs) :
  fH P w H' h' a (.dK kvs):=⟨z,hd,vs,rel,dd⟩
theorem Ei{Q:Unit->Shared->Prop}(hu:A.units+1<cLine)(I:bA X ag σ H s)(g:Kc H a y v H')(ry:cD y u)(rv:cD v r)(h:∀s',bA X ag σ H' s'->Q () s') :
  wpAny (model X.prog X.w) A (setItem (.ref a) u r) Q E s:=by
 rcases g with⟨kvs,k,e,ey,l,eH⟩|⟨kvs,k,b,e,ey,eb,l,eH⟩
 ·subst ey eH
  obtain⟨z,hd,vs,rel,dd⟩:=LR I.hok e
  have hz:vs.length<=sizeLine:=by rw[<- rel.length];exact z
  have hl:(sv kvs k v).length<=sizeLine:=by have:=tJ kvs k v;omega
  refine wpAny_setItem_pairs (hsz:=hz) (CM ry) dd fun h' dd' hs=>h _ ?_
  have he:∃q,h'.get? a=some q:=let ⟨q,_,_,hq,_⟩:=dd';⟨q,hq⟩
  exact CN I (by rw[e];exact True.intro) hs he (OA hl hd (rel.put k rv) dd')
 ·subst ey eH
  cases(show u=Value.ref b from ry)
  obtain⟨z,hd,xs,rel,dd⟩:=R0 I.hok e
  have hz:xs.length<=sizeLine:=by rw[<- Paired.length rel];exact z
  have hl:(sv kvs k v).length<=sizeLine:=by have:=tJ kvs k v;omega
  refine wpAny_setItem_heap (hsz:=hz) (lx hu) (x5 I.hok eb) dd fun h' dd' hs=>h _ ?_
  obtain⟨q,es,ep,hq,h2,h3,h4,_,h5⟩:=dd'
  refine CN I (by rw[e];exact True.intro) hs ⟨q,hq⟩ ⟨hl,hd,_,(rel.put k eb rv).keeps fun c ys ec=>?_,q,es,ep,hq,h2,h3,h4,h5⟩
  rw[cv (Rp ec e (fun z=>nomatch z))]
  exact ec
end
section
variable{k:jv}
end
def OB(i:Expr):Prop:=∀ov iv,subscripted i false ov iv=operate [ov,iv] (getItem ov iv)
theorem Kd{w:World}{value slice:Expr}{T id:String}
  (hl:typeLookup (.type T) "__getitem__"=pure (some (.builtin id))) (hs:OB slice)
  (h:wpAny (model prog w) A (eval value env) (fun o s₁=>wpAny (model prog w) A (eval slice env) (fun i s₂=>s₂.TypeIs o T/\wpAny (model prog w) A (getItem o i) Q E s₂) E s₁) E s) :
  wpAny (model prog w) A (eval (.Subscript value slice pos) env) Q E s:=by
 refine Subscript_ (eJ h (fun o s₁ h₁=>eJ h₁ (fun i s₂ h₂=>?_) fun _ _ x=>x) fun _ _ x=>x)
 obtain⟨hT,h₂⟩:=h₂
 unfold subscriptTail
 refine aa ?_
 rw[getitemInPython_of_ne hT.not_modules]
 refine aa (iE hT hl ?_)
 have fin:wpAny (model prog w) A (subscripted slice false o i) (fun r s₃=>wpAny (model prog w) A (letTemporaryGo value o r >>= fun _=>pure r) Q E s₃) E s₂:=by
  rw[hs o i]
  exact wpAny_operating (eJ h₂ (fun r s₃ h₃=>aa (wpAny_letTemporaryGo (aq h₃))) fun _ _ x=>x)
 first
  |exact aq (aa fin)
  |exact aa (aq (aa fin))
  |exact aa fin
theorem zt{o:Option V}(I:bA X ag σ H s)(g:wz H a y o):s.TypeIs (.ref a) "dict":=by
 rcases g with⟨kvs,k,e,_,_⟩|⟨kvs,k,b,e,_,_,_⟩
 ·obtain⟨_,_,vs,_,dd⟩:=zq I.hok e
  exact dd.typeIs
 ·obtain⟨_,_,xs,_,dd⟩:=zr I.hok e
  exact dd.typeIs
def R1(td ty:TE):TE:=fun σ H Q=>td σ H fun x H1=>ty σ H1 fun y H2=>∃a v,x=.ref a/\wz H2 a y (some v)/\Q v H2
section
variable{i value:Expr}{Wb:Pos}{td ty tv:TE}
theorem Ke(hu:X.A.units+1<cLine)(ho:PE X o td)(hi:PE X i ty)(hs:OB i):PE X (.Subscript o i pos) (R1 td ty):=by
 intro ag s σ H Q I h
 refine Kd PySem.F.slot_dict_getitem.lookup hs (gg (ho ag s σ H _ I h) fun u s1 ⟨x,H1,I1,rx,q1⟩=>gg (hi ag s1 σ H1 _ I1 q1) fun iv s2 zq=>?_)
 obtain⟨y,H2,I2,ry,a,v,ex,g,q2⟩:=zq
 subst ex
 obtain rfl:u=Value.ref a:=rx
 exact⟨zt I2 g,Eh hu I2 g ry fun w' s3 I3 ql=>⟨v,H2,I3,ql,q2⟩⟩
end
theorem Ft{w:World}(h:Heap)(hb:sysModules<h.objs.size):fH P w H (h.push { cls:=.type "dict",data:=.dict #[] }) h.objs.size (.dK []):=
 ⟨cL _,bI.mpr (Ne.symm (aX hb)),[],.nil,Heap.DictOf.new h⟩
def OC:TE:=fun _ H Q=>∀p,H p=none->Q (.ref p) (ei H p (.dK []))
section
theorem Fu:PE X (.Dict [] [] pos) OC:=fun ag s σ H Q I h=>
 wpAny_Dict_empty ⟨.ref s.heap.objs.size,_,I.laid (a:=s.heap.objs.size) (o:=.dK []) (t':=s.toks) (fun _ _ q=>ai _ q) (aw _) (Ft s.heap I.big),rfl,h _ (I.hok.fresh (aw _))⟩
end
structure M2(X:Cx)(o:Expr)(m:Str)(fm:Pos)(e f:Expr)(dw:Pos):Prop where
 base:attributeBase o m X.env (eval o X.env)=eval o X.env
 few:((backTo dw (starEach [e,f] X.env)).all (fun x=>!x.1)&&(backToKw dw (keywordEach [] X.env)).all (fun x=>x.1.isSome)
  && decide (([e,f]:List Expr).length+([]:List Keyword).length+(if ([]:List Keyword).isEmpty then 0 else 1)<30))=true
 line:(fm.endLine==dw.line)=true
 trees:backTo dw (starEach [e,f] X.env)=[(false,eval e X.env),(false,eval f X.env)]
def Wo(H:Hp)(a:Addr):Prop:=(∃kvs,Rd H a (.dK kvs))\/∃kvs,Rd H a (.dT kvs)
theorem OD(I:bA X ag σ H s)(d:Wo H a) :
  s.TypeIs (.ref a) "dict"/\(∀b,Value.ref a=.ref b->∃ob,s.heap.get? b=some ob/\ob.dict=none)/\(a==sysModules)=false:=by
 rcases d with⟨kvs,e⟩|⟨kvs,e⟩
 ·obtain⟨_,hd,vs,_,dd⟩:=zq I.hok e
  refine⟨dd.typeIs,fun b q=>?_,hd⟩
  cases q
  obtain⟨ob,_,_,h1,h2,_⟩:=dd
  exact⟨ob,h1,h2.2.1⟩
 ·obtain⟨_,hd,xs,_,dd⟩:=zr I.hok e
  refine⟨dd.typeIs,fun b q=>?_,hd⟩
  cases q
  obtain⟨ob,_,_,h1,h2,_⟩:=dd
  exact⟨ob,h1,h2.2.1⟩
section
variable{d:V}{r:Value}{o:Option V}
theorem OE(hu:A.units+1<cLine)(I:bA X ag σ H s)(g:wz H a y o)(ry:cD y u)(rd:cD d r)(h:∀w' s',bA X ag σ H s'->cD (o.getD d) w'->Q w' s') :
  wpAny (model X.prog X.w) A (call (.builtin "dict.get") [.ref a,u,r]) Q E s:=by
 rcases g with⟨kvs,k,e,ey,l⟩|⟨kvs,k,b,e,ey,eb,l⟩
 ·subst ey
  obtain⟨z,hd,vs,rel,dd⟩:=zq I.hok e
  refine rZ PySem.F.slot_dict_get dd.typeIs PySem.F.entry_dict_get (PySem.F.args_dict_get_3 _ _ _) (meets_dict_get_default (d9 X.prog X.w) a (CM ry) hd r) ⟨_,dd.mapOf,h _ _ (I.tok _) ?_⟩
  rw[l]
  exact(rel.val k).getD rd
 ·subst ey
  cases(show u=Value.ref b from ry)
  obtain⟨z,hd,xs,rel,dd⟩:=zr I.hok e
  refine rZ PySem.F.slot_dict_get dd.typeIs PySem.F.entry_dict_get (PySem.F.args_dict_get_3 _ _ _) (meetsH_dict_get_default (tupleKind (d9 X.prog X.w)) a b hd r) ⟨lx hu,k,xs,x5 I.hok eb,dd,h _ _ (I.tok _) ?_⟩
  rw[l]
  exact(rel.val k).getD rd
end
def OF(td ty tx:TE):TE:=fun σ H Q=>td σ H fun x H1=>∃a,x=.ref a/\Wo H1 a/\ty σ H1 fun y H2=>tx σ H2 fun z H3=>∃o,wz H3 a y o/\Q (o.getD z) H3
section
variable{f:Expr}{td ty tx:TE}
theorem Fv(hu:X.A.units+1<cLine)(ho:PE X o td)(he:PE X e ty)(hf:PE X f tx)(m:M2 X o "get" fm e f dw):PE X (.Call (.Attribute o "get" fm) [e,f] [] dw) (OF td ty tx):=by
 intro ag s σ H Q I h
 refine wpAny_Call_method m.base m.few m.line PySem.F.plainAttrs_dict PySem.F.slot_dict_get PySem.F.type_dict_get (gg (ho ag s σ H _ I h) fun u s1 zq=>?_)
 obtain⟨x,H1,I1,rx,a,ex,d,q1⟩:=zq
 subst ex
 obtain rfl:u=Value.ref a:=rx
 obtain⟨t1,t2,_⟩:=OD I1 d
 refine⟨t1,t2,?_⟩
 rw[m.trees]
 refine gm rfl (j3 (fq (gg (he ag s1 σ H1 _ I1 q1) fun iv s2 ⟨y,H2,I2,ry,q2⟩=>
  fq (gg (hf ag s2 σ H2 _ I2 q2) fun fv s3 ⟨z,H3,I3,rz,ov,g,q3⟩=>gT ?_))))
 exact OE hu I3 g ry rz fun w' s4 I4 ql=>⟨_,H3,I4,ql,q3⟩
end
section
end
section
end
section
end
section
variable{κ:Type}[DecidableEq κ]
end
end L2
set_option maxHeartbeats 4000000
namespace L2
open PySem PySem.Spec PyProof.Rows
abbrev cS(X:Cx)(nm:List Str)(scope:Scope)(cl:List (Str×Addr))(C:Addr)(s0:Shared)(H0:Hp)(fp:List Addr):Cx:=
 { X with N:=nm,s₀:=s0,H₀:=H0,env:=compEnvC scope cl C X.env,outer:=X.stack,stack:=X.stack,ex:=fp,fn:=fun _=>false,pn:=[],xe:=fun _ _=>False }
def Fw(X:Cx)(kq:List Expr)(t:TT):Prop:=
 ∀(ag:List (Addr×Obj)) (s:Shared) (σ:St) (H:Hp) (Q:Bool->Hp->Prop),bA X ag σ H s->t σ H Q ->
  wpAny (model X.prog X.w) X.A (forIn kq true fun c r=>if r=true then do let ok <- isTrue c X.env (eval c X.env);pure (ForInStep.yield ok)else pure (ForInStep.yield r)) (TP X ag σ Q) X.xe s
def VB:TT:=fun _ H Q=>Q true H
theorem Kf:Fw X [] VB:=fun _ _ _ H _ I h=>wpAny_tests_nil ⟨H,I,h⟩
theorem Kg{t:TT}(hc:PT X c t):Fw X [c] t:=fun ag s σ H Q I h=>wpAny_tests_one (hc ag s σ H Q I h)
def pF(cap:List (Option Nat))(σ:St):St:=cap.map fun o=>o.bind fun j=>(σ[j]?).join
def uX(cap:List (Option Nat))(wi:TI)(g:TG)(tc:TT)(te:TE):TE:=fun σ H Q=>wi σ H fun J H1=>∃W:Nat->Nat->List V->Hp->Prop,(∃m,W 0 m [] H1)/\∀i m ys H2,W i m ys H2 ->
 (J.stop i H2/\ys.length<=sizeLine/\∀p,H2 p=none->Q (.ref p) (ei H2 p (.lst ys))) \/
 (J.go i H2/\∀x H3,J.yld i H2 x H3->g x (pF cap σ) H3 fun σ2 H4=>tc σ2 H4 fun b H5=>if b=true then te σ2 H5 fun y H6=>ys.length<sizeLine/\∃m',m'<m/\W (i+1) m' (ys++[y]) H6 else ∃m',m'<m/\W (i+1) m' ys H5)
theorem Un.cellK{fs ex:List Addr}(u:Un fs ex H H' h h'){c:Addr}{v:Option Value}(x:h.IsCell c v)(n:H c=none)(he:c∉ex):h'.IsCell c v:=by
 obtain⟨o,ho,hd⟩:=x
 obtain⟨sl,q⟩:=u.any ho n he
 exact⟨_,q,hd⟩
structure uY(X:Cx)(scope:Scope)(cl:List (Str×Addr))(x:Str):Prop where
 vis:Rs X.env.scope x
 nl:X.env.scope.names.lookup x≠some .local
 cl:cl.lookup x=X.env.cells.lookup x
 kd:(relabel scope X.env).names.lookup x=some .cell\/(relabel scope X.env).names.lookup x=some .free
theorem l7:∀(names:List (Str×NameKind)) (n:Nat) (f_:List (Str×Addr)) {y:Str} {c:Addr},(y,c)∈cellsFrom n names f_->(y,NameKind.cell)∈names\/(y,c)∈f_
 |[],_,_,_,_,h=>.inr h
 |(x,k)::r,n,f_,y,c,h=>by
  have h:(y,c)∈(if k==.cell then cellsFrom (n+1) r ((x,n)::f_)else cellsFrom n r f_):=h
  split at h
  ·rename_i hk
   rcases l7 r _ _ h with q|q
   ·exact .inl (aA _ q)
   ·rcases aH.mp q with e|q
    ·cases e
     exact .inl (by rw[mF hk];exact aZ)
    ·exact .inr q
  ·rcases l7 r _ _ h with q|q
   ·exact .inl (aA _ q)
   ·exact .inr q
theorem iT:∀{l:List (Str×β)} {x:Str} {b:β},l.lookup x=some b->(x,b)∈l
 |[],_,_,h=>by simp at h
 |(y,c)::r,x,b,h=>by
  rw[jJ]at h
  cases hx:x==y with
  |true=>rw[hx]at h;have:=mF hx;subst this;cases h;exact aZ
  |false=>rw[hx]at h;exact aA _ (iT h)
theorem jK:∀(names:List (Str×NameKind)) (n:Nat) (f_:List (Str×Addr)),cellsFrom n names f_=cellsFrom n names []++f_
 |[],_,_=>rfl
 |(x,k)::r,n,f_=>by
  show(if k==.cell then cellsFrom (n+1) r ((x,n)::f_)else cellsFrom n r f_)=(if k==.cell then cellsFrom (n+1) r [(x,n)]else cellsFrom n r [])++f_
  split
  ·rw[jK r (n+1) ((x,n)::f_),jK r (n+1) [(x,n)],bh];rfl
  ·exact jK r n f_
abbrev eS(X:Cx)(nm:List Str)(scope:Scope)(cl:List (Str×Addr))(C:Addr)(s0:Shared)(H0:Hp)(fp:List Addr):Cx:=
 { cS X nm scope cl C s0 H0 fp with fn:=fun y=>scope.names.lookup y==some .cell }
theorem Kh{M:Model}{A:Around}{E:Value->Shared->Prop}{globals:Addr}{f':Str}{Q:Env->Shared->Prop}
  (hQ:∀h':Heap,h'.Ns s.heap.objs.size (fun x=>([]:List (Str×Value)).reverse.lookup x)->(∀b o,s.heap.get? b=some o->h'.get? b=some o)->CellsOk h' (s.heap.objs.size+1) (cellsFrom (s.heap.objs.size+1) scope.names []) ->
   Q (newEnv scope s.heap.objs.size globals (cellsFrom (s.heap.objs.size+1) scope.names []++cl) f' none .none (some env) builtinsNs) { s with heap:=h' }) :
  wpAny M A (newFunctionEnv scope globals cl [] f' none .none (some env)) Q E s:=by
 simp only[newFunctionEnv,Option.isSome_some,iC]
 refine aa (wpAny_alloc ?_)
 refine aa (wpAny_layCells _ (fun name kind cells=>by cases hkc:kind==NameKind.cell<;>simp[hkc]) _ _ _ _ ?_)
 have ok:=cellsFrom_ok scope.names (s.heap.push { cls:=.type "dict",data:=.dict #[] }) (s.heap.objs.size+1) [] ⟨fun _ _ hm=>(nomatch hm),List.Pairwise.nil⟩ (by rw[bt];exact aw _)
 rw[bt]at ok
 rw[show({ s with heap:=s.heap.push { cls:=.type "dict",data:=.dict #[] } }:Shared).heap.objs.size=s.heap.objs.size+1 from bt ..,jK _ _ cl]
 exact aa (aq (aq (hQ _ ((Heap.Ns.new s.heap (.type "dict")).keeps (pushCells_keeps _ _)) (fun b o e=>pushCells_keeps _ _ b o (ai _ e)) ok)))
section
variable{nm:List Str}{wi:TI}{g:TG}{tc:TT}
theorem x6{prog:Program}{w:World}{A:Around}{E:Value->Shared->Prop}{l:Addr}{u:Value}{Q:Value->Shared->Prop}
  (e:s.heap.get? l=some { cls:=.type "list",data:=.seq bq.toArray n }) (hz:bq.length<sizeLine)
  (h:∀(h':Heap) (n' tk:Nat),h'.get? l=some { cls:=.type "list",data:=.seq (bq++[u]).toArray n' }->(∀b o,b≠l->s.heap.get? b=some o->h'.get? b=some o)->Q .none { s with heap:=h',toks:=tk }) :
  wpAny (model prog w) A (call (.builtin "list.append") [.ref l,u]) Q E s:=by
 refine nv F.slot_list_append ⟨_,e,rfl⟩ F.entry_list_append (F.args_list_append_2 _ _) (PySem.list_append l bq.toArray n u (by rw[aN];omega)) ⟨e,?_⟩
 have q:=PySem.IsL.update e (fun a=>a.push u)
 have q2:(s.heap.update l (Obj.mapSeq fun x=>x.push u)).get? l=some { cls:=.type "list",data:=.seq (bq++[u]).toArray (if ((bq.toArray.push u).size==bq.toArray.size)=true then n else n+1) }:=by
  rw[show(s.heap.update l (Obj.mapSeq fun x=>x.push u)).get? l=_ from q];simp
 exact h _ _ s.toks q2 fun b o hb ho=>(cm s.heap (Obj.mapSeq _) (Ne.symm hb)).trans ho
structure zu(X:Cx)(ag:List (Addr×Obj))(H:Hp)(s:Shared)(C:Addr)(m:Str->Option Value):Prop where
 ns:s.heap.Ns C m
 fr:H C=none
 nl:C≠X.env.locals
 nf:C∉X.fs
 hi:X.s₀.heap.objs.size<=C
 nc:∀x c,X.env.cells.lookup x=some c->c≠C
 np:∀p∈X.pn++ag,p.1≠C
theorem zu.off{m:Str->Option Value}(B:zu X ag H s C m)(I:bA X ag σ H s)(hs:Heap.SameBut C s.heap h'):bA X ag σ H { s with heap:=h' }:=I.turned (t':=s.toks) (it:=C) (fun b o hb e=>hs.extBut b o hb e) B.fr B.nl (.inr B.hi) B.nc B.np
theorem Fx{NI:List (Addr×Obj)}{σ2:St}{H1:Hp}{s2:Shared}
  (pD:∀(i j:Nat),cap[i]?=some (some j)->∃x,nm[i]?=some x/\X.N[j]?=some x/\uY X scope cl x) (da:cap.length=nm.length)
  (I2:bA X ag σ H1 s2) (Uz:∀b∈fp,∀x c,X.env.cells.lookup x=some c->c≠b)
  (I:bA (eS X nm scope cl C s2 H1 fp) NI σ2 H s):bA (eS X nm scope cl C s2 H1 fp) NI (pF cap σ) H s:=by
 refine⟨I.ok,I.os,I.bare,I.base,?_,I.cell,I.free,I.freeC,I.pin,I.hok,by show(pF cap σ).length=nm.length;unfold pF;rw[al];exact da⟩
 obtain⟨m,hn,_⟩:=I.loc
 refine⟨m,hn,fun i x v e1 e2 e3=>?_⟩
 unfold pF at e2
 rw[aj]at e2
 cases hc:cap[i]? with
 |none=>rw[hc]at e2;cases e2
 |some oj=>
  cases oj with
  |none=>rw[hc]at e2;cases e2
  |some j=>
   rw[hc]at e2
   have e2':(σ[j]?).join=some v:=by simpa using e2
   have e2:σ[j]?=some (some v):=by
    cases hs:σ[j]? with
    |none=>rw[hs]at e2';cases e2'
    |some ov=>rw[hs]at e2';simp at e2';rw[e2']
   obtain⟨x',f1,f2,k⟩:=pD i j hc
   have hx:x'=x:=by
    have z:nm[i]?=some x:=e1
    rw[f1]at z;exact aF z
   subst hx
   obtain⟨m2,_,hl2⟩:=I2.loc
   obtain⟨u,r,l⟩:=hl2 j x' v f2 e2 k.vis
   refine⟨u,r,?_⟩
   rcases l with⟨kl,_⟩|⟨_,c,hcc,f9⟩
   ·exact absurd kl k.nl
   ·refine .inr ⟨k.kd,c,by rw[<- hcc];exact k.cl,?_⟩
    exact I.base.cellK f9 (I2.freeC _ _ hcc) fun z=>Uz c z _ _ hcc rfl
theorem Bu{Qk:VK}(ik:X.calm=true)(wc:closureFor scope X.env=pure cl)(t5:∀x c,cl.lookup x=some c->X.env.cells.lookup x=some c)
  (ij:scope.kind=.function) (qo:∀x∈scope.names,x.2=.local->scope.names.lookup x.1=some .local) (W2:∀y∈scope.names,y.2=.cell->cl.lookup y.1=none)
  (Ct:∀x,scope.names.lookup x≠some .cell->((relabel scope X.env).names.lookup x=some .cell\/(relabel scope X.env).names.lookup x=some .free)->∃c,cl.lookup x=some c)
  (pD:∀(i j:Nat),cap[i]?=some (some j)->∃x,nm[i]?=some x/\X.N[j]?=some x/\uY X scope cl x/\(x,NameKind.cell)∉scope.names) (da:cap.length=nm.length)
  (hi:PI X tg c6 wi) (hg:∀k C s0 H0 fp,PG (eS X nm scope (cellsFrom k scope.names []++cl) C s0 H0 fp) tg g) (ht:∀k C s0 H0 fp,Fw (eS X nm scope (cellsFrom k scope.names []++cl) C s0 H0 fp) kq tc)
  (he:∀k C s0 H0 fp,PE (eS X nm scope (cellsFrom k scope.names []++cl) C s0 H0 fp) nO te) (hs:∀x,foldedSetIterable c6 X.env x=pure x)
  (I:bA X ag σ H s) (h:uX cap wi g tc te σ H Qk) (fin:∀(s4:Shared) (C D:Addr) (m4:Str->Option Value) (Hn:Hp),bA X ag σ Hn s4->zu X ag Hn s4 C m4->Qk (.ref D) Hn->compPost (model X.prog X.w) X.A X.xe use Qv (.ref D) C (.ok .next) s4) :
  wpAny (model X.prog X.w) X.A (comprehension (.ListComp nO [⟨tg,c6,kq,0⟩] scope pos) scope X.env (firstIterPos [⟨tg,c6,kq,0⟩] pos) (newList []) (firstAsync [⟨tg,c6,kq,0⟩]) (firstIter [⟨tg,c6,kq,0⟩] X.env) use) Qv X.xe s:=by
 refine wpAny_comprehension_free (use:=use) rfl hs wc ij qo (gg (hi ag s σ H _ I h) fun v s1 h1=>gg h1 fun We s2 h2=>?_)
 obtain⟨it,fp,tn,J,H1,e,I2,T,cV,f2,W,⟨m0,w0⟩,turn⟩:=h2
 subst e
 have hfpn:∀b∈fp,b<s2.heap.objs.size:=fun b hb=>let ⟨o,ho,_⟩:=T.obj _ _ cV b hb;aC ho
 have hfpc:∀b∈fp,∀x c,X.env.cells.lookup x=some c->c≠b:=fun b hb=>(f2 b hb).2.2.2.2.1
 refine bF (Kh (fun h₁ hns₁ hsb₁ cok=>?_))
 dsimp only at hns₁ hsb₁ cok ⊢
 generalize hH2:s2.heap.push { cls:=.type "list",dict:=none,data:=.seq ([]:List Value).toArray }=G2 at hns₁ hsb₁ cok ⊢
 have hC:G2.objs.size=s2.heap.objs.size+1:=by rw[<- hH2,bt]
 have hDC:s2.heap.objs.size≠G2.objs.size:=by rw[hC];exact aX (cJ _)
 have old:∀b o,s2.heap.get? b=some o->h₁.get? b=some o:=fun b o e=>hsb₁ b o (hH2▸ai _ e)
 have hacc:h₁.get? s2.heap.objs.size=some { cls:=.type "list",data:=.seq ([]:List Value).toArray }:=hsb₁ _ _ (hH2▸ar _ rfl)
 have both:∀y c,(cellsFrom (G2.objs.size+1) scope.names []++cl).lookup y=some c->(cellsFrom (G2.objs.size+1) scope.names []).lookup y=some c\/cl.lookup y=some c:=fun y c e=>by
  rw[iN]at e
  cases h:(cellsFrom (G2.objs.size+1) scope.names []).lookup y with
  |none=>rw[h]at e;exact .inr e
  |some b=>rw[h]at e;exact .inl e
 have ownhi:∀y c,(cellsFrom (G2.objs.size+1) scope.names []).lookup y=some c->h₁.IsCell c none/\G2.objs.size+1<=c:=fun y c e=>cok.empty y c (PySem.mem_of_lookup e)
 have cllow:∀y c,cl.lookup y=some c->c<s2.heap.objs.size:=fun y c e=>by obtain⟨v,hv⟩:=I2.cell y c (t5 _ _ e);exact hv.lt
 have hcap0:=pD
 have pD:∀(i j:Nat),cap[i]?=some (some j)->∃x,nm[i]?=some x/\X.N[j]?=some x/\uY X scope (cellsFrom (G2.objs.size+1) scope.names []++cl) x:=fun i j e=>by
  obtain⟨x,q1,q2,k,q3⟩:=hcap0 i j e
  refine⟨x,q1,q2,k.vis,k.nl,?_,k.kd⟩
  rw[iN]
  cases h:(cellsFrom (G2.objs.size+1) scope.names []).lookup x with
  |none=>exact k.cl
  |some c=>
   rcases l7 _ _ _ (PySem.mem_of_lookup h)with z|z
   ·exact absurd z q3
   ·cases z
 have okB:(eS X nm scope (cellsFrom (G2.objs.size+1) scope.names []++cl) G2.objs.size s2 H1 fp).Ok:=by
  refine⟨I2.ok.mod,ij,I2.ok.glob,I2.ok.blt,by show s2.heap.objs.size<=G2.objs.size;omega,fun x y c h1 h2=>?_,fun x hx=>?_,fun x c h0 hc=>?_,fun hc=>I2.ok.hd ik,I2.ok.frames,.inl rfl,?_,?_,?_,?_,?_,?_,?_⟩
  ·rcases both x c h1 with q1|q1<;>rcases both y c h2 with q2|q2
   ·exact name_of_addr cok.apart (PySem.mem_of_lookup q1) (PySem.mem_of_lookup q2)
   ·exact absurd (cllow y c q2) (iP.mpr (aL (by omega) (ownhi x c q1).2))
   ·exact absurd (cllow x c q1) (iP.mpr (aL (by omega) (ownhi y c q2).2))
   ·exact I2.ok.inj x y c (t5 _ _ q1) (t5 _ _ q2)
  ·show ∃c,(cellsFrom (G2.objs.size+1) scope.names []++cl).lookup x=some c
   rw[iN]
   by_cases hq:scope.names.lookup x=some .cell
   ·obtain⟨c,e⟩:=mi (n:=G2.objs.size+1) hq
    exact⟨c,by rw[e];rfl⟩
   ·obtain⟨c,e⟩:=Ct x hq hx
    cases h:(cellsFrom (G2.objs.size+1) scope.names []).lookup x with
    |none=>exact⟨c,e⟩
    |some b=>exact⟨b,rfl⟩
  ·have hq:scope.names.lookup x=some .cell:=by simpa using h0
   obtain⟨b,e⟩:=mi (n:=G2.objs.size+1) hq
   have hc:(cellsFrom (G2.objs.size+1) scope.names []++cl).lookup x=some c:=hc
   rw[iN,e]at hc
   cases hc
   have:=(ownhi x _ e).2
   show s2.heap.objs.size<=_
   omega
  ·intro b hb
   exact⟨aX (aU (hfpn b hb) (by show _<=G2.objs.size;omega)),fun x c hx=>(both x c hx).elim (fun q=>fJ (aU (hfpn b hb) (aL (by omega) (ownhi x c q).2))) fun q=>hfpc b hb x c (t5 _ _ q)⟩
  ·exact fun b o hb=>I2.bs b o hb
  ·exact aL I2.ok.bsz I2.sz
  ·intro b o hb z
   rcases(f2 b z).2.2.2.1 with q|q
   ·exact I2.ok.noex b o hb q
   ·exact absurd (aC (I2.ok.bs b o hb).1) (iP.mpr q)
  ·intro b hb z
   rcases aH.mp (I2.stkSub b z)with q|q
   ·exact(f2 b hb).2.1 q
   ·exact(f2 b hb).2.2.1 q
  ·exact I2.stack
  ·exact I2.stkFree
 have I4:bA (eS X nm scope (cellsFrom (G2.objs.size+1) scope.names []++cl) G2.objs.size s2 H1 fp) [] (pF cap σ) H1 { s2 with heap:=h₁ }:=by
  refine Fx pD da I2 hfpc (σ2:=List.replicate nm.length none) ⟨okB,rfl,I2.bare,Un.kept old,⟨_,hns₁,fun i x v _ e2=>?_⟩,fun x c hx=>?_,?_,fun x c hx=>(both x c hx).elim (fun q=>I2.hok.fresh (by have:=(ownhi x c q).2;omega)) fun q=>I2.freeC x c (t5 _ _ q),fun p hp=>absurd hp (by simp),I2.hok.kept old,by simp⟩
  ·rw[iW]at e2;split at e2<;>cases e2
  ·rcases both x c hx with q|q
   ·exact⟨none,(ownhi x c q).1⟩
   ·obtain⟨v,hv⟩:=I2.cell x c (t5 _ _ q)
    exact⟨v,hv.keeps old⟩
  ·exact I2.hok.fresh (by show _<=G2.objs.size;omega)
 have hsz0:∀{Hx:Hp} {sx:Shared} {px:List (Addr×Obj)} {σx:St},bA (eS X nm scope (cellsFrom (G2.objs.size+1) scope.names []++cl) G2.objs.size s2 H1 fp) px σx Hx sx->Hx s2.heap.objs.size=none->∀{oa:Obj},sx.heap.get? s2.heap.objs.size=some oa->(∀v,oa.data≠.cell v) ->
   bA (eS X nm scope (cellsFrom (G2.objs.size+1) scope.names []++cl) G2.objs.size s2 H1 fp) [(s2.heap.objs.size,oa)] σx Hx sx:=fun{Hx sx px σx} Ix hn {oa} ho hd=>Ix.pins_of fun p hp=>by
  have e:p=(s2.heap.objs.size,oa):=by simpa using hp
  subst e
  exact⟨ho,hn,hDC,fun z=>by
   obtain⟨_,o,q,_⟩:=I2.stack.mem z
   exact absurd (aC q) (cW _),hd⟩
 have hfpB:∀{Hx:Hp} {oa:Obj},(∀b∈fp,Hx b=none)->∀b∈fp,sf (eS X nm scope (cellsFrom (G2.objs.size+1) scope.names []++cl) G2.objs.size s2 H1 fp) [(s2.heap.objs.size,oa)] Hx b:=fun{Hx oa} hn b hb=>
  ⟨hn b hb,(okB.exf b hb).1,okB.exfs b hb,.inl hb,(okB.exf b hb).2,fun p hp=>by
   have e:p=(s2.heap.objs.size,oa):=by simpa using hp
   subst e
   exact fJ (hfpn b hb)⟩
 have hcalmB:(eS X nm scope (cellsFrom (G2.objs.size+1) scope.names []++cl) G2.objs.size s2 H1 fp).calm=true:=ik
 have loop:∀sx:Shared,sx={ s2 with heap:=h₁ } ->
   codeAny (model X.prog X.w) X.A (.compLoop (.ListComp nO [⟨tg,c6,kq,0⟩] scope pos) 0 (.ref it) (.ref s2.heap.objs.size) (compEnvC scope (cellsFrom (G2.objs.size+1) scope.names []++cl) G2.objs.size X.env))
    (compPost (model X.prog X.w) X.A X.xe use Qv (.ref s2.heap.objs.size) G2.objs.size) sx:=by
  rintro sx rfl
  refine codeAny_loop rfl (fun n s'=>∃i ys H',bA (eS X nm scope (cellsFrom (G2.objs.size+1) scope.names []++cl) G2.objs.size s2 H1 fp) [] (pF cap σ) H' s'/\tn i s'.heap/\(∀b∈fp,H' b=none)/\H' s2.heap.objs.size=none /\
   (∃bq k,cu ys bq/\s'.heap.get? s2.heap.objs.size=some { cls:=.type "list",data:=.seq bq.toArray k })/\W i n ys H') ?_ m0
   ⟨0,[],H1,I4,T.keep _ _ _ cV (fun b _ o e=>old b o e),fun b hb=>(f2 b hb).1,I2.fresh,⟨[],0,.nil,hacc⟩,w0⟩
  rintro n s3 ⟨i,ys,H3,I3,lZ,fr3,na3,⟨bq,ka,rv,ea⟩,w3⟩
  show wpAny _ X.A ((compTurn (.ListComp nO [⟨tg,c6,kq,0⟩] scope pos) 0 (.ref it) (.ref s2.heap.objs.size) (compEnvC scope (cellsFrom (G2.objs.size+1) scope.names []++cl) G2.objs.size X.env)).onRaise (fun x=>do noteFrame x (compEnvC scope (cellsFrom (G2.objs.size+1) scope.names []++cl) G2.objs.size X.env);theTreesLotGoes x)) _ _ s3
  refine wpAny_noted ?_
  rw[compTurn_list]
  refine aa (pV ?_)
  have I3p:=hsz0 I3 na3 ea (fun v z=>by cases z)
  rcases turn i n ys H3 w3 with⟨stop,hz,qn⟩|⟨go,step⟩
  ·refine aa (eJ (T.done (eS X nm scope (cellsFrom (G2.objs.size+1) scope.names []++cl) G2.objs.size s2 H1 fp) rfl rfl rfl hcalmB i _ s3 _ H3 (fun _ _=>False) I3p (hfpB fr3) lZ stop) (fun r s4 hr=>?_) fun _ _ z=>z.elim)
   obtain⟨hr,I4'⟩:=hr
   subst hr
   refine aq ?_
   obtain⟨m4,hn4,_⟩:=id I4'.loc
   have pa:=I4'.pin (s2.heap.objs.size,{ cls:=.type "list",data:=.seq bq.toArray ka }) (by simp)
   have ne:∀b o,s2.heap.get? b=some o->b≠s2.heap.objs.size/\b≠G2.objs.size:=fun b o e=>⟨aX (aC e),aX (by rw[hC];exact cQ (aC e))⟩
   have I5:bA X ag σ (ei H3 s2.heap.objs.size (.lst ys)) s4:=by
    refine I2.call' (ch:=fp) I4'.os ⟨fun b o e n hb hx=>?_,fun b o e n hb hx=>?_,fun b o e n hx=>?_,fun b o e hx=>?_,fun b xs e=>?_,fun b o u e=>?_,fun b ps e=>?_⟩ ?_ I4'.bare fun b hb=>?_
    ·exact I4'.base.keep b o e n hb hx
    ·exact I4'.base.slot b o e n hb hx
    ·rw[cv (ne b o e).1];exact I4'.base.free b o e n hx
    ·exact I4'.base.there b o e hx
    ·have q:=I4'.base.tups b xs e
     rw[cv (e_ q na3)];exact q
    ·have q:=I4'.base.frzs b o u e
     rw[cv (e_ q na3)];exact q
    ·obtain⟨mr,q⟩:=I4'.base.tbls b ps e
     exact⟨mr,by rw[cv (e_ q na3)];exact q⟩
    ·intro b o e
     by_cases hb:b=s2.heap.objs.size
     ·subst hb
      rw[eN]at e;cases e
      exact⟨hz,bq,ka,rv,pa.1⟩
     ·rw[cv hb]at e
      exact(I4'.hok b o e).stay (fun c u hc q=>q) (fun c q=>by rw[cv (e_ q na3)];exact q) fun c xs q=>by rw[cv (e_ q na3)];exact q
    ·obtain⟨_,g1,_,g3,g4,g5⟩:=f2 b hb
     exact⟨g3,g1,g4,g5⟩
   have lC:s2.heap.objs.size<=G2.objs.size:=by rw[hC];exact dJ _
   exact fin s4 G2.objs.size _ m4 _ I5 ⟨hn4,by rw[cv (Ne.symm hDC)];exact I4'.free,fJ (aU I2.lt lC),I2.nofs lC,aL I2.sz lC,fun x c hx z=>(by
    obtain⟨v,o,ho,_⟩:=I2.cell x c hx
    exact absurd (aC ho) (by rw[z];exact iP.mpr lC)),fun p hp z=>(by
    have:=(I2.pin p hp).1
    exact absurd (aC this) (by rw[z];exact iP.mpr lC))⟩ (qn _ na3)
  ·refine aa (eJ (T.item (eS X nm scope (cellsFrom (G2.objs.size+1) scope.names []++cl) G2.objs.size s2 H1 fp) rfl rfl rfl hcalmB i _ s3 _ H3 (fun _ _=>False) I3p (hfpB fr3) lZ go) (fun r s4 hr=>?_) fun _ _ z=>z.elim)
   obtain⟨u,hr,h4⟩:=hr
   subst hr
   dsimp only
   refine aa (eJ h4 (fun _ s5 h5=>?_) fun _ _ z=>z.elim)
   obtain⟨x,H5,I5,r5,y5,st5,fr5⟩:=h5
   have I5':=I5.pinned (hfpB fr5) (T.obj _ _ st5)
   refine aa (eJ (hg _ _ _ _ _ _ s5 _ H5 x u _ I5' r5 (step x H5 y5)) (fun _ s6 h6=>?_) fun _ _ z=>z.elim)
   obtain⟨σ6,H6,I6,q6⟩:=h6
   refine aa (eJ (ht _ _ _ _ _ _ s6 σ6 H6 _ I6 q6) (fun ok s7 h7=>?_) fun _ _ z=>z.elim)
   obtain⟨H7,I7,q7⟩:=h7
   have back:∀{H8:Hp} {s8:Shared} {Ro:List V} {its':List Value} {k':Nat},bA (eS X nm scope (cellsFrom (G2.objs.size+1) scope.names []++cl) G2.objs.size s2 H1 fp) [] σ6 H8 s8->(∀b∈fp,∀o,s5.heap.get? b=some o->s8.heap.get? b=some o)->(∀b∈fp,H8 b=none)->H8 s2.heap.objs.size=none ->
     cu Ro its'->s8.heap.get? s2.heap.objs.size=some { cls:=.type "list",data:=.seq its'.toArray k' }->(∃m',m'<n/\W (i+1) m' Ro H8) ->
     ∃m,m<n/\∃i ys H',bA (eS X nm scope (cellsFrom (G2.objs.size+1) scope.names []++cl) G2.objs.size s2 H1 fp) [] (pF cap σ) H' s8/\tn i s8.heap/\(∀b∈fp,H' b=none)/\H' s2.heap.objs.size=none /\
      (∃bq k,cu ys bq/\s8.heap.get? s2.heap.objs.size=some { cls:=.type "list",data:=.seq bq.toArray k })/\W i m ys H':=
    fun{H8 s8 Ro its' k'} I8 kf f8 n8 rv8 e8 ⟨m',hm,w8⟩=>⟨m',hm,i+1,Ro,H8,Fx pD da I2 hfpc I8,T.keep _ _ _ st5 kf,f8,n8,⟨its',k',rv8,e8⟩,w8⟩
   cases ok with
   |false=>
    refine aq ⟨rfl,?_⟩
    have q7':∃m',m'<n/\W (i+1) m' ys H7:=by simpa using q7
    have pa:=I7.pin (s2.heap.objs.size,{ cls:=.type "list",data:=.seq bq.toArray ka }) (by simp)
    refine back (I7.pins_of fun p hp=>absurd hp (by simp)) (fun b hb o e=>?_) (fun b hb=>?_) pa.2.1 rv pa.1 q7'
    ·exact(I7.pin (b,o) (aI _ (aI _ (jD hb e)))).1
    ·obtain⟨o,e,d⟩:=T.obj _ _ st5 b hb
     exact(I7.pin (b,o) (aI _ (aI _ (jD hb e)))).2.1
   |true=>
    rw[au rfl]at q7
    refine aa (aa (eJ (he _ _ _ _ _ _ s7 σ6 H7 _ I7 q7) (fun xv s8 h8=>?_) fun _ _ z=>z.elim))
    obtain⟨y,H8,I8,r8,hzy,q8⟩:=h8
    have pa:=I8.pin (s2.heap.objs.size,{ cls:=.type "list",data:=.seq bq.toArray ka }) (by simp)
    refine aa (x6 pa.1 (by rw[<- rv.length];exact hzy) fun h' k' tk e9 sb=>?_)
    refine aq (aq ⟨rfl,?_⟩)
    have I9:bA (eS X nm scope (cellsFrom (G2.objs.size+1) scope.names []++cl) G2.objs.size s2 H1 fp) [] σ6 H8 { s8 with heap:=h',toks:=tk }:=
     (bA.pins_of (pins':=[]) I8 fun p hp=>absurd hp (by simp)).turned (it:=s2.heap.objs.size) (fun b o hb e=>sb b o hb e) pa.2.1 hDC (.inr (aw _)) (fun x c hx z=>by
      rcases both x c hx with q|q
      ·exact iP.mpr (ownhi x c q).2 (by rw[z];omega)
      ·exact cW _ (by have:=cllow x c q;rw[z]at this;exact this)) (fun p hp=>absurd hp (by simp))
    refine back I9 (fun b hb o e=>?_) (fun b hb=>?_) pa.2.1 (rv.append (.cons r8 .nil)) e9 q8
    ·exact sb b o (aX (hfpn b hb)) (I8.pin (b,o) (aI _ (aI _ (jD hb e)))).1
    ·obtain⟨o,e,d⟩:=T.obj _ _ st5 b hb
     exact(I8.pin (b,o) (aI _ (aI _ (jD hb e)))).2.1
 exact codeAny_compStart_list (loop _ rfl) (T.self _ _ _ _ _ (T.keep _ _ _ cV fun b _ o e=>old b o e) (loop _ rfl))
theorem qy:∀(names:List (Str×NameKind)) (n:Nat),(∀y∈names,y.2≠.cell)->cellsFrom n names []=[]
 |[],_,_=>rfl
 |(x,k)::r,n,h=>by
  show(if k==.cell then cellsFrom (n+1) r [(x,n)]else cellsFrom n r [])=[]
  rw[ax (by have:=h (x,k) (by simp);simpa using this)]
  exact qy r n fun y hy=>h y (by simp[hy])
theorem w9{Qk:VK}(ik:X.calm=true)(wc:closureFor scope X.env=pure cl)(t5:∀x c,cl.lookup x=some c->X.env.cells.lookup x=some c)
  (ij:scope.kind=.function) (qo:∀x∈scope.names,x.2=.local->scope.names.lookup x.1=some .local) (f9:∀y∈scope.names,y.2≠.cell)
  (Ct:∀x,((relabel scope X.env).names.lookup x=some .cell\/(relabel scope X.env).names.lookup x=some .free)->∃c,cl.lookup x=some c)
  (pD:∀(i j:Nat),cap[i]?=some (some j)->∃x,nm[i]?=some x/\X.N[j]?=some x/\uY X scope cl x) (da:cap.length=nm.length)
  (hi:PI X tg c6 wi) (hg:∀C s0 H0 fp,PG (cS X nm scope cl C s0 H0 fp) tg g) (ht:∀C s0 H0 fp,Fw (cS X nm scope cl C s0 H0 fp) kq tc)
  (he:∀C s0 H0 fp,PE (cS X nm scope cl C s0 H0 fp) nO te) (hs:∀x,foldedSetIterable c6 X.env x=pure x)
  (I:bA X ag σ H s) (h:uX cap wi g tc te σ H Qk) (fin:∀(s4:Shared) (C D:Addr) (m4:Str->Option Value) (Hn:Hp),bA X ag σ Hn s4->zu X ag Hn s4 C m4->Qk (.ref D) Hn->compPost (model X.prog X.w) X.A X.xe use Qv (.ref D) C (.ok .next) s4) :
  wpAny (model X.prog X.w) X.A (comprehension (.ListComp nO [⟨tg,c6,kq,0⟩] scope pos) scope X.env (firstIterPos [⟨tg,c6,kq,0⟩] pos) (newList []) (firstAsync [⟨tg,c6,kq,0⟩]) (firstIter [⟨tg,c6,kq,0⟩] X.env) use) Qv X.xe s:=by
 have nc:∀k,cellsFrom k scope.names []++cl=cl:=fun k=>by rw[qy _ _ f9];rfl
 have nx:∀C s0 H0 fp,eS X nm scope cl C s0 H0 fp=cS X nm scope cl C s0 H0 fp:=fun C s0 H0 fp=>by
  have:(fun y=>scope.names.lookup y==some .cell)=fun _=>false:=funext fun y=>by
   rw[bI]
   exact fun e=>f9 _ (iT e) rfl
  unfold eS cS
  rw[this]
 exact Bu ik wc t5 ij qo (fun y hy h=>absurd h (f9 y hy)) (fun x _ h=>Ct x h) (fun i j h=>let ⟨x,a,b,d⟩:=pD i j h;⟨x,a,b,d,fun z=>f9 _ z rfl⟩) da hi
  (fun k C s0 H0 fp=>by rw[nc,nx];exact hg C s0 H0 fp) (fun k C s0 H0 fp=>by rw[nc,nx];exact ht C s0 H0 fp) (fun k C s0 H0 fp=>by rw[nc,nx];exact he C s0 H0 fp) hs I h fin
theorem Ki(ik:X.calm=true)(wc:closureFor scope X.env=pure cl)(t5:∀x c,cl.lookup x=some c->X.env.cells.lookup x=some c)
  (ij:scope.kind=.function) (qo:∀x∈scope.names,x.2=.local->scope.names.lookup x.1=some .local) (f9:∀y∈scope.names,y.2≠.cell)
  (Ct:∀x,((relabel scope X.env).names.lookup x=some .cell\/(relabel scope X.env).names.lookup x=some .free)->∃c,cl.lookup x=some c)
  (pD:∀(i j:Nat),cap[i]?=some (some j)->∃x,nm[i]?=some x/\X.N[j]?=some x/\uY X scope cl x) (da:cap.length=nm.length)
  (hi:PI X tg c6 wi) (hg:∀C s0 H0 fp,PG (cS X nm scope cl C s0 H0 fp) tg g) (ht:∀C s0 H0 fp,Fw (cS X nm scope cl C s0 H0 fp) kq tc)
  (he:∀C s0 H0 fp,PE (cS X nm scope cl C s0 H0 fp) nO te) (hs:∀x,foldedSetIterable c6 X.env x=pure x:=by intro _;rfl) :
  PE X (.ListComp nO [⟨tg,c6,kq,0⟩] scope pos) (uX cap wi g tc te):=by
 intro ag s σ H Q I h
 rw[eval_ListComp]
 exact w9 ik wc t5 ij qo f9 Ct pD da hi hg ht he hs I h fun s4 C D m4 Hn I4 B q=>⟨m4,B.ns,fun h' hs'=>⟨.ref D,Hn,B.off I4 hs',rfl,q⟩⟩
end
noncomputable def tx(l:List Nat):Str:=⟨l.toArray⟩
theorem OG(l:List Nat):(tx l).cps.toList=l:=rfl
theorem iH(l:List Nat):(tx l).length=l.length:=by show l.toArray.size=_;simp
theorem Bv(a b:List Nat):tx a++tx b=tx (a++b):=by
 show(⟨a.toArray++b.toArray⟩:Str)=⟨(a++b).toArray⟩
 simp
theorem Fy{a b:List Nat}:tx a=tx b↔a=b:=⟨fun h=>by have:=gY (fun z:Str=>z.cps.toList) h;exact this,fun h=>by rw[h]⟩
noncomputable def R3(ni:List V):It:=⟨fun i _=>i<ni.length,fun i H x H'=>H'=H/\ni[i]?=some x,fun i _=>ni.length<=i⟩
theorem p7{w:World}{ni:List V}{Pr:Nat->Value->Prop}{S:Nat->Heap->Prop}{ty:String}
  (W:∀A:Around,A.handled=none->Walks P w A it [it] [it] ni.length Pr S) (hv:∀i v,i<ni.length->Pr i v->∃x,ni[i]?=some x/\cD x v)
  (DV:∀i h,S i h->∃o vs,h.get? it=some o/\o.cls=.type ty/\o.data=.fields vs)
  (AY:["enumerate","zip","dict_itemiterator","dict_reverseitemiterator","odict_iterator","itertools.zip_longest","itertools.pairwise"].contains ty=false)
  (JB:∀(A:Around) (i:Nat) (s:Shared) (Q:Value->Shared->Prop) (E:Value->Shared->Prop),S i s.heap->Q (.ref it) s->wpAny (model P w) A (pyIter (.ref it)) Q E s) :
  xQ P w K tg (R3 ni) [it] it (fun i h=>i<=ni.length/\S i h) where
 mem:=by simp
 obj:=fun i h st b hb=>by
  have e:b=it:=by simpa using hb
  subst e
  obtain⟨o,vs,e,c,d⟩:=DV i h st.2
  exact⟨o,e,fun v z=>by rw[d]at z;cases z⟩
 keep:=fun i h h' st k=>⟨st.1,(W { depth:=0,handled:=none,frames:=none } rfl).frame i h h' st.2 k⟩
 item:=by
  intro X hP hw hK hc i ag s σ H E I hf st hg
  subst hP hw hK
  obtain⟨f0,f1,f2,f3,f4,f5⟩:=hf it (by simp)
  refine(W X.A (I.ok.hd hc)).item i s _ _ hg st.2 fun v h' tk hp bz kk=>?_
  have I1:bA X ag σ H { s with heap:=h',toks:=tk }:=I.turned (fun b o hb e=>kk b o (by simpa using hb) e) f0 f1 f3 f4 f5
  obtain⟨x,hx,rx⟩:=hv i v hg hp
  obtain⟨o,vs,e,c,d⟩:=DV _ _ bz
  exact⟨v,rfl,CG (s:={ s with heap:=h',toks:=tk }) e c d AY ⟨x,H,I1,rx,⟨rfl,hx⟩,⟨hg,bz⟩,fun b hb=>(hf b hb).1⟩⟩
 done:=by
  intro X hP hw hK hc i ag s σ H E I hf st hg
  subst hP hw hK
  obtain⟨f0,f1,f2,f3,f4,f5⟩:=hf it (by simp)
  have e:i=ni.length:=Nat.le_antisymm st.1 hg
  refine(W X.A (I.ok.hd hc)).done s _ _ (e▸st.2) fun h' tk kk=>⟨rfl,I.turned (fun b o hb e=>kk b o (by simpa using hb) e) f0 f1 f3 f4 f5⟩
 self:=fun A i s Q E st h=>JB A i s Q E st.2 h
section
def gW(l:List Nat):List V:=l.map fun c=>.str (tx [c])
def VC(tl:TE):TI:=fun σ H R=>tl σ H fun x H1=>∃l,x=.str (tx l)/\R (R3 (gW l)) H1
theorem Ej(i:Nat)(v:Value)(hi:i<(gW l).length)(h:SignAt (tx l) i v):∃x,(gW l)[i]?=some x/\cD x v:=by
 obtain⟨c,u,hc,e⟩:=h
 refine⟨.str (tx [c]),?_,u,e⟩
 unfold gW
 rw[aj]
 have:l[i]?=some c:=by simpa[tx]using hc
 rw[this];rfl
theorem OH{l:Expr}{tl:TE}(hl:PE X l tl):PI X tg l (VC tl):=by
 intro ag s σ H R I h
 refine gg (hl ag s σ H _ I h) fun v s1 zq=>?_
 obtain⟨x,H1,I1,r1,q1⟩:=zq
 obtain⟨l,e,q⟩:=q1
 subst e
 obtain⟨t,rfl⟩:=r1
 have hn:(tx l).cps.size=(gW l).length:=by unfold gW;simp[tx]
 have fin:∀(ob:Obj) (S:Nat->Heap->Prop) (ty:String),(∀A:Around,A.handled=none->Walks X.prog X.w A s1.heap.objs.size [s1.heap.objs.size] [s1.heap.objs.size] (tx l).cps.size (SignAt (tx l)) S)->S 0 (s1.heap.push ob) ->
   (∀i h,S i h->∃o vs,h.get? s1.heap.objs.size=some o/\o.cls=.type ty/\o.data=.fields vs) ->
   ["enumerate","zip","dict_itemiterator","dict_reverseitemiterator","odict_iterator","itertools.zip_longest","itertools.pairwise"].contains ty=false ->
   (∀(A:Around) (i:Nat) (s:Shared) (Q:Value->Shared->Prop) (E:Value->Shared->Prop),S i s.heap->Q (.ref s1.heap.objs.size) s->wpAny (model X.prog X.w) A (pyIter (.ref s1.heap.objs.size)) Q E s) ->
   UM X ag σ tg R (.ref s1.heap.objs.size) { s1 with heap:=s1.heap.push ob }:=fun ob S ty W h0 DV AY JB=>by
  rw[hn]at W
  refine⟨s1.heap.objs.size,[s1.heap.objs.size],_,_,H1,rfl,I1.kept (t':=s1.toks) fun b o e=>ai _ e,p7 W (fun i v hi hp=>Ej i v hi hp) DV AY JB,⟨cL _,h0⟩,fun b hb=>?_,q⟩
  have e:b=s1.heap.objs.size:=by simpa using hb
  subst e
  exact I1.fpOk (aw _) I1.fresh
 cases ha:(tx l).cps.all (· < 128)
 ·exact wpAny_pyIter_wide ha (fin _ _ _ (fun A hA=>Walks.strWide hA _ (tx l) t) ⟨_,ar _ rfl,rfl,rfl⟩ (fun i h st=>by obtain⟨o,a,b,c⟩:=st;exact⟨o,_,a,b,c⟩) (by decide) fun A i s Q E st h=>wpAny_pyIter_striter_wide st h)
 ·exact wpAny_pyIter_ascii ha (fin _ _ _ (fun A hA=>Walks.strAscii hA _ (tx l) t) ⟨_,ar _ rfl,rfl,rfl⟩ (fun i h st=>by obtain⟨o,a,b,c⟩:=st;exact⟨o,_,a,b,c⟩) (by decide) fun A i s Q E st h=>wpAny_pyIter_striter_ascii st h)
noncomputable def Ek(l:List Nat)(lo hi:Option Int):List Nat:=(l.drop (HT.sIx l.length 0 lo)).take (HT.sIx l.length l.length hi-HT.sIx l.length 0 lo)
theorem zv(l:List Nat)(lo hi:Option Int):(Ek l lo hi).length<=l.length:=by unfold Ek;rw[aM,ie];omega
theorem Bw(l:List Nat)(i k:Nat):((List.range k).map fun(m:Nat)=>i+m).filterMap (fun j=>l[j]?)=(l.drop i).take k:=by
 induction k generalizing i with
 |zero=>simp
 |succ k ih=>
  rw[eV,aP,aS]
  have e:((fun m=>i+m)∘Nat.succ)=fun m=>(i+1)+m:=by funext m;simp[Function.comp];omega
  rw[e]
  by_cases h:i<l.length
  ·rw[fT]
   simp only[ig,ae h]
   rw[ih (i+1),bd h,List.take_succ_cons]
  ·rw[fT]
   have h':l.length<=i:=by omega
   simp only[ig,az h']
   rw[ih (i+1),nw h',nw (by omega)]
   simp
theorem LS(v:Int)(n d:Nat):(if (1:Int)>0 then max 0 (min (if v<0 then v+(n:Int)else v) (n:Int))else max (-1) (min (if v<0 then v+(n:Int)else v) ((n:Int)-1)))=((HT.sIx n d (some v):Nat):Int):=by
 rw[au (by omega)]
 show _=(((if v<0 then(v+(n:Int)).toNat else min v.toNat n):Nat):Int)
 by_cases hv:v<0
 ·simp only[au hv];omega
 ·simp only[ax hv];omega
theorem OI(lo hi:Option Int)(n:Nat):Builtin.Str.strSliceIndices lo hi 1 n=(List.range (HT.sIx n n hi-HT.sIx n 0 lo)).map fun(m:Nat)=>HT.sIx n 0 lo+m:=by
 have key:∀a b:Nat,sliceRange (a:Int) (b:Int) 1=(List.range (b-a)).map fun(m:Nat)=>a+m:=fun a b=>by
  unfold sliceRange
  have e:(if (1:Int)>0 then(if (a:Int)<(b:Int)then((b:Int)-a+1-1)/1 else 0)else(if (a:Int)>b then((a:Int)-b-1-1)/(-1)else 0)).toNat=b-a:=by
   rw[au (by omega)]
   by_cases h:(a:Int)<b
   ·rw[au h];omega
   ·rw[ax h];omega
  dsimp only
  rw[e]
  refine bJ fun k _=>?_
  omega
 unfold Builtin.Str.strSliceIndices
 rw[<- key]
 dsimp only
 congr 1
 ·cases lo with
  |none=>rfl
  |some v=>exact LS v n 0
 ·cases hi with
  |none=>rfl
  |some v=>exact LS v n n
theorem Fz(l:List Nat)(lo hi:Option Int):Txt.slice (tx l) lo hi=tx (Ek l lo hi):=by
 unfold Txt.slice
 rw[OI,iH]
 split
 ·rename_i h
  simp only[beq_self_eq_true,Bool.true_and,db,al,cC]at h
  unfold Ek
  have h1:=HT.sIx_le l.length l.length (aw _) hi
  have h2:=HT.sIx_le l.length 0 (cL _) lo
  by_cases hz:l.length=0
  ·have:l=[]:=gb hz
   subst this;simp
  ·have e0:HT.sIx l.length 0 lo=0:=by omega
   rw[e0,dF,bK (by omega)]
 ·unfold Ek tx
  have:∀j:Nat,(l.toArray)[j]?=l[j]?:=fun j=>by simp
  simp only[this]
  rw[Bw]
def VD:V->Option Int->Option Int->Hp->VK->Prop:=fun x lo hi H Q=>∃l,x=.str (tx l)/\l.length<=sizeLine/\Q (.str (tx (Ek l lo hi))) H
theorem CO{o:Option Int}(p:IsPart v o):∃q:Option (Int×Tok),v=partValue q/\q.map (·.1)=o:=by
 cases p with
 |none=>exact⟨none,rfl,rfl⟩
 |int i t=>exact⟨some (i,t),rfl,rfl⟩
theorem OJ:RR X VD:=by
 intro ag s σ H x v vl vu lo hi sl Q I rx hs pl pu h
 obtain⟨l,e,hz,q⟩:=h
 subst e
 obtain⟨t,rfl⟩:=rx
 obtain⟨pl',rfl,rfl⟩:=CO pl
 obtain⟨pu',rfl,rfl⟩:=CO pu
 refine⟨"str",_,F.slot_str_getitem.lookup,iL _ _ _,?_⟩
 refine wpAny_getItem_str_slice (l:=pl') (u:=pu') (st:=none) hs rfl (post_val_or_str ?_)
 have e:=Fz l (pl'.map (·.1)) (pu'.map (·.1))
 unfold Txt.slice at e
 show(if ((1:Int)==1&&(Builtin.Str.strSliceIndices (pl'.map (·.1)) (pu'.map (·.1)) 1 (tx l).length).length==(tx l).length)=true then tx l else⟨((Builtin.Str.strSliceIndices (pl'.map (·.1)) (pu'.map (·.1)) 1 (tx l).length).filterMap ((tx l).cps[·]?)).toArray⟩:Str).length<=sizeLine /\
  ∀t' k,EP X ag σ Q (.str (if ((1:Int)==1&&(Builtin.Str.strSliceIndices (pl'.map (·.1)) (pu'.map (·.1)) 1 (tx l).length).length==(tx l).length)=true then tx l else⟨((Builtin.Str.strSliceIndices (pl'.map (·.1)) (pu'.map (·.1)) 1 (tx l).length).filterMap ((tx l).cps[·]?)).toArray⟩:Str) t') { s with toks:=k }
 rw[e,iH]
 exact⟨aL (zv l _ _) hz,fun t' k=>⟨.str _,H,I.tok k,⟨t',rfl⟩,q⟩⟩
theorem FB(c:Nat)(l:List Nat):(!(Builtin.Str.occurrences (tx l) (tx [c]) 0 (tx l).length 1).isEmpty)=decide (c∈l):=StrLaws.found_one (tx l) c
def R4(UA:Bool):R2:=fun x y H Q=>∃c l,x=.str (tx [c])/\y=.str (tx l)/\Q (.bl (if UA then !decide (c∈l)else decide (c∈l))) H
theorem El:nF X (compareOp .In) (R4 false):=by
 intro ag s σ H x y v u Q I rx ry h
 obtain⟨c,l,rfl,rfl,q⟩:=h
 exact D8 ag s σ H _ _ v u Q I rx ry ⟨_,_,rfl,rfl,by rw[FB];exact q⟩
theorem x8:nF X (compareOp .NotIn) (R4 true):=by
 intro ag s σ H x y v u Q I rx ry h
 obtain⟨c,l,rfl,rfl,q⟩:=h
 exact xS ag s σ H _ _ v u Q I rx ry ⟨_,_,rfl,rfl,by rw[FB];exact q⟩
theorem p8:∀{ys:List (List Nat)} {bq:List Value},cu (ys.map fun l=>V.str (tx l)) bq->StrsAre bq (ys.map tx)
 |[],_,r=>by cases r;exact .nil
 |y::ys,_,r=>by
  cases r with
  |cons r rr=>
   obtain⟨t,rfl⟩:=r
   exact .cons _ _ (p8 rr)
theorem mR:∀{bq:List Value} {ss:List Str},StrsAre bq ss->cu (ss.map fun z=>V.str z) bq
 |_,_,.nil=>.nil
 |_,_,.cons y t r=>.cons ⟨t,rfl⟩ (mR r)
noncomputable def oA(sep:List Nat):List (List Nat)->List Nat
 |[]=>[]
 |[x]=>x
 |x::y::r=>x++sep++oA sep (y::r)
theorem pd:∀ys:List (List Nat),oA [] ys=ys.flatten
 |[]=>rfl
 |[x]=>by simp[oA]
 |x::y::r=>by rw[oA,pd (y::r)];simp
theorem Kj(sep:List Nat):∀ys:List (List Nat),Txt.join (tx sep) (ys.map tx)=tx (oA sep ys):=fun ys=>by
 show Builtin.Str.glued (tx sep) (ys.map tx)=_
 rw[StrLaws.glued_eq_join]
 induction ys with
 |nil=>rfl
 |cons x r ih=>
  cases r with
  |nil=>rfl
  |cons y r=>
   show tx x++tx sep++Str.join (tx sep) ((y::r).map tx)=tx (x++sep++oA sep (y::r))
   rw[ih,Bv,Bv]
def R5(K:Frag):V->List V->Hp->VK->Prop:=fun x vs H Q=>∃(sep:List Nat) (a:Addr) (ys:List (List Nat)),x=.str (tx sep)/\vs=[.ref a]/\oZ K H a (ys.map fun l=>V.str (tx l))/\(ys.map List.length).sum+ys.length*sep.length<=16777216/\Q (.str (tx (oA sep ys))) H
theorem Kk:Ed X "str.join" (R5 X.K):=by
 intro ag s σ H x vs v us Q I rx rv h
 obtain⟨sep,a,ys,rfl,rfl,hS,hz,q⟩:=h
 obtain⟨t,rfl⟩:=rx
 obtain⟨u,rfl,ru⟩:=rv.one
 cases ru
 obtain⟨bq,r,p,_⟩:=I.list hS
 refine join_list p.isList (p8 (by simpa using r)) ?_ fun t' k=>?_
 ·rw[aS,iH,al]
  have e:((fun z:Str=>z.length)∘tx)=List.length:=by funext l;exact iH l
  rw[e];exact hz
 ·rw[Kj]
  exact⟨.str _,H,I.tok k,⟨t',rfl⟩,q⟩
end
inductive D where
 |non|bl (b:Bool)|int (i:Int)|str (l:List Nat)|tnil|tcons (d r:D)
 deriving DecidableEq
structure d_(K:Frag)(H H':Hp):Prop where
 t:∀p xs,fS K H p xs->fS K H' p xs
 z:∀b o u,H b=some (.frz o u)->H' b=some (.frz o u)
instance {K:Frag} {H H':Hp}:CoeFun (d_ K H H') (fun _=>∀p xs,fS K H p xs->fS K H' p xs):=⟨d_.t⟩
theorem fS.same{K:Frag}(e:uc H H'):d_ K H H':=⟨fun p xs h=>by
 rcases h with(h|⟨o,h⟩)|h
 ·exact .inl (.inl (e _ _ h))
 ·exact .inl (.inr ⟨o,e _ _ h⟩)
 ·exact .inr h,fun b o u h=>e _ _ h⟩
theorem cy{p:Addr}(h:H p=none)(o:HO):uc H (ei H p o):=fun b u q=>by rw[cv (e_ q h)];exact q
def UP(l:Addr)(H H':Hp):Prop:=∀b o,b≠l->H b=some o->H' b=some o
theorem iB{l:Addr}{o:HO}:UP l H (ei H l o):=fun b u h q=>by rw[cv h];exact q
theorem fS.but{l:Addr}{xs:List V}(e:UP l H H')(hl:H l=some (.lst xs)):d_ K H H':=by
 have xO:∀{p:Addr} {o:HO},H p=some o->(∀zs,o≠.lst zs)->p≠l:=fun{p o} q hn z=>by subst z;rw[hl]at q;cases q;exact hn _ rfl
 refine⟨fun p ys h=>?_,fun b o u h=>e _ _ (xO h (fun _ z=>by cases z)) h⟩
 rcases h with(h|⟨o,h⟩)|h
 ·exact .inl (.inl (e _ _ (xO h (fun _ z=>by cases z)) h))
 ·exact .inl (.inr ⟨o,e _ _ (xO h (fun _ z=>by cases z)) h⟩)
 ·exact .inr h
theorem d_.refl:d_ K H H:=⟨fun _ _ h=>h,fun _ _ _ h=>h⟩
theorem d_.trans{H1 H2:Hp}(a:d_ K H H1)(b:d_ K H1 H2):d_ K H H2:=⟨fun p xs h=>b p xs (a p xs h),fun c o u h=>b.z c o u (a.z c o u h)⟩
theorem fS.new{p:Addr}{xs:List V}:fS K (ei H p (.tup xs)) p xs:=fS.of eN
theorem R6{x:Str}{v:V}{pos:Pos}(h:∃u,X.mg x=some u/\cD v u)(hg:Gl X x:=by rfl)(hd:(x==("__debug__":Str))=false:=by decide):PE X (.Name x pos) (tC v):=by
 obtain⟨u,a,b⟩:=h
 exact JN hg a b hd
section
variable{to:TE}{t:TA}{id:String}{r:V->List V->Hp->VK->Prop}
def WQ(r:V->List V->Hp->VK->Prop)(to:TE)(t:TA):TE:=fun σ H Q=>to σ H fun x H1=>(∃l ys,x=.ref l/\H1 l=some (.lst ys))/\t σ H1 fun xs H2=>r x xs H2 Q
def WR(r:V->List V->Hp->VK->Prop)(to:TE)(t:TA):TE:=fun σ H Q=>to σ H fun x H1=>(∃l,x=.str (tx l))/\t σ H1 fun xs H2=>r x xs H2 Q
def VF(r:V->List V->Hp->VK->Prop)(to:TE):TE:=fun σ H Q=>to σ H fun x H1=>(∃l ys,x=.ref l/\H1 l=some (.lst ys))/\r x [] H1 Q
theorem zw{x:V}(h:∃l ys,x=.ref l/\H l=some (.lst ys)):UO K "list" x H:=by
 obtain⟨l,ys,rfl,h⟩:=h
 exact .inl ⟨rfl,_,.of h⟩
theorem Kl{x:V}(h:∃l,x=.str (tx l)):UO K "str" x H:=by
 obtain⟨l,rfl⟩:=h
 exact rfl
theorem FC{T:String}{ty:V->Hp->Prop}(Wc:∀x H,ty x H->UO X.K T x H)(pa:PlainAttrs T)(slot:Slot T name id)(AY:typeOf (.builtin id)=pure (.type "method_descriptor"))(hm:Ed X id r)(ho:PE X o to)(ha:PA X (e::es) t)
  (jX:attributeBase o name X.env (eval o X.env)=eval o X.env)
  (wb:((backTo dw (starEach (e::es) X.env)).all (fun x=>!x.1)&&(backToKw dw (keywordEach [] X.env)).all (fun x=>x.1.isSome)
   && decide ((e::es).length+([]:List Keyword).length+(if ([]:List Keyword).isEmpty then 0 else 1)<30))=true)
  (jZ:(fm.endLine==dw.line)=true) (hs:starEach (e::es) X.env=(false,eval e X.env)::starEach es X.env) (nj:(backTo dw (starEach es X.env)).any (·.1)=false) :
  PE X (.Call (.Attribute o name fm) (e::es) [] dw) (fun σ H Q=>to σ H fun x H1=>ty x H1/\t σ H1 fun xs H2=>r x xs H2 Q):=by
 intro ag s σ H Q I h
 refine wpAny_Call_method_late jX wb jZ rfl (gg (ho ag s σ H _ I h) fun v s1 zq=>?_)
 obtain⟨x,H1,I1,r1,ty,q1⟩:=zq
 obtain⟨h1,h2⟩:=Fm I1 r1 (Wc _ _ ty)
 refine⟨T,id,pa,slot,AY,h1,h2,?_⟩
 have hA:=ha dw ag s1 σ H1 _ I1 q1
 rw[hs]at hA ⊢
 refine gm (by show(false||(backTo dw (starEach es X.env)).any (·.1))=false;rw[nj]<;>rfl) (j3 ?_)
 exact gg hA fun us s2 ⟨vs,H2,I2,r2,q2⟩=>hm ag s2 σ H2 x vs v us Q I2 r1 r2 q2
theorem R7(slot:Slot "list" name id)(AY:typeOf (.builtin id)=pure (.type "method_descriptor"))(hm:Ed X id r)(ho:PE X o to)(ha:PA X (e::es) t)
  (jX:attributeBase o name X.env (eval o X.env)=eval o X.env:=by rfl)
  (wb:((backTo dw (starEach (e::es) X.env)).all (fun x=>!x.1)&&(backToKw dw (keywordEach [] X.env)).all (fun x=>x.1.isSome)
   && decide ((e::es).length+([]:List Keyword).length+(if ([]:List Keyword).isEmpty then 0 else 1)<30))=true:=by rfl)
  (jZ:(fm.endLine==dw.line)=true:=by rfl) (hs:starEach (e::es) X.env=(false,eval e X.env)::starEach es X.env:=by rfl) (nj:(backTo dw (starEach es X.env)).any (·.1)=false:=by rfl) :
  PE X (.Call (.Attribute o name fm) (e::es) [] dw) (WQ r to t):=FC (ty:=fun x H1=>∃l ys,x=.ref l/\H1 l=some (.lst ys)) (fun _ _ h=>zw h) F.plainAttrs_list slot AY hm ho ha jX wb jZ hs nj
theorem R8(slot:Slot "str" name id)(AY:typeOf (.builtin id)=pure (.type "method_descriptor"))(hm:Ed X id r)(ho:PE X o to)(ha:PA X (e::es) t)
  (jX:attributeBase o name X.env (eval o X.env)=eval o X.env:=by rfl)
  (wb:((backTo dw (starEach (e::es) X.env)).all (fun x=>!x.1)&&(backToKw dw (keywordEach [] X.env)).all (fun x=>x.1.isSome)
   && decide ((e::es).length+([]:List Keyword).length+(if ([]:List Keyword).isEmpty then 0 else 1)<30))=true:=by rfl)
  (jZ:(fm.endLine==dw.line)=true:=by rfl) (hs:starEach (e::es) X.env=(false,eval e X.env)::starEach es X.env:=by rfl) (nj:(backTo dw (starEach es X.env)).any (·.1)=false:=by rfl) :
  PE X (.Call (.Attribute o name fm) (e::es) [] dw) (WR r to t):=FC (ty:=fun x H1=>∃l,x=.str (tx l)) (fun _ _ h=>Kl h) F.plainAttrs_str slot AY hm ho ha jX wb jZ hs nj
theorem OK(slot:Slot "list" name id)(AY:typeOf (.builtin id)=pure (.type "method_descriptor"))(hm:Ed X id r)(ho:PE X o to)
  (jX:attributeBase o name X.env (eval o X.env)=eval o X.env:=by rfl) (jZ:(fm.endLine==dw.line)=true:=by rfl):PE X (.Call (.Attribute o name fm) [] [] dw) (VF r to):=by
 intro ag s σ H Q I h
 refine mG jX jZ (gg (ho ag s σ H _ I h) fun v s1 zq=>?_)
 obtain⟨x,H1,I1,r1,ty,q1⟩:=zq
 obtain⟨h1,h2⟩:=Fm I1 r1 (zw ty)
 exact⟨"list",id,F.plainAttrs_list,slot,AY,h1,h2,gm rfl (PySem.evalArgs_none (hm ag s1 σ H1 x [] v [] Q I1 r1 .nil q1))⟩
end
section
variable{t:TA}
def R9(t:TA):TE:=fun σ H Q=>t σ H fun xs H1=>xs.length<=sizeLine/\∀p H2,H1 p=none->H2=ei H1 p (.tup xs)->Q (.ref p) H2
def R_(t:TA):TE:=fun σ H Q=>t σ H fun xs H1=>xs.length<=sizeLine/\∀p H2,H1 p=none->H2=ei H1 p (.lst xs)->Q (.ref p) H2
theorem Km{x1}(h:PA X es t):PE X (.Tuple es x1 pos) (R9 t):=by
 intro ag s σ H Q I hq
 refine wpAny_Tuple_spliced (gg (h pos ag s σ H _ I hq) fun us s1 ⟨xs,H1,I1,r,z,q⟩=>⟨by rw[<- r.length];exact z,?_⟩)
 have hf:H1 s1.heap.objs.size=none:=I1.hok.fresh (aw _)
 refine⟨.ref s1.heap.objs.size,ei H1 s1.heap.objs.size (.tup xs),I1.laid (t':=s1.toks) (fun b u e=>ai _ e) (aw _) ?_,rfl,q _ _ hf rfl⟩
 exact⟨z,us,r,⟨_,ar _ rfl,rfl,_,rfl⟩⟩
theorem Ko(h:PA X es t):PE X (.List es pos) (R_ t):=by
 intro ag s σ H Q I hq
 refine wpAny_List_spliced (gg (h pos ag s σ H _ I hq) fun us s1 ⟨xs,H1,I1,r,z,q⟩=>⟨by rw[<- r.length];exact z,?_⟩)
 have hf:H1 s1.heap.objs.size=none:=I1.hok.fresh (aw _)
 refine⟨.ref s1.heap.objs.size,ei H1 s1.heap.objs.size (.lst xs),I1.laid (t':=s1.toks) (fun b u e=>ai _ e) (aw _) ?_,rfl,q _ _ hf rfl⟩
 exact⟨z,us,0,r,ar _ rfl⟩
theorem Ed.imp{id:String}{r r':V->List V->Hp->VK->Prop}(h:Ed X id r)(i:∀x xs H Q,r' x xs H Q->r x xs H Q):Ed X id r':=fun ag s σ H x xs v us Q I rx rv q=>h ag s σ H x xs v us Q I rx rv (i _ _ _ _ q)
theorem jx.imp{f:Value}{r r':List V->Hp->VK->Prop}(h:jx X f r)(i:∀xs H Q,r' xs H Q->r xs H Q):jx X f r':=fun ag s σ H xs us Q I rv q=>h ag s σ H xs us Q I rv (i _ _ _ q)
theorem nF.imp{f:Value->Value->Sem Value}{r r':R2}(h:nF X f r)(i:∀x y H Q,r' x y H Q->r x y H Q):nF X f r':=fun ag s σ H x y v u Q I rx ry q=>h ag s σ H x y v u Q I rx ry (i _ _ _ _ q)
def FD:V->List V->Hp->VK->Prop:=fun x vs H Q=>∃l xs y,x=.ref l/\vs=[y]/\H l=some (.lst xs)/\xs.length<sizeLine/\∀H2,H2=ei H l (.lst (xs++[y]))->Q .non H2
theorem Bx:Ed X "list.append" FD:=Ed.imp (r:=CL) Ee fun _ _ _ _ ⟨l,xs,y,a,b,c,d,q⟩=>⟨l,xs,y,a,b,c,d,q _ rfl⟩
def R':V->List V->Hp->VK->Prop:=fun x vs H Q=>∃l xs y,x=.ref l/\vs=[]/\H l=some (.lst (xs++[y]))/\∀H2,H2=ei H l (.lst xs)->Q y H2
theorem Kq:Ed X "list.pop" R':=Ed.imp (r:=RZ) Ox fun _ _ _ _ ⟨l,xs,y,a,b,c,q⟩=>⟨l,xs++[y],y,a,b,c,by simp,by rw[List.dropLast_concat];exact q _ rfl⟩
def OL:V->V->V->Hp->(Hp->Prop)->Prop:=fun o i v H Q=>∃p xs k j,o=.ref p/\i=.int k/\H p=some (.lst xs)/\CI xs.length k=some j/\∀H2,H2=ei H p (.lst (xs.set j v))->Q H2
theorem Em:D4 X OL:=fun ag s σ H o i v ov iv u Q I r1 r2 r3 q=>by
 obtain⟨p,xs,k,j,a,b,c,d,q⟩:=q
 exact Fl ag s σ H o i v ov iv u Q I r1 r2 r3 ⟨p,xs,k,j,a,b,c,d,q _ rfl⟩
def FF(K:Frag):List V->Hp->VK->Prop:=fun xs H Q=>∃p ys,xs=[.ref p]/\oZ K H p ys/\∀l H2,H l=none->H2=ei H l (.tup ys)->Q (.ref l) H2
theorem zx:jx X (.type "tuple") (FF X.K):=jx.imp ww fun _ _ _ ⟨p,ys,a,b,q⟩=>⟨p,ys,a,.inl ⟨b,fun l hl=>q l _ hl rfl⟩⟩
def Kr(K:Frag):List V->Hp->VK->Prop:=fun xs H Q=>∃p ys,xs=[.ref p]/\(oZ K H p ys\/fS K H p ys)/\∀l H2,H l=none->H2=ei H l (.lst ys)->Q (.ref l) H2
theorem uZ:jx X (.type "list") (Kr X.K):=jx.imp xY fun _ _ _ ⟨p,ys,a,b,q⟩=>⟨p,ys,a,b,fun l hl=>q l _ hl rfl⟩
def Sa:R2:=fun x y H Q=>∃l b xs zs,x=.ref l/\y=.ref b/\H l=some (.lst xs)/\H b=some (.lst zs)/\xs.length+zs.length<=sizeLine/\∀p H2,H p=none->H2=ei H p (.lst (xs++zs))->Q (.ref p) H2
theorem Kt:nF X (binaryOp .Add) Sa:=nF.imp Oy fun _ _ _ _ ⟨l,b,xs,zs,h1,h2,h3,h4,h5,q⟩=>⟨l,b,xs,zs,h1,h2,h3,h4,h5,fun p hp=>q p _ hp rfl⟩
end
def FH(T:String):Prop:=T="tuple"\/T="bool"\/T="int"\/T="str"
end L2
namespace L2
end L2
namespace L2
open PySem PySem.Spec PyProof.Rows
structure QE(X:Cx)(e:Expr)(t:TE):Prop where
 h:PE X e t
structure QA(X:Cx)(es:List Expr)(t:TA):Prop where
 h:PA X es t
structure QS(X:Cx)(s:Stmt)(t:TS):Prop where
 h:PS X s t
structure QG(X:Cx)(e:Expr)(t:TG):Prop where
 h:PG X e t
structure QI(X:Cx)(tg it:Expr)(t:TI):Prop where
 h:PI X tg it t
structure VG(X:Cx)(es:List Expr)(t:TT):Prop where
 h:Fw X es t
structure Wp(X:Cx)(f:Value->Value->Sem Value)(r:R2):Prop where
 h:nF X f r
structure LU(X:Cx)(f:Value)(r:List V->Hp->VK->Prop):Prop where
 h:jx X f r
section
variable{a b:Expr}{ta tb tc to:TE}{t u:TA}{x:Str}{tA UK:TT}{gc:List Expr}
theorem FJ:Wp X (binaryOp .LShift) (rI Od fun i j=>.int (i*2^j.toNat)):=⟨Fc⟩
variable{st:Stmt}{sr:List Stmt}{ts us:TS}{g:TG}
end
section
variable{wi:TI}{g:TG}{tb:TS}{tA:TT}
end
noncomputable def i_(env:Env):List (Str×NameKind)->List (Str×Addr)->List (Str×Addr)
 |[],cs=>cs
 |(n,k)::r,cs=>i_ env r (if k==.free then(n,(env.cells.lookup n).getD 0)::cs else cs)
theorem Sb(h:∀x∈scope.names,x.2=.free->∃c,env.cells.lookup x.1=some c):closureFor scope env=pure (i_ env scope.names []):=by
 unfold closureFor
 have key:∀(ns:List (Str×NameKind)) (cs:List (Str×Addr)),(∀x∈ns,x.2=.free->∃c,env.cells.lookup x.1=some c) ->
   (forIn ns cs fun(x:Str×NameKind) (r:List (Str×Addr))=>if (x.2==NameKind.free)=true then(do let a <- cellOf env x.1;pure (ForInStep.yield ((x.1,a)::r)))else(pure (ForInStep.yield r):Sem _))=pure (i_ env ns cs):=by
  intro ns
  induction ns with
  |nil=>intro cs _;rfl
  |cons y r ih=>
   intro cs hc
   obtain⟨n,k⟩:=y
   rw[nT]
   have ihr:=fun cs=>ih cs fun x hx=>hc x (aA _ hx)
   by_cases hk:(k==NameKind.free)=true
   ·obtain⟨c,e⟩:=hc (n,k) aZ (mF hk)
    have e2:cellOf env n=pure c:=by unfold cellOf;rw[e]
    show((if (k==NameKind.free)=true then _ else _) >>= _)=pure (i_ env r (if (k==NameKind.free)=true then _ else _))
    rw[au hk,au hk,e2]
    simp only[pure_bind]
    have e3:(env.cells.lookup n).getD 0=c:=by rw[show env.cells.lookup n=some c from e];rfl
    rw[e3]
    exact ihr _
   ·show((if (k==NameKind.free)=true then _ else _) >>= _)=pure (i_ env r (if (k==NameKind.free)=true then _ else _))
    rw[ax hk,ax hk]
    simp only[pure_bind]
    exact ihr _
 have:=key scope.names [] h
 dsimp only
 rw[this];simp only[pure_bind]
theorem w_:∀(ns:List (Str×NameKind)) (cs:List (Str×Addr)),(∀x∈ns,x.2=.free->∃c,env.cells.lookup x.1=some c)->(∀y∈cs,env.cells.lookup y.1=some y.2)->∀y∈i_ env ns cs,env.cells.lookup y.1=some y.2
 |[],cs,_,h=>h
 |(n,k)::r,cs,hf,h=>by
  refine w_ r _ (fun x hx=>hf x (aA _ hx)) ?_
  by_cases hk:(k==NameKind.free)=true
  ·rw[au hk]
   intro y hy
   rcases aH.mp hy with rfl|hy
   ·obtain⟨c,e⟩:=hf (n,k) aZ (mF hk)
    show env.cells.lookup n=some ((env.cells.lookup n).getD 0)
    rw[show env.cells.lookup n=some c from e];rfl
   ·exact h y hy
  ·rw[ax hk];exact h
theorem u3:∀(ns:List (Str×NameKind)) (cs:List (Str×Addr)) (y:Str×Addr),y∈cs->y∈i_ env ns cs
 |[],_,_,h=>h
 |(n,k)::r,cs,y,h=>by
  refine u3 r _ y ?_
  split
  ·exact aA _ h
  ·exact h
theorem u4{env:Env}:∀(ns:List (Str×NameKind)) (cs:List (Str×Addr)) (x:Str),(x,NameKind.free)∈ns->∃c,(x,c)∈i_ env ns cs
 |[],_,_,h=>by simp at h
 |(n,k)::r,cs,x,h=>by
  rcases aH.mp h with e|h
  ·obtain⟨e1,e2⟩:=Prod.mk.inj e
   subst e1;subst e2
   exact⟨_,u3 r _ (x,_) (by rw[au (by rfl:(NameKind.free==NameKind.free)=true)];exact aZ)⟩
  ·exact u4 r _ x h
theorem u5:∀{l:List (Str×β)} {x:Str} {b:β},(x,b)∈l->∃c,l.lookup x=some c
 |(y,c)::r,x,b,h=>by
  rw[jJ]
  cases hx:x==y with
  |true=>exact⟨c,rfl⟩
  |false=>
   rcases aH.mp h with e|h
   ·cases e;simp at hx
   ·exact u5 h
theorem tK{env:Env}{g:Str×NameKind->Bool}:∀{names:List (Str×NameKind)} {x:Str},names.lookup x=some .free ->
  (names.map fun y=>if g y then(y.1,NameKind.cell)else y).lookup x=some .cell\/(names.map fun y=>if g y then(y.1,NameKind.cell)else y).lookup x=some .free
 |[],_,h=>by simp at h
 |(n,k)::r,x,h=>by
  rw[jJ]at h
  rw[aP]
  have e1:∀y:Str×NameKind,(if g y then(y.1,NameKind.cell)else y).1=y.1:=fun y=>by split<;>rfl
  have e2:∀(y:Str×NameKind) (l:List (Str×NameKind)),(y::l).lookup x=if (x==y.1)=true then some y.2 else l.lookup x:=fun y l=>by
   obtain⟨a,b⟩:=y
   rw[jJ]
   cases x==a<;>rfl
  rw[e2,e1]
  cases hx:x==n with
  |true=>
   rw[hx]at h
   cases h
   rw[au rfl]
   by_cases hg:g (n,.free)=true
   ·rw[au hg];exact .inl rfl
   ·rw[ax hg];exact .inr rfl
  |false=>
   rw[hx]at h
   rw[ax (by exact cF)]
   exact tK (env:=env) h
noncomputable def zy(dn:List (Str×NameKind))(sn:List (Str×NameKind))(nm:List Str)(cap:List (Option Nat))(N:List Str):Bool:=
 (sn.all fun x=>!(x.2==.local)||sn.lookup x.1==some .local)&&(sn.all fun y=>!(y.2==.cell))&&(sn.all fun x=>!(x.2==.free)||dn.lookup x.1==some .cell)&&(cap.length==nm.length) &&
 ((List.range cap.length).all fun i=>match cap[i]? with
  |some (some j)=>(match nm[i]?,N[j]? with
   |some x,some y=>x==y&&dn.lookup x==some .cell&&sn.lookup x==some .free
   |_,_=>false)
  |_=>true)
structure VH(X:Cx)(scope:Scope)(nm:List Str)(cap:List (Option Nat)):Prop where
 clos:closureFor scope X.env=pure (i_ X.env scope.names [])
 cl:∀x c,(i_ X.env scope.names []).lookup x=some c->X.env.cells.lookup x=some c
 nms:∀x∈scope.names,x.2=.local->scope.names.lookup x.1=some .local
 cell:∀y∈scope.names,y.2≠.cell
 has:∀x,((relabel scope X.env).names.lookup x=some .cell\/(relabel scope X.env).names.lookup x=some .free)->∃c,(i_ X.env scope.names []).lookup x=some c
 cp:∀(i j:Nat),cap[i]?=some (some j)->∃x,nm[i]?=some x/\X.N[j]?=some x/\uY X scope (i_ X.env scope.names []) x
 len:cap.length=nm.length
theorem Sc{nm:List Str}{cap:List (Option Nat)}(hf:∀x,X.env.scope.names.lookup x=some .cell->∃c,X.env.cells.lookup x=some c)(hB:zy X.env.scope.names scope.names nm cap X.N=true):VH X scope nm cap:=by
 simp only[zy,bX,List.all_eq_true,nU,gU,db,bI]at hB
 obtain⟨⟨⟨⟨b1,b2⟩,b3⟩,b4⟩,b5⟩:=hB
 have has:∀x∈scope.names,x.2=.free->∃c,X.env.cells.lookup x.1=some c:=fun x hx hk=>by
  rcases b3 x hx with z|z
  ·exact absurd hk z
  ·exact hf _ z
 have t5:∀x c,(i_ X.env scope.names []).lookup x=some c->X.env.cells.lookup x=some c:=fun x c h=>w_ scope.names [] has (by simp) (x,c) (iT h)
 have hin:∀x,(x,NameKind.free)∈scope.names->∃c,(i_ X.env scope.names []).lookup x=some c:=fun x h=>let ⟨_,q⟩:=u4 (env:=X.env) scope.names [] x h;u5 q
 have hmap:(relabel scope X.env).names=scope.names.map fun y=>if (y.2==.free&&X.env.scope.kind==.function&&X.env.kindOf y.1==some .cell)then(y.1,NameKind.cell)else y:=by
  show scope.names.map _=_
  refine bJ fun y _=>?_
  obtain⟨a,b⟩:=y
  rfl
 have fr:∀x,((relabel scope X.env).names.lookup x=some .cell\/(relabel scope X.env).names.lookup x=some .free)->(x,NameKind.free)∈scope.names:=fun x h=>by
  have h':∃k,(x,k)∈(relabel scope X.env).names/\(k=.cell\/k=.free):=by
   rcases h with h|h
   ·exact⟨_,iT h,.inl rfl⟩
   ·exact⟨_,iT h,.inr rfl⟩
  obtain⟨k,hm,hk⟩:=h'
  rw[hmap]at hm
  obtain⟨y,hy,e⟩:=ba.mp hm
  obtain⟨a,b⟩:=y
  by_cases hb:b=.free
  ·subst hb
   have:a=x:=by split at e<;>(cases e;rfl)
   subst this;exact hy
  ·rw[ax (by simp[hb])]at e
   cases e
   rcases hk with rfl|rfl
   ·exact absurd rfl (b2 _ hy)
   ·exact absurd rfl hb
 refine⟨Sb has,t5,fun x hx hk=>(b1 x hx).resolve_left fun z=>z hk,fun y hy=>b2 y hy,fun x hx=>hin x (fr x hx),fun i j e=>?_,b4⟩
 have hi':i<cap.length:=(ac.mp e).1
 have q:=b5 i (bN.mpr hi')
 rw[e]at q
 dsimp only at q
 cases hx:nm[i]? with
 |none=>rw[hx]at q;simp at q
 |some x=>
  cases hy:X.N[j]? with
  |none=>rw[hx,hy]at q;simp at q
  |some y=>
   rw[hx,hy]at q
   simp only[bX,db]at q
   obtain⟨⟨rfl,q1⟩,q2⟩:=q
   refine⟨x,rfl,rfl,.inr (.inl q1),(by rw[q1];decide),?_,?_⟩
   ·obtain⟨c,hc⟩:=hin x (iT q2)
    rw[hc,t5 _ _ hc]
   ·rw[hmap];exact tK (env:=X.env) q2
theorem OM{pos:Pos}{nm:List Str}{wi:TI}{g:TG}{tc:TT}(ik:X.calm=true)
  (lj:X.env.cells=cellsFrom m X.env.scope.names []) (ij:scope.kind=.function) (hB:zy X.env.scope.names scope.names nm cap X.N=true)
  (hi:QI X tg c6 wi) (hg:∀cl C s0 H0 fp,QG (cS X nm scope cl C s0 H0 fp) tg g) (ht:∀cl C s0 H0 fp,VG (cS X nm scope cl C s0 H0 fp) kq tc)
  (he:∀cl C s0 H0 fp,QE (cS X nm scope cl C s0 H0 fp) nO te) (hs:∀x,foldedSetIterable c6 X.env x=pure x:=by intro _;rfl) :
  QE X (.ListComp nO [⟨tg,c6,kq,0⟩] scope pos) (uX cap wi g tc te):=by
 have F:=Sc (nm:=nm) (cap:=cap) (fun x z=>by rw[lj];exact mi z) hB
 exact⟨Ki ik F.clos F.cl ij F.nms F.cell F.has F.cp F.len hi.h (fun C s0 H0 fp=>(hg _ C s0 H0 fp).h) (fun C s0 H0 fp=>(ht _ C s0 H0 fp).h) (fun C s0 H0 fp=>(he _ C s0 H0 fp).h) hs⟩
def Ku(K:Frag):List V->Hp->VK->Prop:=fun xs H Q=>∃(p:Addr) (ys:List (List Nat)),xs=[.ref p]/\oZ K H p (ys.map fun l=>V.str (tx l))/\ys.length<64 /\
 ∀zs:List (List Nat),zs.Perm ys->sortedS (zs.map tx)=true->∀l H2,H l=none->H2=ei H l (.lst (zs.map fun l=>V.str (tx l)))->Q (.ref l) H2
theorem CP(z:Str):tx z.cps.toList=z:=by cases z;rfl
theorem wA:LU X (.builtin "sorted") (Ku X.K):=⟨by
 intro ag s σ H xs us Q I r h
 obtain⟨p,ys,rfl,hS,h64,q⟩:=h
 obtain⟨u,rfl,ru⟩:=nG r
 cases ru
 obtain⟨bq,rv,pl,hz⟩:=I.list hS
 have hl:=rv.length
 rw[al]at hl
 refine sorted_strs (ss:=ys.map tx) pl.isList (p8 (by simpa using rv)) (by omega) fun out ss' h1 h2 h3=>?_
 obtain⟨ep,hat⟩:=sortedAll_at s.heap bq out
 have wn:H (s.heap.objs.size+1)=none:=I.hok.fresh (dJ _)
 have hmap:(ss'.map fun z=>z.cps.toList).map tx=ss':=by
  rw[aS]
  have:(tx∘fun z:Str=>z.cps.toList)=id:=funext fun z=>CP z
  rw[this,iX]
 have hperm:(ss'.map fun z=>z.cps.toList).Perm ys:=by
  have e:=h2.map fun z:Str=>z.cps.toList
  rw[aS]at e
  have:((fun z:Str=>z.cps.toList)∘tx)=id:=funext fun l=>by simp[tx]
  rw[this,iX]at e
  exact e
 have hvals:cu ((ss'.map fun z=>z.cps.toList).map fun l=>V.str (tx l)) out.toList:=by
  have e:=mR h1
  rw[<- hmap,aS]at e
  exact e
 refine⟨.ref (s.heap.objs.size+1),_,I.laid (t':=s.toks) (fun b o e=>sortedAll_old e) (dJ _) ?_,rfl,q _ hperm (by rw[hmap];exact h3) _ _ wn rfl⟩
 refine⟨?_,out.toList,ep,hvals,hat⟩
 rw[al,hperm.length_eq]
 exact aL (gj h64) (by decide)⟩
theorem bA.turned2{t':Nat}{e:Addr}(I:bA X ag σ H s)(k:∀b o,b≠e->b≠it->s.heap.get? b=some o->h'.get? b=some o)
  (he:∃o,h'.get? e=some o) (f1:sf X ag H e) (f2:sf X ag H it):bA X ag σ H { s with heap:=h',toks:=t' }:=by
 have nit:∀b u,H b=some u->b≠e/\b≠it:=fun b u q=>⟨fun z=>(by rw[z,f1.1]at q;cases q),fun z=>(by rw[z,f2.1]at q;cases q)⟩
 have nin:∀b,b∉[e,it]->b≠e/\b≠it:=fun b h=>⟨fun z=>h (by simp[z]),fun z=>h (by simp[z])⟩
 refine I.step (g':=s.gens) (d':=s.drawn) (ch:=[e,it]) (fun b hb=>?_) (fun b o _ _ hc q _=>k b o (nin b hc).1 (nin b hc).2 q) (fun b o _ _ hc q _=>⟨o.slots,k b o (nin b hc).1 (nin b hc).2 q⟩) (fun _ _ _ _ n=>n)
  (fun b o hc q=>⟨o,k b o (nin b hc).1 (nin b hc).2 q⟩) (fun _ _ q=>q) (fun _ _ _ q=>q) (fun b ps q=>⟨#[],by rw[q];simp⟩) (fun m hm=>?_) (fun b u q=>?_) I.bare
 ·have z:b=e\/b=it:=by simpa using hb
  rcases z with rfl|rfl
  ·exact⟨f1.2.2.2.1,f1.2.1,f1.2.2.2.2.1,f1.2.2.2.2.2⟩
  ·exact⟨f2.2.2.2.1,f2.2.1,f2.2.2.2.2.1,f2.2.2.2.2.2⟩
 ·obtain⟨o,es,ep,ho,r⟩:=hm
  exact⟨o,es,ep,k _ o (Ne.symm f1.2.1) (Ne.symm f2.2.1) ho,r⟩
 ·refine(I.hok b u q).stay (fun c v hc z=>?_) (fun _ z=>z) fun _ _ z=>z
  rcases hc with y|y
  ·rw[y]at z ⊢;exact k b v (nit b u q).1 (nit b u q).2 z
  ·exact k c v (nit c _ y).1 (nit c _ y).2 z
section
variable{w:World}
theorem pG{t:Addr}{bq:Array Value}{x:Value}(st:s.heap.IsTupleIter it t i)(ht:s.heap.IsTuple t bq)(hx:bq[i]?=some x)
  (q:∀g,g.IsTupleIter it t (i+1)->Heap.SameBut it s.heap g->Q x { s with heap:=g }):wpAny (model prog w) A (Builtin.SmallTypes.nextOf (.ref it)) Q E s:=by
 obtain⟨ob,e1,e2,e3⟩:=id st
 obtain⟨ot,g1,_,nt,g3⟩:=ht
 have T:=st.typeIs
 unfold Builtin.SmallTypes.nextOf
 refine aa (be (name:=Str.ofString "__next__") T fx (bp fx T kF ?_ (kg _)))
 show wpAny _ _ (field (.ref it) 0 >>= _) _ _ s
 refine aa (bU e1 e3 (x:=.ref t) rfl ?_)
 dsimp only
 rw[ax (show ¬ ((Value.ref t==Value.none)=true)from cF)]
 refine aa (bU e1 e3 (x:=.int i 0) rfl ?_)
 dsimp only
 refine aa (dG g1 g3 ?_)
 simp only[aO,hx]
 refine aa (jo e1 e3 (by simp) (aq ⟨x,rfl,aq (q _ ?_ (eO ..))⟩))
 exact⟨_,cx _ e1 (jB (fy e3 _)),(Obj.cls_mapFields ..).trans e2,by rw[fy e3];simp[rawInt]⟩
theorem mS{t:Addr}{bq:Array Value}(hh:A.handled=none)(st:s.heap.IsTupleIter it t i)(ht:s.heap.IsTuple t bq)(hx:bq[i]?=none)
  (q:∀g e,Heap.ExtBut it s.heap g->(∃o,g.get? e=some o/\o.cls=.type "StopIteration")->E (.ref e) { s with heap:=g }):wpAny (model prog w) A (Builtin.SmallTypes.nextOf (.ref it)) Q E s:=by
 obtain⟨ob,e1,e2,e3⟩:=id st
 obtain⟨ot,g1,_,nt,g3⟩:=ht
 have T:=st.typeIs
 unfold Builtin.SmallTypes.nextOf
 refine aa (be (name:=Str.ofString "__next__") T fx (bp fx T kF ?_ (kg _)))
 show wpAny _ _ (field (.ref it) 0 >>= _) _ _ s
 refine aa (bU e1 e3 (x:=.ref t) rfl ?_)
 dsimp only
 rw[ax (show ¬ ((Value.ref t==Value.none)=true)from cF)]
 refine aa (bU e1 e3 (x:=.int i 0) rfl ?_)
 dsimp only
 refine aa (dG g1 g3 ?_)
 simp only[aO,hx]
 refine aa (iQ (aa (jo e1 e3 (by simp) (aa ?_))))
 simp only[newExc,newTuple]
 refine aa (bF (aa (m:=firstArgMember _ _) (fK (a:=Value.none) (by first|rfl|(simp only[firstArgMember];rfl)) (bF ?_ (by size_fits)))) (by size_fits))
 simp only[raiseNew]
 refine aa (pX ?_)
 rw[show A.in1.handled=none from hh]
 exact aa (aq (wpAny_throw (q _ _ (((eO ..).extBut.push _).push _) ⟨_,ar _ rfl,rfl⟩)))
end
theorem FK{w:World}{A:Around}(hh:A.handled=none)(it t:Addr)(xO:t≠it)(bq:Array Value) :
  Draws prog w A it [it,t] bq.size (fun i v=>bq[i]?=some v) (fun i h=>h.IsTupleIter it t i/\h.IsTuple t bq) where
 live:=fun _ _ st=>let ⟨o,e,_⟩:=st.1;⟨o,e⟩
 frame:=fun _ h h' st k=>⟨st.1.at fun o e=>k it (by simp) o e,let ⟨o,e,r⟩:=st.2;⟨o,k t (by simp) o e,r⟩⟩
 item:=fun i s Q E hi st q=>pG st.1 st.2 (x:=bq[i]) (by simp[hi]) fun g a b=>q _ g s.toks (by simp[hi]) ⟨a,st.2.extBut b.extBut xO⟩ b
 done:=fun s Q E st q=>mS hh st.1 st.2 (by simp) q
open AutoSeq1 (wpAny_loadPart')
def Wq(K:Frag)(a:Addr):It:=
 ⟨fun i H=>∃xs x,fS K H a xs/\xs[i]?=some x,fun i H v H'=>∃p,H p=none/\v=.ref p/\∀xs x,fS K H a xs->xs[i]?=some x->H'=ei H p (.tup [.int i,x]),fun i H=>∃xs,fS K H a xs/\xs.length<=i⟩
theorem En{w:World}(a it e:Addr)(Q5:e≠it) :
  xQ P w K (.Tuple jY kk pos) (Wq K a) [e,it] e (fun i h=>(∃old,IsEnum h e it i old)/\h.IsTupleIter it a i) where
 mem:=by simp
 obj:=fun i h st b hb=>by
  have z:b=e\/b=it:=by simpa using hb
  rcases z with rfl|rfl
  ·obtain⟨old,q⟩:=st.1
   exact⟨_,q,fun v z=>by cases z⟩
  ·obtain⟨o,q,c,d⟩:=st.2
   exact⟨o,q,fun v z=>by rw[d]at z;cases z⟩
 keep:=fun i h h' st k=>⟨let ⟨old,q⟩:=st.1;⟨old,k e (by simp) _ q⟩,st.2.at fun o q=>k it (by simp) o q⟩
 item:=by
  intro X hP hw hK hc i ag s σ H E I hf st hg
  subst hP hw hK
  obtain⟨xs,x,hq,hx⟩:=hg
  obtain⟨bq,rv,p,hz⟩:=I.tuple hq
  obtain⟨u,hu,ru⟩:=rv.get hx
  obtain⟨⟨old,he⟩,jm⟩:=st
  have hT:s.heap.IsTuple a bq.toArray:=p
  obtain⟨oa,ha,hca,_⟩:=id hT
  obtain⟨oi,hi,hci,_⟩:=id jm
  have nai:a≠it:=fun z=>by
   rw[z,hi]at ha;cases ha
   rw[hci]at hca;injection hca with z;exact absurd z (by decide)
  have nae:a≠e:=fun z=>by
   rw[z,he]at ha;cases ha
   injection hca with z;exact absurd z (by decide)
  have hlt:i<bq.toArray.size:=by
   have:=(ac.mp hu).1
   simpa using this
  refine mH (FK (A:=X.A.in1) (I.ok.hd hc) it a nai bq.toArray) he ⟨jm,hT⟩ hlt Q5 (by simp[Q5,Ne.symm nae]) fun x' g tk hx' ho' bz htup hsz hk=>⟨_,rfl,?_⟩
  have ex:x'=u:=by
   have e1:bq[i]?=some x':=by simpa using hx'
   rw[hu]at e1;exact(aF e1).symm
  subst ex
  refine ly ho' fun g2 Uu ze=>?_
  have wn:H s.heap.objs.size=none:=I.hok.fresh (aw _)
  have I1:bA X ag σ (ei H s.heap.objs.size (.tup [.int i,x])) { s with heap:=s.heap.push { cls:=.type "tuple",data:=.seq #[.int i tk,x'] },toks:=tk+1 }:=I.laid (fun b o q=>ai _ q) (aw _)
   ⟨by show 2<=sizeLine;decide,[.int i tk,x'],.cons ⟨tk,rfl⟩ (.cons ru .nil),⟨_,ar _ rfl,rfl,_,rfl⟩⟩
  have nf:∀b∈[e,it],b≠s.heap.objs.size:=fun b hb=>by
   have z:b=e\/b=it:=by simpa using hb
   rcases z with rfl|rfl
   ·exact aX (aC he)
   ·exact aX (aC hi)
  have fp:∀b∈[e,it],sf X ag (ei H s.heap.objs.size (.tup [.int i,x])) b:=fun b hb=>by
   obtain⟨f0,f⟩:=hf b hb
   exact⟨by rw[cv (nf b hb)];exact f0,f⟩
  have he2':IsEnum g2 e it ((i:Int)+1) x':=Uu
  have I2:bA X ag σ (ei H s.heap.objs.size (.tup [.int i,x])) { s with heap:=g2,toks:=tk+1 }:=I1.turned2 (t':=tk+1) (fun b o hbe hbi q=>?_) ⟨_,he2'⟩ (fp e (by simp)) (fp it (by simp))
  ·refine⟨.ref s.heap.objs.size,_,I2,rfl,⟨_,wn,rfl,fun ys y hy hy'=>?_⟩,⟨⟨x',by simpa using he2'⟩,bz.1.extBut ze.extBut (Ne.symm Q5)⟩,fun b hb=>(fp b hb).1⟩
   have e1:=I.tuple_inj hy hq
   subst e1
   rw[hx]at hy';cases hy';rfl
  ·have q':(s.heap.push { cls:=.type "tuple",data:=.seq #[.int i tk,x'] }).get? b=some o:=q
   refine ze.extBut b o hbe ?_
   by_cases hb:b=s.heap.objs.size
   ·subst hb
    have e1:=ar s.heap (o:={ cls:=.type "tuple",data:=.seq #[.int i tk,x'] }) rfl
    rw[e1]at q';cases q'
    exact htup
   ·rw[jp _ _ _ hb]at q'
    exact hk b o hbe hbi q'
 done:=by
  intro X hP hw hK hc i ag s σ H E I hf st hg
  subst hP hw hK
  obtain⟨xs,hq,hx⟩:=hg
  obtain⟨bq,rv,p,hz⟩:=I.tuple hq
  obtain⟨⟨old,he⟩,jm⟩:=st
  have hT:s.heap.IsTuple a bq.toArray:=p
  have hl:=rv.length
  have hT':Shared.TypeIs s (.ref e) "enumerate":=⟨_,he,rfl⟩
  unfold pyNext
  refine aa (dA (be (name:=Str.ofString "__next__") hT' gH (bp gH hT' ny ?_ (mI _))))
  show wpAny _ _ (field (.ref e) 2 >>= _) _ _ _
  refine aa (bU he rfl (x:=.ref it) rfl (aa (mS (show X.A.in1.handled=none from I.ok.hd hc) jm hT (by simp;omega) fun g y hx' hy=>?_)))
  obtain⟨o,ho,t5⟩:=hy
  refine aa (dS (T:="StopIteration") (b:=true) ⟨o,ho,t5⟩ gZ (aq ⟨rfl,?_⟩))
  obtain⟨f0,f1,f2,f3,f4,f5⟩:=hf it (by simp)
  exact I.turned (t':=s.toks) (fun b o hb q=>hx' b o hb q) f0 f1 f3 f4 f5
 self:=fun A i s Q E st h=>let ⟨_,q⟩:=st.1;jq q h
open AutoSeq1 (wpAny_loadPart')
noncomputable abbrev qA(t:Addr):Obj:={ cls:=.type "tuple_iterator",data:=.fields #[.ref t,.int 0 0] }
noncomputable abbrev sw(it:Addr):Obj:={ cls:=.type "enumerate",data:=.fields #[.none,.bool false,.ref it,rawInt 0,.none,.none] }
theorem ON(t:Addr)(bq:Array Value)(n:Nat)(dc:Option Addr)(sl:Array (Option Value)) :
  Meets (Builtin.«enumerate.__new__» ⟨[.type "enumerate",.ref t],[]⟩) (fun _ R s=>s.heap.get? t=some { cls:=.type "tuple",dict:=dc,data:=.seq bq n,slots:=sl } /\
   R (.ok (.ret (.ref (s.heap.push (qA t)).objs.size))) { s with heap:=(s.heap.push (qA t)).push (sw s.heap.objs.size) }):=
 .of_wp fun prog w A R s h=>by
  obtain⟨hp,g,d,tk,os⟩:=s
  obtain⟨ht,h⟩:=h
  have sb:=sub_enumerate
  have hT:Heap.IsTuple (Shared.heap ⟨hp,g,d,tk,os⟩) t bq:=⟨_,ht,rfl,n,rfl⟩
  wp_walk using bv ht
  refine wpAny_stack_any fun st=>aq ?_
  split
  ·rename_i c _ _ _ _ _
   cases(c==Value.type "enumerate")<;>(wp_walk using bv ht,gk hT;exact⟨_,rfl,h⟩)
  ·wp_walk using bv ht,gk hT
   exact⟨_,rfl,h⟩
section
variable{w:World}
theorem wB{t:Addr}{bq:Array Value}(hT:s.heap.IsTuple t bq)
  (q:∀g,IsEnum g (s.heap.objs.size+1) s.heap.objs.size 0 .none->g.IsTupleIter s.heap.objs.size t 0->(∀b o,s.heap.get? b=some o->g.get? b=some o)->Q (.ref (s.heap.objs.size+1)) { s with heap:=g }) :
  wpAny (model prog w) A (call (.type "enumerate") [.ref t]) Q E s:=by
 obtain⟨⟨c,dc,dt,sl⟩,ht,hc,n,hd⟩:=hT
 obtain rfl:c=.type "tuple":=hc
 obtain rfl:dt=.seq bq n:=hd
 refine nA F.called_enumerate (by decide) (nB _) (oo _) (fun ob=>F.args_object_init_2 ob _) oq (ON t bq n dc sl) ⟨ht,?_⟩
 have z:(s.heap.push (qA t)).objs.size=s.heap.objs.size+1:=bt ..
 show _/\_
 rw[z]
 have e1:IsEnum ((s.heap.push (qA t)).push (sw s.heap.objs.size)) (s.heap.objs.size+1) s.heap.objs.size 0 .none:=by
  have y:=ar (s.heap.push (qA t)) (o:=sw s.heap.objs.size) rfl
  rw[z]at y;exact y
 exact⟨⟨_,e1,rfl⟩,q _ e1 ⟨_,ai _ (ar _ rfl),rfl,rfl⟩ fun b o y=>ai _ (ai _ y)⟩
end
section
def VI(K:Frag)(ta:TA):TI:=fun σ H R=>ta σ H fun vs H1=>∃a,vs=[.ref a]/\(∃xs,fS K H1 a xs)/\R (Wq K a) H1
theorem FL{a:Expr}{ta:TA}{p pos tp:Pos}{jY:List Expr}{kk:Nat}(hm:X.mg "enumerate"=none)(ha:QA X [a] ta)(hg:Gl X "enumerate":=by rfl)(hs:starEach [a] X.env=[(false,eval a X.env)]:=by rfl) :
  QI X (.Tuple jY kk tp) (.Call (.Name "enumerate" p) [a] [] pos) (VI X.K ta):=⟨by
 intro ag s σ H R I h
 refine Call_ (kP I hg hm oV (bR (gg (ha.h pos ag s σ H _ I h) fun us s1 ⟨vs,H1,I1,r1,q1⟩=>?_) hs rfl))
 obtain⟨t,e,⟨xs,hq⟩,q⟩:=q1
 subst e
 obtain⟨u,rfl,ru⟩:=nG r1
 cases ru
 obtain⟨bq,rv,pt,hz⟩:=I1.tuple hq
 refine wB (show s1.heap.IsTuple t bq.toArray from pt) fun g e1 e2 kp=>?_
 refine jq e1 ?_
 refine⟨s1.heap.objs.size+1,[s1.heap.objs.size+1,s1.heap.objs.size],_,_,H1,rfl,I1.kept (t':=s1.toks) kp,En t _ _ (mJ _),⟨⟨_,e1⟩,e2⟩,fun b hb=>?_,q⟩
 have z:b=s1.heap.objs.size+1\/b=s1.heap.objs.size:=by simpa using hb
 rcases z with rfl|rfl
 ·exact I1.fpOk (dJ _) (I1.hok.fresh (dJ _))
 ·exact I1.fpOk (aw _) (I1.hok.fresh (aw _))⟩
end
section
variable{g:TG}{tc:TT}{H1:Hp}{Q:VK}
end
theorem xa:∀(p:Nat) (m:List Nat),risingS (tx [p]) (m.map fun c=>tx [c])=true->(∀c∈m,p<=c)/\m.Pairwise (· <= ·)
 |p,[],_=>⟨fun c h=>by simp at h,.nil⟩
 |p,c::r,h=>by
  have h':(!ltCps (tx [c]).cps.toList (tx [p]).cps.toList&&risingS (tx [c]) (r.map fun c=>tx [c]))=true:=h
  rw[bX]at h'
  obtain⟨a,b⟩:=h'
  obtain⟨b1,b2⟩:=xa c r b
  have EU:p<=c:=by
   rw[ltCps_eq]at a
   have a':(!decide ([c]<[p]))=true:=a
   have:=iR (gU _▸a')
   rcases kG c p with z|z
   ·exact absurd (List.Lex.rel z) this
   ·exact z
  refine⟨fun x hx=>?_,bG.mpr ⟨b1,b2⟩⟩
  rcases aH.mp hx with rfl|hx
  ·exact EU
  ·exact aL EU (b1 x hx)
theorem zB:∀(m:List Nat),sortedS ((m.map fun c=>[c]).map tx)=true->m.Pairwise (· <= ·)
 |[],_=>.nil
 |c::r,h=>by
  have h':risingS (tx [c]) ((r.map fun c=>[c]).map tx)=true:=h
  rw[aS]at h'
  obtain⟨a,b⟩:=xa c r h'
  exact bG.mpr ⟨a,b⟩
theorem dY:Slot "set_iterator" "__next__" "set_iterator.__next__":=.of (owner:="set_iterator") (n:="__next__") (by rw[gs,dP];kernel_rfl) (by decide +kernel) (by decide +kernel) (by decide +kernel) (by first|exact .inl (by decide +kernel)|exact .inr (by decide +kernel)) (by rw[cI];kernel_rfl)
theorem lM:entryFor table "set_iterator.__next__"=some Builtin.«set_iterator.__next__»:=entryFor_of_tree (by kernel_rfl)
theorem lP(a:Value):argsOk "set_iterator.__next__" ⟨[a],[]⟩:=by unfold argsOk;kernel_rfl
theorem zC:entryFor table "set.__iter__"=some Builtin.«frozenset.__iter__»:=lD (id':="frozenset.__iter__") (by kernel_rfl) (by first|rfl|decide +kernel|(unfold String.splitOn;simp +decide [String.splitOnAux])) (by decide +kernel) (by kernel_rfl)
noncomputable def ud(w:World):Bool:=w.params.followText "set-order"
def CQ(w:World)(n:Nat)(t:SetTable):Prop:=(ud w=true\/t.led=true)/\(n=0\/t.plain=false)
theorem Eo(t:SetTable)(es:Array (Int×Value))(h:Int)(x:Value):(layNew t es h x).2.1.led=t.led/\(t.plain=false->(layNew t es h x).2.1.plain=false):=by
 unfold layNew
 split
 ·dsimp only
  unfold SetTable.orStandIn
  split
  ·exact⟨rfl,fun z=>z⟩
  ·exact⟨rfl,fun _=>rfl⟩
 ·exact⟨rfl,fun _=>rfl⟩
theorem x9{t t':SetTable}{hs:Array Int}{o:Array Nat}(h:t.relaid hs n=some (t',o)):t'.led=t.led/\t'.plain=t.plain:=by
 unfold SetTable.relaid SetTable.laid at h
 cases hc:SetTable.layClean (SetTable.sizeAbove n-1) hs with
 |none=>rw[hc]at h;cases h
 |some ow=>
  rw[hc]at h
  have h':=aF h
  obtain⟨a,_⟩:=Prod.mk.inj h'
  subst a
  exact⟨rfl,rfl⟩
theorem zD(t:SetTable)(es:Array (Int×Value))(n:Nat):(relayAll t es n).2.1.led=t.led/\(t.plain=false->(relayAll t es n).2.1.plain=false):=by
 unfold relayAll
 split
 ·rename_i t' o he
  obtain⟨a,b⟩:=x9 he
  dsimp only
  split
  ·exact⟨a,fun z=>b.trans z⟩
  ·exact⟨rfl,fun _=>rfl⟩
 ·exact⟨rfl,fun _=>rfl⟩
section
variable{w:World}
def zE(prog:Program)(w:World)(h:Heap)(a:Addr)(ks:List Str):Prop:=
 ∃o es ep t,h.get? a=some o/\o.ExactSet/\o.data=.set es ep t/\ElemsOf (PySem.strKind prog w) es.toList/\(es.toList.map fun e=>strOf e.2).Perm ks/\es.size<scanBound/\t.fits es.size=true/\CQ w es.size t
theorem zF{l:List (Int×Value)}(h:ElemsOf (PySem.strKind prog w) l):∀e∈l,∃t,e.2=.str (strOf e.2) t:=fun e he=>by
 obtain⟨⟨k,hk,_⟩,_⟩:=h e he
 obtain⟨t,ht⟩:=kr hk
 exact⟨t,by rw[ht];rfl⟩
theorem xb{k:Str}{e:Int×Value}{l:List (Int×Value)}(h:ElemsOf (PySem.strKind prog w) l)(he:e∈l):(PySem.strKind prog w).is k e.2=true↔k=strOf e.2:=by
 obtain⟨t,ht⟩:=zF h e he
 constructor
 ·intro z
  obtain⟨u,hu⟩:=kr z
  rw[hu];rfl
 ·intro z
  show Value.isStrOf k e.2=true
  rw[ht,z]
  show Value.isStrOf (strOf e.2) (.str (strOf e.2) t)=true
  unfold Value.isStrOf;simp
theorem zE.keep(z:zE prog w h a ks)(k:∀o,h.get? a=some o->h'.get? a=some o):zE prog w h' a ks:=let ⟨o,es,ep,t,ho,r⟩:=z;⟨o,es,ep,t,k o ho,r⟩
theorem Kv{x:Str}{tk:Tok}{Q:Bool->Shared->Prop}(z:zE prog w s.heap a ks)(WG:ks.length+1<scanBound)
  (q:∀b g,Heap.SameBut a s.heap g->zE prog w g a (if x∈ks then ks else ks++[x])->Q b { s with heap:=g }):wpAny (model prog w) A (setAddHashed a (.str x tk) ((PySem.strKind prog w).hash x)) Q E s:=by
 obtain⟨o,es,ep,t,ho,zg,hd,hel,hp,hb,hf,JI⟩:=z
 have da:es.size=ks.length:=by have:=hp.length_eq;simpa using this
 have hkey:(PySem.strKind prog w).is x (.str x tk)=true:=by show Value.isStrOf x (.str x tk)=true;unfold Value.isStrOf;simp
 have hsc:(Value.str x tk).scannable=true:=rfl
 unfold setAddHashed setAddHashedIn
 refine dz (aa (fL ho hd hf ?_))
 dsimp only
 rw[byScan_of hsc hb hel,au rfl]
 unfold setAddByScan
 refine aa (aa (iQ (aa (wpAny_setScan_of hkey ho hd hf hel ?_))))
 cases hr:List.findIdx? (fun e=>(PySem.strKind prog w).is x e.2) es.toList with
 |some j=>
  obtain⟨hj,hpj,_⟩:=List.findIdx?_eq_some_iff_getElem.mp hr
  have hin:x∈ks:=hp.mem_iff.mp (ba.mpr ⟨es.toList[j],dU hj,((xb hel (dU hj)).mp hpj).symm⟩)
  refine aq (aq ?_)
  have e1:=q false s.heap (Heap.SameBut.refl a s.heap) (by rw[au hin];exact⟨o,es,ep,t,ho,zg,hd,hel,hp,hb,hf,JI⟩)
  exact e1
 |none=>
  have hin:¬ x∈ks:=fun hx=>by
   obtain⟨e,he,hxe⟩:=ba.mp (hp.mem_iff.mpr hx)
   have y:=List.findIdx?_eq_none_iff.mp hr e he
   rw[(xb hel he).mpr hxe.symm]at y
   cases y
  have q':=fun b g h1 h2=>q b g h1 (by rw[ax hin];exact h2)
  dsimp only
  have lp:=layNew_perm t es ((PySem.strKind prog w).hash x) (.str x tk)
  have lf:=layNew_fits t es ((PySem.strKind prog w).hash x) (.str x tk)
  have lm:=Eo t es ((PySem.strKind prog w).hash x) (.str x tk)
  generalize layNew t es ((PySem.strKind prog w).hash x) (.str x tk)=L at lp lf lm ⊢
  obtain⟨es1,t1,wd,gv⟩:=L
  dsimp only at lp lf lm ⊢
  rw[Array.toList_push]at lp
  have el1:ElemsOf (PySem.strKind prog w) es1.toList:=(hel.push hkey hsc).perm lp
  have sz1:es1.size=es.size+1:=by have:=lp.length_eq;simpa using this
  have b1:es1.size<scanBound:=by omega
  have p1:(es1.toList.map fun e=>strOf e.2).Perm (ks++[x]):=by
   have y:=lp.map fun e:Int×Value=>strOf e.2
   rw[bw]at y
   exact y.trans (hp.append_right _)
  have gw:∀(b:Bool) {s₁:Shared} {Q':Unit->Shared->Prop},Q' () s₁->wpAny (model prog w) A (match b with|true=>rule "set.scan.the-table-gave-way" | false=>pure ()) Q' E s₁:=fun b _ _ y=>by cases b<;>first|exact aq y|exact iQ y
  refine aa (gw _ ?_)
  have fin:∀t2:SetTable,t2.fits es1.size=true->t2.led=t.led->t2.plain=false->wpAny (model prog w) A (do
    storeSet a es1 t2
    if (!wd&&t2.tooFull)=true then do
      (match (relayAll t2 es1 (SetTable.grown es1.size)).2.2 with|true=>rule "set.scan.the-table-gave-way" | false=>pure ())
      storeSet a (relayAll t2 es1 (SetTable.grown es1.size)).1 (relayAll t2 es1 (SetTable.grown es1.size)).2.1
      pure (some true)
     else pure (some true)) (fun r s'=>wpAny (model prog w) A (match r with|some added=>pure added|none=>setAddHashedIn a (.str x tk) ((PySem.strKind prog w).hash x) 99999) Q E s') E s:=by
   intro t2 f2 l2 n2
   have to2:CQ w es1.size t2:=⟨by rw[l2];exact JI.1,.inr n2⟩
   refine aa (wpAny_storeSet_of ho hd ?_ (fits_of_scanBound b1))
   have g1:(s.heap.update a (Obj.putSet es1 t2)).get? a=some { o with data:=.set es1 (ep+1) t2 }:=by
    have y:=cx (Obj.putSet es1 t2) ho (by rw[tu es1 t2 hd];rfl)
    rw[tu es1 t2 hd]at y;exact y
   have sb:=eO s.heap a (Obj.putSet es1 t2)
   split
   ·have rp:=relayAll_perm t2 es1 (SetTable.grown es1.size)
    have rf:=relayAll_fits t2 es1 (SetTable.grown es1.size)
    have rm:=zD t2 es1 (SetTable.grown es1.size)
    generalize relayAll t2 es1 (SetTable.grown es1.size)=R at rp rf rm ⊢
    obtain⟨es2,t3,gv2⟩:=R
    dsimp only at rp rf rm ⊢
    have sz2:es2.size=es1.size:=by have:=rp.length_eq;simpa using this
    refine aa (gw _ (aa (wpAny_storeSet_of g1 rfl (aq (aq ?_)) (fits_of_scanBound (by omega)))))
    have g2:((s.heap.update a (Obj.putSet es1 t2)).update a (Obj.putSet es2 t3)).get? a=some { o with data:=.set es2 (ep+1+1) t3 }:=by
     have y:=cx (Obj.putSet es2 t3) g1 (by rw[tu es2 t3 rfl];rfl)
     rw[tu es2 t3 rfl]at y;exact y
    refine q' true _ (sb.trans (eO _ a _)) ⟨_,es2,_,t3,g2,zg,rfl,el1.perm rp,?_,by omega,rf,?_⟩
    ·exact(rp.map fun e:Int×Value=>strOf e.2).trans p1
    ·exact⟨by rw[rm.1,l2];exact JI.1,.inr (rm.2 n2)⟩
   ·exact aq (aq (q' true _ sb ⟨_,es1,_,t2,g1,zg,rfl,el1,p1,b1,f2,to2⟩))
  by_cases qu:t1.plain=true
  ·rw[au qu,hashByValue_scannable 8 hsc]
   refine aa (aq ?_)
   exact fin { t1 with plain:=false } (SetTable.fits_plain_off lf) lm.1 rfl
  ·rw[ax qu]
   refine aa (aq ?_)
   exact fin t1 lf lm.1 (by simpa using qu)
end
section
variable{w:World}{R:Result->Shared->Prop}{I:Addr}{wr:List Addr}{P:Nat->Value->Prop}{St:Nat->Heap->Prop}
def LV(prog:Program)(w:World)(val:Nat->Str)(h:Heap)(a:Addr)(i:Nat):Prop:=∃ks,zE prog w h a ks/\ks.Nodup/\(∀x,x∈ks↔∃j,j<i/\val j=x)/\ks.length<=i
theorem FM(W:Walks prog w A.in1 I fp wr n P St)(S:Addr)(WE:S∉fp)(val:Nat->Str)(A1:∀i v,P i v->∃t,v=.str (val i) t)(hb:n+1<scanBound) :
  ∀(k i:Nat) (s:Shared),n-i=k->i<=n->St i s.heap->LV prog w val s.heap S i ->
   (∀g tk,LV prog w val g S n->(∀b o,b≠S->b∉wr->s.heap.get? b=some o->g.get? b=some o)->R (.ok (.ret .none)) { s with heap:=g,toks:=tk }) ->
   codeAny (model prog w) A (.builtin "set.update.loop" ⟨[.ref S,.ref I],[]⟩) R s:=by
 have hSw:S∉wr:=fun h=>WE (W.sub _ h)
 intro k
 induction k with
 |zero=>
  intro i s hk hi st hM hR
  obtain rfl:i=n:=by omega
  refine gu iw ?_
  rw[fM eP _]
  show wpAny _ A.in1 (pyNext (.ref I) >>= _) _ _ s
  refine aa (W.done s _ _ st fun g tk kp=>aq (hR g tk ?_ fun b o _ hb e=>kp b o hb e))
  obtain⟨ks,z,r⟩:=hM
  exact⟨ks,z.keep fun o e=>kp S o hSw e,r⟩
 |succ k ih=>
  intro i s hk hi st hM hR
  have hlt:i<n:=by omega
  refine gu iw ?_
  rw[fM eP _]
  show wpAny _ A.in1 (pyNext (.ref I) >>= _) _ _ s
  refine aa (W.item i s _ _ hlt st fun v g tk hP bz kp=>?_)
  obtain⟨t,rfl⟩:=A1 i v hP
  obtain⟨ks,z,nd,mem,len⟩:=hM
  have z':zE prog w g S ks:=z.keep fun o e=>kp S o hSw e
  refine aa (dz ?_)
  unfold setAdd
  refine dz (aa ((PySem.strKind prog w).pyHash (k:=val i) (show Value.isStrOf (val i) (.str (val i) t)=true by unfold Value.isStrOf;simp) ?_))
  refine Kv (s:={ s with heap:=g,toks:=tk+1 }) z' (by omega) fun _ g2 sb z2=>?_
  refine aq ⟨jM eP _,ih (i+1) _ (by omega) hlt (W.frame _ _ _ bz fun b hb o e=>?_) ?_ fun g3 tk3 hM3 kp3=>?_⟩
  ·rw[sb.2 b (fun h:b=S=>WE (by rw[<- h];exact hb))];exact e
  ·refine⟨_,z2,?_,fun x=>?_,?_⟩
   ·by_cases hx:val i∈ks
    ·rw[au hx];exact nd
    ·rw[ax hx];exact jr.mpr ⟨nd,by simp,fun a ha b hb=>by rw[bB]at hb;subst hb;exact fun e=>hx (e▸ha)⟩
   ·by_cases hx:val i∈ks
    ·rw[au hx,mem x]
     constructor
     ·rintro⟨j,hj,e⟩;exact⟨j,by omega,e⟩
     ·rintro⟨j,hj,e⟩
      by_cases hji:j=i
      ·subst hji;subst e;exact(mem _).mp hx
      ·exact⟨j,by omega,e⟩
    ·rw[ax hx,aY,mem x,bB]
     constructor
     ·rintro(⟨j,hj,e⟩|e)
      ·exact⟨j,by omega,e⟩
      ·exact⟨i,by omega,e.symm⟩
     ·rintro⟨j,hj,e⟩
      by_cases hji:j=i
      ·subst hji;exact .inr e.symm
      ·exact .inl ⟨j,by omega,e⟩
   ·by_cases hx:val i∈ks
    ·rw[au hx];omega
    ·rw[ax hx,aE,dg];omega
  ·exact hR g3 tk3 hM3 fun b o hb hw e=>kp3 b o hb hw ((sb.2 b hb).trans (kp b o hw e))
end
section
variable{w:World}
abbrev dB(w:World):Obj:={ cls:=.type "set",dict:=none,data:=.set #[] 0 (.fresh 0 0 (!ud w)) }
theorem zG(a:Value){Q₁:Value->Shared->Prop}(h:Q₁ (.ref s.heap.objs.size) { s with heap:=s.heap.push (dB w) }) :
  codeAny (model prog w) A (.call (.builtin "set.__new__") ⟨[.type "set",a],[]⟩) (wants Q₁ E) s:=by
 refine codeAny_of_tree ?_
 show wpAny _ A.in1 (do checkBuiltinCall "set.__new__" ⟨[.type "set",a],[]⟩;again (.builtin "set.__new__" ⟨[.type "set",a],[]⟩)) _ _ s
 refine aa (fK (PySem.F.newCall_set_1 a) (aq ⟨jM PySem.F.plain_set_new _,gu PySem.F.entry_set_new ?_⟩))
 rw[fM PySem.F.plain_set_new _]
 unfold Builtin.«set.__new__» Builtin.Frozenset.newClass
 have sb:=sub_set_self
 obtain⟨hp,g,d,tk,os⟩:=s
 dsimp only
 wp_walk
 refine mK (aq ?_)
 dsimp only
 simp only[newObj]
 exact aa (wpAny_alloc (aq (aq h)))
set_option maxHeartbeats 8000000 in
theorem l8{T:String}{U8:Obj}{fp:Addr->List Addr}{n:Nat}{P:Nat->Value->Prop}{St:Addr->Nat->Heap->Prop}{val:Nat->Str}{Q:Value->Shared->Prop}(hT:Shared.TypeIs { s with heap:=s.heap.push (dB w) } v T)
  (n1:isSubtype (.type T) (.type "set")=pure false) (n2:isSubtype (.type T) (.type "frozenset")=pure false) (n3:(Value.type T==Value.type "dict")=false)
  (jm:∀(A:Around) (E:Value->Shared->Prop) (Q:Value->Shared->Prop),Q (.ref (s.heap.objs.size+1)) { s with heap:=(s.heap.push (dB w)).push U8 }->wpAny (model prog w) A (pyIter v) Q E { s with heap:=s.heap.push (dB w) })
  (W:∀(A:Around) (it:Addr),A.handled=none->it=s.heap.objs.size+1->Walks prog w A it (fp it) [it] n P (St it)) (Uz:s.heap.objs.size∉fp (s.heap.objs.size+1)) (st:St (s.heap.objs.size+1) 0 ((s.heap.push (dB w)).push U8)) (A1:∀i v,P i v->∃t,v=.str (val i) t)
  (hh:A.handled=none) (hb:n+1<scanBound)
  (q:∀g tk,LV prog w val g s.heap.objs.size n->(∀b o,s.heap.get? b=some o->g.get? b=some o)->Q (.ref s.heap.objs.size) { s with heap:=g,toks:=tk }) :
  wpAny (model prog w) A (call (.type "set") [v]) Q E s:=by
 obtain⟨c,tl,hmro⟩:=PySem.F.called_set.mro
 have hmade:=PySem.F.called_set.made
 have hsub:=PySem.F.called_set.sub
 refine qr (codeAny_of_tree ?_)
 show wpAny _ _ (callAny (.type "set") _) _ _ _
 refine aq ⟨Code.quiet_builtin _ (by decide +kernel),gu PySem.F.entry_type_call ?_⟩
 rw[Around.under_plain (weight_type_call_type "set" [v] []) rfl]
 have h1:=PySem.F.called_set.notType
 have h2:=PySem.F.called_set.canCreate
 have hct:=PySem.F.typeCall_set_1 v
 repeat(any_goals (first|assumption|wp_step))
 refine ic (zG v (E:=E) (Q₁:=fun obj s₁=>obj=.ref s.heap.objs.size/\s₁={ s with heap:=s.heap.push (dB w) }) ⟨rfl,rfl⟩) fun r s₁ hr=>?_
 cases r with
 |error e=>exact hr
 |ok fl=>
  cases fl with
  |ret obj=>
   obtain⟨rfl,rfl⟩:=hr
   have gS:(s.heap.push (dB w)).get? s.heap.objs.size=some (dB w):=ar _ rfl
   have tS:Shared.TypeIs { s with heap:=s.heap.push (dB w) } (.ref s.heap.objs.size) "set":=⟨_,gS,rfl⟩
   have hli:=PySem.F.called_set.init.lookup
   have hbi:=PySem.F.called_set.init.bind (.ref s.heap.objs.size)
   repeat(any_goals (first|assumption|wp_step))
   refine ic (codeAny_call_builtin (R:=wants (fun r s₂=>r=.none/\∃g tk,s₂={ s with heap:=g,toks:=tk }/\LV prog w val g s.heap.objs.size n/\(∀b o,s.heap.get? b=some o->g.get? b=some o)) E) PySem.F.called_set.init.plain PySem.F.entry_set_init (check_set_init_1 tS ?_)) fun r₂ s₂ hr₂=>?_
   ·unfold Builtin.«set.__init__» noKeywords Builtin.Frozenset.updateFrom
    generalize hPI:pyIter=PI
    wp_walk
    subst hPI
    refine jm _ _ _ (aa (wpAny_runValue ?_))
    have g0:((s.heap.push (dB w)).push U8).get? s.heap.objs.size=some (dB w):=ai _ gS
    have m0:LV prog w val ((s.heap.push (dB w)).push U8) s.heap.objs.size 0:=⟨[],⟨_,#[],0,_,g0,⟨rfl,rfl,rfl⟩,rfl,fun e he=>by simp at he,by simp,by unfold scanBound;decide,rfl,?_⟩,List.nodup_nil,fun x=>by simp,aw _⟩
    ·refine FM (W _ _ (by simpa using hh) rfl) s.heap.objs.size Uz val A1 hb (n-0) 0 _ rfl (cL _) st m0 fun g tk hM kp=>?_
     refine aq (aq ⟨rfl,g,tk,rfl,hM,fun b o e=>kp b o (aX (aC e)) (fun hbm=>?_) (ai _ (ai _ e))⟩)
     rw[bB]at hbm
     exact absurd (aC e) (by rw[hbm];exact iP.mpr (dJ _))
    ·refine⟨?_,.inl rfl⟩
     show ud w=true\/(!ud w)=true
     cases ud w<;>simp
   ·cases r₂ with
    |error e=>exact hr₂
    |ok fl₂=>
     cases fl₂ with
     |ret r=>
      obtain⟨rfl,g,tk,rfl,hM,kp⟩:=hr₂
      repeat(any_goals (first|assumption|wp_step))
      exact q g tk hM kp
     |_=>exact hr₂.elim
  |_=>exact hr.elim
end
theorem p9:∀{l:List α} {i:Nat} (h:i<l.length),(l[i]::l.eraseIdx i).Perm l
 |x::r,0,_=>g7 _
 |x::r,i+1,h=>(List.Perm.swap x (r[i]'(by simpa using h)) (r.eraseIdx i)).trans ((p9 (l:=r) (i:=i) (by simpa using h)).cons x)
section
theorem wC{WU:Source}{Q:Nat->Shared->Prop}(hn:n≠0)(h:∀i,i<n->∀d,Q i { s with drawn:=d }):wpAny M A (choose WU n) Q E s:=fun _ _ _=>⟨hn,h _ (Nat.mod_lt _ (Nat.pos_of_ne_zero hn)) _⟩
theorem zH:∀(n:Nat) (xs:List α) (s:Shared) (Q:List α->Shared->Prop),xs.length=n->(∀ys,ys.Perm xs->∀d,Q ys { s with drawn:=d })->wpAny M A (drawOrder n xs) Q E s
 |0,xs,s,Q,hl,h=>by
  have e:xs=[]:=gb hl
  subst e
  unfold drawOrder
  exact aq (h [] (g7 _) s.drawn)
 |n+1,[],s,Q,hl,h=>by simp at hl
 |n+1,x::r,s,Q,hl,h=>by
  unfold drawOrder
  refine aa (wC (by simp) fun i hi d=>?_)
  have e:(x::r)[i]?=some (x::r)[i]:=ae hi
  rw[e]
  dsimp only
  refine aa (zH n ((x::r).eraseIdx i) _ _ (by rw[List.length_eraseIdx,au hi];simp at hl ⊢;omega) fun ys hp d'=>aq (h _ ?_ d'))
  exact(List.Perm.cons _ hp).trans (p9 hi)
theorem CS(next:Nat->Nat):∀(LJ k:Nat) (A8:List α) (out:Array α),A8.length=LJ->(pickOrder.go next LJ k A8 out).toList.Perm (out.toList++A8)
 |0,k,A8,out,h=>by
  have e:A8=[]:=gb h
  subst e
  unfold pickOrder.go
  simp
 |LJ+1,k,A8,out,h=>by
  have hlt:next k%A8.length<A8.length:=Nat.mod_lt _ (by omega)
  unfold pickOrder.go
  rw[ae hlt]
  dsimp only
  refine(CS next LJ (k+1) _ _ (by rw[List.length_eraseIdx,au hlt];omega)).trans ?_
  rw[Array.toList_push,bh]
  exact ou _ (p9 hlt)
theorem Ep(next:Nat->Nat)(xs:Array α):(pickOrder next xs).toList.Perm xs.toList:=by
 unfold pickOrder
 have:=CS next xs.size 0 xs.toList #[] (by simp)
 simpa using this
end
noncomputable abbrev pH(f:Value)(i:Int)(S:Addr)(n ep:Nat):Obj:={ cls:=.type "set_iterator",dict:=none,data:=.fields #[f,rawInt i,.ref S,rawInt n,rawInt ep],slots:=#[] }
section
variable{w:World}
theorem u6{Q:Fin->Shared->Prop}(hh:A.handled=none)(q:∀g e,(∀b o,s.heap.get? b=some o->g.get? b=some o)->(∃o,g.get? e=some o/\o.cls=.type "StopIteration")->E (.ref e) { s with heap:=g }) :
  wpAny (model prog w) A (do let x <- newExc (.type "StopIteration") [];raiseNew x) Q E s:=by
 refine aa ?_
 simp only[newExc,newTuple]
 refine aa (bF (aa (m:=firstArgMember _ _) (fK (a:=Value.none) (by first|rfl|(simp only[firstArgMember];rfl)) (bF ?_ (by size_fits)))) (by size_fits))
 simp only[raiseNew]
 refine aa (pX ?_)
 rw[hh]
 exact aa (aq (wpAny_throw (q _ _ (fun b o e=>ai _ (ai _ e)) ⟨_,ar _ rfl,rfl⟩)))
structure jy(w:World)(h:Heap)(S:Addr)(es:Array (Int×Value))(ep:Nat)(t:SetTable):Prop where
 ex:∃o,h.get? S=some o/\o.ExactSet/\o.data=.set es ep t
 fits:t.fits es.size=true
theorem jy.keep{S:Addr}{es:Array (Int×Value)}{t:SetTable}(z:jy w h S es ep t)(k:∀o,h.get? S=some o->h'.get? S=some o):jy w h' S es ep t:=⟨let ⟨o,ho,r⟩:=z.ex;⟨o,k o ho,r⟩,z.fits⟩
theorem Er{S p:Addr}{k:Nat}{es:Array (Int×Value)}{t:SetTable}{pv:Array Value}{pn:Nat}{x:Int×Value}{Q:Option Value->Shared->Prop}(jm:s.heap.get? it=some (pH (.ref p) i S n ep))(hS:jy w s.heap S es ep t)(hn:es.size=n)
  (hp:∃o,s.heap.get? p=some o/\o.cls=.type "tuple"/\o.data=.seq pv pn) (hk:pv[i]?=some (rawInt k)) (hx:es[k]?=some x)
  (q:∀g,g.get? it=some (pH (.ref p) ((i:Int)+1) S n ep)->Heap.SameBut it s.heap g->Q (some x.2) { s with heap:=g }):wpAny (model prog w) A (pyNext (.ref it)) Q E s:=by
 obtain⟨o,ho,zg,hd⟩:=hS.ex
 obtain⟨op,hop,hcp,hdp⟩:=hp
 have T:Shared.TypeIs s (.ref it) "set_iterator":=⟨_,jm,rfl⟩
 unfold pyNext
 refine aa (dA (be (name:=Str.ofString "__next__") T dY (bp dY T lM ?_ (lP _))))
 show wpAny _ _ (fieldsOf (.ref it) >>= _) _ _ s
 refine aa (lE jm rfl ?_)
 dsimp only
 refine aa (fU ho hd hS.fits ?_)
 rw[ax (by rw[hn];simp)]
 refine aa (dG hop hdp ?_)
 simp only[aO,hk]
 unfold setNextDrawn
 refine aa (aa (fL ho hd hS.fits ?_))
 dsimp only
 rw[ax (by simp),aO,hx]
 refine aq (aa (cr jm (by simp) fun g e1 e2=>aq ⟨_,rfl,aq (q g (by simpa using e1) e2)⟩))
theorem wD{S p:Addr}{es:Array (Int×Value)}{t:SetTable}{pv:Array Value}{pn:Nat}{Q:Option Value->Shared->Prop}(hh:A.handled=none)(jm:s.heap.get? it=some (pH (.ref p) i S n ep))(hS:jy w s.heap S es ep t)(hn:es.size=n)
  (hp:∃o,s.heap.get? p=some o/\o.cls=.type "tuple"/\o.data=.seq pv pn) (hk:pv[i]?=none)
  (q:∀g,(∀b o,b≠it->s.heap.get? b=some o->g.get? b=some o)->Q none { s with heap:=g }):wpAny (model prog w) A (pyNext (.ref it)) Q E s:=by
 obtain⟨o,ho,zg,hd⟩:=hS.ex
 obtain⟨op,hop,hcp,hdp⟩:=hp
 have T:Shared.TypeIs s (.ref it) "set_iterator":=⟨_,jm,rfl⟩
 unfold pyNext
 refine aa (dA (be (name:=Str.ofString "__next__") T dY (bp dY T lM ?_ (lP _))))
 show wpAny _ _ (fieldsOf (.ref it) >>= _) _ _ s
 refine aa (lE jm rfl ?_)
 dsimp only
 refine aa (fU ho hd hS.fits ?_)
 rw[ax (by rw[hn];simp)]
 refine aa (dG hop hdp ?_)
 simp only[aO,hk]
 refine aa (cr jm (by simp) fun g e1 e2=>aa (cr e1 (by simp) fun g2 e3 e4=>u6 (s:={ s with heap:=g2 }) (show A.in1.handled=none from hh) fun g3 e kp hx=>?_))
 obtain⟨ox,hox,hcx⟩:=hx
 refine aa (dS (T:="StopIteration") (b:=true) ⟨ox,hox,hcx⟩ gZ (aq (q g3 fun b o hb e=>kp b o ?_)))
 exact e4.extBut b o hb (e2.extBut b o hb e)
theorem FN{S:Addr}{sl sl':Nat}{es:Array (Int×Value)}{t:SetTable}{x:Value}{Q:Option Value->Shared->Prop}(jm:s.heap.get? it=some (pH (rawInt sl) i S n ep))(hS:jy w s.heap S es ep t)(hn:es.size=n)
  (hx:∀(Q':Option (Value×Nat)->Shared->Prop) (E':Value->Shared->Prop),Q' (some (x,sl')) s->wpAny (model prog w) A.in1 (setNext S sl i ep) Q' E' s)
  (q:∀g,g.get? it=some (pH (rawInt sl') ((i:Int)+1) S n ep)->Heap.SameBut it s.heap g->Q (some x) { s with heap:=g }):wpAny (model prog w) A (pyNext (.ref it)) Q E s:=by
 obtain⟨o,ho,zg,hd⟩:=hS.ex
 have T:Shared.TypeIs s (.ref it) "set_iterator":=⟨_,jm,rfl⟩
 unfold pyNext
 refine aa (dA (be (name:=Str.ofString "__next__") T dY (bp dY T lM ?_ (lP _))))
 show wpAny _ _ (fieldsOf (.ref it) >>= _) _ _ s
 refine aa (lE jm rfl ?_)
 dsimp only
 refine aa (fU ho hd hS.fits ?_)
 rw[ax (by rw[hn];simp)]
 show wpAny _ _ (setNext S (sl:Int).toNat (i:Int).toNat (ep:Int).toNat >>= _) _ _ s
 simp only[aO]
 refine aa (hx _ _ ?_)
 dsimp only
 refine aa (cr jm (by simp) fun g e1 e2=>aa (cr e1 (by simp) fun g2 e3 e4=>aq ⟨_,rfl,aq (q g2 (by simpa using e3) (e2.trans e4))⟩))
theorem x_{S:Addr}{sl:Nat}{es:Array (Int×Value)}{t:SetTable}{Q:Option Value->Shared->Prop}(hh:A.handled=none)(jm:s.heap.get? it=some (pH (rawInt sl) i S n ep))(hS:jy w s.heap S es ep t)(hn:es.size=n)
  (hx:∀(Q':Option (Value×Nat)->Shared->Prop) (E':Value->Shared->Prop),Q' none s->wpAny (model prog w) A.in1 (setNext S sl i ep) Q' E' s)
  (q:∀g,(∀b o,b≠it->s.heap.get? b=some o->g.get? b=some o)->Q none { s with heap:=g }):wpAny (model prog w) A (pyNext (.ref it)) Q E s:=by
 obtain⟨o,ho,zg,hd⟩:=hS.ex
 have T:Shared.TypeIs s (.ref it) "set_iterator":=⟨_,jm,rfl⟩
 unfold pyNext
 refine aa (dA (be (name:=Str.ofString "__next__") T dY (bp dY T lM ?_ (lP _))))
 show wpAny _ _ (fieldsOf (.ref it) >>= _) _ _ s
 refine aa (lE jm rfl ?_)
 dsimp only
 refine aa (fU ho hd hS.fits ?_)
 rw[ax (by rw[hn];simp)]
 show wpAny _ _ (setNext S (sl:Int).toNat (i:Int).toNat (ep:Int).toNat >>= _) _ _ s
 simp only[aO]
 refine aa (hx _ _ ?_)
 dsimp only
 refine aa (cr jm (by simp) fun g e1 e2=>u6 (s:={ s with heap:=g }) (show A.in1.handled=none from hh) fun g3 e kp hx=>?_)
 obtain⟨ox,hox,hcx⟩:=hx
 exact aa (dS (T:="StopIteration") (b:=true) ⟨ox,hox,hcx⟩ gZ (aq (q g3 fun b o hb e=>kp b o (e2.extBut b o hb e))))
end
theorem tL:Slot "set_iterator" "__iter__" "set_iterator.__iter__":=.of (owner:="set_iterator") (n:="__iter__") (by rw[gs,dP];kernel_rfl) (by decide +kernel) (by decide +kernel) (by decide +kernel) (by first|exact .inl (by decide +kernel)|exact .inr (by decide +kernel)) (by rw[cI];kernel_rfl)
theorem zI(a:Value):argsOk "set_iterator.__iter__" ⟨[a],[]⟩:=by unfold argsOk;kernel_rfl
theorem zJ:entryFor table "set_iterator.__iter__"=some Builtin.«dict_keyiterator.__iter__»:=lD (id':="dict_keyiterator.__iter__") (by kernel_rfl) (by first|rfl|decide +kernel|(unfold String.splitOn;simp +decide [String.splitOnAux])) (by decide +kernel) (by kernel_rfl)
section
variable{w:World}
theorem zK{S:Addr}{f:Value}{i:Int}(jm:s.heap.get? it=some (pH f i S n ep))(q:Q (.ref it) s):wpAny (model prog w) A (pyIter (.ref it)) Q E s:=by
 have T:Shared.TypeIs s (.ref it) "set_iterator":=⟨_,jm,rfl⟩
 exact js T tL (bp tL T zJ (aq ⟨_,rfl,"set_iterator",_,T,dY.lookup,q⟩) (zI _))
theorem By(hh:A.handled=none){S p:Addr}{ep:Nat}{es:Array (Int×Value)}{t:SetTable}{pl:List Nat}(qu:pl.Perm (List.range n))(hn:es.size=n)(h1:it≠S)(h2:it≠p) :
  Walks prog w A it [it,p,S] [it] n (fun i v=>∃k x,pl[i]?=some k/\es[k]?=some x/\v=x.2) (fun i h=>i<=n/\h.get? it=some (pH (.ref p) i S n ep)/\(∃o,h.get? p=some o/\o.cls=.type "tuple"/\∃e,o.data=.seq (pl.map fun k:Nat=>rawInt k).toArray e)/\jy w h S es ep t) where
 sub:=fun b hb=>by simp at hb;simp[hb]
 frame:=fun i h h' st k=>⟨st.1,k it (by simp) _ st.2.1,(let ⟨o,ho,r⟩:=st.2.2.1;⟨o,k p (by simp) o ho,r⟩),st.2.2.2.keep fun o ho=>k S (by simp) o ho⟩
 item:=fun i s Q E hi st q=>by
  obtain⟨_,jm,⟨op,hop,hcp,e,hdp⟩,hS⟩:=st
  have hl:pl.length=n:=by have:=qu.length_eq;simpa using this
  have hk:pl[i]?=some pl[i]:=ae (by omega)
  have hkn:pl[i]<es.size:=by rw[hn];exact bN.mp (qu.mem_iff.mp (dU (by omega)))
  refine Er jm hS hn ⟨op,hop,hcp,hdp⟩ (k:=pl[i]) (x:=es[pl[i]]) (by simp[hk]) (by simp[hkn]) fun g a b=>q _ g s.toks ⟨pl[i],es[pl[i]],hk,by simp[hkn],rfl⟩ ⟨hi,?_,⟨op,b.extBut p op (Ne.symm h2) hop,hcp,e,hdp⟩,hS.keep fun o ho=>b.extBut S o (Ne.symm h1) ho⟩ fun c o hc ho=>b.extBut c o (fun z=>hc (by simp[z])) ho
  rw[a];rfl
 done:=fun s Q E st q=>by
  obtain⟨_,jm,⟨op,hop,hcp,e,hdp⟩,hS⟩:=st
  have hl:pl.length=n:=by have:=qu.length_eq;simpa using this
  exact wD hh jm hS hn ⟨op,hop,hcp,hdp⟩ (by simp[hl]) fun g kp=>q g s.toks fun c o hc ho=>kp c o (fun z=>hc (by simp[z])) ho
 self:=fun i s Q E st q=>zK st.2.1 q
theorem Es(hh:A.handled=none){S:Addr}{ep:Nat}{es:Array (Int×Value)}{t:SetTable}{vs:List Value}{sl:Nat->Nat}(hv:vs.length=n)(hn:es.size=n)(h1:it≠S)
  (hx:∀(s:Shared) (i:Nat),jy w s.heap S es ep t->i<=n->∀(A:Around) (Q':Option (Value×Nat)->Shared->Prop) (E':Value->Shared->Prop),Q' ((vs[i]?).map fun v=>(v,sl (i+1))) s->wpAny (model prog w) A (setNext S (sl i) i ep) Q' E' s) :
  Walks prog w A it [it,S] [it] n (fun i v=>vs[i]?=some v) (fun i h=>i<=n/\h.get? it=some (pH (rawInt (sl i)) i S n ep)/\jy w h S es ep t) where
 sub:=fun b hb=>by simp at hb;simp[hb]
 frame:=fun i h h' st k=>⟨st.1,k it (by simp) _ st.2.1,st.2.2.keep fun o ho=>k S (by simp) o ho⟩
 item:=fun i s Q E hi st q=>by
  obtain⟨_,jm,hS⟩:=st
  have hk:vs[i]?=some vs[i]:=ae (by omega)
  refine FN (x:=vs[i]) (sl':=sl (i+1)) jm hS hn (fun Q' E' y=>hx s i hS (gj hi) _ Q' E' (by rw[hk];exact y)) fun g a b=>q _ g s.toks hk ⟨hi,?_,hS.keep fun o ho=>b.extBut S o (Ne.symm h1) ho⟩ fun c o hc ho=>b.extBut c o (fun z=>hc (by simp[z])) ho
  rw[a];rfl
 done:=fun s Q E st q=>by
  obtain⟨_,jm,hS⟩:=st
  have hk:vs[n]?=none:=az (by omega)
  exact x_ hh jm hS hn (fun Q' E' y=>hx s n hS (aw _) _ Q' E' (by rw[hk];exact y)) fun g kp=>q g s.toks fun c o hc ho=>kp c o (fun z=>hc (by simp[z])) ho
 self:=fun i s Q E st q=>zK st.2.1 q
end
section
variable{w:World}
theorem pe{Q:Bool->Shared->Prop}(q:Q (ud w) s):wpAny (model prog w) A setsByText Q E s:=by
 unfold setsByText
 exact aa (mK (aq q))
theorem Et{S:Addr}{es:Array (Int×Value)}{t:SetTable}{Q:Option (Value×Nat)->Shared->Prop}(hb:ud w=true)(hS:jy w s.heap S es ep t)
  (q:Q ((((pickOrder (w.params.setOrder S ep) es).toList.map (·.2))[i]?).map fun v=>(v,0)) s):wpAny (model prog w) A (setNext S 0 i ep) Q E s:=by
 obtain⟨o,ho,zg,hd⟩:=hS.ex
 unfold setNext
 refine aa (fL ho hd hS.fits ?_)
 dsimp only
 refine aa (pe ?_)
 rw[hb,au rfl,ax (by simp)]
 unfold setWalk
 refine aa (aa (fL ho hd hS.fits ?_))
 dsimp only
 refine aa (pe ?_)
 rw[hb,au rfl]
 refine aa (mK (aq (aq ?_)))
 have e:((pickOrder (w.params.setOrder S ep) es)[i]?).map (fun e=>(e.2,0))=(((pickOrder (w.params.setOrder S ep) es).toList.map (·.2))[i]?).map fun v=>(v,0):=by
  rw[aj,fA,Option.map_map];rfl
 show Q (((pickOrder (w.params.setOrder S ep) es)[i]?).map fun e=>(e.2,0)) s
 rw[e];exact q
theorem xc(p:Nat):SetTable.below #[p] 0=0/\SetTable.below #[p] (p+1)=1:=by
 unfold SetTable.below
 constructor
 ·simp[SetTable.below.go]
 ·simp[SetTable.below.go]
theorem FP{S:Addr}{es:Array (Int×Value)}{t:SetTable}{Q:Option (Value×Nat)->Shared->Prop}(hb:ud w=false)(hS:jy w s.heap S es ep t)(Rb:t.led=true)(h1:es.size<=1)(hi:i<=es.size)
  (q:Q (((es.toList.map (·.2))[i]?).map fun v=>(v,if i+1=0 then 0 else t.place.getD 0 0+1)) s):wpAny (model prog w) A (setNext S (if i=0 then 0 else t.place.getD 0 0+1) i ep) Q E s:=by
 obtain⟨o,ho,zg,hd⟩:=hS.ex
 have hf:=hS.fits
 have LI:t.place.size=es.size:=by
  unfold SetTable.fits at hf
  simp only[bX,db]at hf
  exact hf.1
 unfold setNext
 refine aa (fL ho hd hS.fits ?_)
 dsimp only
 refine aa (pe ?_)
 rw[hb,ax cF]
 show wpAny _ _ (if (!t.plain&&decide (es.size>1))=true then _ else _) _ _ _
 rw[ax (by simp;omega)]
 show wpAny _ _ ((if (!t.led&&!es.isEmpty)=true then _ else pure ()) >>= _) _ _ _
 rw[ax (by simp[Rb])]
 refine aa (aq (aq ?_))
 by_cases hz:es.size=0
 ·have e1:es=#[]:=Array.eq_empty_of_size_eq_zero hz
  subst e1
  simpa using q
 ·have hs1:es.size=1:=by omega
  obtain⟨x,rfl⟩:∃x,es=#[x]:=by
   obtain⟨l⟩:=es
   obtain⟨x,e⟩:=jt.mp hs1
   exact⟨x,gY Array.mk e⟩
  obtain⟨p,hp⟩:∃p,t.place=#[p]:=by
   generalize t.place=pl at LI
   obtain⟨l⟩:=pl
   obtain⟨x,e⟩:=jt.mp LI
   exact⟨x,gY Array.mk e⟩
  rw[hp]at q ⊢
  rcases(show i=0\/i=1 by simp at hi;omega)with rfl|rfl
  ·simp[xc]at q ⊢;exact q
  ·simp[xc]at q ⊢;exact q
end
theorem ya[Inhabited β](f:Nat->β)(xs:List α)(g:α->β)(n:Nat)(hn:xs.length=n)(hf:∀i x,xs[i]?=some x->f i=g x):(List.range n).map f=xs.map g:=by
 apply b6
 intro i
 rw[aj,aj]
 by_cases h:i<n
 ·rw[aJ h,ae (by omega)]
  exact gY some (hf i _ (ae (by omega)))
 ·rw[az (by simp;omega),az (by omega)];rfl
section
variable{w:World}
theorem FQ{S:Addr}{es:Array (Int×Value)}{t:SetTable}(hS:jy w s.heap S es ep t)(JI:CQ w es.size t)(hsz:es.size<=sizeLine)
  (q:∀(g:Heap) (d:Drawn) (it:Addr) (fp:List Addr) (P:Nat->Value->Prop) (St:Nat->Heap->Prop),(∀A:Around,A.handled=none->Walks prog w A it fp [it] es.size P St)->St 0 g->s.heap.objs.size<=it->(∀b∈fp,b=S\/s.heap.objs.size<=b)->(∀b∈fp,b<g.objs.size)->(∀b o,s.heap.get? b=some o->g.get? b=some o) ->
   (∀f_,ItemsOf P f_ es.size->f_.toList.Perm (es.toList.map (·.2)))->Q (.ref it) { s with heap:=g,drawn:=d }):wpAny (model prog w) A (pyIter (.ref S)) Q E s:=by
 obtain⟨o,ho,zg,hd⟩:=hS.ex
 have T:Shared.TypeIs s (.ref S) "set":=⟨o,ho,zg.1⟩
 have hSlt:=aC ho
 refine js T PySem.F.slot_set_iter (bp PySem.F.slot_set_iter T zC ?_ (PySem.F.args_set_iter_1 _))
 show wpAny _ _ (Builtin.Frozenset.sizeOf S >>= _) _ _ s
 unfold Builtin.Frozenset.sizeOf
 refine aa (aa (fU ho hd hS.fits (aq ?_)))
 unfold setDrawn
 refine aa (aa (fL ho hd hS.fits ?_))
 dsimp only
 refine aa (pe (aq ?_))
 by_cases hdr:(!ud w&&(!t.plain&&decide (es.size>1)))=true
 ·show wpAny _ _ (if (!ud w&&(!t.plain&&decide (es.size>1)))=true then _ else _) _ _ _
  rw[au hdr]
  refine aa (zH es.size (List.range es.size) _ _ (by simp) fun pl hp d=>?_)
  have hl:pl.length=es.size:=by have:=hp.length_eq;simpa using this
  refine aa (wpAny_newTuple ?_ (by rw[al,hl];exact hsz))
  have hS1:jy w (s.heap.push { cls:=.type "tuple",data:=.seq (pl.map fun i:Nat=>rawInt i).toArray }) S es ep t:=hS.keep fun o e=>ai _ e
  obtain⟨o1,ho1,_,hd1⟩:=hS1.ex
  refine aa (wpAny_setEpoch_of (s:={ s with heap:=s.heap.push { cls:=.type "tuple",data:=.seq (pl.map fun i:Nat=>rawInt i).toArray },drawn:=d }) ho1 hd1 hS.fits ?_)
  refine aa (bF (aq ⟨_,rfl,"set_iterator",_,⟨_,ar _ rfl,rfl⟩,dY.lookup,?_⟩))
  have z:(s.heap.push { cls:=.type "tuple",data:=.seq (pl.map fun i:Nat=>rawInt i).toArray }).objs.size=s.heap.objs.size+1:=bt ..
  refine q _ d _ [_,s.heap.objs.size,S] _ _ (fun A hA=>By (p:=s.heap.objs.size) (t:=t) (ep:=ep) hA hp rfl ?_ ?_) ⟨cL _,ar _ rfl,⟨_,ai _ (ar _ rfl),rfl,0,rfl⟩,hS1.keep fun o e=>ai _ e⟩ ?_ (fun b hb=>?_) (fun b hb=>?_) (fun b o e=>ai _ (ai _ e)) fun f_ hacc=>?_
  ·rw[z];exact fJ (cQ hSlt)
  ·rw[z];exact mJ _
  ·rw[z];exact dJ _
  ·simp only[aH,ii,r4]at hb
   rcases hb with rfl|rfl|rfl
   ·rw[z];exact .inr (dJ _)
   ·exact .inr (aw _)
   ·exact .inl rfl
  ·simp only[aH,ii,r4]at hb
   have z2:∀o2,((s.heap.push { cls:=.type "tuple",data:=.seq (pl.map fun i:Nat=>rawInt i).toArray }).push o2).objs.size=s.heap.objs.size+2:=fun o2=>by rw[bt,z]
   rw[z2]
   rcases hb with rfl|rfl|rfl
   ·rw[z];exact cJ _
   ·exact cQ (cJ _)
   ·exact cQ (cQ hSlt)
  ·have e:f_.toList=pl.map fun k=>(es.getD k (0,.none)).2:=by
    apply b6
    intro i
    rw[aj]
    by_cases hi:i<es.size
    ·have hia:i<f_.size:=by rw[hacc.1];exact hi
     have ha:f_[i]?=some (f_[i]'hia):=im hia
     obtain⟨k,x,h1,h2,h3⟩:=hacc.2 i _ ha
     rw[fA,ha,h1]
     have:es.getD k (0,.none)=x:=by rw[kH,h2];rfl
     rw[h3]
     show some x.2=some (es.getD k (0,.none)).2
     rw[this]
    ·rw[az (by rw[dI,hacc.1];omega),az (by omega)];rfl
   rw[e]
   refine(hp.map _).trans (List.Perm.of_eq ?_)
   exact ya _ es.toList (·.2) es.size (by simp) fun i x hx=>by
    have hx':es[i]?=some x:=by rw[<- fA];exact hx
    rw[kH,hx'];rfl
 ·show wpAny _ _ (if (!ud w&&(!t.plain&&decide (es.size>1)))=true then _ else _) _ _ _
  rw[ax hdr]
  refine aa (aq (aa (wpAny_setEpoch_of ho hd hS.fits ?_)))
  refine aa (bF (aq ⟨_,rfl,"set_iterator",_,⟨_,ar _ rfl,rfl⟩,dY.lookup,?_⟩))
  have fin:∀(vs:List Value) (sl:Nat->Nat),sl 0=0->vs.Perm (es.toList.map (·.2))->(∀(s:Shared) (i:Nat),jy w s.heap S es ep t->i<=es.size->∀(A:Around) (Q':Option (Value×Nat)->Shared->Prop) (E':Value->Shared->Prop),Q' ((vs[i]?).map fun v=>(v,sl (i+1))) s->wpAny (model prog w) A (setNext S (sl i) i ep) Q' E' s) ->
    Q (.ref s.heap.objs.size) { s with heap:=s.heap.push (pH (rawInt 0) 0 S es.size ep) }:=fun vs sl h0 hp hx=>by
   have hl:vs.length=es.size:=by have:=hp.length_eq;simpa using this
   refine q _ s.drawn s.heap.objs.size [s.heap.objs.size,S] _ _ (fun A hA=>Es (t:=t) (ep:=ep) (vs:=vs) (sl:=sl) hA hl rfl (fJ hSlt) hx) ⟨cL _,?_,hS.keep fun o e=>ai _ e⟩ (aw _) (fun b hb=>?_) (fun b hb=>?_) (fun b o e=>ai _ e) fun f_ hacc=>?_
   ·rw[h0];exact ar _ rfl
   ·simp only[aH,ii,r4]at hb
    rcases hb with rfl|rfl
    ·exact .inr (aw _)
    ·exact .inl rfl
   ·simp only[aH,ii,r4]at hb
    rw[bt]
    rcases hb with rfl|rfl
    ·exact cJ _
    ·exact cQ hSlt
   ·have e:f_.toList=vs:=by
     apply b6
     intro i
     by_cases hi:i<es.size
     ·have hia:i<f_.size:=by rw[hacc.1];exact hi
      have ha:f_[i]?=some (f_[i]'hia):=im hia
      rw[fA,ha,hacc.2 i _ ha]
     ·rw[az (by rw[dI,hacc.1];omega),az (by omega)]
    rw[e];exact hp
  cases hb:ud w with
  |true=>exact fin ((pickOrder (w.params.setOrder S ep) es).toList.map (·.2)) (fun _=>0) rfl ((Ep _ _).map _) fun s i hS' hi A Q' E' y=>Et hb hS' y
  |false=>
   have h1:es.size<=1:=by
    rcases JI.2 with z|z
    ·omega
    ·rw[hb,z]at hdr;simp at hdr;omega
   have Rb:t.led=true:=JI.1.resolve_left (by rw[hb];exact cF)
   exact fin (es.toList.map (·.2)) (fun i=>if i=0 then 0 else t.place.getD 0 0+1) rfl (g7 _) fun s i hS' hi A Q' E' y=>FP hb hS' Rb h1 hi y
end
section
variable{w:World}
theorem FR{S:Addr}{Q:Bool->Shared->Prop}(T:s.TypeIs (.ref S) "set")(q:Q false s):wpAny (model prog w) A (Builtin.List.listLengthHint (.ref S)) Q E s:=by
 unfold Builtin.List.listLengthHint
 refine aa (iE T PySem.F.slot_set_len.lookup ?_)
 generalize hid:("set.__len__":String)=id0
 wp_delta
 rw[show splitId id0=some ("set","__len__")from by subst hid;decide +kernel]
 subst hid
 refine aa (dS (T:="set") (b:=true) T (by rw[cI];kernel_rfl) ?_)
 refine nV (fun y=>absurd y (by decide)) (fun _=>nV (fun _=>?_) (fun y=>absurd (by decide +kernel) y))
 exact aa (kD T (aq q))
theorem zL{S:Addr}{es:Array (Int×Value)}{t:SetTable}{Q:List Value->Shared->Prop}(hS:jy w s.heap S es ep t)(JI:CQ w es.size t)(hsz:es.size<=sizeLine)(hh:A.handled=none)
  (q:∀(g:Heap) (d:Drawn) (tk:Nat) (vs:List Value),(∀b o,s.heap.get? b=some o->g.get? b=some o)->vs.Perm (es.toList.map (·.2))->Q vs { s with heap:=g,drawn:=d,toks:=tk }):wpAny (model prog w) A (collect (.ref S)) Q E s:=by
 obtain⟨o,ho,zg,hd⟩:=hS.ex
 have hSlt:=aC ho
 unfold collect
 refine aa (wpAny_runValue (gu entry_proto_collect' ?_))
 rw[fM PySem.F.plain_proto_collect _]
 show wpAny _ A.in1 (newList [] >>= fun l=>again (.builtin "list.__iadd__" ⟨[l,.ref S],[]⟩)) _ _ s
 refine aa (bF (aq ⟨jM PySem.F.plain_list_iadd _,gu entry_list_iadd' ?_⟩))
 rw[fM PySem.F.plain_list_iadd _]
 generalize hL:s.heap.objs.size=L
 have gL:(s.heap.push { cls:=.type "list",data:=.seq ([]:List Value).toArray }).get? L=some { cls:=.type "list",data:=.seq #[] }:=by rw[<- hL];exact ar _ rfl
 have hS1:jy w (s.heap.push { cls:=.type "list",data:=.seq ([]:List Value).toArray }) S es ep t:=hS.keep fun o e=>ai _ e
 have z1:(s.heap.push { cls:=.type "list",data:=.seq ([]:List Value).toArray }).objs.size=L+1:=by rw[bt,hL]
 have kp1:∀b o,s.heap.get? b=some o->(s.heap.push { cls:=.type "list",data:=.seq ([]:List Value).toArray }).get? b=some o:=fun b o e=>ai _ e
 have bL:∀b o,s.heap.get? b=some o->b≠L:=fun b o e=>by rw[<- hL];exact aX (aC e)
 generalize s.heap.push { cls:=.type "list",data:=.seq ([]:List Value).toArray }=h1 at gL hS1 z1 kp1 ⊢
 have xO:L≠S:=by rw[<- hL];exact fJ hSlt
 obtain⟨o1,ho1,hex1,hd1⟩:=hS1.ex
 have T:Shared.TypeIs { s with heap:=h1 } (.ref S) "set":=⟨o1,ho1,hex1.1⟩
 show wpAny _ A.in1 (Builtin.List.listExtendWith (.ref L) (.ref S) (.ref L)) _ _ _
 unfold Builtin.List.listExtendWith
 refine aa (kD (T:="set") T ?_)
 have e1:Builtin.List.listSameRef (.ref L) (.ref S)=false:=by simp[Builtin.List.listSameRef,xO]
 have e2:(Value.type "set" == Value.type "list")=false:=by decide
 have e3:(Value.type "set" == Value.type "tuple")=false:=by decide
 simp only[e1,e2,e3,Bool.or_false,Bool.false_eq_true,rV]
 refine aa (FQ (s:={ s with heap:=h1 }) hS1 JI hsz fun g d it fp P St W st jm Uz hfl kp2 hperm=>?_)
 have gL2:=kp2 _ _ gL
 have hLf:L∉fp:=fun hm=>by
  rcases Uz L hm with y|y
  ·exact xO y
  ·rw[show Shared.heap { s with heap:=h1 }=h1 from rfl,z1]at y;exact absurd y (Nat.not_le.mpr (cJ _))
 obtain⟨o2,ho2,hex2,hd2⟩:=(hS1.keep fun o e=>kp2 S o e).ex
 refine aa (dz (FR (s:={ s with heap:=g,drawn:=d }) ⟨o2,ho2,hex2.1⟩ ?_))
 have itL:it≠L:=fun y=>by
  have:=jm
  rw[show Shared.heap { s with heap:=h1 }=h1 from rfl,z1,y]at this
  exact absurd this (Nat.not_le.mpr (cJ _))
 have old:∀b o,s.heap.get? b=some o->b≠it:=fun b o e y=>by
  have h2:=aC (kp1 b o e)
  have h3:=jm
  rw[show Shared.heap { s with heap:=h1 }=h1 from rfl]at h3
  rw[y]at h2
  exact absurd h2 (iP.mpr h3)
 have key:∀(g':Heap) (c tk:Nat),St 0 g'->(∀b o,b≠L->g.get? b=some o->g'.get? b=some o)->g'.get? L=some { cls:=.type "list",data:=.seq #[] c } ->
   codeAny (model prog w) A (.builtin "list.extend.loop" ⟨[.ref L,.ref it,.ref L],[]⟩) (wants (fun r s'=>wpAny (model prog w) A (match r with|.ref a=>(do match (<- load a).data with|.seq xs _=>pure xs.toList|_=>unsupported "internal:collect")|_=>unsupported "internal:collect") Q E s') E) { s with heap:=g',drawn:=d,toks:=tk }:=by
  intro g' c tk bz kp3 gL3
  refine codeAny_extend_loopS (W A.in1 (by simpa using hh)).toS hsz L hLf (.ref L) es.size 0 _ #[] c rfl (cL _) bz gL3 (ItemsOf.nil _) fun s' f_ c' hm gL4 hacc=>?_
  have ee:s'={ s with heap:=s'.heap,drawn:=d,toks:=s'.toks }:=by
   have h1:=hm.gens
   have h2:=hm.drawn
   have h3:=hm.os
   cases s'
   simp only at h1 h2 h3
   subst h1;subst h2;subst h3;rfl
  refine aa (wpAny_load gL4 (aq ?_))
  rw[ee]
  refine q s'.heap d s'.toks f_.toList (fun b o e=>hm.heap b o (fun y=>?_) (kp3 b o (bL b o e) (kp2 b o (kp1 b o e)))) (hperm f_ hacc)
  rcases aH.mp y with y|y
  ·exact bL b o e y
  ·exact old b o e (bB.mp y)
 refine nV (fun _=>?_) (fun _=>aq ⟨jM PySem.F.plain_extend_loop _,key g 0 _ st (fun _ _ _ e=>e) gL2⟩)
 refine aa (iQ (aa ?_))
 show wpAny _ _ (updateSeq L (·.push .none) >>= fun _=>updateSeq L (·.pop)) _ _ _
 refine aa (nX gL2 rfl ?_)
 have g5:=cx (Obj.mapSeq (·.push Value.none)) gL2 rfl
 refine nX (hz:=by seq_fits) g5 rfl ?_
 have g6:=cx (Obj.mapSeq (·.pop)) g5 rfl
 refine aq ⟨jM PySem.F.plain_extend_loop _,key _ _ _ ((W A hh).frame 0 _ _ st fun b hb o e=>?_) (fun b o hb e=>?_) g6⟩
 ·have hbL:b≠L:=fun y=>hLf (y▸hb)
  exact(cm _ _ (Ne.symm hbL)).trans ((cm _ _ (Ne.symm hbL)).trans e)
 ·exact(cm _ _ (Ne.symm hb)).trans ((cm _ _ (Ne.symm hb)).trans e)
end
section
variable{w:World}
theorem Bz{S:Addr}(z:zE prog w s.heap S ks)(few:ks.length<64)(hh:A.handled=none)
  (q:∀(g0 g1:Heap) (d:Drawn) (tk:Nat) (out:Array Value) (ss:List Str) (e:Nat),(∀b o,s.heap.get? b=some o->g0.get? b=some o)->(∀b o,g0.get? b=some o->g1.get? b=some o)->g1.get? g0.objs.size=some (seqObj "list" out e) ->
   StrsAre out.toList ss->ss.Perm ks->sortedS ss=true->Q (.ref g0.objs.size) { s with heap:=g1,drawn:=d,toks:=tk }):wpAny (model prog w) A (call (.builtin "sorted") [.ref S]) Q E s:=by
 obtain⟨o,es,ep,t,ho,zg,hd,hel,hp,hb,hf,JI⟩:=z
 have hS:jy w s.heap S es ep t:=⟨⟨o,ho,zg,hd⟩,hf⟩
 have da:es.size=ks.length:=by have:=hp.length_eq;simpa using this
 apply lL kind_sorted plain_sorted entry_sorted (args_sorted1 _)
 show wpAny _ _ (checkCount "sorted" 1 1 _ >>= _) _ _ _
 refine aa (aq (aa (zL hS JI (by rw[j0];omega) (by simpa using hh) fun g d tk vs kp pv=>?_)))
 have hv:∀v∈vs,∃x t,v=Value.str x t:=fun v hv=>by
  obtain⟨e,he,rfl⟩:=ba.mp (pv.mem_iff.mp hv)
  obtain⟨t,ht⟩:=zF hel e he
  exact⟨_,t,ht⟩
 have mP:=strsAre_map vs hv
 have hks:(vs.map strOf).Perm ks:=by
  refine(pv.map strOf).trans ?_
  rw[aS];exact hp
 have hvl:vs.length<64:=by have:=hks.length_eq;rw[al]at this;omega
 refine aa (wpAny_newList ?_ (by rw[j0];omega))
 have oL:(g.push (seqObj "list" vs.toArray 0)).get? g.objs.size=some (seqObj "list" vs.toArray 0):=ar _ rfl
 refine aa (dz (bp slot_list_sort ⟨_,oL,rfl⟩ entry_list_sort (list_sort_treeK strKind_oneLt oL mP.keysOf (fun a b r e=>keyKind_strs (by rw[<- e];exact mP)) hvl fun st a1 a2=>⟨_,rfl,?_⟩) (args_list_sort _)))
 obtain⟨ss,h1,h2,h3⟩:=sorted_out_str mP a1 a2
 obtain⟨e,he⟩:=sortedHeap_at (out:=(arrOf st).map (·.2)) oL
 refine aq ⟨_,rfl,q g _ d tk _ ss e kp (fun b o hb=>?_) he h1 (h2.trans hks) h3⟩
 rw[sortedHeap_old (aX (aC hb)) (by rw[bt];exact cQ (aC hb))]
 exact ai _ hb
noncomputable abbrev Sd(ty:String)(x:Str)(t:Tok):Obj:={ cls:=.type ty,data:=.fields #[.str x t,.int 0 0] }
theorem FU{t:Tok}(hh:A.handled=none)(hb:l.length+1<scanBound)
  (q:∀g tk,LV prog w (fun j=>tx [l.getD j 0]) g s.heap.objs.size l.length->(∀b o,s.heap.get? b=some o->g.get? b=some o)->Q (.ref s.heap.objs.size) { s with heap:=g,toks:=tk }):wpAny (model prog w) A (call (.type "set") [.str (tx l) t]) Q E s:=by
 have z:(s.heap.push (dB w)).objs.size=s.heap.objs.size+1:=bt ..
 have hn:(tx l).cps.size=l.length:=by simp[tx]
 have A1:∀i v,SignAt (tx l) i v->∃t,v=Value.str (tx [l.getD i 0]) t:=by
  rintro i v ⟨c,u,hc,rfl⟩
  have:l[i]?=some c:=by simpa[tx]using hc
  exact⟨u,by rw[ao,this];rfl⟩
 have hT:Shared.TypeIs { s with heap:=s.heap.push (dB w) } (.str (tx l) t) "str":=iL _ _ _
 rw[<- hn]at hb q
 cases ha:(tx l).cps.all (· < 128)
 ·refine l8 (T:="str") (fp:=fun it=>[it]) (P:=SignAt (tx l)) (St:=fun it i h=>h.IsStrIter it "str_iterator" (tx l) t i) hT (by rw[cI];kernel_rfl) (by rw[cI];kernel_rfl) (by decide)
   (fun A E Q y=>wpAny_pyIter_wide ha (by show Q (.ref (s.heap.push (dB w)).objs.size) _;rw[z];exact y)) (fun A it hA _=>Walks.strWide hA it (tx l) t) (by simp) ⟨Sd "str_iterator" (tx l) t,?_,rfl,rfl⟩ A1 hh hb q
  rw[<- z];exact ar _ rfl
 ·refine l8 (T:="str") (fp:=fun it=>[it]) (P:=SignAt (tx l)) (St:=fun it i h=>h.IsStrIter it "str_ascii_iterator" (tx l) t i) hT (by rw[cI];kernel_rfl) (by rw[cI];kernel_rfl) (by decide)
   (fun A E Q y=>wpAny_pyIter_ascii ha (by show Q (.ref (s.heap.push (dB w)).objs.size) _;rw[z];exact y)) (fun A it hA _=>Walks.strAscii hA it (tx l) t) (by simp) ⟨Sd "str_ascii_iterator" (tx l) t,?_,rfl,rfl⟩ A1 hh hb q
  rw[<- z];exact ar _ rfl
theorem Kw(hh:A.handled=none)(hb:l.length+1<scanBound)(ht:s.heap.IsTuple a bq.toArray)(hv:cu (gW l) bq)
  (q:∀g tk,LV prog w (fun j=>tx [l.getD j 0]) g s.heap.objs.size l.length->(∀b o,s.heap.get? b=some o->g.get? b=some o)->Q (.ref s.heap.objs.size) { s with heap:=g,toks:=tk }):wpAny (model prog w) A (call (.type "set") [.ref a]) Q E s:=by
 have z:(s.heap.push (dB w)).objs.size=s.heap.objs.size+1:=bt ..
 have hn:bq.toArray.size=l.length:=by have:=hv.length;unfold gW at this;simpa using this.symm
 have ha:a<s.heap.objs.size:=by obtain⟨o,ho,_⟩:=ht;exact aC ho
 have Rm:(s.heap.push (dB w)).IsTuple a bq.toArray:=ht.at fun o e=>ai _ e
 have A1:∀i v,bq.toArray[i]?=some v->∃t,v=Value.str (tx [l.getD i 0]) t:=by
  intro i v hi
  have hi':bq[i]?=some v:=by simpa using hi
  have hlt:i<l.length:=by
   have:=(ac.mp hi').1
   rw[<- hn];simpa using this
  have hx:(gW l)[i]?=some (.str (tx [l.getD i 0])):=by
   unfold gW
   rw[aj,ae hlt,ao,ae hlt];rfl
  obtain⟨u,hu,t,e⟩:=hv.get hx
  rw[hi']at hu
  exact⟨t,(aF hu).trans e⟩
 rw[<- hn]at hb q
 refine l8 (T:="tuple") (fp:=fun it=>[it,a]) (P:=fun i v=>bq.toArray[i]?=some v) (St:=fun it i h=>h.IsTupleIter it a i/\h.IsTuple a bq.toArray) Rm.typeIs (by rw[cI];kernel_rfl) (by rw[cI];kernel_rfl) (by decide)
  (fun A E Q y=>gk Rm (by show Q (.ref (s.heap.push (dB w)).objs.size) _;rw[z];exact y)) (fun A it hA e=>Walks.tuple hA it a (by rw[e];exact aX (cQ ha)) bq.toArray) (by simp;exact fun e=>absurd ha (by rw[<- e];exact cW _)) ⟨⟨{ cls:=.type "tuple_iterator",data:=.fields #[.ref a,.int 0 0] },?_,rfl,rfl⟩,?_⟩ A1 hh hb q
 ·rw[<- z];exact ar _ rfl
 ·exact Rm.at fun o e=>ai _ e
end
theorem Kx{ss:List Str}(hp:ss.Perm ks)(Uv:ks.Nodup)(hm:∀x,x∈ks↔∃j,j<l.length/\tx [l.getD j 0]=x)(hs:sortedS ss=true) :
  ∃m:List Nat,ss=m.map (fun c=>tx [c])/\m.Nodup/\m.Pairwise (· <= ·)/\∀c,c∈m↔c∈l:=by
 have all:∀z∈ss,tx [z.cps.toList.headD 0]=z:=fun z hz=>by
  obtain⟨j,_,e⟩:=(hm z).mp (hp.mem_iff.mp hz)
  subst e;rfl
 have em:ss=(ss.map fun z=>z.cps.toList.headD 0).map fun c=>tx [c]:=by
  rw[aS]
  conv=>lhs;rw[<- iX ss]
  exact bJ fun z hz=>(all z hz).symm
 refine⟨ss.map fun z=>z.cps.toList.headD 0,em,?_,?_,fun c=>?_⟩
 ·have nd:ss.Nodup:=hp.nodup_iff.mpr Uv
  rw[em]at nd
  exact List.Pairwise.of_map (fun c=>tx [c]) (fun a b h e=>h (by rw[e])) nd
 ·refine zB _ ?_
  rw[aS]
  rw[em]at hs
  exact hs
 ·constructor
  ·intro hc
   obtain⟨z,hz,rfl⟩:=ba.mp hc
   obtain⟨j,hj,e⟩:=(hm z).mp (hp.mem_iff.mp hz)
   subst e
   show l.getD j 0∈l
   rw[ao,ae hj]
   exact dU hj
  ·intro hc
   obtain⟨j,hj,e⟩:=List.getElem_of_mem hc
   refine ba.mpr ⟨tx [c],hp.mem_iff.mpr ((hm _).mpr ⟨j,hj,?_⟩),rfl⟩
   rw[ao,ae hj,e];rfl
def Ky(K:Frag)(H:Hp)(v:V)(l:List Nat):Prop:=v=.str (tx l)\/∃a,v=.ref a/\fS K H a (gW l)
def FV(K:Frag)(te:TE):TE:=fun σ H Q=>te σ H fun v H1=>∃l,Ky K H1 v l/\l.length<4000/\(∀m:List Nat,m.Nodup->(∀c∈m,c∈l)->m.length<64) /\
 ∀m:List Nat,m.Nodup->m.Pairwise (· <= ·)->(∀c,c∈m↔c∈l)->∀a H2,H1 a=none->H2=ei H1 a (.lst (m.map fun c=>V.str (tx [c])))->Q (.ref a) H2
theorem bA.kept2{d':Drawn}(I:bA X ag σ H s)(k:∀b o,s.heap.get? b=some o->h'.get? b=some o):bA X ag σ H { s with heap:=h',drawn:=d',toks:=t' }:=
 I.step (g':=s.gens) (ch:=[]) (fun _ z=>nomatch z) (fun b o _ _ _ e _=>k b o e) (fun b o _ _ _ e _=>⟨o.slots,k b o e⟩) (fun _ _ _ _ n=>n) (fun b o _ e=>⟨o,k b o e⟩) (fun _ _ e=>e) (fun _ _ _ e=>e) (fun b ps e=>⟨#[],by rw[e];simp⟩)
  (fun m hm=>let ⟨o,es,ep,ho,r⟩:=hm;⟨o,es,ep,k _ o ho,r⟩) (I.hok.kept k) I.bare
theorem Eu{p1 p2 Q3 Jx:Pos}(h1:X.mg "sorted"=none)(h3:X.mg "set"=none)(he:QE X e te)(hc:X.calm=true:=by rfl)
  (Wj:Gl X "sorted":=by rfl) (Wi:Gl X "set":=by rfl) (U_:starEach [e] X.env=(false,eval e X.env)::starEach [] X.env:=by rfl):QE X (.Call (.Name "sorted" p1) [.Call (.Name "set" p2) [e] [] Jx] [] Q3) (FV X.K te):=⟨by
 intro ag s σ H Q I h
 refine fw (kP I Wj h1 PyProof.Rows.boot_sorted (jI ?_) (by decide) (by decide))
 show wpAny _ _ (spliced ((false,eval (.Call (.Name "set" p2) [e] [] Jx) X.env)::[])) _ _ s
 refine fq (fw (kP I Wi h3 PyProof.Rows.boot_set (bR ?_ U_ rfl) (by decide) (by decide)))
 rw[U_]
 show wpAny _ _ (spliced ((false,eval e X.env)::[])) _ _ s
 refine fq (gg (he.h ag s σ H _ I h) fun u s1 ⟨v,H1,I1,r1,l,hl,hb,few,q⟩=>gT ?_)
 have hh:X.A.handled=none:=I1.ok.hd hc
 have hb':l.length+1<scanBound:=by unfold scanBound;omega
 have fin:∀g tk,LV X.prog X.w (fun j=>tx [l.getD j 0]) g s1.heap.objs.size l.length->(∀b o,s1.heap.get? b=some o->g.get? b=some o) ->
   wpAny (model X.prog X.w) X.A (spliced []) (fun vs s₂=>wpAny (model X.prog X.w) X.A (call (.builtin "sorted") (.ref s1.heap.objs.size::vs)) (EP X ag σ Q) X.xe s₂) X.xe { s1 with heap:=g,toks:=tk }:=fun g tk hM kp=>by
  refine gT ?_
  obtain⟨ks,z,nd,mem,len⟩:=hM
  have wb:ks.length<64:=by
   obtain⟨m,em,mn,_,mm⟩:∃m:List Nat,ks=m.map (fun c=>tx [c])/\m.Nodup/\True/\∀c∈m,c∈l:=by
    have all:∀z∈ks,tx [z.cps.toList.headD 0]=z:=fun z hz=>by
     obtain⟨j,_,e⟩:=(mem z).mp hz
     subst e;rfl
    have em:ks=(ks.map fun z=>z.cps.toList.headD 0).map fun c=>tx [c]:=by
     rw[aS]
     conv=>lhs;rw[<- iX ks]
     exact bJ fun z hz=>(all z hz).symm
    refine⟨_,em,?_,trivial,fun c hc=>?_⟩
    ·have nd':=nd
     rw[em]at nd'
     exact List.Pairwise.of_map (fun c=>tx [c]) (fun a b h e=>h (by rw[e])) nd'
    ·obtain⟨z,hz,rfl⟩:=ba.mp hc
     obtain⟨j,hj,e⟩:=(mem z).mp hz
     subst e
     show l.getD j 0∈l
     rw[ao,ae hj]
     exact dU hj
   rw[em,al]
   exact few m mn mm
  refine Bz z wb hh fun g0 g1 d tk' out ss ep k0 k1 gL mP hperm hsrt=>?_
  obtain⟨m,em,mn,mp,mm⟩:=Kx hperm nd mem hsrt
  have I2:bA X ag σ H1 { s1 with heap:=g0,drawn:=d,toks:=tk' }:=I1.kept2 fun b o e=>k0 b o (kp b o e)
  have wn:H1 g0.objs.size=none:=I2.hok.fresh (aw _)
  have hvals:cu (m.map fun c=>V.str (tx [c])) out.toList:=by
   have e:=mR mP
   rw[em,aS]at e
   exact e
  refine⟨.ref g0.objs.size,_,I2.laid (o:=.lst (m.map fun c=>V.str (tx [c]))) (t':=tk') k1 (aw _) ?_,rfl,q m mn mp mm _ _ wn rfl⟩
  refine⟨?_,out.toList,ep,hvals,gL⟩
  rw[al]
  exact aL (gj (few m mn fun c hc=>(mm c).mp hc)) (by decide)
 rcases hl with rfl|⟨a,rfl,hT⟩
 ·obtain⟨t,rfl⟩:=r1
  exact FU hh hb' fin
 ·cases r1
  obtain⟨bq,rv,ht,_⟩:=I1.tuple hT
  exact Kw hh hb' ht rv fin⟩
theorem jO:Slot "reversed" "__next__" "reversed.__next__":=.of (owner:="reversed") (n:="__next__") (by rw[gs,dP];kernel_rfl) (by decide +kernel) (by decide +kernel) (by decide +kernel) (by first|exact .inl (by decide +kernel)|exact .inr (by decide +kernel)) (by rw[cI];kernel_rfl)
theorem tM:Slot "reversed" "__iter__" "reversed.__iter__":=.of (owner:="reversed") (n:="__iter__") (by rw[gs,dP];kernel_rfl) (by decide +kernel) (by decide +kernel) (by decide +kernel) (by first|exact .inl (by decide +kernel)|exact .inr (by decide +kernel)) (by rw[cI];kernel_rfl)
theorem zM:Slot "reversed" "__init__" "object.__init__":=.of (owner:="object") (n:="__init__") (by rw[gs,dP];kernel_rfl) (by decide +kernel) (by decide +kernel) (by decide +kernel) (by first|exact .inl (by decide +kernel)|exact .inr (by decide +kernel)) (by rw[cI];kernel_rfl)
theorem tN:entryFor table "reversed.__next__"=some Builtin.«reversed.__next__»:=entryFor_of_tree (by kernel_rfl)
theorem zN:entryFor table "reversed.__iter__"=some Builtin.«dict_keyiterator.__iter__»:=lD (id':="dict_keyiterator.__iter__") (by kernel_rfl) (by first|rfl|decide +kernel|(unfold String.splitOn;simp +decide [String.splitOnAux])) (by decide +kernel) (by kernel_rfl)
theorem tO(a:Value):argsOk "reversed.__next__" ⟨[a],[]⟩:=by unfold argsOk;kernel_rfl
theorem zO(a:Value):argsOk "reversed.__iter__" ⟨[a],[]⟩:=by unfold argsOk;kernel_rfl
theorem BA:TypeCalled "reversed" "reversed.__new__" "object.__init__":=⟨by decide +kernel,PySem.F.create_reversed,⟨_,_,PySem.F.mro_reversed⟩,PySem.F.made_reversed,PySem.F.plain_reversed_new,PySem.F.sub_reversed_self,zM⟩
theorem BB:typeLookup (.type "str") "__reversed__"=pure none:=by rw[gs,dP];kernel_rfl
noncomputable abbrev LW(x:Str)(t:Tok)(i:Int):Obj:={ cls:=.type "reversed",data:=.fields #[.str x t,rawInt i] }
def kQ(h:Heap)(it:Addr)(x:Str)(t:Tok)(i:Int):Prop:=∃o,h.get? it=some o/\o.cls=.type "reversed"/\o.data=.fields #[.str x t,rawInt i]
theorem Kz(x:Str)(t:Tok)(hx:¬ (x.length:Int)≥2^63) :
  Meets (Builtin.«reversed.__new__» ⟨[.type "reversed",.str x t],[]⟩) (fun _ R s=>∀tk,R (.ok (.ret (.ref s.heap.objs.size))) { s with heap:=s.heap.push (LW x t ((x.length:Int)-1)),toks:=tk }):=
 .of_wp fun prog w A R s h=>by
  unfold Builtin.«reversed.__new__»
  refine aa (fK (newClass_reversed _) ?_)
  try dsimp only
  refine aa (fK (a:=()) (by first|rfl|kernel_rfl) (aa (fK (a:=()) (by first|rfl|kernel_rfl) ?_)))
  try dsimp only
  refine aa (iE (iL _ _ _) BB ?_)
  show wpAny _ _ (_ >>= _) _ _ _
  refine aa ?_
  wp_delta
  refine aa (dS (T:="str") (b:=false) (iL _ _ _) (by rw[cI];kernel_rfl) ?_)
  try dsimp only
  try rw[ax cF]
  refine aa (iE (iL _ _ _) PySem.F.slot_str_getitem.lookup ?_)
  try dsimp only
  rw[au (by decide +kernel)]
  refine aq ?_
  rw[ax (by decide)]
  refine aa (len_str hx (aa (fK (a:=some (x.length:Int)) rfl ?_)))
  try dsimp only
  unfold Builtin.SmallTypes.newRecord
  try dsimp only
  exact aa (bF (aq ⟨_,rfl,h _⟩))
theorem kQ.typeIs{x:Str}{t:Tok}{i:Int}(z:kQ s.heap a x t i):s.TypeIs (.ref a) "reversed":=let ⟨o,ho,hc,_⟩:=z;⟨o,ho,hc⟩
theorem kQ.keep{x:Str}{t:Tok}{i:Int}(z:kQ h a x t i)(e:∀o,h.get? a=some o->h'.get? a=some o):kQ h' a x t i:=let ⟨o,ho,r⟩:=z;⟨o,e _ ho,r⟩
section
variable{w:World}
theorem FW{x:Str}{t:Tok}(hx:¬ (x.length:Int)≥2^63)(q:∀tk,Q (.ref s.heap.objs.size) { s with heap:=s.heap.push (LW x t ((x.length:Int)-1)),toks:=tk }) :
  wpAny (model prog w) A (call (.type "reversed") [.str x t]) Q E s:=by
 refine nA BA (by decide) (PySem.F.typeCall_reversed_1 _) (PySem.F.newCall_reversed_1 _) (fun ob=>PySem.F.args_object_init_2 ob _) PySem.F.entry_reversed_new (Kz x t hx) fun tk=>?_
 exact⟨⟨_,ar _ rfl,rfl⟩,q tk⟩
theorem FX{x:Str}{t:Tok}{c:Nat}{Q:Option Value->Shared->Prop}(jm:kQ s.heap it x t (i:Int))(hc:x.cps[i]?=some c)(hi:(i:Int)<2^63)
  (q:∀g tk u,kQ g it x t ((i:Int)-1)->Heap.SameBut it s.heap g->Q (some (.str ⟨#[c]⟩ u)) { s with heap:=g,toks:=tk }):wpAny (model prog w) A (pyNext (.ref it)) Q E s:=by
 obtain⟨o,ho,t5,hd⟩:=id jm
 have T:=jm.typeIs
 unfold pyNext
 refine aa (dA (be (name:=Str.ofString "__next__") T jO (bp jO T tN ?_ (tO _))))
 unfold Builtin.«reversed.__next__»
 refine aa (fK (a:=(Value.ref it,[])) rfl ?_)
 try dsimp only
 refine aa (bU ho hd (x:=.str x t) rfl (aa (bU ho hd (x:=rawInt (i:Int)) rfl ?_)))
 show wpAny _ _ (if (i:Int)<0 then _ else _) _ _ s
 rw[ax (by omega)]
 refine aa (iE (iL _ _ _) PySem.F.slot_str_getitem.lookup ?_)
 rw[ax (by simp)]
 have hlt:i<x.cps.size:=(Array.getElem?_eq_some_iff.mp hc).1
 refine aa (wpAny_mkInt (aa (dA (getItem_str (c:=c) (by simp;omega) ?_ ?_))))
 ·rw[show seqIndex? (i:Int) x.length=some i from by rw[PySem.StrLaws.seqIndex_nonneg (by omega) (by have:x.length=x.cps.size:=rfl;omega)];simp]
  exact hc
 try dsimp only
 refine aa (bU ho hd (x:=rawInt (i:Int)) rfl ?_)
 show wpAny _ _ (setField (.ref it) 1 (rawInt ((i:Int)-1)) >>= fun _=>ret _) _ _ _
 refine aa (jo ho hd (by simp) (aq ⟨_,rfl,aq (q _ _ _ ?_ (eO ..))⟩))
 exact⟨_,cx _ ho (jB (fy hd _)),(Obj.cls_mapFields ..).trans t5,by rw[fy hd];simp⟩
theorem KA{x:Str}{t:Tok}{Q:Option Value->Shared->Prop}(hh:A.handled=none)(jm:kQ s.heap it x t (-1))(q:∀g,(∀b o,b≠it->s.heap.get? b=some o->g.get? b=some o)->Q none { s with heap:=g }):wpAny (model prog w) A (pyNext (.ref it)) Q E s:=by
 obtain⟨o,ho,t5,hd⟩:=id jm
 have T:=jm.typeIs
 unfold pyNext
 refine aa (dA (be (name:=Str.ofString "__next__") T jO (bp jO T tN ?_ (tO _))))
 unfold Builtin.«reversed.__next__»
 refine aa (fK (a:=(Value.ref it,[])) rfl ?_)
 try dsimp only
 refine aa (bU ho hd (x:=.str x t) rfl (aa (bU ho hd (x:=rawInt (-1)) rfl ?_)))
 show wpAny _ _ (if (-1:Int)<0 then _ else _) _ _ s
 rw[au (by decide)]
 refine aa (iQ (aa ?_))
 wp_delta
 refine aa (jo ho hd (by simp) ?_)
 have ho2:=cx (Obj.mapFields fun a=>a.set! 1 (rawInt (-1))) ho (jB (fy hd _))
 refine jo ho2 (fy hd _) (by simp) ?_
 refine aa ?_
 show wpAny _ _ (newExc (.type "StopIteration") [] >>= _) _ _ _
 refine aa ?_
 simp only[newExc,newTuple]
 refine aa (bF (aa (m:=firstArgMember _ _) (fK (a:=Value.none) (by first|rfl|(simp only[firstArgMember];rfl)) (bF ?_ (by size_fits)))) (by size_fits))
 simp only[raiseNew]
 refine aa (pX ?_)
 rw[show A.in1.handled=none from hh]
 refine aa (aq (wpAny_throw ?_))
 refine aa (dS (T:="StopIteration") (b:=true) ⟨_,ar _ rfl,rfl⟩ gZ ?_)
 refine aq (q _ fun b o hb e=>ai _ (ai _ ?_))
 exact(cm _ _ (Ne.symm hb)).trans ((cm _ _ (Ne.symm hb)).trans e)
theorem u7{x:Str}{t:Tok}{i:Int}(jm:kQ s.heap it x t i)(q:Q (.ref it) s):wpAny (model prog w) A (pyIter (.ref it)) Q E s:=by
 have T:=jm.typeIs
 refine js T tM (bp tM T zN ?_ (zO _))
 show wpAny _ _ (ret (.ref it)) _ _ s
 exact aq ⟨_,rfl,"reversed",_,T,jO.lookup,q⟩
end
theorem Ev{w:World}(hh:A.handled=none)(it:Addr)(x:Str)(t:Tok)(hx:(x.length:Int)<2^63) :
  Walks prog w A it [it] [it] x.length (fun i v=>∃c u,x.cps[x.length-1-i]?=some c/\v=.str ⟨#[c]⟩ u) (fun i h=>i<=x.length/\kQ h it x t ((x.length:Int)-1-(i:Int))) where
 sub:=fun _ hb=>hb
 frame:=fun _ _ _ st hk=>⟨st.1,st.2.keep fun o e=>hk it (by simp) o e⟩
 item:=fun i s Q E hi st q=>by
  have e:(x.length:Int)-1-(i:Int)=((x.length-1-i:Nat):Int):=by omega
  have jm:=st.2
  rw[e]at jm
  have hlt:x.length-1-i<x.cps.size:=by have:x.length=x.cps.size:=rfl;omega
  have hc:x.cps[x.length-1-i]?=some (x.cps[x.length-1-i]'hlt):=im hlt
  refine FX jm hc (by omega) fun g tk u hg sb=>?_
  have e2:((x.length-1-i:Nat):Int)-1=(x.length:Int)-1-((i+1:Nat):Int):=by omega
  rw[e2]at hg
  exact q _ g tk ⟨_,u,hc,rfl⟩ ⟨hi,hg⟩ fun b o hb eo=>sb.extBut b o (fun h=>hb (by simp[h])) eo
 done:=fun s Q E st q=>by
  have e:(x.length:Int)-1-(x.length:Int)=-1:=by omega
  have jm:=st.2
  rw[e]at jm
  exact KA hh jm fun g kp=>q g s.toks fun b o hb eo=>kp b o (fun h=>hb (by simp[h])) eo
 self:=fun _ _ _ _ st q=>u7 st.2 q
def Se(ta:TA):TI:=fun σ H R=>ta σ H fun vs H1=>∃l,vs=[.str (tx l)]/\l.length<=1000000/\R (R3 (gW l.reverse)) H1
theorem KB{tg a:Expr}{ta:TA}{p pos:Pos}(hm:X.mg "reversed"=none)(ha:QA X [a] ta)(hg:Gl X "reversed":=by rfl)(hs:starEach [a] X.env=(false,eval a X.env)::starEach [] X.env:=by rfl) :
  QI X tg (.Call (.Name "reversed" p) [a] [] pos) (Se ta):=⟨by
 intro ag s σ H R I h
 refine Call_ (kP I hg hm boot_reversed (bR (gg (ha.h pos ag s σ H _ I h) fun us s1 ⟨vs,H1,I1,r1,q1⟩=>?_) hs rfl))
 obtain⟨l,e,hl,q⟩:=q1
 subst e
 cases r1 with
 |cons x1 r1=>
  cases r1
  obtain⟨t,rfl⟩:=x1
  have hn:(tx l).length=(gW l.reverse).length:=by unfold gW;rw[iH];simp
  have hb:((tx l).length:Int)<2^63:=by rw[iH];omega
  refine FW (by omega) fun tk=>?_
  refine u7 (x:=tx l) (t:=t) (i:=((tx l).length:Int)-1) ⟨_,ar _ rfl,rfl,rfl⟩ ?_
  refine⟨s1.heap.objs.size,[s1.heap.objs.size],_,_,H1,rfl,I1.kept (t':=tk) fun b o e=>ai _ e,p7 (ty:="reversed") (S:=fun i h=>i<=(tx l).length/\kQ h s1.heap.objs.size (tx l) t (((tx l).length:Int)-1-(i:Int))) (fun A hA=>by rw[<- hn];exact Ev hA _ (tx l) t hb) (fun k v hk hp=>?_) (fun k h st=>?_) (by decide) (fun A k s Q E st h=>u7 st.2 h),⟨cL _,cL _,⟨_,ar _ rfl,rfl,?_⟩⟩,fun b hb=>?_,q⟩
  ·obtain⟨c,u,hc,rfl⟩:=hp
   refine⟨.str (tx [c]),?_,u,rfl⟩
   rw[<- hn]at hk
   rw[iH]at hc hk
   have hc':l[l.length-1-k]?=some c:=by simpa[tx]using hc
   unfold gW
   rw[aj,gI hk,hc'];rfl
  ·obtain⟨_,o,e1,e2,e3⟩:=st
   exact⟨o,_,e1,e2,e3⟩
  ·simp
  ·have e:b=s1.heap.objs.size:=by simpa using hb
   subst e
   exact I1.fpOk (aw _) I1.fresh⟩
theorem xf(a b:Int):Builtin.Range.rangeSize a b (-1)=((a-b).toNat:Int):=by
 unfold Builtin.Range.rangeSize
 rw[ax (by decide)]
 simp only[Int.neg_neg,Int.ediv_one]
 split<;>omega
theorem BC{a b:Int}(h1:-(2^60)<=a)(h2:a<2^60)(h3:-(2^60)<=b)(h4:b<2^60):Builtin.Range.small a b (-1)=true:=by
 unfold Builtin.Range.small
 rw[xf]
 simp only[Builtin.Range.rangeFitsLong,bX,nU,decide_eq_true_eq,db,ax (show ¬ ((-1:Int)>0) by decide)]
 omega
noncomputable def xg(i:Int)(n:Nat):List V:=(List.range n).map fun k:Nat=>V.int (i-k)
def Sf(ta:TA):TI:=fun σ H R=>ta σ H fun vs H1=>∃i j:Int,vs=[.int i,.int j,.int (-1)]/\(-(2^60)<=i/\i<2^60/\-(2^60)<=j/\j<2^60)/\R (R3 (xg i (i-j).toNat)) H1
theorem yb{tg a b:Expr}{ta:TA}{p pos:Pos}(hm:X.mg "range"=none)(ha:QA X [a,b,c] ta)(hg:Gl X "range":=by rfl)(hs:starEach [a,b,c] X.env=(false,eval a X.env)::starEach [b,c] X.env:=by rfl)
  (ze:(backTo pos (starEach [b,c] X.env)).any (·.1)=false:=by rfl):QI X tg (.Call (.Name "range" p) [a,b,c] [] pos) (Sf ta):=⟨by
 intro ag s σ H R I h
 refine Call_ (kP I hg hm boot_range (bR (gg (ha.h pos ag s σ H _ I h) fun us s1 ⟨vs,H1,I1,r1,q1⟩=>?_) hs ze))
 obtain⟨i,j,e,⟨b1,b2,b3,b4⟩,q⟩:=q1
 subst e
 cases r1 with
 |cons x1 r1=>cases r1 with
  |cons x2 r1=>cases r1 with
   |cons x3 r1=>
    cases r1
    obtain⟨t1,rfl⟩:=x1
    obtain⟨t2,rfl⟩:=x2
    obtain⟨t3,rfl⟩:=x3
    refine call_range_3 (by decide) ?_ (Or.inl (no (by omega)))
    refine wpAny_pyIter_range (IsRange.new ..) (BC b1 b2 b3 b4) ?_
    generalize hN:(i-j).toNat=n at q
    have hl:(xg i n).length=n:=by unfold xg;simp
    have I2:bA X ag σ H1 { s1 with heap:=s1.heap.push { cls:=.type "range",data:=.fields #[.int i t1,.int j t2,.int (-1) t3] },toks:=s1.toks }:=I1.kept fun b o e=>ai _ e
    refine⟨(s1.heap.push { cls:=.type "range",data:=.fields #[.int i t1,.int j t2,.int (-1) t3] }).objs.size,[(s1.heap.push { cls:=.type "range",data:=.fields #[.int i t1,.int j t2,.int (-1) t3] }).objs.size],_,_,H1,rfl,
     I2.kept (t':=s1.toks) fun b o e=>ai _ e,p7 (ty:="range_iterator") (fun A hA=>by rw[hl];exact Walks.range hA _ i (-1) n) (fun k v hk hp=>?_) (fun k h st=>⟨_,_,st,rfl,rfl⟩) (by decide) (fun A k s Q E st h=>nn st h),⟨cL _,?_⟩,fun b hb=>?_,q⟩
    ·obtain⟨t,rfl⟩:=hp
     rw[hl]at hk
     refine⟨.int (i+k*(-1)),?_,t,rfl⟩
     unfold xg
     rw[aj,aJ hk]
     show some (V.int (i-k))=_
     congr 2;omega
    ·have e1:i+((0:Nat):Int)*(-1)=i:=by simp
     have e2:((n:Nat):Int)-((0:Nat):Int)=Builtin.Range.rangeSize i j (-1):=by rw[xf,hN];simp
     rw[e1,e2]
     exact ar _ rfl
    ·have e:b=(s1.heap.push { cls:=.type "range",data:=.fields #[.int i t1,.int j t2,.int (-1) t3] }).objs.size:=by simpa using hb
     subst e
     exact I2.fpOk (aw _) (I2.hok.fresh (aw _))⟩
section
variable{nm:List Str}{wi:TI}{g:TG}{tc:TT}
theorem BD{x0:Str}{p0 p1:Pos}{gx:TG}(Q4:PG X (.Name x0 p0) gx)(Rc:swapsWith (.ListComp nO [⟨tg,c6,kq,0⟩] scope pos) (some (.Name x0 p0)) p1.line X.env=pure true)(ik:X.calm=true)(wc:closureFor scope X.env=pure cl)(t5:∀x c,cl.lookup x=some c->X.env.cells.lookup x=some c)
  (ij:scope.kind=.function) (qo:∀x∈scope.names,x.2=.local->scope.names.lookup x.1=some .local) (f9:∀y∈scope.names,y.2≠.cell)
  (Ct:∀x,((relabel scope X.env).names.lookup x=some .cell\/(relabel scope X.env).names.lookup x=some .free)->∃c,cl.lookup x=some c)
  (pD:∀(i j:Nat),cap[i]?=some (some j)->∃x,nm[i]?=some x/\X.N[j]?=some x/\uY X scope cl x) (da:cap.length=nm.length)
  (hi:PI X tg c6 wi) (hg:∀C s0 H0 fp,PG (cS X nm scope cl C s0 H0 fp) tg g) (ht:∀C s0 H0 fp,Fw (cS X nm scope cl C s0 H0 fp) kq tc)
  (he:∀C s0 H0 fp,PE (cS X nm scope cl C s0 H0 fp) nO te) (hs:∀x,foldedSetIterable c6 X.env x=pure x:=by intro _;rfl) :
  PS X (.Assign [.Name x0 p0] (.ListComp nO [⟨tg,c6,kq,0⟩] scope pos) p1) (JY (uX cap wi g tc te) gx):=by
 intro ag s σ H D I h
 rw[exec_Assign_Name_used _ _ _ _ Rc]
 suffices main:wpAny (model X.prog X.w) X.A (comprehension (.ListComp nO [⟨tg,c6,kq,0⟩] scope pos) scope X.env (firstIterPos [⟨tg,c6,kq,0⟩] pos) (newList []) (firstAsync [⟨tg,c6,kq,0⟩]) (firstIter [⟨tg,c6,kq,0⟩] X.env) (some (assign (.Name x0 p0) X.env))) (fun _ s'=>SP X ag D .next s') X.xe s from
  aa (pV (aa (aa (eJ main (fun _ s' h=>aq (aq h)) fun _ _ z=>z))))
 refine w9 ik wc t5 ij qo f9 Ct pD da hi hg ht he hs I h fun s4 C D m4 Hn I4 B q=>?_
 obtain⟨oC,es,ep,hoC,hdC,hrC⟩:=B.ns
 refine eJ (Q4 _ s4 σ _ (.ref D) (.ref D) _ (I4.pins_of (pins':=ag++[(C,oC)]) fun p hp=>?_) rfl q) (fun _ s5 h5=>?_) fun _ _ z=>z
 ·rcases aY.mp hp with z|z
  ·exact I4.pin p (aI _ z)
  ·have e:p=(C,oC):=by simpa using z
   subst e
   exact⟨hoC,B.fr,B.nl,B.nf,fun v z=>by rw[hdC]at z;cases z⟩
 obtain⟨σ',H',I6,nx⟩:=h5
 have pC:=I6.pin (C,oC) (aI _ (aI _ (bB.mpr rfl)))
 have I7:bA X ag σ' H' s5:=I6.pins_of fun p hp=>I6.pin p (aI _ (bS _ hp))
 have B7:zu X ag H' s5 C m4:=⟨⟨oC,es,ep,pC.1,hdC,hrC⟩,pC.2.1,B.nl,B.nf,B.hi,B.nc,B.np⟩
 exact⟨m4,B7.ns,fun h' hs'=>⟨σ',H',B7.off I7 hs',nx⟩⟩
end
theorem BE{x0:Str}{p0 p1:Pos}{gx:TG}{pos:Pos}{nm:List Str}{wi:TI}{g:TG}{tc:TT}(Q4:QG X (.Name x0 p0) gx)(ik:X.calm=true)
  (lj:X.env.cells=cellsFrom m X.env.scope.names []) (ij:scope.kind=.function) (hB:zy X.env.scope.names scope.names nm cap X.N=true)
  (hi:QI X tg c6 wi) (hg:∀cl C s0 H0 fp,QG (cS X nm scope cl C s0 H0 fp) tg g) (ht:∀cl C s0 H0 fp,VG (cS X nm scope cl C s0 H0 fp) kq tc)
  (he:∀cl C s0 H0 fp,QE (cS X nm scope cl C s0 H0 fp) nO te) (hs:∀x,foldedSetIterable c6 X.env x=pure x:=by intro _;rfl) (Rc:swapsWith (.ListComp nO [⟨tg,c6,kq,0⟩] scope pos) (some (.Name x0 p0)) p1.line X.env=pure true:=by first|rfl|kernel_rfl) :
  QS X (.Assign [.Name x0 p0] (.ListComp nO [⟨tg,c6,kq,0⟩] scope pos) p1) (JY (uX cap wi g tc te) gx):=by
 have F:=Sc (nm:=nm) (cap:=cap) (fun x z=>by rw[lj];exact mi z) hB
 exact⟨BD Q4.h Rc ik F.clos F.cl ij F.nms F.cell F.has F.cp F.len hi.h (fun C s0 H0 fp=>(hg _ C s0 H0 fp).h) (fun C s0 H0 fp=>(ht _ C s0 H0 fp).h) (fun C s0 H0 fp=>(he _ C s0 H0 fp).h) hs⟩
open AutoSeq1 (wpAny_loadPart')
theorem FY(l b:Addr)(i1 i2:Array Value)(n1 n2:Nat)(d1 d2:Option Addr)(s1 s2:Array (Option Value))(h0:i1.isEmpty=true) :
  Meets (Builtin.«tuple.__add__» ⟨[.ref l,.ref b],[]⟩) (fun _ R s=>s.heap.get? l=some { cls:=.type "tuple",dict:=d1,data:=.seq i1 n1,slots:=s1 }/\s.heap.get? b=some { cls:=.type "tuple",dict:=d2,data:=.seq i2 n2,slots:=s2 }/\R (.ok (.ret (.ref b))) s):=
 .of_wp fun prog w A R s h=>by
  obtain⟨hp,g,d,tk,os⟩:=s
  obtain⟨e1,e2,h⟩:=h
  have a2:=PyProof.Rows.sub_tuple_tuple
  wp_walk using bv e1,bv e2
  exact⟨_,rfl,h⟩
def Sg(K:Frag):R2:=fun x y H Q=>∃a b xs ys,x=.ref a/\y=.ref b/\fS K H a xs/\fS K H b ys/\xs.length+ys.length<=sizeLine/\∀p H2,uc H H2->fS K H2 p (xs++ys)->Q (.ref p) H2
theorem OO:Wp X (binaryOp .Add) (Sg X.K):=⟨by
 intro ag s σ H x y v u Q I rx ry h
 obtain⟨a,b,xs,ys,rfl,rfl,ha,hb,hz,q⟩:=h
 by_cases hx:xs=[]
 ·subst hx
  cases rx
  cases ry
  obtain⟨bq,r1,p1,_⟩:=I.tuple ha
  obtain⟨its2,r2,p2,_⟩:=I.tuple hb
  have e1:bq=[]:=r1.nil_iff.mpr rfl
  obtain⟨⟨c1,d1,g1,l1⟩,f1,hc1,n1,hd1⟩:=id p1
  obtain⟨⟨c2,d2,g2,l2⟩,f2,hc2,n2,hd2⟩:=id p2
  simp only at hc1 hd1 hc2 hd2
  subst hc1 hd1 hc2 hd2
  refine rT ⟨_,f1,rfl⟩ ⟨_,f2,rfl⟩ mE pW PySem.F.slot_tuple_add PySem.F.entry_tuple_add (PySem.F.args_tuple_add_2 _ _) (FY a b bq.toArray its2.toArray n1 n2 d1 d2 l1 l2 (by rw[e1];rfl)) ⟨f1,f2,?_⟩
  exact⟨.ref b,H,I,rfl,q b H (uc.refl H) hb⟩
 ·exact J9 ag s σ H _ _ v u Q I rx ry ⟨a,b,xs,ys,rfl,rfl,ha,hb,hx,hz,fun e=>q a H (uc.refl H) (by rw[e,ce];exact ha),fun _ p hp=>q p _ (cy hp _) (fS.of eN)⟩⟩
inductive W where
 |non|bl (b:Bool)|int (i:Int)|str (l:List Nat)|tup (ws:List W)|loc (n:Nat)
inductive DK where
 |i (z:Int)|s (l:List Nat)
deriving DecidableEq
def DK.key:DK->jv
 |.i z=>.inl z
 |.s l=>.inr (tx l)
inductive KX where
 |bo (b:Bool)|fl (ks:List Int)|pr (i:Int) (ks:List Int)
deriving DecidableEq
noncomputable def KX.w:KX->W
 |.bo b=>.bl b
 |.fl ks=>.tup (ks.map W.int)
 |.pr i ks=>.tup [.int i,.tup (ks.map W.int)]
noncomputable def FZ(ks:List Int):Int:=reduceHash (Builtin.Tuple.tupleHashOf (ks.map hashInt))
def KX.hash:KX->Int
 |.bo b=>hashInt (if b then 1 else 0)
 |.fl ks=>FZ ks
 |.pr i ks=>reduceHash (Builtin.Tuple.tupleHashOf [hashInt i,FZ ks])
inductive am where
 |lst (ws:List W)
 |ro (ws:List W)
 |exc (c:Str)
 |dct (kvs:List (DK×W))
 |tab (P:Addr) (pos:Pos) (q:Str)
 |rod (kvs:List (DK×W))
 |dcx (kvs:List (KX×W))
 |rox (kvs:List (KX×W))
 |obj (c:Str) (fs:List (Str×W))
 |pin (k:Bool) (c:Addr) (o:Obj) (w:W)
 |gone
noncomputable abbrev mj:Nat:=1000000
theorem mT(h:n<=mj):n<=sizeLine:=aL h (by decide)
theorem OP(h:n<=mj):n<sizeLine:=iM h (by decide)
inductive R(α:Type) where
 |ok (a:α) (st:List am)
 |ex (c:Str) (st:List am)
 |bad
end L2
variable{st bz st1 z:List L2.am}{ws:List L2.W}{F G:List L2.W->List L2.am->L2.R L2.W}{ck:Option (Nat×List L2.W)}
namespace L2
open PySem PySem.Spec PyProof.Rows
noncomputable def R.bind:R α->(α->List am->R β)->R β
 |.ok a st,k=>k a st
 |.ex c st,_=>.ex c st
 |.bad,_=>.bad
@[simp] theorem R.bind_ok{α β:Type}(a:α)(st:List am)(k:α->List am->R β):(R.ok a st).bind k=k a st:=rfl
@[simp] theorem R.bind_ex{α β:Type}(c:Str)(st:List am)(k:α->List am->R β):(R.ex c st:R α).bind k=.ex c st:=rfl
@[simp] theorem R.bind_bad{α β:Type}(k:α->List am->R β):(R.bad:R α).bind k=.bad:=rfl
noncomputable abbrev cw:=List (Option W)
inductive RS where
 |nx (ρ:cw) (st:List am)|rt (w:W) (st:List am)|bk (ρ:cw) (st:List am)|ct (ρ:cw) (st:List am)
 |ex (c:Str) (ρ:cw) (st:List am)|bad
abbrev FE:=cw->List am->R W
abbrev FT:=cw->List am->R Bool
abbrev FA:=cw->List am->R (List W)
abbrev FS:=cw->List am->RS
section
variable(K:Frag)
mutual
def bu(μ:List Addr)(H:Hp):W->V->Prop
 |.non,v=>v=.non
 |.bl b,v=>v=.bl b
 |.int i,v=>v=.int i
 |.str l,v=>v=.str (tx l)
 |.tup ws,v=>∃p vs,v=.ref p/\fS K H p vs/\RelWs μ H ws vs
 |.loc n,v=>∃a,μ[n]?=some a/\v=.ref a
def RelWs(μ:List Addr)(H:Hp):List W->List V->Prop
 |[],vs=>vs=[]
 |w::ws,vs=>∃x xs,vs=x::xs/\bu μ H w x/\RelWs μ H ws xs
end
end
theorem pre_get(h:μ <+: μ')(e:μ[n]?=some a):μ'[n]?=some a:=by
 obtain⟨t,rfl⟩:=h
 rw[aK (ac.mp e).1];exact e
section
mutual
theorem bu.mono(h:μ <+: μ')(e:d_ K H H'):∀{w:W} {v:V},bu K μ H w v->bu K μ' H' w v
 |.non,_,r=>by unfold bu at r ⊢;exact r
 |.bl _,_,r=>by unfold bu at r ⊢;exact r
 |.int _,_,r=>by unfold bu at r ⊢;exact r
 |.str _,_,r=>by unfold bu at r ⊢;exact r
 |.tup _,_,r=>by unfold bu at r ⊢;obtain⟨p,vs,a,b,c⟩:=r;exact⟨p,vs,a,e _ _ b,RelWs.mono h e c⟩
 |.loc _,_,r=>by unfold bu at r ⊢;obtain⟨a,b,c⟩:=r;exact⟨a,pre_get h b,c⟩
theorem RelWs.mono(h:μ <+: μ')(e:d_ K H H'):∀{ws:List W} {vs:List V},RelWs K μ H ws vs->RelWs K μ' H' ws vs
 |[],_,r=>by unfold RelWs at r ⊢;exact r
 |_::_,_,r=>by unfold RelWs at r ⊢;obtain⟨x,xs,a,b,c⟩:=r;exact⟨x,xs,a,bu.mono h e b,RelWs.mono h e c⟩
end
theorem RelWs.nilI:RelWs K μ H [] []:=by unfold RelWs;rfl
theorem RelWs.consI{w:W}{x:V}{xs:List V}(a:bu K μ H w x)(b:RelWs K μ H ws xs):RelWs K μ H (w::ws) (x::xs):=by unfold RelWs;exact⟨x,xs,rfl,a,b⟩
theorem RelWs.nilE(h:RelWs K μ H [] vs):vs=[]:=by unfold RelWs at h;exact h
theorem RelWs.consE{w:W}(h:RelWs K μ H (w::ws) vs):∃x xs,vs=x::xs/\bu K μ H w x/\RelWs K μ H ws xs:=by unfold RelWs at h;exact h
theorem RelWs.pr:∀{ws:List W} {vs:List V},RelWs K μ H ws vs↔Paired (fun w v=>bu K μ H w v) ws vs
 |[],vs=>⟨fun h=>by rw[h.nilE];exact .nil,fun h=>by cases h;exact .nilI⟩
 |w::ws,vs=>⟨fun h=>by obtain⟨x,xs,rfl,a,b⟩:=h.consE;exact .cons a (RelWs.pr.mp b),fun h=>by cases h with|cons a b=>exact .consI a (RelWs.pr.mpr b)⟩
theorem RelWs.len(h:RelWs K μ H ws vs):ws.length=vs.length:=Paired.length (RelWs.pr.mp h)
theorem RelWs.app:∀{as:List W} {xs:List V} {bs:List W} {ys:List V},RelWs K μ H as xs->RelWs K μ H bs ys->RelWs K μ H (as++bs) (xs++ys)
 |[],xs,bs,ys,a,b=>by rw[a.nilE];exact b
 |w::as,xs,bs,ys,a,b=>by obtain⟨x,xs,rfl,c,d⟩:=a.consE;exact .consI c (RelWs.app d b)
theorem RelWs.get:∀{ws:List W} {vs:List V} {i:Nat} {w:W},RelWs K μ H ws vs->ws[i]?=some w->∃v,vs[i]?=some v/\bu K μ H w v
 |[],_,_,_,_,e=>by simp at e
 |x::ws,vs,0,w,h,e=>by obtain⟨y,ys,rfl,a,b⟩:=h.consE;simp at e;subst e;exact⟨y,rfl,a⟩
 |x::ws,vs,i+1,w,h,e=>by obtain⟨y,ys,rfl,a,b⟩:=h.consE;simpa using RelWs.get (i:=i) b (by simpa using e)
theorem RelWs.take:∀{ws:List W} {vs:List V} (n:Nat),RelWs K μ H ws vs->RelWs K μ H (ws.take n) (vs.take n)
 |_,_,0,_=>by simp only[List.take_zero];exact .nilI
 |[],vs,n+1,h=>by rw[h.nilE];exact .nilI
 |x::ws,vs,n+1,h=>by obtain⟨y,ys,rfl,a,b⟩:=h.consE;exact .consI a (RelWs.take n b)
theorem RelWs.drop:∀{ws:List W} {vs:List V} (n:Nat),RelWs K μ H ws vs->RelWs K μ H (ws.drop n) (vs.drop n)
 |_,_,0,h=>h
 |[],vs,n+1,h=>by rw[h.nilE];exact .nilI
 |x::ws,vs,n+1,h=>by obtain⟨y,ys,rfl,a,b⟩:=h.consE;exact RelWs.drop n b
theorem RelWs.setI:∀{ws:List W} {vs:List V} (i:Nat) {w:W} {v:V},bu K μ H w v->RelWs K μ H ws vs->RelWs K μ H (ws.set i w) (vs.set i v)
 |[],vs,_,_,_,_,h=>by rw[h.nilE];exact .nilI
 |x::ws,vs,0,w,v,r,h=>by obtain⟨y,ys,rfl,a,b⟩:=h.consE;exact .consI r b
 |x::ws,vs,i+1,w,v,r,h=>by obtain⟨y,ys,rfl,a,b⟩:=h.consE;exact .consI a (RelWs.setI i r b)
theorem bu.intE{i:Int}{v:V}(h:bu K μ H (.int i) v):v=.int i:=by unfold bu at h;exact h
theorem bu.blE{b:Bool}{v:V}(h:bu K μ H (.bl b) v):v=.bl b:=by unfold bu at h;exact h
theorem bu.nonE{v:V}(h:bu K μ H .non v):v=.non:=by unfold bu at h;exact h
theorem bu.strE{v:V}(h:bu K μ H (.str l) v):v=.str (tx l):=by unfold bu at h;exact h
theorem bu.tupE{v:V}(h:bu K μ H (.tup ws) v):∃p vs,v=.ref p/\fS K H p vs/\RelWs K μ H ws vs:=by unfold bu at h;exact h
theorem bu.locE{v:V}(h:bu K μ H (.loc n) v):∃a,μ[n]?=some a/\v=.ref a:=by unfold bu at h;exact h
theorem bu.int{i:Int}:bu K μ H (.int i) (.int i):=by unfold bu;rfl
theorem bu.bl{i:Bool}:bu K μ H (.bl i) (.bl i):=by unfold bu;rfl
theorem bu.non:bu K μ H .non .non:=by unfold bu;rfl
theorem bu.str:bu K μ H (.str l) (.str (tx l)):=by unfold bu;rfl
theorem bu.tupI{p:Addr}(a:fS K H p vs)(b:RelWs K μ H ws vs):bu K μ H (.tup ws) (.ref p):=by unfold bu;exact⟨p,vs,rfl,a,b⟩
theorem bu.locI(e:μ[n]?=some a):bu K μ H (.loc n) (.ref a):=by unfold bu;exact⟨a,e,rfl⟩
end
noncomputable def Si(a:Addr)(C:Value):HO:=.ext fun h=>∃o vs,h.get? a=some o/\o.cls=C/\o.data=.fields vs
noncomputable def zP(b:Addr)(q:Str):HO:=.ext fun h=>∃o vs t,h.get? b=some o/\o.data=.fields vs/\vs[1]?=some (.str q t)
def UQ(K:Frag)(H:Hp)(a:Addr)(xs:List V):Prop:=
 (∃o,H a=some (.frz o (.lst xs)))\/∃(o:Obj) (bq:Array Value) (n:Nat),K.lookup a=some o/\o.cls=.type "list"/\o.dict=none/\o.data=.seq bq n/\bq.size<=sizeLine/\cu xs bq.toList
theorem UQ.sq{xs:List V}(h:UQ K H a xs):oZ K H a xs:=by
 rcases h with⟨o,h⟩|h
 ·exact .inl (.inr ⟨o,h⟩)
 ·exact .inr h
noncomputable def am.isRo:am->Bool
 |.ro _=>true
 |.gone=>true
 |_=>false
def DX(a:Addr)(es:List DictEntry):Heap->Prop:=fun h=>∃o ep,h.get? a=some o/\o.ExactDict/\o.data=.dict es.toArray ep
noncomputable abbrev Wr(a:Addr)(es:List DictEntry):HO:=.ext (DX a es)
def zQ(K:Frag)(μ:List Addr)(H:Hp)(p:KX×W)(e:DictEntry):Prop:=e.hash=p.1.hash/\(∃v,bu K μ H p.1.w v/\cD v e.key)/\∃v,bu K μ H p.2 v/\cD v e.val
noncomputable def VJ(a:Addr)(o:Obj):HO:=.ext fun h=>h.get? a=some o
def lR(K:Frag)(mg:Str->Option Value)(μ:List Addr)(H:Hp):am->Addr->Prop
 |.lst ws,a=>∃vs,H a=some (.lst vs)/\RelWs K μ H ws vs
 |.ro ws,a=>∃vs,UQ K H a vs/\RelWs K μ H ws vs
 |.exc c,a=>∃C,mg c=some C/\H a=some (Si a C)
 |.dct kvs,a=>∃vs,H a=some (.dK ((kvs.map fun p=>p.1.key).zip vs))/\RelWs K μ H (kvs.map fun p=>p.2) vs
 |.rod kvs,a=>∃vs o,H a=some (.frz o (.dK ((kvs.map fun p=>p.1.key).zip vs)))/\RelWs K μ H (kvs.map fun p=>p.2) vs
 |.dcx kvs,a=>∃es,H a=some (Wr a es)/\(a==sysModules)=false/\Paired (zQ K μ H) kvs es/\(kvs.map fun p=>p.1).Nodup
 |.rox kvs,a=>∃es o,H a=some (.frz o (Wr a es))/\(a==sysModules)=false/\Paired (zQ K μ H) kvs es/\(kvs.map fun p=>p.1).Nodup
 |.obj c fs,a=>∃C dx vs,mg c=some (.ref C)/\H a=some (.ins C dx ((fs.map fun p=>p.1).zip vs))/\RelWs K μ H (fs.map fun p=>p.2) vs
 |.tab P pos q,a=>a=P/\∃ps,H a=some (.tbl ps)/\TriplesOk ps.toList/\(codeAmong pos ps.toList=none\/∃c,codeAmong pos ps.toList=some (.ref c)/\H c=some (zP c q))
 |.pin k c o w,a=>a=c/\H a=some (VJ a o)/\(k=false->∃fd cd,o.data=.func fd/\fd.code=.ref cd/\H cd=some (zP cd fd.qualname))/\∃v,bu K μ H w v/\(k=true->∃u,o.data=.cell (some u)/\cD v u)
 |.gone,_=>True
structure iy(K:Frag)(mg:Str->Option Value)(μ:List Addr)(st:List am)(H:Hp):Prop where
 nd:∀(i j:Nat) (a:Addr) (ci cj:am),st[i]?=some ci->st[j]?=some cj->ci.isRo=false->cj.isRo=false->μ[i]?=some a->μ[j]?=some a->i=j
 len:st.length=μ.length
 at':∀(i:Nat) (c:am) (a:Addr),st[i]?=some c->μ[i]?=some a->lR K mg μ H c a
section
theorem zQ.mono(h:μ <+: μ')(x:d_ K H H'){p:KX×W}{e:DictEntry}(r:zQ K μ H p e):zQ K μ' H' p e:=by
 obtain⟨a,⟨v,b,c⟩,u,d,g⟩:=r
 exact⟨a,⟨v,b.mono h x,c⟩,u,d.mono h x,g⟩
theorem lR.keep(h:μ <+: μ')(x:d_ K H H'){c:am}(e:∀o,H a=some o->H' a=some o)(e2:∀b q,H b=some (zP b q)->H' b=some (zP b q))(r:lR K mg μ H c a):lR K mg μ' H' c a:=by
 cases c with
 |lst ws=>obtain⟨vs,p,y⟩:=r;exact⟨vs,e _ p,y.mono h x⟩
 |ro ws=>
  obtain⟨vs,p,y⟩:=r
  refine⟨vs,?_,y.mono h x⟩
  rcases p with⟨o,p⟩|p
  ·exact .inl ⟨o,e _ p⟩
  ·exact .inr p
 |exc c=>obtain⟨C,p,y⟩:=r;exact⟨C,p,e _ y⟩
 |dct kvs=>obtain⟨vs,p,y⟩:=r;exact⟨vs,e _ p,y.mono h x⟩
 |rod kvs=>obtain⟨vs,o,p,y⟩:=r;exact⟨vs,o,e _ p,y.mono h x⟩
 |dcx kvs=>obtain⟨es,p,d,y,z⟩:=r;exact⟨es,e _ p,d,Paired.imp' (fun _ _ q=>q.mono h x) y,z⟩
 |rox kvs=>obtain⟨es,o,p,d,y,z⟩:=r;exact⟨es,o,e _ p,d,Paired.imp' (fun _ _ q=>q.mono h x) y,z⟩
 |obj c fs=>obtain⟨C,dx,vs,m,p,y⟩:=r;exact⟨C,dx,vs,m,e _ p,y.mono h x⟩
 |tab P pos q=>
  obtain⟨ea,ps,p,t,y⟩:=r
  refine⟨ea,ps,e _ p,t,?_⟩
  rcases y with y|⟨c,y,z⟩
  ·exact .inl y
  ·exact .inr ⟨c,y,e2 _ _ z⟩
 |pin k c o w=>obtain⟨ea,p,g,v,y,z⟩:=r;exact⟨ea,e _ p,fun q=>let ⟨fd,cd,q1,q2,q3⟩:=g q;⟨fd,cd,q1,q2,e2 _ _ q3⟩,v,y.mono h x,z⟩
 |gone=>trivial
theorem lR.ro_ne{c:am}(r:lR K mg μ H c a)(h:c.isRo=false):∃o,H a=some o:=by
 cases c with
 |lst ws=>obtain⟨vs,p,y⟩:=r;exact⟨_,p⟩
 |ro ws=>cases h
 |exc c=>obtain⟨C,p,y⟩:=r;exact⟨_,y⟩
 |dct kvs=>obtain⟨vs,p,y⟩:=r;exact⟨_,p⟩
 |rod kvs=>obtain⟨vs,o,p,y⟩:=r;exact⟨_,p⟩
 |dcx kvs=>obtain⟨es,p,_⟩:=r;exact⟨_,p⟩
 |rox kvs=>obtain⟨es,o,p,_⟩:=r;exact⟨_,p⟩
 |obj c fs=>obtain⟨C,dx,vs,m,p,y⟩:=r;exact⟨_,p⟩
 |tab P pos q=>obtain⟨_,ps,p,_⟩:=r;exact⟨_,p⟩
 |pin k c o w=>obtain⟨_,p,_⟩:=r;exact⟨_,p⟩
 |gone=>cases h
theorem iy.same(S:iy K mg μ st H)(e:uc H H'):iy K mg μ st H':=⟨S.nd,S.len,fun i c a h1 h2=>(S.at' i c a h1 h2).keep (ah _) (fS.same e) (e a) fun b q h=>e b _ h⟩
theorem iy.get(S:iy K mg μ st H){c:am}(h:st[n]?=some c):∃a,μ[n]?=some a/\lR K mg μ H c a:=by
 have hn:n<μ.length:=by rw[<- S.len];exact(ac.mp h).1
 exact⟨μ[n],ae hn,S.at' n c _ h (ae hn)⟩
theorem iy.push(S:iy K mg μ st H){p:Addr}{o:HO}{c:am}(hp:H p=none)(hc:lR K mg (μ++[p]) (ei H p o) c p):iy K mg (μ++[p]) (st++[c]) (ei H p o):=by
 have hs:uc H (ei H p o):=cy hp o
 have EV:μ <+: μ++[p]:=bb _ _
 have old:∀{i:Nat} {d:am} {a:Addr},i<st.length->(st++[c])[i]?=some d->(μ++[p])[i]?=some a->st[i]?=some d/\μ[i]?=some a:=fun{i d a} hi h1 h2=>by
  rw[aK hi]at h1
  rw[aK (by rw[<- S.len];exact hi)]at h2
  exact⟨h1,h2⟩
 have new:∀{i:Nat} {d:am} {a:Addr},¬ i<st.length->(st++[c])[i]?=some d->(μ++[p])[i]?=some a->i=st.length/\d=c/\a=p:=fun{i d a} hi h1 h2=>by
  have hi':i=st.length:=by
   have:=(ac.mp h1).1
   simp at this;omega
  subst hi'
  simp at h1
  rw[S.len,dE (aw _)]at h2
  simp at h2
  exact⟨rfl,h1.symm,h2.symm⟩
 refine⟨fun i j a ci cj h1 h2 r1 r2 m1 m2=>?_,by simp[S.len],fun i d a h1 h2=>?_⟩
 ·by_cases hi:i<st.length
  ·obtain⟨x1,x2⟩:=old hi h1 m1
   by_cases hj:j<st.length
   ·obtain⟨y1,y2⟩:=old hj h2 m2
    exact S.nd i j a ci cj x1 y1 r1 r2 x2 y2
   ·obtain⟨_,_,rfl⟩:=new hj h2 m2
    obtain⟨o',z⟩:=(S.at' i ci a x1 x2).ro_ne r1
    rw[hp]at z;cases z
  ·obtain⟨e1,_,rfl⟩:=new hi h1 m1
   by_cases hj:j<st.length
   ·obtain⟨y1,y2⟩:=old hj h2 m2
    obtain⟨o',z⟩:=(S.at' j cj a y1 y2).ro_ne r2
    rw[hp]at z;cases z
   ·obtain⟨e2,_,_⟩:=new hj h2 m2
    omega
 ·by_cases hi:i<st.length
  ·obtain⟨x1,x2⟩:=old hi h1 h2
   exact(S.at' i d a x1 x2).keep EV (fS.same hs) (hs a) fun b q h=>hs b _ h
  ·obtain⟨_,rfl,rfl⟩:=new hi h1 h2
   exact hc
theorem iy.setG(S:iy K mg μ st H){c c':am}{o o':HO}(hn:st[n]?=some c)(uT:c.isRo=false)(hm:μ[n]?=some a)(ha:H a=some o)(hf:∀q u,o≠.frz q u)(hg:∀q,o≠zP a q)(hx:d_ K H (ei H a o'))(W3:c'.isRo=false)(hr:lR K mg μ (ei H a o') c' a):iy K mg μ (st.set n c') (ei H a o'):=by
 have hl:n<st.length:=(ac.mp hn).1
 have back:∀{i:Nat} {d:am},(st.set n c')[i]?=some d->∃d',st[i]?=some d'/\(d'=d\/(i=n/\d=c')):=fun{i d} h=>by
  by_cases e:i=n
  ·subst e
   rw[bn hl]at h
   exact⟨_,hn,.inr ⟨rfl,(aF h).symm⟩⟩
  ·rw[bT (Ne.symm e)]at h
   exact⟨d,h,.inl rfl⟩
 refine⟨fun i j b ci cj h1 h2 r1 r2 m1 m2=>?_,by simp[S.len],fun i d b h1 h2=>?_⟩
 ·obtain⟨di,x1,y1⟩:=back h1
  obtain⟨dj,x2,y2⟩:=back h2
  refine S.nd i j b di dj x1 x2 ?_ ?_ m1 m2
  ·rcases y1 with rfl|⟨rfl,rfl⟩
   ·exact r1
   ·rw[hn]at x1;cases x1;exact uT
  ·rcases y2 with rfl|⟨rfl,rfl⟩
   ·exact r2
   ·rw[hn]at x2;cases x2;exact uT
 ·by_cases e:i=n
  ·subst e
   rw[bn hl]at h1
   cases h1
   rw[hm]at h2;cases h2
   exact hr
  ·rw[bT (Ne.symm e)]at h1
   have r:=S.at' i d b h1 h2
   by_cases hrd:d.isRo=true
   ·cases d with
    |ro zs=>
     obtain⟨us,p,q⟩:=r
     refine⟨us,?_,q.mono (ah _) hx⟩
     rcases p with⟨o2,p⟩|p
     ·exact .inl ⟨o2,by rw[cv (by rintro rfl;rw[ha]at p;cases p;exact hf _ _ rfl)];exact p⟩
     ·exact .inr p
    |lst _=>cases hrd
    |exc _=>cases hrd
    |dct _=>cases hrd
    |rod _=>cases hrd
    |dcx _=>cases hrd
    |rox _=>cases hrd
    |obj _ _=>cases hrd
    |tab _ _ _=>cases hrd
    |pin _ _ _ _=>cases hrd
    |gone=>trivial
   ·refine r.keep (ah _) hx (fun o ho=>?_) fun b' q h=>by rw[cv (by rintro rfl;rw[ha]at h;cases h;exact hg _ rfl)];exact h
    have hb:b≠a:=by
     rintro rfl
     exact e (S.nd i n b d _ h1 hn (by simpa using hrd) uT h2 hm)
    rw[cv hb];exact ho
theorem iy.set(S:iy K mg μ st H){Rk:List W}{A3:List V}(hn:st[n]?=some (.lst ws))(hm:μ[n]?=some a)(ha:H a=some (.lst vs))(hr:RelWs K μ H Rk A3):iy K mg μ (st.set n (.lst Rk)) (ei H a (.lst A3)):=by
 have hx:d_ K H (ei H a (.lst A3)):=fS.but iB ha
 have hl:n<st.length:=(ac.mp hn).1
 have back:∀{i:Nat} {d:am},(st.set n (.lst Rk))[i]?=some d->∃d',st[i]?=some d'/\(d'=d\/(i=n/\d=.lst Rk)):=fun{i d} h=>by
  by_cases e:i=n
  ·subst e
   rw[bn hl]at h
   exact⟨_,hn,.inr ⟨rfl,(aF h).symm⟩⟩
  ·rw[bT (Ne.symm e)]at h
   exact⟨d,h,.inl rfl⟩
 refine⟨fun i j b ci cj h1 h2 r1 r2 m1 m2=>?_,by simp[S.len],fun i d b h1 h2=>?_⟩
 ·obtain⟨di,x1,y1⟩:=back h1
  obtain⟨dj,x2,y2⟩:=back h2
  refine S.nd i j b di dj x1 x2 ?_ ?_ m1 m2
  ·rcases y1 with rfl|⟨rfl,rfl⟩
   ·exact r1
   ·rw[hn]at x1;cases x1;rfl
  ·rcases y2 with rfl|⟨rfl,rfl⟩
   ·exact r2
   ·rw[hn]at x2;cases x2;rfl
 ·by_cases e:i=n
  ·subst e
   rw[bn hl]at h1
   cases h1
   rw[hm]at h2;cases h2
   exact⟨A3,eN,hr.mono (ah _) hx⟩
  ·rw[bT (Ne.symm e)]at h1
   have r:=S.at' i d b h1 h2
   by_cases uT:d.isRo=true
   ·cases d with
    |ro zs=>
     obtain⟨us,p,q⟩:=r
     refine⟨us,?_,q.mono (ah _) hx⟩
     rcases p with⟨o',p⟩|p
     ·exact .inl ⟨o',by rw[cv (by rintro rfl;rw[ha]at p;cases p)];exact p⟩
     ·exact .inr p
    |lst _=>cases uT
    |exc _=>cases uT
    |dct _=>cases uT
    |rod _=>cases uT
    |dcx _=>cases uT
    |rox _=>cases uT
    |obj _ _=>cases uT
    |tab _ _ _=>cases uT
    |pin _ _ _ _=>cases uT
    |gone=>trivial
   ·refine r.keep (ah _) hx (fun o ho=>?_) fun b' q h=>by rw[cv (by rintro rfl;rw[ha]at h;cases h)];exact h
    have hb:b≠a:=by
     rintro rfl
     exact e (S.nd i n b d _ h1 hn (by simpa using uT) rfl h2 hm)
    rw[cv hb];exact ho
end
structure Rl(X:Cx)(μ:List Addr)(ρ:cw)(st:List am)(σ:St)(H:Hp):Prop where
 env:Paired (fun(o:Option W) (s:Option V)=>∀w,o=some w->∃v,s=some v/\bu X.K μ H w v) ρ σ
 sto:iy X.K X.mg μ st H
theorem xh(h:μ <+: μ')(x:d_ K H H'):∀{ρ:cw} {σ:St},Paired (fun(o:Option W) (s:Option V)=>∀w,o=some w->∃v,s=some v/\bu K μ H w v) ρ σ ->
  Paired (fun(o:Option W) (s:Option V)=>∀w,o=some w->∃v,s=some v/\bu K μ' H' w v) ρ σ
 |_,_,.nil=>.nil
 |_,_,.cons a t=>.cons (fun w e=>let ⟨v,p,q⟩:=a w e;⟨v,p,q.mono h x⟩) (xh h x t)
theorem Rl.to{ρ:cw}(r:Rl X μ ρ st σ H)(h:μ <+: μ')(x:d_ X.K H H')(s:iy X.K X.mg μ' bz H'):Rl X μ' ρ bz σ H':=⟨xh h x r.env,s⟩
theorem u8:∀{ρ:cw} {σ:St} {i:Nat} {w:W},Paired (fun(o:Option W) (s:Option V)=>∀w,o=some w->∃v,s=some v/\bu K μ H w v) ρ σ->ρ[i]?=some (some w)->∃v,σ[i]?=some (some v)/\bu K μ H w v
 |_,_,_,_,.nil,e=>by simp at e
 |_,_,0,w,.cons a t,e=>by simp at e;obtain⟨v,p,q⟩:=a w e;exact⟨v,by simp[p],q⟩
 |_,_,i+1,w,.cons a t,e=>by simpa using u8 (i:=i) t (by simpa using e)
theorem u9{w:W}{v:V}(r:bu K μ H w v):∀{ρ:cw} {σ:St} (i:Nat),Paired (fun(o:Option W) (s:Option V)=>∀w,o=some w->∃v,s=some v/\bu K μ H w v) ρ σ ->
  Paired (fun(o:Option W) (s:Option V)=>∀w,o=some w->∃v,s=some v/\bu K μ H w v) (ρ.set i (some w)) (σ.set i (some v))
 |_,_,_,.nil=>.nil
 |_,_,0,.cons a t=>.cons (fun w' e=>⟨v,rfl,by cases e;exact r⟩) t
 |_,_,i+1,.cons a t=>.cons a (u9 r i t)
structure xi(X:Cx)(ag:List (Addr×Obj))(σ:St)(c:Str)(H:Hp)(e:Value)(s:Shared):Prop where
 inv:bA X ag σ H s
 ex:∃x C t B,e=.ref x/\X.mg c=some C/\H x=none/\B.StaysIn s.heap/\B.get? x=none/\s.heap.FunFrames B X.stack /\
  (s.heap.TracedW B x C (.ref t)\/(∃oe vs,s.heap.get? x=some oe/\oe.cls=C/\oe.dict=none/\oe.data=.fields vs/\vs[1]?=some .none/\vs[0]?=some (.ref t))\/∃L,X.env.frame=some L/\s.heap.TracedAtW B x C (.ref t) (rawInt L)) /\
  ∀b o,s.heap.get? b=some o->(H b≠none\/((∃o0,X.s₀.heap.get? b=some o0)/\b∉X.fs/\b∉X.ex)\/((∃y,X.env.cells.lookup y=some b)/\b∉uC X.stack)\/∃p∈X.pn++ag,p.1=b)->B.get? b=some o
def XS(X:Cx)(c:Str)(μ:List Addr)(ρ:cw)(st:List am)(H:Hp):Prop:=
 ∀ag μ' σ' H' e s',μ <+: μ'->d_ X.K H H'->Rl X μ' ρ st σ' H'->xi X ag σ' c H' e s'->X.xe e s'
def XE(X:Cx)(c:Str)(μ:List Addr)(st:List am)(σ:St)(H:Hp):Prop:=
 ∀ag μ' H' e s',μ <+: μ'->d_ X.K H H'->iy X.K X.mg μ' st H'->xi X ag σ c H' e s'->X.xe e s'
theorem XE.mono{c:Str}{μ1:List Addr}{H1:Hp}(h:XE X c μ st σ H)(p:μ <+: μ1)(x:d_ X.K H H1):XE X c μ1 st σ H1:=fun ag μ' H' e s' a b=>h ag μ' H' e s' (p.trans a) (x.trans b)
theorem XS.mono{c:Str}{μ1:List Addr}{ρ:cw}{H1:Hp}(h:XS X c μ ρ st H)(p:μ <+: μ1)(x:d_ X.K H H1):XS X c μ1 ρ st H1:=fun ag μ' σ' H' e s' a b=>h ag μ' σ' H' e s' (p.trans a) (x.trans b)
theorem XS.toE{c:Str}{ρ:cw}{Vb:List am}(h:XS X c μ ρ st H)(r:Rl X μ ρ Vb σ H):XE X c μ st σ H:=fun ag μ' H' e s' a b s f=>h ag μ' σ H' e s' a b (r.to a b s) f
def RK(X:Cx)(rel:List Addr->Hp->α->β->Prop)(μ:List Addr)(σ:St)(H:Hp)(Q:β->Hp->Prop):R α->Prop
 |.ok a bz=>∀μ' b H',μ <+: μ'->d_ X.K H H'->iy X.K X.mg μ' bz H'->rel μ' H' a b->Q b H'
 |.ex c bz=>XE X c μ bz σ H
 |.bad=>False
theorem RK.mono{rel:List Addr->Hp->α->β->Prop}{μ1:List Addr}{H1:Hp}{Q:β->Hp->Prop}{r:R α}(h:RK X rel μ σ H Q r)(p:μ <+: μ1)(x:d_ X.K H H1):RK X rel μ1 σ H1 Q r:=by
 cases r with
 |ok a st=>exact fun μ' b H' a1 b1=>h μ' b H' (p.trans a1) (x.trans b1)
 |ex c st=>exact XE.mono h p x
 |bad=>exact h
def tG(X:Cx)(rel:List Addr->Hp->α->β->Prop)(f:cw->List am->R α)(σ:St)(H:Hp)(Q:β->Hp->Prop):Prop:=
 ∃μ ρ st,Rl X μ ρ st σ H/\RK X rel μ σ H Q (f ρ st)
abbrev sy(X:Cx):List Addr->Hp->W->V->Prop:=fun μ H w v=>bu X.K μ H w v
abbrev VL(X:Cx):List Addr->Hp->List W->List V->Prop:=fun μ H w v=>RelWs X.K μ H w v
abbrev OQ:List Addr->Hp->Bool->Bool->Prop:=fun _ _ a b=>a=b
abbrev tE(X:Cx)(f:FE):TE:=tG X (sy X) f
abbrev tT(X:Cx)(f:FT):TT:=tG X OQ f
abbrev Sj(X:Cx)(f:FA):TA:=tG X (VL X) f
theorem RK.bind{α' β':Type}{rel:List Addr->Hp->α->β->Prop}{Ur:List Addr->Hp->α'->β'->Prop}{ρ:cw}{r:R α}{k:α->List am->R α'}{Q:β'->Hp->Prop}{T:β->Hp->Prop}
  (h:RK X Ur μ σ H Q (r.bind k)) (l:Rl X μ ρ st σ H)
  (hk:∀μ' bz x v H',μ <+: μ'->d_ X.K H H'->Rl X μ' ρ bz σ H'->rel μ' H' x v->RK X Ur μ' σ H' Q (k x bz)->T v H'):RK X rel μ σ H T r:=by
 cases r with
 |ok a bz=>exact fun μ' b H' p x s q=>hk μ' bz a b H' p x (l.to p x s) q (RK.mono h p x)
 |ex c bz=>exact h
 |bad=>exact h
def SK(X:Cx)(μ:List Addr)(H:Hp)(D:zl):RS->Prop
 |.nx ρ st=>∀μ' σ' H',μ <+: μ'->d_ X.K H H'->Rl X μ' ρ st σ' H'->D.nx σ' H'
 |.bk ρ st=>∀μ' σ' H',μ <+: μ'->d_ X.K H H'->Rl X μ' ρ st σ' H'->D.bk σ' H'
 |.ct ρ st=>∀μ' σ' H',μ <+: μ'->d_ X.K H H'->Rl X μ' ρ st σ' H'->D.ct σ' H'
 |.rt w st=>∀μ' v H',μ <+: μ'->d_ X.K H H'->iy X.K X.mg μ' st H'->bu X.K μ' H' w v->D.rt v H'
 |.ex c ρ st=>XS X c μ ρ st H
 |.bad=>False
theorem SK.mono{μ1:List Addr}{H1:Hp}{D:zl}{r:RS}(h:SK X μ H D r)(p:μ <+: μ1)(x:d_ X.K H H1):SK X μ1 H1 D r:=by
 cases r with
 |nx ρ st=>exact fun μ' b H' a1 b1=>h μ' b H' (p.trans a1) (x.trans b1)
 |bk ρ st=>exact fun μ' b H' a1 b1=>h μ' b H' (p.trans a1) (x.trans b1)
 |ct ρ st=>exact fun μ' b H' a1 b1=>h μ' b H' (p.trans a1) (x.trans b1)
 |rt w st=>exact fun μ' b H' a1 b1=>h μ' b H' (p.trans a1) (x.trans b1)
 |ex c ρ st=>exact XS.mono h p x
 |bad=>exact h
def VM(X:Cx)(g:FS):TS:=fun D σ H=>∃μ ρ st,Rl X μ ρ st σ H/\SK X μ H D (g ρ st)
structure SE(X:Cx)(e:Expr)(f:FE):Prop where
 h:PE X e (tE X f)
structure ST(X:Cx)(e:Expr)(f:FT):Prop where
 h:PT X e (tT X f)
structure SW(X:Cx)(e:Expr)(f:FT):Prop where
 h:PW X e (tT X f)
structure SA(X:Cx)(es:List Expr)(f:FA):Prop where
 h:PA X es (Sj X f)
structure SS(X:Cx)(s:Stmt)(g:FS):Prop where
 h:PS X s (VM X g)
structure SB(X:Cx)(s:List Stmt)(g:FS):Prop where
 h:D3 X s (VM X g)
theorem PE.imp{t t':TE}(h:PE X e t)(i:∀σ H Q,t' σ H Q->t σ H Q):PE X e t':=fun ag s σ H Q I q=>h ag s σ H Q I (i _ _ _ q)
theorem PT.imp{t t':TT}(h:PT X e t)(i:∀σ H Q,t' σ H Q->t σ H Q):PT X e t':=fun ag s σ H Q I q=>h ag s σ H Q I (i _ _ _ q)
theorem PW.imp{t t':TT}(h:PW X e t)(i:∀σ H Q,t' σ H Q->t σ H Q):PW X e t':=fun wh ag s σ H Q I q=>h wh ag s σ H Q I (i _ _ _ q)
theorem PA.imp{e:List Expr}{t t':TA}(h:PA X e t)(i:∀σ H Q,t' σ H Q->t σ H Q):PA X e t':=fun pos ag s σ H Q I q=>h pos ag s σ H Q I (i _ _ _ q)
theorem PS.imp{e:Stmt}{t t':TS}(h:PS X e t)(i:∀D σ H,t' D σ H->t D σ H):PS X e t':=fun ag s σ H D I q=>h ag s σ H D I (i _ _ _ q)
theorem D3.imp{e:List Stmt}{t t':TS}(h:D3 X e t)(i:∀D σ H,t' D σ H->t D σ H):D3 X e t':=fun ag s σ H D I q=>h ag s σ H D I (i _ _ _ q)
section
variable{a b:Expr}{x:Str}{gc:List Expr}{fa fb fc fe:FE}{ft fu:FT}{fs:FA}
def af(i:Nat):FE:=fun ρ st=>match ρ[i]? with
 |some (some w)=>.ok w st
 |_=>.bad
theorem F1(i:Nat){pos:Pos}(hN:X.N[i]?=some x:=by rfl)(hv:Rs X.env.scope x:=by first|exact Or.inl rfl|exact Or.inr (Or.inl rfl)|exact Or.inr (Or.inr rfl))(hd:(x==("__debug__":Str))=false:=by decide)
  (E2:(x==("__classdict__":Str))=false:=by decide):SE X (.Name x pos) (af i):=⟨(pv i hN hv hd E2).imp fun σ H Q h=>by
 obtain⟨μ,ρ,st,r,h⟩:=h
 unfold af at h
 cases e:ρ[i]? with
 |none=>rw[e]at h;exact h.elim
 |some ow=>
  cases ow with
  |none=>rw[e]at h;exact h.elim
  |some w=>
   rw[e]at h
   obtain⟨v,e1,e2⟩:=u8 r.env e
   exact⟨v,e1,h μ v H (ah _) d_.refl r.sto e2⟩⟩
def eC(w:W):FE:=fun _ st=>.ok w st
abbrev eI(n:Int):FE:=eC (.int n)
theorem Sk{w:W}{v:V}(hc:PE X e (tC v))(hr:∀μ H,bu X.K μ H w v):SE X e (eC w):=⟨hc.imp fun σ H Q h=>by
 obtain⟨μ,ρ,st,r,h⟩:=h
 exact h μ v H (ah _) d_.refl r.sto (hr _ _)⟩
theorem Sl{i:Int}:SE X (.Constant (.int i) j pos) (eC (.int i)):=Sk NU fun _ _=>.int
theorem VN{k:Bool}:SE X (.Constant (.bool k) j pos) (eC (.bl k)):=Sk Ru fun _ _=>.bl
theorem Sm:SE X (.Constant .none j pos) (eC .non):=Sk NV fun _ _=>.non
theorem LX(h:x=tx l:=by decide +kernel):SE X (.Constant (.str x) j pos) (eC (.str l)):=Sk NW fun _ _=>by rw[h];exact .str
theorem Sn{w:W}(h:∃u v,X.mg x=some u/\cD v u/\∀μ H,bu X.K μ H w v)(hg:Gl X x:=by rfl)(hd:(x==("__debug__":Str))=false:=by decide):SE X (.Name x pos) (eC w):=by
 obtain⟨u,v,a,b,c⟩:=h
 exact Sk (R6 ⟨u,a,b⟩ hg hd) c
def e2(f:W->W->List am->R W)(fa fb:FE):FE:=fun ρ st=>(fa ρ st).bind fun x st=>(fb ρ st).bind fun y st=>f x y st
def E3(X:Cx)(μ:List Addr)(H:Hp)(Q:VK):R W->Prop
 |.ok w bz=>∀μ' v H',μ <+: μ'->d_ X.K H H'->iy X.K X.mg μ' bz H'->bu X.K μ' H' w v->Q v H'
 |_=>False
def ue:R α->Prop
 |.ex _ _=>False
 |_=>True
def VO(X:Cx)(f:W->W->List am->R W):R2:=fun x y H Q=>∃μ st wx wy,iy X.K X.mg μ st H/\bu X.K μ H wx x/\bu X.K μ H wy y/\E3 X μ H Q (f wx wy st)
structure u_(X:Cx)(g:Value->Value->Sem Value)(f:W->W->List am->R W):Prop where
 h:nF X g (VO X f)
 n:∀x y st,ue (f x y st)
theorem sB{Q:VK}{r:R W}(h:RK X (sy X) μ σ H Q r)(n:ue r):E3 X μ H Q r:=by
 cases r with
 |ok a st=>exact h
 |ex c st=>exact n.elim
 |bad=>exact h
theorem CT{f:W->W->List am->R W}{Q:VK}(n:∀x y st,ue (f x y st))(h:tE X (e2 f fa fb) σ H Q):RF (VO X f) (tE X fa) (tE X fb) σ H Q:=by
 obtain⟨μ,ρ,st,l,h⟩:=h
 refine⟨μ,ρ,st,l,RK.bind h l fun μ1 st1 x v H1 p1 x1 l1 q1 h1=>⟨μ1,ρ,st1,l1,RK.bind h1 l1 fun μ2 cV y u H2 p2 x2 l2 q2 h2=>?_⟩⟩
 exact⟨μ2,cV,x,y,l2.sto,q1.mono p2 x2,q2,sB h2 (n _ _ _)⟩
theorem VP{op:Operator}{f:W->W->List am->R W}(ho:u_ X (binaryOp op) f)(ha:SE X a fa)(hb:SE X b fb):SE X (.BinOp a op b pos) (e2 f fa fb):=⟨(RG ho.h ha.h hb.h).imp fun _ _ _ h=>CT ho.n h⟩
theorem So{f:W->W->List am->R W}(ho:u_ X (compareOp op) f)(ha:SE X a fa)(hb:SE X b fb)(hm:behindInMarks op b=false:=by first|exact Fe _|rfl):SE X (.Compare a [op] [b] pos) (e2 f fa fb):=⟨(J1 ho.h ha.h hb.h hm).imp fun _ _ _ h=>CT ho.n h⟩
def gn(fa:FE):FT:=fun ρ st=>(fa ρ st).bind fun x st=>match x with
 |.bl k=>.ok k st
 |_=>.bad
theorem qB{Q:Bool->Hp->Prop}(h:tT X (gn fa) σ H Q):tE X fa σ H fun x H1=>∃k,x=.bl k/\Q k H1:=by
 obtain⟨μ,ρ,st,l,h⟩:=h
 refine⟨μ,ρ,st,l,RK.bind h l fun μ1 st1 x v H1 p1 x1 l1 q1 h1=>?_⟩
 cases x with
 |bl k=>exact⟨k,q1.blE,h1 μ1 k H1 (ah _) d_.refl l1.sto rfl⟩
 |_=>exact h1.elim
theorem F2{f:W->W->List am->R W}(ho:u_ X (compareOp op) f)(ha:SE X a fa)(hb:SE X b fb)(hm:behindInMarks op b=false:=by first|exact Fe _|rfl):ST X (.Compare a [op] [b] pos) (gn (e2 f fa fb)):=⟨(J2 ho.h ha.h hb.h hm).imp fun σ H Q h=>by
 have h':tE X (e2 f fa fb) σ H fun x H1=>∃k,x=.bl k/\Q k H1:=qB h
 exact CT ho.n h'⟩
theorem OR(h:SE X e fe)(he:∀v9,isTrue e X.env v9=(do let v <- v9;standAt e.pos;holding [v] (truthy v)):=by intro _;rfl):ST X e (gn fe):=⟨(NY h.h he).imp fun σ H Q h=>qB h⟩
def LY(t u:FT):FT:=fun ρ st=>(t ρ st).bind fun k st=>if k then u ρ st else .ok false st
def JE(t u:FT):FT:=fun ρ st=>(t ρ st).bind fun k st=>if k then .ok true st else u ρ st
def JF(t:FT):FT:=fun ρ st=>(t ρ st).bind fun k st=>.ok (!k) st
theorem KC(ha:ST X a ft):SW X (.BoolOp .And [a] pos) ft:=⟨JQ ha.h⟩
theorem OS(ha:ST X a ft):SW X (.BoolOp .Or [a] pos) ft:=⟨NZ ha.h⟩
theorem F3(ha:ST X a ft)(hb:SW X (.BoolOp .And (b::gc) pos) fu):SW X (.BoolOp .And (a::b::gc) pos) (LY ft fu):=⟨(N0 ha.h hb.h).imp fun σ H Q h=>by
 obtain⟨μ,ρ,st,l,h⟩:=h
 refine⟨μ,ρ,st,l,RK.bind h l fun μ1 st1 x v H1 p1 x1 l1 q1 h1=>?_⟩
 cases q1
 cases x with
 |true=>exact⟨μ1,ρ,st1,l1,h1⟩
 |false=>exact h1 μ1 false H1 (ah _) d_.refl l1.sto rfl⟩
theorem LZ(ha:ST X a ft)(hb:SW X (.BoolOp .Or (b::gc) pos) fu):SW X (.BoolOp .Or (a::b::gc) pos) (JE ft fu):=⟨(Rw ha.h hb.h).imp fun σ H Q h=>by
 obtain⟨μ,ρ,st,l,h⟩:=h
 refine⟨μ,ρ,st,l,RK.bind h l fun μ1 st1 x v H1 p1 x1 l1 q1 h1=>?_⟩
 cases q1
 cases x with
 |false=>exact⟨μ1,ρ,st1,l1,h1⟩
 |true=>exact h1 μ1 true H1 (ah _) d_.refl l1.sto rfl⟩
theorem Sq(h:SW X e ft):ST X e ft:=⟨h.h.pt⟩
theorem OT(ha:ST X a ft):ST X (.UnaryOp .Not a pos) (JF ft):=⟨(N1 ha.h).imp fun σ H Q h=>by
 obtain⟨μ,ρ,st,l,h⟩:=h
 refine⟨μ,ρ,st,l,RK.bind h l fun μ1 st1 x v H1 p1 x1 l1 q1 h1=>?_⟩
 cases q1
 exact h1 μ1 _ H1 (ah _) d_.refl l1.sto rfl⟩
def BF(fa fb:FE):FE:=fun ρ st=>(fa ρ st).bind fun x st=>match x with
 |.bl true=>fb ρ st
 |.bl false=>.ok (.bl false) st
 |_=>.bad
def KD(fa:FE):FE:=fun ρ st=>(fa ρ st).bind fun x st=>match x with
 |.bl k=>.ok (.bl (!k)) st
 |_=>.bad
theorem Ss{op:BoolOp}(h:SE X a fa):SE X (.BoolOp op [a] pos) fa:=⟨N2 h.h⟩
theorem Su(ha:SE X a fa)(hb:SE X (.BoolOp .And (b::gc) pos) fb):SE X (.BoolOp .And (a::b::gc) pos) (BF fa fb):=⟨(N3 ha.h hb.h).imp fun σ H Q h=>by
 obtain⟨μ,ρ,st,l,h⟩:=h
 refine⟨μ,ρ,st,l,RK.bind h l fun μ1 st1 x v H1 p1 x1 l1 q1 h1=>?_⟩
 cases x with
 |bl k=>
  refine⟨k,q1.blE,?_⟩
  cases k with
  |true=>exact⟨μ1,ρ,st1,l1,h1⟩
  |false=>exact h1 μ1 _ H1 (ah _) d_.refl l1.sto .bl
 |_=>exact h1.elim⟩
theorem Sv(ha:SE X a fa):SE X (.UnaryOp .Not a pos) (KD fa):=⟨(N4 ha.h).imp fun σ H Q h=>by
 obtain⟨μ,ρ,st,l,h⟩:=h
 refine⟨μ,ρ,st,l,RK.bind h l fun μ1 st1 x v H1 p1 x1 l1 q1 h1=>?_⟩
 cases x with
 |bl k=>exact⟨k,q1.blE,h1 μ1 _ H1 (ah _) d_.refl l1.sto .bl⟩
 |_=>exact h1.elim⟩
def Bc(t:FT)(fa fb:FE):FE:=fun ρ st=>(t ρ st).bind fun k st=>if k then fa ρ st else fb ρ st
theorem VQ(hc:ST X c ft)(ha:SE X a fa)(hb:SE X b fb):SE X (.IfExp c a b pos) (Bc ft fa fb):=⟨(E7 hc.h ha.h hb.h).imp fun σ H Q h=>by
 obtain⟨μ,ρ,st,l,h⟩:=h
 refine⟨μ,ρ,st,l,RK.bind h l fun μ1 st1 x v H1 p1 x1 l1 q1 h1=>?_⟩
 cases q1
 cases x with
 |false=>exact⟨μ1,ρ,st1,l1,h1⟩
 |true=>exact⟨μ1,ρ,st1,l1,h1⟩⟩
noncomputable def W.isNon:W->Bool
 |.non=>true
 |_=>false
def vc(fa:FE):FE:=fun ρ st=>(fa ρ st).bind fun x st=>.ok (.bl x.isNon) st
def oB(fa:FE):FE:=fun ρ st=>(fa ρ st).bind fun x st=>.ok (.bl (!x.isNon)) st
theorem L0{w:W}{v:V}(r:bu X.K μ H w v):decide (v=.non)=w.isNon:=by
 cases w with
 |non=>rw[r.nonE];rfl
 |bl b=>rw[r.blE];rfl
 |int b=>rw[r.intE];rfl
 |str b=>rw[r.strE];rfl
 |tup b=>obtain⟨p,vs,rfl,_⟩:=r.tupE;rfl
 |loc b=>obtain⟨p,_,rfl⟩:=r.locE;rfl
theorem L1{Q:VK}(h:tE X (vc fa) σ H Q):Rv (tE X fa) σ H Q:=by
 obtain⟨μ,ρ,st,l,h⟩:=h
 refine⟨μ,ρ,st,l,RK.bind h l fun μ1 st1 x v H1 p1 x1 l1 q1 h1=>?_⟩
 show Q (.bl (decide (v=.non))) H1
 rw[L0 q1]
 exact h1 μ1 _ H1 (ah _) d_.refl l1.sto .bl
theorem OU{Q:VK}(h:tE X (oB fa) σ H Q):LN (tE X fa) σ H Q:=by
 obtain⟨μ,ρ,st,l,h⟩:=h
 refine⟨μ,ρ,st,l,RK.bind h l fun μ1 st1 x v H1 p1 x1 l1 q1 h1=>?_⟩
 show Q (.bl (!decide (v=.non))) H1
 rw[L0 q1]
 exact h1 μ1 _ H1 (ah _) d_.refl l1.sto .bl
theorem Sw(ha:SE X a fa):SE X (.Compare a [.Is] [.Constant .none j h_] pos) (vc fa):=⟨(NX (E5 ha.h)).imp fun _ _ _ h=>L1 h⟩
theorem OV(ha:SE X a fa):ST X (.Compare a [.Is] [.Constant .none j h_] pos) (gn (vc fa)):=⟨(E6 (E5 ha.h)).imp fun _ _ _ h=>L1 (qB h)⟩
theorem KF(ha:SE X a fa):ST X (.Compare a [.IsNot] [.Constant .none j h_] pos) (gn (oB fa)):=⟨(E6 (JP ha.h)).imp fun _ _ _ h=>OU (qB h)⟩
def aB:FA:=fun _ st=>.ok [] st
def ak(fa:FE)(fs:FA):FA:=fun ρ st=>(fa ρ st).bind fun x st=>(fs ρ st).bind fun xs st=>.ok (x::xs) st
theorem BG:SA X [] aB:=⟨Fh.imp fun σ H Q h=>by
 obtain⟨μ,ρ,st,l,h⟩:=h
 exact h μ [] H (ah _) d_.refl l.sto .nilI⟩
theorem yc(ha:SE X e fe)(hr:SA X es fs)(hs:starEach (e::es) X.env=(false,eval e X.env)::starEach es X.env:=by rfl):SA X (e::es) (ak fe fs):=⟨(xU ha.h hr.h hs).imp fun σ H Q h=>by
 obtain⟨μ,ρ,st,l,h⟩:=h
 refine⟨μ,ρ,st,l,RK.bind h l fun μ1 st1 x v H1 p1 x1 l1 q1 h1=>⟨μ1,ρ,st1,l1,RK.bind h1 l1 fun μ2 cV xs vs H2 p2 x2 l2 q2 h2=>?_⟩⟩
 exact h2 μ2 _ H2 (ah _) d_.refl l2.sto (.consI (q1.mono p2 x2) q2)⟩
def Sx(zs:List (List Nat)):FA:=fun _ st=>.ok (zs.map W.str) st
def qC(ws:List W)(st:List am):R W:=if ws.length<=mj then .ok (.tup ws) st else .bad
def kR(ws:List W)(st:List am):R W:=if ws.length<=mj then .ok (.loc st.length) (st++[.lst ws])else .bad
def sC(fs:FA):FE:=fun ρ st=>(fs ρ st).bind fun ws st=>qC ws st
def j5(fs:FA):FE:=fun ρ st=>(fs ρ st).bind fun ws st=>kR ws st
theorem iy.newLst(S:iy K mg μ st H){p:Addr}(hp:H p=none)(r:RelWs K μ H ws vs):iy K mg (μ++[p]) (st++[.lst ws]) (ei H p (.lst vs)):=
 S.push hp ⟨vs,eN,r.mono (bb _ _) (fS.same (cy hp _))⟩
theorem oE(S:iy K mg μ st H){p:Addr}:bu K (μ++[p]) H' (.loc st.length) (.ref p):=.locI (by rw[S.len];simp)
theorem F4{Q:VK}(S:iy X.K X.mg μ st H)(q:RelWs X.K μ H ws vs)(h:RK X (sy X) μ σ H Q (qC ws st)):vs.length<=sizeLine/\∀p H2,H p=none->H2=ei H p (.tup vs)->Q (.ref p) H2:=by
 unfold qC at h
 by_cases hz:ws.length<=mj
 ·rw[au hz]at h
  refine⟨by rw[<- q.len];exact mT hz,fun p H2 hp e=>?_⟩
  subst e
  have x:=fS.same (K:=X.K) (cy hp (.tup vs))
  exact h μ _ _ (ah _) x (S.same (cy hp _)) (.tupI fS.new (q.mono (ah _) x))
 ·rw[ax hz]at h;exact h.elim
theorem qD{σ:St}{Q:VK}(S:iy X.K X.mg μ st H)(q:RelWs X.K μ H ws vs)(h:RK X (sy X) μ σ H Q (kR ws st)):vs.length<=sizeLine/\∀p H2,H p=none->H2=ei H p (.lst vs)->Q (.ref p) H2:=by
 unfold kR at h
 by_cases hz:ws.length<=mj
 ·rw[au hz]at h
  refine⟨by rw[<- q.len];exact mT hz,fun p H2 hp e=>?_⟩
  subst e
  exact h (μ++[p]) _ _ (bb _ _) (fS.same (cy hp _)) (S.newLst hp q) (oE S)
 ·rw[ax hz]at h;exact h.elim
theorem Sy{k:Nat}(h:SA X es fs):SE X (.Tuple es k pos) (sC fs):=⟨(Km h.h).imp fun σ H Q h=>by
 obtain⟨μ,ρ,st,l,h⟩:=h
 exact⟨μ,ρ,st,l,RK.bind h l fun μ1 st1 x v H1 p1 x1 l1 q1 h1=>F4 l1.sto q1 h1⟩⟩
theorem Sz(h:SA X es fs):SE X (.List es pos) (j5 fs):=⟨(Ko h.h).imp fun σ H Q h=>by
 obtain⟨μ,ρ,st,l,h⟩:=h
 exact⟨μ,ρ,st,l,RK.bind h l fun μ1 st1 x v H1 p1 x1 l1 q1 h1=>qD l1.sto q1 h1⟩⟩
end
section
theorem lS{Q:VK}{i:Int}(S:iy X.K X.mg μ st H)(h:E3 X μ H Q (.ok (.int i) st)):Q (.int i) H:=h μ _ H (ah _) d_.refl S .int
theorem mU{Q:VK}{i:Bool}(S:iy X.K X.mg μ st H)(h:E3 X μ H Q (.ok (.bl i) st)):Q (.bl i) H:=h μ _ H (ah _) d_.refl S .bl
theorem qE{Q:VK}{i:List Nat}(S:iy X.K X.mg μ st H)(h:E3 X μ H Q (.ok (.str i) st)):Q (.str (tx i)) H:=h μ _ H (ah _) d_.refl S .str
theorem F5{Q:VK}{r:R W}(h:E3 X μ H Q r):RK X (sy X) μ σ H Q r:=by
 cases r with
 |ok a st=>exact h
 |ex c st=>exact h.elim
 |bad=>exact h
noncomputable def Ew(C:Int->Int->Prop)[∀i j,Decidable (C i j)](f:Int->Int->Int):W->W->List am->R W
 |.int i,.int j,st=>if C i j then .ok (.int (f i j)) st else .bad
 |_,_,_=>.bad
theorem zR{C C':Int->Int->Prop}[∀i j,Decidable (C' i j)]{f:Int->Int->Int}(h:nF X g (rI C fun i j=>.int (f i j)))(hC:∀i j,C' i j->C i j):u_ X g (Ew C' f):=⟨h.imp fun x y H Q zq=>by
 obtain⟨μ,st,wx,wy,S,rx,ry,q⟩:=zq
 cases wx with
 |int i=>
  cases wy with
  |int j=>
   simp only[Ew]at q
   by_cases c:C' i j
   ·rw[au c]at q;exact⟨i,j,rx.intE,ry.intE,hC i j c,lS S q⟩
   ·rw[ax c]at q;exact q.elim
  |_=>exact q.elim
 |_=>cases wy<;>exact q.elim,fun x y st=>by
 unfold Ew
 split
 ·split<;>trivial
 ·trivial⟩
noncomputable def Ex(f:Int->Int->Bool):W->W->List am->R W
 |.int i,.int j,st=>.ok (.bl (f i j)) st
 |_,_,_=>.bad
theorem F6{f:Int->Int->Bool}(h:nF X g (JC fun i j=>.bl (f i j))):u_ X g (Ex f):=⟨h.imp fun x y H Q zq=>by
 obtain⟨μ,st,wx,wy,S,rx,ry,q⟩:=zq
 cases wx with
 |int i=>
  cases wy with
  |int j=>exact⟨i,j,rx.intE,ry.intE,mU S q⟩
  |_=>exact q.elim
 |_=>cases wy<;>exact q.elim,fun x y st=>by
 unfold Ex
 split<;>trivial⟩
abbrev OW(i j:Int):Prop:=(-(2^64)<i/\i<2^64)\/(-(2^64)<j/\j<2^64)
abbrev kS:=Ew (fun _ _=>True) fun i j=>i-j
abbrev SC:=Ew OW fun i j=>i*j
abbrev jw:=Ew (fun _ j=>0<j) fun i j=>i%j
abbrev tP:=Ew (fun _ j=>0<j/\j<1073741824) fun i j=>i/j
abbrev SD:=Ew (fun i j=>0<=j/\j<=1000000/\i.natAbs<2^64) fun i j=>i^j.toNat
abbrev sD:=Ew (fun i j=>0<=j/\j<=1000000/\i.natAbs<2^64) fun i j=>i*2^j.toNat
abbrev wE:=Ew (fun _ j=>0<=j) fun i j=>i/2^j.toNat
abbrev vd:=Ew (fun _ _=>True) fun i j=>Builtin.bitAnd i j
theorem F7{f:Int->Int->V}(h:nF X g (JC f)):nF X g (rI (fun _ _=>True) f):=h.imp fun _ _ _ _ ⟨i,j,a,b,_,q⟩=>⟨i,j,a,b,q⟩
theorem SF:u_ X (binaryOp .Sub) kS:=zR (F7 Og) fun _ _ _=>trivial
theorem SH:u_ X (binaryOp .Mult) SC:=zR Oh fun _ _ h=>h
theorem SJ:u_ X (binaryOp .Mod) jw:=zR Oi fun _ _ h=>h
theorem OX:u_ X (binaryOp .FloorDiv) tP:=zR J0 fun _ _ h=>h
theorem SL:u_ X (binaryOp .Pow) SD:=zR Oj fun _ _ h=>h
theorem SM:u_ X (binaryOp .LShift) sD:=zR Fc fun _ _ h=>h
theorem SN:u_ X (binaryOp .RShift) wE:=zR Ol fun _ _ h=>h
theorem OY:u_ X (binaryOp .BitAnd) vd:=zR (F7 Om) fun _ _ _=>trivial
def eE:W->W->List am->R W
 |.int i,.int j,st=>.ok (.int (i+j)) st
 |.str a,.str b,st=>if a.length+b.length<=mj then .ok (.str (a++b)) st else .bad
 |.tup a,.tup b,st=>qC (a++b) st
 |.loc n,.loc m,st=>match st[n]?,st[m]? with
  |some (.lst a),some (.lst b)=>kR (a++b) st
  |_,_=>.bad
 |_,_,_=>.bad
theorem KG(ws:List W)(st:List am):ue (qC ws st):=by unfold qC;split<;>trivial
theorem CU(ws:List W)(st:List am):ue (kR ws st):=by unfold kR;split<;>trivial
theorem SQ:u_ X (binaryOp .Add) eE:=⟨fun ag s σ H x y v u Q I rv ru zq=>by
 obtain⟨μ,st,wx,wy,S,rx,ry,q⟩:=zq
 cases wx with
 |int i=>
  cases wy with
  |int j=>exact Of ag s σ H x y v u Q I rv ru ⟨i,j,rx.intE,ry.intE,lS S q⟩
  |_=>exact q.elim
 |str a=>
  cases wy with
  |str b=>
   simp only[eE]at q
   by_cases c:a.length+b.length<=mj
   ·rw[au c]at q
    exact Bh ag s σ H x y v u Q I rv ru ⟨_,_,rx.strE,ry.strE,by rw[iH,iH];exact mT c,by rw[Bv];exact qE S q⟩
   ·rw[ax c]at q;exact q.elim
  |_=>exact q.elim
 |tup a=>
  cases wy with
  |tup b=>
   obtain⟨p1,vs1,rfl,h1,r1⟩:=rx.tupE
   obtain⟨p2,vs2,rfl,h2,r2⟩:=ry.tupE
   have q':E3 X μ H Q (qC (a++b) st):=q
   unfold qC at q'
   by_cases c:(a++b).length<=mj
   ·rw[au c]at q'
    refine OO.h ag s σ H _ _ v u Q I rv ru ⟨p1,p2,vs1,vs2,rfl,rfl,h1,h2,by rw[<- r1.len,<- r2.len,<- aE];exact mT c,fun p H2 e t=>?_⟩
    exact q' μ _ _ (ah _) (fS.same e) (S.same e) (.tupI t ((r1.app r2).mono (ah _) (fS.same e)))
   ·rw[ax c]at q';exact q'.elim
  |_=>exact q.elim
 |loc n=>
  cases wy with
  |loc m=>
   simp only[eE]at q
   cases e1:st[n]? with
   |none=>rw[e1]at q;exact q.elim
   |some c1=>
    cases e2:st[m]? with
    |none=>rw[e1,e2]at q;cases c1<;>exact q.elim
    |some c2=>
     cases c1 with
     |lst a=>
      cases c2 with
      |lst b=>
       rw[e1,e2]at q
       obtain⟨a1,g1,vs1,k1,r1⟩:=S.get e1
       obtain⟨a2,g2,vs2,k2,r2⟩:=S.get e2
       obtain⟨b1,f1,rfl⟩:=rx.locE
       obtain⟨b2,f2,rfl⟩:=ry.locE
       rw[g1]at f1;cases f1
       rw[g2]at f2;cases f2
       obtain⟨hz,qq⟩:=qD (σ:=σ) S (r1.app r2) (F5 q)
       exact Kt ag s σ H _ _ v u Q I rv ru ⟨a1,a2,vs1,vs2,rfl,rfl,k1,k2,by rw[<- aE];exact hz,qq⟩
      |_=>rw[e1,e2]at q;exact q.elim
     |_=>rw[e1,e2]at q;exact q.elim
  |_=>exact q.elim
 |_=>cases wy<;>exact q.elim,fun x y st=>by
 unfold eE
 split
 ·trivial
 ·split<;>trivial
 ·exact KG _ _
 ·split
  ·exact CU _ _
  ·trivial
 ·trivial⟩
abbrev OZ:=Ex fun i j=>decide (i<j)
abbrev Ey:=Ex fun i j=>decide (j<i)
abbrev Rg:=Ex fun i j=>decide (j<=i)
theorem w_lt:u_ X (compareOp .Lt) OZ:=F6 RI
theorem O1:u_ X (compareOp .Gt) Ey:=F6 RJ
theorem SR:u_ X (compareOp .GtE) Rg:=F6 RL
end
mutual
noncomputable def ku:W->W->Option Bool
 |.non,.non=>some true
 |.bl a,.bl b=>some (a==b)
 |.bl a,.int b=>some ((if a then 1 else 0)==b)
 |.int a,.bl b=>some (a==(if b then 1 else 0))
 |.int a,.int b=>some (a==b)
 |.str a,.str b=>some (a==b)
 |.tup a,.tup b=>eqWs a b
 |.loc _,_=>none
 |.non,.loc _=>none
 |.bl _,.loc _=>none
 |.int _,.loc _=>none
 |.str _,.loc _=>none
 |.tup _,.loc _=>none
 |.non,.bl _=>some false
 |.non,.int _=>some false
 |.non,.str _=>some false
 |.non,.tup _=>some false
 |.bl _,.non=>some false
 |.bl _,.str _=>some false
 |.bl _,.tup _=>some false
 |.int _,.non=>some false
 |.int _,.str _=>some false
 |.int _,.tup _=>some false
 |.str _,.non=>some false
 |.str _,.bl _=>some false
 |.str _,.int _=>some false
 |.str _,.tup _=>some false
 |.tup _,.non=>some false
 |.tup _,.bl _=>some false
 |.tup _,.int _=>some false
 |.tup _,.str _=>some false
noncomputable def eqWs:List W->List W->Option Bool
 |[],[]=>some true
 |[],_::_=>some false
 |_::_,[]=>some false
 |x::xs,y::ys=>match ku x y,eqWs xs ys with
  |some a,some b=>some (a&&b)
  |_,_=>none
end
mutual
noncomputable def W.dep:W->Nat
 |.tup ws=>depWs ws+1
 |_=>0
noncomputable def depWs:List W->Nat
 |[]=>0
 |w::ws=>max w.dep (depWs ws)
end
theorem p_:∀(xs ys:List W) (b:Bool),eqWs xs ys=some b->∃e:Nat->Bool,(∀j (h1:j<xs.length) (h2:j<ys.length),ku xs[j] ys[j]=some (e j))/\((List.range (min xs.length ys.length)).all e&&xs.length==ys.length)=b
 |[],[],b,h=>by unfold eqWs at h;cases h;exact⟨fun _=>true,fun j h1=>absurd h1 (kh _),rfl⟩
 |[],y::ys,b,h=>by unfold eqWs at h;cases h;exact⟨fun _=>true,fun j h1=>absurd h1 (kh _),by simp⟩
 |x::xs,[],b,h=>by unfold eqWs at h;cases h;exact⟨fun _=>true,fun j _ h1=>absurd h1 (kh _),by simp⟩
 |x::xs,y::ys,b,h=>by
  unfold eqWs at h
  cases e1:ku x y with
  |none=>rw[e1]at h;simp at h
  |some a=>
   cases e2:eqWs xs ys with
   |none=>rw[e1,e2]at h;simp at h
   |some c=>
    rw[e1,e2]at h
    simp at h
    obtain⟨e,he,hb⟩:=p_ xs ys c e2
    refine⟨fun j=>match j with|0=>a|j+1=>e j,fun j h1 h2=>?_,?_⟩
    ·cases j with
     |zero=>exact e1
     |succ j=>exact he j (ju h1) (ju h2)
    ·have m:min (x::xs).length (y::ys).length=min xs.length ys.length+1:=by simp only[br];omega
     rw[m,eV,List.all_cons,List.all_map,<- h,<- hb]
     simp[eh,Bool.and_assoc]
theorem CV{a b:W}{x:V}{k:Bool}(hn:a.dep<=0)(ra:bu X.K μ H a x)(rb:bu X.K μ H b x)(he:ku a b=some k):k=true:=by
 cases a with
 |tup i=>unfold W.dep at hn;omega
 |non=>cases ra.nonE;cases b<;>first|(unfold ku at he;cases he;rfl)|cases rb.blE|cases rb.intE|cases rb.strE|(obtain⟨_,_,z,_⟩:=rb.tupE;cases z)|(unfold ku at he;cases he)
 |bl i=>cases ra.blE;cases b<;>first|(cases rb.blE;unfold ku at he;simp at he;exact he)|cases rb.nonE|cases rb.intE|cases rb.strE|(obtain⟨_,_,z,_⟩:=rb.tupE;cases z)|(unfold ku at he;cases he)
 |int i=>cases ra.intE;cases b<;>first|(cases rb.intE;unfold ku at he;simp at he;exact he)|cases rb.nonE|cases rb.blE|cases rb.strE|(obtain⟨_,_,z,_⟩:=rb.tupE;cases z)|(unfold ku at he;cases he)
 |str i=>cases ra.strE;cases b<;>first|(have z:=rb.strE;injection z with z;rw[Fy.mp z]at he;unfold ku at he;simp at he;exact he)|cases rb.nonE|cases rb.blE|cases rb.intE|(obtain⟨_,_,z,_⟩:=rb.tupE;cases z)|(unfold ku at he;cases he)
 |loc i=>cases b<;>(unfold ku at he;cases he)
theorem F8(I:bA X ag σ H s):∀(n:Nat) (a b:W) (x:V) (k:Bool),a.dep<=n->bu X.K μ H a x->bu X.K μ H b x->ku a b=some k->k=true:=by
 intro n
 induction n with
 |zero=>exact fun a b x k hn ra rb he=>CV hn ra rb he
 |succ n ih=>
  intro a b x k hn ra rb he
  cases a with
  |tup i=>
   obtain⟨p',A3,rfl,hS',r'⟩:=ra.tupE
   cases b with
   |tup z=>
    obtain⟨p,vs,e,hS,r⟩:=rb.tupE
    cases e
    obtain rfl:=I.tuple_inj hS hS'
    have he':eqWs i z=some k:=by unfold ku at he;exact he
    have dn:depWs i<=n:=by unfold W.dep at hn;omega
    have key:∀(i z:List W) (vs:List V) (k:Bool),depWs i<=n->RelWs X.K μ H i vs->RelWs X.K μ H z vs->eqWs i z=some k->k=true:=by
     intro i
     induction i with
     |nil=>
      intro z vs k _ r' r he
      have e1:=r'.nilE
      subst e1
      cases z with
      |nil=>unfold eqWs at he;cases he;rfl
      |cons _ _=>have e2:=r.len;simp at e2
     |cons w i ih2=>
      intro z vs k dn r' r he
      obtain⟨x,xs,rfl,rx,rxs⟩:=r'.consE
      cases z with
      |nil=>have e2:=r.len;simp at e2
      |cons y z=>
       obtain⟨x2,xs2,e3,ry,rys⟩:=r.consE
       cases e3
       unfold eqWs at he
       cases e1:ku w y with
       |none=>rw[e1]at he;simp at he
       |some k1=>
        cases e2:eqWs i z with
        |none=>rw[e1,e2]at he;simp at he
        |some k2=>
         rw[e1,e2]at he
         simp at he
         unfold depWs at dn
         have q1:=ih w y x k1 (by omega) rx ry e1
         have q2:=ih2 z xs k2 (by omega) rxs rys e2
         rw[<- he,q1,q2];rfl
    exact key i z _ k dn r' r he'
   |non=>cases rb.nonE
   |bl z=>cases rb.blE
   |int z=>cases rb.intE
   |str z=>cases rb.strE
   |loc z=>unfold ku at he;cases he
  |_=>exact CV (aw _) ra rb he
theorem sE:∀{ws:List W} {j:Nat} (h:j<ws.length),ws[j].dep<=depWs ws
 |w::ws,0,_=>by unfold depWs;exact Nat.le_max_left _ _
 |w::ws,j+1,h=>by unfold depWs;exact aL (sE (j:=j) (ju h)) (Nat.le_max_right _ _)
inductive Sh(s:Shared):W->Value->Prop
 |non:Sh s .non .none
 |bl (b:Bool):Sh s (.bl b) (.bool b)
 |int (i:Int) (t:Tok):Sh s (.int i) (.int i t)
 |str (l:List Nat) (t:Tok):Sh s (.str l) (.str (tx l) t)
 |tup (ws:List W) (p:Addr) (bq:List Value) (h:IsTup s.heap p bq.toArray):Sh s (.tup ws) (.ref p)
 |loc (n:Nat) (u:Value):Sh s (.loc n) u
section
theorem tQ(I:bA X ag σ H s){a:W}{x:V}(ra:bu X.K μ H a x)(ru:cD x u):Sh s a u:=by
 cases a with
 |non=>cases ra.nonE;cases ru;exact .non
 |bl i=>cases ra.blE;cases ru;exact .bl _
 |int i=>cases ra.intE;obtain⟨t,rfl⟩:=ru;exact .int _ _
 |str i=>cases ra.strE;obtain⟨t,rfl⟩:=ru;exact .str _ _
 |tup i=>obtain⟨p,vs,rfl,hS,_⟩:=ra.tupE;cases ru;obtain⟨bq,_,ht,_⟩:=I.tuple hS;exact .tup _ _ _ ht
 |loc i=>exact .loc _ _
open SeqAt.EqAt in
theorem CW{a b:W}{k:Bool}(ha:Sh s a u)(hb:Sh s b v)(hu:A.units<cLine)(ht:b.dep=0\/a.dep=0)(he:ku a b=some k):SeqAt.EqAt A s u v k:=by
 cases ha<;>cases hb<;>first
  |(unfold ku at he;cases he;done)
  |(unfold ku at he;cases he;with_reducible first|exact same _|exact bool_none _|exact bool_bool _ _|exact bool_int _ _ _|exact bool_str _ _ _|exact int_none _ _|exact int_bool _ _ _|exact int_int _ _ _ _|exact int_str _ _ _ _|exact str_none _ _|exact str_bool _ _ _|exact str_int _ _ _ _|exact none_bool _|exact none_int _ _|exact none_str _ _)
  |(unfold ku at he;cases he;(with_reducible first|refine' bool_tuple _ ?_ hu|refine' int_tuple _ _ ?_ hu|refine' str_tuple _ _ ?_ hu|refine' tuple_none ?_ hu|refine' tuple_bool _ ?_ hu|refine' tuple_int _ _ ?_ hu|refine' tuple_str _ _ ?_ hu|refine' none_tuple ?_ hu);rotate_left;assumption)
  |(unfold W.dep at ht;omega)
  |skip
 rename_i i t z r
 unfold ku at he;cases he
 have:=str_str (A:=A) (s:=s) (tx i) t (tx z) r
 rw[<- pY]at this
 exact this
open SeqAt.RcAt in
theorem KH{a b:W}{k:Bool}(ha:Sh s a u)(hb:Sh s b v)(hu:A.units<cLine)(ht:b.dep=0\/a.dep=0)(he:ku a b=some k):SeqAt.RcAt A s u v k:=by
 cases ha<;>cases hb<;>first
  |(unfold ku at he;cases he;done)
  |(unfold ku at he;cases he;with_reducible first|exact none_none|exact bool_none _|exact bool_bool _ _|exact bool_int _ _ _|exact bool_str _ _ _|exact int_none _ _|exact int_bool _ _ _|exact int_int _ _ _ _|exact int_str _ _ _ _|exact str_none _ _|exact str_bool _ _ _|exact str_int _ _ _ _|exact none_bool _|exact none_int _ _|exact none_str _ _)
  |(unfold ku at he;cases he;(with_reducible first|refine' bool_tuple _ ?_ hu|refine' int_tuple _ _ ?_ hu|refine' str_tuple _ _ ?_ hu|refine' tuple_none ?_ hu|refine' tuple_bool _ ?_ hu|refine' tuple_int _ _ ?_ hu|refine' tuple_str _ _ ?_ hu|refine' none_tuple ?_ hu);rotate_left;assumption)
  |(unfold W.dep at ht;omega)
  |skip
 rename_i i t z r
 unfold ku at he;cases he
 have:=str_str (A:=A) (s:=s) (tx i) t (tx z) r
 rw[<- pY]at this
 exact this
open SeqAt.RcNeAt in
theorem Ez         {a b:W}  {k:Bool} (ha : Sh s a u) (hb : Sh s b v) (hu : A.units < cLine) (ht : b.dep = 0 \/ a.dep = 0) (he : ku  a b = some k) : SeqAt.RcNeAt A s u v (!k) := by
  cases ha <;> cases hb <;> first
    | (unfold ku  at he; cases he; done)
    | (unfold ku  at he; cases he; try simp only [Bool.not_true, Bool.not_false]
       with_reducible first | exact none_none | exact bool_none _ | exact bool_bool _ _ | exact bool_int _ _ _ | exact bool_str _ _ _ | exact int_none _ _ | exact int_bool _ _ _ | exact int_int _ _ _ _ | exact int_str _ _ _ _ | exact str_none _ _ | exact str_bool _ _ _ | exact str_int _ _ _ _ | exact none_bool _ | exact none_int _ _ | exact none_str _ _)
    | (unfold ku  at he; cases he; try simp only [Bool.not_true, Bool.not_false]
       (with_reducible first | refine' bool_tuple _ ?_ hu | refine' int_tuple _ _ ?_ hu | refine' str_tuple _ _ ?_ hu | refine' tuple_none ?_ hu | refine' tuple_bool _ ?_ hu | refine' tuple_int _ _ ?_ hu | refine' tuple_str _ _ ?_ hu | refine' none_tuple ?_ hu); rotate_left; assumption)
    | (unfold W.dep at ht; omega)
    | skip
  rename_i i t z r
  unfold ku  at he; cases he
  have := str_str (A := A) (s := s) (tx i) t (tx z) r
  rw [<- pY           ] at this
  exact this
theorem zS{i z:List W}{A3:List V}{its':List Value}{e:Nat->Bool}{A:Around}(ih:∀(a b:W) (A:Around) (x y:V) (u v:Value) (k:Bool),a.dep<=m->bu X.K μ H a x->bu X.K μ H b y->cD x u->cD y v->A.units+m<cLine->ku a b=some k->SeqAt.EqAt A s u v k)
  (r':RelWs X.K μ H i A3) (r:RelWs X.K μ H z vs) (w':cu A3 its') (w:cu vs bq) (hd:depWs i<=m) (hu:A.units+1+m<cLine) (h1:∀j (h1:j<i.length) (h2:j<z.length),ku i[j] z[j]=some (e j)):∀j (j1:j<its'.toArray.size) (j2:j<bq.toArray.size),SeqAt.EqAt A.in1 s its'.toArray[j] bq.toArray[j] (e j):=fun j j1 j2=>by
 have j1':j<i.length:=by rw[r'.len,w'.length];simpa using j1
 have j2':j<z.length:=by rw[r.len,w.length];simpa using j2
 obtain⟨x1,g1,q1⟩:=r'.get (ae j1')
 obtain⟨x2,g2,q2⟩:=r.get (ae j2')
 obtain⟨u1,f1,v1⟩:=w'.get g1
 obtain⟨u2,f2,v2⟩:=w.get g2
 have E:=ih i[j] z[j] A.in1 x1 x2 u1 u2 (e j) (aL (sE j1') hd) q1 q2 v1 v2 hu (h1 j j1' j2')
 have t1:its'.toArray[j]=u1:=by simpa using (ac.mp f1).2
 have t2:bq.toArray[j]=u2:=by simpa using (ac.mp f2).2
 rw[t1,t2];exact E
theorem F9(I:bA X ag σ H s):∀(n:Nat) (a b:W) (A:Around) (x y:V) (u v:Value) (k:Bool),a.dep<=n->bu X.K μ H a x->bu X.K μ H b y->cD x u->cD y v->A.units+n<cLine->ku a b=some k->SeqAt.EqAt A s u v k:=by
 intro n
 induction n with
 |zero=>exact fun a b A x y u v k hn ra rb ru rv hu he=>CW (tQ I ra ru) (tQ I rb rv) hu (.inr (by omega)) he
 |succ m ih=>
  intro a b A x y u v k hn ra rb ru rv hu he
  by_cases hb:b.dep=0\/a.dep=0
  ·exact CW (tQ I ra ru) (tQ I rb rv) (by omega) hb he
  ·cases b with
   |tup z=>
    cases a with
    |tup i=>
     obtain⟨p',A3,rfl,hS',r'⟩:=id ra.tupE;cases ru;obtain⟨its',w',ht',_⟩:=I.tuple hS'
     obtain⟨p,vs,rfl,hS,r⟩:=id rb.tupE;cases rv;obtain⟨bq,w,ht,_⟩:=I.tuple hS
     by_cases hpp:p'=p
     ·subst hpp
      rw[F8 I (m+1) (.tup i) (.tup z) (.ref p') k hn ra rb he]
      exact SeqAt.EqAt.same _
     ·obtain⟨e,h1,h2⟩:=p_ i z k (by unfold ku at he;exact he)
      have R:=SeqAt.RcAt.tuples (A:=A) (e:=e) ht' ht (by omega) (zS ih r' r w' w (by unfold W.dep at hn;omega) (by omega) h1)
      rw[show its'.toArray.size=i.length by simp[<- w'.length,<- r'.len],show bq.toArray.size=z.length by simp[<- w.length,<- r.len],h2]at R
      exact SeqAt.EqAt.of_refs hpp R
    |_=>exact(hb (.inr rfl)).elim
   |_=>exact(hb (.inl rfl)).elim
theorem F_(I:bA X ag σ H s){a b:W}{x:V}{k:Bool}(hn:b.dep=0\/a.dep<=n)(ra:bu X.K μ H a x)(rb:bu X.K μ H b y)(ru:cD x u)(rv:cD y v)(hu:A.units+n<cLine)(he:ku a b=some k):SeqAt.RcAt A s u v k/\SeqAt.RcNeAt A s u v (!k):=by
 by_cases hb:b.dep=0\/a.dep=0
 ·exact⟨KH (tQ I ra ru) (tQ I rb rv) (by omega) hb he,Ez (tQ I ra ru) (tQ I rb rv) (by omega) hb he⟩
 cases b with
 |tup z=>
  cases a with
  |tup i=>
   obtain⟨p',A3,rfl,hS',r'⟩:=ra.tupE;cases ru;obtain⟨its',w',ht',_⟩:=I.tuple hS'
   obtain⟨p,vs,rfl,hS,r⟩:=rb.tupE;cases rv;obtain⟨bq,w,ht,_⟩:=I.tuple hS
   obtain⟨e,h1,h2⟩:=p_ i z k (by unfold ku at he;exact he)
   have hd:depWs i+1<=n:=hn.elim (fun z=>(hb (.inl z)).elim) id
   obtain⟨m,rfl⟩:∃m,n=m+1:=⟨n-1,by omega⟩
   have T:=zS (A:=A) (F9 I m) r' r w' w (by omega) (by omega) h1
   have R:=SeqAt.RcAt.tuples (A:=A) (e:=e) ht' ht (by omega) T
   have R2:=SeqAt.RcNeAt.tuples (A:=A) (e:=e) ht' ht (by omega) T
   rw[show its'.toArray.size=i.length by simp[<- w'.length,<- r'.len],show bq.toArray.size=z.length by simp[<- w.length,<- r.len],h2]at R R2
   exact⟨R,R2⟩
  |_=>exact(hb (.inr rfl)).elim
 |_=>exact(hb (.inl rfl)).elim
end
def qF:W->W->List am->R W:=fun x y st=>match ku x y with
 |some k=>if y.dep=0\/x.dep<=64 then .ok (.bl k) st else .bad
 |none=>.bad
theorem SU{k:Nat}(hr:g_ k X.A):u_ X (compareOp .Eq) qF:=⟨fun ag s σ H x y v u Q I rv ru zq=>by
 obtain⟨μ,st,wx,wy,S,rx,ry,q⟩:=zq
 unfold qF at q
 cases e:ku wx wy with
 |none=>rw[e]at q;exact q.elim
 |some b=>
  rw[e]at q
  simp only at q
  by_cases c:wy.dep=0\/wx.dep<=64
  ·rw[au c]at q
   have:=hr.units
   exact(F_ I c rx ry rv ru this e).1 X.prog X.w X.xe _ ⟨.bl b,H,I,rfl,mU S q⟩
  ·rw[ax c]at q;exact q.elim,fun x y st=>by
 unfold qF
 split
 ·split<;>trivial
 ·trivial⟩
def SV:W->W->List am->R W:=fun x y st=>match ku x y with
 |some k=>if y.dep=0\/x.dep<=64 then .ok (.bl (!k)) st else .bad
 |none=>.bad
theorem SX{k:Nat}(hr:g_ k X.A):u_ X (compareOp .NotEq) SV:=⟨fun ag s σ H x y v u Q I rv ru zq=>by
 obtain⟨μ,st,wx,wy,S,rx,ry,q⟩:=zq
 unfold SV at q
 cases e:ku wx wy with
 |none=>rw[e]at q;exact q.elim
 |some b=>
  rw[e]at q
  simp only at q
  by_cases c:wy.dep=0\/wx.dep<=64
  ·rw[au c]at q
   have:=hr.units
   exact(F_ I c rx ry rv ru this e).2 X.prog X.w X.xe _ ⟨.bl (!b),H,I,rfl,mU S q⟩
  ·rw[ax c]at q;exact q.elim,fun x y st=>by
 unfold SV
 split
 ·split<;>trivial
 ·trivial⟩
def uf(x:W):List W->Option Bool
 |[]=>some false
 |y::ys=>match ku y x,uf x ys with
  |some a,some b=>some (a||b)
  |_,_=>none
def wm(UA:Bool)(x y:W)(st:List am):R W:=match y with
 |.str l=>(match x with
  |.str [c]=>.ok (.bl (if UA then !decide (c∈l)else decide (c∈l))) st
  |_=>.bad)
 |.tup ys=>(match uf x ys with
  |some k=>if depWs ys<=63 then .ok (.bl (if UA then !k else k)) st else .bad
  |none=>.bad)
 |.loc n=>(match st[n]? with
  |some (.lst ys)=>(match uf x ys with
   |some k=>if depWs ys<=63 then .ok (.bl (if UA then !k else k)) st else .bad
   |none=>.bad)
  |_=>.bad)
 |_=>.bad
theorem zU{x:W}:∀{ys:List W} {k:Bool},uf x ys=some k->(∀(j:Nat) w,ys[j]?=some w->∃b,ku w x=some b)/\(k=true↔∃(j:Nat) (w:W),ys[j]?=some w/\ku w x=some true)
 |[],k,h=>by
  unfold uf at h;cases h
  exact⟨fun j w e=>by simp at e,fun z=>(by cases z),fun⟨j,w,e,_⟩=>(by simp at e)⟩
 |y::ys,k,h=>by
  unfold uf at h
  cases e1:ku y x with
  |none=>rw[e1]at h;simp at h
  |some a=>
   cases e2:uf x ys with
   |none=>rw[e1,e2]at h;simp at h
   |some b=>
    rw[e1,e2]at h
    simp at h
    obtain⟨q1,q2⟩:=zU e2
    refine⟨fun j w e=>?_,fun z=>?_,fun⟨j,w,e,f⟩=>?_⟩
    ·cases j with
     |zero=>simp at e;subst e;exact⟨a,e1⟩
     |succ j=>exact q1 j w (by simpa using e)
    ·rw[<- h]at z
     cases a with
     |true=>exact⟨0,y,rfl,e1⟩
     |false=>
      obtain⟨j,w,p,q⟩:=q2.mp (by simpa using z)
      exact⟨j+1,w,by simpa using p,q⟩
    ·rw[<- h]
     cases j with
     |zero=>simp at e;subst e;rw[e1]at f;cases f;rfl
     |succ j=>rw[q2.mpr ⟨j,w,by simpa using e,f⟩];simp
theorem mV(I:bA X ag σ H s){wx:W}{x:V}(rx:bu X.K μ H wx x)(rv:cD x v)(n:Nat){A:Around}(hu:A.units+n<cLine)
  {ys:List W} {vs:List V} {us:List Value} {k:Bool} (hd:depWs ys<=n) (rs:RelWs X.K μ H ys vs) (ql:cu vs us) (ha:uf wx ys=some k):∃e:Value->Bool,(∀u,u∈us.toArray->SeqAt.EqAt A s u v (e u))/\us.toArray.any e=k:=by
 classical
 obtain⟨q1,q2⟩:=zU ha
 have at':∀(j:Nat) (u:Value),us[j]?=some u->∃w b,ys[j]?=some w/\ku w wx=some b/\SeqAt.EqAt A s u v b:=fun j u e=>by
  have hj:j<ys.length:=by
   have h1:=(ac.mp e).1
   rw[rs.len,ql.length];exact h1
  obtain⟨b,hb⟩:=q1 j ys[j] (ae hj)
  obtain⟨y,g1,r1⟩:=rs.get (ae hj)
  obtain⟨u',f1,v1⟩:=ql.get g1
  rw[e]at f1;cases f1
  exact⟨_,b,ae hj,hb,F9 I n ys[j] wx A y x u v b (aL (sE hj) hd) r1 rx v1 rv hu hb⟩
 refine⟨fun u=>decide (∃(j:Nat) (w:W),us[j]?=some u/\ys[j]?=some w/\ku w wx=some true),fun u hu=>?_,?_⟩
 ·by_cases c:∃(j:Nat) (w:W),us[j]?=some u/\ys[j]?=some w/\ku w wx=some true
  ·show SeqAt.EqAt A s u v (decide _)
   rw[bf c]
   obtain⟨j,w,e1,e2,e3⟩:=c
   obtain⟨w',b,f1,f2,f3⟩:=at' j u e1
   rw[e2]at f1;cases f1
   rw[e3]at f2;cases f2
   exact f3
  ·show SeqAt.EqAt A s u v (decide _)
   rw[a8 c]
   obtain⟨j,hj,e⟩:=List.mem_iff_getElem.mp (show u∈us by simpa using hu)
   have e':us[j]?=some u:=by rw[ae hj,e]
   obtain⟨w',b,f1,f2,f3⟩:=at' j u e'
   cases b with
   |false=>exact f3
   |true=>exact absurd ⟨j,w',e',f1,f2⟩ c
 ·rw[List.any_toArray]
  cases k with
  |true=>
   obtain⟨j,w,e1,e2⟩:=q2.mp rfl
   have hj:j<us.length:=by rw[<- ql.length,<- rs.len];exact(ac.mp e1).1
   exact mM.mpr ⟨us[j],dU hj,bf ⟨j,w,ae hj,e1,e2⟩⟩
  |false=>
   refine l0.mpr fun u _ c=>?_
   obtain⟨j,w,_,e1,e2⟩:=l5 c
   have:=q2.mpr ⟨j,w,e1,e2⟩
   cases this
theorem SY{k:Nat}(hr:g_ k X.A):u_ X (compareOp .In) (wm false):=⟨fun ag s σ H x y v u Q I rv ru zq=>by
 obtain⟨μ,st,wx,wy,S,rx,ry,q⟩:=zq
 have hu:=hr.units
 cases wy with
 |str l=>
  simp only[wm]at q
  split at q
  ·exact El ag s σ H x y v u Q I rv ru ⟨_,_,rx.strE,ry.strE,mU S q⟩
  ·exact q.elim
 |tup ys=>
  simp only[wm]at q
  cases hk:uf wx ys with
  |none=>rw[hk]at q;exact q.elim
  |some kk=>
   rw[hk]at q
   simp only at q
   by_cases c:depWs ys<=63
   ·rw[au c]at q
    obtain⟨p,vs,rfl,hS,r⟩:=ry.tupE
    cases ru
    obtain⟨bq,w,ht,_⟩:=I.tuple hS
    obtain⟨e,he,ha⟩:=mV (A:=X.A.in1) I rx rv 63 (by show X.A.units+1+63<cLine;omega) c r w hk
    exact SeqAt.in_tupleAt e ht he ⟨.bl _,H,I,rfl,by rw[ha];exact mU S q⟩
   ·rw[ax c]at q;exact q.elim
 |loc n=>
  simp only[wm]at q
  cases e1:st[n]? with
  |none=>rw[e1]at q;exact q.elim
  |some cc=>
   rw[e1]at q
   cases cc with
   |lst ys=>
    simp only at q
    cases hk:uf wx ys with
    |none=>rw[hk]at q;exact q.elim
    |some kk=>
     rw[hk]at q
     simp only at q
     by_cases c:depWs ys<=63
     ·rw[au c]at q
      obtain⟨a1,g1,vs,k1,r⟩:=S.get e1
      obtain⟨b1,f1,rfl⟩:=ry.locE
      rw[g1]at f1;cases f1
      cases ru
      obtain⟨bq,w,ht,_⟩:=I.list (oZ.of k1)
      obtain⟨e,he,ha⟩:=mV (A:=X.A.in1) I rx rv 63 (by show X.A.units+1+63<cLine;omega) c r w hk
      exact SeqAt.in_listAt e ht.isList he ⟨.bl _,H,I,rfl,by rw[ha];exact mU S q⟩
     ·rw[ax c]at q;exact q.elim
   |_=>exact q.elim
 |_=>exact q.elim,fun x y st=>by
 unfold wm
 repeat' split
 all_goals trivial⟩
theorem L3{k:Nat}(hr:g_ k X.A):u_ X (compareOp .NotIn) (wm true):=⟨fun ag s σ H x y v u Q I rv ru zq=>by
 obtain⟨μ,st,wx,wy,S,rx,ry,q⟩:=zq
 have hu:=hr.units
 cases wy with
 |str l=>
  simp only[wm]at q
  split at q
  ·exact x8 ag s σ H x y v u Q I rv ru ⟨_,_,rx.strE,ry.strE,mU S q⟩
  ·exact q.elim
 |tup ys=>
  simp only[wm]at q
  cases hk:uf wx ys with
  |none=>rw[hk]at q;exact q.elim
  |some kk=>
   rw[hk]at q
   simp only at q
   by_cases c:depWs ys<=63
   ·rw[au c]at q
    obtain⟨p,vs,rfl,hS,r⟩:=ry.tupE
    cases ru
    obtain⟨bq,w,ht,_⟩:=I.tuple hS
    obtain⟨e,he,ha⟩:=mV (A:=X.A.in1) I rx rv 63 (by show X.A.units+1+63<cLine;omega) c r w hk
    exact SeqAt.notIn_tupleAt e ht he ⟨.bl _,H,I,rfl,by rw[ha];exact mU S q⟩
   ·rw[ax c]at q;exact q.elim
 |loc n=>
  simp only[wm]at q
  cases e1:st[n]? with
  |none=>rw[e1]at q;exact q.elim
  |some cc=>
   rw[e1]at q
   cases cc with
   |lst ys=>
    simp only at q
    cases hk:uf wx ys with
    |none=>rw[hk]at q;exact q.elim
    |some kk=>
     rw[hk]at q
     simp only at q
     by_cases c:depWs ys<=63
     ·rw[au c]at q
      obtain⟨a1,g1,vs,k1,r⟩:=S.get e1
      obtain⟨b1,f1,rfl⟩:=ry.locE
      rw[g1]at f1;cases f1
      cases ru
      obtain⟨bq,w,ht,_⟩:=I.list (oZ.of k1)
      obtain⟨e,he,ha⟩:=mV (A:=X.A.in1) I rx rv 63 (by show X.A.units+1+63<cLine;omega) c r w hk
      exact SeqAt.notIn_listAt e ht.isList he ⟨.bl _,H,I,rfl,by rw[ha];exact mU S q⟩
     ·rw[ax c]at q;exact q.elim
   |_=>exact q.elim
 |_=>exact q.elim,fun x y st=>by
 unfold wm
 repeat' split
 all_goals trivial⟩
section
variable{w:World}
theorem zV{t sl:Addr}{items:Array Value}{vl vu:Value}{lo hi:Option Int}(ht:IsTup s.heap t items)(hs:s.heap.IsSliceOf sl vl vu .none)(pl:IsPart vl lo)(pu:IsPart vu hi)
  (hw:HT.sIx items.size 0 lo=0/\HT.sIx items.size items.size hi=items.size) (h:Q (.ref t) s):wpAny (model prog w) A (getItem (.ref t) (.ref sl)) Q E s:=by
 obtain⟨os,hos,hcs,Nq⟩:=id hs
 have hTs:s.TypeIs (.ref sl) "slice":=⟨os,hos,hcs⟩
 unfold getItem
 try with_reducible refine dz ?_
 first|refine aa (aq ?_)|skip
 refine aa (wpAny_sequenceKey ht.typeIs (by decide) ?_)
 refine aa (be (name:=Str.ofString "__getitem__") ht.typeIs dN
  (bp dN ht.typeIs entry_tuple_getitem ?_ (args_tuple_getitem _ _)))
 show wpAny _ _ (Builtin.Tuple.tupleItemsOf (.ref t) >>= _) _ _ s
 refine aa (tupleItemsOf_ ht ?_)
 refine aa (kD hTs ?_)
 rw[au (by decide)]
 refine aa (HT.sliceApplied_gen hs pl pu ?_)
 have hyes:(((HT.sIx items.size 0 lo:Nat):Int)==0&&(1:Int)==1&&(HT.sIx items.size items.size hi-HT.sIx items.size 0 lo)==items.size)=true:=by
  rw[hw.1,hw.2];simp
 show wpAny _ _ (if (((HT.sIx items.size 0 lo:Nat):Int)==0&&(1:Int)==1&&(HT.sIx items.size items.size hi-HT.sIx items.size 0 lo)==items.size)=true then _ else _) _ _ s
 rw[au hyes]
 unfold Builtin.Tuple.tupleIsExact
 obtain⟨ot,hot,hct,nt,hdt⟩:=id ht
 refine aa (aa (kD (T:="tuple") ht.typeIs ?_))
 refine aq ?_
 rw[au (by decide)]
 exact aa (iQ (aq ⟨_,rfl,aq h⟩))
end
section
variable{a b:Expr}{x:Str}{fa fb fc fe:FE}{fs:FA}
noncomputable def lstOf(st:List am)(n:Nat):Option (List W):=match st[n]? with
 |some (.lst ws)=>some ws
 |some (.ro ws)=>some ws
 |_=>none
theorem iy.lstOf(S:iy K mg μ st H)(h:lstOf st n=some ws):∃a vs,μ[n]?=some a/\oZ K H a vs/\RelWs K μ H ws vs:=by
 unfold L2.lstOf at h
 cases e:st[n]? with
 |none=>rw[e]at h;cases h
 |some cc=>
  rw[e]at h
  cases cc with
  |lst zs=>cases h;obtain⟨a,g,vs,k,r⟩:=S.get e;exact⟨a,vs,g,oZ.of k,r⟩
  |ro zs=>cases h;obtain⟨a,g,vs,k,r⟩:=S.get e;exact⟨a,vs,g,k.sq,r⟩
  |exc zs=>cases h
  |dct zs=>cases h
  |rod zs=>cases h
  |dcx zs=>cases h
  |rox zs=>cases h
  |obj _ _=>cases h
  |tab _ _ _=>cases h
  |pin _ _ _ _=>cases h
  |gone=>cases h
noncomputable def qt(o:Option α)(k:α->R W):R W:=match o with
 |some a=>k a
 |none=>.bad
@[simp] theorem c5{α:Type}(a:α)(k:α->R W):qt (some a) k=k a:=rfl
def b9(x y:W)(st:List am):R W:=match x,y with
 |.tup ws,.int i=>qt (tI ws i) fun w=>.ok w st
 |.str l,.int i=>if l.length<=mj then qt (tI l i) (fun c=>.ok (.str [c]) st)else .bad
 |.loc n,.int i=>qt (lstOf st n) fun ws=>qt (tI ws i) fun w=>.ok w st
 |_,_=>.bad
theorem CY{i:Int}{w:W}(r:RelWs K μ H ws vs)(h:tI ws i=some w):∃v,tI vs i=some v/\bu K μ H w v:=by
 unfold tI at h ⊢
 rw[<- r.len]
 cases e:CI ws.length i with
 |none=>rw[e]at h;cases h
 |some k=>rw[e]at h;exact r.get h
theorem VR:JD X (VO X b9):=fun value slice ag s σ H x y v u Q I rv ru zq hs=>by
 obtain⟨μ,st,wx,wy,S,rx,ry,q⟩:=zq
 refine Ov value slice ag s σ H x y v u Q I rv ru ?_ hs
 cases wy with
 |int i=>
  cases wx with
  |tup ws=>
   simp only[b9]at q
   cases e1:tI ws i with
   |none=>rw[e1]at q;exact q.elim
   |some w=>
    rw[e1]at q
    obtain⟨p,vs,rfl,hS,r⟩:=rx.tupE
    obtain⟨z,f,g⟩:=CY r e1
    exact .inr (.inl ⟨p,vs,i,z,rfl,ry.intE,hS,f,q μ z H (ah _) d_.refl S g⟩)
  |str l=>
   simp only[b9]at q
   by_cases c:l.length<=mj
   ·rw[au c]at q
    cases e1:tI l i with
    |none=>rw[e1]at q;exact q.elim
    |some w=>
     rw[e1]at q
     exact .inr (.inr ⟨_,i,w,rx.strE,ry.intE,by rw[iH];exact mT c,by rw[OG];exact e1,qE S q⟩)
   ·rw[ax c]at q;exact q.elim
  |loc n=>
   simp only[b9]at q
   cases e0:lstOf st n with
   |none=>rw[e0]at q;exact q.elim
   |some ws=>
    rw[e0]at q
    cases e1:tI ws i with
    |none=>rw[c5,e1]at q;exact q.elim
    |some w=>
     rw[c5,e1]at q
     obtain⟨a,vs,g,hS,r⟩:=S.lstOf e0
     obtain⟨b1,f1,rfl⟩:=rx.locE
     rw[g]at f1;cases f1
     obtain⟨z,f,g⟩:=CY r e1
     exact .inl ⟨_,vs,i,z,rfl,ry.intE,hS,f,q μ z H (ah _) d_.refl S g⟩
  |_=>exact q.elim
 |_=>cases wx<;>exact q.elim
theorem pI{o:Option α}{k:α->R W}(h:∀a,ue (k a)):ue (qt o k):=by
 unfold qt
 split
 ·exact h _
 ·trivial
theorem SZ(x y:W)(st:List am):ue (b9 x y st):=by
 unfold b9
 split
 ·exact pI fun _=>trivial
 ·split
  ·exact pI fun _=>trivial
  ·trivial
 ·exact pI fun _=>pI fun _=>trivial
 ·trivial
theorem VS(ha:SE X a fa)(hb:SE X b fb)(hs:CK b:=by intro _ _;rfl):SE X (.Subscript a b pos) (e2 b9 fa fb):=⟨(RU VR ha.h hb.h hs).imp fun _ _ _ h=>CT SZ h⟩
abbrev FO:=cw->List am->R (Option Int)
abbrev VT:List Addr->Hp->Option Int->Option Int->Prop:=fun _ _ a b=>a=b
structure SO(X:Cx)(e:Option Expr)(f:FO):Prop where
 h:PO X e (tG X VT f)
def nH:FO:=fun _ st=>.ok none st
def mq(fa:FE):FO:=fun ρ st=>(fa ρ st).bind fun x st=>match x with
 |.int i=>.ok (some i) st
 |_=>.bad
theorem PO.imp{e:Option Expr}{t t':TO}(h:PO X e t)(i:∀σ H Q,t' σ H Q->t σ H Q):PO X e t':=fun ag s σ H Q I q=>h ag s σ H Q I (i _ _ _ q)
theorem KI:SO X none nH:=⟨J7.imp fun σ H Q h=>by
 obtain⟨μ,ρ,st,l,h⟩:=h
 exact h μ none H (ah _) d_.refl l.sto rfl⟩
theorem KJ(ha:SE X a fa):SO X (some a) (mq fa):=⟨(J8 ha.h).imp fun σ H Q h=>by
 obtain⟨μ,ρ,st,l,h⟩:=h
 refine⟨μ,ρ,st,l,RK.bind h l fun μ1 st1 x v H1 p1 x1 l1 q1 h1=>?_⟩
 cases x with
 |int k=>exact⟨k,q1.intE,h1 μ1 _ H1 (ah _) d_.refl l1.sto rfl⟩
 |_=>exact h1.elim⟩
noncomputable def mW(xs:List α)(lo hi:Option Int):List α:=(xs.drop (HT.sIx xs.length 0 lo)).take (HT.sIx xs.length xs.length hi-HT.sIx xs.length 0 lo)
def zW(x:W)(lo hi:Option Int)(st:List am):R W:=match x with
 |.tup ws=>.ok (.tup (mW ws lo hi)) st
 |.str l=>if l.length<=mj then .ok (.str (mW l lo hi)) st else .bad
 |.loc n=>qt (lstOf st n) fun ws=>.ok (.loc st.length) (st++[.lst (mW ws lo hi)])
 |_=>.bad
theorem S5(x:W)(lo hi:Option Int)(st:List am):ue (zW x lo hi st):=by
 unfold zW qt
 repeat' split
 all_goals trivial
def EA(fa:FE)(fl fh:FO):FE:=fun ρ st=>(fa ρ st).bind fun x st=>(fl ρ st).bind fun l st=>(fh ρ st).bind fun h st=>zW x l h st
theorem VU:RR X (fun x lo hi H Q=>∃μ st wx,iy X.K X.mg μ st H/\bu X.K μ H wx x/\E3 X μ H Q (zW wx lo hi st)):=by
 intro ag s σ H x v vl vu lo hi sl Q I rv hs pl pu ⟨μ,st,wx,S,rx,q⟩
 cases wx with
 |tup ws=>
  obtain⟨p,vs,rfl,hS,r⟩:=rx.tupE
  have hl:=r.len
  by_cases hw:HT.sIx vs.length 0 lo=0/\HT.sIx vs.length vs.length hi=vs.length
  ·cases rv
   obtain⟨bq,w,ht,hz⟩:=I.tuple hS
   have da:bq.toArray.size=vs.length:=by rw[aN];exact w.length.symm
   refine⟨"tuple",_,dN.lookup,ht.typeIs,zV ht hs pl pu (by rw[da];exact hw) ⟨.ref p,H,I,rfl,?_⟩⟩
   have e:mW ws lo hi=ws:=by
    unfold mW
    rw[hl,hw.1,hw.2,dF,r6,<- hl,cz]
   have q':E3 X μ H Q (.ok (.tup (mW ws lo hi)) st):=q
   rw[e]at q'
   exact q' μ _ H (ah _) d_.refl S rx
  ·refine Os ag s σ H _ v vl vu lo hi sl Q I rv hs pl pu ⟨p,vs,rfl,hS,hw,fun p2 hp2=>?_⟩
   have x:=fS.same (K:=X.K) (cy hp2 (.tup (uW vs lo hi)))
   have rc:RelWs X.K μ H (mW ws lo hi) (uW vs lo hi):=by
    unfold mW uW
    rw[hl]
    exact(r.drop _).take _
   exact q μ _ _ (ah _) x (S.same (cy hp2 _)) (.tupI fS.new (rc.mono (ah _) x))
 |str l=>
  simp only[zW]at q
  by_cases c:l.length<=mj
  ·rw[au c]at q
   exact OJ ag s σ H _ v vl vu lo hi sl Q I rv hs pl pu ⟨l,rx.strE,mT c,qE S q⟩
  ·rw[ax c]at q;exact q.elim
 |loc n=>
  simp only[zW]at q
  cases e0:lstOf st n with
  |none=>rw[e0]at q;exact q.elim
  |some ws=>
   rw[e0]at q
   obtain⟨a,vs,g,hS,r⟩:=S.lstOf e0
   obtain⟨b1,f1,rfl⟩:=rx.locE
   rw[g]at f1;cases f1
   have hl:=r.len
   refine J' ag s σ H _ v vl vu lo hi sl Q I rv hs pl pu ⟨_,vs,rfl,hS,fun p2 hp2=>?_⟩
   have rc:RelWs X.K μ H (mW ws lo hi) (uW vs lo hi):=by
    unfold mW uW
    rw[hl]
    exact(r.drop _).take _
   exact q (μ++[p2]) _ _ (bb _ _) (fS.same (cy hp2 _)) (S.newLst hp2 rc) (oE S)
 |_=>exact q.elim
theorem VV{lo hi:Option Expr}{fl fh:FO}(ha:SE X a fa)(hl:SO X lo fl)(hh:SO X hi fh):SE X (.Subscript a (.Slice lo hi none p2) pos) (EA fa fl fh):=⟨(Fk VU ha.h hl.h hh.h).imp fun σ H Q h=>by
 obtain⟨μ,ρ,st,l,h⟩:=h
 refine⟨μ,ρ,st,l,RK.bind h l fun μ1 st1 x v H1 p1 x1 l1 q1 h1=>⟨μ1,ρ,st1,l1,RK.bind h1 l1 fun μ2 cV y u H2 p2 x2 l2 q2 h2=>⟨μ2,ρ,cV,l2,RK.bind h2 l2 fun μ3 lZ z t H3 p3 x3 l3 q3 h3=>?_⟩⟩⟩
 cases q2;cases q3
 exact⟨μ3,lZ,x,l3.sto,(q1.mono p2 x2).mono p3 x3,sB h3 (S5 _ _ _ _)⟩⟩
def Ws(X:Cx)(F:List W->List am->R W):List V->Hp->VK->Prop:=fun vs H Q=>∃μ st ws,iy X.K X.mg μ st H/\RelWs X.K μ H ws vs/\E3 X μ H Q (F ws st)
structure qG(X:Cx)(f:Value)(F:List W->List am->R W):Prop where
 h:jx X f (Ws X F)
 n:∀ws st,ue (F ws st)
def bE(F:List W->List am->R W)(fs:FA):FE:=fun ρ st=>(fs ρ st).bind fun ws st=>F ws st
theorem CZ{Q:VK}(n:∀ws st,ue (F ws st))(h:tE X (bE F fs) σ H Q):Vw (Ws X F) (Sj X fs) σ H Q:=by
 obtain⟨μ,ρ,st,l,h⟩:=h
 exact⟨μ,ρ,st,l,RK.bind h l fun μ1 st1 x v H1 p1 x1 l1 q1 h1=>⟨μ1,st1,x,l1.sto,q1,sB h1 (n _ _)⟩⟩
theorem uF{id:String}(hc:qG X (.builtin id) F)(hm:X.mg x=none)(hv:bootBuiltins x=some (.builtin id))(ha:SA X (e::es) fs)(hg:Gl X x:=by rfl)(hn:x ≠ "__name__":=by decide)(Jt:(x==("__debug__":Str))=false:=by decide)
  (he:starEach (e::es) X.env=(false,eval e X.env)::starEach es X.env:=by rfl) (qu:(backTo pos (starEach es X.env)).any (·.1)=false:=by rfl):SE X (.Call (.Name x p) (e::es) [] pos) (bE F fs):=⟨(zn hc.h hg hm hv ha.h hn Jt he qu).imp fun _ _ _ h=>CZ hc.n h⟩
theorem ve{T:String}(hc:qG X (.type T) F)(hm:X.mg x=none)(hv:bootBuiltins x=some (.type T))(ha:SA X (e::es) fs)(hg:Gl X x:=by rfl)(hn:x ≠ "__name__":=by decide)(Jt:(x==("__debug__":Str))=false:=by decide)
  (he:starEach (e::es) X.env=(false,eval e X.env)::starEach es X.env:=by rfl) (qu:(backTo pos (starEach es X.env)).any (·.1)=false:=by rfl):SE X (.Call (.Name x p) (e::es) [] pos) (bE F fs):=⟨(Ec hc.h hg hm hv ha.h hn Jt he qu).imp fun _ _ _ h=>CZ hc.n h⟩
theorem RelWs.one{a:W}(r:RelWs K μ H [a] vs):∃x,vs=[x]/\bu K μ H a x:=by
 obtain⟨x,xs,rfl,rx,rn⟩:=r.consE
 rw[rn.nilE];exact⟨x,rfl,rx⟩
def dM(ws:List W)(st:List am):R W:=match ws with
 |[.tup xs]=>.ok (.int xs.length) st
 |[.str l]=>if l.length<=mj then .ok (.int l.length) st else .bad
 |[.loc n]=>qt (lstOf st n) fun xs=>.ok (.int xs.length) st
 |_=>.bad
theorem L9:qG X (.builtin "len") dM:=⟨fun ag s σ H vs us Q I rv zq=>by
 obtain⟨μ,st,ws,S,r,q⟩:=zq
 unfold dM at q
 split at q
 ·obtain⟨x,rfl,rx⟩:=r.one
  obtain⟨p,ys,rfl,hS,r'⟩:=rx.tupE
  exact qv ag s σ H _ us Q I rv ⟨p,ys,rfl,.inr hS,by rw[<- r'.len];exact lS S q⟩
 ·obtain⟨x,rfl,rx⟩:=r.one
  split at q
  ·rename_i c
   exact xX ag s σ H _ us Q I rv ⟨_,by rw[rx.strE],by rw[iH];exact mT c,by rw[iH];exact lS S q⟩
  ·exact q.elim
 ·obtain⟨x,rfl,rx⟩:=r.one
  unfold qt at q
  split at q
  ·rename_i ys e0
   obtain⟨a,vs,g,hS,r'⟩:=S.lstOf e0
   obtain⟨b1,f1,rfl⟩:=rx.locE
   rw[g]at f1;cases f1
   exact qv ag s σ H _ us Q I rv ⟨_,vs,rfl,.inl hS,by rw[<- r'.len];exact lS S q⟩
  ·exact q.elim
 ·exact q.elim,fun ws st=>by
 unfold dM qt
 repeat' split
 all_goals trivial⟩
def ip(ws:List W)(st:List am):R W:=match ws with
 |[.tup xs]=>.ok (.tup xs) st
 |[.loc n]=>qt (lstOf st n) fun xs=>.ok (.tup xs) st
 |_=>.bad
theorem KL:qG X (.type "tuple") ip:=⟨fun ag s σ H vs us Q I rv zq=>by
 obtain⟨μ,st,ws,S,r,q⟩:=zq
 unfold ip at q
 split at q
 ·obtain⟨x,rfl,rx⟩:=r.one
  obtain⟨p,ys,rfl,hS,r'⟩:=id rx.tupE
  exact zo ag s σ H _ us Q I rv ⟨p,ys,rfl,hS,q μ _ H (ah _) d_.refl S rx⟩
 ·obtain⟨x,rfl,rx⟩:=r.one
  unfold qt at q
  split at q
  ·rename_i ys e0
   obtain⟨a,vs,g,hS,r'⟩:=S.lstOf e0
   obtain⟨b1,f1,rfl⟩:=rx.locE
   rw[g]at f1;cases f1
   refine zx ag s σ H _ us Q I rv ⟨_,vs,rfl,hS,fun l H2 hl e=>?_⟩
   subst e
   have x:=fS.same (K:=X.K) (cy hl (.tup vs))
   exact q μ _ _ (ah _) x (S.same (cy hl _)) (.tupI fS.new (r'.mono (ah _) x))
  ·exact q.elim
 ·exact q.elim,fun ws st=>by
 unfold ip qt
 repeat' split
 all_goals trivial⟩
def xj(ws:List W)(st:List am):R W:=match ws with
 |[.tup xs]=>.ok (.loc st.length) (st++[.lst xs])
 |[.loc n]=>qt (lstOf st n) fun xs=>.ok (.loc st.length) (st++[.lst xs])
 |_=>.bad
theorem O_:qG X (.type "list") xj:=⟨fun ag s σ H vs us Q I rv zq=>by
 obtain⟨μ,st,ws,S,r,q⟩:=zq
 unfold xj at q
 split at q
 ·obtain⟨x,rfl,rx⟩:=r.one
  obtain⟨p,ys,rfl,hS,r'⟩:=id rx.tupE
  refine uZ ag s σ H _ us Q I rv ⟨p,ys,rfl,.inr hS,fun l H2 hl e=>?_⟩
  subst e
  exact q (μ++[l]) _ _ (bb _ _) (fS.same (cy hl _)) (S.newLst hl r') (oE S)
 ·obtain⟨x,rfl,rx⟩:=r.one
  unfold qt at q
  split at q
  ·rename_i ys e0
   obtain⟨a,vs,g,hS,r'⟩:=S.lstOf e0
   obtain⟨b1,f1,rfl⟩:=rx.locE
   rw[g]at f1;cases f1
   refine uZ ag s σ H _ us Q I rv ⟨_,vs,rfl,.inl hS,fun l H2 hl e=>?_⟩
   subst e
   exact q (μ++[l]) _ _ (bb _ _) (fS.same (cy hl _)) (S.newLst hl r') (oE S)
  ·exact q.elim
 ·exact q.elim,fun ws st=>by
 unfold xj qt
 repeat' split
 all_goals trivial⟩
noncomputable def vf(ws:List W)(st:List am):R W:=match ws with
 |[.int i]=>.ok (.int i) st
 |[.bl k]=>.ok (.int (if k then 1 else 0)) st
 |_=>.bad
theorem S6:qG X (.type "int") vf:=⟨fun ag s σ H vs us Q I rv zq=>by
 obtain⟨μ,st,ws,S,r,q⟩:=zq
 unfold vf at q
 split at q
 ·obtain⟨x,rfl,rx⟩:=r.one
  exact wV ag s σ H _ us Q I rv (.inl ⟨_,by rw[rx.intE],lS S q⟩)
 ·obtain⟨x,rfl,rx⟩:=r.one
  exact wV ag s σ H _ us Q I rv (.inr ⟨_,by rw[rx.blE],lS S q⟩)
 ·exact q.elim,fun ws st=>by unfold vf;split<;>trivial⟩
end
section
variable{a b:Expr}{x:Str}{fa fb fc fe:FE}{fs:FA}{ft:FT}{st1:Stmt}{sr sa sb:List Stmt}{g g':FS}
def aW(g g':FS):FS:=fun ρ st=>match g ρ st with
 |.nx ρ' bz=>g' ρ' bz
 |r=>r
def eZ:FS:=fun ρ st=>.nx ρ st
theorem F':SB X [] eZ:=⟨JR.imp fun D σ H h=>by
 obtain⟨μ,ρ,st,l,h⟩:=h
 exact h μ σ H (ah _) d_.refl l⟩
theorem yd(h1:SS X st1 g):SB X [st1] g:=⟨JS h1.h⟩
theorem KM(h1:SS X st1 g)(h2:SB X sr g'):SB X (st1::sr) (aW g g'):=⟨(E8 h1.h h2.h).imp fun D σ H h=>by
 obtain⟨μ,ρ,st,l,h⟩:=h
 refine⟨μ,ρ,st,l,?_⟩
 unfold aW at h
 cases e:g ρ st with
 |nx ρ' bz=>rw[e]at h;exact fun μ' σ' H' p x l'=>⟨μ',ρ',bz,l',SK.mono h p x⟩
 |rt w bz=>rw[e]at h;exact h
 |bk ρ' bz=>rw[e]at h;exact h
 |ct ρ' bz=>rw[e]at h;exact h
 |ex c ρ' bz=>rw[e]at h;exact h
 |bad=>rw[e]at h;exact h⟩
def R.stmt(r:R α)(ρ:cw)(k:α->List am->RS):RS:=match r with
 |.ok a st=>k a st
 |.ex c st=>.ex c ρ st
 |.bad=>.bad
@[simp] theorem R.stmt_ok{α:Type}(a:α)(st:List am)(ρ:cw)(k:α->List am->RS):(R.ok a st).stmt ρ k=k a st:=rfl
theorem RK.stmt{rel:List Addr->Hp->α->β->Prop}{ρ:cw}{D:zl}{r:R α}{k:α->List am->RS}{T:β->Hp->Prop}
  (h:SK X μ H D (r.stmt ρ k)) (l:Rl X μ ρ st σ H)
  (hk:∀μ' bz x v H',μ <+: μ'->d_ X.K H H'->Rl X μ' ρ bz σ H'->rel μ' H' x v->SK X μ' H' D (k x bz)->T v H'):RK X rel μ σ H T r:=by
 cases r with
 |ok a bz=>exact fun μ' b H' p x s q=>hk μ' bz a b H' p x (l.to p x s) q (SK.mono h p x)
 |ex c bz=>exact XS.toE h l
 |bad=>exact h
def fB(fe:FE):FS:=fun ρ st=>(fe ρ st).stmt ρ fun _ st=>.nx ρ st
theorem KN(he:SE X e fe)(hs:swapsWith e none pos.line X.env=pure false:=by rfl):SS X (.Expr e pos) (fB fe):=⟨(JT he.h hs).imp fun D σ H h=>by
 obtain⟨μ,ρ,st,l,h⟩:=h
 exact⟨μ,ρ,st,l,RK.stmt h l fun μ1 st1 x v H1 p1 x1 l1 q1 h1=>h1 μ1 σ H1 (ah _) d_.refl l1⟩⟩
def dk(fe:FE):FS:=fun ρ st=>(fe ρ st).stmt ρ fun w st=>.rt w st
theorem Ga(he:SE X e fe):SS X (.Return (some e) pos) (dk fe):=⟨(N5 he.h).imp fun D σ H h=>by
 obtain⟨μ,ρ,st,l,h⟩:=h
 exact⟨μ,ρ,st,l,RK.stmt h l fun μ1 st1 x v H1 p1 x1 l1 q1 h1=>h1 μ1 v H1 (ah _) d_.refl l1.sto q1⟩⟩
def mh(t:FT)(g g':FS):FS:=fun ρ st=>(t ρ st).stmt ρ fun k st=>if k then g ρ st else g' ρ st
theorem L_(hc:ST X c ft)(ha:SB X sa g)(hb:SB X sb g'):SS X (.If c sa sb pos) (mh ft g g'):=⟨(RB hc.h ha.h hb.h).imp fun D σ H h=>by
 obtain⟨μ,ρ,st,l,h⟩:=h
 refine⟨μ,ρ,st,l,RK.stmt h l fun μ1 st1 x v H1 p1 x1 l1 q1 h1=>?_⟩
 cases q1
 cases x with
 |true=>exact⟨μ1,ρ,st1,l1,h1⟩
 |false=>exact⟨μ1,ρ,st1,l1,h1⟩⟩
abbrev FG:=W->cw->Option cw
abbrev L':=List W->cw->Option cw
def UR(X:Cx)(f:FG):TG:=fun v σ H Q=>∃μ ρ st w ρ',Rl X μ ρ st σ H/\bu X.K μ H w v/\f w ρ=some ρ'/\∀σ',Rl X μ ρ' st σ' H->Q σ' H
def VW(X:Cx)(f:L'):JU:=fun vs σ H Q=>∃μ ρ st ws ρ',Rl X μ ρ st σ H/\RelWs X.K μ H ws vs/\f ws ρ=some ρ'/\∀σ',Rl X μ ρ' st σ' H->Q σ' H
theorem PG.imp{t t':TG}(h:PG X e t)(i:∀v σ H Q,t' v σ H Q->t v σ H Q):PG X e t':=fun ag s σ H x u Q I r q=>h ag s σ H x u Q I r (i _ _ _ _ q)
theorem LO.imp{e:List Expr}{t t':JU}(h:LO X e t)(i:∀v σ H Q,t' v σ H Q->t v σ H Q):LO X e t':=fun ag s σ H x u Q I r q=>h ag s σ H x u Q I r (i _ _ _ _ q)
structure SG(X:Cx)(e:Expr)(f:FG):Prop where
 h:PG X e (UR X f)
structure US(X:Cx)(e:List Expr)(f:L'):Prop where
 h:LO X e (VW X f)
def eM(i:Nat):FG:=fun w ρ=>some (ρ.set i (some w))
theorem C0(hN:X.N.Nodup)(hi:X.N[i]?=some x)(hx:JM X.env.scope x)(hf:X.fn x=true\/X.env.scope.names.lookup x=some .local:=by first|exact .inl rfl|exact .inr rfl|assumption):SG X (.Name x pos) (eM i):=⟨(JW hN hi hx hf).imp fun v σ H Q h=>by
 obtain⟨μ,ρ,st,w,ρ',l,r,e,q⟩:=h
 cases e
 exact q _ ⟨u9 r i l.env,l.sto⟩⟩
def jz:L':=fun ws ρ=>match ws with
 |[]=>some ρ
 |_=>none
def cR(f:FG)(fs:L'):L':=fun ws ρ=>match ws with
 |w::ws=>(f w ρ).bind fun ρ'=>fs ws ρ'
 |[]=>none
theorem KO:US X [] jz:=⟨JX.imp fun vs σ H Q h=>by
 obtain⟨μ,ρ,st,ws,ρ',l,r,e,q⟩:=h
 cases ws with
 |nil=>cases e;exact⟨r.nilE,q σ l⟩
 |cons _ _=>cases e⟩
theorem Gb{f:FG}{fs:L'}(h1:SG X e f)(h2:US X es fs)(hs:(assignEach (e::es) X.env).map (·.2)=assign e X.env::(assignEach es X.env).map (·.2):=by rfl):US X (e::es) (cR f fs):=⟨(E9 h1.h h2.h hs).imp fun vs σ H Q h=>by
 obtain⟨μ,ρ,st,ws,ρ',l,r,e,q⟩:=h
 cases ws with
 |nil=>cases e
 |cons w ws=>
  obtain⟨x,xs,rfl,rx,rs⟩:=r.consE
  simp only[cR]at e
  cases e1:f w ρ with
  |none=>rw[e1]at e;cases e
  |some ρ1=>
   rw[e1]at e
   exact⟨x,xs,rfl,μ,ρ,st,w,ρ1,l,rx,e1,fun σ1 l1=>⟨μ,ρ1,st,ws,ρ',l1,rs,e,q⟩⟩⟩
def yf(n:Nat)(fs:L'):FG:=fun w ρ=>match w with
 |.tup ws=>if ws.length=n then fs ws ρ else none
 |_=>none
theorem Pa{k:Nat}{fs:L'}(hc:X.calm=true)(h:US X es fs)(hn:(assignEach es X.env).length=n:=by rfl)(mP:(assignEach es X.env).findIdx? (·.1)=none:=by rfl):SG X (.Tuple es k pos) (yf n fs):=⟨(N6 hc h.h hn mP).imp fun v σ H Q h=>by
 obtain⟨μ,ρ,st,w,ρ',l,r,e,q⟩:=h
 cases w with
 |tup ws=>
  obtain⟨p,vs,rfl,hS,rs⟩:=r.tupE
  simp only[yf]at e
  by_cases c:ws.length=n
  ·rw[au c]at e
   exact⟨p,vs,rfl,hS,by rw[<- rs.len];exact c,μ,ρ,st,ws,ρ',l,rs,e,q⟩
  ·rw[ax c]at e;cases e
 |_=>cases e⟩
def wF(fe:FE)(f:FG):FS:=fun ρ st=>(fe ρ st).stmt ρ fun w st=>match f w ρ with
 |some ρ'=>.nx ρ' st
 |none=>.bad
def b8(i:Nat)(fe:FE):FS:=fun ρ st=>(fe ρ st).stmt ρ fun w st=>.nx (ρ.set i (some w)) st
theorem Pd(hN:X.N.Nodup)(hi:X.N[i]?=some x)(hx:JM X.env.scope x)(he:SE X e fe)(hs:swapsWith e (some (.Name x h_)) pos.line X.env=pure false:=by rfl)(hf:X.fn x=true\/X.env.scope.names.lookup x=some .local:=by first|exact .inl rfl|exact .inr rfl|assumption) :
  SS X (.Assign [.Name x h_] e pos) (b8 i fe):=⟨(N9 hN hi hx he.h hs hf).imp fun D σ H h=>by
 obtain⟨μ,ρ,st,l,h⟩:=h
 exact⟨μ,ρ,st,l,RK.stmt h l fun μ1 st1 x v H1 p1 x1 l1 q1 h1=>h1 μ1 _ H1 (ah _) d_.refl ⟨u9 q1 i l1.env,l1.sto⟩⟩⟩
def mv(x i v:W)(st:List am):Option (List am):=match x,i with
 |.loc n,.int k=>(match st[n]? with
  |some (.lst ws)=>(CI ws.length k).map fun j=>st.set n (.lst (ws.set j v))
  |_=>none)
 |_,_=>none
def qH(fo fi fe:FE)(f:W->W->W->List am->Option (List am)):FS:=fun ρ st=>(fe ρ st).stmt ρ fun v st=>(fo ρ st).stmt ρ fun x st=>(fi ρ st).stmt ρ fun i st=>match f x i v st with
 |some bz=>.nx ρ bz
 |none=>.bad
def Gd(X:Cx)(f:W->W->W->List am->Option (List am)):JV:=fun o i v H Q=>∃μ st wo wi wv bz,iy X.K X.mg μ st H/\bu X.K μ H wo o/\bu X.K μ H wi i/\bu X.K μ H wv v/\f wo wi wv st=some bz/\∀H',d_ X.K H H'->iy X.K X.mg μ bz H'->Q H'
theorem Pe:D4 X (Gd X mv):=fun ag s σ H o i v ov iv u Q I r1 r2 r3 zq=>by
 obtain⟨μ,st,wo,wi,wv,bz,S,ro,ri,rv,e,q⟩:=zq
 cases wo with
 |loc n=>
  cases wi with
  |int k=>
   simp only[mv]at e
   cases e1:st[n]? with
   |none=>rw[e1]at e;cases e
   |some cc=>
    rw[e1]at e
    cases cc with
    |lst ws=>
     simp only at e
     cases e2:CI ws.length k with
     |none=>rw[e2]at e;cases e
     |some jj=>
      rw[e2]at e
      cases e
      obtain⟨a1,g1,vs,k1,r⟩:=S.get e1
      obtain⟨b1,f1,rfl⟩:=ro.locE
      rw[g1]at f1;cases f1
      refine Em ag s σ H _ i v ov iv u Q I r1 r2 r3 ⟨a1,vs,k,jj,rfl,ri.intE,k1,by rw[<- r.len];exact e2,fun H2 eH=>?_⟩
      subst eH
      exact q _ (fS.but iB k1) (S.set e1 g1 k1 (r.setI jj rv))
    |_=>cases e
  |_=>cases e
 |_=>cases wi<;>cases e
theorem Ge{f:W->W->W->List am->Option (List am)}{i:Expr}{fi:FE}{fo:FE}(Wf:D4 X (Gd X f))(he:SE X e fe)(ho:SE X o fo)(hi:SE X i fi)
  (ha:∀v,assign (.Subscript o i h_) X.env v=(do
   let ov <- holding [v] (eval o X.env)
   let iv <- holding [v,ov] (eval i X.env)
   standAt h_
   holding [v,ov,iv] (setItem ov iv v)
   release [v,ov,iv] []):=by intro _;rfl)
  (hs:swapsWithSole [.Subscript o i h_] e pos.line X.env=pure false:=by rfl) (hw:swappedStores [.Subscript o i h_] e X.env=pure none:=by rfl) (h1:(assignEach [.Subscript o i h_] X.env).map (·.2)=[assign (.Subscript o i h_) X.env]:=by rfl) :
  SS X (.Assign [.Subscript o i h_] e pos) (qH fo fi fe f):=⟨(N8 he.h (N7 ho.h hi.h Wf ha) hs hw h1).imp fun D σ H h=>by
 obtain⟨μ,ρ,st,l,h⟩:=h
 refine⟨μ,ρ,st,l,RK.stmt h l fun μ1 st1 v vv H1 p1 x1 l1 q1 h1=>⟨μ1,ρ,st1,l1,RK.stmt h1 l1 fun μ2 cV x xv H2 p2 x2 l2 q2 h2=>⟨μ2,ρ,cV,l2,RK.stmt h2 l2 fun μ3 lZ i iv H3 p3 x3 l3 q3 h3=>?_⟩⟩⟩
 cases e1:f x i v lZ with
 |none=>rw[e1]at h3;exact h3.elim
 |some bz=>
  rw[e1]at h3
  exact⟨μ3,lZ,x,i,v,bz,l3.sto,q2.mono p3 x3,q3,(q1.mono p2 x2).mono p3 x3,e1,fun H' xx S'=>h3 μ3 σ H' (ah _) xx (l3.to (ah _) xx S')⟩⟩
end
def iA(st:List am):Option (Nat×List W)->Prop
 |none=>True
 |some (n,ws)=>lstOf st n=some ws
noncomputable abbrev EB:=List W×Option (Nat×List W)
abbrev FI:=cw->List am->R EB
def yg(X:Cx)(J:It)(k:EB)(μ:List Addr)(H:Hp):Prop:=
 ∀(i:Nat) μ' bz H',μ <+: μ'->d_ X.K H H'->iy X.K X.mg μ' bz H'->iA bz k.2 ->
  (∀w,k.1[i]?=some w->J.go i H'/\∀x H'',J.yld i H' x H''->d_ X.K H' H''/\iy X.K X.mg μ' bz H''/\bu X.K μ' H'' w x)/\(k.1.length<=i->J.stop i H')
abbrev S7(X:Cx):List Addr->Hp->EB->It->Prop:=fun μ H k J=>yg X J k μ H
structure SI(X:Cx)(tg it:Expr)(f:FI):Prop where
 h:PI X tg it (fun σ H R=>tG X (S7 X) f σ H R)
theorem PI.imp{it:Expr}{t t':TI}(h:PI X tg it t)(i:∀σ H Q,t' σ H Q->t σ H Q):PI X tg it t':=fun ag s σ H Q I q=>h ag s σ H Q I (i _ _ _ q)
open Classical in
def vg(f:FG)(body:FS)(ck:Option (Nat×List W)):List W->FS
 |[],ρ,st=>if iA st ck then .nx ρ st else .bad
 |w::ws,ρ,st=>if iA st ck then(match f w ρ with
  |none=>.bad
  |some ρ'=>(match body ρ' st with
   |.nx ρ2 cV=>vg f body ck ws ρ2 cV
   |.ct ρ2 cV=>vg f body ck ws ρ2 cV
   |.bk ρ2 cV=>.nx ρ2 cV
   |.rt w cV=>.rt w cV
   |.ex c ρ2 cV=>.ex c ρ2 cV
   |.bad=>.bad))else .bad
def iI(fi:FI)(f:FG)(body:FS):FS:=fun ρ st=>(fi ρ st).stmt ρ fun k st=>vg f body k.2 k.1 ρ st
section
variable{a b:Expr}{fa fb fe:FE}{fs:FA}{ft:FT}{g:FS}{f:FG}{fi:FI}
theorem Pf(hi:SI X tg c6 fi)(hg:SG X tg f)(hb:SB X body g)(hc:X.calm=true:=by rfl)(hp:PassesOwn (model X.prog X.w) X.A X.env X.xe:=by passes_own)(hs:∀x,foldedSetIterable c6 X.env x=pure x:=by intro _;rfl):SS X (.For tg c6 body [] pos) (iI fi f g):=⟨(N' hp hc hi.h hg.h hb.h hs).imp fun D σ H h=>by
 obtain⟨μ,ρ,st,l,h⟩:=h
 refine⟨μ,ρ,st,l,RK.stmt h l fun μ1 st1 k J H1 p1 x1 l1 wk h1=>?_⟩
 refine⟨fun i m σ' H'=>i<=k.1.length/\m=k.1.length-i/\∃μ' ρ' bz,μ1 <+: μ'/\d_ X.K H1 H'/\Rl X μ' ρ' bz σ' H'/\SK X μ' H' D (vg f g k.2 (k.1.drop i) ρ' bz),
  ⟨_,cL _,rfl,μ1,ρ,st1,ah _,d_.refl,l1,h1⟩,?_⟩
 rintro i m σ' H' ⟨hi,rfl,μ',ρ',bz,pm,xm,lm,hm⟩
 by_cases hlt:i<k.1.length
 ·rw[bd hlt]at hm
  unfold vg at hm
  by_cases ck:iA bz k.2
  ·rw[au ck]at hm
   obtain⟨go,yld⟩:=(wk i μ' bz H' pm xm lm.sto ck).1 _ (ae hlt)
   cases hf:f k.1[i] ρ' with
   |none=>rw[hf]at hm;exact hm.elim
   |some ρ2=>
    rw[hf]at hm
    simp only at hm
    refine .inr ⟨go,fun σ2 H2=>∃μ2 ρ3 cV,μ' <+: μ2/\d_ X.K H' H2/\Rl X μ2 ρ3 cV σ2 H2/\SK X μ2 H2 D (vg f g k.2 (k.1.drop (i+1)) ρ3 cV),fun σ2 H2 ⟨μ2,ρ3,cV,q1,q2,q3,q4⟩=>
     ⟨_,by omega,hlt,rfl,μ2,ρ3,cV,pm.trans q1,xm.trans q2,q3,q4⟩,fun x H2 hy=>?_⟩
    obtain⟨y1,y2,y3⟩:=yld x H2 hy
    refine⟨μ',ρ',bz,k.1[i],ρ2,lm.to (ah _) y1 y2,y3,hf,fun σ2 l2=>⟨μ',ρ2,bz,l2,?_⟩⟩
    cases e:g ρ2 bz with
    |nx ρ3 lZ=>rw[e]at hm;exact fun μ4 σ4 H4 p4 x4 l4=>⟨μ4,ρ3,lZ,p4,y1.trans x4,l4,SK.mono hm p4 (y1.trans x4)⟩
    |ct ρ3 lZ=>rw[e]at hm;exact fun μ4 σ4 H4 p4 x4 l4=>⟨μ4,ρ3,lZ,p4,y1.trans x4,l4,SK.mono hm p4 (y1.trans x4)⟩
    |bk ρ3 lZ=>rw[e]at hm;exact fun μ4 σ4 H4 p4 x4 l4=>hm μ4 σ4 H4 p4 (y1.trans x4) l4
    |rt w lZ=>rw[e]at hm;exact fun μ4 v4 H4 p4 x4=>hm μ4 v4 H4 p4 (y1.trans x4)
    |ex c ρ3 lZ=>rw[e]at hm;exact XS.mono hm (ah _) y1
    |bad=>rw[e]at hm;exact hm
  ·rw[ax ck]at hm;exact hm.elim
 ·have hi':i=k.1.length:=by omega
  subst hi'
  rw[eW (aw _)]at hm
  unfold vg at hm
  by_cases ck:iA bz k.2
  ·rw[au ck]at hm
   exact .inl ⟨(wk _ μ' bz H' pm xm lm.sto ck).2 (aw _),hm μ' σ' H' (ah _) d_.refl lm⟩
  ·rw[ax ck]at hm;exact hm.elim⟩
def fW(t:FT)(body:FS):Nat->FS
 |0,_,_=>.bad
 |n+1,ρ,st=>(t ρ st).stmt ρ fun k st=>if k then(match body ρ st with
   |.nx ρ2 cV=>fW t body n ρ2 cV
   |.ct ρ2 cV=>fW t body n ρ2 cV
   |.bk ρ2 cV=>.nx ρ2 cV
   |.rt w cV=>.rt w cV
   |.ex c ρ2 cV=>.ex c ρ2 cV
   |.bad=>.bad)else .nx ρ st
open Classical in
def oF(t:FT)(body:FS):FS:=fun ρ st=>if h:∃n,fW t body n ρ st≠.bad then fW t body h.choose ρ st else .bad
theorem oG(t:FT)(g:FS):∀(n:Nat) (ρ:cw) (st:List am),fW t g n ρ st≠.bad->fW t g (n+1) ρ st=fW t g n ρ st
 |0,_,_,h=>absurd rfl h
 |n+1,ρ,st,h=>by
  unfold fW at h ⊢
  cases e:t ρ st with
  |ex c st1=>rfl
  |bad=>rfl
  |ok k st1=>
   rw[e]at h
   simp only[R.stmt_ok]at h ⊢
   cases k with
   |false=>rfl
   |true=>
    simp only[iC]at h ⊢
    cases e2:g ρ st1 with
    |nx ρ2 cV=>rw[e2]at h;exact oG t g n ρ2 cV h
    |ct ρ2 cV=>rw[e2]at h;exact oG t g n ρ2 cV h
    |_=>rfl
theorem xk{t:FT}{n m:Nat}{ρ:cw}(h:fW t g n ρ st≠.bad)(hm:n<=m):fW t g m ρ st=fW t g n ρ st:=by
 induction hm with
 |refl=>rfl
 |@step m _ ih=>rw[oG t g m ρ st (by rw[ih];exact h),ih]
theorem EC{t:FT}{ρ:cw}{r:RS}(h:fW t g n ρ st=r)(hr:r≠.bad):oF t g ρ st=r:=by
 have hx:∃n,fW t g n ρ st≠.bad:=⟨n,by rw[h];exact hr⟩
 unfold oF
 rw[dif_pos hx]
 have c:=hx.choose_spec
 have a:=xk c (Nat.le_max_left hx.choose n)
 have b:=xk (n:=n) (m:=max hx.choose n) (by rw[h];exact hr) (Nat.le_max_right _ _)
 rw[<- a,b,h]
theorem zX{t:FT}{D:zl}:∀(n:Nat) (σ:St) (H:Hp) (μ:List Addr) (ρ:cw) (st:List am),Rl X μ ρ st σ H->SK X μ H D (fW t g n ρ st)->E_ (tT X t) (VM X g) D σ H:=by
 intro n σ H μ ρ st l h
 refine⟨fun m σ' H'=>∃μ' ρ' bz,Rl X μ' ρ' bz σ' H'/\SK X μ' H' D (fW t g m ρ' bz),⟨n,μ,ρ,st,l,h⟩,?_⟩
 rintro m σ' H' ⟨μ',ρ',bz,l',h'⟩
 cases m with
 |zero=>exact h'.elim
 |succ m=>
  refine⟨μ',ρ',bz,l',RK.stmt h' l' fun μ1 st1 k v H1 p1 x1 l1 q1 h1=>?_⟩
  cases q1
  cases k with
  |false=>exact h1 μ1 σ' H1 (ah _) d_.refl l1
  |true=>
   refine⟨fun σ2 H2=>∃μ2 ρ2 cV,Rl X μ2 ρ2 cV σ2 H2/\SK X μ2 H2 D (fW t g m ρ2 cV),fun σ2 H2 z=>⟨m,cJ m,z⟩,μ1,ρ',st1,l1,?_⟩
   simp only[iC]at h1
   cases e:g ρ' st1 with
   |nx ρ3 lZ=>rw[e]at h1;exact fun μ4 σ4 H4 p4 x4 l4=>⟨μ4,ρ3,lZ,l4,SK.mono h1 p4 x4⟩
   |ct ρ3 lZ=>rw[e]at h1;exact fun μ4 σ4 H4 p4 x4 l4=>⟨μ4,ρ3,lZ,l4,SK.mono h1 p4 x4⟩
   |bk ρ3 lZ=>rw[e]at h1;exact h1
   |rt w lZ=>rw[e]at h1;exact h1
   |ex c ρ3 lZ=>rw[e]at h1;exact h1
   |bad=>rw[e]at h1;exact h1
theorem Gf{t:FT}(hc:ST X c t)(hb:SB X body g)(hp:PassesOwn (model X.prog X.w) X.A X.env X.xe:=by passes_own):SS X (.While c body [] pos) (oF t g):=⟨(Fa hp hc.h hb.h).imp fun D σ H h=>by
 obtain⟨μ,ρ,st,l,h⟩:=h
 unfold oF at h
 by_cases hx:∃n,fW t g n ρ st≠.bad
 ·rw[dif_pos hx]at h;exact zX _ σ H μ ρ st l h
 ·rw[dif_neg hx]at h;exact h.elim⟩
def Gh(fe:FE):FI:=fun ρ st=>(fe ρ st).bind fun x st=>match x with
 |.tup ws=>.ok (ws,none) st
 |_=>.bad
theorem Gi(he:SE X e fe):SI X tg e (Gh fe):=⟨(N_ he.h).imp fun σ H R h=>by
 obtain⟨μ,ρ,st,l,h⟩:=h
 refine⟨μ,ρ,st,l,RK.bind h l fun μ1 st1 x v H1 p1 x1 l1 q1 h1=>?_⟩
 cases x with
 |tup ws=>
  obtain⟨p,vs,rfl,hS,r⟩:=q1.tupE
  refine⟨p,rfl,⟨vs,hS⟩,h1 μ1 _ H1 (ah _) d_.refl l1.sto fun i μ' bz H' pp xx S _=>⟨fun w hw=>?_,fun hl=>⟨vs,xx _ _ hS,by rw[<- r.len];exact hl⟩⟩⟩
  have r':=r.mono pp xx
  obtain⟨v,g1,g2⟩:=r'.get hw
  refine⟨⟨vs,v,xx _ _ hS,g1⟩,fun y H'' hy=>?_⟩
  obtain⟨rfl,hy⟩:=hy
  have:=hy vs (xx _ _ hS)
  rw[g1]at this;cases this
  exact⟨d_.refl,S,g2⟩
 |_=>exact h1.elim⟩
def Ma(fe:FE):FI:=fun ρ st=>(fe ρ st).bind fun x st=>match x with
 |.loc n=>(match lstOf st n with
  |some ws=>.ok (ws,some (n,ws)) st
  |none=>.bad)
 |_=>.bad
theorem Pg(he:SE X e fe):SI X tg e (Ma fe):=⟨(JZ he.h).imp fun σ H R h=>by
 obtain⟨μ,ρ,st,l,h⟩:=h
 refine⟨μ,ρ,st,l,RK.bind h l fun μ1 st1 x v H1 p1 x1 l1 q1 h1=>?_⟩
 cases x with
 |loc n=>
  obtain⟨a,ha,rfl⟩:=q1.locE
  simp only at h1
  cases e1:lstOf st1 n with
  |none=>rw[e1]at h1;exact h1.elim
  |some ws=>
   rw[e1]at h1
   obtain⟨a',vs0,g0,hS0,r0⟩:=l1.sto.lstOf e1
   rw[ha]at g0;cases g0
   refine⟨a,rfl,⟨vs0,hS0⟩,h1 μ1 _ H1 (ah _) d_.refl l1.sto fun i μ' bz H' pp xx S ck=>?_⟩
   obtain⟨a2,vs,g2,hS,r⟩:=S.lstOf (show lstOf bz n=some ws from ck)
   have:μ'[n]?=some a:=pre_get pp ha
   rw[g2]at this;cases this
   refine⟨fun w hw=>?_,fun hl=>⟨vs,hS,by rw[<- r.len];exact hl⟩⟩
   obtain⟨v,g1,g3⟩:=r.get hw
   refine⟨⟨vs,v,hS,g1⟩,fun y H'' hy=>?_⟩
   obtain⟨rfl,hy⟩:=hy
   have:=hy vs hS
   rw[g1]at this;cases this
   exact⟨d_.refl,S,g3⟩
 |_=>exact h1.elim⟩
noncomputable def fP(lo:Int)(n:Nat):List W:=(List.range n).map fun(i:Nat)=>W.int (lo+i)
theorem dQ(lo:Int)(n:Nat):(fP lo n).length=n:=by simp[fP]
theorem BH{lo:Int}:yg X (UN lo n) (fP lo n,none) μ H:=fun i μ' bz H' pp xx S _=>by
 refine⟨fun w hw=>?_,fun hl=>by rw[dQ]at hl;exact hl⟩
 have hi:i<n:=by
  have:=(ac.mp hw).1
  rw[dQ]at this;exact this
 refine⟨hi,fun y H'' hy=>?_⟩
 obtain⟨rfl,rfl⟩:=hy
 have e:w=.int (lo+i):=by
  unfold fP at hw
  rw[aj,aJ hi]at hw
  exact(aF hw).symm
 subst e
 exact⟨d_.refl,S,.int⟩
def cM(fs:FA):FI:=fun ρ st=>(fs ρ st).bind fun ws st=>match ws with
 |[.int j]=>if -(2^62)<=j/\j<2^62 then .ok (fP 0 j.toNat,none) st else .bad
 |_=>.bad
theorem ED(hm:X.mg "range"=none)(ha:SA X [a] fs)(hg:Gl X "range":=by rfl)(hs:starEach [a] X.env=[(false,eval a X.env)]:=by rfl):SI X tg (.Call (.Name "range" p) [a] [] pos) (cM fs):=⟨(D6 hg hm ha.h hs).imp fun σ H R h=>by
 obtain⟨μ,ρ,st,l,h⟩:=h
 refine⟨μ,ρ,st,l,RK.bind h l fun μ1 st1 x v H1 p1 x1 l1 q1 h1=>?_⟩
 split at h1
 ·obtain⟨y,rfl,ry⟩:=q1.one
  split at h1
  ·rename_i c
   exact⟨_,by rw[ry.intE],c.1,c.2,h1 μ1 _ H1 (ah _) d_.refl l1.sto BH⟩
  ·exact h1.elim
 ·exact h1.elim⟩
end
mutual
noncomputable def W.und(n:Nat):W->Bool
 |.loc m=>decide (m<n)
 |.tup ws=>undWs n ws
 |_=>true
noncomputable def undWs(n:Nat):List W->Bool
 |[]=>true
 |w::ws=>w.und n&&undWs n ws
end
def am.und(n:Nat):am->Bool
 |.lst ws=>undWs n ws
 |.ro ws=>undWs n ws
 |.exc _=>true
 |.dct kvs=>undWs n (kvs.map fun p=>p.2)
 |.rod kvs=>undWs n (kvs.map fun p=>p.2)
 |.dcx kvs=>undWs n (kvs.map fun p=>p.2)
 |.rox kvs=>undWs n (kvs.map fun p=>p.2)
 |.obj _ fs=>undWs n (fs.map fun p=>p.2)
 |.tab _ _ _=>true
 |.pin _ _ _ w=>w.und n
 |.gone=>true
section
mutual
theorem bu.und:∀{w:W} {v:V},bu K μ H w v->w.und μ.length=true
 |.non,_,_=>by simp[W.und]
 |.bl _,_,_=>by simp[W.und]
 |.int _,_,_=>by simp[W.und]
 |.str _,_,_=>by simp[W.und]
 |.tup _,_,r=>by obtain⟨p,vs,_,_,c⟩:=r.tupE;unfold W.und;exact RelWs.und c
 |.loc _,_,r=>by obtain⟨a,e,_⟩:=r.locE;unfold W.und;exact bf (ac.mp e).1
theorem RelWs.und:∀{ws:List W} {vs:List V},RelWs K μ H ws vs->undWs μ.length ws=true
 |[],_,_=>by unfold undWs;rfl
 |_::_,_,r=>by obtain⟨x,xs,_,b,c⟩:=r.consE;unfold undWs;rw[bu.und b,RelWs.und c];rfl
end
mutual
theorem bu.take:∀{w:W} {v:V},bu K μ H w v->w.und n=true->bu K (μ.take n) H w v
 |.non,_,r,_=>by rw[r.nonE];exact .non
 |.bl _,_,r,_=>by rw[r.blE];exact .bl
 |.int _,_,r,_=>by rw[r.intE];exact .int
 |.str _,_,r,_=>by rw[r.strE];exact .str
 |.tup _,_,r,b=>by obtain⟨p,vs,rfl,h,c⟩:=r.tupE;unfold W.und at b;exact .tupI h (RelWs.takeN c b)
 |.loc _,_,r,b=>by obtain⟨a,e,rfl⟩:=r.locE;unfold W.und at b;exact .locI (by rw[dh (l5 b)];exact e)
theorem RelWs.takeN:∀{ws:List W} {vs:List V},RelWs K μ H ws vs->undWs n ws=true->RelWs K (μ.take n) H ws vs
 |[],_,r,_=>by rw[r.nilE];exact .nilI
 |_::_,_,r,b=>by
  obtain⟨x,xs,rfl,b1,c1⟩:=r.consE
  unfold undWs at b
  rw[bX]at b
  exact .consI (bu.take b1 b.1) (RelWs.takeN c1 b.2)
end
theorem KX.und_w(k:KX)(n:Nat):k.w.und n=true:=by
 have hi:∀ks:List Int,undWs n (ks.map W.int)=true:=fun ks=>by
  induction ks with
  |nil=>rfl
  |cons a l ih=>show(true&&undWs n (l.map W.int))=true;rw[ih];rfl
 cases k with
 |bo b=>rfl
 |fl ks=>unfold KX.w W.und;exact hi ks
 |pr i ks=>unfold KX.w W.und undWs;rw[show(W.int i).und n=true from rfl];unfold undWs;rw[show(W.tup (ks.map W.int)).und n=true by unfold W.und;exact hi ks];rfl
theorem vh:∀{kvs:List (KX×W)} {es:List DictEntry},Paired (zQ K μ H) kvs es->undWs μ.length (kvs.map fun p=>p.2)=true
 |_,_,.nil=>rfl
 |_,_,.cons r t=>by
  obtain⟨_,_,v,h,_⟩:=r
  show(_&&undWs _ _)=true
  rw[h.und,vh t];rfl
theorem sF:∀{kvs:List (KX×W)} {es:List DictEntry},Paired (zQ K μ H) kvs es->undWs n (kvs.map fun p=>p.2)=true->Paired (zQ K (μ.take n) H) kvs es
 |_,_,.nil,_=>.nil
 |_,_,.cons r t,b=>by
  obtain⟨a,⟨u,c,d⟩,v,h,g⟩:=r
  have b:(_&&undWs n _)=true:=b
  rw[bX]at b
  exact .cons ⟨a,⟨u,bu.take c (KX.und_w _ n),d⟩,v,bu.take h b.1,g⟩ (sF t b.2)
theorem lR.und{c:am}(r:lR K mg μ H c a):c.und μ.length=true:=by
 cases c with
 |lst ws=>obtain⟨vs,_,y⟩:=r;exact y.und
 |ro ws=>obtain⟨vs,_,y⟩:=r;exact y.und
 |exc c=>rfl
 |dct kvs=>obtain⟨vs,_,y⟩:=r;exact y.und
 |rod kvs=>obtain⟨vs,_,_,y⟩:=r;exact y.und
 |dcx kvs=>obtain⟨es,_,_,y,_⟩:=r;exact vh y
 |rox kvs=>obtain⟨es,_,_,_,y,_⟩:=r;exact vh y
 |obj _ fs=>obtain⟨_,_,vs,_,_,y⟩:=r;exact y.und
 |tab _ _ _=>rfl
 |pin _ _ _ _=>obtain⟨_,_,_,v,y,_⟩:=r;exact y.und
 |gone=>rfl
theorem lR.take{c:am}(r:lR K mg μ H c a)(b:c.und n=true):lR K mg (μ.take n) H c a:=by
 cases c with
 |lst ws=>obtain⟨vs,x,y⟩:=r;exact⟨vs,x,y.takeN b⟩
 |ro ws=>obtain⟨vs,x,y⟩:=r;exact⟨vs,x,y.takeN b⟩
 |exc c=>exact r
 |dct kvs=>obtain⟨vs,x,y⟩:=r;exact⟨vs,x,y.takeN b⟩
 |rod kvs=>obtain⟨vs,o,x,y⟩:=r;exact⟨vs,o,x,y.takeN b⟩
 |dcx kvs=>obtain⟨es,x,d,y,z⟩:=r;exact⟨es,x,d,sF y b,z⟩
 |rox kvs=>obtain⟨es,o,x,d,y,z⟩:=r;exact⟨es,o,x,d,sF y b,z⟩
 |obj _ fs=>obtain⟨C,dx,vs,m,x,y⟩:=r;exact⟨C,dx,vs,m,x,y.takeN b⟩
 |tab _ _ _=>exact r
 |pin _ _ _ _=>obtain⟨ea,p,g,v,y,z⟩:=r;exact⟨ea,p,g,v,y.take b,z⟩
 |gone=>trivial
end
theorem fH.ex{w:World}{o:HO}(x:fH P w H h a o):∃ob,h.get? a=some ob:=by
 cases o with
 |lst xs=>obtain⟨_,_,_,_,e⟩:=x;exact⟨_,e⟩
 |tup xs=>obtain⟨_,_,_,o,e,_⟩:=x;exact⟨_,e⟩
 |dK kvs=>obtain⟨_,_,_,_,o,_,_,e,_⟩:=x;exact⟨_,e⟩
 |dT kvs=>obtain⟨_,_,_,_,o,_,_,e,_⟩:=x;exact⟨_,e⟩
 |set S n=>obtain⟨o,_,_,_,e,_⟩:=x;exact⟨_,e⟩
 |ins C dx fs=>obtain⟨_,_,_,e,_⟩:=x;exact⟨_,e⟩
 |own y=>obtain⟨_,e⟩:=x;exact⟨_,e⟩
 |xd fs=>obtain⟨_,⟨_,_,_,e,_⟩,_⟩:=x;exact⟨_,e⟩
 |rng lo hi=>obtain⟨_,_,_,e⟩:=x;exact⟨_,e⟩
 |frz ob u=>obtain⟨e,_⟩:=x;exact⟨_,e⟩
 |tbl ps=>exact⟨_,(show h.get? a=some _ from x)⟩
 |met f y=>exact⟨_,(show h.get? a=some _ from x)⟩
 |ext φ=>obtain⟨_,⟨_,e⟩,_⟩:=x;exact⟨_,e⟩
def Mb(st bz:List am)(ws:List W):Prop:=undWs st.length ws=true/\st.length<=bz.length/\∀(i:Nat),i<st.length->bz[i]?=st[i]?\/∃c,bz[i]?=some c/\c.und st.length=true
open Classical in
noncomputable def ja(st bz:List am)(ws:List W):List am:=if Mb st bz ws then bz.take st.length else bz
theorem vi{ws:List W}{vs:List V}(S:iy K mg μ st H)(S':iy K mg μ' bz H')(p:μ <+: μ')(r:RelWs K μ' H' ws vs) :
  ∃μ2,μ <+: μ2/\iy K mg μ2 (ja st bz ws) H'/\RelWs K μ2 H' ws vs:=by
 unfold ja
 by_cases k:Mb st bz ws
 ·rw[au k]
  obtain⟨k1,k2,k3⟩:=k
  have e:μ'.take st.length=μ:=by
   obtain⟨t,rfl⟩:=p
   rw[S.len,lG]
  refine⟨μ'.take st.length,by rw[e];exact ah _,⟨fun i j a ci cj h1 h2 r1 r2 m1 m2=>?_,by rw[aM,aM,S'.len],fun i c a h1 h2=>?_⟩,r.takeN k1⟩
  ·have hi:i<st.length:=by have:=(ac.mp h1).1;rw[aM]at this;omega
   have hj:j<st.length:=by have:=(ac.mp h2).1;rw[aM]at this;omega
   rw[dh hi]at h1 m1
   rw[dh hj]at h2 m2
   exact S'.nd i j a ci cj h1 h2 r1 r2 m1 m2
  ·have hi:i<st.length:=by have:=(ac.mp h1).1;rw[aM]at this;omega
   rw[dh hi]at h1 h2
   refine(S'.at' i c a h1 h2).take ?_
   rcases k3 i hi with q|⟨c',q,b⟩
   ·rw[h1]at q
    obtain⟨a0,g0,r0⟩:=S.get q.symm
    have:=r0.und
    rw[S.len];exact this
   ·rw[h1]at q;cases q;exact b
 ·rw[ax k]
  exact⟨μ',p,S',r⟩
def de(N:Nat)(body:FS)(ws:List W)(st:List am):R W:=match body (ws.map some++List.replicate (N-ws.length) none) st with
 |.rt w bz=>.ok w (ja st bz [w])
 |.nx _ bz=>.ok .non (ja st bz [])
 |.ex c _ bz=>.ex c (ja st bz [])
 |_=>.bad
def iJ(P:Program)(w:World):Ea:=fun outer H s E e s'=>∃x C t B H',e=.ref x/\E C none H'/\s'.os=s.os/\AllBare s'.gens/\Un (uC outer) [] H H' s.heap s'.heap/\p5 P w H' s'.heap/\H' x=none/\Heap.FlyingW B outer x C (.ref t) s'.heap /\
 ∀b o,s'.heap.get? b=some o->(H' b≠none\/((∃o0,s.heap.get? b=some o0)/\b∉uC outer))->B.get? b=some o
def jb(K:Frag)(mg:Str->Option Value)(n:Nat)(F:List W->List am->R W):Sp:=fun vs H Q E=>vs.length=n/\∃μ ws st,iy K mg μ st H/\RelWs K μ H ws vs/\(match F ws st with
 |.ok w bz=>∀μ' v H',μ <+: μ'->d_ K H H'->iy K mg μ' bz H'->bu K μ' H' w v->Q v H'
 |.ex c bz=>∀C μ' H',mg c=some C->μ <+: μ'->d_ K H H'->iy K mg μ' bz H'->E C none H'
 |.bad=>False)
theorem xi.noted{c:Str}{e:Value}{Q:Unit->Shared->Prop}{E:Value->Shared->Prop}{M:Model}{outer:List Env}(f:xi X ag σ c H e s)(mP:X.stack=X.env::outer)(wn:X.env.frame=some X.env.locals)(hA:X.A.frames=some X.stack)
  (h:∀x C t B h',e=.ref x->X.mg c=some C->H x=none->Heap.FlyingW B X.stack x C (.ref t) h'->s.heap.UpToSlots h' ->
   (∀b o,s.heap.get? b=some o->(H b≠none\/((∃o0,X.s₀.heap.get? b=some o0)/\b∉X.fs/\b∉X.ex)\/((∃y,X.env.cells.lookup y=some b)/\b∉uC X.stack)\/∃p∈X.pn++ag,p.1=b)->B.get? b=some o)->Q () { s with heap:=h' }) :
  wpAny M X.A (leaving X.env e) Q E s:=by
 obtain⟨x,C,t,B,rfl,hC,hx,st,nx,ff,tr,cov⟩:=f.ex
 rw[mP]at ff hA
 rcases tr with tr|⟨oe,vs,he,rfl,_,hd,h1,h0⟩|⟨L,hL,tr⟩
 ·refine wpAny_leaving_nextW hA ff wn tr st nx fun h' hL=>?_
  obtain⟨k1,k2,k3,k4⟩:=hL
  exact h x C t B h' rfl hC hx ⟨k1,nx,by rw[mP];exact k2,k3⟩ k4 cov
 ·refine wpAny_leaving_firstW hA ff wn he st nx hd h1 h0 fun h' hL=>?_
  obtain⟨k1,k2,k3,k4⟩:=hL
  exact h x _ t B h' rfl hC hx ⟨k1,nx,by rw[mP];exact k2,k3⟩ k4 cov
 ·unfold leaving
  refine aa (wpAny_noteFrame_againW hL tr (wpAny_landsW ⟨st,nx,ff,tr⟩ fun h' fl up=>?_))
  exact h x C t B h' rfl hC hx (by rw[mP];exact fl) up cov
theorem xi.leaves{c:Str}{e:Value}{E:XK}{E':Value->Shared->Prop}(f:xi X ag σ c H e s)(mP:X.stack=X.env::X.outer)(wn:X.env.frame=some X.env.locals)(hA:X.A.frames=some X.stack)(zg:X.ex=[])
  (hE:∀C,X.mg c=some C->E C none H):wpAny M X.A (leaving X.env e) (fun _ s''=>iJ X.prog X.w X.outer X.H₀ X.s₀ E e s'') E' s:=by
 refine f.noted mP wn hA fun x C t B h' he hC hx fl up cov=>?_
 have I:=f.inv
 have un:=I.base
 rw[zg]at un
 have fsE:X.fs=uC X.outer:=rfl
 obtain⟨f1,f2,f3,f4⟩:=fl
 rw[mP]at f3
 obtain⟨_,_,f3'⟩:=f3
 have frames:∀b∈uC X.outer,∀o,s.heap.get? b=some o->∃sl,h'.get? b=some { o with slots:=sl }:=fun b hb o ho=>by
  obtain⟨_,o',ho',hd⟩:=I.funs.mem hb
  rw[ho]at ho';cases ho'
  exact up b o ho hd
 have kept:∀b o,s.heap.get? b=some o->(∃o0,X.s₀.heap.get? b=some o0)->b∉uC X.outer->h'.get? b=some o:=fun b o ho h0 hb=>f1 b o (cov b o ho (.inr (.inl ⟨h0,hb,by rw[zg];simp⟩)))
 have keptH:∀b o,s.heap.get? b=some o->H b≠none->h'.get? b=some o:=fun b o ho h0=>f1 b o (cov b o ho (.inl h0))
 refine⟨x,C,t,B,H,he,hE C hC,I.os,I.bare,⟨fun b o q n hb hx=>?_,fun b o q n hb hx=>?_,fun b o q n hx=>un.free b o q n hx,fun b o q hx=>?_,un.tups,un.frzs,un.tbls⟩,fun b u hb=>?_,hx,⟨f1,f2,f3',f4⟩,fun b o ho hr=>?_⟩
 ·exact kept b o (un.keep b o q n hb hx) ⟨o,q⟩ hb
 ·obtain⟨sl,q1⟩:=un.slot b o q n hb hx
  obtain⟨sl2,q2⟩:=frames b hb _ q1
  exact⟨sl2,q2⟩
 ·obtain⟨o',q1⟩:=un.there b o q hx
  by_cases hb:b∈uC X.outer
  ·obtain⟨sl2,q2⟩:=frames b hb _ q1;exact⟨_,q2⟩
  ·exact⟨o',kept b o' q1 ⟨o,q⟩ hb⟩
 ·refine(I.hok b u hb).stay (fun c v hc q=>?_) (fun _ q=>q) fun _ _ q=>q
  refine keptH c v q ?_
  rcases hc with rfl|hc
  ·rw[hb];simp
  ·rw[hc];simp
 ·rcases hr with hr|⟨⟨o0,h0⟩,hb⟩
  ·cases hu:H b with
   |none=>exact absurd hu hr
   |some u=>
    have lt:=I.hok.lt hu
    obtain⟨ob,DV⟩:∃ob,s.heap.get? b=some ob:=by
     exact(I.hok b u hu).ex
    have:=keptH b ob DV hr
    rw[ho]at this;cases this
    exact cov b o DV (.inl hr)
  ·obtain⟨o',q1⟩:=un.there b o0 h0 (by simp)
   have:=kept b o' q1 ⟨o0,h0⟩ hb
   rw[ho]at this;cases this
   exact cov b o q1 (.inr (.inl ⟨⟨o0,h0⟩,hb,by rw[zg];simp⟩))
structure dy(P:Program)(w:World)(K:Frag)(mg:Str->Option Value)(base:Heap)(k:Nat)(x:Str)(n:Nat)(F:List W->List am->R W):Prop where
 ex:∃(f:Addr) (fd:FuncData) (ps:List Str),mg x=some (.ref f)/\keepIn K (.ref f)=true/\ps.length=n/\pE K fd ps []/\cX P w K mg base (iJ P w) k f fd ps (jb K mg n F)
theorem dy.mono{w:World}{k:Nat}{x:Str}(h:dy P w K mg base j x n F)(hj:j<=k):dy P w K mg base k x n F:=by
 obtain⟨f,fd,ps,a,b,c,d,e⟩:=h.ex
 exact⟨f,fd,ps,a,b,c,d,e.mono hj⟩
def cb(n:Nat)(F:List W->List am->R W)(fs:FA):FE:=fun ρ st=>(fs ρ st).bind fun ws st=>if ws.length=n then F ws st else .bad
section
theorem Gj{k:Nat}{f:Addr}{Q:VK}{us:List Value}{vs:List V}
  (Fn:cX X.prog X.w X.K X.mg X.base (iJ X.prog X.w) k f fd ps (jb X.K X.mg n F)) (hn:ps.length=n) (hr:g_ k X.A) (hb:pE X.K fd ps []) (I:bA X ag σ H s) (S:iy X.K X.mg μ st H) (r:RelWs X.K μ H ws vs) (rv:cu vs us) (hl:ws.length=n)
  (h:RK X (sy X) μ σ H Q (F ws st)):wpAny (model X.prog X.w) X.A (call (.ref f) us) (EP X ag σ Q) X.xe s:=by
 have hl':(us++([]:List Value)).length=ps.length:=by rw[ce,<- rv.length,<- r.len,hl,hn]
 cases e:F ws st with
 |bad=>rw[e]at h;exact h.elim
 |ok w bz=>
  rw[e]at h
  refine qr (ic (Fn.run X.A X.stack s H ⟨us,[]⟩ us vs Q (fun _ _ _=>False) hr I.env0 (by have:=hb s us I.kIn hl';rwa[ce]at this) rv ⟨by rw[<- r.len];exact hl,μ,ws,st,S,r,by rw[e];exact h⟩) fun r s' hq=>?_)
  cases r with
  |error e=>obtain⟨_,_,_,_,_,_,z,_⟩:=hq;exact z.elim
  |ok fl=>
   cases fl with
   |ret u=>exact I.after hq
   |next=>exact False.elim hq
   |brk=>exact False.elim hq
   |cont=>exact False.elim hq
 |ex c bz=>
  rw[e]at h
  refine qr (ic (Fn.run X.A X.stack s H ⟨us,[]⟩ us vs (fun _ _=>False) (fun C _ H'=>X.mg c=some C/\∃μ',μ <+: μ'/\d_ X.K H H'/\iy X.K X.mg μ' bz H') hr I.env0 (by have:=hb s us I.kIn hl';rwa[ce]at this) rv
   ⟨by rw[<- r.len];exact hl,μ,ws,st,S,r,by rw[e];exact fun C μ' H' hC p x S'=>⟨hC,μ',p,x,S'⟩⟩) fun r s' hq=>?_)
  cases r with
  |ok fl=>
   cases fl with
   |ret u=>obtain⟨_,_,_,_,_,_,_,z⟩:=hq;exact z.elim
   |next=>exact False.elim hq
   |brk=>exact False.elim hq
   |cont=>exact False.elim hq
  |error ev=>
   obtain⟨x,C,t,B,H',rfl,⟨hC,μ',p,xx,S'⟩,os,bare,un,hok,hx,fl,cov⟩:=hq
   have I':bA X ag σ H' s':=I.call' os un hok bare fun b hb=>absurd hb (by simp)
   refine h ag μ' H' (.ref x) s' p xx S' ⟨I',x,C,t,B,rfl,hC,hx,fl.1,fl.2.1,fl.2.2.1,.inl fl.2.2.2,fun b o ho hrel=>?_⟩
   refine cov b o ho ?_
   rcases hrel with q|⟨⟨o0,h0⟩,hb,hbx⟩|⟨⟨y,hy⟩,hb⟩|⟨pp,hp,rfl⟩
   ·exact .inl q
   ·refine .inr ⟨?_,fun z=>?_⟩
    ·obtain⟨o',q1⟩:=I.base.there b o0 h0 hbx
     exact⟨o',q1⟩
    ·rcases aH.mp (I.stkSub b z)with z|z
     ·rw[z]at h0
      exact absurd (aU (aC h0) I.ok.above) (cW _)
     ·exact hb z
   ·obtain⟨v,ov,hov,_⟩:=I.cell y b hy
    exact .inr ⟨⟨_,hov⟩,hb⟩
   ·obtain⟨g1,g2,g3,g4,_⟩:=I.pin pp hp
    refine .inr ⟨⟨_,g1⟩,fun z=>?_⟩
    rcases aH.mp (I.stkSub _ z)with z|z
    ·exact g3 z
    ·exact g4 z
variable{x:Str}{fs:FA}
theorem S8{k k':Nat}(Fn:dy X.prog X.w X.K X.mg X.base k x n F)(hr:g_ k' X.A)(hk:k<=k')(ha:SA X (e::es) fs)(hg:Gl X x:=by rfl)(Jt:(x==("__debug__":Str))=false:=by decide)
  (he:starEach (e::es) X.env=(false,eval e X.env)::starEach es X.env:=by rfl) (qu:(backTo pos (starEach es X.env)).any (·.1)=false:=by rfl):SE X (.Call (.Name x p) (e::es) [] pos) (cb n F fs):=⟨by
 intro ag s σ H Q I h
 obtain⟨f,fd,ps,hm,hkp,hn,hb,Fo⟩:=(Fn.mono hk).ex
 refine fw (uD I hg hm ?_ Jt)
 obtain⟨μ,ρ,st,l,h⟩:=h
 have h':Sj X fs σ H fun vs H1=>∃μ1 st1 ws,Rl X μ1 ρ st1 σ H1/\RelWs X.K μ1 H1 ws vs/\RK X (sy X) μ1 σ H1 Q (if ws.length=n then F ws st1 else .bad):=
  ⟨μ,ρ,st,l,RK.bind h l fun μ1 st1 x v H1 p1 x1 l1 q1 h1=>⟨μ1,st1,x,l1,q1,h1⟩⟩
 refine PySem.W.callWith_K (h₀:=X.base) I.ok.mod.kin hkp (gg (ha.h pos ag s σ H _ I h') fun us s1 ⟨vs,H1,I1,r,μ1,st1,ws,l1,r1,q⟩=>⟨I1.kIn,?_⟩) he qu
 by_cases c:ws.length=n
 ·rw[au c]at q
  exact Gj Fo hn hr hb I1 l1.sto r1 r c q
 ·rw[ax c]at q;exact q.elim⟩
end
theorem KP{w:World}{x f':Str}{st:Stmt}{f:Addr}{N:List Str}{k:Nat}{g:FS}(F:i9 K x f' st f fd)(S:bj N ps (aR st))(hn:ps.length=n)
  (AZ:∀(fO:Value) (A:Around) (outer:List Env) (s:Shared) (H:Hp) (E:XK),fd.code=fO->g_ k (A.deeper (envOfC f' (aR st) s.heap.objs.size f fO)) ->
   SB (Bp (iJ P w) P w K mg base N f' (aR st) f fO A outer s H E) (gi st) g):cX P w K mg base (iJ P w) (k+1) f fd ps (jb K mg n (de N.length g)):=by
 obtain⟨oc,od,kV,se,pm,an,fO,ct,NB,rfl,lk,E2⟩:=F.ex
 refine RP lk E2 S (fun vs H Q E h=>by rw[hn];exact h.1) fun A outer s H vs Q E hr NL=>?_
 obtain⟨hl,μ,ws,Vb,Sr,r,h⟩:=NL
 refine⟨_,(AZ fO A outer s H E rfl hr).h,μ,ws.map some++List.replicate (N.length-ws.length) none,Vb,⟨?_,Sr⟩,?_⟩
 ·unfold tF
  rw[<- r.len]
  have base:∀(ws:List W) (vs:List V) (m:Nat),RelWs K μ H ws vs->Paired (fun(o:Option W) (s:Option V)=>∀w,o=some w->∃v,s=some v/\bu K μ H w v) (ws.map some++List.replicate m none) (vs.map some++List.replicate m none):=by
   intro ws
   induction ws with
   |nil=>
    intro vs m r
    rw[r.nilE]
    induction m with
    |zero=>exact .nil
    |succ m ih=>exact .cons (fun w z=>nomatch z) ih
   |cons w ws ih=>
    intro vs m r
    obtain⟨y,ys,rfl,ry,rys⟩:=r.consE
    exact .cons (fun w' z=>⟨y,rfl,by cases z;exact ry⟩) (ih ys m rys)
  exact base ws vs _ r
 ·unfold de at h
  cases e:g (ws.map some++List.replicate (N.length-ws.length) none) Vb with
  |rt w bz=>
   rw[e]at h
   intro μ' v H' p x S' ql
   obtain⟨μ2,p2,S2,r2⟩:=vi Sr S' p (.consI ql .nilI)
   obtain⟨_,e2,r3⟩:=r2.one
   cases e2
   exact h μ2 v H' p2 x S2 r3
  |nx ρ' bz=>
   rw[e]at h
   intro μ' σ' H' p x l'
   obtain⟨μ2,p2,S2,_⟩:=vi (ws:=[]) (vs:=[]) Sr l'.sto p .nilI
   exact h μ2 .non H' p2 x S2 .non
  |ex c ρ' bz=>
   rw[e]at h
   intro ag μ' σ' H' ev s' p x l' fl
   obtain⟨μ2,p2,S2,_⟩:=vi (ws:=[]) (vs:=[]) Sr l'.sto p .nilI
   exact fl.leaves rfl rfl fl.inv.ok.frames rfl fun C hC=>h C μ2 H' hC p2 x S2
  |bk ρ' bz=>rw[e]at h;exact h.elim
  |ct ρ' bz=>rw[e]at h;exact h.elim
  |bad=>rw[e]at h;exact h.elim
theorem bV{w:World}{x f':Str}{st:Stmt}{f:Addr}{N:List Str}{k:Nat}{g:FS}(F:i9 K x f' st f fd)(S:bj N ps (aR st))(hn:ps.length=n)
  (AZ:∀(fO:Value) (A:Around) (outer:List Env) (s:Shared) (H:Hp) (E:XK),g_ k (A.deeper (envOfC f' (aR st) s.heap.objs.size f fO)) ->
   SB (Bp (iJ P w) P w K mg base N f' (aR st) f fO A outer s H E) (gi st) g):cX P w K mg base (iJ P w) (k+1) f fd ps (jb K mg n (de N.length g)):=KP F S hn fun fO A outer s H E _ hr=>AZ fO A outer s H E hr
theorem yh{w:World}{k:Nat}{x:Str}{st:Stmt}{f:Addr}{ps:List Str}
  (F:i9 K x x st f fd) (hm:mg x=some (.ref f)) (hn:ps.length=n)
  (hb:∀(kV se pm:Value) (an:Option Addr) (fO ct:Value) (us:List Value),us.length=ps.length->bindArgs (fnOf x x (hG st) (gi st) (aR st) .none kV se pm an fO ct) ⟨us,[]⟩=pure (ps.zip us))
  (ok:cX P w K mg base (iJ P w) k f fd ps (jb K mg n G)):dy P w K mg base k x n G:=⟨f,fd,ps,hm,F.kp,hn,F.binds hb,ok⟩
theorem RelWs.split:∀{as bs:List W} {vs:List V},RelWs K μ H (as++bs) vs->∃xs ys,vs=xs++ys/\RelWs K μ H as xs/\RelWs K μ H bs ys
 |[],_,vs,r=>⟨[],vs,rfl,.nilI,r⟩
 |w::as,bs,vs,r=>by
  obtain⟨x,xs,rfl,rx,rs⟩:=r.consE
  obtain⟨ys,zs,rfl,r1,r2⟩:=RelWs.split rs
  exact⟨x::ys,zs,rfl,.consI rx r1,r2⟩
section
variable{a b:Expr}{x:Str}{fa fb fe fo:FE}{fs:FA}{id:String}
structure Rh(X:Cx)(id:String)(F:W->List W->List am->R W):Prop where
 h:Ed X id (fun x vs H Q=>∃μ st wx ws,iy X.K X.mg μ st H/\bu X.K μ H wx x/\RelWs X.K μ H ws vs/\E3 X μ H Q (F wx ws st))
 n:∀x ws st,ue (F x ws st)
noncomputable def pJ(st:List am):W->Bool
 |.loc n=>(match st[n]? with|some (.lst _)=>true|_=>false)
 |_=>false
noncomputable def Gk:W->Bool
 |.str _=>true
 |_=>false
theorem zZ{w:W}{v:V}(S:iy X.K X.mg μ st H)(r:bu X.K μ H w v)(h:pJ st w=true):∃l ys,v=.ref l/\H l=some (.lst ys):=by
 cases w with
 |loc n=>
  obtain⟨a,ha,rfl⟩:=r.locE
  simp only[pJ]at h
  cases e1:st[n]? with
  |none=>rw[e1]at h;cases h
  |some cc=>
   rw[e1]at h
   cases cc with
   |lst ws=>obtain⟨a1,g1,vs,k1,_⟩:=S.get e1;rw[ha]at g1;cases g1;exact⟨_,vs,rfl,k1⟩
   |_=>cases h
 |_=>cases h
def pK(F:W->List W->List am->R W)(fo:FE)(fs:FA):FE:=fun ρ st=>(fo ρ st).bind fun x st=>if pJ st x then(fs ρ st).bind fun ws st=>F x ws st else .bad
def Gm(F:W->List W->List am->R W)(fo:FE)(fs:FA):FE:=fun ρ st=>(fo ρ st).bind fun x st=>if Gk x then(fs ρ st).bind fun ws st=>F x ws st else .bad
theorem VX{F:W->List W->List am->R W}(slot:Slot "list" name id)(AY:typeOf (.builtin id)=pure (.type "method_descriptor"))(hm:Rh X id F)(ho:SE X o fo)(ha:SA X (e::es) fs)
  (jX:attributeBase o name X.env (eval o X.env)=eval o X.env:=by rfl)
  (wb:((backTo dw (starEach (e::es) X.env)).all (fun x=>!x.1)&&(backToKw dw (keywordEach [] X.env)).all (fun x=>x.1.isSome)
   && decide ((e::es).length+([]:List Keyword).length+(if ([]:List Keyword).isEmpty then 0 else 1)<30))=true:=by rfl)
  (jZ:(fm.endLine==dw.line)=true:=by rfl) (hs:starEach (e::es) X.env=(false,eval e X.env)::starEach es X.env:=by rfl) (nj:(backTo dw (starEach es X.env)).any (·.1)=false:=by rfl) :
  SE X (.Call (.Attribute o name fm) (e::es) [] dw) (pK F fo fs):=⟨(R7 slot AY hm.h ho.h ha.h jX wb jZ hs nj).imp fun σ H Q h=>by
 obtain⟨μ,ρ,st,l,h⟩:=h
 refine⟨μ,ρ,st,l,RK.bind h l fun μ1 st1 x v H1 p1 x1 l1 q1 h1=>?_⟩
 by_cases c:pJ st1 x=true
 ·rw[au c]at h1
  refine⟨zZ l1.sto q1 c,μ1,ρ,st1,l1,RK.bind h1 l1 fun μ2 cV ws vs H2 p2 x2 l2 q2 h2=>?_⟩
  exact⟨μ2,cV,x,ws,l2.sto,q1.mono p2 x2,q2,sB h2 (hm.n _ _ _)⟩
 ·rw[ax c]at h1;exact h1.elim⟩
theorem S9{F:W->List W->List am->R W}(slot:Slot "list" name id)(AY:typeOf (.builtin id)=pure (.type "method_descriptor"))(hm:Rh X id F)(ho:SE X o fo)
  (jX:attributeBase o name X.env (eval o X.env)=eval o X.env:=by rfl) (jZ:(fm.endLine==dw.line)=true:=by rfl):SE X (.Call (.Attribute o name fm) [] [] dw) (pK F fo aB):=⟨(OK slot AY hm.h ho.h jX jZ).imp fun σ H Q h=>by
 obtain⟨μ,ρ,st,l,h⟩:=h
 refine⟨μ,ρ,st,l,RK.bind h l fun μ1 st1 x v H1 p1 x1 l1 q1 h1=>?_⟩
 by_cases c:pJ st1 x=true
 ·rw[au c]at h1
  exact⟨zZ l1.sto q1 c,μ1,st1,x,[],l1.sto,q1,.nilI,sB h1 (hm.n _ _ _)⟩
 ·rw[ax c]at h1;exact h1.elim⟩
theorem S_{F:W->List W->List am->R W}(slot:Slot "str" name id)(AY:typeOf (.builtin id)=pure (.type "method_descriptor"))(hm:Rh X id F)(ho:SE X o fo)(ha:SA X (e::es) fs)
  (jX:attributeBase o name X.env (eval o X.env)=eval o X.env:=by rfl)
  (wb:((backTo dw (starEach (e::es) X.env)).all (fun x=>!x.1)&&(backToKw dw (keywordEach [] X.env)).all (fun x=>x.1.isSome)
   && decide ((e::es).length+([]:List Keyword).length+(if ([]:List Keyword).isEmpty then 0 else 1)<30))=true:=by rfl)
  (jZ:(fm.endLine==dw.line)=true:=by rfl) (hs:starEach (e::es) X.env=(false,eval e X.env)::starEach es X.env:=by rfl) (nj:(backTo dw (starEach es X.env)).any (·.1)=false:=by rfl) :
  SE X (.Call (.Attribute o name fm) (e::es) [] dw) (Gm F fo fs):=⟨(R8 slot AY hm.h ho.h ha.h jX wb jZ hs nj).imp fun σ H Q h=>by
 obtain⟨μ,ρ,st,l,h⟩:=h
 refine⟨μ,ρ,st,l,RK.bind h l fun μ1 st1 x v H1 p1 x1 l1 q1 h1=>?_⟩
 cases x with
 |str z=>
  rw[au (show Gk (W.str z)=true from rfl)]at h1
  refine⟨⟨z,q1.strE⟩,μ1,ρ,st1,l1,RK.bind h1 l1 fun μ2 cV ws vs H2 p2 x2 l2 q2 h2=>?_⟩
  exact⟨μ2,cV,_,ws,l2.sto,q1.mono p2 x2,q2,sB h2 (hm.n _ _ _)⟩
 |_=>exact h1.elim⟩
def cf(x:W)(ws:List W)(st:List am):R W:=match x,ws with
 |.loc n,[y]=>(match st[n]? with
  |some (.lst zs)=>if zs.length<mj then .ok .non (st.set n (.lst (zs++[y])))else .bad
  |_=>.bad)
 |_,_=>.bad
theorem EE:Rh X "list.append" cf:=⟨fun ag s σ H x vs v us Q I rv rus zq=>by
 obtain⟨μ,st,wx,ws,S,rx,rs,q⟩:=zq
 unfold cf at q
 split at q
 ·rename_i n y
  obtain⟨y1,rfl,ry⟩:=rs.one
  split at q
  ·rename_i zs e1
   split at q
   ·rename_i c
    obtain⟨a1,g1,vs,k1,r⟩:=S.get e1
    obtain⟨b1,f1,rfl⟩:=rx.locE
    rw[g1]at f1;cases f1
    refine Bx ag s σ H _ _ v us Q I rv rus ⟨a1,vs,y1,rfl,rfl,k1,by rw[<- r.len];exact OP (gj c),fun H2 e=>?_⟩
    subst e
    exact q μ _ _ (ah _) (fS.but iB k1) (S.set e1 g1 k1 (r.app (.consI ry .nilI))) .non
   ·exact q.elim
  ·exact q.elim
 ·exact q.elim,fun x ws st=>by
 unfold cf
 repeat' split
 all_goals trivial⟩
def vj(x:W)(ws:List W)(st:List am):R W:=match x,ws with
 |.loc n,[]=>(match st[n]? with
  |some (.lst zs)=>qt zs.getLast? fun w=>.ok w (st.set n (.lst zs.dropLast))
  |_=>.bad)
 |_,_=>.bad
theorem Ph:Rh X "list.pop" vj:=⟨fun ag s σ H x vs v us Q I rv rus zq=>by
 obtain⟨μ,st,wx,ws,S,rx,rs,q⟩:=zq
 unfold vj at q
 split at q
 ·rename_i n
  have e0:=rs.nilE
  subst e0
  split at q
  ·rename_i zs e1
   obtain⟨a1,g1,vs,k1,r⟩:=S.get e1
   obtain⟨b1,f1,rfl⟩:=rx.locE
   rw[g1]at f1;cases f1
   cases hl:zs.getLast? with
   |none=>rw[hl]at q;exact q.elim
   |some w=>
    rw[hl]at q
    have hz:zs=zs.dropLast++[w]:=by
     obtain⟨ys,rfl⟩:=List.getLast?_eq_some_iff.mp hl
     simp
    rw[hz]at r
    obtain⟨xs',Ro,hx,r1,r3⟩:=r.split
    obtain⟨y',rfl,r2⟩:=r3.one
    refine Kq ag s σ H _ _ v us Q I rv rus ⟨a1,xs',y',rfl,rfl,by rw[<- hx];exact k1,fun H2 e=>?_⟩
    subst e
    have xx:d_ X.K H (ei H a1 (.lst xs')):=fS.but iB k1
    exact q μ _ _ (ah _) xx (S.set e1 g1 k1 r1) (r2.mono (ah _) xx)
  ·exact q.elim
 ·exact q.elim,fun x ws st=>by
 unfold vj qt
 repeat' split
 all_goals trivial⟩
noncomputable def nI:List W->Option (List (List Nat))
 |[]=>some []
 |.str l::ws=>(nI ws).map (l :: ·)
 |_=>none
theorem vm:∀{ws:List W} {ls:List (List Nat)} {vs:List V},nI ws=some ls->RelWs K μ H ws vs->vs=ls.map fun l=>V.str (tx l)
 |[],ls,vs,h,r=>by simp only[nI]at h;cases h;exact r.nilE
 |w::ws,ls,vs,h,r=>by
  obtain⟨x,xs,rfl,rx,rs⟩:=r.consE
  cases w with
  |str l=>
   simp only[nI]at h
   cases e:nI ws with
   |none=>rw[e]at h;cases h
   |some ls'=>rw[e]at h;cases h;rw[rx.strE,vm e rs];rfl
  |_=>simp only[nI]at h;cases h
theorem xn(ls:List (List Nat)):nI (ls.map W.str)=some ls:=by
 induction ls with
 |nil=>rfl
 |cons a r ih=>show(nI (r.map W.str)).map (a :: ·)=_;rw[ih];rfl
def mw(x:W)(ws:List W)(st:List am):R W:=match x,ws with
 |.str sep,[.loc n]=>qt (lstOf st n) fun zs=>qt (nI zs) fun ls=>if (ls.map List.length).sum+ls.length*sep.length<=mj then .ok (.str (oA sep ls)) st else .bad
 |_,_=>.bad
theorem C1:Rh X "str.join" mw:=⟨fun ag s σ H x vs v us Q I rv rus zq=>by
 obtain⟨μ,st,wx,ws,S,rx,rs,q⟩:=zq
 unfold mw at q
 split at q
 ·rename_i sep n
  obtain⟨y1,rfl,ry⟩:=rs.one
  cases e1:lstOf st n with
  |none=>rw[e1]at q;exact q.elim
  |some zs=>
   rw[e1,c5]at q
   cases e2:nI zs with
   |none=>rw[e2]at q;exact q.elim
   |some ls=>
    rw[e2,c5]at q
    split at q
    ·rename_i c
     obtain⟨a,vs,g,hS,r⟩:=S.lstOf e1
     obtain⟨b1,f1,rfl⟩:=ry.locE
     rw[g]at f1;cases f1
     have:=vm e2 r
     subst this
     exact Kk ag s σ H _ _ v us Q I rv rus ⟨sep,_,ls,rx.strE,rfl,hS,aL c (by decide),qE S q⟩
    ·exact q.elim
 ·exact q.elim,fun x ws st=>by
 unfold mw
 split
 ·exact pI fun _=>pI fun _=>by split<;>trivial
 ·trivial⟩
end
def oH(cap:List (Option Nat))(ρ:cw):cw:=cap.map fun o=>o.bind fun j=>(ρ[j]?).join
theorem Ta{ρ:cw}(r:Paired (fun(o:Option W) (s:Option V)=>∀w,o=some w->∃v,s=some v/\bu X.K μ H w v) ρ σ):∀cap:List (Option Nat),
  Paired (fun(o:Option W) (s:Option V)=>∀w,o=some w->∃v,s=some v/\bu X.K μ H w v) (oH cap ρ) (pF cap σ)
 |[]=>.nil
 |o::cap=>by
  refine .cons (fun w e=>?_) (Ta r cap)
  cases o with
  |none=>cases e
  |some j=>
   have e':(ρ[j]?).join=some w:=e
   have e2:ρ[j]?=some (some w):=by
    cases h:ρ[j]? with
    |none=>rw[h]at e';cases e'
    |some ow=>rw[h]at e';simp at e';rw[e']
   obtain⟨v,g1,g2⟩:=u8 r e2
   exact⟨v,by show(σ[j]?).join=some v;rw[g1];rfl,g2⟩
open Classical in
def kT(f:FG)(t:FT)(el:FE)(ck:Option (Nat×List W))(ρ0:cw):List W->List W->List am->R (List W)
 |[],f_,st=>if iA st ck then .ok f_ st else .bad
 |w::ws,f_,st=>if iA st ck then(match f w ρ0 with
  |none=>.bad
  |some ρ'=>(match t ρ' st with
   |.ok true st1=>(match el ρ' st1 with
    |.ok y cV=>kT f t el ck ρ0 ws (f_++[y]) cV
    |_=>.bad)
   |.ok false st1=>kT f t el ck ρ0 ws f_ st1
   |_=>.bad))else .bad
def dq(cap:List (Option Nat))(fi:FI)(f:FG)(t:FT)(el:FE):FE:=fun ρ st=>(fi ρ st).bind fun k st=>if k.1.length<=mj then(kT f t el k.2 (oH cap ρ) k.1 [] st).bind fun ys st=>kR ys st else .bad
def UT(X:Cx)(rel:List Addr->Hp->α->β->Prop)(f:cw->List am->R α)(σ:St)(H:Hp)(Q:β->Hp->Prop):Prop:=
 ∃μ ρ st a bz,Rl X μ ρ st σ H/\f ρ st=.ok a bz/\∀μ' b H',μ <+: μ'->d_ X.K H H'->iy X.K X.mg μ' bz H'->rel μ' H' a b->Q b H'
def iZ:FT:=fun _ st=>.ok true st
structure Pi(X:Cx)(es:List Expr)(f:FT):Prop where
 h:Fw X es (tT X f)
theorem Fw.imp{e:List Expr}{t t':TT}(h:Fw X e t)(i:∀σ H Q,t' σ H Q->t σ H Q):Fw X e t':=fun ag s σ H Q I q=>h ag s σ H Q I (i _ _ _ q)
theorem KQ:Pi X [] iZ:=⟨Kf.imp fun σ H Q h=>by
 obtain⟨μ,ρ,st,l,h⟩:=h
 exact h μ true H (ah _) d_.refl l.sto rfl⟩
theorem KR{t:FT}(hc:ST X c t):Pi X [c] t:=⟨Kg hc.h⟩
theorem Gn{fi:FI}{f:FG}{t:FT}{el:FE}{Q:VK}(h:tE X (dq cap fi f t el) σ H Q) :
  uX cap (fun σ H R=>tG X (S7 X) fi σ H R) (UR X f) (UT X OQ t) (UT X (sy X) el) σ H Q:=by
 obtain⟨μ,ρ,st,l,h⟩:=h
 refine⟨μ,ρ,st,l,RK.bind h l fun μ1 st1 k J H1 p1 x1 l1 wk h1=>?_⟩
 by_cases hz:k.1.length<=mj
 ·rw[au hz]at h1
  refine⟨fun i m ys H'=>i<=k.1.length/\m=k.1.length-i/\ys.length<=i/\∃μ' f_ bz,μ1 <+: μ'/\d_ X.K H1 H'/\Rl X μ' ρ bz σ H'/\RelWs X.K μ' H' f_ ys/\RK X (sy X) μ' σ H' Q ((kT f t el k.2 (oH cap ρ) (k.1.drop i) f_ bz).bind fun ys st=>kR ys st),
   ⟨_,cL _,rfl,aw _,μ1,[],st1,ah _,d_.refl,l1,.nilI,h1⟩,?_⟩
  rintro i m ys H' ⟨hi,rfl,hy,μ',f_,bz,pm,xm,lm,ra,hm⟩
  by_cases hlt:i<k.1.length
  ·rw[bd hlt]at hm
   unfold kT at hm
   by_cases ck:iA bz k.2
   ·rw[au ck]at hm
    obtain⟨go,yld⟩:=(wk i μ' bz H' pm xm lm.sto ck).1 _ (ae hlt)
    refine .inr ⟨go,fun x H2 hy2=>?_⟩
    obtain⟨y1,y2,y3⟩:=yld x H2 hy2
    cases hf:f k.1[i] (oH cap ρ)with
    |none=>rw[hf]at hm;exact hm.elim
    |some ρ2=>
     rw[hf]at hm
     simp only at hm
     have lb:Rl X μ' (oH cap ρ) bz (pF cap σ) H2:=⟨Ta (lm.to (ah _) y1 y2).env cap,y2⟩
     refine⟨μ',oH cap ρ,bz,k.1[i],ρ2,lb,y3,hf,fun σ2 l2=>?_⟩
     cases ht:t ρ2 bz with
     |bad=>rw[ht]at hm;exact hm.elim
     |ex c s=>rw[ht]at hm;exact hm.elim
     |ok kk cV=>
      rw[ht]at hm
      refine⟨μ',ρ2,bz,kk,cV,l2,ht,fun μ3 b3 H3 p3 x3 S3 q3=>?_⟩
      cases q3
      cases kk with
      |false=>
       exact⟨_,by omega,hlt,rfl,by omega,μ3,f_,cV,pm.trans p3,xm.trans (y1.trans x3),lm.to p3 (y1.trans x3) S3,ra.mono p3 (y1.trans x3),RK.mono hm p3 (y1.trans x3)⟩
      |true=>
       rw[au rfl]
       simp only at hm
       cases he:el ρ2 cV with
       |bad=>rw[he]at hm;exact hm.elim
       |ex c s=>rw[he]at hm;exact hm.elim
       |ok w lZ=>
        rw[he]at hm
        refine⟨μ3,ρ2,cV,w,lZ,l2.to p3 x3 S3,he,fun μ4 b4 H4 p4 x4 S4 q4=>?_⟩
        have pp:=p3.trans p4
        have xx:=y1.trans (x3.trans x4)
        exact⟨iM hy (aU hlt (mT hz)),_,by omega,hlt,rfl,by simp;omega,μ4,f_++[w],lZ,pm.trans pp,xm.trans xx,lm.to pp xx S4,(ra.mono pp xx).app (.consI q4 .nilI),RK.mono hm pp xx⟩
   ·rw[ax ck]at hm;exact hm.elim
  ·have hi':i=k.1.length:=by omega
   subst hi'
   rw[eW (aw _)]at hm
   unfold kT at hm
   by_cases ck:iA bz k.2
   ·rw[au ck]at hm
    obtain⟨z1,z2⟩:=qD lm.sto ra hm
    exact .inl ⟨(wk _ μ' bz H' pm xm lm.sto ck).2 (aw _),z1,fun p hp=>z2 p _ hp rfl⟩
   ·rw[ax ck]at hm;exact hm.elim
 ·rw[ax hz]at h1;exact h1.elim
section
variable{nm:List Str}{fi:FI}{f:FG}{t:FT}{el:FE}
theorem Wt{X X':Cx}{f:FE}(hK:X'.K=X.K)(hm:X'.mg=X.mg)(h:SE X' e f):QE X' e (UT X (sy X) f):=⟨h.h.imp fun σ H Q ⟨μ,ρ,st,a,bz,l,e,q⟩=>⟨μ,ρ,st,⟨by rw[hK];exact l.env,by rw[hK,hm];exact l.sto⟩,by rw[e];exact fun μ' b H' p x S r=>q μ' b H' p (by rw[<- hK];exact x) (by rw[<- hK,<- hm];exact S) (by show bu X.K μ' H' a b;rw[<- hK];exact r)⟩⟩
theorem Wu{X X':Cx}{e:List Expr}{f:FT}(hK:X'.K=X.K)(hm:X'.mg=X.mg)(h:Pi X' e f):VG X' e (UT X OQ f):=⟨h.h.imp fun σ H Q ⟨μ,ρ,st,a,bz,l,e,q⟩=>⟨μ,ρ,st,⟨by rw[hK];exact l.env,by rw[hK,hm];exact l.sto⟩,by rw[e];exact fun μ' b H' p x S r=>q μ' b H' p (by rw[<- hK];exact x) (by rw[<- hK,<- hm];exact S) r⟩⟩
theorem Wv{X X':Cx}(hK:X'.K=X.K)(hm:X'.mg=X.mg)(h:SG X' e f):QG X' e (UR X f):=⟨h.h.imp fun v σ H Q ⟨μ,ρ,st,w,ρ',l,r,e,q⟩=>⟨μ,ρ,st,w,ρ',⟨by rw[hK];exact l.env,by rw[hK,hm];exact l.sto⟩,by rw[hK];exact r,e,fun σ' l'=>q σ' ⟨by rw[<- hK];exact l'.env,by rw[<- hK,<- hm];exact l'.sto⟩⟩⟩
theorem Pj(hB:zy X.env.scope.names scope.names nm cap X.N=true)(lj:X.env.cells=cellsFrom m X.env.scope.names [])(hi:SI X tg c6 fi)(hg:∀cl C s0 H0 fp,SG (cS X nm scope cl C s0 H0 fp) tg f)(ht:∀cl C s0 H0 fp,Pi (cS X nm scope cl C s0 H0 fp) kq t)
  (he:∀cl C s0 H0 fp,SE (cS X nm scope cl C s0 H0 fp) nO el) (ik:X.calm=true:=by rfl) (ij:scope.kind=.function:=by rfl) (hs:∀x,foldedSetIterable c6 X.env x=pure x:=by intro _;rfl) :
  SE X (.ListComp nO [⟨tg,c6,kq,0⟩] scope pos) (dq cap fi f t el):=
 ⟨(OM ik lj ij hB ⟨hi.h⟩ (fun cl C s0 H0 fp=>Wv (X:=X) rfl rfl (hg cl C s0 H0 fp)) (fun cl C s0 H0 fp=>Wu (X:=X) rfl rfl (ht cl C s0 H0 fp)) (fun cl C s0 H0 fp=>Wt (X:=X) rfl rfl (he cl C s0 H0 fp)) hs).h.imp fun _ _ _ h=>Gn h⟩
theorem BI{x0:Str}{p0 p1:Pos}(Q4:SG X (.Name x0 p0) (eM i))(hB:zy X.env.scope.names scope.names nm cap X.N=true)(lj:X.env.cells=cellsFrom m X.env.scope.names [])(hi:SI X tg c6 fi)(hg:∀cl C s0 H0 fp,SG (cS X nm scope cl C s0 H0 fp) tg f)(ht:∀cl C s0 H0 fp,Pi (cS X nm scope cl C s0 H0 fp) kq t)
  (he:∀cl C s0 H0 fp,SE (cS X nm scope cl C s0 H0 fp) nO el) (ik:X.calm=true:=by rfl) (ij:scope.kind=.function:=by rfl) (hs:∀x,foldedSetIterable c6 X.env x=pure x:=by intro _;rfl)
  (Rc:swapsWith (.ListComp nO [⟨tg,c6,kq,0⟩] scope pos) (some (.Name x0 p0)) p1.line X.env=pure true:=by first|rfl|kernel_rfl) :
  SS X (.Assign [.Name x0 p0] (.ListComp nO [⟨tg,c6,kq,0⟩] scope pos) p1) (wF (dq cap fi f t el) (eM i)):=
 ⟨(BE ⟨Q4.h⟩ ik lj ij hB ⟨hi.h⟩ (fun cl C s0 H0 fp=>Wv (X:=X) rfl rfl (hg cl C s0 H0 fp)) (fun cl C s0 H0 fp=>Wu (X:=X) rfl rfl (ht cl C s0 H0 fp)) (fun cl C s0 H0 fp=>Wt (X:=X) rfl rfl (he cl C s0 H0 fp)) hs Rc).h.imp fun D σ H h=>by
  obtain⟨μ,ρ,st,l,h⟩:=h
  have h':tE X (dq cap fi f t el) σ H fun x H1=>UR X (eM i) x σ H1 D.nx:=⟨μ,ρ,st,l,RK.stmt h l fun μ1 st1 x v H1 p1 x1 l1 q1 h1=>⟨μ1,ρ,st1,x,ρ.set i (some x),l1,q1,rfl,fun σ' l'=>h1 μ1 σ' H1 (ah _) d_.refl l'⟩⟩
  exact Gn h'⟩
end
section
variable{a b:Expr}{x:Str}{fa fb fc fe fo:FE}{fs:FA}
theorem sH{ni:List V}(hr:∀μ H,RelWs X.K μ H ws ni):yg X (R3 ni) (ws,none) μ H:=fun i μ' bz H' pp xx S _=>by
 have hl:ws.length=ni.length:=(hr μ H).len
 refine⟨fun w hw=>?_,fun h=>by show ni.length<=i;rw[<- hl];exact h⟩
 obtain⟨v,g1,g2⟩:=(hr μ' H').get hw
 refine⟨(ac.mp g1).1,fun y H'' hy=>?_⟩
 obtain⟨rfl,hy⟩:=hy
 rw[g1]at hy;cases hy
 exact⟨d_.refl,S,g2⟩
noncomputable def fg(l:List Nat):List W:=l.map fun c=>.str [c]
theorem sI(l:List Nat)(μ:List Addr)(H:Hp):RelWs X.K μ H (fg l) (gW l):=by
 induction l with
 |nil=>exact .nilI
 |cons a r ih=>exact .consI .str ih
def Md(fe:FE):FI:=fun ρ st=>(fe ρ st).bind fun x st=>match x with
 |.str l=>.ok (fg l,none) st
 |_=>.bad
theorem Pk(he:SE X e fe):SI X tg e (Md fe):=⟨(OH he.h).imp fun σ H R h=>by
 obtain⟨μ,ρ,st,l,h⟩:=h
 refine⟨μ,ρ,st,l,RK.bind h l fun μ1 st1 x v H1 p1 x1 l1 q1 h1=>?_⟩
 cases x with
 |str z=>exact⟨z,q1.strE,h1 μ1 _ H1 (ah _) d_.refl l1.sto (sH (sI z))⟩
 |_=>exact h1.elim⟩
def dC(fe:FE):FI:=fun ρ st=>(fe ρ st).bind fun x st=>match x with
 |.tup ws=>.ok (ws,none) st
 |.loc n=>(match lstOf st n with
  |some ws=>.ok (ws,some (n,ws)) st
  |none=>.bad)
 |.str l=>.ok (fg l,none) st
 |_=>.bad
theorem Pm(he:SE X e fe):SI X tg e (dC fe):=⟨fun ag s σ H Rr I h=>by
 obtain⟨μ,ρ,st,l,h⟩:=h
 cases e1:fe ρ st with
 |bad=>simp only[dC,e1,R.bind_bad]at h;exact h.elim
 |ex c st1=>
  refine(Gi (tg:=tg) he).h ag s σ H Rr I ⟨μ,ρ,st,l,?_⟩
  simp only[dC,Gh,e1,R.bind_ex]at h ⊢;exact h
 |ok w st1=>
  cases w with
  |tup ws=>
   refine(Gi (tg:=tg) he).h ag s σ H Rr I ⟨μ,ρ,st,l,?_⟩
   simp only[dC,Gh,e1,R.bind_ok]at h ⊢;exact h
  |loc n=>
   refine(Pg (tg:=tg) he).h ag s σ H Rr I ⟨μ,ρ,st,l,?_⟩
   simp only[dC,Ma,e1,R.bind_ok]at h ⊢;exact h
  |str z=>
   refine(Pk (tg:=tg) he).h ag s σ H Rr I ⟨μ,ρ,st,l,?_⟩
   simp only[dC,Md,e1,R.bind_ok]at h ⊢;exact h
  |_=>simp only[dC,e1,R.bind_ok]at h;exact h.elim⟩
noncomputable def jc(ws:List W):List W:=(List.range ws.length).map fun(i:Nat)=>W.tup [.int i,ws.getD i .non]
theorem kK{w:W}(h:(jc ws)[i]?=some w):∃y,ws[i]?=some y/\w=.tup [.int i,y]:=by
 unfold jc at h
 rw[aj]at h
 by_cases hi:i<ws.length
 ·rw[aJ hi]at h
  refine⟨ws[i],ae hi,?_⟩
  have:=(aF h).symm
  rw[this]
  show W.tup [W.int i,ws.getD i W.non]=_
  rw[ao,ae hi];rfl
 ·rw[az (by simpa using hi)]at h;cases h
theorem iU(ws:List W):(jc ws).length=ws.length:=by simp[jc]
def qa(fs:FA):FI:=fun ρ st=>(fs ρ st).bind fun ws st=>match ws with
 |[.tup zs]=>.ok (jc zs,none) st
 |_=>.bad
theorem yi{jY:List Expr}{kk:Nat}{tp:Pos}(hm:X.mg "enumerate"=none)(ha:SA X [a] fs)(hg:Gl X "enumerate":=by rfl)(hs:starEach [a] X.env=[(false,eval a X.env)]:=by rfl) :
  SI X (.Tuple jY kk tp) (.Call (.Name "enumerate" p) [a] [] pos) (qa fs):=⟨(FL hm ⟨ha.h⟩ hg hs).h.imp fun σ H R h=>by
 obtain⟨μ,ρ,st,l,h⟩:=h
 refine⟨μ,ρ,st,l,RK.bind h l fun μ1 st1 x v H1 p1 x1 l1 q1 h1=>?_⟩
 split at h1
 ·rename_i zs
  obtain⟨y,rfl,ry⟩:=q1.one
  obtain⟨p,vs,rfl,hS,r⟩:=ry.tupE
  refine⟨p,rfl,⟨vs,hS⟩,h1 μ1 _ H1 (ah _) d_.refl l1.sto fun i μ' bz H' pp xx S _=>⟨fun w hw=>?_,fun hl=>⟨vs,xx _ _ hS,by rw[iU]at hl;rw[<- r.len];exact hl⟩⟩⟩
  obtain⟨y,hy,rfl⟩:=kK hw
  have r':=r.mono pp xx
  obtain⟨v,g1,g2⟩:=r'.get hy
  refine⟨⟨vs,v,xx _ _ hS,g1⟩,fun z H'' hz=>?_⟩
  obtain⟨q,hq,rfl,hH⟩:=hz
  have e:=hH vs v (xx _ _ hS) g1
  subst e
  have ex:=fS.same (K:=X.K) (cy hq (.tup [.int i,v]))
  exact⟨ex,S.same (cy hq _),.tupI fS.new (.consI .int (.consI (g2.mono (ah _) ex) .nilI))⟩
 ·exact h1.elim⟩
def z_(fa:FE):FE:=fun ρ st=>(fa ρ st).bind fun x st=>match x with
 |.int i=>.ok (.int (-i)) st
 |_=>.bad
theorem Tb(ha:SE X a fa):SE X (.UnaryOp .USub a pos) (z_ fa):=⟨(RH On ha.h).imp fun σ H Q h=>by
 obtain⟨μ,ρ,st,l,h⟩:=h
 refine⟨μ,ρ,st,l,RK.bind h l fun μ1 st1 x v H1 p1 x1 l1 q1 h1=>?_⟩
 cases x with
 |int k=>exact⟨k,q1.intE,h1 μ1 _ H1 (ah _) d_.refl l1.sto .int⟩
 |_=>exact h1.elim⟩
noncomputable def VY(x y:W)(st:List am):R W:=match x,y with
 |.int i,.int j=>.ok (.bl (decide (i<=j))) st
 |.str [c],.str [d]=>.ok (.bl (decide (c<=d))) st
 |_,_=>.bad
end
noncomputable def yj(c:Nat):List Nat->List Nat
 |[]=>[c]
 |d::r=>if c<d then c::d::r else if c=d then d::r else d::yj c r
def mx(l:List Nat):List Nat:=l.foldr yj []
theorem vn{c x:Nat}:∀{l:List Nat},x∈yj c l↔x=c\/x∈l
 |[]=>by simp[yj]
 |d::r=>by
  unfold yj
  split
  ·simp
  ·split
   ·rename_i h;subst h;simp
   ·simp only[aH,vn]
    constructor
    ·rintro(h|h|h)<;>simp[h]
    ·rintro(h|h|h)<;>simp[h]
theorem C2{c:Nat}:∀{l:List Nat},l.Pairwise (· < ·)->(yj c l).Pairwise (· < ·)
 |[],_=>by simp[yj]
 |d::r,h=>by
  obtain⟨h1,h2⟩:=bG.mp h
  unfold yj
  split
  ·rename_i hc
   refine bG.mpr ⟨fun x hx=>?_,h⟩
   rcases aH.mp hx with rfl|hx
   ·exact hc
   ·exact Nat.lt_trans hc (h1 x hx)
  ·split
   ·exact h
   ·rename_i hc hd
    refine bG.mpr ⟨fun x hx=>?_,C2 h2⟩
    rcases vn.mp hx with rfl|hx
    ·omega
    ·exact h1 x hx
theorem sJ{x:Nat}:x∈mx l↔x∈l:=by
 induction l with
 |nil=>simp[mx]
 |cons a r ih=>show x∈yj a (mx r)↔_;rw[vn,ih];simp
theorem Aa(l:List Nat):(mx l).Pairwise (· < ·):=by
 induction l with
 |nil=>exact List.Pairwise.nil
 |cons a r ih=>exact C2 ih
theorem Go:∀{l m:List Nat},l.Pairwise (· < ·)->m.Pairwise (· < ·)->(∀x,x∈l↔x∈m)->l=m
 |[],[],_,_,_=>rfl
 |[],b::m,_,_,h=>by have:=(h b).mpr (by simp);simp at this
 |a::l,[],_,_,h=>by have:=(h a).mp (by simp);simp at this
 |a::l,b::m,h1,h2,h=>by
  obtain⟨p1,p2⟩:=bG.mp h1
  obtain⟨q1,q2⟩:=bG.mp h2
  have e:a=b:=by
   rcases aH.mp ((h a).mp (by simp))with z|z
   ·exact z
   ·rcases aH.mp ((h b).mpr (by simp))with y|y
    ·exact y.symm
    ·have:=p1 b y;have:=q1 a z;omega
  subst e
  rw[Go p2 q2 fun x=>?_]
  constructor
  ·intro hx
   rcases aH.mp ((h x).mp (aA _ hx))with z|z
   ·subst z;exact absurd (p1 x hx) (cW _)
   ·exact z
  ·intro hx
   rcases aH.mp ((h x).mpr (aA _ hx))with z|z
   ·subst z;exact absurd (q1 x hx) (cW _)
   ·exact z
noncomputable def BJ(c:List Nat):List (List Nat)->List (List Nat)
 |[]=>[c]
 |d::r=>if c<d then c::d::r else d::BJ c r
def iV(l:List (List Nat)):List (List Nat):=l.foldr BJ []
theorem sK(c:List Nat):∀l:List (List Nat),(BJ c l).Perm (c::l)
 |[]=>g7 _
 |d::r=>by
  unfold BJ
  split
  ·exact g7 _
  ·exact((sK c r).cons d).trans (List.Perm.swap c d r)
theorem gX(l:List (List Nat)):(iV l).Perm l:=by
 induction l with
 |nil=>exact g7 _
 |cons a r ih=>exact(sK a _).trans (ih.cons a)
def KS:List (List Nat)->Prop:=List.Pairwise fun a b=>¬ b<a
theorem C3(c:List Nat):∀{l:List (List Nat)},KS l->KS (BJ c l)
 |[],_=>by simp[BJ,KS]
 |d::r,h=>by
  obtain⟨h1,h2⟩:=bG.mp h
  unfold BJ
  split
  ·rename_i hc
   refine bG.mpr ⟨fun x hx=>?_,h⟩
   rcases aH.mp hx with rfl|hx
   ·exact fun z=>List.lt_irrefl _ (List.lt_trans z hc)
   ·exact fun z=>h1 x hx (List.lt_trans z hc)
  ·rename_i hc
   refine bG.mpr ⟨fun x hx=>?_,C3 c h2⟩
   rcases aH.mp ((sK c r).mem_iff.mp hx)with rfl|hx
   ·exact hc
   ·exact h1 x hx
theorem Ab(l:List (List Nat)):KS (iV l):=by
 induction l with
 |nil=>exact List.Pairwise.nil
 |cons a r ih=>exact C3 a ih
theorem yk:∀{l m:List (List Nat)},KS l->KS m->l.Perm m->l=m
 |[],m,_,_,h=>(List.Perm.nil_eq h)
 |a::l,[],_,_,h=>(by have:=h.length_eq;simp at this)
 |a::l,b::m,h1,h2,h=>by
  obtain⟨p1,p2⟩:=bG.mp h1
  obtain⟨q1,q2⟩:=bG.mp h2
  have e:a=b:=by
   rcases aH.mp (h.mem_iff.mp (by simp:a∈a::l))with z|z
   ·exact z
   ·rcases aH.mp (h.mem_iff.mpr (by simp:b∈b::m))with y|y
    ·exact y.symm
    ·exact List.le_antisymm (show a<=b from p1 b y) (show b<=a from q1 a z)
  subst e
  rw[yk p2 q2 (List.perm_cons a |>.mp h)]
theorem vo:∀{zs:List (List Nat)},sortedS (zs.map tx)=true->KS zs:=by
 have key:∀(zs:List (List Nat)) (p:List Nat),risingS (tx p) (zs.map tx)=true->KS (p::zs):=by
  intro zs
  induction zs with
  |nil=>intro p _;simp[KS]
  |cons a r ih=>
   intro p h
   have h':(!ltCps a p&&risingS (tx a) (r.map tx))=true:=h
   rw[bX,gU,ltCps_eq,decide_eq_false_iff_not]at h'
   have u:=ih a h'.2
   refine bG.mpr ⟨fun x hx=>?_,u⟩
   rcases aH.mp hx with rfl|hx
   ·exact h'.1
   ·have:=(bG.mp u).1 x hx
    exact List.not_lt.mpr (List.le_trans (List.not_lt.mp h'.1) (List.not_lt.mp this))
 intro zs h
 cases zs with
 |nil=>exact List.Pairwise.nil
 |cons a r=>exact key r a h
section
variable{a b:Expr}{x:Str}{fa fb fc fe fo:FE}{fs:FA}
def ph(ws:List W)(st:List am):R W:=match ws with
 |[.loc n]=>qt (lstOf st n) fun zs=>qt (nI zs) fun ls=>if ls.length<64 then .ok (.loc st.length) (st++[.lst ((iV ls).map W.str)])else .bad
 |_=>.bad
theorem Ac(ls:List (List Nat)):RelWs K μ H (ls.map W.str) (ls.map fun l=>V.str (tx l)):=by
 induction ls with
 |nil=>exact .nilI
 |cons a r ih=>exact .consI .str ih
theorem Ae:qG X (.builtin "sorted") ph:=⟨fun ag s σ H vs us Q I rv zq=>by
 obtain⟨μ,st,ws,S,r,q⟩:=zq
 unfold ph at q
 split at q
 ·rename_i n
  obtain⟨y,rfl,ry⟩:=r.one
  cases e1:lstOf st n with
  |none=>rw[e1]at q;exact q.elim
  |some zs=>
   rw[e1,c5]at q
   cases e2:nI zs with
   |none=>rw[e2]at q;exact q.elim
   |some ls=>
    rw[e2,c5]at q
    split at q
    ·rename_i c
     obtain⟨a,vs,g,hS,rz⟩:=S.lstOf e1
     obtain⟨b1,f1,rfl⟩:=ry.locE
     rw[g]at f1;cases f1
     have:=vm e2 rz
     subst this
     refine wA.h ag s σ H _ us Q I rv ⟨_,ls,rfl,hS,c,fun zs hp hs l H2 hl eH=>?_⟩
     subst eH
     have ez:zs=iV ls:=yk (vo hs) (Ab ls) (hp.trans (gX ls).symm)
     subst ez
     exact q (μ++[l]) _ _ (bb _ _) (fS.same (cy hl _)) (S.newLst hl (Ac _)) (oE S)
    ·exact q.elim
 ·exact q.elim,fun ws st=>by
 unfold ph
 split
 ·exact pI fun _=>pI fun _=>by split<;>trivial
 ·trivial⟩
noncomputable def kL:List W->Option (List Nat)
 |[]=>some []
 |.str [c]::ws=>(kL ws).map (c :: ·)
 |_=>none
theorem qI:∀{ws:List W} {l:List Nat} {vs:List V},kL ws=some l->RelWs K μ H ws vs->vs=gW l
 |[],l,vs,h,r=>by simp only[kL]at h;cases h;exact r.nilE
 |w::ws,l,vs,h,r=>by
  obtain⟨x,xs,rfl,rx,rs⟩:=r.consE
  unfold kL at h
  split at h
  ·rename_i e;cases e
  ·rename_i c Rk e
   cases e
   cases e2:kL ws with
   |none=>rw[e2]at h;cases h
   |some l'=>rw[e2]at h;cases h;rw[rx.strE,qI e2 rs];rfl
  ·cases h
def vp:W->Option (List Nat)
 |.str l=>some l
 |.tup ws=>kL ws
 |_=>none
def qJ(fe:FE):FE:=fun ρ st=>(fe ρ st).bind fun x st=>qt (vp x) fun l=>if l.length<4000/\(mx l).length<64 then .ok (.loc st.length) (st++[.lst (fg (mx l))])else .bad
theorem pL{m:List Nat}(hm:m.Nodup)(h:∀c∈m,c∈l):m.length<=l.length:=by
 induction m generalizing l with
 |nil=>exact cL _
 |cons a r ih=>
  obtain⟨h1,h2⟩:=fG.mp hm
  have ha:a∈l:=h a (by simp)
  have:=ih h2 (l:=l.erase a) fun c hc=>by
   have:c≠a:=fun z=>h1 (z▸hc)
   exact(List.mem_erase_of_ne this).mpr (h c (aA _ hc))
  rw[List.length_erase_of_mem ha]at this
  have:0<l.length:=List.length_pos_of_mem ha
  simp;omega
theorem EF{p1 p2 Q3 Jx:Pos}(h1:X.mg "sorted"=none)(h3:X.mg "set"=none)(he:SE X e fe)(hc:X.calm=true:=by rfl)
  (Wj:Gl X "sorted":=by rfl) (Wi:Gl X "set":=by rfl) (U_:starEach [e] X.env=(false,eval e X.env)::starEach [] X.env:=by rfl):SE X (.Call (.Name "sorted" p1) [.Call (.Name "set" p2) [e] [] Jx] [] Q3) (qJ fe):=⟨(Eu h1 h3 ⟨he.h⟩ hc Wj Wi U_).h.imp fun σ H Q h=>by
 obtain⟨μ,ρ,st,l,h⟩:=h
 refine⟨μ,ρ,st,l,RK.bind h l fun μ1 st1 x v H1 p1 x1 l1 q1 h1=>?_⟩
 cases e1:vp x with
 |none=>rw[e1]at h1;exact h1.elim
 |some ll=>
  rw[e1,c5]at h1
  split at h1
  ·rename_i c
   refine⟨ll,?_,c.1,fun m hm hsub=>?_,fun m Uv hup hmem a H2 ha eH=>?_⟩
   ·cases x with
    |str z=>cases e1;exact .inl q1.strE
    |tup ws=>obtain⟨p,vs,rfl,hS,r⟩:=q1.tupE;have:=qI e1 r;subst this;exact .inr ⟨p,rfl,hS⟩
    |_=>cases e1
   ·exact iM (pL hm fun c hc=>sJ.mpr (hsub c hc)) c.2
   ·subst eH
    have em:m=mx ll:=by
     refine Go ((List.Pairwise.and hup Uv).imp fun z=>Nat.lt_of_le_of_ne z.1 z.2) (Aa ll) fun x=>?_
     rw[hmem,sJ]
    subst em
    exact h1 (μ1++[a]) _ _ (bb _ _) (fS.same (cy ha _)) (l1.sto.newLst ha (sI (X:=X) _ _ _)) (oE l1.sto)
  ·exact h1.elim⟩
end
noncomputable def W.ty:W->Option String
 |.non=>some "NoneType" | .bl _=>some "bool" | .int _=>some "int" | .str _=>some "str" | .tup _=>some "tuple" | .loc _=>none
noncomputable def KU(t T:String):Bool:=(t==T)||(t == "bool" && T == "int")
theorem Tc{K:Frag}{T:String}(h:FH T){w:W}{t:String}(hw:w.ty=some t):PySem.W.kitOne K (.type t) (.type T)=some (KU t T):=by
 cases w<;>simp only[W.ty]at hw<;>cases hw<;>(rcases h with rfl|rfl|rfl|rfl<;>rfl)
def qc(T:String)(fa:FE):FE:=fun ρ st=>(fa ρ st).bind fun x st=>match x.ty with
 |some t=>.ok (.bl (KU t T)) st
 |none=>.bad
section
variable{a b:Expr}{x:Str}{fa fb fc fe fo:FE}{fs:FA}
theorem C4{T:String}{xT:Str}(hm:X.mg "isinstance"=none)(hT:X.mg xT=none)(hv:bootBuiltins xT=some (.type T))(ha:SE X a fa)(hk:FH T:=by first|exact .inl rfl|exact .inr (.inl rfl)|exact .inr (.inr (.inl rfl))|exact .inr (.inr (.inr rfl)))
  (hg:Gl X "isinstance":=by rfl) (W0:Gl X xT:=by rfl) (hn:xT ≠ "__name__":=by decide) (hd:(xT==("__debug__":Str))=false:=by decide)
  (he:starEach [a,.Name xT p2] X.env=(false,eval a X.env)::starEach [.Name xT p2] X.env:=by rfl) (Uu:starEach [.Name xT p2] X.env=(false,eval (.Name xT p2) X.env)::starEach [] X.env:=by rfl) (qu:(backTo pos (starEach [.Name xT p2] X.env)).any (·.1)=false:=by rfl) :
  SE X (.Call (.Name "isinstance" p) [a,.Name xT p2] [] pos) (qc T fa):=by
 have C:jx X (.builtin "isinstance") (fun xs H Q=>∃x μ st w t,xs=[x,.ty T]/\iy X.K X.mg μ st H/\bu X.K μ H w x/\w.ty=some t/\Q (.bl (KU t T)) H):=by
  intro ag s σ H xs us Q I r h
  obtain⟨x,μ,st,w,t,rfl,S,rx,ht,q⟩:=h
  obtain⟨u,u2,rfl,r1,r2⟩:=cu.two r
  obtain rfl:u2=.type T:=r2
  have e:=Tc (K:=X.K) hk ht
  cases w with
  |tup ws=>
   cases ht
   obtain⟨p,vs,rfl,hS,_⟩:=rx.tupE
   cases(show u=Value.ref p from r1)
   obtain⟨bq,_,hp,_⟩:=I.tuple hS
   obtain⟨o,h1,h2,_⟩:=hp
   exact kia_one PySem.W.kitx_tuple I.kIn ⟨o,h1,h2⟩ e (fun z=>nomatch z) fun tk=>⟨.bl _,H,I.tok tk,rfl,q⟩
  |non=>cases ht;cases rx.nonE;exact o_ I r1 .non e fun tk=>⟨.bl _,H,I.tok tk,rfl,q⟩
  |bl b=>cases ht;cases rx.blE;exact o_ I r1 (.bl _) e fun tk=>⟨.bl _,H,I.tok tk,rfl,q⟩
  |int b=>cases ht;cases rx.intE;exact o_ I r1 (.int _) e fun tk=>⟨.bl _,H,I.tok tk,rfl,q⟩
  |str b=>cases ht;cases rx.strE;exact o_ I r1 (.str _) e fun tk=>⟨.bl _,H,I.tok tk,rfl,q⟩
  |loc b=>cases ht
 refine⟨(zn C hg hm boot_isinstance (xU ha.h (xU (JO W0 hT hv (v:=.ty T) rfl hn hd) Fh Uu) he) (by decide) (by decide) he qu).imp fun σ H Q h=>?_⟩
 obtain⟨μ,ρ,st,l,h⟩:=h
 refine⟨μ,ρ,st,l,RK.bind h l fun μ1 st1 x v H1 p1 x1 l1 q1 h1=>?_⟩
 cases ht:x.ty with
 |none=>rw[ht]at h1;exact h1.elim
 |some t=>
  rw[ht]at h1
  exact⟨v,μ1,st1,x,t,rfl,l1.sto,q1,ht,h1 μ1 _ H1 (ah _) d_.refl l1.sto .bl⟩
theorem Gp{w:World}{k:Nat}{st:Stmt}{f:Addr}{ps:List Str}
  (F:i9 K x x st f fd) (hm:mg x=some (.ref f)) (hn:ps.length=n)
  (hb:∀(kV se pm:Value) (an:Option Addr) (fO ct:Value) (us:List Value),us.length=ps.length->bindArgs (fnOf x x (hG st) (gi st) (aR st) .none kV se pm an fO ct) ⟨us,[]⟩=pure (ps.zip us)) :
  dy P w K mg base k x n (fun _ _=>.bad):=yh F hm hn hb ⟨fun vs H Q E h=>by rw[hn];exact h.1,fun _ _ _ _ _ _ _ _ _ _ _ _ _ h=>by obtain⟨_,_,_,_,_,_,z⟩:=h;exact z.elim⟩
end
def Me(F:List W->List am->R W):Prop:=∀ns:List Int,ns.length<=63->∃bz,F [.loc 0] [.ro (ns.map W.int)]=.ok (.bl true) bz
theorem walkW{l:PySem.W.OpenLaw}{k:Nat}{q:Program}{xL:List Str}{d:DefRec}{K:Params->Frag}{x:Str}(hn:l.most=some 63)(UC:d.params.defaults=[])(hr:g_ k callerA)
  (hY:∀(w:World) (h:Heap),YP w h->(K w.params).In h)
  (F:∀(w:World) (mg:Str->Option Value) (fa:Addr) (h:Heap),(K w.params).In h->h.Ns mainGlobals mg->mg d.name=some (.ref fa) ->
   ∃fd:FuncData,(∀(s:Shared) (u:Value),BindsTo s fd ⟨[u],[]⟩ [(x,u)])/\∀base:Heap,(K w.params).In base->base.Ns mainGlobals mg->cX l.prog w (K w.params) mg base (iJ l.prog w) k fa fd [x] (jb (K w.params) mg 1 G))
  (ok:Me G):PySem.W.WalkO q xL XP YP l.row.toRowW d [] (fun f vs=>PySem.call f vs):=by
 refine L2.walk_of (n:=63) (k:=k) (x:=x) (CX:=fun w=>iJ l.prog w)
  (sp:=fun w=>fun vs H Q E=>∃(a:Addr) (ns:List Int),vs=[.ref a]/\oZ (K w.params) H a (ns.map V.int)/\Kb H/\ns.length<=63/\∀H',Q (.bl true) H') hn (by decide) UC hr hY (fun w mg fa h h1 h2 h3=>?_)
  (fun w H a ns hl hO hS=>⟨a,ns,rfl,hS,hO,hl,fun _=>rfl⟩) fun w H s e s' z=>?_
 ·obtain⟨fd,hb,ho⟩:=F w mg fa h h1 h2 h3
  refine⟨fd,hb,fun base kb nb=>(ho base kb nb).imp fun vs H Q E hh=>?_⟩
  obtain⟨a,ns,rfl,hS,hO,hl,q⟩:=hh
  obtain⟨bz,e⟩:=ok ns hl
  have uT:UQ (K w.params) H a (ns.map V.int):=by
   rcases hS with(z|⟨o,z⟩)|z
   ·rcases hO a with y|⟨o,xs,y⟩
    ·rw[z]at y;cases y
    ·rw[z]at y;cases y
   ·exact .inl ⟨o,z⟩
   ·exact .inr z
  have hr:RelWs (K w.params) [a] H (ns.map W.int) (ns.map V.int):=by
   clear hS uT e hl
   induction ns with
   |nil=>exact .nilI
   |cons n r ih=>exact .consI .int ih
  refine⟨rfl,[a],[.loc 0],[.ro (ns.map W.int)],⟨fun i j b ci cj c1 c2 r1 r2 m1 m2=>?_,rfl,fun i c b c1 c2=>?_⟩,.consI (.locI rfl) .nilI,?_⟩
  ·cases i with
   |zero=>cases c1;cases r1
   |succ i=>simp at c1
  ·cases i with
   |zero=>cases c1;cases c2;exact⟨_,uT,hr⟩
   |succ i=>simp at c1
  ·rw[e]
   intro μ' v H' _ _ _ rv
   rw[rv.blE];exact q H'
 ·obtain⟨_,_,_,_,_,_,z,_⟩:=z
  exact z
abbrev Td:List Value:=[.type "ValueError",.type "Exception",.type "BaseException",.type "object"]
abbrev Mf:String:="ValueError.__new__"
def Pn(K:Frag)(C:Addr):List Value:=match K.lookup C with
 |some ⟨_,_,.cls cd,_⟩=>cd.mro
 |_=>[]
theorem KW{WB:List Value}{Jz:String}(X:K.In h)(q:excIn K C WB Jz=true) :
  ∃bm N nm qn bs hdct sn sub ab col dd k0 k1 k2 k3 k5 mN,h.get? C=some (excClassObj nm qn C N bs bm hdct sn sub ab col dd k0 k1 k2 k3 k5 Jz)/\h.Ns N mN/\mN "__init__"=none/\OwnTail h WB bm/\Pn K C=.ref C::bm:=by
 have q0:=q
 unfold excIn at q
 split at q
 ·rename_i dd cd sl ho
  split at q
  ·rename_i C' bm k0 k1 k2 k3 n k5 hm hs
   simp only[bX,db,gU]at q
   obtain⟨⟨⟨⟨⟨rfl,rfl⟩,hdel⟩,ht⟩,hok⟩,hni⟩:=q
   have hmro:Pn K C'=cd.mro:=by unfold Pn;rw[ho]
   obtain⟨nm,bs,mro,ns,qn,hd,sn,sub,ab,col,del⟩:=cd
   dsimp only at hm hdel hok hni hmro
   subst hm hdel
   have hsl:sl=#[k0,k1,k2,k3,some (.builtin n),k5]:=by
    obtain⟨l⟩:=sl
    simp only at hs
    rw[hs]
   subst hsl
   exact⟨bm,ns,nm,qn,bs,hd,sn,sub,ab,col,dd,k0,k1,k2,k3,k5,_,X _ _ ho,.of_isNs (PySem.W.isNs_of_in X hok),PySem.W.nsMap_none_of_in X hok hni,PySem.W.tail_of_in X ht,hmro⟩
  ·cases q
 ·cases q
structure Te(K:Frag)(mg:Str->Option Value)(x:Str):Prop where
 ex:∃C,mg x=some (.ref C)/\excIn K C Td Mf=true
def Gq(c:Str):FS:=fun ρ st=>.ex c ρ st
theorem Gu{x:Str}{np dw pos p':Pos}{z:Str}{j:Nat}(hC:Te X.K X.mg x)(ik:X.calm=true:=by rfl)(hg:Gl X x:=by rfl)(hd:(x==("__debug__":Str))=false:=by decide)
  (he:starEach [.Constant (.str z) j p'] X.env=(false,eval (.Constant (.str z) j p') X.env)::starEach [] X.env:=by rfl):SS X (.Raise (some (.Call (.Name x np) [.Constant (.str z) j p'] [] dw)) none pos) (Gq x):=⟨by
 intro ag s σ H D I h
 obtain⟨μ,ρ,st,l,h⟩:=h
 obtain⟨C,hm,q⟩:=hC.ex
 have hh:X.A.handled=none:=I.ok.hd ik
 obtain⟨bm,N,nm,qn,bs,hdct,sn,sub,ab,col,dd,k0,k1,k2,k3,k5,mN,g1,g2,g3,g4,g5⟩:=KW I.kIn q
 refine wpAny_Raise_call_subT (C:=C) (nm:=nm) (q:=qn) (N:=N) (bs:=bs) (bm:=bm) (hdct:=hdct) (sn:=sn) (sub:=sub) (ab:=ab) (col:=col) (dd:=dd) (k0:=k0) (k1:=k1) (k2:=k2) (k3:=k3) (k5:=k5)
  F.excBase_ValueError (mN:=mN) (g4.hasType F.excBase_ValueError.hasBase) hh (by rw[he];rfl) g3 (uD I hg hm ⟨rfl,?_⟩ hd)
 rw[he]
 refine j3 ?_
 show wpAny _ _ (spliced ((false,eval (.Constant (.str z) j p') X.env)::[])) _ _ s
 refine fq (wpAny_Constant_str (gT ?_))
 refine⟨rfl,(by show 1<=sizeLine;decide),g1,g2,g4,fun h' e hx=>?_⟩
 have I2:bA X ag σ H { s with heap:=h',toks:=s.toks+1 }:=I.kept hx.keeps
 have en:H e=none:=by
  cases hu:H e with
  |none=>rfl
  |some u=>
   obtain⟨ob,DV⟩:=(I.hok e u hu).ex
   have:=hx.new
   rw[show({ s with toks:=s.toks+1 }:Shared).heap=s.heap from rfl]at this
   rw[DV]at this;cases this
 obtain⟨t,Rm,ht2,ht3⟩:=hx.there
 have hin:∀env∈X.stack,∀b,env.frame=some b->b∈uC X.stack:=fun env he b hb=>lu.mpr ⟨env,he,hb⟩
 refine h ag μ σ H (.ref e) _ (ah _) d_.refl l ⟨I2,e,.ref C,t,hideAll s.heap (uC X.stack),rfl,hm,en,fun b o hb=>hx.keeps b o (PySem.W.of_hideAll _ hb),?_,?_,.inr (.inl ⟨_,_,Rm,rfl,rfl,rfl,rfl,rfl⟩),fun b o hb hr=>?_⟩
 ·cases hq:(hideAll s.heap (uC X.stack)).get? e with
  |none=>rfl
  |some o=>have z:=PySem.W.of_hideAll _ hq;have y:=hx.new;rw[show({ s with toks:=s.toks+1 }:Shared).heap=s.heap from rfl,z]at y;cases y
 ·exact(PySem.W.funFrames_hide I.stack hin).of_keeps fun b o hb _=>⟨o,hx.keeps b o hb,rfl⟩
 ·have old:∀o0,s.heap.get? b=some o0->s.heap.get? b=some o:=fun o0 h0=>by
   have h1:h'.get? b=some o0:=hx.keeps b o0 h0
   have h2:h'.get? b=some o:=hb
   rw[h1]at h2;rw[<- h2];exact h0
  have fin:∀o0,s.heap.get? b=some o0->b∉uC X.stack->(hideAll s.heap (uC X.stack)).get? b=some o:=fun o0 h0 hn=>PySem.W.hideAll_get _ (old o0 h0) hn
  rcases hr with hr|⟨⟨o0,h0⟩,hf,hbx⟩|⟨⟨y,hy⟩,hf⟩|⟨pp,hp,rfl⟩
  ·cases hu:H b with
   |none=>exact absurd hu hr
   |some u=>
    obtain⟨ob,DV⟩:=(I.hok b u hu).ex
    exact fin ob DV fun z=>by have:=I.stkFree b z;rw[hu]at this;cases this
  ·obtain⟨o1,h1⟩:=I.base.there b o0 h0 hbx
   refine fin o1 h1 fun z=>?_
   rcases aH.mp (I.stkSub b z)with z|z
   ·rw[z]at h0;exact absurd (aU (aC h0) I.ok.above) (cW _)
   ·exact hf z
  ·obtain⟨v,ov,hov,_⟩:=I.cell y b hy
   exact fin ov hov hf
  ·obtain⟨p1,p2,p3,p4,_⟩:=I.pin pp hp
   refine fin _ p1 fun z=>?_
   rcases aH.mp (I.stkSub _ z)with z|z
   ·exact p3 z
   ·exact p4 z⟩
section
end
open AutoSeq1 (wpAny_loadPart')
section
end
section
variable{a b:Expr}{fa fb fe fo:FE}{fs:FA}
noncomputable def qK(i:Int)(n:Nat):List W:=(List.range n).map fun k:Nat=>W.int (i-k)
theorem Gv(i:Int)(n:Nat)(μ:List Addr)(H:Hp):RelWs X.K μ H (qK i n) (xg i n):=by
 unfold qK xg
 induction (List.range n)with
 |nil=>exact .nilI
 |cons a r ih=>exact .consI .int ih
def yl(fs:FA):FI:=fun ρ st=>(fs ρ st).bind fun ws st=>match ws with
 |[.int i,.int j,.int k]=>if k=-1/\(-(2^60)<=i/\i<2^60/\-(2^60)<=j/\j<2^60)then .ok (qK i (i-j).toNat,none) st else .bad
 |_=>.bad
theorem KY(hm:X.mg "range"=none)(ha:SA X [a,b,c] fs)(hg:Gl X "range":=by rfl)(hs:starEach [a,b,c] X.env=(false,eval a X.env)::starEach [b,c] X.env:=by rfl)(qu:(backTo pos (starEach [b,c] X.env)).any (·.1)=false:=by rfl) :
  SI X tg (.Call (.Name "range" p) [a,b,c] [] pos) (yl fs):=⟨(yb hm ⟨ha.h⟩ hg hs qu).h.imp fun σ H R h=>by
 obtain⟨μ,ρ,st,l,h⟩:=h
 refine⟨μ,ρ,st,l,RK.bind h l fun μ1 st1 x v H1 p1 x1 l1 q1 h1=>?_⟩
 split at h1
 ·rename_i i j k
  obtain⟨y,ys,rfl,ry,r1⟩:=q1.consE
  obtain⟨z,zs,rfl,rz,r2⟩:=r1.consE
  obtain⟨w,rfl,ql⟩:=r2.one
  split at h1
  ·rename_i cc
   obtain⟨rfl,cc⟩:=cc
   exact⟨_,_,by rw[ry.intE,rz.intE,ql.intE],cc,h1 μ1 _ H1 (ah _) d_.refl l1.sto (sH (Gv _ _))⟩
  ·exact h1.elim
 ·exact h1.elim⟩
def BK(fs:FA):FI:=fun ρ st=>(fs ρ st).bind fun ws st=>match ws with
 |[.str l]=>if l.length<=1000000 then .ok (fg l.reverse,none) st else .bad
 |_=>.bad
theorem KZ(hm:X.mg "reversed"=none)(ha:SA X [a] fs)(hg:Gl X "reversed":=by rfl)(hs:starEach [a] X.env=(false,eval a X.env)::starEach [] X.env:=by rfl) :
  SI X tg (.Call (.Name "reversed" p) [a] [] pos) (BK fs):=⟨(KB hm ⟨ha.h⟩ hg hs).h.imp fun σ H R h=>by
 obtain⟨μ,ρ,st,l,h⟩:=h
 refine⟨μ,ρ,st,l,RK.bind h l fun μ1 st1 x v H1 p1 x1 l1 q1 h1=>?_⟩
 split at h1
 ·obtain⟨y,rfl,ry⟩:=q1.one
  split at h1
  ·rename_i cc
   exact⟨_,by rw[ry.strE],cc,h1 μ1 _ H1 (ah _) d_.refl l1.sto (sH (sI _))⟩
  ·exact h1.elim
 ·exact h1.elim⟩
end
section
variable{w:World}{g:Array GenState}{d:Drawn}{t:Nat}{os:OsState}{o:Obj}
 {nm q:Str} {C N:Addr} {bs bm:List Value} {hdct:Bool} {sn:List Str} {sub:List Value} {ab:Bool} {col:Option Bool} {dd:Option Addr} {k0 k1 k2 k3 k5:Option Value} {Jz:String} {K:Frag}
end
section
variable{a:Expr}{fa:FE}
end
section
variable{a:Expr}{fa:FE}{k:Nat}
end
section
end
section
theorem vq(l:List α):∀(k:Nat) (f_:List α),List.foldl (fun x1 x2=>x1++x2) f_.toArray (List.replicate k l.toArray)=(f_++(List.replicate k l).flatten).toArray
 |0,f_=>by simp
 |k+1,f_=>by
  have e:f_.toArray++l.toArray=(f_++l).toArray:=by simp
  rw[ca,eK,e,vq l k (f_++l),ca,cP,bh]
theorem Po(l:List Nat)(n:Int):Txt.mul (tx l) n=tx (List.replicate n.toNat l).flatten:=by
 unfold Txt.mul
 by_cases h:n<1
 ·rw[au h,show n.toNat=0 by omega];rfl
 ·rw[ax h]
  split
  ·rename_i hc
   rw[nU,db,db,iH]at hc
   rcases hc with rfl|hc
   ·simp
   ·have:l=[]:=iY.mp hc
    subst this
    simp
  ·have:=vq l n.toNat []
   rw[gq]at this
   show Str.mk _=Str.mk _
   congr 1
theorem K0:nF X (binaryOp .Mult) (fun x y H Q=>∃(l:List Nat) (k:Int),x=.str (tx l)/\y=.int k/\-(2^62)<=k/\k<2^62/\l.length*k.toNat<=1000000/\Q (.str (tx (List.replicate k.toNat l).flatten)) H):=by
 intro ag s σ H x y v u Q I rx ry h
 obtain⟨l,k,rfl,rfl,h1,h2,h3,q⟩:=h
 obtain⟨t,rfl⟩:=rx
 obtain⟨t',rfl⟩:=ry
 refine SB.mul ⟨?_,?_,?_⟩ fun t2 tk=>⟨.str _,H,I.tok _,⟨t2,?_⟩,q⟩
 ·simp;omega
 ·intro hk hx
  rw[iH]
  intro hg
  have hk1:1<=k:=by omega
  have:k*((2^63-1)/k)<=2^63-1:=Int.mul_ediv_self_le (by omega)
  have h4:(2^63-1)<k*(l.length:Int):=by
   have:=Int.lt_mul_of_ediv_lt (a:=2^63-1) (b:=(l.length:Int)) (c:=k) (by omega) hg
   rw[nC];exact this
  have h5:k*(l.length:Int)=((l.length*k.toNat:Nat):Int):=by
   rw[dm,Int.toNat_of_nonneg (by omega),nC]
  rw[h5]at h4
  omega
 ·intro hk hx
  rw[iH]
  unfold Builtin.Str.tooLong
  rw[a8]
  have:(1000000:Nat)<=sizeLine:=by decide
  omega
 ·rw[Po]
def fR:W->W->List am->R W
 |.int i,.int j,st=>if OW i j then .ok (.int (i*j)) st else .bad
 |.str l,.int k,st=>if -(2^62)<=k/\k<2^62/\l.length*k.toNat<=mj then .ok (.str (List.replicate k.toNat l).flatten) st else .bad
 |_,_,_=>.bad
theorem vt:u_ X (binaryOp .Mult) fR:=⟨fun ag s σ H x y v u Q I rv ru zq=>by
 obtain⟨μ,st,wx,wy,S,rx,ry,q⟩:=zq
 cases wx with
 |int i=>
  cases wy with
  |int j=>
   have q':E3 X μ H Q (SC (.int i) (.int j) st):=q
   exact SH.h ag s σ H x y v u Q I rv ru ⟨μ,st,.int i,.int j,S,rx,ry,q'⟩
  |_=>exact q.elim
 |str l=>
  cases wy with
  |int k=>
   simp only[fR]at q
   split at q
   ·rename_i cc
    exact K0 ag s σ H x y v u Q I rv ru ⟨l,k,rx.strE,ry.intE,cc.1,cc.2.1,cc.2.2,qE S q⟩
   ·exact q.elim
  |_=>exact q.elim
 |_=>cases wy<;>exact q.elim,fun x y st=>by
 unfold fR
 repeat' split
 all_goals trivial⟩
end
section
variable{x:Str}{fs:FA}
end
section
variable{w:World}
theorem vw:∀(l:List Nat) (vs:List Value),vs.length=l.length->(∀(j:Nat) (v:Value),vs[j]?=some v->∃c u,l[j]?=some c/\v=.str (tx [c]) u)->StrsAre vs (l.map fun c=>tx [c])
 |[],[],_,_=>.nil
 |c::l,v::vs,hl,h=>by
  obtain⟨d,u,e,rfl⟩:=h 0 v rfl
  cases e
  exact .cons _ _ (vw l vs (Nat.succ.inj hl) fun j v hj=>h (j+1) v hj)
 |[],_::_,hl,_=>nomatch hl
 |_::_,[],hl,_=>nomatch hl
theorem Af{t:Tok}(few:l.length<64)(hh:A.handled=none)
  (q:∀(s1:Shared) (g1:Heap) (out:Array Value) (ss:List Str) (e:Nat),(∀b o,s.heap.get? b=some o->s1.heap.get? b=some o)->s1.gens=s.gens->s1.drawn=s.drawn->s1.os=s.os->(∀b o,s1.heap.get? b=some o->g1.get? b=some o)->g1.get? s1.heap.objs.size=some (seqObj "list" out e) ->
   StrsAre out.toList ss->ss.Perm (l.map fun c=>tx [c])->sortedS ss=true->Q (.ref s1.heap.objs.size) { s1 with heap:=g1 }):wpAny (model prog w) A (call (.builtin "sorted") [.str (tx l) t]) Q E s:=by
 have hn:(tx l).cps.size=l.length:=by simp[tx]
 apply lL kind_sorted plain_sorted entry_sorted (args_sorted1 _)
 show wpAny _ _ (checkCount "sorted" 1 1 _ >>= _) _ _ _
 refine aa (aq (aa (wpAny_collect_str (by simpa using hh) _ _ (fun s1 f_ kp eg ed eo ha=>?_) (by rw[j0];omega))))
 have mP:StrsAre f_.toList (l.map fun c=>tx [c]):=by
  refine vw l _ (by rw[dI,ha.1,hn]) fun j v hj=>?_
  obtain⟨c,u,hc,e⟩:=ha.2 j v (by simpa using hj)
  exact⟨c,u,by simpa[tx]using hc,e⟩
 have hvl:f_.toList.length<64:=by rw[dI,ha.1,hn];exact few
 refine aa (wpAny_newList ?_ (by rw[j0];omega))
 have oL:(s1.heap.push (seqObj "list" f_.toList.toArray 0)).get? s1.heap.objs.size=some (seqObj "list" f_.toList.toArray 0):=ar _ rfl
 refine aa (dz (bp slot_list_sort ⟨_,oL,rfl⟩ entry_list_sort (list_sort_treeK strKind_oneLt oL mP.keysOf (fun a b r e=>keyKind_strs (by rw[<- e];exact mP)) hvl fun st a1 a2=>⟨_,rfl,?_⟩) (args_list_sort _)))
 obtain⟨ss,h1,h2,h3⟩:=sorted_out_str mP a1 a2
 obtain⟨e,he⟩:=sortedHeap_at (out:=(arrOf st).map (·.2)) oL
 refine aq ⟨_,rfl,q s1 _ _ ss e kp eg ed eo (fun b o hb=>?_) he h1 h2 h3⟩
 rw[sortedHeap_old (aX (aC hb)) (by rw[bt];exact cQ (aC hb))]
 exact ai _ hb
end
section
def kU(ws:List W)(st:List am):R W:=match ws with
 |[.str l]=>if l.length<64 then .ok (.loc st.length) (st++[.lst ((iV (l.map fun c=>[c])).map W.str)])else .bad
 |[.loc n]=>ph [.loc n] st
 |_=>.bad
theorem K3(hc:X.calm=true:=by rfl):qG X (.builtin "sorted") kU:=⟨fun ag s σ H vs us Q I rv zq=>by
 obtain⟨μ,st,ws,S,r,q⟩:=zq
 unfold kU at q
 split at q
 ·rename_i l
  split at q
  ·rename_i c
   obtain⟨y,rfl,ry⟩:=r.one
   have:=ry.strE;subst this
   obtain⟨u,rfl,ru⟩:=nG rv
   obtain⟨t,rfl⟩:=ru
   refine Af c (I.ok.hd hc) fun s1 g1 out ss e kp eg ed eo k1 gL mP hp hsr=>?_
   have es:s1={ s with heap:=s1.heap,toks:=s1.toks }:=by cases s1;cases s;cases eg;cases ed;cases eo;rfl
   generalize s1.heap=g0,s1.toks=tk at es kp k1 gL ⊢
   subst es
   have I2:bA X ag σ H { s with heap:=g0,toks:=tk }:=I.kept2 (d':=s.drawn) fun b o e=>kp b o e
   have wn:H g0.objs.size=none:=I2.hok.fresh (aw _)
   have hmap:(ss.map fun z=>z.cps.toList).map tx=ss:=by
    rw[aS]
    have:(tx∘fun z:Str=>z.cps.toList)=id:=funext fun z=>CP z
    rw[this,iX]
   have hperm:(ss.map fun z=>z.cps.toList).Perm (l.map fun c=>[c]):=by
    have e:=hp.map fun z:Str=>z.cps.toList
    rw[aS]at e
    exact e
   have ez:(ss.map fun z=>z.cps.toList)=iV (l.map fun c=>[c]):=yk (vo (by rw[hmap];exact hsr)) (Ab _) (hperm.trans (gX _).symm)
   have hvals:cu ((iV (l.map fun c=>[c])).map fun l=>V.str (tx l)) out.toList:=by
    have e:=mR mP
    rw[<- hmap,ez,aS]at e
    exact e
   refine⟨.ref g0.objs.size,_,I2.laid (o:=.lst ((iV (l.map fun c=>[c])).map fun l=>V.str (tx l))) (t':=tk) k1 (aw _) ⟨?_,out.toList,e,hvals,gL⟩,rfl,?_⟩
   ·rw[al,(gX _).length_eq,al]
    exact aL (gj c) (by decide)
   ·exact q (μ++[g0.objs.size]) _ _ (bb _ _) (fS.same (cy wn _)) (S.newLst wn (Ac _)) (oE S)
  ·exact q.elim
 ·exact Ae.h ag s σ H _ us Q I rv ⟨μ,st,_,S,r,q⟩
 ·exact q.elim,fun ws st=>by
 unfold kU
 split
 ·split<;>trivial
 ·exact(Ae (X:=X)).n _ _
 ·trivial⟩
end
section
variable{a b:Expr}{fs:FA}
end
section
variable{nm:List Str}{fi:FI}{f:FG}{t:FT}{el:FE}
end
theorem bA.turnedL{s:Shared}{t':Nat}{ch:List Addr}(I:bA X ag σ H s)(k:∀b o,b∉ch->s.heap.get? b=some o->h'.get? b=some o)
  (f:∀b∈ch,sf X ag H b):bA X ag σ H { s with heap:=h',toks:=t' }:=by
 have nit:∀b u,H b=some u->b∉ch:=fun b u q z=>by rw[(f b z).1]at q;cases q
 refine I.step (g':=s.gens) (d':=s.drawn) (ch:=ch) (fun b hb=>?_) (fun b o _ _ hc q _=>k b o hc q) (fun b o _ _ hc q _=>⟨o.slots,k b o hc q⟩) (fun _ _ _ _ n=>n)
  (fun b o hc q=>⟨o,k b o hc q⟩) (fun _ _ q=>q) (fun _ _ _ q=>q) (fun b ps q=>⟨#[],by rw[q];simp⟩) (fun m hm=>?_) (fun b u q=>?_) I.bare
 ·exact⟨(f b hb).2.2.2.1,(f b hb).2.1,(f b hb).2.2.2.2.1,(f b hb).2.2.2.2.2⟩
 ·obtain⟨o,es,ep,ho,r⟩:=hm
  exact⟨o,es,ep,k _ o (fun z=>(f _ z).2.1 rfl) ho,r⟩
 ·refine(I.hok b u q).stay (fun c v hc z=>?_) (fun _ z=>z) fun _ _ z=>z
  rcases hc with y|y
  ·rw[y]at z ⊢;exact k b v (nit b u q) z
  ·exact k c v (nit c _ y) z
section
variable{w:World}
variable{z P O i j:Addr}{xs ys:Array Value}{x y:Value}
end
open AutoSeq1 (wpAny_loadPart')
section
variable{w:World}
end
noncomputable def ky:List W->List W->List W
 |x::xs,y::ys=>.tup [x,y]::ky xs ys
 |_,_=>[]
theorem oI:∀{xs ys:List W} {i:Nat} {w:W},(ky xs ys)[i]?=some w->∃x y,xs[i]?=some x/\ys[i]?=some y/\w=.tup [x,y]
 |x::xs,y::ys,0,w,h=>by simp[ky]at h;exact⟨x,y,rfl,rfl,h.symm⟩
 |x::xs,y::ys,i+1,w,h=>by simp[ky]at h;simpa using oI h
 |[],_,i,w,h=>by simp[ky]at h
 |_::_,[],i,w,h=>by simp[ky]at h
theorem oJ:∀(xs ys:List W),(ky xs ys).length=min xs.length ys.length
 |x::xs,y::ys=>by simp[ky,oJ xs ys]
 |[],_=>by simp[ky]
 |_::_,[]=>by simp[ky]
section
variable{a b:Expr}{fs:FA}
end
open Builtin.Str (tooLong)
section
variable{w:World}
end
section
end
theorem Ag(zs:List Int):∀n,n<=zs.length->preSum (fun i=>zs.getD i 0) n=(zs.take n).sum
 |0,_=>by simp[preSum]
 |n+1,h=>by
  have ih:=Ag zs n (by omega)
  show preSum (fun i=>zs.getD i 0) n+zs.getD n 0=_
  have e:zs[n]?=some (zs.getD n 0):=by rw[ao,ae (by omega)];rfl
  rw[ih,List.take_succ,e,List.sum_append]
  simp
def VZ(K:Frag):List V->Hp->VK->Prop:=fun xs H Q=>∃(p:Addr) (zs:List Int),xs=[.ref p]/\oZ K H p (zs.map V.int)/\Q (.int zs.sum) H
theorem Tf(hc:X.calm=true:=by rfl):LU X (.builtin "sum") (VZ X.K):=⟨by
 intro ag s σ H xs us Q I r h
 obtain⟨p,zs,rfl,hS,q⟩:=h
 obtain⟨u,rfl,ru⟩:=nG r
 cases ru
 obtain⟨bq,rv,pl,hz⟩:=I.list hS
 have hh:=I.ok.hd hc
 have hl:s.heap.IsList p bq.toArray:=pl.isList
 have hlt:p<s.heap.objs.size:=by obtain⟨o,ho,_⟩:=hl;exact aC ho
 have da:bq.toArray.size=zs.length:=by have:=rv.length;rw[al]at this;simpa using this.symm
 refine call_sum_walkAnyS (gR hl ?_)
 refine⟨_,_,_,_,_,_,_,fun i=>zs.getD i 0,rfl,(Walks.list (A:=X.A.in1) (by simpa using hh) s.heap.objs.size p (aX hlt) bq.toArray).toS,⟨⟨_,ar _ rfl,rfl,rfl⟩,hl.at fun o e=>ai _ e⟩,fun b hb=>?_,fun i v hP=>?_,fun s1 t' hm=>?_⟩
 ·have z:b=s.heap.objs.size\/b=p:=by simpa using hb
  show b<(s.heap.push _).objs.size
  rw[bt]
  rcases z with rfl|rfl
  ·exact cJ _
  ·exact cQ hlt
 ·have hi:bq[i]?=some v:=by simpa using hP
  have hlt:i<zs.length:=by
   have:=(ac.mp hi).1
   rw[<- da];simpa using this
  have hx:(zs.map V.int)[i]?=some (.int zs[i]):=by rw[aj,ae hlt];rfl
  obtain⟨u,hu,ru⟩:=rv.get hx
  rw[hi]at hu
  obtain⟨t,et⟩:=ru
  refine⟨t,(aF hu).trans ?_⟩
  rw[et];show Value.int zs[i] t=Value.int (zs.getD i 0) t;rw[ao,ae hlt];rfl
 ·have e:preSum (fun i=>zs.getD i 0) bq.toArray.size=zs.sum:=by rw[da,Ag zs _ (aw _),cz]
  rw[e]
  have eg:s1.gens=s.gens:=hm.gens
  have ed:s1.drawn=s.drawn:=hm.drawn
  have eo:s1.os=s.os:=hm.os
  have kp:∀b o,s.heap.get? b=some o->s1.heap.get? b=some o:=fun b o eb=>hm.heap b o (fun z=>by
   have z:b=s.heap.objs.size:=by simpa using z
   exact absurd (aC eb) (by rw[z];exact cW _)) (ai _ eb)
  have es:s1={ s with heap:=s1.heap,toks:=s1.toks }:=by cases s1;cases s;cases eg;cases ed;cases eo;rfl
  generalize s1.heap=g0,s1.toks=tk at es kp
  subst es
  exact⟨.int _,H,I.kept2 (d':=s.drawn) fun b o e=>kp b o e,⟨t',rfl⟩,q⟩⟩
section
noncomputable def qL:List W->Option (List Int)
 |[]=>some []
 |.int z::ws=>(qL ws).map (z :: ·)
 |_=>none
theorem Ah:∀{ws:List W} {l:List Int} {vs:List V},qL ws=some l->RelWs K μ H ws vs->vs=l.map V.int
 |[],l,vs,h,r=>by simp only[qL]at h;cases h;exact r.nilE
 |w::ws,l,vs,h,r=>by
  obtain⟨x,xs,rfl,rx,rs⟩:=r.consE
  unfold qL at h
  split at h
  ·rename_i e;cases e
  ·rename_i z Rk e
   cases e
   cases e2:qL ws with
   |none=>rw[e2]at h;cases h
   |some l'=>rw[e2]at h;cases h;rw[rx.intE,Ah e2 rs];rfl
  ·cases h
def ym(ws:List W)(st:List am):R W:=match ws with
 |[.loc n]=>qt (lstOf st n) fun zs=>qt (qL zs) fun ls=>.ok (.int ls.sum) st
 |_=>.bad
theorem Tg(hc:X.calm=true:=by rfl):qG X (.builtin "sum") ym:=⟨fun ag s σ H vs us Q I rv zq=>by
 obtain⟨μ,st,ws,S,r,q⟩:=zq
 unfold ym at q
 split at q
 ·rename_i n
  obtain⟨y,rfl,ry⟩:=r.one
  cases e1:lstOf st n with
  |none=>rw[e1]at q;exact q.elim
  |some zs=>
   rw[e1,c5]at q
   cases e2:qL zs with
   |none=>rw[e2]at q;exact q.elim
   |some ls=>
    rw[e2,c5]at q
    obtain⟨a,vs,g,hS,rz⟩:=S.lstOf e1
    obtain⟨b1,f1,rfl⟩:=ry.locE
    rw[g]at f1;cases f1
    have:=Ah e2 rz
    subst this
    exact(Tf hc).h ag s σ H _ us Q I rv ⟨_,ls,rfl,hS,lS S q⟩
 ·exact q.elim,fun ws st=>by
 unfold ym
 split
 ·exact pI fun _=>pI fun _=>trivial
 ·trivial⟩
end
section
theorem RelWs.rep{a:List W}(r:RelWs K μ H a vs):∀k:Nat,RelWs K μ H (List.replicate k a).flatten (List.replicate k vs).flatten
 |0=>.nilI
 |k+1=>by rw[ca,ca,cP,cP];exact r.app (RelWs.rep r k)
def qM:W->W->List am->R W
 |.int i,.int j,st=>fR (.int i) (.int j) st
 |.str l,.int k,st=>fR (.str l) (.int k) st
 |.loc n,.int k,st=>(match st[n]? with
  |some (.lst ws)=>if -(2^63)<=k/\k<2^63/\ws.length*k.toNat<=mj then kR (List.replicate k.toNat ws).flatten st else .bad
  |_=>.bad)
 |_,_,_=>.bad
theorem Pp:u_ X (binaryOp .Mult) qM:=⟨fun ag s σ H x y v u Q I rv ru zq=>by
 obtain⟨μ,st,wx,wy,S,rx,ry,q⟩:=zq
 cases wx with
 |int i=>
  cases wy with
  |int j=>exact vt.h ag s σ H x y v u Q I rv ru ⟨μ,st,.int i,.int j,S,rx,ry,q⟩
  |_=>exact q.elim
 |str l=>
  cases wy with
  |int k=>exact vt.h ag s σ H x y v u Q I rv ru ⟨μ,st,.str l,.int k,S,rx,ry,q⟩
  |_=>exact q.elim
 |loc n=>
  cases wy with
  |int k=>
   simp only[qM]at q
   cases e1:st[n]? with
   |none=>rw[e1]at q;exact q.elim
   |some c1=>
    cases c1 with
    |lst a=>
     rw[e1]at q
     dsimp only at q
     split at q
     ·rename_i cc
      obtain⟨a1,g1,vs1,k1,r1⟩:=S.get e1
      obtain⟨b1,f1,rfl⟩:=rx.locE
      rw[g1]at f1;cases f1
      obtain⟨hz,qq⟩:=qD (σ:=σ) S (r1.rep k.toNat) (F5 q)
      exact Oz ag s σ H _ _ v u Q I rv ru ⟨a1,k,vs1,rfl,ry.intE,k1,cc.1,cc.2.1,by rw[<- r1.len];exact mT cc.2.2,fun p hp=>qq p _ hp rfl⟩
     ·exact q.elim
    |_=>rw[e1]at q;exact q.elim
  |_=>exact q.elim
 |_=>cases wy<;>exact q.elim,fun x y st=>by
 unfold qM
 split
 ·exact(vt (X:=X)).n _ _ _
 ·exact(vt (X:=X)).n _ _ _
 ·split
  ·split
   ·exact CU _ _
   ·trivial
  ·trivial
 ·trivial⟩
end
noncomputable abbrev Th:=List W×List (Nat×List W)
abbrev Ww:=cw->List am->R Th
section
variable{nm:List Str}{fi:Ww}{f:FG}{t:FT}{el:FE}
end
section
variable{a b:Expr}{fs:FA}
end
section
end
section
variable{nm:List Str}{wi:TI}{g:TG}{te:Cx->TE}
end
section
variable{nm:List Str}{fi:FI}{f:FG}{el:FE}
end
theorem DK.key_inj{a b:DK}:a.key=b.key↔a=b:=by
 cases a<;>cases b<;>simp[DK.key,Fy]
noncomputable def DK.w:DK->W
 |.i z=>.int z
 |.s l=>.str l
noncomputable def pM:W->Option DK
 |.int z=>some (.i z)
 |.str l=>some (.s l)
 |_=>none
theorem yn{w:W}{k:DK}{v:V}(h:pM w=some k)(r:bu K μ H w v):v=kV k.key:=by
 cases w with
 |int z=>cases h;exact r.intE
 |str l=>cases h;exact r.strE
 |_=>cases h
theorem DK.w_rel(k:DK):bu K μ H k.w (kV k.key):=by
 cases k with
 |i z=>exact .int
 |s l=>exact .str
noncomputable def kW(kvs:List (DK×W))(k:DK):Option W:=(kvs.find? fun p=>decide (p.1=k)).map fun p=>p.2
noncomputable def kX(kvs:List (DK×W))(k:DK)(v:W):List (DK×W):=if (kvs.any fun p=>decide (p.1=k))=true then kvs.map fun p=>if p.1=k then(p.1,v)else p else kvs++[(k,v)]
abbrev dV(kvs:List (DK×W))(vs:List V):List (jv×V):=(kvs.map fun p=>p.1.key).zip vs
section
theorem BL:∀{kvs:List (DK×W)} {vs:List V} (k:DK),RelWs K μ H (kvs.map fun p=>p.2) vs->(∃w v,kW kvs k=some w/\py (dV kvs vs) k.key=some v/\bu K μ H w v)\/(kW kvs k=none/\py (dV kvs vs) k.key=none)
 |[],vs,k,r=>.inr ⟨rfl,rfl⟩
 |p::kvs,vs,k,r=>by
  obtain⟨x,xs,rfl,a,b⟩:=RelWs.consE r
  have ih:=BL (kvs:=kvs) k b
  by_cases h:p.1=k
  ·refine .inl ⟨p.2,x,?_,?_,a⟩
   ·unfold kW;rw[bZ];simp[h]
   ·show py ((p.1.key,x)::dV kvs xs) k.key=some x
    exact qw (by rw[h])
  ·have e1:kW (p::kvs) k=kW kvs k:=by unfold kW;rw[bZ];simp[h]
   have e2:py (dV (p::kvs) (x::xs)) k.key=py (dV kvs xs) k.key:=qx (p:=(p.1.key,x)) fun z=>h (DK.key_inj.mp z)
   rw[e1,e2];exact ih
theorem Gw:∀{kvs:List (DK×W)} {vs:List V} (k:DK),RelWs K μ H (kvs.map fun p=>p.2) vs->((dV kvs vs).any fun kv=>decide (kv.1=k.key))=(kvs.any fun p=>decide (p.1=k))
 |[],vs,k,r=>rfl
 |p::kvs,vs,k,r=>by
  obtain⟨x,xs,rfl,a,b⟩:=RelWs.consE r
  show(decide (p.1.key=k.key)||(dV kvs xs).any _)=(decide (p.1=k)||kvs.any _)
  rw[Gw k b]
  congr 1
  rw[decide_eq_decide];exact DK.key_inj
theorem Gx{k:DK}{w:W}{v:V}:∀{kvs:List (DK×W)} {vs:List V},RelWs K μ H (kvs.map fun p=>p.2) vs->bu K μ H w v->∃us,(dV kvs vs).map (fun kv=>if kv.1=k.key then(kv.1,v)else kv)=dV (kvs.map fun p=>if p.1=k then(p.1,w)else p) us/\RelWs K μ H ((kvs.map fun p=>if p.1=k then(p.1,w)else p).map fun p=>p.2) us
 |[],vs,r,ql=>⟨[],rfl,.nilI⟩
 |p::kvs,vs,r,ql=>by
  obtain⟨x,xs,rfl,a,b⟩:=RelWs.consE r
  obtain⟨us,e,q⟩:=Gx (k:=k) b ql
  by_cases h:p.1=k
  ·refine⟨v::us,?_,?_⟩
   ·show(if p.1.key=k.key then(p.1.key,v)else(p.1.key,x))::(dV kvs xs).map _=_
    rw[au (by rw[h]),e,aP,au h];rfl
   ·rw[aP,au h];exact .consI ql q
  ·refine⟨x::us,?_,?_⟩
   ·show(if p.1.key=k.key then(p.1.key,v)else(p.1.key,x))::(dV kvs xs).map _=_
    rw[ax (fun z=>h (DK.key_inj.mp z)),e,aP,ax h];rfl
   ·rw[aP,ax h];exact .consI a q
theorem Pq{kvs:List (DK×W)}{k:DK}{w:W}{v:V}(r:RelWs K μ H (kvs.map fun p=>p.2) vs)(ql:bu K μ H w v):∃us,sv (dV kvs vs) k.key v=dV (kX kvs k w) us/\RelWs K μ H ((kX kvs k w).map fun p=>p.2) us:=by
 unfold sv kX
 rw[Gw k r]
 by_cases h:(kvs.any fun p=>decide (p.1=k))=true
 ·rw[au h,au h]
  exact Gx r ql
 ·rw[ax h,ax h]
  refine⟨vs++[v],?_,?_⟩
  ·unfold dV
   rw[bw,List.zip_append (by rw[al,<- r.len,al])];rfl
  ·rw[bw];exact r.app (.consI ql .nilI)
theorem Gy{kvs:List (DK×W)}(r:RelWs K μ H (kvs.map fun p=>p.2) vs):(dV kvs vs).length=kvs.length:=by
 unfold dV;rw[List.length_zip,al,<- r.len,al,Nat.min_self]
theorem fS.butD{l:Addr}{xs:List (jv×V)}(e:UP l H H')(hl:H l=some (.dK xs)):d_ K H H':=by
 have xO:∀{p:Addr} {o:HO},H p=some o->(∀zs,o≠.dK zs)->p≠l:=fun{p o} q hn z=>by subst z;rw[hl]at q;cases q;exact hn _ rfl
 refine⟨fun p ys h=>?_,fun b o u h=>e _ _ (xO h (fun _ z=>by cases z)) h⟩
 rcases h with(h|⟨o,h⟩)|h
 ·exact .inl (.inl (e _ _ (xO h (fun _ z=>by cases z)) h))
 ·exact .inl (.inr ⟨o,e _ _ (xO h (fun _ z=>by cases z)) h⟩)
 ·exact .inr h
end
theorem iy.setD(S:iy K mg μ st H){kvs Q9:List (DK×W)}{xs:List (jv×V)}{us:List V}(hn:st[n]?=some (.dct kvs))(hm:μ[n]?=some a)(ha:H a=some (.dK xs))(hr:RelWs K μ H (Q9.map fun p=>p.2) us) :
  iy K mg μ (st.set n (.dct Q9)) (ei H a (.dK (dV Q9 us))):=
 S.setG hn rfl hm ha (fun _ _ z=>by cases z) (fun _ z=>by cases z) (fS.butD iB ha) rfl ⟨us,eN,hr.mono (ah _) (fS.butD iB ha)⟩
noncomputable def ga(st:List am):W->Option (Nat×List (DK×W))
 |.loc n=>(match st[n]? with
  |some (.dct kvs)=>some (n,kvs)
  |some (.rod kvs)=>some (n,kvs)
  |_=>none)
 |_=>none
noncomputable def EG(st:List am):W->Option (Nat×List (DK×W))
 |.loc n=>(match st[n]? with
  |some (.dct kvs)=>some (n,kvs)
  |_=>none)
 |_=>none
theorem qN(S:iy K mg μ st H){x:W}{v:V}{kvs:List (DK×W)}(h:ga st x=some (n,kvs))(r:bu K μ H x v) :
  ∃a vs,(st[n]?=some (.dct kvs)\/st[n]?=some (.rod kvs))/\μ[n]?=some a/\v=.ref a/\Rd H a (.dK (dV kvs vs))/\RelWs K μ H (kvs.map fun p=>p.2) vs:=by
 cases x with
 |loc m=>
  simp only[ga]at h
  cases e:st[m]? with
  |none=>rw[e]at h;cases h
  |some c=>
   rw[e]at h
   cases c with
   |dct z=>
    cases h
    obtain⟨a,g,vs,k,rr⟩:=S.get e
    obtain⟨b,f,rfl⟩:=r.locE
    rw[g]at f;cases f
    exact⟨a,vs,.inl e,g,rfl,.inl k,rr⟩
   |rod z=>
    cases h
    obtain⟨a,g,vs,o,k,rr⟩:=S.get e
    obtain⟨b,f,rfl⟩:=r.locE
    rw[g]at f;cases f
    exact⟨a,vs,.inr e,g,rfl,.inr ⟨o,k⟩,rr⟩
   |_=>cases h
 |_=>cases h
theorem K4(S:iy K mg μ st H){x:W}{v:V}{kvs:List (DK×W)}(h:EG st x=some (n,kvs))(r:bu K μ H x v) :
  ∃a vs,st[n]?=some (.dct kvs)/\μ[n]?=some a/\v=.ref a/\H a=some (.dK (dV kvs vs))/\RelWs K μ H (kvs.map fun p=>p.2) vs:=by
 cases x with
 |loc m=>
  simp only[EG]at h
  cases e:st[m]? with
  |none=>rw[e]at h;cases h
  |some c=>
   rw[e]at h
   cases c with
   |dct z=>
    cases h
    obtain⟨a,g,vs,k,rr⟩:=S.get e
    obtain⟨b,f,rfl⟩:=r.locE
    rw[g]at f;cases f
    exact⟨a,vs,e,g,rfl,k,rr⟩
   |_=>cases h
 |_=>cases h
theorem wz.r{k:jv}(e:Rd H a (.dK kvs)):wz H a (kV k) (py kvs k):=.inl ⟨kvs,k,e,rfl,rfl⟩
section
variable{a b d i:Expr}{x:Str}{fa fb fc fe fo fi:FE}{fs:FA}
def yo(x y:W)(st:List am):R W:=match ga st x,pM y with
 |some (_,kvs),some k=>qt (kW kvs k) fun w=>.ok w st
 |_,_=>.bad
theorem Ti(hr:g_ kk X.A)(ha:SE X a fa)(hb:SE X b fb)(hs:OB b:=by intro _ _;rfl):SE X (.Subscript a b pos) (e2 yo fa fb):=⟨(Ke (Fs hr) ha.h hb.h hs).imp fun σ H Q h=>by
 obtain⟨μ,ρ,st,l,h⟩:=h
 refine⟨μ,ρ,st,l,RK.bind h l fun μ1 st1 x v H1 p1 x1 l1 q1 h1=>⟨μ1,ρ,st1,l1,RK.bind h1 l1 fun μ2 cV y u H2 p2 x2 l2 q2 h2=>?_⟩⟩
 unfold yo at h2
 cases e1:ga cV x with
 |none=>rw[e1]at h2;exact h2.elim
 |some nk=>
  obtain⟨n,kvs⟩:=nk
  cases e2:pM y with
  |none=>rw[e1,e2]at h2;exact h2.elim
  |some k=>
   rw[e1,e2]at h2
   simp only at h2
   obtain⟨a,vs,_,_,rfl,ha,r⟩:=qN l2.sto e1 (q1.mono p2 x2)
   have:=yn e2 q2
   subst this
   rcases BL k r with⟨w,z,g1,g2,g3⟩|⟨g1,g2⟩
   ·rw[g1]at h2
    exact⟨a,z,rfl,by rw[<- g2];exact wz.r ha,h2 μ2 z H2 (ah _) d_.refl l2.sto g3⟩
   ·rw[g1]at h2;exact h2.elim⟩
def qQ(x i v:W)(st:List am):Option (List am):=match EG st x,pM i with
 |some (n,kvs),some k=>if kvs.length<mj then some (st.set n (.dct (kX kvs k v)))else none
 |_,_=>none
theorem Ps(hr:g_ kk X.A):D4 X (Gd X qQ):=fun ag s σ H o i v ov iv u Q I r1 r2 r3 zq=>by
 obtain⟨μ,st,wo,wi,wv,bz,S,ro,ri,rv,e,q⟩:=zq
 unfold qQ at e
 cases e1:EG st wo with
 |none=>rw[e1]at e;cases e
 |some nk=>
  obtain⟨n,kvs⟩:=nk
  cases e2:pM wi with
  |none=>rw[e1,e2]at e;cases e
  |some k=>
   rw[e1,e2]at e
   simp only at e
   split at e
   ·rename_i hl
    cases e
    obtain⟨a,vs,hn,hm,rfl,ha,r⟩:=K4 S e1 ro
    have:=yn e2 ri
    subst this
    obtain rfl:ov=Value.ref a:=r1
    obtain⟨us,g1,g2⟩:=Pq (k:=k) r rv
    refine Ei (Fs hr) I (Kc.k ha (by rw[Gy r];exact aU hl (by decide))) r2 r3 fun s' I'=>⟨_,I',?_⟩
    rw[g1]
    exact q _ (fS.butD iB ha) (S.setD hn hm ha g2)
   ·cases e
def Gz:FE:=fun _ st=>.ok (.loc st.length) (st++[.dct []])
theorem Pt:SE X (.Dict [] [] pos) Gz:=⟨Fu.imp fun σ H Q h=>by
 obtain⟨μ,ρ,st,l,h⟩:=h
 intro p hp
 have hs:uc H (ei H p (.dK [])):=cy hp _
 exact h (μ++[p]) (.ref p) _ (bb _ _) (fS.same hs) (l.sto.push (c:=.dct []) hp ⟨[],eN,.nilI⟩) (oE l.sto)⟩
end
section
theorem K5{w:World}{k:jv}(h:(d9 P w).is k v=true):cD (kV k) v:=by
 rcases eY h with⟨i,t,rfl,rfl⟩|⟨x,t,rfl,rfl⟩
 ·exact⟨t,rfl⟩
 ·exact⟨t,rfl⟩
end
section
theorem GA{l:List α}{x:α}(h:l[i]?=some x):l.set i x=l:=by
 refine b6 fun j=>?_
 by_cases e:i=j
 ·subst e;rw[bn (ac.mp h).1,h]
 ·rw[bT e]
end
section
end
section
variable{en dn q:Str}{pr:Arguments}{p1 p3 p4 V' Wh:Pos}{sc:Scope}{c P:Addr}
end
theorem bA.freeze{o:Obj}(I:bA X ag σ H s)(ha:H a=some (.dK kvs))(ho:s.heap.get? a=some o):bA X ag σ (ei H a (.frz o (.dK kvs))) s:=by
 have ne:∀b u,H b=some u->(∀z,u≠.dK z)->ei H a (.frz o (.dK kvs)) b=some u:=fun b u e n=>by rw[cv (fun z=>by rw[z,ha]at e;cases e;exact n _ rfl)];exact e
 have:bA X ag σ (ei H a (.frz o (.dK kvs))) { s with heap:=s.heap,toks:=s.toks }:=by
  refine I.un ⟨fun b o e n hb hx=>e,fun b o e n hb hx=>⟨o.slots,e⟩,fun b o e n hx=>?_,fun b o e hx=>⟨o,e⟩,fun b xs e=>ne b _ e fun _ z=>(by cases z),fun b o u e=>ne b _ e fun _ z=>(by cases z),fun b ps e=>⟨#[],by rw[ne b _ e fun _ z=>(by cases z)];simp⟩⟩ fun b u e=>?_
  ·rw[cv (fun z=>by rw[z,ha]at n;cases n)];exact n
  ·by_cases hb:b=a
   ·subst hb
    rw[eN]at e;cases e
    exact⟨ho,I.hok b _ ha⟩
   ·rw[cv hb]at e
    exact(I.hok b u e).stay (fun _ _ _ q=>q) (fun c q=>ne c _ q fun _ z=>(by cases z)) fun c xs q=>ne c _ q fun _ z=>(by cases z)
 exact this
noncomputable def EH(o:Obj):Nat:=match o.data with
 |.dict _ ep=>ep
 |_=>0
theorem BM{o:Obj}(I:bA X ag σ H s)(ha:H a=some (.frz o (.dK kvs))):∃vs,KV kvs vs/\(a==sysModules)=false/\s.heap.DictAt (d9 X.prog X.w) a vs (EH o):=by
 obtain⟨e,_,hs,vs,rel,o',es,ep,e',r1,r2,r⟩:=I.hok a _ ha
 rw[e]at e';cases e'
 refine⟨vs,rel,hs,o,es,e,r1,?_,r⟩
 have:EH o=ep:=by unfold EH;rw[r2]
 rw[this];exact r2
section
variable{f:Expr}{fo fk fd fe:FE}
def yp(fo fk fd:FE):FE:=fun ρ st=>(fo ρ st).bind fun x st=>match ga st x with
 |some _=>(fk ρ st).bind fun y st=>(fd ρ st).bind fun z st=>(match ga st x,pM y with
  |some (_,kvs),some k=>.ok ((kW kvs k).getD z) st
  |_,_=>.bad)
 |none=>.bad
theorem K6(hr:g_ kk X.A)(ho:SE X o fo)(he:SE X e fe)(hf:SE X f fd)(m:M2 X o "get" fm e f dw:=by exact⟨by rfl,by rfl,by rfl,by rfl⟩):SE X (.Call (.Attribute o "get" fm) [e,f] [] dw) (yp fo fe fd):=⟨(Fv (Fs hr) ho.h he.h hf.h m).imp fun σ H Q h=>by
 obtain⟨μ,ρ,st,l,h⟩:=h
 refine⟨μ,ρ,st,l,RK.bind h l fun μ1 st1 x v H1 p1 x1 l1 q1 h1=>?_⟩
 cases e0:ga st1 x with
 |none=>rw[e0]at h1;exact h1.elim
 |some nk0=>
  obtain⟨n0,kvs0⟩:=nk0
  rw[e0]at h1
  simp only at h1
  obtain⟨a0,vs0,_,hm0,rfl,ha0,_⟩:=qN l1.sto e0 q1
  refine⟨a0,rfl,.inl ⟨_,ha0⟩,μ1,ρ,st1,l1,RK.bind h1 l1 fun μ2 cV y u H2 p2 x2 l2 q2 h2=>⟨μ2,ρ,cV,l2,RK.bind h2 l2 fun μ3 lZ d t H3 p3 x3 l3 q3 h3=>?_⟩⟩
  cases e1:ga lZ x with
  |none=>rw[e1]at h3;exact h3.elim
  |some nk=>
   obtain⟨n,kvs⟩:=nk
   cases e2:pM y with
   |none=>rw[e1,e2]at h3;exact h3.elim
   |some k=>
    rw[e1,e2]at h3
    simp only at h3
    obtain⟨a,vs,_,hm,ea,ha,r⟩:=qN l3.sto e1 ((q1.mono p2 x2).mono p3 x3)
    cases ea
    have:=yn e2 q2
    subst this
    rcases BL k r with⟨w,z,g1,g2,g3⟩|⟨g1,g2⟩
    ·rw[g1]at h3
     exact⟨some z,by rw[<- g2];exact wz.r ha,h3 μ3 z H3 (ah _) d_.refl l3.sto g3⟩
    ·rw[g1]at h3
     exact⟨none,by rw[<- g2];exact wz.r ha,h3 μ3 t H3 (ah _) d_.refl l3.sto q3⟩⟩
end
section
variable{x y:Str}{a b:Expr}{fs:FA}
end
inductive DefIn(K:Frag)(x:Str)(st:Stmt):Prop
 |mk {ad:Addr} {od an:Option Addr} {sl:Array (Option Value)} {oc kV dc pm cd ct:Value} (a:nsIn K mainGlobals x=some (some (.ref ad)))
   (l:K.lookup ad=some ⟨oc,od,.func (fnOf x x (hG st) (gi st) (aR st) .none kV dc pm an cd ct),sl⟩) (c:codeIn K cd x=true) (k:keepIn K (.ref ad)=true):DefIn K x st
theorem DefIn.fn{x:Str}{st:Stmt}(d:DefIn K x st)(X:K.In h)(G:h.Ns mainGlobals mg):∃f fd,i9 K x x st f fd/\mg x=some (.ref f):=by
 obtain⟨a,l,c,k⟩:=d
 exact⟨_,_,xZ (st:=st) l c k,mg_of X G a⟩
theorem Tj{l:List Value}(h:l.length=n+1):∃a t,l=a::t/\t.length=n:=by
 cases l with
 |nil=>cases h
 |cons a t=>exact⟨a,t,rfl,Nat.succ.inj h⟩
theorem UU{l:List Value}(h:l.length=1):∃a,l=[a]:=jt.mp h
theorem UV{l:List Value}(h:l.length=2):∃a b,l=[a,b]:=by obtain⟨a,t,rfl,k⟩:=Tj h;obtain⟨b,rfl⟩:=UU k;exact⟨a,b,rfl⟩
theorem UW{l:List Value}(h:l.length=3):∃a b c,l=[a,b,c]:=by obtain⟨a,t,rfl,k⟩:=Tj h;obtain⟨b,c,rfl⟩:=UV k;exact⟨a,b,c,rfl⟩
theorem UX{l:List Value}(h:l.length=4):∃a b c d,l=[a,b,c,d]:=by obtain⟨a,t,rfl,k⟩:=Tj h;obtain⟨b,c,d,rfl⟩:=UW k;exact⟨a,b,c,d,rfl⟩
theorem UY{l:List Value}(h:l.length=5):∃a b c d e,l=[a,b,c,d,e]:=by obtain⟨a,t,rfl,k⟩:=Tj h;obtain⟨b,c,d,e,rfl⟩:=UX k;exact⟨a,b,c,d,e,rfl⟩
theorem V0{l:List Value}(h:l.length=6):∃a b c d e f,l=[a,b,c,d,e,f]:=by obtain⟨a,t,rfl,k⟩:=Tj h;obtain⟨b,c,d,e,f,rfl⟩:=UY k;exact⟨a,b,c,d,e,f,rfl⟩
section
variable{P:Program}{w:World}{K:Frag}{mg:Str->Option Value}{base:Heap}{k n:Nat}{x:Str}{st:Stmt}{f:Addr}{fd:FuncData}{ps:List Str}{G:List W->List am->R W}
theorem Pu{h:Heap}(d:DefIn K x st)(X:K.In h)(Gs:h.Ns mainGlobals mg)(ok:∀{f:Addr} {fd:FuncData},i9 K x x st f fd->cX P w K mg base (iJ P w) k f fd ps (jb K mg n G))(hn:ps.length=n:=by rfl)
  (hb:∀(kV se pm:Value) (an:Option Addr) (fO ct:Value) (us:List Value),us.length=ps.length->bindArgs (fnOf x x (hG st) (gi st) (aR st) .none kV se pm an fO ct) ⟨us,[]⟩=pure (ps.zip us):=by(intro _ _ _ _ _ _ _ q;first|(obtain⟨_,rfl⟩:=UU q;rfl)|(obtain⟨_,_,rfl⟩:=UV q;rfl)|(obtain⟨_,_,_,rfl⟩:=UW q;rfl)|(obtain⟨_,_,_,_,rfl⟩:=UX q;rfl)|(obtain⟨_,_,_,_,_,rfl⟩:=UY q;rfl)|(obtain⟨_,_,_,_,_,_,rfl⟩:=V0 q;rfl))):dy P w K mg base k x n G:=let ⟨_,_,F,m⟩:=d.fn X Gs;yh F m hn hb (ok F)
end
noncomputable def UZ:List Str->Bool
 |[]=>true
 |x::r=>!(r.any fun y=>y==x)&&UZ r
theorem GB:∀{l:List Str},UZ l=true->l.Nodup
 |[],_=>.nil
 |x::r,h=>by
  simp only[UZ,bX,gU,l0,db]at h
  exact fG.mpr ⟨fun m=>h.1 x m rfl,GB h.2⟩
section
variable{x:Str}{fe:FE}{sp:Scope}
theorem kM{N:List Str}(a:sp.kind=.function:=by rfl)(b:sp.isCoroutine=false:=by rfl)(c:sp.isGenerator=false:=by rfl)(d:N.Nodup:=by decide +kernel)(f:N.take ps.length=ps:=by rfl)(g:∀x∈ps,sp.names.lookup x=some .local\/sp.names.lookup x=some .cell:=by decide +kernel)(h:∀y∈sp.names,y.2≠.free:=by decide +kernel):bj N ps sp:=⟨a,b,c,d,f,g,h⟩
theorem sS(i:Nat){h_:Pos}(sc:bj X.N ps sp)(he:SE X e fe)(hi:X.N[i]?=some x:=by rfl)(hx:JM X.env.scope x:=by first|exact .inl rfl|exact .inr rfl)(hs:swapsWith e (some (.Name x h_)) pos.line X.env=pure false:=by rfl)(hf:X.fn x=true\/X.env.scope.names.lookup x=some .local:=by first|exact .inl rfl|exact .inr rfl|assumption) :
  SS X (.Assign [.Name x h_] e pos) (b8 i fe):=Pd sc.nd hi hx he hs hf
theorem sG(i:Nat)(sc:bj X.N ps sp)(hi:X.N[i]?=some x:=by rfl)(hx:JM X.env.scope x:=by first|exact .inl rfl|exact .inr rfl)(hf:X.fn x=true\/X.env.scope.names.lookup x=some .local:=by first|exact .inl rfl|exact .inr rfl|assumption):SG X (.Name x pos) (eM i):=C0 sc.nd hi hx hf
theorem WS{nm:List Str}{cl:List (Str×Addr)}{C s0 H0 fp}(i:Nat)(hN:UZ nm=true:=by first|rfl|kernel_rfl)(hi:nm[i]?=some x:=by rfl)(hx:JM (cS X nm scope cl C s0 H0 fp).env.scope x:=by first|exact .inl rfl|exact .inr rfl)(hf:(cS X nm scope cl C s0 H0 fp).fn x=true\/(cS X nm scope cl C s0 H0 fp).env.scope.names.lookup x=some .local:=by first|exact .inl rfl|exact .inr rfl|assumption) :
  SG (cS X nm scope cl C s0 H0 fp) (.Name x pos) (eM i):=C0 (X:=cS X nm scope cl C s0 H0 fp) (GB hN) hi hx hf
end
noncomputable def K7:Expr->List Str
 |.Name x _=>[x]
 |.Tuple es _ _=>es.filterMap fun e=>match e with
  |.Name x _=>some x
  |_=>none
 |_=>[]
noncomputable def Pv(N:List Str):List Str->List (Option Nat)->List Str
 |_,[]=>[]
 |ts,some j::r=>N.getD j "" :: Pv N ts r
 |ts,none::r=>ts.headD "" :: Pv N ts.tail r
abbrev Mg(X:Cx)(tg:Expr)(cap:List (Option Nat)):List Str:=Pv X.N (K7 tg) cap
section
variable{fi:FI}{f:FG}{t:FT}{el:FE}
theorem C5(lj:X.env.cells=cellsFrom m X.env.scope.names [])(hi:SI X tg c6 fi)(hg:∀cl C s0 H0 fp,SG (cS X (Mg X tg cap) scope cl C s0 H0 fp) tg f)(ht:∀cl C s0 H0 fp,Pi (cS X (Mg X tg cap) scope cl C s0 H0 fp) kq t)
  (he:∀cl C s0 H0 fp,SE (cS X (Mg X tg cap) scope cl C s0 H0 fp) nO el) (hB:zy X.env.scope.names scope.names (Mg X tg cap) cap X.N=true:=by first|rfl|kernel_rfl) (ik:X.calm=true:=by rfl) (ij:scope.kind=.function:=by rfl) (hs:∀x,foldedSetIterable c6 X.env x=pure x:=by intro _;rfl) :
  SE X (.ListComp nO [⟨tg,c6,kq,0⟩] scope pos) (dq cap fi f t el):=Pj hB lj hi hg ht he ik ij hs
theorem tR{x0:Str}{p0 p1:Pos}(Q4:SG X (.Name x0 p0) (eM i))(lj:X.env.cells=cellsFrom m X.env.scope.names [])(hi:SI X tg c6 fi)(hg:∀cl C s0 H0 fp,SG (cS X (Mg X tg cap) scope cl C s0 H0 fp) tg f)(ht:∀cl C s0 H0 fp,Pi (cS X (Mg X tg cap) scope cl C s0 H0 fp) kq t)
  (he:∀cl C s0 H0 fp,SE (cS X (Mg X tg cap) scope cl C s0 H0 fp) nO el) (hB:zy X.env.scope.names scope.names (Mg X tg cap) cap X.N=true:=by first|rfl|kernel_rfl) (Rc:swapsWith (.ListComp nO [⟨tg,c6,kq,0⟩] scope pos) (some (.Name x0 p0)) p1.line X.env=pure true:=by first|rfl|kernel_rfl) (ik:X.calm=true:=by rfl) (ij:scope.kind=.function:=by rfl) (hs:∀x,foldedSetIterable c6 X.env x=pure x:=by intro _;rfl) :
  SS X (.Assign [.Name x0 p0] (.ListComp nO [⟨tg,c6,kq,0⟩] scope pos) p1) (wF (dq cap fi f t el) (eM i)):=BI Q4 hB lj hi hg ht he ik ij hs Rc
end
end L2
variable{t:L2.FT}{ρ:L2.cw}{fa fb fe el:L2.FE}{fi:L2.FI}
namespace HT
open PySem PyProof.Rows
section
open PySem.SeqAt
open PySem.AutoSeq1 (wpAny_loadPart')
open PySem.MeetsSeq PySem.MeetsSeq2 PySem.MeetsSeq3
end
end HT
namespace L2
open PySem PySem.Spec PyProof.Rows
section
end
end L2
namespace PK
open PySem
section
variable{w:World}{K1 K2:Type}[DecidableEq K1][DecidableEq K2](knd:KeyKind prog w K1)(hk:HeapKind prog w K2)
variable{knd hk}
end
section
variable{w:World}{K:Type}[DecidableEq K]{knd:HeapKind prog w K}
end
end PK
namespace L2
open PySem PySem.Spec PyProof.Rows
section
variable{w:World}{es:List DictEntry}
end
section
variable{K:Type}[DecidableEq K]{knd:HeapKind X.prog X.w K}{xs:List (K×Addr×Value)}{k:K}
end
structure HV(X:Cx)(K:Type)[DecidableEq K] where
 knd:HeapKind X.prog X.w K
 em:K->KX
 inj:∀{a b:K},em a=em b->a=b
 hash:∀k,(em k).hash=knd.hash k
 is:∀{ag:List (Addr×Obj)} {σ:St} {H:Hp} {s:Shared} {μ:List Addr} {k:K} {v:V} {u:Value},bA X ag σ H s->bu X.K μ H (em k).w v->cD v u->∃b,u=.ref b/\knd.is s.heap k b
 room:∀{A:Around},A.units+2<cLine->knd.room A.in1
theorem items_int{w:World}:∀{ks:List Int} {bq:List Value},cu (ks.map V.int) bq->ItemsAre (intKind P w) ks bq
 |[],_,r=>by cases r;exact .nil
 |k::ks,_,r=>by
  cases r with
  |cons h t=>
   obtain⟨q,rfl⟩:=h
   exact .cons (by simp[intKind,Value.isInt]) (items_int t)
section
variable{K:Type}[DecidableEq K](G:HV X K)
variable{G}
end
section
end
section
end
end L2
namespace PK
open PySem
section
variable{w:World}
end
end PK
namespace L2
open PySem PySem.Spec PyProof.Rows
section
variable{w:World}{K:Type}[DecidableEq K]{knd:KeyKind prog w K}{es:List DictEntry}{k:K}{key dflt:Value}
end
section
end
section
variable{w:World}{es:List DictEntry}
end
section
end
def Tk(K:Frag)(a:Addr):It:=
 ⟨fun i H=>∃xs x,oZ K H a xs/\xs[i]?=some x,fun i H v H'=>∃p,H p=none/\v=.ref p/\∀xs x,oZ K H a xs->xs[i]?=some x->H'=ei H p (.tup [.int i,x]),fun i H=>∃xs,oZ K H a xs/\xs.length<=i⟩
theorem BN{w:World}(a it e:Addr)(Q5:e≠it) :
  xQ P w K (.Tuple jY kk pos) (Tk K a) [e,it] e (fun i h=>(∃old,IsEnum h e it i old)/\h.IsListIter it a i) where
 mem:=by simp
 obj:=fun i h st b hb=>by
  have z:b=e\/b=it:=by simpa using hb
  rcases z with rfl|rfl
  ·obtain⟨old,q⟩:=st.1
   exact⟨_,q,fun v z=>by cases z⟩
  ·obtain⟨o,q,c,d⟩:=st.2
   exact⟨o,q,fun v z=>by rw[d]at z;cases z⟩
 keep:=fun i h h' st k=>⟨let ⟨old,q⟩:=st.1;⟨old,k e (by simp) _ q⟩,st.2.at fun o q=>k it (by simp) o q⟩
 item:=by
  intro X hP hw hK hc i ag s σ H E I hf st hg
  subst hP hw hK
  obtain⟨xs,x,hq,hx⟩:=hg
  obtain⟨bq,rv,p,hz⟩:=I.list hq
  obtain⟨u,hu,ru⟩:=rv.get hx
  obtain⟨⟨old,he⟩,jm⟩:=st
  have hT:s.heap.IsList a bq.toArray:=p.isList
  obtain⟨oa,ha,hca,_⟩:=id hT
  obtain⟨oi,hi,hci,_⟩:=id jm
  have nai:a≠it:=fun z=>by
   rw[z,hi]at ha;cases ha
   rw[hci]at hca;injection hca with z;exact absurd z (by decide)
  have nae:a≠e:=fun z=>by
   rw[z,he]at ha;cases ha
   injection hca with z;exact absurd z (by decide)
  have hlt:i<bq.toArray.size:=by
   have:=(ac.mp hu).1
   simpa using this
  refine mH (Draws.list (A:=X.A.in1) (I.ok.hd hc) it a nai bq.toArray) he ⟨jm,hT⟩ hlt Q5 (by simp[Q5,Ne.symm nae]) fun x' g tk hx' ho' bz htup hsz hk=>⟨_,rfl,?_⟩
  have ex:x'=u:=by
   have e1:bq[i]?=some x':=by simpa using hx'
   rw[hu]at e1;exact(aF e1).symm
  subst ex
  refine ly ho' fun g2 Uu ze=>?_
  have wn:H s.heap.objs.size=none:=I.hok.fresh (aw _)
  have I1:bA X ag σ (ei H s.heap.objs.size (.tup [.int i,x])) { s with heap:=s.heap.push { cls:=.type "tuple",data:=.seq #[.int i tk,x'] },toks:=tk+1 }:=I.laid (fun b o q=>ai _ q) (aw _)
   ⟨by show 2<=sizeLine;decide,[.int i tk,x'],.cons ⟨tk,rfl⟩ (.cons ru .nil),⟨_,ar _ rfl,rfl,_,rfl⟩⟩
  have nf:∀b∈[e,it],b≠s.heap.objs.size:=fun b hb=>by
   have z:b=e\/b=it:=by simpa using hb
   rcases z with rfl|rfl
   ·exact aX (aC he)
   ·exact aX (aC hi)
  have fp:∀b∈[e,it],sf X ag (ei H s.heap.objs.size (.tup [.int i,x])) b:=fun b hb=>by
   obtain⟨f0,f⟩:=hf b hb
   exact⟨by rw[cv (nf b hb)];exact f0,f⟩
  have he2':IsEnum g2 e it ((i:Int)+1) x':=Uu
  have I2:bA X ag σ (ei H s.heap.objs.size (.tup [.int i,x])) { s with heap:=g2,toks:=tk+1 }:=I1.turned2 (t':=tk+1) (fun b o hbe hbi q=>?_) ⟨_,he2'⟩ (fp e (by simp)) (fp it (by simp))
  ·refine⟨.ref s.heap.objs.size,_,I2,rfl,⟨_,wn,rfl,fun ys y hy hy'=>?_⟩,⟨⟨x',by simpa using he2'⟩,bz.1.extBut ze.extBut (Ne.symm Q5)⟩,fun b hb=>(fp b hb).1⟩
   have e1:=I.list_inj hy hq
   subst e1
   rw[hx]at hy';cases hy';rfl
  ·have q':(s.heap.push { cls:=.type "tuple",data:=.seq #[.int i tk,x'] }).get? b=some o:=q
   refine ze.extBut b o hbe ?_
   by_cases hb:b=s.heap.objs.size
   ·subst hb
    have e1:=ar s.heap (o:={ cls:=.type "tuple",data:=.seq #[.int i tk,x'] }) rfl
    rw[e1]at q';cases q'
    exact htup
   ·rw[jp _ _ _ hb]at q'
    exact hk b o hbe hbi q'
 done:=by
  intro X hP hw hK hc i ag s σ H E I hf st hg
  subst hP hw hK
  obtain⟨xs,hq,hx⟩:=hg
  obtain⟨bq,rv,p,hz⟩:=I.list hq
  obtain⟨⟨old,he⟩,jm⟩:=st
  have hT:s.heap.IsList a bq.toArray:=p.isList
  have hl:=rv.length
  have hT':Shared.TypeIs s (.ref e) "enumerate":=⟨_,he,rfl⟩
  unfold pyNext
  refine aa (dA (be (name:=Str.ofString "__next__") hT' gH (bp gH hT' ny ?_ (mI _))))
  show wpAny _ _ (field (.ref e) 2 >>= _) _ _ _
  refine aa (bU he rfl (x:=.ref it) rfl (aa (oy (show X.A.in1.handled=none from I.ok.hd hc) jm hT (by simp;omega) fun g y hx' hy=>?_)))
  obtain⟨o,ho,t5⟩:=hy
  refine aa (dS (T:="StopIteration") (b:=true) ⟨o,ho,t5⟩ gZ (aq ⟨rfl,?_⟩))
  obtain⟨f0,f1,f2,f3,f4,f5⟩:=hf it (by simp)
  exact I.turned (t':=s.toks) (fun b o hb q=>hx' b o hb q) f0 f1 f3 f4 f5
 self:=fun A i s Q E st h=>let ⟨_,q⟩:=st.1;jq q h
open AutoSeq1 (wpAny_loadPart')
noncomputable abbrev qR(t:Addr):Obj:={ cls:=.type "list_iterator",data:=.fields #[.ref t,.int 0 0] }
theorem K8(t:Addr)(bq:Array Value)(n:Nat)(dc:Option Addr)(sl:Array (Option Value)) :
  Meets (Builtin.«enumerate.__new__» ⟨[.type "enumerate",.ref t],[]⟩) (fun _ R s=>s.heap.get? t=some { cls:=.type "list",dict:=dc,data:=.seq bq n,slots:=sl } /\
   R (.ok (.ret (.ref (s.heap.push (qR t)).objs.size))) { s with heap:=(s.heap.push (qR t)).push (sw s.heap.objs.size) }):=
 .of_wp fun prog w A R s h=>by
  obtain⟨hp,g,d,tk,os⟩:=s
  obtain⟨ht,h⟩:=h
  have sb:=sub_enumerate
  have hT:Heap.IsList (Shared.heap ⟨hp,g,d,tk,os⟩) t bq:=⟨_,ht,rfl,n,rfl⟩
  wp_walk using bv ht
  refine wpAny_stack_any fun st=>aq ?_
  split
  ·rename_i c _ _ _ _ _
   cases(c==Value.type "enumerate")<;>(wp_walk using bv ht,gR hT;exact⟨_,rfl,h⟩)
  ·wp_walk using bv ht,gR hT
   exact⟨_,rfl,h⟩
section
variable{w:World}
theorem vy{t:Addr}{bq:Array Value}(hT:s.heap.IsList t bq)
  (q:∀g,IsEnum g (s.heap.objs.size+1) s.heap.objs.size 0 .none->g.IsListIter s.heap.objs.size t 0->(∀b o,s.heap.get? b=some o->g.get? b=some o)->Q (.ref (s.heap.objs.size+1)) { s with heap:=g }) :
  wpAny (model prog w) A (call (.type "enumerate") [.ref t]) Q E s:=by
 obtain⟨⟨c,dc,dt,sl⟩,ht,hc,n,hd⟩:=hT
 obtain rfl:c=.type "list":=hc
 obtain rfl:dt=.seq bq n:=hd
 refine nA F.called_enumerate (by decide) (nB _) (oo _) (fun ob=>F.args_object_init_2 ob _) oq (K8 t bq n dc sl) ⟨ht,?_⟩
 have z:(s.heap.push (qR t)).objs.size=s.heap.objs.size+1:=bt ..
 show _/\_
 rw[z]
 have e1:IsEnum ((s.heap.push (qR t)).push (sw s.heap.objs.size)) (s.heap.objs.size+1) s.heap.objs.size 0 .none:=by
  have y:=ar (s.heap.push (qR t)) (o:=sw s.heap.objs.size) rfl
  rw[z]at y;exact y
 exact⟨⟨_,e1,rfl⟩,q _ e1 ⟨_,ai _ (ar _ rfl),rfl,rfl⟩ fun b o y=>ai _ (ai _ y)⟩
end
section
def V1(K:Frag)(ta:TA):TI:=fun σ H R=>ta σ H fun vs H1=>∃a,vs=[.ref a]/\(∃xs,oZ K H1 a xs)/\R (Tk K a) H1
theorem GC{a:Expr}{ta:TA}{p pos tp:Pos}{jY:List Expr}{kk:Nat}(hm:X.mg "enumerate"=none)(ha:QA X [a] ta)(hg:Gl X "enumerate":=by rfl)(hs:starEach [a] X.env=[(false,eval a X.env)]:=by rfl) :
  QI X (.Tuple jY kk tp) (.Call (.Name "enumerate" p) [a] [] pos) (V1 X.K ta):=⟨by
 intro ag s σ H R I h
 refine Call_ (kP I hg hm oV (bR (gg (ha.h pos ag s σ H _ I h) fun us s1 ⟨vs,H1,I1,r1,q1⟩=>?_) hs rfl))
 obtain⟨t,e,⟨xs,hq⟩,q⟩:=q1
 subst e
 obtain⟨u,rfl,ru⟩:=nG r1
 cases ru
 obtain⟨bq,rv,pt,hz⟩:=I1.list hq
 refine vy pt.isList fun g e1 e2 kp=>?_
 refine jq e1 ?_
 refine⟨s1.heap.objs.size+1,[s1.heap.objs.size+1,s1.heap.objs.size],_,_,H1,rfl,I1.kept (t':=s1.toks) kp,BN t _ _ (mJ _),⟨⟨_,e1⟩,e2⟩,fun b hb=>?_,q⟩
 have z:b=s1.heap.objs.size+1\/b=s1.heap.objs.size:=by simpa using hb
 rcases z with rfl|rfl
 ·exact I1.fpOk (dJ _) (I1.hok.fresh (dJ _))
 ·exact I1.fpOk (aw _) (I1.hok.fresh (aw _))⟩
end
section
variable{a:Expr}{fs:FA}
def jL(fs:FA):FI:=fun ρ st=>(fs ρ st).bind fun ws st=>match ws with
 |[.tup zs]=>.ok (jc zs,none) st
 |[.loc n]=>(match lstOf st n with
  |some zs=>.ok (jc zs,some (n,zs)) st
  |none=>.bad)
 |_=>.bad
def C6(fs:FA):FI:=fun ρ st=>(fs ρ st).bind fun ws st=>match ws with
 |[.loc n]=>(match lstOf st n with
  |some zs=>.ok (jc zs,some (n,zs)) st
  |none=>.bad)
 |_=>.bad
theorem GD{jY:List Expr}{kk:Nat}{tp:Pos}(hm:X.mg "enumerate"=none)(ha:SA X [a] fs)(hg:Gl X "enumerate":=by rfl)(hs:starEach [a] X.env=[(false,eval a X.env)]:=by rfl) :
  SI X (.Tuple jY kk tp) (.Call (.Name "enumerate" p) [a] [] pos) (C6 fs):=⟨(GC hm ⟨ha.h⟩ hg hs).h.imp fun σ H R h=>by
 obtain⟨μ,ρ,st,l,h⟩:=h
 refine⟨μ,ρ,st,l,RK.bind h l fun μ1 st1 x v H1 p1 x1 l1 q1 h1=>?_⟩
 split at h1
 ·rename_i n
  obtain⟨y,rfl,ry⟩:=q1.one
  obtain⟨a,ha,rfl⟩:=ry.locE
  cases e1:lstOf st1 n with
  |none=>rw[e1]at h1;exact h1.elim
  |some zs=>
   rw[e1]at h1
   obtain⟨a',vs0,g0,hS0,r0⟩:=l1.sto.lstOf e1
   rw[ha]at g0;cases g0
   refine⟨a,rfl,⟨vs0,hS0⟩,h1 μ1 _ H1 (ah _) d_.refl l1.sto fun i μ' bz H' pp xx S ck=>?_⟩
   obtain⟨a2,vs,g2,hS,r⟩:=S.lstOf (show lstOf bz n=some zs from ck)
   have:μ'[n]?=some a:=pre_get pp ha
   rw[g2]at this;cases this
   refine⟨fun w hw=>?_,fun hl=>⟨vs,hS,by rw[iU]at hl;rw[<- r.len];exact hl⟩⟩
   obtain⟨y,hy,rfl⟩:=kK hw
   obtain⟨v,g1,g3⟩:=r.get hy
   refine⟨⟨vs,v,hS,g1⟩,fun z H'' hz=>?_⟩
   obtain⟨q,hq,rfl,hH⟩:=hz
   have e:=hH vs v hS g1
   subst e
   have ex:=fS.same (K:=X.K) (cy hq (.tup [.int i,v]))
   exact⟨ex,S.same (cy hq _),.tupI fS.new (.consI .int (.consI (g3.mono (ah _) ex) .nilI))⟩
 ·exact h1.elim⟩
theorem GE{jY:List Expr}{kk:Nat}{tp:Pos}(hm:X.mg "enumerate"=none)(ha:SA X [a] fs)(hg:Gl X "enumerate":=by rfl)(hs:starEach [a] X.env=[(false,eval a X.env)]:=by rfl) :
  SI X (.Tuple jY kk tp) (.Call (.Name "enumerate" p) [a] [] pos) (jL fs):=⟨fun ag s σ H Rr I h=>by
 obtain⟨μ,ρ,st,l,h⟩:=h
 cases e1:fs ρ st with
 |bad=>simp only[jL,e1,R.bind_bad]at h;exact h.elim
 |ex c st1=>
  refine(yi hm ha hg hs).h ag s σ H Rr I ⟨μ,ρ,st,l,?_⟩
  simp only[jL,qa,e1,R.bind_ex]at h ⊢;exact h
 |ok ws st1=>
  simp only[jL,e1,R.bind_ok]at h
  split at h
  ·refine(yi hm ha hg hs).h ag s σ H Rr I ⟨μ,ρ,st,l,?_⟩
   simp only[qa,e1,R.bind_ok];exact h
  ·refine(GD hm ha hg hs).h ag s σ H Rr I ⟨μ,ρ,st,l,?_⟩
   simp only[C6,e1,R.bind_ok];exact h
  ·exact h.elim⟩
end
section
end
section
end
section
end
section
end
section
variable{w:World}
end
section
end
section
variable{q:Str}{pr:Arguments}{gc:List Stmt}{sc:Scope}{P c:Addr}{xs:List Str}{g:Addr->Obj->FS}
end
section
variable{w:World}
end
section
variable{x:Str}{fs:FA}
end
section
variable{x:Str}{fs:FA}
end
section
variable{q:Str}{st:Stmt}{gc:List Stmt}{P c:Addr}{xs:List Str}{g:Addr->Obj->FS}
variable{x:Str}{fs:FA}
end
section
variable{a:Expr}
end
end L2
namespace L2
open PySem PySem.Spec PyProof.Rows PySem.W
section
end
end L2
namespace L2
open PySem PySem.Spec PyProof.Rows
section
end
noncomputable abbrev lO(n:Nat):Option W:=some (.loc n)
noncomputable abbrev iO(z:Int):Option W:=some (.int z)
section
end
section
end
section
variable{q:Str}{pr:Arguments}{sc:Scope}{WZ V':Pos}{P:Addr}{xs:List Str}{W8:Stmt}
end
section
variable{cs:List Expr}{Jx:Pos}{x y:Str}{fs:FA}{WY:Obj->Prop}{G:List W->List am->R (List W)}
variable{ea eb:Expr}
end
open AutoSeq1 (wpAny_loadPart')
section
variable{w:World}
variable{n c:Addr}{k:Nat}{xs ys zs:Array Value}{x y t:Value}
end
section
variable{w:World}
end
section
variable{a b:Expr}{fs:FA}
end
section
variable{w:World}{d:Addr}{o:Obj}{es:Array DictEntry}
end
section
end
open AutoSeq1 (wpAny_loadPart')
section
end
section
variable{q:Str}{st:Stmt}{P c:Addr}{xs:List Str}
end
section
variable{w:World}{k:Nat}{x:Str}{st:Stmt}{f:Addr}{WY:Obj->Prop}{G:List W->List am->R (List W)}
end
section
variable{nm:List Str}{fi:Ww}{f:FG}
end
section
end
section
variable{w:World}
end
section
variable{nm:List Str}{f:FG}
end
section
variable{x:Str}
end
section
variable{w:World}{R:Result->Shared->Prop}{K:Type}[DecidableEq K]{knd:KeyKind prog w K}
end
section
variable{w:World}
variable{K:Type}[DecidableEq K]{knd:KeyKind prog w K}
end
theorem Ai(kvs:List (DK×W))(k:DK)(v:W):(kX kvs k v).length<=kvs.length+1:=by
 unfold kX
 split
 ·simp
 ·simp
section
end
structure Pw(K:Frag)(mg:Str->Option Value)(c:Str)(fs:List Str):Prop where
 ex:∃C,mg c=some (.ref C)/\Cls K C/\∀f∈fs,p6 K C f
noncomputable def nJ(st:List am):W->Option (Nat×Str×List (Str×W))
 |.loc n=>(match st[n]? with
  |some (.obj c fs)=>some (n,c,fs)
  |_=>none)
 |_=>none
noncomputable def ug(f:Str)(v:W):List (Str×W)->List (Str×W)
 |[]=>[(f,v)]
 |(g,x)::r=>if g=f then(g,v)::r else(g,x)::ug f v r
noncomputable abbrev fV(fs:List (Str×W))(vs:List V):List (Str×V):=(fs.map fun p=>p.1).zip vs
section
theorem qS(S:iy K mg μ st H){x:W}{v:V}{c:Str}{fs:List (Str×W)}(h:nJ st x=some (n,c,fs))(r:bu K μ H x v) :
  x=.loc n/\st[n]?=some (.obj c fs)/\∃a C dx vs,μ[n]?=some a/\v=.ref a/\mg c=some (.ref C)/\H a=some (.ins C dx (fV fs vs))/\RelWs K μ H (fs.map fun p=>p.2) vs:=by
 cases x with
 |loc m=>
  simp only[nJ]at h
  cases e:st[m]? with
  |none=>rw[e]at h;cases h
  |some cc=>
   rw[e]at h
   cases cc with
   |obj c' z=>
    cases h
    obtain⟨a,g,C,dx,vs,m1,k,rr⟩:=S.get e
    obtain⟨b,f,rfl⟩:=r.locE
    rw[g]at f;cases f
    exact⟨rfl,e,a,C,dx,vs,g,rfl,m1,k,rr⟩
   |_=>cases h
 |_=>cases h
theorem yq(f:Str):∀{fs:List (Str×W)} {vs:List V},RelWs K μ H (fs.map fun p=>p.2) vs->(∀w,fs.lookup f=some w->∃v,(fV fs vs).lookup f=some v/\bu K μ H w v)/\(fs.lookup f=none->(fV fs vs).lookup f=none)
 |[],vs,r=>⟨fun w h=>(by cases h),fun _=>rfl⟩
 |(g,x)::fs,vs,r=>by
  obtain⟨y,ys,rfl,a,b⟩:=RelWs.consE r
  have ih:=yq f (fs:=fs) b
  have e1:List.lookup f ((g,x)::fs)=(match f==g with|true=>some x|false=>fs.lookup f):=rfl
  have e2:List.lookup f (fV ((g,x)::fs) (y::ys))=(match f==g with|true=>some y|false=>(fV fs ys).lookup f):=rfl
  rw[e1,e2]
  cases f==g with
  |true=>exact⟨fun w h=>(by cases h;exact⟨y,rfl,a⟩),fun h=>(by cases h)⟩
  |false=>exact ih
theorem GF(f:Str){w:W}{v:V}(ql:bu K μ H w v):∀{fs:List (Str×W)} {vs:List V},RelWs K μ H (fs.map fun p=>p.2) vs->∃us,n_ f v (fV fs vs)=fV (ug f w fs) us/\RelWs K μ H ((ug f w fs).map fun p=>p.2) us
 |[],vs,r=>⟨[v],rfl,.consI ql .nilI⟩
 |(g,x)::fs,vs,r=>by
  obtain⟨y,ys,rfl,a,b⟩:=RelWs.consE r
  obtain⟨us,e,q⟩:=GF f ql (fs:=fs) b
  show ∃us,(if g=f then(g,v)::fV fs ys else(g,y)::n_ f v (fV fs ys))=_/\_
  by_cases h:g=f
  ·refine⟨v::ys,?_,?_⟩
   ·rw[au h];show _=fV (if g=f then(g,w)::fs else(g,x)::ug f w fs) _;rw[au h];rfl
   ·show RelWs K μ H ((if g=f then(g,w)::fs else(g,x)::ug f w fs).map fun p=>p.2) _
    rw[au h];exact .consI ql b
  ·refine⟨y::us,?_,?_⟩
   ·rw[ax h];show _=fV (if g=f then(g,w)::fs else(g,x)::ug f w fs) _;rw[ax h,e];rfl
   ·show RelWs K μ H ((if g=f then(g,w)::fs else(g,x)::ug f w fs).map fun p=>p.2) _
    rw[ax h];exact .consI a q
theorem fS.butI{l dx:Addr}{xs:List (Str×V)}(e:UP l H H')(hl:H l=some (.ins C dx xs)):d_ K H H':=by
 have xO:∀{p:Addr} {o:HO},H p=some o->(∀c d zs,o≠.ins c d zs)->p≠l:=fun{p o} q hn z=>by subst z;rw[hl]at q;cases q;exact hn _ _ _ rfl
 refine⟨fun p ys h=>?_,fun b o u h=>e _ _ (xO h (fun _ _ _ z=>by cases z)) h⟩
 rcases h with(h|⟨o,h⟩)|h
 ·exact .inl (.inl (e _ _ (xO h (fun _ _ _ z=>by cases z)) h))
 ·exact .inl (.inr ⟨o,e _ _ (xO h (fun _ _ _ z=>by cases z)) h⟩)
 ·exact .inr h
theorem iy.setI(S:iy K mg μ st H){dx:Addr}{c:Str}{fs UE:List (Str×W)}{xs:List (Str×V)}{us:List V}(hn:st[n]?=some (.obj c fs))(hm:μ[n]?=some a)(hc:mg c=some (.ref C))(ha:H a=some (.ins C dx xs))(hr:RelWs K μ H (UE.map fun p=>p.2) us) :
  iy K mg μ (st.set n (.obj c UE)) (ei H a (.ins C dx (fV UE us))):=
 S.setG hn rfl hm ha (fun _ _ z=>by cases z) (fun _ z=>by cases z) (fS.butI iB ha) rfl ⟨C,dx,us,hc,eN,hr.mono (ah _) (fS.butI iB ha)⟩
end
section
variable{a value:Expr}{c f m:Str}{fl:List Str}{fo:FE}{fs:FA}
def eF(c f:Str)(fa:FE):FE:=fun ρ st=>(fa ρ st).bind fun x st=>match nJ st x with
 |some (_,c',fs)=>if c'=c then qt (fs.lookup f) fun w=>.ok w st else .bad
 |none=>.bad
theorem Tl(hC:Pw X.K X.mg c fl)(ha:SE X a fa)(hf:f∈fl:=by decide)(hb:attributeBase a f X.env (eval a X.env)=eval a X.env:=by rfl):SE X (.Attribute a f pos) (eF c f fa):=⟨(Oo ha.h hb).imp fun σ H Q h=>by
 obtain⟨μ,ρ,st,l,h⟩:=h
 refine⟨μ,ρ,st,l,RK.bind h l fun μ1 st1 x v H1 p1 x1 l1 q1 h1=>?_⟩
 cases e0:nJ st1 x with
 |none=>rw[e0]at h1;exact h1.elim
 |some nk=>
  obtain⟨n,c',fs⟩:=nk
  rw[e0]at h1
  simp only at h1
  obtain⟨rfl,hn,a,C,dx,vs,hm,rfl,hc,hI,rr⟩:=qS l1.sto e0 q1
  by_cases z:c'=c
  ·rw[au z]at h1
   subst z
   obtain⟨C',hc',cl,na⟩:=hC.ex
   rw[hc]at hc';cases hc'
   unfold qt at h1
   split at h1
   ·rename_i w ew
    obtain⟨v,ev,rv⟩:=(yq f rr).1 w ew
    exact⟨a,C,dx,_,v,rfl,hI,cl,na f hf,ev,h1 μ1 v H1 (ah _) d_.refl l1.sto rv⟩
   ·exact h1.elim
  ·rw[ax z]at h1;exact h1.elim⟩
def pz(c f:Str)(fo fe:FE):FS:=fun ρ st=>(fe ρ st).stmt ρ fun y st=>(fo ρ st).stmt ρ fun x st=>match nJ st x with
 |some (n,c',fs)=>if c'=c/\fs.length<900 then .nx ρ (st.set n (.obj c (ug f y fs)))else .bad
 |none=>.bad
theorem Px(hC:Pw X.K X.mg c fl)(ho:SE X o fo)(he:SE X value fe)(hf:f∈fl:=by decide)(hs:swapsWith value (some (.Attribute o f h_)) pos.line X.env=pure false:=by rfl):SS X (.Assign [.Attribute o f h_] value pos) (pz c f fo fe):=⟨(Op ho.h he.h hs).imp fun D σ H h=>by
 obtain⟨μ,ρ,st,l,h⟩:=h
 refine⟨μ,ρ,st,l,RK.stmt h l fun μ1 st1 y yv H1 p1 x1 l1 q1 h1=>⟨μ1,ρ,st1,l1,RK.stmt h1 l1 fun μ2 cV x xv H2 p2 x2 l2 q2 h2=>?_⟩⟩
 cases e0:nJ cV x with
 |none=>rw[e0]at h2;exact h2.elim
 |some nk=>
  obtain⟨n,c',fs⟩:=nk
  rw[e0]at h2
  simp only at h2
  obtain⟨rfl,hn,a,C,dx,vs,hm,rfl,hc,hI,rr⟩:=qS l2.sto e0 q2
  by_cases z:c'=c/\fs.length<900
  ·rw[au z]at h2
   obtain⟨z,hz⟩:=z
   subst z
   obtain⟨C',hc',cl,na⟩:=hC.ex
   rw[hc]at hc';cases hc'
   obtain⟨us,e1,r1⟩:=GF f (q1.mono p2 x2) rr
   have da:(fV fs vs).length<1000:=by
    unfold fV
    rw[List.length_zip,al]
    omega
   refine⟨a,C,dx,_,rfl,hI,cl,na f hf,da,?_⟩
   rw[e1]
   exact h2 μ2 σ _ (ah _) (fS.butI iB hI) (l2.to (ah _) (fS.butI iB hI) (l2.sto.setI hn hm hc hI r1))
  ·rw[ax z]at h2;exact h2.elim⟩
structure l9(P:Program)(w:World)(K:Frag)(mg:Str->Option Value)(base:Heap)(k:Nat)(c m:Str)(n:Nat)(F:List W->List am->R W):Prop where
 ex:∃(C g:Addr) (fd:FuncData) (ps:List Str),mg c=some (.ref C)/\Cls K C/\RN K C m g/\ps.length=n/\pE K fd ps []/\cX P w K mg base (iJ P w) k g fd ps (jb K mg n F)
theorem l9.mono{w:World}{k:Nat}(h:l9 P w K mg base j c m n F)(hj:j<=k):l9 P w K mg base k c m n F:=by
 obtain⟨C,g,fd,ps,a,b,b2,c,d,e⟩:=h.ex
 exact⟨C,g,fd,ps,a,b,b2,c,d,e.mono hj⟩
def kY(c m:Str)(n:Nat)(F:List W->List am->R W)(fo:FE)(fs:FA):FE:=fun ρ st=>(fo ρ st).bind fun x st=>match nJ st x with
 |some (_,c',fl)=>if c'=c/\fl.lookup m=none then(fs ρ st).bind fun ws st=>if ws.length+1=n then F (x::ws) st else .bad else .bad
 |none=>.bad
theorem Py{k k':Nat}{pl:Sem Bool}(Fn:l9 X.prog X.w X.K X.mg X.base k c m n F)(hr:g_ k' X.A)(hk:k<=k')(ho:SE X o fo)(ha:SA X (e::es) fs)
  (mP:starEach (e::es) X.env=(false,eval e X.env)::starEach es X.env:=by rfl) (qu:(backTo pos (starEach es X.env)).any (·.1)=false:=by rfl)
  (ht:eval (.Call (.Attribute o m fm) (e::es) [] pos) X.env=(do
   let ov <- eval o X.env
   standAt fm.atName
   let (f,fst') <- holding [ov] (getMethod ov m pl)
   callWith pos f fst' (backTo pos (starEach (e::es) X.env)) (backToKw pos (keywordEach [] X.env))):=by rfl):SE X (.Call (.Attribute o m fm) (e::es) [] pos) (kY c m n F fo fs):=⟨by
 intro ag s σ H Q I h
 obtain⟨C,g,fd,ps,hc,cl,hm,hn,hb,Fo⟩:=(Fn.mono hk).ex
 obtain⟨μ,ρ,st,l,h⟩:=h
 have h':tE X fo σ H fun x H1=>∃(a dx:Addr) (xs:List (Str×V)),x=.ref a/\H1 a=some (.ins C dx xs)/\xs.lookup m=none/\Sj X fs σ H1 fun vs H2=>∃μ2 cV ws,Rl X μ2 ρ cV σ H2/\RelWs X.K μ2 H2 ws (.ref a::vs)/\ws.length=n/\RK X (sy X) μ2 σ H2 Q (F ws cV):=by
  refine⟨μ,ρ,st,l,RK.bind h l fun μ1 st1 x v H1 p1 x1 l1 q1 h1=>?_⟩
  cases e0:nJ st1 x with
  |none=>rw[e0]at h1;exact h1.elim
  |some nk=>
   obtain⟨i,c',fl⟩:=nk
   rw[e0]at h1
   simp only at h1
   obtain⟨rfl,hi,a,C',dx,vs,hma,rfl,hc',hI,rr⟩:=qS l1.sto e0 q1
   by_cases z:c'=c/\fl.lookup m=none
   ·rw[au z]at h1
    obtain⟨z,hz⟩:=z
    subst z
    rw[hc]at hc';cases hc'
    refine⟨a,dx,_,rfl,hI,(yq m rr).2 hz,μ1,ρ,st1,l1,RK.bind h1 l1 fun μ2 cV ws vs2 H2 p2 x2 l2 q2 h2=>?_⟩
    by_cases y:ws.length+1=n
    ·rw[au y]at h2
     exact⟨μ2,cV,.loc i::ws,l2,.consI (q1.mono p2 x2) q2,y,h2⟩
    ·rw[ax y]at h2;exact h2.elim
   ·rw[ax z]at h1;exact h1.elim
 refine PySem.W.methodCall_KW (pl:=pl) (gg (ho.h ag s σ H _ I h') fun u s1 ⟨x,H1,I1,rx,a,dx,xs,ex,ea,lk,q⟩=>?_) ht
 subst ex
 obtain rfl:u=Value.ref a:=rx
 refine uU I1 ea cl hm lk ?_
 refine PySem.W.callWith_K (first:=[.ref a]) (h₀:=X.base) I.ok.mod.kin hm.kp (gg (ha.h pos ag s1 σ H1 _ I1 q) fun us s2 ⟨vs,H2,I2,r,μ2,cV,ws,l2,r2,y,q2⟩=>⟨I2.kIn,?_⟩) mP qu
 exact Gj (us:=.ref a::us) (vs:=.ref a::vs) Fo hn hr hb I2 l2.sto r2 (.cons rfl r) y q2⟩
theorem K9{k k':Nat}(Fn:l9 X.prog X.w X.K X.mg X.base k c m 1 F)(hr:g_ k' X.A)(hk:k<=k')(ho:SE X o fo)
  (ht:eval (.Call (.Attribute o m fm) [] [] pos) X.env=(do
   let ov <- eval o X.env
   standAt fm.atName
   let (f,fst') <- holding [ov] (getMethod ov m pl)
   callWith pos f fst' (backTo pos (starEach [] X.env)) (backToKw pos (keywordEach [] X.env))):=by rfl):SE X (.Call (.Attribute o m fm) [] [] pos) (kY c m 1 F fo aB):=⟨by
 intro ag s σ H Q I h
 obtain⟨C,g,fd,ps,hc,cl,hm,hn,hb,Fo⟩:=(Fn.mono hk).ex
 obtain⟨μ,ρ,st,l,h⟩:=h
 have h':tE X fo σ H fun x H1=>∃(a dx:Addr) (xs:List (Str×V)),x=.ref a/\H1 a=some (.ins C dx xs)/\xs.lookup m=none/\∃μ2 cV ws,Rl X μ2 ρ cV σ H1/\RelWs X.K μ2 H1 ws [.ref a]/\ws.length=1/\RK X (sy X) μ2 σ H1 Q (F ws cV):=by
  refine⟨μ,ρ,st,l,RK.bind h l fun μ1 st1 x v H1 p1 x1 l1 q1 h1=>?_⟩
  cases e0:nJ st1 x with
  |none=>rw[e0]at h1;exact h1.elim
  |some nk=>
   obtain⟨i,c',fl⟩:=nk
   rw[e0]at h1
   simp only at h1
   obtain⟨rfl,hi,a,C',dx,vs,hma,rfl,hc',hI,rr⟩:=qS l1.sto e0 q1
   by_cases z:c'=c/\fl.lookup m=none
   ·rw[au z]at h1
    obtain⟨z,hz⟩:=z
    subst z
    rw[hc]at hc';cases hc'
    exact⟨a,dx,_,rfl,hI,(yq m rr).2 hz,μ1,st1,[.loc i],l1,.consI q1 .nilI,rfl,h1⟩
   ·rw[ax z]at h1;exact h1.elim
 refine PySem.W.methodCall_KW (pl:=pl) (gg (ho.h ag s σ H _ I h') fun u s1 ⟨x,H1,I1,rx,a,dx,xs,ex,ea,lk,μ2,cV,ws,l2,r2,y,q2⟩=>?_) ht
 subst ex
 obtain rfl:u=Value.ref a:=rx
 refine uU I1 ea cl hm lk ?_
 exact PySem.W.callWith_K0 (first:=[.ref a]) I1.kIn hm.kp (Gj (us:=[.ref a]) (vs:=[.ref a]) Fo hn hr hb I1 l2.sto r2 (.cons rfl .nil) y q2)⟩
structure GG(P:Program)(w:World)(K:Frag)(mg:Str->Option Value)(base:Heap)(k:Nat)(c:Str)(n:Nat)(F:List W->List am->R W):Prop where
 ex:∃(C g:Addr) (fd:FuncData) (ps:List Str),mg c=some (.ref C)/\Mk K C g/\ps.length=n/\pE K fd ps []/\cX P w K mg base (iJ P w) k g fd ps (jb K mg n F)
def Aj(c:Str)(n:Nat)(F:List W->List am->R W)(fs:FA):FE:=fun ρ st=>(fs ρ st).bind fun ws st=>if ws.length+1=n then(match F (.loc st.length::ws) (st++[.obj c []])with
  |.ok .non bz=>.ok (.loc st.length) bz
  |_=>.bad)else .bad
theorem Pz{k k':Nat}(Fn:GG X.prog X.w X.K X.mg X.base k c n F)(hr:g_ k' X.A)(hk:k+1<=k')(ha:SA X (e::es) fs)(hg:Gl X c:=by rfl)(Jt:(c==("__debug__":Str))=false:=by decide)
  (he:starEach (e::es) X.env=(false,eval e X.env)::starEach es X.env:=by rfl) (qu:(backTo pos (starEach es X.env)).any (·.1)=false:=by rfl):SE X (.Call (.Name c p) (e::es) [] pos) (Aj c n F fs):=⟨by
 intro ag s σ H Q I h
 obtain⟨C,g,fd,ps,hc,M,hn,hb,Fo⟩:=Fn.ex
 refine fw (uD I hg hc ?_ Jt)
 obtain⟨μ,ρ,st,l,h⟩:=h
 have h':Sj X fs σ H fun vs H1=>∃μ1 st1 ws cV,Rl X μ1 ρ st1 σ H1/\RelWs X.K μ1 H1 ws vs/\ws.length+1=n/\F (.loc st1.length::ws) (st1++[.obj c []])=.ok .non cV/\RK X (sy X) μ1 σ H1 Q (.ok (.loc st1.length) cV):=by
  refine⟨μ,ρ,st,l,RK.bind h l fun μ1 st1 x v H1 p1 x1 l1 q1 h1=>?_⟩
  by_cases y:x.length+1=n
  ·rw[au y]at h1
   split at h1
   ·rename_i cV e2
    exact⟨μ1,st1,x,cV,l1,q1,y,e2,h1⟩
   ·exact h1.elim
  ·rw[ax y]at h1;exact h1.elim
 refine PySem.W.callWith_K (h₀:=X.base) I.ok.mod.kin M.kp (gg (ha.h pos ag s σ H _ I h') fun us s1 ⟨vs,H1,I1,r,μ1,st1,ws,cV,l1,r1,y,e2,q⟩=>⟨I1.kIn,?_⟩) he qu
 refine Fi (dvs:=[]) (ds:=[]) (E:=fun _ _ _=>False) M Fo (hr.mono hk) hb .nil (fun ag σ H s e s' I hq=>by obtain⟨_,_,_,_,_,_,z,_⟩:=hq;exact z.elim) I1 r fun x dx hx hdx xO=>?_
 have hs1:uc H1 (ei H1 dx (.own x)):=cy hdx _
 have hx1:(ei H1 dx (.own x)) x=none:=by rw[cv (Ne.symm xO)];exact hx
 have ze:uc (ei H1 dx (.own x)) (ei (ei H1 dx (.own x)) x (.ins C dx [])):=cy hx1 _
 have xt:d_ X.K H1 (ei (ei H1 dx (.own x)) x (.ins C dx [])):=(fS.same hs1).trans (fS.same ze)
 have S2:iy X.K X.mg (μ1++[x]) (st1++[.obj c []]) (ei (ei H1 dx (.own x)) x (.ins C dx [])):=(l1.sto.same hs1).push (c:=.obj c []) hx1 ⟨C,dx,[],hc,eN,.nilI⟩
 have hmx:(μ1++[x])[st1.length]?=some x:=by rw[l1.sto.len];simp
 refine⟨by rw[ce,br,<- r1.len];exact y,μ1++[x],.loc st1.length::ws,st1++[.obj c []],S2,.consI (.locI hmx) (by rw[ce];exact r1.mono (bb _ _) xt),?_⟩
 rw[e2]
 intro μ' v H' pp xx S' rv
 exact⟨rv.nonE,q μ' (.ref x) H' ((bb _ _).trans pp) (xt.trans xx) S' (.locI (L2.pre_get pp hmx))⟩⟩
end
noncomputable def mX:Stmt->List Stmt
 |.ClassDef _ _ _ b _ _ _ _ _ _ _=>b
 |_=>[]
inductive DefM(K:Frag)(C:Addr)(q m:Str)(st:Stmt):Prop
 |mk {ad:Addr} {od an:Option Addr} {sl:Array (Option Value)} {oc kV dc pm cd ct:Value} (a:findIn K (.ref C) m=some (some (.ref ad))) (i:isFn K (.ref ad)=true)
   (l:K.lookup ad=some ⟨oc,od,.func (fnOf m q (hG st) (gi st) (aR st) .none kV dc pm an cd ct),sl⟩) (c:codeIn K cd q=true) (k:keepIn K (.ref ad)=true):DefM K C q m st
section
variable{w:World}{k:Nat}{c q m:Str}{st:Stmt}
theorem sL(d:DefM K C q m st)(hC:mg c=some (.ref C))(cl:Cls K C)(ok:∀{f:Addr} {fd:FuncData},i9 K m q st f fd->cX P w K mg base (iJ P w) k f fd ps (jb K mg n G))(hn:ps.length=n:=by rfl)
  (hb:∀(kV se pm:Value) (an:Option Addr) (fO ct:Value) (us:List Value),us.length=ps.length->bindArgs (fnOf m q (hG st) (gi st) (aR st) .none kV se pm an fO ct) ⟨us,[]⟩=pure (ps.zip us):=by(intro _ _ _ _ _ _ _ q;first|(obtain⟨_,rfl⟩:=UU q;rfl)|(obtain⟨_,_,rfl⟩:=UV q;rfl)|(obtain⟨_,_,_,rfl⟩:=UW q;rfl)|(obtain⟨_,_,_,_,rfl⟩:=UX q;rfl)|(obtain⟨_,_,_,_,_,rfl⟩:=UY q;rfl)|(obtain⟨_,_,_,_,_,_,rfl⟩:=V0 q;rfl))):l9 P w K mg base k c m n G:=by
 obtain⟨a,i,l,cc,kk⟩:=d
 exact⟨C,_,_,ps,hC,cl,⟨a,i,kk⟩,hn,pE.all fun us hl=>hb _ _ _ _ _ _ us hl,ok (xZ (st:=st) l cc kk)⟩
theorem PB(d:DefM K C q "__init__" st)(hC:mg c=some (.ref C))(mk:makesIn K C=true)(kc:keepIn K (.ref C)=true)(ok:∀{f:Addr} {fd:FuncData},i9 K "__init__" q st f fd->cX P w K mg base (iJ P w) k f fd ps (jb K mg n G))(hn:ps.length=n:=by rfl)
  (hb:∀(kV se pm:Value) (an:Option Addr) (fO ct:Value) (us:List Value),us.length=ps.length->bindArgs (fnOf "__init__" q (hG st) (gi st) (aR st) .none kV se pm an fO ct) ⟨us,[]⟩=pure (ps.zip us):=by(intro _ _ _ _ _ _ _ q;first|(obtain⟨_,rfl⟩:=UU q;rfl)|(obtain⟨_,_,rfl⟩:=UV q;rfl)|(obtain⟨_,_,_,rfl⟩:=UW q;rfl)|(obtain⟨_,_,_,_,rfl⟩:=UX q;rfl)|(obtain⟨_,_,_,_,_,rfl⟩:=UY q;rfl)|(obtain⟨_,_,_,_,_,_,rfl⟩:=V0 q;rfl))):GG P w K mg base k c n G:=by
 obtain⟨a,i,l,cc,kk⟩:=d
 exact⟨C,_,_,ps,hC,⟨mk,a,i,kc⟩,hn,pE.all fun us hl=>hb _ _ _ _ _ _ us hl,ok (xZ (st:=st) l cc kk)⟩
end
theorem Ak:entryFor table "dict_itemiterator.__iter__"=some Builtin.«dict_keyiterator.__iter__»:=lD (id':="dict_keyiterator.__iter__") (by kernel_rfl) (by first|rfl|decide +kernel|(unfold String.splitOn;simp +decide [String.splitOnAux])) (by decide +kernel) (by kernel_rfl)
theorem GH{w:World}{d:Addr}{ok ov:Value}(jm:IsItemIter s.heap it d i n ep ok ov)(q:Q (.ref it) s):wpAny (model prog w) A (pyIter (.ref it)) Q E s:=by
 have T:s.TypeIs (.ref it) "dict_itemiterator":=⟨_,jm,rfl⟩
 exact js T PySem.F.slot_dict_itemiterator_iter (bp PySem.F.slot_dict_itemiterator_iter T Ak (aq ⟨_,rfl,"dict_itemiterator",_,T,PySem.F.slot_dict_itemiterator_next.lookup,q⟩) (PySem.F.args_dict_itemiterator_iter_1 _))
theorem KV.at_{κ:Type}{kvs:List (κ×V)}{vs:List (κ×Value)}(k:KV kvs vs):∀{i:Nat} {p:κ×V} {q:κ×Value},kvs[i]?=some p->vs[i]?=some q->p.1=q.1/\cD p.2 q.2:=by
 unfold KV at k
 induction k with
 |nil=>intro i p q h;simp at h
 |cons h t ih=>
  intro i p q h1 h2
  cases i with
  |zero=>simp at h1 h2;subst h1 h2;exact h
  |succ i=>exact ih (by simpa using h1) (by simpa using h2)
def Ri(a:Addr)(o:Obj)(kvs:List (jv×V)):It where
 go:=fun i H=>H a=some (.frz o (.dK kvs))/\i<kvs.length
 yld:=fun i H x H'=>∃p q,kvs[i]?=some q/\H p=none/\x=.ref p/\H'=ei H p (.tup [kV q.1,q.2])
 stop:=fun i H=>H a=some (.frz o (.dK kvs))/\kvs.length<=i
theorem BO{w:World}(a it:Addr)(o:Obj)(kvs:List (jv×V)):xQ P w K (.Tuple jY kk pos) (Ri a o kvs) [it] it (fun i h=>∃ok ov,IsItemIter h it a i kvs.length (EH o) ok ov) where
 mem:=by simp
 obj:=fun i h st b hb=>by
  have e:b=it:=by simpa using hb
  subst e
  obtain⟨_,_,e⟩:=st
  exact⟨_,e,fun v z=>by cases z⟩
 keep:=fun i h h' st k=>let ⟨x,y,e⟩:=st;⟨x,y,k it (by simp) _ e⟩
 item:=by
  intro X hP hw hK hc i ag s σ H E I hf st hg
  subst hP hw hK
  obtain⟨ha,hi⟩:=hg
  obtain⟨ok,ov,st⟩:=st
  obtain⟨vs,rel,_,dd⟩:=BM I ha
  have da:kvs.length=vs.length:=rel.length
  obtain⟨f0,f1,f2,f3,f4,f5⟩:=hf it (by simp)
  obtain⟨⟨k,y⟩,hy⟩:∃p,vs[i]?=some p:=⟨_,ae (by omega)⟩
  obtain⟨⟨k',x⟩,hx⟩:∃p,kvs[i]?=some p:=⟨_,ae hi⟩
  obtain⟨ek,rxy⟩:=rel.at_ hx hy
  have ek:k'=k:=ek
  subst ek
  rw[da]at st
  refine wpAny_pyNext_items_item st dd hy fun key h' hk out htup hsz kp=>⟨_,rfl,?_⟩
  refine wpAny_letOwnedTupleGo_items out fun g2 cV sb=>?_
  have wn:H s.heap.objs.size=none:=I.hok.fresh (aw _)
  have I1:bA X ag σ (ei H s.heap.objs.size (.tup [kV k',x])) { s with heap:=s.heap.push { cls:=.type "tuple",data:=.seq #[key,y] } }:=I.laid (t':=s.toks) (fun b o q=>ai _ q) (aw _)
   ⟨by show 2<=sizeLine;decide,[key,y],.cons (K5 hk) (.cons rxy .nil),⟨_,ar _ rfl,rfl,_,rfl⟩⟩
  have nit:it≠s.heap.objs.size:=aX (aC st)
  have I2:bA X ag σ (ei H s.heap.objs.size (.tup [kV k',x])) { s with heap:=g2 }:=bA.turned (s:={ s with heap:=s.heap.push { cls:=.type "tuple",data:=.seq #[key,y] } }) (it:=it) (t':=s.toks) I1 (fun b o hb q=>?_) (by rw[cv nit];exact f0) f1 f3 f4 f5
  ·exact⟨.ref s.heap.objs.size,_,I2,rfl,⟨_,(k',x),hx,wn,rfl,rfl⟩,⟨_,_,by rw[da];exact cV⟩,fun b hb=>by
    have e:b=it:=by simpa using hb
    subst e
    rw[cv nit];exact f0⟩
  ·have q':(s.heap.push { cls:=.type "tuple",data:=.seq #[key,y] }).get? b=some o:=q
   refine sb.extBut b o hb ?_
   by_cases hb2:b=s.heap.objs.size
   ·subst hb2
    have e1:=ar s.heap (o:={ cls:=.type "tuple",data:=.seq #[key,y] }) rfl
    rw[e1]at q';cases q'
    exact htup
   ·rw[jp _ _ _ hb2]at q'
    exact kp b o hb q'
 done:=by
  intro X hP hw hK hc i ag s σ H E I hf st hg
  subst hP hw hK
  obtain⟨ha,hi⟩:=hg
  obtain⟨ok,ov,st⟩:=st
  obtain⟨vs,rel,_,dd⟩:=BM I ha
  have da:kvs.length=vs.length:=rel.length
  obtain⟨f0,f1,f2,f3,f4,f5⟩:=hf it (by simp)
  rw[da]at st
  exact wpAny_pyNext_items_end (I.ok.hd hc) st dd (by rw[az];omega) fun h' eb=>⟨rfl,I.turned (t':=s.toks) (fun b o hb e=>eb b o hb e) f0 f1 f3 f4 f5⟩
 self:=fun _ _ _ _ _ st h=>let ⟨_,_,e⟩:=st;GH e h
def PD(te:TE):TI:=fun σ H R=>te σ H fun x H1=>∃a kvs,x=.ref a/\((H1 a=some (.dK kvs)/\∀o,R (Ri a o kvs) (ei H1 a (.frz o (.dK kvs))))\/∃o,H1 a=some (.frz o (.dK kvs))/\R (Ri a o kvs) H1)
theorem GI{jY:List Expr}{kk:Nat}{tp fm dw:Pos}(he:PE X o te)(jX:attributeBase o "items" X.env (eval o X.env)=eval o X.env:=by rfl)(jZ:(fm.endLine==dw.line)=true:=by rfl) :
  PI X (.Tuple jY kk tp) (.Call (.Attribute o "items" fm) [] [] dw) (PD te):=fun ag s σ H R I h=>by
 refine mG jX jZ (gg (he ag s σ H _ I h) fun u s1 hh=>?_)
 obtain⟨x,H1,I1,rx,a,kvs,rfl,hc⟩:=hh
 obtain rfl:u=Value.ref a:=rx
 have walk:∀(o:Obj) (H2:Hp),bA X ag σ H2 s1->H2 a=some (.frz o (.dK kvs))->R (Ri a o kvs) H2->MethodOn X.prog X.w X.A "items" dw (.ref a) [] (fun v s2=>wpAny (model X.prog X.w) X.A (pyIter v) (UM X ag σ (.Tuple jY kk tp) R) X.xe s2) X.xe s1:=fun o H2 I2 ha q=>by
  obtain⟨vs,rel,hs,dd⟩:=BM I2 ha
  have da:kvs.length=vs.length:=rel.length
  obtain⟨ob,es,e1,e2,e3,e4⟩:=id dd
  have hof:s1.heap.DictOf (d9 X.prog X.w) a vs:=⟨ob,es,_,e1,e2,e3,e4⟩
  refine⟨"dict","dict.items",PySem.F.plainAttrs_dict,PySem.F.slot_dict_items,PySem.F.type_dict_items,⟨ob,e1,e2.1⟩,fun b z=>by cases z;exact⟨ob,e1,e2.2.1⟩,gm rfl (PySem.evalArgs_none ?_)⟩
  refine rZ PySem.F.slot_dict_items hof.typeIs PySem.F.entry_dict_items (PySem.F.args_dict_items_1 _) (meets_dict_items (d9 X.prog X.w) a hs) ⟨⟨vs,hof⟩,?_⟩
  have k1:∀b o',s1.heap.get? b=some o'->(s1.heap.push { cls:=.type "dict_items",data:=.fields #[.ref a] }).get? b=some o':=fun b o' e=>ai _ e
  refine wpAny_pyIter_items (knd:=d9 X.prog X.w) (d:=a) (kvs:=vs) (ep:=EH o) ⟨_,ar _ rfl,rfl,rfl⟩ ⟨ob,es,k1 _ _ e1,e2,e3,e4⟩ ?_
  have n1:(s1.heap.push { cls:=.type "dict_items",data:=.fields #[.ref a] }).objs.size=s1.heap.objs.size+1:=bt ..
  refine⟨s1.heap.objs.size+1,[s1.heap.objs.size+1],_,Ri a o kvs,H2,by rw[n1],I2.kept (t':=s1.toks) fun b o' e=>ai _ (k1 b o' e),BO a _ o kvs,?_,fun b hb=>?_,q⟩
  ·have:=ar (s1.heap.push { cls:=.type "dict_items",data:=.fields #[.ref a] }) (o:={ cls:=.type "dict_itemiterator",data:=.fields #[.none,.bool false,.ref a,.int 0 0,.int vs.length 0,.int (EH o) 0,.none,.none] }) rfl
   rw[n1]at this
   exact⟨_,_,by rw[da];exact this⟩
  ·have e:b=s1.heap.objs.size+1:=by simpa using hb
   subst e
   exact I2.fpOk (dJ _) (I2.hok.fresh (dJ _))
 rcases hc with⟨ha,q⟩|⟨o,ha,q⟩
 ·obtain⟨_,_,vs,_,o,es,ep,ho,_⟩:=LR I1.hok ha
  exact walk o _ (I1.freeze ha ho) eN (q o)
 ·exact walk o H1 I1 ha q
def qT(fe:FE):FI:=fun ρ st=>(fe ρ st).bind fun x st=>match ga st x with
 |some (n,kvs)=>.ok (kvs.map (fun p=>.tup [p.1.w,p.2]),none) (st.set n (.rod kvs))
 |none=>.bad
theorem GJ{jY:List Expr}{kk:Nat}{tp fm dw:Pos}(he:SE X o fe)(jX:attributeBase o "items" X.env (eval o X.env)=eval o X.env:=by rfl)(jZ:(fm.endLine==dw.line)=true:=by rfl) :
  SI X (.Tuple jY kk tp) (.Call (.Attribute o "items" fm) [] [] dw) (qT fe):=⟨(GI he.h jX jZ).imp fun σ H R h=>by
 obtain⟨μ,ρ,st,l,h⟩:=h
 refine⟨μ,ρ,st,l,RK.bind h l fun μ1 st1 x v H1 p1 x1 l1 q1 h1=>?_⟩
 cases e:ga st1 x with
 |none=>rw[e]at h1;exact h1.elim
 |some nk=>
  obtain⟨n,kvs⟩:=nk
  rw[e]at h1
  simp only at h1
  obtain⟨a,vs,hn,hm,rfl,ha,r⟩:=qN l1.sto e q1
  have wk:∀(o:Obj) (H2:Hp),d_ X.K H1 H2->H2 a=some (.frz o (.dK (dV kvs vs)))->yg X (Ri a o (dV kvs vs)) (kvs.map (fun p=>.tup [p.1.w,p.2]),none) μ1 H2:=fun o H2 x2 hz i μ' bz H' pm xm S _=>by
   have hz':=xm.z _ _ _ hz
   have da:(dV kvs vs).length=kvs.length:=Gy r
   refine⟨fun w hw=>?_,fun hi=>⟨hz',by rw[da];simpa using hi⟩⟩
   rw[aj]at hw
   obtain⟨p,hp,rfl⟩:=aG.mp hw
   refine⟨⟨hz',by rw[da];exact(ac.mp hp).1⟩,fun x H'' hy=>?_⟩
   obtain⟨pa,q,hq,wn,rfl,rfl⟩:=hy
   have hq2:=List.getElem?_zip_eq_some.mp (show((kvs.map fun p=>p.1.key).zip vs)[i]?=some (q.1,q.2)from hq)
   have ek:q.1=p.1.key:=by
    have:=hq2.1
    rw[aj,hp]at this
    exact(aF this).symm
   obtain⟨v',Vc,rv⟩:=(r.mono pm (x2.trans xm)).get (show(kvs.map fun p=>p.2)[i]?=some p.2 by rw[aj,hp];rfl)
   have ev:v'=q.2:=by rw[hq2.2]at Vc;exact(aF Vc).symm
   subst ev
   have ex:=fS.same (K:=X.K) (cy wn (.tup [kV q.1,q.2]))
   refine⟨ex,S.same (cy wn _),.tupI fS.new (.consI ?_ (.consI (rv.mono (ah _) ex) .nilI))⟩
   rw[ek];exact DK.w_rel _
  refine⟨a,dV kvs vs,rfl,?_⟩
  rcases hn with hn|hn
  ·have hd:H1 a=some (.dK (dV kvs vs)):=by
    obtain⟨a',g,A3,k,_⟩:=l1.sto.get hn
    rw[hm]at g;cases g
    rcases ha with ha|⟨o,ha⟩
    ·exact ha
    ·rw[k]at ha;cases ha
   refine .inl ⟨hd,fun o=>?_⟩
   have hx:d_ X.K H1 (ei H1 a (.frz o (.dK (dV kvs vs)))):=fS.butD iB hd
   have S2:iy X.K X.mg μ1 (st1.set n (.rod kvs)) (ei H1 a (.frz o (.dK (dV kvs vs)))):=l1.sto.setG hn rfl hm hd (fun _ _ z=>by cases z) (fun _ z=>by cases z) hx rfl ⟨vs,o,eN,r.mono (ah _) hx⟩
   exact h1 μ1 _ _ (ah _) hx S2 (wk o _ hx eN)
  ·have hd:∃o,H1 a=some (.frz o (.dK (dV kvs vs))):=by
    obtain⟨a',g,A3,o,k,_⟩:=l1.sto.get hn
    rw[hm]at g;cases g
    rcases ha with ha|ha
    ·rw[k]at ha;cases ha
    ·exact ha
   obtain⟨o,hd⟩:=hd
   refine .inr ⟨o,hd,?_⟩
   rw[GA hn]at h1
   exact h1 μ1 _ _ (ah _) d_.refl l1.sto (wk o _ d_.refl hd)⟩
open AutoSeq1 (wpAny_loadPart')
abbrev nK(h:Heap)(T:Addr)(a b:Value):Prop:=h.get? T=some { cls:=.type "tuple",data:=.seq #[a,b] }
def mY(c:Bool)(h:Heap)(n a:Addr)(k:Nat):Prop:=bif c then h.IsListIter n a k else h.IsTupleIter n a k
def jP(c:Bool)(h:Heap)(a:Addr)(xs:Array Value):Prop:=bif c then h.IsList a xs else h.IsTuple a xs
section
variable{c:Bool}{n d:Addr}{k:Nat}{xs:Array Value}
theorem mY.at(q:mY c h n a k)(e:∀o,h.get? n=some o->h'.get? n=some o):mY c h' n a k:=by
 cases c
 ·exact Heap.IsTupleIter.at q e
 ·exact Heap.IsListIter.at q e
theorem jP.at(q:jP c h a xs)(e:∀o,h.get? a=some o->h'.get? a=some o):jP c h' a xs:=by
 cases c
 ·exact Heap.IsTuple.at q e
 ·exact Heap.IsList.at q e
theorem mY.extBut(q:mY c h n a k)(e:Heap.ExtBut d h h')(hn:n≠d):mY c h' n a k:=q.at fun o=>e _ o hn
theorem jP.extBut(q:jP c h a xs)(e:Heap.ExtBut d h h')(hn:a≠d):jP c h' a xs:=q.at fun o=>e _ o hn
theorem mY.ex(q:mY c h n a k):∃o,h.get? n=some o/\∀v,o.data≠.cell v:=by
 cases c
 ·obtain⟨o,e,_,d⟩:h.IsTupleIter n a k:=q
  exact⟨o,e,fun v z=>by rw[d]at z;cases z⟩
 ·obtain⟨o,e,_,d⟩:h.IsListIter n a k:=q
  exact⟨o,e,fun v z=>by rw[d]at z;cases z⟩
noncomputable abbrev qU(c:Bool)(t:Addr):Obj:={ cls:=.type (bif c then "list_iterator" else "tuple_iterator"),data:=.fields #[.ref t,.int 0 0] }
theorem mY.new(e:h.get? n=some (qU c a)):mY c h n a 0:=by
 cases c
 ·exact⟨_,e,rfl,rfl⟩
 ·exact⟨_,e,rfl,rfl⟩
end
section
variable{w:World}{c:Bool}
theorem yr{l:Addr}{xs:Array Value}{x:Value}(h:mY c s.heap it l i)(hs:jP c s.heap l xs)(hx:xs[i]?=some x)
  (hQ:∀g,mY c g it l (i+1)->Heap.SameBut it s.heap g->Q x { s with heap:=g }):wpAny (model prog w) A (Builtin.SmallTypes.nextOf (.ref it)) Q E s:=by
 cases c
 ·exact pG h hs hx hQ
 ·exact wpAny_nextOf_list_item h hs hx hQ
theorem GK{l:Addr}{xs:Array Value}(hh:A.handled=none)(h:mY c s.heap it l i)(hs:jP c s.heap l xs)(hx:xs[i]?=none)
  (hQ:∀g e,Heap.ExtBut it s.heap g->(∃o,g.get? e=some o/\o.cls=.type "StopIteration")->E (.ref e) { s with heap:=g }):wpAny (model prog w) A (Builtin.SmallTypes.nextOf (.ref it)) Q E s:=by
 cases c
 ·exact mS hh h hs hx hQ
 ·exact oy hh h hs hx hQ
theorem GL{l:Addr}{xs:Array Value}(hs:jP c s.heap l xs)(hQ:Q (.ref s.heap.objs.size) { s with heap:=s.heap.push (qU c l) }):wpAny (model prog w) A (pyIter (.ref l)) Q E s:=by
 cases c
 ·exact gk hs hQ
 ·exact gR hs hQ
theorem yt{T:Addr}{a b x:Value}{k:Nat}{Q:Unit->Shared->Prop}(hT:nK s.heap T a b)
  (h:∀h',h'.get? T=some { cls:=.type "tuple",data:=.seq ((#[a,b]:Array Value).setIfInBounds k x) }->Heap.SameBut T s.heap h'->Q () { s with heap:=h' }) :
  wpAny (model prog w) A (updateSeq T (·.setIfInBounds k x)) Q E s:=by
 refine nX hT rfl (h _ ?_ (eO ..))
 rw[cx _ hT rfl]
 simp[Obj.mapSeq]
structure ZM(c1 c2:Bool)(h:Heap)(n a b:Addr)(k:Nat)(f:Value):Prop where
 z:IsZip h (n+4) (n+2) (n+3) f
 P:nK h (n+2) (.ref n) (.ref (n+1))
 O:∃u v,nK h (n+3) u v
 i:mY c1 h n a k
 j:mY c2 h (n+1) b k
variable{c1 c2:Bool}{n:Addr}{k:Nat}{xs ys:Array Value}{x y:Value}
theorem K_(ha:a<n)(hb:b<n)(q:ZM c1 c2 s.heap n a b k .none)(la:jP c1 s.heap a xs)(lb:jP c2 s.heap b ys)
  (hx:xs[k]?=some x) (hy:ys[k]?=some y)
  (hQ:∀g,ZM c1 c2 g n a b (k+1) (rawInt s.heap.objs.size)->nK g s.heap.objs.size x y ->
   (∀d o,d≠n+4->d≠n+3->d≠n->d≠n+1->s.heap.get? d=some o->g.get? d=some o)->Q (.ref s.heap.objs.size) { s with heap:=g }) :
  wpAny (model prog w) A (Builtin.«zip.__next__» ⟨[.ref (n+4)],[]⟩) (fun fin s'=>∃v,fin=.done (.ret v)/\Q v s') E s:=by
 obtain⟨qz,qP,⟨u0,v0,qO⟩,q1,q2⟩:=q
 have N:∀{p q:Nat},p≠q->n+p≠n+q:=fun h e=>h (eQ e)
 have M:∀{d p:Nat},d<n->d≠n+p:=fun h=>aX (aU h (Nat.le_add_right _ _))
 show wpAny _ _ (field (.ref (n+4)) 2 >>= _) _ _ _
 refine aa (bU qz rfl (x:=.bool false) rfl ?_)
 show wpAny _ _ (field (.ref (n+4)) 3 >>= _) _ _ _
 refine aa (bU qz rfl (x:=.ref (n+2)) rfl (aa (dG qP rfl ?_)))
 show wpAny _ _ (Builtin.SmallTypes.ownedTupleIsFree (.ref (n+4)) >>= _) _ _ _
 refine aa ?_;unfold Builtin.SmallTypes.ownedTupleIsFree
 refine aa (bU qz rfl (x:=.none) rfl (aq ?_));simp only[iC]
 refine aa (iQ (aa (bU qz rfl (x:=.ref (n+3)) rfl ?_)))
 refine aa (cr qz (by simp) fun g1 z1 s1=>?_)
 replace z1:IsZip g1 (n+4) (n+2) (n+3) .ellipsis:=z1
 refine aa ?_
 simp only[List.zipIdx_cons,List.zipIdx_nil,nT,List.forIn_nil]
 refine aa (aa (mf ?_))
 show wpAny _ _ (Builtin.SmallTypes.nextOf (.ref n) >>= _) _ _ _
 have n0:∀p,p≠0->n≠n+p:=fun p h e=>h (eQ (e.symm.trans (ig n).symm))
 refine aa (yr (q1.extBut s1.extBut (n0 4 (by decide))) (la.extBut s1.extBut (M ha)) hx fun g2 k2 s2=>aq ?_)
 have O2:nK g2 (n+3) u0 v0:=s2.extBut _ _ (n0 3 (by decide)).symm (s1.extBut _ _ (N (by decide)) qO)
 refine aa (dG O2 rfl (aa (yt O2 fun g3 O3 s3=>?_)))
 replace O3:nK g3 (n+3) x v0:=O3
 refine aa (wpAny_letGo (aq (aa (aa (mf ?_)))))
 show wpAny _ _ (Builtin.SmallTypes.nextOf (.ref (n+1)) >>= _) _ _ _
 refine aa (yr (((q2.extBut s1.extBut (N (by decide))).extBut s2.extBut (n0 1 (by decide)).symm).extBut s3.extBut (N (by decide)))
  (((lb.extBut s1.extBut (M hb)).extBut s2.extBut (aX hb)).extBut s3.extBut (M hb)) hy fun g4 k4 s4=>aq ?_)
 have O4:nK g4 (n+3) x v0:=s4.extBut _ _ (N (by decide)) O3
 refine aa (dG O4 rfl (aa (yt O4 fun g5 O5 s5=>?_)))
 replace O5:nK g5 (n+3) x y:=O5
 refine aa (wpAny_letGo (aq (aq (aa (dG O5 rfl (aa (wpAny_newTuple ?_)))))))
 have sz:g5.objs.size=s.heap.objs.size:=by rw[s5.1,s4.1,s3.1,s2.1,s1.1]
 have kp:∀d o,d≠n+3->d≠n->d≠n+1->g1.get? d=some o->g5.get? d=some o:=fun d o c2 c3 c4 e=>
  s5.extBut _ _ c2 (s4.extBut _ _ c4 (s3.extBut _ _ c2 (s2.extBut _ _ c3 e)))
 have z7:IsZip g5 (n+4) (n+2) (n+3) .ellipsis:=kp _ _ (N (by decide)) (n0 4 (by decide)).symm (N (by decide)) z1
 have P7:nK g5 (n+2) (.ref n) (.ref (n+1)):=kp _ _ (N (by decide)) (n0 2 (by decide)).symm (N (by decide)) (s1.extBut _ _ (N (by decide)) qP)
 have a7:mY c1 g5 n a (k+1):=((k2.extBut s3.extBut (n0 3 (by decide))).extBut s4.extBut (n0 1 (by decide))).extBut s5.extBut (n0 3 (by decide))
 have b7:mY c2 g5 (n+1) b (k+1):=k4.extBut s5.extBut (N (by decide))
 have zlt:n+4<g5.objs.size:=aC z7
 show wpAny _ _ (Builtin.SmallTypes.ownedTupleHandOut (.ref (n+4)) (.ref g5.objs.size) >>= _) _ _ _
 refine aa ?_;unfold Builtin.SmallTypes.ownedTupleHandOut
 have z8:IsZip (g5.push { cls:=.type "tuple",data:=.seq #[x,y] }) (n+4) (n+2) (n+3) .ellipsis:=ai _ z7
 refine aa (cr z8 (by simp) fun g9 z9 s9=>?_)
 replace z9:IsZip g9 (n+4) (n+2) (n+3) (rawInt g5.objs.size):=z9
 refine cr z9 (by simp) fun gA zA sA=>?_
 replace zA:IsZip gA (n+4) (n+2) (n+3) (rawInt g5.objs.size):=zA
 have up:∀d o,d≠n+4->g5.get? d=some o->gA.get? d=some o:=fun d o c1 e=>sA.extBut _ _ c1 (s9.extBut _ _ c1 (ai _ e))
 have TA:nK gA g5.objs.size x y:=sA.extBut _ _ (fJ zlt) (s9.extBut _ _ (fJ zlt) (ar _ rfl))
 rw[sz]at zA TA
 refine aq ⟨_,rfl,?_⟩
 show Q (.ref g5.objs.size) _
 rw[sz]
 exact hQ gA ⟨zA,up _ _ (N (by decide)) P7,⟨_,_,up _ _ (N (by decide)) O5⟩,a7.at fun o e=>up _ o (n0 4 (by decide)) e,b7.at fun o e=>up _ o (N (by decide)) e⟩ TA
  fun d o c1 c2 c3 c4 e=>up d o c1 (kp d o c2 c3 c4 (s1.extBut _ _ c1 e))
theorem PF{Q:Fin->Shared->Prop}(hh:A.handled=none)(ha:a<n)(hb:b<n)(q:ZM c1 c2 s.heap n a b k .none)(la:jP c1 s.heap a xs)(lb:jP c2 s.heap b ys)
  (he:xs[k]?=none\/ys[k]?=none)
  (hE:∀g e,(∀d o,d≠n+4->d≠n+3->d≠n->d≠n+1->s.heap.get? d=some o->g.get? d=some o)->(∃o,g.get? e=some o/\o.cls=.type "StopIteration")->E (.ref e) { s with heap:=g }) :
  wpAny (model prog w) A (Builtin.«zip.__next__» ⟨[.ref (n+4)],[]⟩) Q E s:=by
 obtain⟨qz,qP,⟨u0,v0,qO⟩,q1,q2⟩:=q
 have N:∀{p q:Nat},p≠q->n+p≠n+q:=fun h e=>h (eQ e)
 have M:∀{d p:Nat},d<n->d≠n+p:=fun h=>aX (aU h (Nat.le_add_right _ _))
 have n0:∀p,p≠0->n≠n+p:=fun p h e=>h (eQ (e.symm.trans (ig n).symm))
 show wpAny _ _ (field (.ref (n+4)) 2 >>= _) _ _ _
 refine aa (bU qz rfl (x:=.bool false) rfl ?_)
 show wpAny _ _ (field (.ref (n+4)) 3 >>= _) _ _ _
 refine aa (bU qz rfl (x:=.ref (n+2)) rfl (aa (dG qP rfl ?_)))
 show wpAny _ _ (Builtin.SmallTypes.ownedTupleIsFree (.ref (n+4)) >>= _) _ _ _
 refine aa ?_;unfold Builtin.SmallTypes.ownedTupleIsFree
 refine aa (bU qz rfl (x:=.none) rfl (aq ?_));simp only[iC]
 refine aa (iQ (aa (bU qz rfl (x:=.ref (n+3)) rfl ?_)))
 refine aa (cr qz (by simp) fun g1 z1 s1=>?_)
 replace z1:IsZip g1 (n+4) (n+2) (n+3) .ellipsis:=z1
 refine aa ?_
 simp only[List.zipIdx_cons,List.zipIdx_nil,nT,List.forIn_nil]
 refine aa (aa (mf ?_))
 show wpAny _ _ (Builtin.SmallTypes.nextOf (.ref n) >>= _) _ _ _
 have fin:∀(g2:Heap) (e:Addr),(∀d o,d≠n+3->d≠n->d≠n+1->g1.get? d=some o->g2.get? d=some o)->(∃o,g2.get? e=some o/\o.cls=.type "StopIteration")->wpAny (model prog w) A (setField (.ref (n+4)) 0 .none) (fun _ s'=>E (.ref e) s') E { s with heap:=g2 }:=fun g2 e kp ye=>by
  obtain⟨oe,h1,h2⟩:=ye
  have z2:IsZip g2 (n+4) (n+2) (n+3) .ellipsis:=kp _ _ (N (by decide)) (n0 4 (by decide)).symm (N (by decide)) z1
  have nez:e≠n+4:=fun q=>by subst q;rw[z2]at h1;cases h1;simp at h2
  exact cr z2 (by simp) fun g3 _ s3=>hE g3 e (fun d o c1 c2 c3 c4 q=>s3.extBut _ _ c1 (kp d o c2 c3 c4 (s1.extBut _ _ c1 q))) ⟨oe,s3.extBut _ _ nez h1,h2⟩
 cases hx:xs[k]? with
 |none=>
  exact aa (GK hh (q1.extBut s1.extBut (n0 4 (by decide))) (la.extBut s1.extBut (M ha)) hx fun g2 e s2 ye=>fin g2 e (fun d o _ c3 _ q=>s2 _ _ c3 q) ye)
 |some x=>
  have hy:ys[k]?=none:=by rcases he with h|h;rw[hx]at h;cases h;exact h
  refine aa (yr (q1.extBut s1.extBut (n0 4 (by decide))) (la.extBut s1.extBut (M ha)) hx fun g2 k2 s2=>aq ?_)
  have O2:nK g2 (n+3) u0 v0:=s2.extBut _ _ (n0 3 (by decide)).symm (s1.extBut _ _ (N (by decide)) qO)
  refine aa (dG O2 rfl (aa (yt O2 fun g3 O3 s3=>?_)))
  refine aa (wpAny_letGo (aq (aa (aa (mf ?_)))))
  show wpAny _ _ (Builtin.SmallTypes.nextOf (.ref (n+1)) >>= _) _ _ _
  exact aa (GK hh (((q2.extBut s1.extBut (N (by decide))).extBut s2.extBut (n0 1 (by decide)).symm).extBut s3.extBut (N (by decide)))
   (((lb.extBut s1.extBut (M hb)).extBut s2.extBut (aX hb)).extBut s3.extBut (M hb)) hy fun g4 e s4 ye=>fin g4 e (fun d o c2 c3 c4 q=>s4 _ _ c4 (s3.extBut _ _ c2 (s2.extBut _ _ c3 q))) ye)
theorem La{Q:Option Value->Shared->Prop}(ha:a<n)(hb:b<n)(q:ZM c1 c2 s.heap n a b k .none)(la:jP c1 s.heap a xs)(lb:jP c2 s.heap b ys)
  (hx:xs[k]?=some x) (hy:ys[k]?=some y)
  (hQ:∀g,ZM c1 c2 g n a b (k+1) (rawInt s.heap.objs.size)->nK g s.heap.objs.size x y ->
   (∀d o,d≠n+4->d≠n+3->d≠n->d≠n+1->s.heap.get? d=some o->g.get? d=some o)->Q (some (.ref s.heap.objs.size)) { s with heap:=g }) :
  wpAny (model prog w) A (pyNext (.ref (n+4))) Q E s:=by
 have T:s.TypeIs (.ref (n+4)) "zip":=⟨_,q.z,rfl⟩
 unfold pyNext
 exact aa (dA (be (name:=Str.ofString "__next__") T ki (bp ki T F.entry_zip_next
   (K_ ha hb q la lb hx hy fun g a1 a2 a3=>aq (hQ g a1 a2 a3)) (F.args_zip_next_1 _))))
theorem Lb{Q:Option Value->Shared->Prop}(hh:A.handled=none)(ha:a<n)(hb:b<n)(q:ZM c1 c2 s.heap n a b k .none)(la:jP c1 s.heap a xs)(lb:jP c2 s.heap b ys)
  (he:xs[k]?=none\/ys[k]?=none)
  (hQ:∀g,(∀d o,d≠n+4->d≠n+3->d≠n->d≠n+1->s.heap.get? d=some o->g.get? d=some o)->Q none { s with heap:=g }):wpAny (model prog w) A (pyNext (.ref (n+4))) Q E s:=by
 have T:s.TypeIs (.ref (n+4)) "zip":=⟨_,q.z,rfl⟩
 unfold pyNext
 refine aa (dA (be (name:=Str.ofString "__next__") T ki (bp ki T F.entry_zip_next (PF hh ha hb q la lb he fun g e hk ye=>?_) (F.args_zip_next_1 _))))
 obtain⟨o,ho,t5⟩:=ye
 exact aa (dS (T:="StopIteration") (b:=true) ⟨o,ho,t5⟩ gZ (aq (hQ _ hk)))
end
abbrev U0(c1:Bool)(h:Heap)(a:Addr):Heap:=h.push (qU c1 a)
abbrev U1(c1 c2:Bool)(h:Heap)(a b:Addr):Heap:=(U0 c1 h a).push (qU c2 b)
abbrev U2(c1 c2:Bool)(h:Heap)(a b:Addr):Heap:=(U1 c1 c2 h a b).push { cls:=.type "tuple",data:=.seq #[.ref h.objs.size,.ref (U0 c1 h a).objs.size] }
abbrev U3(c1 c2:Bool)(h:Heap)(a b:Addr):Heap:=(U2 c1 c2 h a b).push { cls:=.type "tuple",data:=.seq #[.none,.none] }
abbrev Rj(c1 c2:Bool)(h:Heap)(a b:Addr):Heap:=(U3 c1 c2 h a b).push { cls:=.type "zip",data:=.fields #[.none,.bool false,.bool false,.ref (U1 c1 c2 h a b).objs.size,.ref (U2 c1 c2 h a b).objs.size] }
theorem PH     (c1 c2 : Bool) (a b : Addr) (xs ys : Array Value) : Meets (Builtin.«zip.__new__» ⟨[.type "zip", .ref a, .ref b], []⟩) (fun _ R s => jP   c1 s.heap a xs /\ jP   c2 s.heap b ys /\
      R (.ok (.ret (.ref (U3  c1 c2 s.heap a b).objs.size))) { s with heap := Rj  c1 c2 s.heap a b }) :=
  .of_wp fun prog w A R s h => by
    obtain ⟨hp, g, d, tk, os⟩ := s
    obtain ⟨ha, hb, h⟩ := h
    have sb := sub_zip
    have hA : jP   c1 (Shared.heap ⟨hp, g, d, tk, os⟩) a xs := ha
    have hB : jP   c2 (Shared.heap ⟨hp.push (qU      c1 a), g, d, tk, os⟩) b ys := hb.at fun o e => ai                     _ e
    wp_walk using GL     hA, GL     hB
    exact ⟨_, rfl, h⟩
section
variable{w:World}
theorem Lc{c1 c2:Bool}{xs ys:Array Value}(ha:jP c1 s.heap a xs)(hb:jP c2 s.heap b ys)
  (q:∀g,ZM c1 c2 g s.heap.objs.size a b 0 .none->(∀d o,s.heap.get? d=some o->g.get? d=some o)->Q (.ref (s.heap.objs.size+4)) { s with heap:=g }) :
  wpAny (model prog w) A (call (.type "zip") [.ref a,.ref b]) Q E s:=by
 refine nA F.called_zip (by decide) (F.typeCall_zip_2 _ _) (F.newCall_zip_2 _ _) (fun ob=>F.args_object_init_3 ob _ _) F.entry_zip_new (PH c1 c2 a b xs ys) ⟨ha,hb,?_⟩
 have n1:(U0 c1 s.heap a).objs.size=s.heap.objs.size+1:=bt ..
 have n2:(U1 c1 c2 s.heap a b).objs.size=s.heap.objs.size+2:=by rw[bt,n1]
 have n3:(U2 c1 c2 s.heap a b).objs.size=s.heap.objs.size+3:=by rw[bt,n2]
 have n4:(U3 c1 c2 s.heap a b).objs.size=s.heap.objs.size+4:=by rw[bt,n3]
 have p:∀{h:Heap} {c:Addr} {o u:Obj},h.get? c=some o->(h.push u).get? c=some o:=fun e=>ai _ e
 have g5:(Rj c1 c2 s.heap a b).get? (U3 c1 c2 s.heap a b).objs.size=some _:=ar _ rfl
 have g4:(Rj c1 c2 s.heap a b).get? (U2 c1 c2 s.heap a b).objs.size=some _:=p (ar _ rfl)
 have g3:(Rj c1 c2 s.heap a b).get? (U1 c1 c2 s.heap a b).objs.size=some _:=p (p (ar _ rfl))
 have g2:(Rj c1 c2 s.heap a b).get? (U0 c1 s.heap a).objs.size=some _:=p (p (p (ar _ rfl)))
 have g1:(Rj c1 c2 s.heap a b).get? s.heap.objs.size=some _:=p (p (p (p (ar _ rfl))))
 show _/\_
 rw[n2,n3,n4]at g5
 rw[n1,n2]at g3
 rw[n3]at g4
 rw[n1]at g2
 rw[n4]
 exact⟨⟨_,g5,rfl⟩,q _ ⟨g5,g3,⟨_,_,g4⟩,mY.new g1,mY.new g2⟩ fun d o e=>p (p (p (p (p e))))⟩
end
def BR(c:Bool)(K:Frag)(H:Hp)(a:Addr)(xs:List V):Prop:=bif c then oZ K H a xs else fS K H a xs
section
variable{xs ys:List V}{c:Bool}
theorem bA.seq(I:bA X ag σ H s)(h:BR c X.K H a xs):∃bq,cu xs bq/\jP c s.heap a bq.toArray:=by
 cases c
 ·obtain⟨bq,r,p,_⟩:=I.tuple h
  exact⟨bq,r,p⟩
 ·obtain⟨bq,r,p,_⟩:=I.list h
  exact⟨bq,r,p.isList⟩
theorem bA.seq_inj(I:bA X ag σ H s)(h:BR c X.K H a xs)(h':BR c X.K H a ys):xs=ys:=by
 cases c
 ·exact I.tuple_inj h h'
 ·exact I.list_inj h h'
theorem jP.lt{xs:Array Value}(q:jP c h a xs):a<h.objs.size:=by
 cases c
 ·obtain⟨_,e,_⟩:h.IsTuple a xs:=q
  exact aC e
 ·obtain⟨_,e,_⟩:h.IsList a xs:=q
  exact aC e
end
def Tn(c1 c2:Bool)(K:Frag)(a b:Addr):It:=
  ⟨fun i H=>∃xs ys x y,BR c1 K H a xs/\BR c2 K H b ys/\xs[i]?=some x/\ys[i]?=some y,
   fun i H v H'=>∃p,H p=none/\v=.ref p/\∀xs ys x y,BR c1 K H a xs->BR c2 K H b ys->xs[i]?=some x->ys[i]?=some y->H'=ei H p (.tup [x,y]),
   fun i H=>∃xs ys,BR c1 K H a xs/\BR c2 K H b ys/\(xs.length<=i\/ys.length<=i)⟩
theorem Ld{w:World}{c1 c2:Bool}{n:Addr}(ha:a<n)(hb:b<n) :
  xQ P w K (.Tuple jY kk pos) (Tn c1 c2 K a b) [n+4,n+2,n+3,n,n+1] (n+4) (fun k h=>ZM c1 c2 h n a b k .none) where
 mem:=by simp
 obj:=fun k h st d hd=>by
  obtain⟨h1,h2,⟨u,v,h3⟩,h4,h5⟩:=st
  obtain⟨o4,e4,d4⟩:=h4.ex
  obtain⟨o5,e5,d5⟩:=h5.ex
  have q:d=n+4\/d=n+2\/d=n+3\/d=n\/d=n+1:=by simpa using hd
  rcases q with rfl|rfl|rfl|rfl|rfl
  ·exact⟨_,h1,fun v q=>by cases q⟩
  ·exact⟨_,h2,fun v q=>by cases q⟩
  ·exact⟨_,h3,fun v q=>by cases q⟩
  ·exact⟨_,e4,d4⟩
  ·exact⟨_,e5,d5⟩
 keep:=fun k h h' st kp=>by
  obtain⟨h1,h2,⟨u,v,h3⟩,h4,h5⟩:=st
  exact⟨kp (n+4) (by simp) _ h1,kp (n+2) (by simp) _ h2,⟨u,v,kp (n+3) (by simp) _ h3⟩,h4.at fun o e=>kp n (by simp) o e,h5.at fun o e=>kp (n+1) (by simp) o e⟩
 item:=by
  intro X hP hw hK hc' k ag s σ H E I hf st hg
  subst hP hw hK
  obtain⟨xs,ys,x,y,hq,hr,hx,hy⟩:=hg
  obtain⟨bq,r1,p1⟩:=I.seq hq
  obtain⟨jts,r2,p2⟩:=I.seq hr
  obtain⟨u,hu,ru⟩:=r1.get hx
  obtain⟨v,hv,rv⟩:=r2.get hy
  refine La ha hb st p1 p2 (x:=u) (y:=v) (by simpa using hu) (by simpa using hv) fun g a1 a5 kp=>⟨_,rfl,?_⟩
  refine wpAny_letOwnedTupleGo_zip a1.z fun g2 b1 s2=>?_
  have wn:H s.heap.objs.size=none:=I.hok.fresh (aw _)
  have I1:bA X ag σ (ei H s.heap.objs.size (.tup [x,y])) { s with heap:=s.heap.push { cls:=.type "tuple",data:=.seq #[u,v] },toks:=s.toks }:=I.laid (fun c o q=>ai _ q) (aw _)
   ⟨by show 2<=sizeLine;decide,[u,v],.cons ru (.cons rv .nil),⟨_,ar _ rfl,rfl,_,rfl⟩⟩
  have lt:∀{c o},s.heap.get? c=some o->c≠s.heap.objs.size:=fun e=>aX (aC e)
  have nf:∀d∈[n+4,n+2,n+3,n,n+1],d≠s.heap.objs.size:=fun d hd=>by
   obtain⟨h1,h2,⟨u,v,h3⟩,h4,h5⟩:=st
   obtain⟨o4,e4,d4⟩:=h4.ex
   obtain⟨o5,e5,d5⟩:=h5.ex
   have q:d=n+4\/d=n+2\/d=n+3\/d=n\/d=n+1:=by simpa using hd
   rcases q with rfl|rfl|rfl|rfl|rfl
   ·exact lt h1
   ·exact lt h2
   ·exact lt h3
   ·exact lt e4
   ·exact lt e5
  have fp:∀d∈[n+4,n+2,n+3,n,n+1],sf X ag (ei H s.heap.objs.size (.tup [x,y])) d:=fun d hb=>by
   obtain⟨f0,f⟩:=hf d hb
   exact⟨by rw[cv (nf d hb)];exact f0,f⟩
  have N:∀{p q:Nat},p≠q->n+p≠n+q:=fun h e=>h (eQ e)
  have n0:∀p,p≠0->n≠n+p:=fun p h e=>h (eQ (e.symm.trans (ig n).symm))
  have I2:bA X ag σ (ei H s.heap.objs.size (.tup [x,y])) { s with heap:=g2,toks:=s.toks }:=bA.turnedL (s:={ s with heap:=s.heap.push { cls:=.type "tuple",data:=.seq #[u,v] },toks:=s.toks }) (ch:=[n+4,n+3,n,n+1]) (t':=s.toks) I1 (fun d o hb q=>?_) fun d hb=>fp d (by
   have q:d=n+4\/d=n+3\/d=n\/d=n+1:=by simpa using hb
   rcases q with rfl|rfl|rfl|rfl<;>simp)
  ·refine⟨.ref s.heap.objs.size,_,I2,rfl,⟨_,wn,rfl,fun xs' Ro x' y' e1 e2 e4 e5=>?_⟩,⟨b1,s2.extBut _ _ (N (by decide)) a1.P,let ⟨_,_,q⟩:=a1.O;⟨_,_,s2.extBut _ _ (N (by decide)) q⟩,a1.i.extBut s2.extBut (n0 4 (by decide)),a1.j.extBut s2.extBut (N (by decide))⟩,fun d hb=>(fp d hb).1⟩
   have q1:=I.seq_inj e1 hq
   have q2:=I.seq_inj e2 hr
   subst q1 q2
   rw[hx]at e4;rw[hy]at e5;cases e4;cases e5;rfl
  ·have q':(s.heap.push { cls:=.type "tuple",data:=.seq #[u,v] }).get? d=some o:=q
   have hn:d≠n+4/\d≠n+3/\d≠n/\d≠n+1:=by simpa using hb
   refine s2.extBut d o hn.1 ?_
   by_cases hb':d=s.heap.objs.size
   ·subst hb'
    have e1:=ar s.heap (o:={ cls:=.type "tuple",data:=.seq #[u,v] }) rfl
    rw[e1]at q';cases q'
    exact a5
   ·rw[jp _ _ _ hb']at q'
    exact kp d o hn.1 hn.2.1 hn.2.2.1 hn.2.2.2 q'
 done:=by
  intro X hP hw hK hc' k ag s σ H E I hf st hg
  subst hP hw hK
  obtain⟨xs,ys,hq,hr,he⟩:=hg
  obtain⟨bq,r1,p1⟩:=I.seq hq
  obtain⟨jts,r2,p2⟩:=I.seq hr
  have l1:=r1.length
  have l2:=r2.length
  refine Lb (I.ok.hd hc') ha hb st p1 p2 (by
   rcases he with q|q
   ·exact .inl (by simp;omega)
   ·exact .inr (by simp;omega)) fun g kp=>⟨rfl,?_⟩
  exact I.turnedL (ch:=[n+4,n+3,n,n+1]) (t':=s.toks) (fun d o hb q=>by
   have hn:d≠n+4/\d≠n+3/\d≠n/\d≠n+1:=by simpa using hb
   exact kp d o hn.1 hn.2.1 hn.2.2.1 hn.2.2.2 q) fun d hb=>hf d (by
   have q:d=n+4\/d=n+3\/d=n\/d=n+1:=by simpa using hb
   rcases q with rfl|rfl|rfl|rfl<;>simp)
 self:=fun A k s Q E st h=>wpAny_pyIter_zip st.z h
def V2(K:Frag)(ta:TA):TI:=fun σ H R=>ta σ H fun vs H1=>∃a b c1 c2,vs=[.ref a,.ref b]/\(∃ys,BR c2 K H1 b ys)/\(∃xs,BR c1 K H1 a xs)/\R (Tn c1 c2 K a b) H1
theorem Le{a b:Expr}{ta:TA}{p pos tp:Pos}{jY:List Expr}{kk:Nat}(hm:X.mg "zip"=none)(ha:QA X [a,b] ta)(hg:Gl X "zip":=by rfl)(hs:starEach [a,b] X.env=(false,eval a X.env)::starEach [b] X.env:=by rfl)
  (ze:(backTo pos (starEach [b] X.env)).any (·.1)=false:=by rfl):QI X (.Tuple jY kk tp) (.Call (.Name "zip" p) [a,b] [] pos) (V2 X.K ta):=⟨by
 intro ag s σ H R I h
 refine Call_ (kP I hg hm boot_zip (bR (gg (ha.h pos ag s σ H _ I h) fun us s1 ⟨vs,H1,I1,r1,q1⟩=>?_) hs ze))
 obtain⟨t,t',c1,c2,e,⟨ys,hr⟩,⟨xs,hq⟩,q⟩:=q1
 subst e
 cases r1 with
 |cons x1 r1=>cases r1 with
  |cons x2 r1=>
   cases r1
   cases x1
   cases x2
   obtain⟨jts,ql,p2⟩:=I1.seq hr
   obtain⟨bq,rv,p1⟩:=I1.seq hq
   refine Lc p1 p2 fun g e1 kp=>?_
   refine wpAny_pyIter_zip e1.z ?_
   refine⟨s1.heap.objs.size+4,[s1.heap.objs.size+4,s1.heap.objs.size+2,s1.heap.objs.size+3,s1.heap.objs.size,s1.heap.objs.size+1],_,_,H1,rfl,I1.kept (t':=s1.toks) kp,Ld p1.lt p2.lt,e1,fun c hb=>?_,q⟩
   have hc:s1.heap.objs.size<=c:=by
    have z:c=s1.heap.objs.size+4\/c=s1.heap.objs.size+2\/c=s1.heap.objs.size+3\/c=s1.heap.objs.size\/c=s1.heap.objs.size+1:=by simpa using hb
    rcases z with rfl|rfl|rfl|rfl|rfl<;>simp
   exact I1.fpOk hc (I1.hok.fresh hc)⟩
section
variable{a b:Expr}{fs:FA}
def GM(st:List am):W->Option (List W×Option (Nat×List W))
 |.tup xs=>some (xs,none)
 |.loc n=>(lstOf st n).map fun xs=>(xs,some (n,xs))
 |_=>none
def mZ(fs:FA):FI:=fun ρ st=>(fs ρ st).bind fun ws st=>match ws with
 |[x,y]=>(match GM st x,GM st y with
  |some (xs,none),some (ys,k)=>.ok (ky xs ys,k) st
  |some (xs,some k),some (ys,none)=>.ok (ky xs ys,some k) st
  |_,_=>.bad)
 |_=>.bad
theorem uG{x:W}{v:V}{xs:List W}{k:Option (Nat×List W)}(S:iy K mg μ st H)(r:bu K μ H x v)(e:GM st x=some (xs,k)) :
  ∃a c vs,v=.ref a/\BR c K H a vs/\∀μ' bz H',μ <+: μ'->d_ K H H'->iy K mg μ' bz H'->(∀q,k=some q->iA bz (some q))->∃A3,BR c K H' a A3/\RelWs K μ' H' xs A3:=by
 cases x with
 |tup ws=>
  cases e
  obtain⟨t,vs,rfl,hS,r⟩:=r.tupE
  exact⟨t,false,vs,rfl,hS,fun μ' bz H' p x _ _=>⟨vs,x _ _ hS,r.mono p x⟩⟩
 |loc n=>
  unfold GM at e
  obtain⟨ys,e1,e2⟩:=aG.mp e
  cases e2
  obtain⟨t1,ha1,rfl⟩:=r.locE
  obtain⟨a',vs0,g0,hS0,r0⟩:=S.lstOf e1
  rw[ha1]at g0;cases g0
  refine⟨t1,true,vs0,rfl,hS0,fun μ' bz H' p x S' ck=>?_⟩
  obtain⟨a2,vl,g2,hL,rl⟩:=S'.lstOf (show lstOf bz n=some xs from ck _ rfl)
  have:μ'[n]?=some t1:=L2.pre_get p ha1
  rw[g2]at this;cases this
  exact⟨vl,hL,rl⟩
 |_=>cases e
theorem Al{a b:Addr}{c1 c2:Bool}{xs ys:List W}{us:List V}(S:iy K mg μ st H)(h1:BR c1 K H a vs)(r1:RelWs K μ H xs vs)(h2:BR c2 K H b us)(r2:RelWs K μ H ys us) :
  (∀w,(ky xs ys)[i]?=some w->(Tn c1 c2 K a b).go i H/\∀u H',(Tn c1 c2 K a b).yld i H u H'->d_ K H H'/\iy K mg μ st H'/\bu K μ H' w u)/\((ky xs ys).length<=i->(Tn c1 c2 K a b).stop i H):=by
 refine⟨fun w hw=>?_,fun hl=>⟨vs,us,h1,h2,by rw[oJ]at hl;rw[<- r1.len,<- r2.len];omega⟩⟩
 obtain⟨x,y,hx,hy,rfl⟩:=oI hw
 obtain⟨v1,g1,g2⟩:=r1.get hx
 obtain⟨v2,g3,g4⟩:=r2.get hy
 refine⟨⟨vs,us,v1,v2,h1,h2,g1,g3⟩,fun u H'' hu=>?_⟩
 obtain⟨q,hq,rfl,hH⟩:=hu
 have e:=hH vs us v1 v2 h1 h2 g1 g3
 subst e
 have ex:=fS.same (K:=K) (cy hq (.tup [v1,v2]))
 exact⟨ex,S.same (cy hq _),.tupI fS.new (.consI (g2.mono (ah _) ex) (.consI (g4.mono (ah _) ex) .nilI))⟩
theorem Lf{jY:List Expr}{kk:Nat}{tp:Pos}(hm:X.mg "zip"=none)(ha:SA X [a,b] fs)(hg:Gl X "zip":=by rfl)(hs:starEach [a,b] X.env=(false,eval a X.env)::starEach [b] X.env:=by rfl)(qu:(backTo pos (starEach [b] X.env)).any (·.1)=false:=by rfl) :
  SI X (.Tuple jY kk tp) (.Call (.Name "zip" p) [a,b] [] pos) (mZ fs):=⟨(Le hm ⟨ha.h⟩ hg hs qu).h.imp fun σ H R h=>by
 obtain⟨μ,ρ,st,l,h⟩:=h
 refine⟨μ,ρ,st,l,RK.bind h l fun μ1 st1 x v H1 p1 x1 l1 q1 h1=>?_⟩
 split at h1
 ·rename_i wx wy
  obtain⟨y,ys,rfl,ry,r1⟩:=q1.consE
  obtain⟨y2,rfl,ry2⟩:=r1.one
  split at h1
  ·rename_i xs ys k e1 e2
   obtain⟨t,c1,vs,rfl,hS,f1⟩:=uG l1.sto ry e1
   obtain⟨t',c2,A3,rfl,hS',f2⟩:=uG l1.sto ry2 e2
   refine⟨t,t',c1,c2,rfl,⟨_,hS'⟩,⟨_,hS⟩,h1 μ1 _ H1 (ah _) d_.refl l1.sto fun i μ' bz H' pp xx S ck=>?_⟩
   obtain⟨us,q1,m1⟩:=f1 μ' bz H' pp xx S fun q z=>by cases z
   obtain⟨us',q2,m2⟩:=f2 μ' bz H' pp xx S fun q z=>by rw[<- z];exact ck
   exact Al S q1 m1 q2 m2
  ·rename_i xs k ys e1 e2
   obtain⟨t,c1,vs,rfl,hS,f1⟩:=uG l1.sto ry e1
   obtain⟨t',c2,A3,rfl,hS',f2⟩:=uG l1.sto ry2 e2
   refine⟨t,t',c1,c2,rfl,⟨_,hS'⟩,⟨_,hS⟩,h1 μ1 _ H1 (ah _) d_.refl l1.sto fun i μ' bz H' pp xx S ck=>?_⟩
   obtain⟨us,q1,m1⟩:=f1 μ' bz H' pp xx S fun q z=>by cases z;exact ck
   obtain⟨us',q2,m2⟩:=f2 μ' bz H' pp xx S fun q z=>by cases z
   exact Al S q1 m1 q2 m2
  ·exact h1.elim
 ·exact h1.elim⟩
end
theorem kA(st x:List am)(k:Nat):(st++x)[st.length+k]?=x[k]?:=by rw[dE (by omega)];congr 1;omega
theorem jd(st x:List am):(st++x)[st.length]?=x[0]?:=kA st x 0
theorem oK(st x:List am)(k:Nat)(c:am):(st++x).set (st.length+k) c=st++x.set k c:=by rw[jC _ _ (by omega)];congr 2;omega
theorem fD(st x:List am)(c:am):(st++x).set st.length c=st++x.set 0 c:=oK st x 0 c
theorem aT{x:List am}{c:am}(h:st[n]?=some c):(st++x)[n]?=some c:=by
 rw[aK (ac.mp h).1];exact h
theorem BS(st:List am)(ws:List W):ja st st ws=st:=by unfold ja;split<;>simp
theorem xo{st x:List am}{ws:List W}(h:undWs st.length ws=true):ja st (st++x) ws=st:=by
 unfold ja
 rw[au ⟨h,by simp,fun i hi=>.inl (aK hi)⟩]
 simp
theorem pi(h:undWs st.length ws=false):ja st bz ws=bz:=by
 unfold ja
 rw[ax fun k=>by have:=k.1;rw[h]at this;cases this]
theorem m3{N:Nat}{body:FS}{ws:List W}{w:W}(h:body (ws.map some++List.replicate (N-ws.length) none) st=.rt w bz):de N body ws st=.ok w (ja st bz [w]):=by
 unfold de;rw[h]
theorem pj{N:Nat}{body:FS}{w:W}(h:body (ws.map some++List.replicate (N-ws.length) none) st=.rt w st):de N body ws st=.ok w st:=by
 rw[m3 h,BS]
theorem vz{N:Nat}{body:FS}{x:List am}{w:W}(h:body (ws.map some++List.replicate (N-ws.length) none) st=.rt w (st++x))(hu:undWs st.length [w]=true):de N body ws st=.ok w st:=by
 rw[m3 h,xo hu]
theorem Am{N:Nat}{body:FS}{x:List am}{k:Nat}(h:body (ws.map some++List.replicate (N-ws.length) none) st=.rt (.loc (st.length+k)) (st++x)):de N body ws st=.ok (.loc (st.length+k)) (st++x):=by
 rw[m3 h,pi (by simp[undWs,W.und])]
theorem GN{g g':FS}{ρ':cw}(h:g ρ st=.nx ρ' bz):aW g g' ρ st=g' ρ' bz:=by unfold aW;rw[h]
theorem C7{f:FG}{body:FS}{k:EB}(h:fi ρ st=.ok k bz):iI fi f body ρ st=vg f body k.2 k.1 ρ bz:=by unfold iI;rw[h];rfl
theorem vA{f:FG}{body:FS}{ck:Option (Nat×List W)}(I:Nat->cw->List am->Prop):∀{ws:List W} {ρ:cw} {st:List am} (i0:Nat),I i0 ρ st->(∀i ρ st,I i ρ st->iA st ck) ->
  (∀i w ρ st,ws[i]?=some w->I (i0+i) ρ st->∃ρ' ρ2 cV,f w ρ=some ρ'/\body ρ' st=.nx ρ2 cV/\I (i0+i+1) ρ2 cV) ->
  ∃ρ2 cV,vg f body ck ws ρ st=.nx ρ2 cV/\I (i0+ws.length) ρ2 cV
 |[],ρ,st,i0,h0,hc,hs=>⟨ρ,st,by unfold vg;rw[au (hc _ _ _ h0)],h0⟩
 |w::ws,ρ,st,i0,h0,hc,hs=>by
  obtain⟨ρ',ρ2,cV,e1,e2,h1⟩:=hs 0 w ρ st rfl h0
  obtain⟨ρ3,lZ,e3,h3⟩:=vA I (ws:=ws) (ρ:=ρ2) (st:=cV) (i0+1) h1 hc fun i w ρ st hw hI=>by
   obtain⟨a,b,c,d,e,g⟩:=hs (i+1) w ρ st (by simpa using hw) (by rw[show i0+(i+1)=i0+1+i by omega];exact hI)
   exact⟨a,b,c,d,e,by rw[show i0+1+i+1=i0+(i+1)+1 by omega];exact g⟩
  refine⟨ρ3,lZ,?_,by rw[br,show i0+(ws.length+1)=i0+1+ws.length by omega];exact h3⟩
  unfold vg
  rw[au (hc _ _ _ h0),e1]
  simp only[e2]
  exact e3
theorem EI{t:FT}{g:FS}(I:Nat->cw->List am->Prop):∀(n:Nat) {ρ:cw} {st:List am},I n ρ st ->
  (∀n ρ st,I n ρ st->t ρ st=.ok false st\/(t ρ st=.ok true st/\∃ρ2 cV m,g ρ st=.nx ρ2 cV/\m<n/\I m ρ2 cV)) ->
  ∃m ρ2 cV,oF t g ρ st=.nx ρ2 cV/\I m ρ2 cV/\t ρ2 cV=.ok false cV:=by
 intro n ρ st h hs
 have key:∀(k n:Nat) (ρ:cw) (st:List am),n<k->I n ρ st->∃m ρ2 cV,fW t g k ρ st=.nx ρ2 cV/\I m ρ2 cV/\t ρ2 cV=.ok false cV:=by
  intro k
  induction k with
  |zero=>intro n _ _ h;exact absurd h (kh _)
  |succ k ih=>
   intro n ρ st hk hI
   rcases hs n ρ st hI with e|⟨e,ρ2,cV,m,e2,hm,h2⟩
   ·exact⟨n,ρ,st,by unfold fW;rw[e];rfl,hI,e⟩
   ·obtain⟨m',ρ3,lZ,e3,h3⟩:=ih m ρ2 cV (by omega) h2
    exact⟨m',ρ3,lZ,by unfold fW;rw[e];simp only[R.stmt_ok,iC,e2];exact e3,h3⟩
 obtain⟨m,ρ2,cV,e,h2⟩:=key (n+1) n ρ st (cJ n) h
 exact⟨m,ρ2,cV,EC e (by simp),h2⟩
section
variable{ρ':cw}{cV lZ U':List am}{fo fi:FE}{fs:FA}{u:FT}{x y z w v:W}{xs zs:List W}{a b k:Bool}{g g':FS}
theorem dX(h:ρ[i]?=some (some w)):af i ρ st=.ok w st:=by unfold af;rw[h]
theorem cG:eC w ρ st=.ok w st:=rfl
theorem bP{f:W->W->List am->R W}(h1:fa ρ st=.ok x st1)(h2:fb ρ st1=.ok y cV)(h3:f x y cV=.ok z lZ):e2 f fa fb ρ st=.ok z lZ:=by unfold e2;rw[h1];simp only[R.bind_ok];rw[h2];exact h3
theorem aV:aB ρ st=.ok [] st:=rfl
theorem av(h1:fa ρ st=.ok x st1)(h2:fs ρ st1=.ok xs cV):ak fa fs ρ st=.ok (x::xs) cV:=by unfold ak;rw[h1];simp only[R.bind_ok];rw[h2];rfl
theorem PJ:Sx ls ρ st=.ok (ls.map W.str) st:=rfl
theorem tU(h1:fs ρ st=.ok ws st1)(h2:ws.length<=mj):sC fs ρ st=.ok (.tup ws) st1:=by unfold sC;rw[h1];simp only[R.bind_ok,qC];rw[au h2]
theorem kZ(h1:fs ρ st=.ok ws st1)(h2:ws.length<=mj):j5 fs ρ st=.ok (.loc st1.length) (st1++[.lst ws]):=by unfold j5;rw[h1];simp only[R.bind_ok,kR];rw[au h2]
theorem bW(h1:fs ρ st=.ok ws st1)(h2:F ws st1=.ok w cV):bE F fs ρ st=.ok w cV:=by unfold bE;rw[h1];exact h2
theorem bM(h1:fs ρ st=.ok ws st1)(h2:F ws st1=.ok w cV)(hn:ws.length=n):cb n F fs ρ st=.ok w cV:=by unfold cb;rw[h1];simp only[R.bind_ok];rw[au hn];exact h2
theorem bY(h:fa ρ st=.ok (.bl k) st1):gn fa ρ st=.ok k st1:=by unfold gn;rw[h];rfl
theorem yu(h1:t ρ st=.ok true st1)(h2:u ρ st1=.ok k cV):LY t u ρ st=.ok k cV:=by unfold LY;rw[h1];exact h2
theorem yw(h1:t ρ st=.ok false st1):LY t u ρ st=.ok false st1:=by unfold LY;rw[h1];rfl
theorem qV(h1:t ρ st=.ok false st1)(h2:u ρ st1=.ok k cV):JE t u ρ st=.ok k cV:=by unfold JE;rw[h1];exact h2
theorem C8(h1:t ρ st=.ok true st1):JE t u ρ st=.ok true st1:=by unfold JE;rw[h1];rfl
theorem xp(h1:t ρ st=.ok a st1)(h2:(!a)=k):JF t ρ st=.ok k st1:=by unfold JF;rw[h1,<- h2];rfl
theorem C9(h1:fa ρ st=.ok (.bl true) st1)(h2:fb ρ st1=.ok w cV):BF fa fb ρ st=.ok w cV:=by unfold BF;rw[h1];exact h2
theorem To(h1:fa ρ st=.ok (.bl a) st1)(h2:(!a)=k):KD fa ρ st=.ok (.bl k) st1:=by unfold KD;rw[h1,<- h2];rfl
theorem pN(h1:t ρ st=.ok true st1)(h2:fa ρ st1=.ok w cV):Bc t fa fb ρ st=.ok w cV:=by unfold Bc;rw[h1];exact h2
theorem pO(h1:t ρ st=.ok false st1)(h2:fb ρ st1=.ok w cV):Bc t fa fb ρ st=.ok w cV:=by unfold Bc;rw[h1];exact h2
theorem j6{F:W->List W->List am->R W}(h1:fo ρ st=.ok x st1)(hl:pJ st1 x=true)(h2:fs ρ st1=.ok ws cV)(h3:F x ws cV=.ok w lZ):pK F fo fs ρ st=.ok w lZ:=by unfold pK;rw[h1];simp only[R.bind_ok];rw[au hl,h2];exact h3
theorem GO{F:W->List W->List am->R W}(h1:fo ρ st=.ok x st1)(hl:Gk x=true)(h2:fs ρ st1=.ok ws cV)(h3:F x ws cV=.ok w lZ):Gm F fo fs ρ st=.ok w lZ:=by unfold Gm;rw[h1];simp only[R.bind_ok];rw[au hl,h2];exact h3
theorem fz(h:st[n]?=some (.lst ws)):pJ st (.loc n)=true:=by simp only[pJ,h]
theorem An{q:Int}(h:fa ρ st=.ok (.int q) st1):z_ fa ρ st=.ok (.int (-q)) st1:=by unfold z_;rw[h];rfl
theorem Ao{T c:String}(h:fa ρ st=.ok x st1)(hx:x.ty=some c)(hk:KU c T=k):qc T fa ρ st=.ok (.bl k) st1:=by unfold qc;rw[h];simp only[R.bind_ok,hx,hk]
theorem qW(h:fa ρ st=.ok x st1)(hk:x.isNon=k):vc fa ρ st=.ok (.bl k) st1:=by unfold vc;rw[h,<- hk];rfl
theorem m5(h:fa ρ st=.ok x st1)(hk:(!x.isNon)=k):oB fa ρ st=.ok (.bl k) st1:=by unfold oB;rw[h,<- hk];rfl
theorem Ap:nH ρ st=.ok none st:=rfl
theorem Aq{q:Int}(h:fa ρ st=.ok (.int q) st1):mq fa ρ st=.ok (some q) st1:=by unfold mq;rw[h];rfl
theorem Ar{fl fh:FO}{l h:Option Int}(h1:fa ρ st=.ok x st1)(h2:fl ρ st1=.ok l cV)(h3:fh ρ cV=.ok h lZ)(h4:zW x l h lZ=.ok w U'):EA fa fl fh ρ st=.ok w U':=by unfold EA;rw[h1];simp only[R.bind_ok];rw[h2];simp only[R.bind_ok];rw[h3];exact h4
theorem bD(h:fe ρ st=.ok w st1):b8 i fe ρ st=.nx (ρ.set i (some w)) st1:=by unfold b8;rw[h];rfl
theorem fX(h:fe ρ st=.ok w st1):fB fe ρ st=.nx ρ st1:=by unfold fB;rw[h];rfl
theorem GP(h:fe ρ st=.ok w st1):dk fe ρ st=.rt w st1:=by unfold dk;rw[h];rfl
theorem tV{f:W->W->W->List am->Option (List am)}(h1:fe ρ st=.ok v st1)(h2:fo ρ st1=.ok x cV)(h3:fi ρ cV=.ok y lZ)(h4:f x y v lZ=some U'):qH fo fi fe f ρ st=.nx ρ U':=by
 unfold qH;rw[h1];simp only[R.stmt_ok];rw[h2];simp only[R.stmt_ok];rw[h3];simp only[R.stmt_ok];rw[h4]
theorem l_{r:RS}(h1:t ρ st=.ok true st1)(h2:g ρ st1=r):mh t g g' ρ st=r:=by unfold mh;rw[h1];exact h2
theorem vB{r:RS}(h1:t ρ st=.ok false st1)(h2:g' ρ st1=r):mh t g g' ρ st=r:=by unfold mh;rw[h1];exact h2
theorem vC:eZ ρ st=.nx ρ st:=rfl
theorem Mh{r:RS}(h:g ρ st=.nx ρ' st1)(h2:g' ρ' st1=r):aW g g' ρ st=r:=by rw[GN h];exact h2
theorem GQ(h:g ρ st=.rt w st1):aW g g' ρ st=.rt w st1:=by unfold aW;rw[h]
theorem eG{p q:Int}:eE (.int p) (.int q) st=.ok (.int (p+q)) st:=rfl
theorem yx{p q:List Nat}(h:p.length+q.length<=mj):eE (.str p) (.str q) st=.ok (.str (p++q)) st:=by simp only[eE];rw[au h]
theorem GR(h1:st[n]?=some (.lst ws))(h2:st[m]?=some (.lst xs))(h:(ws++xs).length<=mj):eE (.loc n) (.loc m) st=.ok (.loc st.length) (st++[.lst (ws++xs)]):=by
 unfold eE;simp only[h1,h2,kR];rw[au h]
theorem fI{C:Int->Int->Prop}[∀i j,Decidable (C i j)]{f:Int->Int->Int}{p q:Int}(h:C p q):Ew C f (.int p) (.int q) st=.ok (.int (f p q)) st:=by simp only[Ew];rw[au h]
theorem ma{p q:Int}(h:OW p q):fR (.int p) (.int q) st=.ok (.int (p*q)) st:=by simp only[fR];rw[au h]
theorem jQ{f:Int->Int->Bool}{p q:Int}(h:f p q=k):Ex f (.int p) (.int q) st=.ok (.bl k) st:=by rw[<- h];rfl
theorem Tp{p q:Int}(h:decide (p<=q)=k):VY (.int p) (.int q) st=.ok (.bl k) st:=by rw[<- h];rfl
theorem je{p q:Int}(h:(p==q)=k):qF (.int p) (.int q) st=.ok (.bl k) st:=by rw[<- h];rfl
theorem Tq{p q:Int}(h:(!(p==q))=k):SV (.int p) (.int q) st=.ok (.bl k) st:=by rw[<- h];rfl
theorem Tr{p q:List Nat}(h:(p==q)=k):qF (.str p) (.str q) st=.ok (.bl k) st:=by rw[<- h];rfl
theorem lT{q:Int}(h:tI ws q=some w):b9 (.tup ws) (.int q) st=.ok w st:=by unfold b9;simp only[h,c5]
theorem kv(h:ρ[i]?=some (some w):=by rfl):af i ρ st=.ok w st:=dX h
theorem ox{q:Int}(h:tI ws q=some w:=by rfl):b9 (.tup ws) (.int q) st=.ok w st:=lT h
theorem kn(h:ρ[i]?=some (some w):=by rfl):ak (af i) aB ρ st=.ok [w] st:=av (dX h) aV
theorem kx{q:Int}(h:ρ[i]?=some (some (.tup ws)):=by rfl)(h2:tI ws q=some w:=by rfl):e2 b9 (af i) (eC (.int q)) ρ st=.ok w st:=bP (dX h) cG (lT h2)
theorem GS{q:Int}{c:Nat}(hl:l.length<=mj)(h:tI l q=some c):b9 (.str l) (.int q) st=.ok (.str [c]) st:=by unfold b9;simp only[h,c5];rw[au hl]
theorem k_{q:Int}(hl:lstOf st n=some ws)(h:tI ws q=some w):b9 (.loc n) (.int q) st=.ok w st:=by unfold b9;simp only[hl,h,c5]
theorem BU:dM [.tup ws] st=.ok (.int ws.length) st:=rfl
theorem m6(h:l.length<=mj):dM [.str l] st=.ok (.int l.length) st:=by unfold dM;simp only;rw[au h]
theorem m7(hl:lstOf st n=some ws):dM [.loc n] st=.ok (.int ws.length) st:=by unfold dM;simp only[hl,c5]
theorem a_(h:st[n]?=some (.lst ws)):lstOf st n=some ws:=by unfold lstOf;rw[h]
theorem uH(h:st[n]?=some (.ro ws)):lstOf st n=some ws:=by unfold lstOf;rw[h]
theorem xq(h:st[n]?=some (.lst ws))(hl:ws.length<mj):cf (.loc n) [y] st=.ok .non (st.set n (.lst (ws++[y]))):=by unfold cf;simp only[h];rw[au hl]
theorem Mi(h:st[n]?=some (.lst (ws++[y]))):vj (.loc n) [] st=.ok y (st.set n (.lst ws)):=by unfold vj;simp only[h];simp
theorem PL{q:Int}(h:st[n]?=some (.lst ws))(hi:CI ws.length q=some j):mv (.loc n) (.int q) v st=some (st.set n (.lst (ws.set j v))):=by unfold mv;simp only[h,hi];rfl
theorem yy{sep:List Nat}(h:lstOf st n=some (ls.map W.str))(hl:(ls.map List.length).sum+ls.length*sep.length<=mj):mw (.str sep) [.loc n] st=.ok (.str (oA sep ls)) st:=by
 unfold mw;simp only[h,c5,xn];rw[au hl]
theorem Mj{l h:Option Int}(hl:lstOf st n=some ws):zW (.loc n) l h st=.ok (.loc st.length) (st++[.lst (mW ws l h)]):=by unfold zW;simp only[hl,c5]
theorem As{l h:Option Int}{z:List Nat}(hl:z.length<=mj):zW (.str z) l h st=.ok (.str (mW z l h)) st:=by unfold zW;simp only;rw[au hl]
theorem Ts{l h:Option Int}:zW (.tup ws) l h st=.ok (.tup (mW ws l h)) st:=rfl
theorem kB(h:fe ρ st=.ok (.tup ws) st1):dC fe ρ st=.ok (ws,none) st1:=by unfold dC;rw[h];rfl
theorem lU(h:fe ρ st=.ok (.loc n) st1)(hl:lstOf st1 n=some ws):dC fe ρ st=.ok (ws,some (n,ws)) st1:=by unfold dC;rw[h];simp only[R.bind_ok,hl]
theorem jf{q:Int}(h:fs ρ st=.ok [.int q] st1)(hq:-(2^62)<=q/\q<2^62):cM fs ρ st=.ok (fP 0 q.toNat,none) st1:=by unfold cM;rw[h];simp only[R.bind_ok];rw[au hq]
theorem GT{l:List W}{q:Nat}(h:l.reverse[q]?=some x):tI l (-((q:Int)+1))=some x:=by
 have hq:q<l.length:=by have:=(ac.mp h).1;simpa using this
 unfold tI CI
 rw[ax (by omega),au (by omega)]
 rw[gI hq]at h
 simp only[Option.bind_some]
 rw[show((-((q:Int)+1))+(l.length:Int)).toNat=l.length-1-q by omega]
 exact h
theorem dR{l:List α}{x:α}(h:l[q]?=some x):tI l (q:Int)=some x:=by
 have hq:q<l.length:=(ac.mp h).1
 unfold tI CI
 rw[au (by omega),au (by omega)]
 simpa using h
def i8(P:RS->Prop)(r:RS):Prop:=P r
def EJ(I:cw->List am->Prop):RS->Prop:=fun r=>∃ρ st,r=.nx ρ st/\I ρ st
def vD(I:W->List am->Prop):RS->Prop:=fun r=>∃w st,r=.rt w st/\I w st
variable{P:RS->Prop}{gc:FS}
theorem cU{r r':RS}(h:r=r')(h2:P r'):i8 P r:=by rw[h];exact h2
theorem aD(h:g ρ st=.nx ρ' st1)(h2:i8 P (g' ρ' st1)):i8 P (aW g g' ρ st):=by rw[GN h];exact h2
theorem qX(h1:t ρ st=.ok true st1)(h2:i8 P (g ρ st1)):i8 P (mh t g g' ρ st):=by rw[l_ h1 rfl];exact h2
theorem pP(h1:t ρ st=.ok false st1)(h2:i8 P (g' ρ st1)):i8 P (mh t g g' ρ st):=by rw[vB h1 rfl];exact h2
theorem kN(h1:t ρ st=.ok true st1)(h2:i8 P (aW g gc ρ st1)):i8 P (aW (mh t g g') gc ρ st):=by
 unfold aW at h2 ⊢;rw[l_ h1 rfl];exact h2
theorem du(h1:t ρ st=.ok false st1)(h2:i8 P (aW g' gc ρ st1)):i8 P (aW (mh t g g') gc ρ st):=by
 unfold aW at h2 ⊢;rw[vB h1 rfl];exact h2
theorem dZ(h2:i8 P (gc ρ st)):i8 P (aW eZ gc ρ st):=h2
theorem bC(h:fe ρ st=.ok w st1)(h2:P (.rt w st1)):i8 P (dk fe ρ st):=by rw[GP h];exact h2
theorem jR(h:fe ρ st=.ok w st1)(h2:P (.rt w st1)):i8 P (aW (dk fe) gc ρ st):=by rw[GQ (GP h)];exact h2
theorem dO{fi:FI}{f:FG}{body:FS}{k:EB}(I:Nat->cw->List am->Prop)(h:fi ρ st=.ok k st1)(h0:I 0 ρ st1)(hc:∀i ρ st,I i ρ st->iA st k.2)
  (hs:∀i w ρ st,k.1[i]?=some w->I i ρ st->∃ρ',f w ρ=some ρ'/\i8 (EJ (I (i+1))) (body ρ' st)) (he:∀ρ st,I k.1.length ρ st->i8 P (gc ρ st)):i8 P (aW (iI fi f body) gc ρ st):=by
 obtain⟨ρ2,cV,e,h2⟩:=vA (f:=f) (body:=body) (ck:=k.2) I (ws:=k.1) (ρ:=ρ) (st:=st1) 0 h0 hc fun i w ρ st hw hI=>by
  rw[eX]at hI ⊢
  obtain⟨ρ',e1,ρ2,cV,e2,h2⟩:=hs i w ρ st hw hI
  exact⟨ρ',ρ2,cV,e1,e2,h2⟩
 rw[eX]at h2
 exact aD (by rw[C7 h];exact e) (he _ _ h2)
theorem xu{body:FS}(I:Nat->cw->List am->Prop)(n:Nat)(h0:I n ρ st)
  (hs:∀n ρ st,I n ρ st->t ρ st=.ok false st\/(t ρ st=.ok true st/\i8 (EJ fun ρ2 cV=>∃m,m<n/\I m ρ2 cV) (body ρ st))) (he:∀m ρ st,I m ρ st->t ρ st=.ok false st->i8 P (gc ρ st)):i8 P (aW (oF t body) gc ρ st):=by
 obtain⟨m,ρ2,cV,e,h2,h3⟩:=EI (t:=t) (g:=body) I n h0 fun n ρ st hI=>by
  rcases hs n ρ st hI with e|⟨e,ρ2,cV,e2,m,hm,h2⟩
  ·exact .inl e
  ·exact .inr ⟨e,ρ2,cV,m,e2,hm,h2⟩
 exact aD e (he _ _ _ h2 h3)
theorem uI{N:Nat}{body:FS}{Q:W->Prop}(h:i8 (vD fun w bz=>(∃x,bz=st++x)/\undWs st.length [w]=true/\Q w) (body (ws.map some++List.replicate (N-ws.length) none) st)):∃w,Q w/\de N body ws st=.ok w st:=by
 obtain⟨w,bz,e,⟨x,rfl⟩,hu,q⟩:=h
 exact⟨w,q,vz e hu⟩
theorem fY{N:Nat}{body:FS}(h:i8 (vD fun w' bz=>w'=w/\∃x,bz=st++x) (body (ws.map some++List.replicate (N-ws.length) none) st))(hu:undWs st.length [w]=true):de N body ws st=.ok w st:=by
 obtain⟨w,bz,e,rfl,x,rfl⟩:=h
 exact vz e hu
theorem kC{N:Nat}{body:FS}{Q:Nat->List am->Prop}(h:i8 (vD fun w bz=>∃j x,w=.loc (st.length+j)/\bz=st++x/\Q j x) (body (ws.map some++List.replicate (N-ws.length) none) st)):∃j x,Q j x/\de N body ws st=.ok (.loc (st.length+j)) (st++x):=by
 obtain⟨w,bz,e,j,x,rfl,rfl,q⟩:=h
 exact⟨j,x,q,Am e⟩
theorem kO{lo:Int}(h:(fP lo q)[i]?=some w):i<q/\w=.int (lo+i):=by
 unfold fP at h
 obtain⟨h1,h2⟩:=ac.mp h
 simp only[al,cC]at h1
 exact⟨h1,by rw[<- h2];simp⟩
theorem uJ{l:List α}(h:q<=l.length):mW l none (some (q:Int))=l.take q:=by
 unfold mW;rw[HT.sIx_none,HT.sIx_nat,gy h];simp
theorem yz{l:List α}(h:q<=l.length):mW l (some (q:Int)) none=l.drop q:=by
 unfold mW;rw[HT.sIx_none,HT.sIx_nat,gy h];rw[bK (by simp)]
theorem hJ{q:Int}{n:Nat}(h:0<n):∃m:Nat,m<n/\q%(n:Int)=m:=by
 have h0:0<=q%(n:Int):=iF _ (by omega)
 have h1:q%(n:Int)<n:=lH _ (by omega)
 exact⟨(q%(n:Int)).toNat,by omega,by omega⟩
end
section
variable{u:FT}{a b k:Bool}{P:RS->Prop}{g g' gc:FS}{w:W}
theorem PM(h1:t ρ st=.ok a st)(h2:u ρ st=.ok b st):LY t u ρ st=.ok (a&&b) st:=by cases a;exact yw h1;exact yu h1 h2
theorem PN(h1:t ρ st=.ok a st)(h2:u ρ st=.ok b st):JE t u ρ st=.ok (a||b) st:=by cases a;exact qV h1 h2;exact C8 h1
theorem PP(h1:t ρ st=.ok a st):JF t ρ st=.ok (!a) st:=xp h1 rfl
theorem jE{N:Nat}{body:FS}(h:i8 (vD fun w' bz=>w'=w/\bz=st) (body (ws.map some++List.replicate (N-ws.length) none) st)):de N body ws st=.ok w st:=by
 obtain⟨w,bz,e,rfl,rfl⟩:=h
 exact pj e
end
end L2
open L2
local macro_rules | `(tactic| walk_at "ev1") => `(tactic| first
 | (with_reducible apply dX) <;> rfl
 | (with_reducible apply lT) <;> rfl
 | with_reducible first
  | exact cG | exact aV | exact PJ | exact Ap | exact eG | exact BU | exact vC | exact Ts
  | apply bP | apply av | apply tU | apply kZ | apply bW | apply bM | apply bY | apply xp | apply To
  | apply j6 | apply GO | apply An | apply Ao | apply qW | apply m5 | apply Aq | apply Ar | apply bD | apply fX | apply GP | apply tV
  | apply fI | apply ma | apply jQ | apply Tp | apply je | apply Tq | apply Tr | apply yx
 | decide
 | (show List.length _ <= mj; exact aQ rfl)
 | (show @Eq Nat _ _; exact rfl)
 | (show @Eq Bool _ _; exact rfl)
 | (show @Eq (Option String) _ _; exact rfl)
 | (show @Eq _ _ _; with_reducible assumption))
local macro_rules | `(tactic| walk_at "evs") => `(tactic| repeat' walk_at "ev1")
local macro_rules | `(tactic| walk_at "tst") => `(tactic| first
 | (walk_at "evs"; done)
 | (apply yw; (focus walk_at "tst"); done)
 | (apply yu; (focus walk_at "tst"); (focus walk_at "tst"); done)
 | (apply C8; (focus walk_at "tst"); done)
 | (apply qV; (focus walk_at "tst"); (focus walk_at "tst"); done))
local macro_rules | `(tactic| walk_at "go1") => `(tactic| first
 | apply dZ
 | (apply jR; (focus (walk_at "evs"; done)))
 | (apply bC; (focus (walk_at "evs"; done)))
 | (apply kN; (focus walk_at "tst"))
 | (apply du; (focus walk_at "tst"))
 | (apply qX; (focus walk_at "tst"))
 | (apply pP; (focus walk_at "tst"))
 | (apply aD; (focus (walk_at "evs"; done))))
local macro_rules | `(tactic| walk_at "go") => `(tactic| repeat walk_at "go1")
local macro_rules | `(tactic| walk_at "tb") => `(tactic| repeat' (first | with_reducible apply PM | with_reducible apply PN | with_reducible apply PP | walk_at "ev1"))
local macro_rules | `(tactic| walk_at "len") => `(tactic| (simp only [aE, br, gr]; show _ <= 1000000; omega))
namespace L2
open PySem PySem.Spec PyProof.Rows
section
variable{ρ' ρ2:cw}{cV:List am}{fs:FA}{g gh gc:FS}{w:W}{c:Str}{cs:List Str}{P:RS->Prop}{b:Bool}
theorem GU{N:Nat}{body:FS}(h:i8 (EJ fun _ bz=>∃x,bz=st++x) (body (ws.map some++List.replicate (N-ws.length) none) st)):de N body ws st=.ok .non st:=by
 obtain⟨ρ,bz,e,x,rfl⟩:=h
 unfold de
 rw[e]
 simp only[xo (st:=st) (x:=x) (ws:=[]) rfl]
theorem yA(I:cw->List am->Prop)(h:i8 (EJ I) (g ρ st))(h2:∀ρ st,I ρ st->i8 P (gc ρ st)):i8 P (aW g gc ρ st):=by
 obtain⟨ρ',bz,e,hi⟩:=h
 exact aD e (h2 _ _ hi)
end
section
variable{f:FG}
theorem Au{ρ0:cw}(hc:iA st ck)(T:W->Bool)(Y:W->W):∀(ws f_:List W),(∀w∈ws,∃ρ',f w ρ0=some ρ'/\t ρ' st=.ok (T w) st/\(T w=true->el ρ' st=.ok (Y w) st)) ->
  kT f t el ck ρ0 ws f_ st=.ok (f_++(ws.filter T).map Y) st
 |[],f_,_=>by unfold kT;rw[au hc];simp
 |w::ws,f_,h=>by
  obtain⟨ρ',e1,e2,e3⟩:=h w (by simp)
  have ih:=fun f_=>Au hc T Y ws f_ fun w' hw'=>h w' (by simp[hw'])
  unfold kT
  rw[au hc,e1]
  simp only[e2]
  cases hT:T w with
  |true=>
   simp only[e3 hT]
   rw[ih]
   simp[dW,hT]
  |false=>
   simp only
   rw[ih]
   simp[dW,hT]
theorem oM(T:W->Bool)(Y:W->W)(h:fi ρ st=.ok (ws,ck) st1)(hl:ws.length<=mj)(hc:iA st1 ck)
  (hs:∀w∈ws,∃ρ',f w (oH cap ρ)=some ρ'/\t ρ' st1=.ok (T w) st1/\(T w=true->el ρ' st1=.ok (Y w) st1)):dq cap fi f t el ρ st=.ok (.loc st1.length) (st1++[.lst ((ws.filter T).map Y)]):=by
 unfold dq
 rw[h]
 simp only[R.bind_ok]
 rw[au hl,Au hc T Y ws [] hs]
 simp only[R.bind_ok,gq,kR]
 rw[au]
 rw[al]
 exact aL (b_ _ _) hl
theorem m8(Y:W->W)(h:fi ρ st=.ok (ws,ck) st1)(hl:ws.length<=mj)(hc:iA st1 ck)
  (hs:∀w∈ws,∃ρ',f w (oH cap ρ)=some ρ'/\el ρ' st1=.ok (Y w) st1):dq cap fi f iZ el ρ st=.ok (.loc st1.length) (st1++[.lst (ws.map Y)]):=by
 have:=oM (fi:=fi) (f:=f) (t:=iZ) (el:=el) (cap:=cap) (fun _=>true) Y h hl hc fun w hw=>by
  obtain⟨ρ',e1,e2⟩:=hs w hw
  exact⟨ρ',e1,rfl,fun _=>e2⟩
 rw[List.filter_eq_self.mpr (fun _ _=>rfl)]at this
 exact this
theorem sM{lo:Int}{w:W}(h:w∈fP lo q):∃i:Nat,i<q/\w=.int (lo+i):=by
 unfold fP at h
 obtain⟨i,hi,rfl⟩:=ba.mp h
 exact⟨i,bN.mp hi,rfl⟩
theorem oN(h:lstOf st n=some ws):ip [.loc n] st=.ok (.tup ws) st:=by unfold ip;simp only[h,c5]
end
section
end
end L2
namespace P
open PySem L2
open PyProof.Rows (boot_sorted boot_set boot_ord boot_all boot_enumerate boot_int boot_str boot_bool boot_list boot_tuple boot_isinstance boot_max boot_min boot_zip boot_sum)
noncomputable def jg(i:Nat):Stmt:=PySem.Challenge.pw_trunksay_k61_next_filling.main.body.getD i (.Pass ⟨0,0,0,0⟩)
abbrev PQ:Stmt:=jg 5
noncomputable abbrev EK:List Str:=["many"]
noncomputable abbrev Tt:List Str:=["many"]
theorem Ml:bj EK Tt (aR PQ):=kM
abbrev PR:Stmt:=jg 6
noncomputable abbrev vE:List Str:=["machine"]
noncomputable abbrev Tu:List Str:=["machine"]
theorem Mm:bj vE Tu (aR PR):=kM
abbrev PU:Stmt:=jg 7
noncomputable abbrev BV:List Str:=["machine","many"]
noncomputable abbrev Tv:List Str:=["machine","many"]
theorem Mn:bj BV Tv (aR PU):=kM
abbrev PV:Stmt:=jg 9
noncomputable abbrev BW:List Str:=["letters"]
noncomputable abbrev Tw:List Str:=["letters"]
theorem Tx:bj BW Tw (aR PV):=kM
abbrev PX:Stmt:=jg 10
noncomputable abbrev GV:List Str:=["exponent","power","each"]
noncomputable abbrev Tz:List Str:=["exponent"]
theorem Mo:bj GV Tz (aR PX):=kM
abbrev PY:Stmt:=jg 11
noncomputable abbrev Av:List Str:=["names","marks","number","name"]
noncomputable abbrev TB:List Str:=["names","marks"]
theorem Mp:bj Av TB (aR PY):=kM
abbrev PZ:Stmt:=jg 12
noncomputable abbrev BX:List Str:=["names","number","marks","rest","name"]
noncomputable abbrev TC:List Str:=["names","number"]
theorem Mq:bj BX TC (aR PZ):=kM
abbrev P0:Stmt:=jg 14
noncomputable abbrev BY:List Str:=["place"]
noncomputable abbrev TD:List Str:=["place"]
theorem Mr:bj BY TD (aR P0):=kM
abbrev P1:Stmt:=jg 15
noncomputable abbrev Aw:List Str:=["place"]
noncomputable abbrev TF:List Str:=["place"]
theorem Ms:bj Aw TF (aR P1):=kM
abbrev GW:Stmt:=jg 16
noncomputable abbrev BZ:List Str:=["tree","links","tops","number","place","right","left"]
noncomputable abbrev Mt:List Str:=["tree"]
theorem GX:bj BZ Mt (aR GW):=kM
abbrev GY:Stmt:=jg 17
noncomputable abbrev GZ:List Str:=["tree","lefts","rights","number","pair"]
noncomputable abbrev Mu:List Str:=["tree"]
theorem G0:bj GZ Mu (aR GY):=kM
abbrev G1:Stmt:=jg 18
noncomputable abbrev EL:List Str:=["ups","place"]
noncomputable abbrev Mv:List Str:=["ups","place"]
theorem G3:bj EL Mv (aR G1):=kM
abbrev G4:Stmt:=jg 19
noncomputable abbrev B0:List Str:=["tree","sizes","left","right","size"]
noncomputable abbrev Mw:List Str:=["tree"]
theorem G5:bj B0 Mw (aR G4):=kM
abbrev G6:Stmt:=jg 21
noncomputable abbrev yB:List Str:=["rooms","number"]
noncomputable abbrev Mx:List Str:=["rooms","number"]
theorem G7:bj yB Mx (aR G6):=kM
abbrev G8:Stmt:=jg 23
noncomputable abbrev vF:List Str:=["machine"]
noncomputable abbrev My:List Str:=["machine"]
theorem G9:bj vF My (aR G8):=kM
abbrev G_:Stmt:=jg 26
noncomputable abbrev vG:List Str:=["names"]
noncomputable abbrev Mz:List Str:=["names"]
theorem P2:bj vG Mz (aR G_):=kM
abbrev G':Stmt:=jg 27
noncomputable abbrev EM:List Str:=["marks","names"]
noncomputable abbrev MA:List Str:=["marks","names"]
theorem Ha:bj EM MA (aR G'):=kM
abbrev Hb:Stmt:=jg 28
noncomputable abbrev yC:List Str:=["machine","names","marks","bare"]
noncomputable abbrev MB:List Str:=["machine","names","marks"]
theorem Hc:bj yC MB (aR Hb):=kM
abbrev Hd:Stmt:=jg 29
noncomputable abbrev B1:List Str:=["numbers","times","number"]
noncomputable abbrev MC:List Str:=["numbers"]
theorem He:bj B1 MC (aR Hd):=kM
abbrev Hf:Stmt:=jg 30
noncomputable abbrev Ax:List Str:=["machine","times","lefts","rights","many","left","right","pairs","number","each","room"]
noncomputable abbrev MD:List Str:=["machine","times","lefts","rights"]
theorem Hg:bj Ax MD (aR Hf):=kM
abbrev Hh:Stmt:=jg 31
noncomputable abbrev wG:List Str:=["machine","times","weights","left","right"]
noncomputable abbrev ME:List Str:=["machine","times","weights","left","right"]
theorem Hi:bj wG ME (aR Hh):=kM
abbrev Hj:Stmt:=jg 32
noncomputable abbrev uh:List Str:=["machine","times","weights","left"]
noncomputable abbrev MF:List Str:=["machine","times","weights","left"]
theorem Hk:bj uh MF (aR Hj):=kM
abbrev Hl:Stmt:=jg 33
noncomputable abbrev vH:List Str:=["machine","times","weights","rights","rooms","found","left"]
noncomputable abbrev MG:List Str:=["machine","times","weights","rights"]
theorem Hm:bj vH MG (aR Hl):=kM
abbrev Ho:Stmt:=jg 34
noncomputable abbrev wH:List Str:=["tree","begun","sizes","place"]
noncomputable abbrev MH:List Str:=["tree"]
theorem Hq:bj wH MH (aR Ho):=kM
abbrev jh:Stmt:=(mX (jg 35)).getD 0 (.Pass ⟨0,0,0,0⟩)
noncomputable abbrev qY:List Str:=["self","machine","tree","names","times","pair"]
noncomputable abbrev lV:List Str:=["self","machine","tree","names"]
theorem lg:bj qY lV (aR jh):=kM
abbrev gE:Stmt:=(mX (jg 35)).getD 1 (.Pass ⟨0,0,0,0⟩)
noncomputable abbrev og:List Str:=["self","place"]
noncomputable abbrev jA:List Str:=["self","place"]
theorem ji:bj og jA (aR gE):=kM
abbrev jF:Stmt:=(mX (jg 35)).getD 2 (.Pass ⟨0,0,0,0⟩)
noncomputable abbrev sN:List Str:=["self"]
noncomputable abbrev my:List Str:=["self"]
theorem lW:bj sN my (aR jF):=kM
abbrev iq:Stmt:=(mX (jg 35)).getD 3 (.Pass ⟨0,0,0,0⟩)
noncomputable abbrev pA:List Str:=["self","place","up","rights","left"]
noncomputable abbrev kj:List Str:=["self","place"]
theorem jS:bj pA kj (aR iq):=kM
abbrev jG:Stmt:=(mX (jg 35)).getD 4 (.Pass ⟨0,0,0,0⟩)
noncomputable abbrev sO:List Str:=["self","place","choice","leads","pair"]
noncomputable abbrev mz:List Str:=["self","place","choice"]
theorem lX:bj sO mz (aR jG):=kM
abbrev j7:Stmt:=(mX (jg 35)).getD 5 (.Pass ⟨0,0,0,0⟩)
noncomputable abbrev ui:List Str:=["self","place","part"]
noncomputable abbrev nM:List Str:=["self"]
theorem mB:bj ui nM (aR j7):=kM
abbrev j8:Stmt:=(mX (jg 35)).getD 6 (.Pass ⟨0,0,0,0⟩)
noncomputable abbrev uj:List Str:=["self","choice","place"]
noncomputable abbrev nN:List Str:=["self","choice"]
theorem mC:bj uj nN (aR j8):=kM
abbrev Hr:Stmt:=jg 36
noncomputable abbrev B2:List Str:=["machine","tree","names"]
noncomputable abbrev MI:List Str:=["machine","tree","names"]
theorem Hs:bj B2 MI (aR Hr):=kM
abbrev Ht:Stmt:=jg 37
noncomputable abbrev vI:List Str:=["machine","tree","names","course","many","place","choice"]
noncomputable abbrev MJ:List Str:=["machine","tree","names"]
theorem Hu:bj vI MJ (aR Ht):=kM
abbrev Hv:Stmt:=jg 39
noncomputable abbrev Ay:List Str:=["_law_script","_law_k"]
noncomputable abbrev MK:List Str:=["_law_script","_law_k"]
theorem Hw:bj Ay MK (aR Hv):=kM
abbrev Hy:Stmt:=jg 40
noncomputable abbrev yD:List Str:=["_law_cell_here","_law_k","_law_salt","_law_first"]
noncomputable abbrev ML:List Str:=["_law_cell_here","_law_k","_law_salt"]
theorem Hz:bj yD ML (aR Hy):=kM
abbrev HA:Stmt:=jg 41
noncomputable abbrev yE:List Str:=["_law_cell_here","_law_many","_law_salt","_law_found","_law_rest","_law_k"]
noncomputable abbrev MM:List Str:=["_law_cell_here","_law_many","_law_salt"]
theorem HC:bj yE MM (aR HA):=kM
abbrev HD:Stmt:=jg 42
noncomputable abbrev Az:List Str:=["_law_found","_law_due","_law_k"]
noncomputable abbrev HE:List Str:=["_law_found","_law_due"]
theorem HF:bj Az HE (aR HD):=kM
abbrev HG:Stmt:=jg 43
noncomputable abbrev AA:List Str:=["_law_cell_here","_law_many","_law_salt","_law_rest","_law_found","_law_d","_law_at"]
noncomputable abbrev MN:List Str:=["_law_cell_here","_law_many","_law_salt"]
theorem HH:bj AA MN (aR HG):=kM
abbrev HI:Stmt:=jg 44
noncomputable abbrev yF:List Str:=["_law_pool_here","_law_number"]
noncomputable abbrev MO:List Str:=["_law_pool_here","_law_number"]
theorem HJ:bj yF MO (aR HI):=kM
abbrev HK:Stmt:=jg 45
noncomputable abbrev AB:List Str:=["_law_draws_here","_law_pool_here","_law_found","_law_high","_law_d","_law_branches"]
noncomputable abbrev MP:List Str:=["_law_draws_here","_law_pool_here"]
theorem HL:bj AB MP (aR HK):=kM
abbrev HM:Stmt:=jg 46
noncomputable abbrev vJ:List Str:=["_law_names","_law_many","_law_top","_law_draws_here","_law_good","_law_table","_law_at","_law_letter_here","_law_rows","_law_l"]
noncomputable abbrev MQ:List Str:=["_law_names","_law_many","_law_top","_law_draws_here"]
theorem HN:bj vJ MQ (aR HM):=kM
abbrev HP:Stmt:=jg 47
noncomputable abbrev wI:List Str:=["_law_names","_law_marks_here","_law_found","_law_name"]
noncomputable abbrev MR:List Str:=["_law_names","_law_marks_here"]
theorem HQ:bj wI MR (aR HP):=kM
abbrev HR:Stmt:=jg 48
noncomputable abbrev B3:List Str:=["_law_machine_here","_law_tree_here","_law_heap","_law_found","_law_branches","_law_marks_here","_law_left","_law_right"]
noncomputable abbrev MS:List Str:=["_law_machine_here","_law_tree_here"]
theorem HS:bj B3 MS (aR HR):=kM
abbrev HU:Stmt:=jg 49
noncomputable abbrev AC:List Str:=["_law_machine_here","_law_tree_here"]
noncomputable abbrev MT:List Str:=["_law_machine_here","_law_tree_here"]
theorem HW:bj AC MT (aR HU):=kM
abbrev HX:Stmt:=jg 50
noncomputable abbrev B4:List Str:=["_law_tree_here","_law_names","_law_ways","_law_found","_law_k","_law_marks_here"]
noncomputable abbrev MU:List Str:=["_law_tree_here","_law_names","_law_ways"]
theorem HY:bj B4 MU (aR HX):=kM
abbrev HZ:Stmt:=jg 51
noncomputable abbrev wJ:List Str:=["_law_draws_here","_law_pool_here","_law_found","_law_k","_law_d"]
noncomputable abbrev MV:List Str:=["_law_draws_here","_law_pool_here"]
theorem H9:bj wJ MV (aR HZ):=kM
abbrev H_:Stmt:=jg 52
noncomputable abbrev yG:List Str:=["_law_ways","_law_many","_law_found","_law_k"]
noncomputable abbrev MW:List Str:=["_law_ways","_law_many"]
theorem Ia:bj yG MW (aR H_):=kM
abbrev qZ:Stmt:=jg 53
noncomputable abbrev TH:List Str:=["_law_script","_law_shape","_law_many","_law_rooms","_law_pool_here","_law_draws_here","_law_machine_here","_law_names","_law_most","_law_tree_here","_law_ways","_law_cut","_law_rank","_law_later_here","_law_due","_law_none","_law_told"]
noncomputable abbrev Ib:List Str:=["_law_script"]
theorem Ic:bj TH Ib (aR qZ):=kM
structure Bl(mg:Str->Option Value):Prop where
 bool:mg "bool"=Option.none
 enumerate:mg "enumerate"=Option.none
 int:mg "int"=Option.none
 isinstance:mg "isinstance"=Option.none
 len:mg "len"=Option.none
 list:mg "list"=Option.none
 range:mg "range"=Option.none
 reversed:mg "reversed"=Option.none
 set:mg "set"=Option.none
 sorted:mg "sorted"=Option.none
 str:mg "str"=Option.none
 sum:mg "sum"=Option.none
 tuple:mg "tuple"=Option.none
 zip:mg "zip"=Option.none
noncomputable def pQ:W:=.int 4
structure Gc(K:Frag)(mg:Str->Option Value):Prop where
 MOST_FILLED:∃u v,mg "MOST_FILLED"=some u/\cD v u/\∀μ H,bu K μ H pQ v
structure Cls(K:Frag)(mg:Str->Option Value):Prop where
 TooGreat:Te K mg "TooGreat"
structure Ow(K:Frag)(mg:Str->Option Value):Prop where
 Course:Pw K mg "Course" ["begun","counts","links","machine","marks","names","numbers","rooms","times","tree","ups","weights"]
section
variable{w:World}{f:Addr}
local macro_rules | `(tactic| walk_at "w1") => `(tactic| first | exact F1 _ | refine yc ?_ ?_ | exact Sl | exact BG | refine KM ?_ ?_ | refine VS ?_ ?_ | refine yd ?_ | refine sS _ ‹_› ?_ | refine VP (by first | exact SQ | exact SF | exact vt | exact Pp | exact SJ | exact OX | exact SL | exact SM | exact SN | exact OY) ?_ ?_ | refine S8 ‹_› ‹_› (by omega) ?_ | refine Ga ?_ | refine Sy ?_ | exact sG _ ‹_› | refine Tl ‹Ow _ _›.Course ?_ | refine Px ‹Ow _ _›.Course ?_ ?_ | refine Py ‹_› ‹_› (by omega) ?_ ?_ | refine K9 ‹_› ‹_› (by omega) ?_ | refine Pz ‹_› ‹_› (by omega) ?_ | refine GJ ?_ | refine Lf ‹Bl _›.zip ?_ | refine uF L9 ‹Bl _›.len boot_len ?_ | refine uF K3 ‹Bl _›.sorted boot_sorted ?_ | refine uF Tg ‹Bl _›.sum boot_sum ?_ | refine F2 (by first | exact SU ‹_› | exact SX ‹_› | exact SY ‹_› | exact L3 ‹_› | exact w_lt | exact O1 | exact SR) ?_ ?_ | refine So (by first | exact SU ‹_› | exact SX ‹_› | exact SY ‹_› | exact L3 ‹_› | exact w_lt | exact O1 | exact SR) ?_ ?_ | refine L_ ?_ ?_ ?_ | exact F' | refine Pf ?_ ?_ ?_ | refine Gb ?_ ?_ | exact KO | refine Pa rfl ?_ | refine KN ?_ | refine Ti ‹_› ?_ ?_ | refine Sz ?_ | exact VN | exact LX | exact Sm | refine ve S6 ‹Bl _›.int boot_int ?_ | refine ve KL ‹Bl _›.tuple boot_tuple ?_ | refine ve O_ ‹Bl _›.list boot_list ?_ | refine VX PySem.F.slot_list_append PySem.F.type_list_append EE ?_ ?_ | refine S9 PySem.F.slot_list_pop PySem.F.type_list_pop Ph ?_ | refine S_ PySem.F.slot_str_join PySem.F.type_str_join C1 ?_ ?_ | refine ED ‹Bl _›.range ?_ | refine KY ‹Bl _›.range ?_ | refine yi ‹Bl _›.enumerate ?_ | refine GE ‹Bl _›.enumerate ?_ | refine KZ ‹Bl _›.reversed ?_ | refine C5 rfl ?_ (fun _ _ _ _ _ => ?_) (fun _ _ _ _ _ => ?_) (fun _ _ _ _ _ => ?_) | refine tR (sG _ ‹_›) rfl ?_ (fun _ _ _ _ _ => ?_) (fun _ _ _ _ _ => ?_) (fun _ _ _ _ _ => ?_) | refine C5 (m := 0) rfl ?_ (fun _ _ _ _ _ => ?_) (fun _ _ _ _ _ => ?_) (fun _ _ _ _ _ => ?_) | refine tR (sG _ ‹_›) (m := 0) rfl ?_ (fun _ _ _ _ _ => ?_) (fun _ _ _ _ _ => ?_) (fun _ _ _ _ _ => ?_) | exact WS _ | exact KQ | refine KR ?_ | refine Pm ?_ | refine OV ?_ | refine KF ?_ | refine Sw ?_ | refine OT ?_ | refine Sq (F3 ?_ ?_) | refine Sq (LZ ?_ ?_) | refine F3 ?_ ?_ | refine LZ ?_ ?_ | refine KC ?_ | refine OS ?_ | refine OR ?_ | refine Sv ?_ | refine Tb ?_ | refine VQ ?_ ?_ ?_ | refine Su ?_ ?_ | refine Ss ?_ | refine KJ ?_ | exact KI | refine VV ?_ ?_ ?_ | refine Ge (Ps ‹_›) ?_ ?_ ?_ | refine Ge Pe ?_ ?_ ?_ | refine Gf ?_ ?_ | exact Pt | refine K6 ‹_› ?_ ?_ ?_ | exact Sn ‹Gc _ _›.MOST_FILLED | refine C4 ‹Bl _›.isinstance ‹Bl _›.bool boot_bool ?_ | refine C4 ‹Bl _›.isinstance ‹Bl _›.int boot_int ?_ | refine C4 ‹Bl _›.isinstance ‹Bl _›.str boot_str ?_ | refine C4 ‹Bl _›.isinstance ‹Bl _›.tuple boot_tuple ?_)
local macro_rules | `(tactic| walk_at "w") => `(tactic| repeat' walk_at "w1")
def TJ:FS:=(dk (dq [none,none] (jL (ak (af 0) aB)) (yf 2 (cR (eM 0) (cR (eM 1) jz))) (gn (e2 Ey (af 1) (eI 0))) (af 0)))
def B8:List W->List am->R W:=de 1 TJ
theorem TK(F:i9 K "come_to" "come_to" PQ f fd)(B:Bl mg) :cX P w K mg base (iJ P w) 1 f fd Tt (jb K mg 1 B8):=
 bV (k:=0) F Ml rfl fun fO A outer s H E hr=>by have sc:=Ml;walk_at "w"
def V3:FS:=(dk (bE ip (ak (dq [none] (cM (ak (bE dM (ak (e2 b9 (af 0) (eI 1)) aB)) aB)) (eM 0) iZ (Bc (gn (e2 qF (af 0) (eI 0))) (eI 1) (eI 0))) aB)))
def Lg:List W->List am->R W:=de 1 V3
theorem TL(F:i9 K "empty_counts" "empty_counts" PR f fd)(B:Bl mg) :cX P w K mg base (iJ P w) 1 f fd Tu (jb K mg 1 Lg):=
 bV (k:=0) F Mm rfl fun fO A outer s H E hr=>by have sc:=Mm;walk_at "w"
def V4:FS:=(dk (bE ym (ak (dq [none,none] (mZ (ak (af 1) (ak (e2 b9 (af 0) (eI 1)) aB))) (yf 2 (cR (eM 0) (cR (eM 1) jz))) (gn (af 1)) (af 0)) aB)))
def Ie:List W->List am->R W:=de 2 V4
theorem TM(F:i9 K "let_many" "let_many" PU f fd)(B:Bl mg) :cX P w K mg base (iJ P w) 1 f fd Tv (jb K mg 2 Ie):=
 bV (k:=0) F Mn rfl fun fO A outer s H E hr=>by have sc:=Mn;walk_at "w"
def V5:FS:=(dk (Gm mw (eC (.str [])) (ak (qJ (af 0)) aB)))
def Lh:List W->List am->R W:=de 1 V5
theorem TN(F:i9 K "in_order" "in_order" PV f fd)(B:Bl mg) :cX P w K mg base (iJ P w) 1 f fd Tw (jb K mg 1 Lh):=
 bV (k:=0) F Tx rfl fun fO A outer s H E hr=>(yd (Ga (S_ PySem.F.slot_str_join PySem.F.type_str_join C1 LX (yc (EF B.sorted B.set (F1 0)) BG))))
def TQ:FS:=(aW (b8 1 (eI 1)) (aW (iI (cM (ak (af 0) aB)) (eM 2) (b8 1 (e2 fR (af 1) (eI 2)))) (dk (af 1))))
def Ig:List W->List am->R W:=de 3 TQ
theorem TR(F:i9 K "two_to" "two_to" PX f fd)(B:Bl mg) :cX P w K mg base (iJ P w) 1 f fd Tz (jb K mg 1 Ig):=
 bV (k:=0) F Mo rfl fun fO A outer s H E hr=>by have sc:=Mo;walk_at "w"
def TU:FS:=(aW (b8 2 (eI 0)) (aW (iI (dC (af 0)) (eM 3) (aW (b8 2 (e2 fR (af 2) (eI 2))) (mh (gn (e2 (wm false) (af 3) (af 1))) (b8 2 (e2 eE (af 2) (eI 1))) eZ))) (dk (af 2))))
def yH:List W->List am->R W:=de 4 TU
theorem TV(F:i9 K "letter_of" "letter_of" PY f fd)  :cX P w K mg base (iJ P w) 1 f fd TB (jb K mg 2 yH):=
 bV (k:=0) F Mp rfl fun fO A outer s H E hr=>by have sc:=Mp;walk_at "w"
def TW:FS:=(aW (b8 2 (eC (.str []))) (aW (b8 3 (af 1)) (aW (iI (BK (ak (af 0) aB)) (eM 4) (aW (mh (gn (e2 qF (e2 vd (af 3) (eI 1)) (eI 1))) (b8 2 (e2 eE (af 4) (af 2))) eZ) (b8 3 (e2 wE (af 3) (eI 1))))) (dk (af 2)))))
def AD:List W->List am->R W:=de 5 TW
theorem TX(F:i9 K "marks_of" "marks_of" PZ f fd)(B:Bl mg) :cX P w K mg base (iJ P w) 1 f fd TC (jb K mg 2 AD):=
 bV (k:=0) F Mq rfl fun fO A outer s H E hr=>by have sc:=Mq;walk_at "w"
def V6:FS:=(dk (e2 (wm false) (e2 b9 (af 0) (eI 0)) (sC (ak (eI 1) (ak (eI 3) aB)))))
def Ih:List W->List am->R W:=de 1 V6
theorem TY(F:i9 K "has_left" "has_left" P0 f fd)  :cX P w K mg base (iJ P w) 1 f fd TD (jb K mg 1 Ih):=
 bV (k:=0) F Mr rfl fun fO A outer s H E hr=>by have sc:=Mr;walk_at "w"
def V7:FS:=(dk (e2 (wm false) (e2 b9 (af 0) (eI 0)) (sC (ak (eI 2) (ak (eI 3) aB)))))
def Ii:List W->List am->R W:=de 1 V7
theorem TZ(F:i9 K "has_right" "has_right" P1 f fd)  :cX P w K mg base (iJ P w) 1 f fd TF (jb K mg 1 Ii):=
 bV (k:=0) F Ms rfl fun fO A outer s H E hr=>by have sc:=Ms;walk_at "w"
def MX:FS:=(aW (b8 1 (j5 aB)) (aW (b8 2 (j5 aB)) (aW (iI (qa (ak (af 0) aB)) (yf 2 (cR (eM 3) (cR (eM 4) jz))) (aW (b8 5 (Bc (gn (cb 1 Ii (ak (af 4) aB))) (pK vj (af 2) aB) (eC .non))) (aW (b8 6 (Bc (gn (cb 1 Ih (ak (af 4) aB))) (pK vj (af 2) aB) (eC .non))) (aW (fB (pK cf (af 2) (ak (af 3) aB))) (fB (pK cf (af 1) (ak (sC (ak (af 6) (ak (af 5) aB))) aB))))))) (dk (bE ip (ak (af 1) aB))))))
def tW:List W->List am->R W:=de 7 MX
theorem P3(F:i9 K "links_of" "links_of" GW f fd)(B:Bl mg)(Ut:dy P w K mg base 1 "has_left" 1 Ih)(UH:dy P w K mg base 1 "has_right" 1 Ii):cX P w K mg base (iJ P w) 2 f fd Mt (jb K mg 1 tW):=
 bV (k:=1) F GX rfl fun fO A outer s H E hr=>by have sc:=GX;walk_at "w"
def Ij:FS:=(aW (wF (dq [none] (dC (af 0)) (eM 0) iZ (eC .non)) (eM 1)) (aW (wF (dq [none] (dC (af 0)) (eM 0) iZ (eC .non)) (eM 2)) (aW (iI (qa (ak (cb 1 tW (ak (af 0) aB)) aB)) (yf 2 (cR (eM 3) (cR (eM 4) jz))) (aW (mh (gn (oB (e2 b9 (af 4) (eI 0)))) (qH (af 1) (e2 b9 (af 4) (eI 0)) (af 3) mv) eZ) (mh (gn (oB (e2 b9 (af 4) (eI 1)))) (qH (af 2) (e2 b9 (af 4) (eI 1)) (af 3) mv) eZ))) (dk (sC (ak (af 1) (ak (af 2) aB)))))))
def C_:List W->List am->R W:=de 5 Ij
theorem P4(F:i9 K "ups_of" "ups_of" GY f fd)(B:Bl mg)(xN:dy P w K mg base 2 "links_of" 1 tW):cX P w K mg base (iJ P w) 3 f fd Mu (jb K mg 1 C_):=
 bV (k:=2) F G0 rfl fun fO A outer s H E hr=>by have sc:=G0;walk_at "w"
def T0:FS:=(dk (Bc (gn (oB (e2 b9 (e2 b9 (af 0) (eI 0)) (af 1)))) (e2 b9 (e2 b9 (af 0) (eI 0)) (af 1)) (e2 b9 (e2 b9 (af 0) (eI 1)) (af 1))))
def Da:List W->List am->R W:=de 2 T0
theorem P5(F:i9 K "up_from" "up_from" G1 f fd)  :cX P w K mg base (iJ P w) 1 f fd Mv (jb K mg 2 Da):=
 bV (k:=0) F G3 rfl fun fO A outer s H E hr=>by have sc:=G3;walk_at "w"
def T3:FS:=(aW (b8 1 (j5 aB)) (aW (iI (dC (cb 1 tW (ak (af 0) aB))) (yf 2 (cR (eM 2) (cR (eM 3) jz))) (aW (b8 4 (eI 1)) (aW (mh (gn (oB (af 2))) (b8 4 (e2 eE (af 4) (e2 b9 (af 1) (af 2)))) eZ) (aW (mh (gn (oB (af 3))) (b8 4 (e2 eE (af 4) (e2 b9 (af 1) (af 3)))) eZ) (fB (pK cf (af 1) (ak (af 4) aB))))))) (dk (bE ip (ak (af 1) aB)))))
def Db:List W->List am->R W:=de 5 T3
theorem P6(F:i9 K "sizes_of" "sizes_of" G4 f fd)(B:Bl mg)(xN:dy P w K mg base 2 "links_of" 1 tW):cX P w K mg base (iJ P w) 3 f fd Mw (jb K mg 1 Db):=
 bV (k:=2) F G5 rfl fun fO A outer s H E hr=>by have sc:=G5;walk_at "w"
def T4:FS:=(dk (Bc (gn (vc (af 1))) (eI 0) (e2 b9 (af 0) (af 1))))
def vK:List W->List am->R W:=de 2 T4
theorem P8(F:i9 K "room_below" "room_below" G6 f fd)  :cX P w K mg base (iJ P w) 1 f fd Mx (jb K mg 2 vK):=
 bV (k:=0) F G7 rfl fun fO A outer s H E hr=>by have sc:=G7;walk_at "w"
def MY:FS:=(dk (dq [none] (dC (e2 b9 (af 0) (eI 1))) (eM 0) iZ (Bc (gn (af 0)) (eI 1) (eI 0))))
def Dc:List W->List am->R W:=de 1 MY
theorem P9(F:i9 K "good_weights" "good_weights" G8 f fd)  :cX P w K mg base (iJ P w) 1 f fd My (jb K mg 1 Dc):=
 bV (k:=0) F G9 rfl fun fO A outer s H E hr=>by have sc:=G9;walk_at "w"
def T5:FS:=(mh (gn (e2 Ey (bE dM (ak (af 0) aB)) (eC pQ))) (Gq "TooGreat") eZ)
def Dd:List W->List am->R W:=de 1 T5
theorem P_(F:i9 K "check_filled" "check_filled" G_ f fd)(B:Bl mg)(G:Gc K mg)(C:Cls K mg) :cX P w K mg base (iJ P w) 1 f fd Mz (jb K mg 1 Dd):=
 bV (k:=0) F P2 rfl fun fO A outer s H E hr=>(yd (L_ (F2 O1 (uF L9 B.len boot_len (yc (F1 0) BG)) (Sn G.MOST_FILLED)) (yd (Gu C.TooGreat)) F'))
def MZ:FS:=(dk (Gm mw (eC (.str [])) (ak (dq [none,some 1] (dC (af 0)) (eM 0) (gn (e2 (wm true) (af 0) (af 1))) (af 0)) aB)))
def xw:List W->List am->R W:=de 2 MZ
theorem P'(F:i9 K "without" "without" G' f fd)  :cX P w K mg base (iJ P w) 1 f fd MA (jb K mg 2 xw):=
 bV (k:=0) F Ha rfl fun fO A outer s H E hr=>by have sc:=Ha;walk_at "w"
def M0:FS:=(aW (b8 3 (cb 2 yH (ak (e2 b9 (af 0) (eI 0)) (ak (cb 2 xw (ak (af 2) (ak (af 1) aB))) aB)))) (dk (dq [none,some 3,some 0,some 1] (cM (ak (cb 1 Ig (ak (bE dM (ak (af 1) aB)) aB)) aB)) (eM 0) iZ (e2 eE (af 1) (cb 2 yH (ak (e2 b9 (af 2) (eI 0)) (ak (cb 2 AD (ak (af 3) (ak (af 0) aB))) aB)))))))
def AE:List W->List am->R W:=de 4 M0
theorem Qa(F:i9 K "numbers_at" "numbers_at" Hb f fd)(B:Bl mg)(LM:dy P w K mg base 1 "letter_of" 2 yH)(LH:dy P w K mg base 1 "marks_of" 2 AD)(Uy:dy P w K mg base 1 "two_to" 1 Ig)(DU:dy P w K mg base 1 "without" 2 xw):cX P w K mg base (iJ P w) 2 f fd MB (jb K mg 3 AE):=
 bV (k:=1) F Hc rfl fun fO A outer s H E hr=>by have sc:=Hc;walk_at "w"
def M1:FS:=(aW (b8 1 Gz) (aW (iI (dC (af 0)) (eM 2) (qH (af 1) (af 2) (e2 eE (yp (af 1) (af 2) (eI 0)) (eI 1)) qQ)) (dk (af 1))))
def AF:List W->List am->R W:=de 3 M1
theorem Qb(F:i9 K "times_of" "times_of" Hd f fd)  :cX P w K mg base (iJ P w) 1 f fd MC (jb K mg 1 AF):=
 bV (k:=0) F He rfl fun fO A outer s H E hr=>by have sc:=He;walk_at "w"
def Ik:FS:=(aW (wF (dq [none] (dC (e2 b9 (af 0) (eI 1))) (eM 0) iZ (eI 0)) (eM 4)) (aW (iI (dC (cb 1 B8 (ak (af 2) aB))) (eM 5) (iI (dC (cb 1 B8 (ak (af 3) aB))) (eM 6) (aW (b8 7 (e2 fR (e2 b9 (af 2) (af 5)) (e2 b9 (af 3) (af 6)))) (iI (qT (af 1)) (yf 2 (cR (eM 8) (cR (eM 9) jz))) (aW (b8 10 (e2 b9 (e2 b9 (e2 b9 (e2 b9 (af 0) (eI 2)) (af 8)) (af 5)) (af 6))) (qH (af 4) (af 10) (e2 eE (e2 b9 (af 4) (af 10)) (e2 fR (af 7) (af 9))) mv)))))) (dk (af 4))))
def De:List W->List am->R W:=de 11 Ik
theorem Qc(F:i9 K "counts_at" "counts_at" Hf f fd) (LF:dy P w K mg base 1 "come_to" 1 B8):cX P w K mg base (iJ P w) 2 f fd MD (jb K mg 4 De):=
 bV (k:=1) F Hg rfl fun fO A outer s H E hr=>by have sc:=Hg;walk_at "w"
def T6:FS:=(dk (bE ym (ak (dq [none,none,some 2,some 4,some 3,some 0] (qT (af 1)) (yf 2 (cR (eM 0) (cR (eM 1) jz))) iZ (e2 fR (e2 b9 (af 2) (e2 b9 (e2 b9 (e2 b9 (e2 b9 (af 5) (eI 2)) (af 0)) (af 4)) (af 3))) (af 1))) aB)))
def tX:List W->List am->R W:=de 5 T6
theorem Qd(F:i9 K "pair_weight" "pair_weight" Hh f fd)(B:Bl mg) :cX P w K mg base (iJ P w) 1 f fd ME (jb K mg 5 tX):=
 bV (k:=0) F Hi rfl fun fO A outer s H E hr=>by have sc:=Hi;walk_at "w"
def M3:FS:=(dk (dq [none,some 0,some 1,some 2,some 3] (cM (ak (bE dM (ak (af 2) aB)) aB)) (eM 0) iZ (cb 5 tX (ak (af 1) (ak (af 2) (ak (af 3) (ak (af 4) (ak (af 0) aB))))))))
def Df:List W->List am->R W:=de 4 M3
theorem Qe(F:i9 K "right_weights" "right_weights" Hj f fd)(B:Bl mg)(DR:dy P w K mg base 1 "pair_weight" 5 tX):cX P w K mg base (iJ P w) 2 f fd MF (jb K mg 4 Df):=
 bV (k:=1) F Hk rfl fun fO A outer s H E hr=>by have sc:=Hk;walk_at "w"
def M4:FS:=(aW (b8 4 (cb 1 B8 (ak (af 3) aB))) (aW (b8 5 (j5 aB)) (aW (iI (cM (ak (bE dM (ak (af 2) aB)) aB)) (eM 6) (fB (pK cf (af 5) (ak (bE ym (ak (dq [none,some 0,some 1,some 2,some 6,some 3] (dC (af 4)) (eM 0) iZ (e2 fR (cb 5 tX (ak (af 1) (ak (af 2) (ak (af 3) (ak (af 4) (ak (af 0) aB)))))) (e2 b9 (af 5) (af 0)))) aB)) aB)))) (dk (af 5)))))
def Dg:List W->List am->R W:=de 7 M4
theorem Qf(F:i9 K "left_weights" "left_weights" Hl f fd)(B:Bl mg)(LF:dy P w K mg base 1 "come_to" 1 B8)(DR:dy P w K mg base 1 "pair_weight" 5 tX):cX P w K mg base (iJ P w) 2 f fd MG (jb K mg 4 Dg):=
 bV (k:=1) F Hm rfl fun fO A outer s H E hr=>by have sc:=Hm;walk_at "w"
def M5:FS:=(aW (wF (dq [none] (dC (af 0)) (eM 0) iZ (j5 aB)) (eM 1)) (aW (b8 2 (cb 1 Db (ak (af 0) aB))) (aW (iI (yl (ak (e2 kS (bE dM (ak (af 0) aB)) (eI 1)) (ak (z_ (eI 1)) (ak (z_ (eI 1)) aB)))) (eM 3) (fB (pK cf (e2 b9 (af 1) (e2 kS (e2 eE (af 3) (eI 1)) (e2 b9 (af 2) (af 3)))) (ak (af 3) aB)))) (dk (af 1)))))
def Dh:List W->List am->R W:=de 4 M5
theorem Qg(F:i9 K "parts_begun" "parts_begun" Ho f fd)(B:Bl mg)(Np:dy P w K mg base 3 "sizes_of" 1 Db):cX P w K mg base (iJ P w) 4 f fd MH (jb K mg 1 Dh):=
 bV (k:=3) F Hq rfl fun fO A outer s H E hr=>by have sc:=Hq;walk_at "w"
def oh:FS:=(dk (Bc (gn (vc (af 1))) (cb 1 Lg (ak (eF "Course" "machine" (af 0)) aB)) (e2 b9 (eF "Course" "counts" (af 0)) (af 1))))
def bO:List W->List am->R W:=de 2 oh
theorem m9(F:i9 K "counts_below" "Course.counts_below" gE f fd)(O:Ow K mg)(Um:dy P w K mg base 1 "empty_counts" 1 Lg):cX P w K mg base (iJ P w) 2 f fd jA (jb K mg 2 bO):=
 bV (k:=1) F ji rfl fun fO A outer s H E hr=>by have sc:=ji;walk_at "w"
def gK:FS:=(aW (fB (cb 1 Dd (ak (af 3) aB))) (aW (pz "Course" "machine" (af 0) (af 1)) (aW (pz "Course" "tree" (af 0) (af 2)) (aW (pz "Course" "names" (af 0) (af 3)) (aW (pz "Course" "links" (af 0) (cb 1 tW (ak (af 2) aB))) (aW (pz "Course" "ups" (af 0) (cb 1 C_ (ak (af 2) aB))) (aW (pz "Course" "begun" (af 0) (cb 1 Dh (ak (af 2) aB))) (aW (pz "Course" "numbers" (af 0) (dq [none,some 1,some 3] (dC (af 2)) (eM 0) iZ (cb 3 AE (ak (af 1) (ak (af 2) (ak (e2 b9 (af 0) (eI 1)) aB)))))) (aW (pz "Course" "times" (af 0) (dq [none] (dC (eF "Course" "numbers" (af 0))) (eM 0) iZ (cb 1 AF (ak (af 0) aB)))) (aW (pz "Course" "counts" (af 0) (j5 aB)) (aW (iI (mZ (ak (eF "Course" "times" (af 0)) (ak (eF "Course" "links" (af 0)) aB))) (yf 2 (cR (eM 4) (cR (eM 5) jz))) (fB (pK cf (eF "Course" "counts" (af 0)) (ak (cb 4 De (ak (af 1) (ak (af 4) (ak (kY "Course" "counts_below" 2 bO (af 0) (ak (e2 b9 (af 5) (eI 0)) aB)) (ak (kY "Course" "counts_below" 2 bO (af 0) (ak (e2 b9 (af 5) (eI 1)) aB)) aB))))) aB)))) (aW (pz "Course" "weights" (af 0) Gz) (aW (pz "Course" "rooms" (af 0) (j5 aB)) (pz "Course" "marks" (af 0) (j5 aB)))))))))))))))
def dD:List W->List am->R W:=de 6 gK
theorem qe(F:i9 K "__init__" "Course.__init__" jh f fd)(B:Bl mg)(O:Ow K mg)(df:l9 P w K mg base 2 "Course" "counts_below" 2 bO)(Nr:dy P w K mg base 1 "check_filled" 1 Dd)(Nm:dy P w K mg base 2 "counts_at" 4 De)(xN:dy P w K mg base 2 "links_of" 1 tW)(NK:dy P w K mg base 2 "numbers_at" 3 AE)(Nt:dy P w K mg base 4 "parts_begun" 1 Dh)(NH:dy P w K mg base 1 "times_of" 1 AF)(NN:dy P w K mg base 3 "ups_of" 1 C_):cX P w K mg base (iJ P w) 5 f fd lV (jb K mg 4 dD):=
 bV (k:=4) F lg rfl fun fO A outer s H E hr=>by have sc:=lg;walk_at "w"
def sP:FS:=(dk (cb 2 Ie (ak (eF "Course" "machine" (af 0)) (ak (kY "Course" "counts_below" 2 bO (af 0) (ak (Bc (gn (e2 Ey (bE dM (ak (eF "Course" "tree" (af 0)) aB)) (eI 0))) (e2 kS (bE dM (ak (eF "Course" "tree" (af 0)) aB)) (eI 1)) (eC .non)) aB)) aB))))
def fZ:List W->List am->R W:=de 1 sP
theorem q9(F:i9 K "let_all" "Course.let_all" jF f fd)(B:Bl mg)(O:Ow K mg)(df:l9 P w K mg base 2 "Course" "counts_below" 2 bO)(UB:dy P w K mg base 1 "let_many" 2 Ie):cX P w K mg base (iJ P w) 3 f fd my (jb K mg 1 fZ):=
 bV (k:=2) F lW rfl fun fO A outer s H E hr=>by have sc:=lW;walk_at "w"
def iu:FS:=(aW (b8 2 (cb 2 Da (ak (eF "Course" "ups" (af 0)) (ak (af 1) aB)))) (mh (gn (vc (af 2))) (qH (eF "Course" "weights" (af 0)) (af 1) (cb 1 Dc (ak (eF "Course" "machine" (af 0)) aB)) qQ) (mh (gn (e2 qF (e2 b9 (e2 b9 (eF "Course" "links" (af 0)) (af 2)) (eI 0)) (af 1))) (aW (b8 3 (kY "Course" "counts_below" 2 bO (af 0) (ak (e2 b9 (e2 b9 (eF "Course" "links" (af 0)) (af 2)) (eI 1)) aB))) (qH (eF "Course" "weights" (af 0)) (af 1) (cb 4 Dg (ak (eF "Course" "machine" (af 0)) (ak (e2 b9 (eF "Course" "times" (af 0)) (af 2)) (ak (e2 yo (eF "Course" "weights" (af 0)) (af 2)) (ak (af 3) aB))))) qQ)) (aW (b8 4 (cb 2 vK (ak (eF "Course" "rooms" (af 0)) (ak (e2 b9 (e2 b9 (eF "Course" "links" (af 0)) (af 2)) (eI 0)) aB)))) (qH (eF "Course" "weights" (af 0)) (af 1) (cb 4 Df (ak (eF "Course" "machine" (af 0)) (ak (e2 b9 (eF "Course" "times" (af 0)) (af 2)) (ak (e2 yo (eF "Course" "weights" (af 0)) (af 2)) (ak (af 4) aB))))) qQ)))))
def dH:List W->List am->R W:=de 5 iu
theorem oO(F:i9 K "begin_part" "Course.begin_part" iq f fd)(O:Ow K mg)(df:l9 P w K mg base 2 "Course" "counts_below" 2 bO)(Nw:dy P w K mg base 1 "good_weights" 1 Dc)(Nu:dy P w K mg base 2 "left_weights" 4 Dg)(NO:dy P w K mg base 2 "right_weights" 4 Df)(DS:dy P w K mg base 1 "room_below" 2 vK)(Nz:dy P w K mg base 1 "up_from" 2 Da):cX P w K mg base (iJ P w) 3 f fd kj (jb K mg 2 dH):=
 bV (k:=2) F jS rfl fun fO A outer s H E hr=>by have sc:=jS;walk_at "w"
def sQ:FS:=(aW (b8 3 (e2 b9 (e2 b9 (eF "Course" "machine" (af 0)) (eI 2)) (e2 b9 (e2 b9 (eF "Course" "numbers" (af 0)) (af 1)) (af 2)))) (aW (b8 4 (e2 b9 (eF "Course" "links" (af 0)) (af 1))) (dk (e2 b9 (e2 b9 (af 3) (cb 2 vK (ak (eF "Course" "rooms" (af 0)) (ak (e2 b9 (af 4) (eI 0)) aB)))) (cb 2 vK (ak (eF "Course" "rooms" (af 0)) (ak (e2 b9 (af 4) (eI 1)) aB)))))))
def dv:List W->List am->R W:=de 5 sQ
theorem q_(F:i9 K "room_by" "Course.room_by" jG f fd)(O:Ow K mg)(DS:dy P w K mg base 1 "room_below" 2 vK):cX P w K mg base (iJ P w) 2 f fd mz (jb K mg 3 dv):=
 bV (k:=1) F lX rfl fun fO A outer s H E hr=>by have sc:=lX;walk_at "w"
def j9:FS:=(aW (b8 1 (bE dM (ak (eF "Course" "rooms" (af 0)) aB))) (aW (iI (dC (e2 b9 (eF "Course" "begun" (af 0)) (af 1))) (eM 2) (fB (kY "Course" "begin_part" 2 dH (af 0) (ak (af 2) aB)))) (dk (dq [none,some 1,some 0] (cM (ak (bE dM (ak (e2 b9 (eF "Course" "numbers" (af 0)) (af 1)) aB)) aB)) (eM 0) iZ (e2 b9 (e2 yo (eF "Course" "weights" (af 2)) (af 1)) (kY "Course" "room_by" 3 dv (af 2) (ak (af 1) (ak (af 0) aB))))))))
def gp:List W->List am->R W:=de 3 j9
theorem sR(F:i9 K "offers" "Course.offers" j7 f fd)(B:Bl mg)(O:Ow K mg)(ko:l9 P w K mg base 3 "Course" "begin_part" 2 dH)(hX:l9 P w K mg base 2 "Course" "room_by" 3 dv):cX P w K mg base (iJ P w) 4 f fd nM (jb K mg 1 gp):=
 bV (k:=3) F mB rfl fun fO A outer s H E hr=>by have sc:=mB;walk_at "w"
def j_:FS:=(aW (b8 2 (bE dM (ak (eF "Course" "rooms" (af 0)) aB))) (aW (fB (pK cf (eF "Course" "rooms" (af 0)) (ak (kY "Course" "room_by" 3 dv (af 0) (ak (af 2) (ak (af 1) aB))) aB))) (fB (pK cf (eF "Course" "marks" (af 0)) (ak (cb 1 Lh (ak (e2 eE (cb 2 xw (ak (e2 b9 (e2 b9 (eF "Course" "tree" (af 0)) (af 2)) (eI 1)) (ak (eF "Course" "names" (af 0)) aB))) (cb 2 AD (ak (eF "Course" "names" (af 0)) (ak (af 1) aB)))) aB)) aB)))))
def fE:List W->List am->R W:=de 3 j_
theorem sU(F:i9 K "choose" "Course.choose" j8 f fd)(B:Bl mg)(O:Ow K mg)(hX:l9 P w K mg base 2 "Course" "room_by" 3 dv)(Uo:dy P w K mg base 1 "in_order" 1 Lh)(LH:dy P w K mg base 1 "marks_of" 2 AD)(DU:dy P w K mg base 1 "without" 2 xw):cX P w K mg base (iJ P w) 3 f fd nN (jb K mg 2 fE):=
 bV (k:=2) F mC rfl fun fO A outer s H E hr=>by have sc:=mC;walk_at "w"
def T7:FS:=(dk (kY "Course" "let_all" 1 fZ (Aj "Course" 4 dD (ak (af 0) (ak (af 1) (ak (af 2) aB)))) aB))
def tY:List W->List am->R W:=de 3 T7
theorem Qh(F:i9 K "fillings" "fillings" Hr f fd) (gP:GG P w K mg base 5 "Course" 4 dD)(mD:l9 P w K mg base 3 "Course" "let_all" 1 fZ):cX P w K mg base (iJ P w) 7 f fd MI (jb K mg 3 tY):=
 bV (k:=6) F Hs rfl fun fO A outer s H E hr=>by have sc:=Hs;walk_at "w"
def T8:FS:=(aW (b8 3 (Aj "Course" 4 dD (ak (af 0) (ak (af 1) (ak (af 2) aB))))) (aW (b8 4 (eI 0)) (aW (iI (dC (af 1)) (eM 5) (aW (b8 6 (cb 2 yH (ak (af 2) (ak (e2 b9 (af 5) (eI 1)) aB)))) (aW (b8 4 (e2 eE (af 4) (bE ym (ak (EA (kY "Course" "offers" 1 gp (af 3) aB) nH (mq (af 6))) aB)))) (fB (kY "Course" "choose" 2 fE (af 3) (ak (af 6) aB)))))) (dk (af 4)))))
def vL:List W->List am->R W:=de 7 T8
theorem Qi(F:i9 K "filling_rank" "filling_rank" Ht f fd)(B:Bl mg)(gP:GG P w K mg base 5 "Course" 4 dD)(nP:l9 P w K mg base 3 "Course" "choose" 2 fE)(nR:l9 P w K mg base 4 "Course" "offers" 1 gp)(LM:dy P w K mg base 1 "letter_of" 2 yH):cX P w K mg base (iJ P w) 7 f fd MJ (jb K mg 3 vL):=
 bV (k:=6) F Hu rfl fun fO A outer s H E hr=>by have sc:=Hu;walk_at "w"
def T9:FS:=(aW (mh (gn (e2 qF (bE dM (ak (af 0) aB)) (eI 0))) (dk (eI 0)) eZ) (dk (e2 b9 (af 0) (e2 jw (af 1) (bE dM (ak (af 0) aB))))))
def tZ:List W->List am->R W:=de 2 T9
theorem Qj(F:i9 K "_law_cell" "_law_cell" Hv f fd)(B:Bl mg) :cX P w K mg base (iJ P w) 1 f fd MK (jb K mg 2 tZ):=
 bV (k:=0) F Hw rfl fun fO A outer s H E hr=>by have sc:=Hw;walk_at "w"
def T_:FS:=(aW (b8 3 (e2 jw (e2 fR (e2 eE (e2 eE (e2 eE (af 0) (e2 fR (e2 fR (eI 7) (af 1)) (af 1))) (e2 fR (eI 13) (af 1))) (af 2)) (eI 69621)) (eI 2147483647))) (dk (e2 jw (e2 fR (e2 jw (e2 eE (e2 eE (e2 fR (af 3) (e2 eE (e2 tP (af 3) (eI 1009)) (eI 3))) (e2 fR (eI 31) (af 1))) (af 2)) (eI 2147483629)) (eI 48271)) (eI 1000000007))))
def AG:List W->List am->R W:=de 4 T_
theorem Ql(F:i9 K "_law_mixed" "_law_mixed" Hy f fd)  :cX P w K mg base (iJ P w) 1 f fd ML (jb K mg 3 AG):=
 bV (k:=0) F Hz rfl fun fO A outer s H E hr=>by have sc:=Hz;walk_at "w"
def M6:FS:=(aW (b8 3 (j5 aB)) (aW (b8 4 (eI 0)) (aW (mh (gn (e2 Rg (af 0) (e2 SD (eI 10) (eI 18)))) (b8 4 (af 0)) eZ) (aW (iI (cM (ak (af 1) aB)) (eM 5) (mh (gn (e2 Ey (af 4) (eI 0))) (aW (fB (pK cf (af 3) (ak (e2 jw (af 4) (eI 64)) aB))) (b8 4 (e2 tP (af 4) (eI 64)))) (fB (pK cf (af 3) (ak (cb 3 AG (ak (af 0) (ak (af 5) (ak (af 2) aB)))) aB))))) (dk (af 3))))))
def pR:List W->List am->R W:=de 6 M6
theorem Qm(F:i9 K "_law_draws" "_law_draws" HA f fd)(B:Bl mg)(NG:dy P w K mg base 1 "_law_mixed" 3 AG):cX P w K mg base (iJ P w) 2 f fd MM (jb K mg 3 pR):=
 bV (k:=1) F HC rfl fun fO A outer s H E hr=>by have sc:=HC;walk_at "w"
def M7(UD:List W->List am->R W):FS:=(aW (mh (gn (qc "tuple" (af 1))) (aW (mh (JE (JF (gn (qc "tuple" (af 0)))) (gn (e2 SV (bE dM (ak (af 0) aB)) (bE dM (ak (af 1) aB))))) (dk (eC (.bl false))) eZ) (aW (iI (cM (ak (bE dM (ak (af 1) aB)) aB)) (eM 2) (mh (JF (gn (cb 2 UD (ak (e2 b9 (af 0) (af 2)) (ak (e2 b9 (af 1) (af 2)) aB))))) (dk (eC (.bl false))) eZ)) (dk (eC (.bl true))))) eZ) (aW (mh (gn (vc (af 1))) (dk (vc (af 0))) eZ) (aW (mh (gn (qc "bool" (af 1))) (dk (BF (qc "bool" (af 0)) (e2 qF (af 0) (af 1)))) eZ) (aW (mh (gn (qc "int" (af 1))) (dk (BF (qc "int" (af 0)) (BF (KD (qc "bool" (af 0))) (e2 qF (af 0) (af 1))))) eZ) (dk (BF (qc "str" (af 0)) (e2 qF (af 0) (af 1))))))))
def re:Nat->List W->List am->R W
 |0=>fun _ _=>.bad
 |k+1=>de 3 (M7 (re k))
theorem Di{JA:Addr}{Q2:FuncData}(xK:i9 K "_law_same" "_law_same" HD JA Q2)(Bb:mg "_law_same"=some (.ref JA))(B:Bl mg) :∀k:Nat,dy P w K mg base (0+k) "_law_same" 2 (re k)
 |0=>Gp (ps:=HE) xK Bb rfl (fun _ _ _ _ _ _ us hl=>match us,hl with|[_,_],_=>rfl)
 |k+1=>by
  have Jn:=Di xK Bb B  k
  exact yh (ps:=HE) xK Bb rfl (fun _ _ _ _ _ _ us hl=>match us,hl with|[_,_],_=>rfl) (bV (k:=0+k) xK HF rfl fun fO A outer s H E hr=>by have sc:=HF;walk_at "w")
def M8:FS:=(aW (b8 3 (eC (.str [65,66,67,68,69,70,71,72,73,74,75,76,77,78,79,80,81,82,83,84,85,86,87,88,89,90,97,98,99,100,101,102,103,104,105,106,107,108,109,110,111,112,113,114,115,116,117,118,119,120,121,122]))) (aW (b8 4 (eC (.str []))) (aW (iI (dC (cb 3 pR (ak (af 0) (ak (af 1) (ak (af 2) aB))))) (eM 5) (aW (b8 6 (e2 jw (af 5) (bE dM (ak (af 3) aB)))) (aW (b8 4 (e2 eE (af 4) (e2 b9 (af 3) (af 6)))) (b8 3 (e2 eE (EA (af 3) nH (mq (af 6))) (EA (af 3) (mq (e2 eE (af 6) (eI 1))) nH)))))) (dk (af 4)))))
def AH:List W->List am->R W:=de 7 M8
theorem Qn(F:i9 K "_law_pool" "_law_pool" HG f fd)(B:Bl mg)(DT:dy P w K mg base 2 "_law_draws" 3 pR):cX P w K mg base (iJ P w) 3 f fd MN (jb K mg 3 AH):=
 bV (k:=2) F HH rfl fun fO A outer s H E hr=>by have sc:=HH;walk_at "w"
def M9:FS:=(dk (Gm mw (eC (.str [])) (ak (bE kU (ak (dq [none,some 0,some 1] (cM (ak (bE dM (ak (af 0) aB)) aB)) (eM 0) (gn (e2 qF (e2 vd (e2 wE (af 2) (af 0)) (eI 1)) (eI 1))) (e2 b9 (af 1) (af 0))) aB)) aB)))
def t4:List W->List am->R W:=de 2 M9
theorem Qo(F:i9 K "_law_marks" "_law_marks" HI f fd)(B:Bl mg) :cX P w K mg base (iJ P w) 1 f fd MO (jb K mg 2 t4):=
 bV (k:=0) F HJ rfl fun fO A outer s H E hr=>by have sc:=HJ;walk_at "w"
def M_:FS:=(aW (b8 2 (j5 aB)) (aW (b8 3 (eI 0)) (aW (iI (dC (af 0)) (eM 4) (aW (b8 5 (e2 jw (af 4) (eI 4))) (aW (mh (gn (e2 Ey (e2 tP (e2 eE (af 5) (eI 1)) (eI 2)) (af 3))) (b8 5 (eI 0)) eZ) (aW (fB (pK cf (af 2) (ak (sC (ak (af 5) (ak (cb 2 t4 (ak (af 1) (ak (e2 jw (e2 tP (af 4) (eI 4)) (eI 16)) aB))) aB))) aB))) (b8 3 (e2 kS (e2 eE (af 3) (eI 1)) (e2 tP (e2 eE (af 5) (eI 1)) (eI 2)))))))) (aW (oF (gn (e2 Ey (af 3) (eI 1))) (aW (fB (pK cf (af 2) (ak (sC (ak (eI 3) (ak (e2 b9 (e2 b9 (af 2) (e2 kS (af 3) (eI 1))) (eI 1)) aB))) aB))) (b8 3 (e2 kS (af 3) (eI 1))))) (dk (bE ip (ak (af 2) aB)))))))
def Dj:List W->List am->R W:=de 6 M_
theorem Qp(F:i9 K "_law_tree" "_law_tree" HK f fd)(B:Bl mg)(xM:dy P w K mg base 1 "_law_marks" 2 t4):cX P w K mg base (iJ P w) 2 f fd MP (jb K mg 2 Dj):=
 bV (k:=1) F HL rfl fun fO A outer s H E hr=>by have sc:=HL;walk_at "w"
def M':FS:=(aW (b8 4 (bE ip (ak (dq [none,some 3] (cM (ak (af 1) aB)) (eM 0) iZ (e2 qF (e2 jw (e2 b9 (af 1) (af 0)) (eI 2)) (eI 1))) aB))) (aW (b8 5 (j5 aB)) (aW (b8 6 (af 1)) (aW (iI (cM (ak (e2 sD (eI 1) (bE dM (ak (af 0) aB))) aB)) (eM 7) (aW (b8 8 (j5 aB)) (aW (iI (cM (ak (af 1) aB)) (eM 9) (aW (fB (pK cf (af 8) (ak (bE ip (ak (dq [none,some 2,some 3,some 6] (cM (ak (af 1) aB)) (eM 0) iZ (e2 jw (e2 b9 (af 2) (e2 eE (af 3) (af 0))) (af 1))) aB)) aB))) (b8 6 (e2 eE (af 6) (af 1))))) (fB (pK cf (af 5) (ak (bE ip (ak (af 8) aB)) aB)))))) (dk (sC (ak (af 0) (ak (af 4) (ak (bE ip (ak (af 5) aB)) aB)))))))))
def Dk:List W->List am->R W:=de 10 M'
theorem Qq(F:i9 K "_law_machine" "_law_machine" HM f fd)(B:Bl mg) :cX P w K mg base (iJ P w) 1 f fd MQ (jb K mg 4 Dk):=
 bV (k:=0) F HN rfl fun fO A outer s H E hr=>by have sc:=HN;walk_at "w"
def Na:FS:=(aW (b8 2 (eI 0)) (aW (iI (dC (af 0)) (eM 3) (b8 2 (e2 eE (e2 fR (eI 2) (af 2)) (bE vf (ak (e2 (wm false) (af 3) (af 1)) aB))))) (dk (af 2))))
def rh:List W->List am->R W:=de 4 Na
theorem Qr(F:i9 K "_law_letter" "_law_letter" HP f fd)(B:Bl mg) :cX P w K mg base (iJ P w) 1 f fd MR (jb K mg 2 rh):=
 bV (k:=0) F HQ rfl fun fO A outer s H E hr=>by have sc:=HQ;walk_at "w"
def Nb:FS:=(aW (b8 2 (j5 aB)) (aW (b8 3 (j5 aB)) (aW (iI (dC (af 1)) (yf 2 (cR (eM 4) (cR (eM 5) jz))) (aW (b8 6 (eI 0)) (aW (b8 7 (eI 0)) (aW (mh (gn (e2 Rg (af 4) (eI 2))) (b8 7 (pK vj (af 2) aB)) eZ) (aW (mh (gn (e2 qF (e2 jw (af 4) (eI 2)) (eI 1))) (b8 6 (pK vj (af 2) aB)) eZ) (aW (fB (pK cf (af 2) (ak (e2 b9 (e2 b9 (e2 b9 (e2 b9 (af 0) (eI 2)) (cb 2 rh (ak (e2 b9 (af 0) (eI 0)) (ak (af 5) aB)))) (af 6)) (af 7)) aB))) (fB (pK cf (af 3) (ak (e2 b9 (af 2) (z_ (eI 1))) aB))))))))) (dk (af 3)))))
def Dl:List W->List am->R W:=de 8 Nb
theorem Qs(F:i9 K "_law_run" "_law_run" HR f fd) (DQ:dy P w K mg base 1 "_law_letter" 2 rh):cX P w K mg base (iJ P w) 2 f fd MS (jb K mg 2 Dl):=
 bV (k:=1) F HS rfl fun fO A outer s H E hr=>by have sc:=HS;walk_at "w"
def Il:FS:=(aW (mh (gn (e2 qF (bE dM (ak (af 1) aB)) (eI 0))) (dk (e2 b9 (e2 b9 (af 0) (eI 1)) (eI 0))) eZ) (dk (e2 b9 (e2 b9 (af 0) (eI 1)) (e2 b9 (cb 2 Dl (ak (af 0) (ak (af 1) aB))) (z_ (eI 1))))))
def xy:List W->List am->R W:=de 2 Il
theorem Qt(F:i9 K "_law_lets" "_law_lets" HU f fd)(B:Bl mg)(NA:dy P w K mg base 2 "_law_run" 2 Dl):cX P w K mg base (iJ P w) 3 f fd MT (jb K mg 2 xy):=
 bV (k:=2) F HW rfl fun fO A outer s H E hr=>by have sc:=HW;walk_at "w"
def T':FS:=(aW (b8 3 (j5 aB)) (aW (iI (cM (ak (bE dM (ak (af 0) aB)) aB)) (eM 4) (aW (wF (dq [none,some 1] (dC (e2 b9 (e2 b9 (af 0) (af 4)) (eI 1))) (eM 0) (gn (e2 (wm true) (af 0) (af 1))) (af 0)) (eM 5)) (aW (b8 5 (e2 eE (af 5) (dq [none,some 1,some 2,some 4] (cM (ak (bE dM (ak (af 1) aB)) aB)) (eM 0) (gn (e2 qF (e2 vd (e2 wE (e2 b9 (af 2) (af 3)) (e2 kS (e2 kS (bE dM (ak (af 1) aB)) (eI 1)) (af 0))) (eI 1)) (eI 1))) (e2 b9 (af 1) (af 0))))) (fB (pK cf (af 3) (ak (sC (ak (e2 b9 (e2 b9 (af 0) (af 4)) (eI 0)) (ak (Gm mw (eC (.str [])) (ak (bE kU (ak (af 5) aB)) aB)) aB))) aB)))))) (dk (bE ip (ak (af 3) aB)))))
def xz:List W->List am->R W:=de 6 T'
theorem Qu(F:i9 K "_law_put" "_law_put" HX f fd)(B:Bl mg) :cX P w K mg base (iJ P w) 1 f fd MU (jb K mg 3 xz):=
 bV (k:=0) F HY rfl fun fO A outer s H E hr=>by have sc:=HY;walk_at "w"
def Nc:FS:=(aW (b8 2 (j5 aB)) (aW (iI (jL (ak (af 0) aB)) (yf 2 (cR (eM 3) (cR (eM 4) jz))) (fB (pK cf (af 2) (ak (sC (ak (e2 fR (bE vf (ak (e2 Ey (af 3) (eI 0)) aB)) (e2 eE (eI 1) (e2 jw (af 4) (eI 2)))) (ak (cb 2 t4 (ak (af 1) (ak (e2 jw (e2 tP (af 4) (eI 2)) (eI 16)) aB))) aB))) aB)))) (dk (bE ip (ak (af 2) aB)))))
def Dm:List W->List am->R W:=de 5 Nc
theorem Qw(F:i9 K "_law_row_of" "_law_row_of" HZ f fd)(B:Bl mg)(xM:dy P w K mg base 1 "_law_marks" 2 t4):cX P w K mg base (iJ P w) 2 f fd MV (jb K mg 2 Dm):=
 bV (k:=1) F H9 rfl fun fO A outer s H E hr=>by have sc:=H9;walk_at "w"
def Dn:FS:=(aW (b8 2 (bE xj (ak (af 0) aB))) (aW (b8 3 (e2 kS (bE dM (ak (af 2) aB)) (eI 1))) (aW (oF (LY (gn (e2 Rg (af 3) (eI 0))) (gn (e2 qF (e2 b9 (af 2) (af 3)) (e2 kS (af 1) (eI 1))))) (aW (qH (af 2) (af 3) (eI 0) mv) (b8 3 (e2 kS (af 3) (eI 1))))) (aW (mh (gn (e2 OZ (af 3) (eI 0))) (dk (eC .non)) eZ) (aW (qH (af 2) (af 3) (e2 eE (e2 b9 (af 2) (af 3)) (eI 1)) mv) (dk (af 2)))))))
def AI:List W->List am->R W:=de 4 Dn
theorem Qx(F:i9 K "_law_later" "_law_later" H_ f fd)(B:Bl mg) :cX P w K mg base (iJ P w) 1 f fd MW (jb K mg 2 AI):=
 bV (k:=0) F Ia rfl fun fO A outer s H E hr=>by have sc:=Ia;walk_at "w"
def Nd:FS:=(aW (b8 1 (cb 3 pR (ak (cb 2 tZ (ak (af 0) (ak (eI 0) aB))) (ak (eI 8) (ak (eI 50021) aB))))) (aW (b8 2 (e2 jw (e2 b9 (af 1) (eI 0)) (eI 3))) (aW (b8 3 (e2 eE (eI 1) (e2 jw (e2 b9 (af 1) (eI 1)) (e2 kS (eI 5) (af 2))))) (aW (b8 4 (cb 3 AH (ak (cb 2 tZ (ak (af 0) (ak (eI 1) aB))) (ak (eI 6) (ak (eI 100003) aB))))) (aW (b8 5 (cb 3 pR (ak (cb 2 tZ (ak (af 0) (ak (eI 2) aB))) (ak (e2 eE (af 3) (e2 sD (e2 fR (af 3) (af 3)) (af 2))) (ak (eI 200017) aB))))) (aW (b8 6 (cb 4 Dk (ak (Gm mw (eC (.str [])) (ak (bE kU (ak (EA (af 4) nH (mq (af 2))) aB)) aB)) (ak (af 3) (ak (af 3) (ak (af 5) aB)))))) (aW (b8 7 (EA (cb 2 t4 (ak (af 4) (ak (e2 b9 (af 1) (eI 3)) aB))) nH (mq (e2 jw (e2 b9 (af 1) (eI 4)) (eI 5))))) (aW (b8 8 (e2 b9 (j5 (ak (eI 40) (ak (eI 23) (ak (eI 15) (ak (eI 10) (ak (eI 7) aB)))))) (bE dM (ak (af 7) aB)))) (aW (b8 9 (cb 2 Dj (ak (cb 3 pR (ak (cb 2 tZ (ak (af 0) (ak (eI 3) aB))) (ak (e2 jw (e2 b9 (af 1) (eI 2)) (e2 eE (af 8) (eI 1))) (ak (eI 300007) aB)))) (ak (EA (af 4) nH (mq (eI 4))) aB)))) (aW (mh (gn (e2 qF (e2 jw (e2 b9 (af 1) (eI 7)) (eI 8)) (eI 3))) (aW (b8 7 (EA (af 7) nH (mq (e2 eE (eI 1) (e2 jw (e2 b9 (af 1) (eI 4)) (eI 2)))))) (b8 9 (cb 2 Dm (ak (cb 3 pR (ak (cb 2 tZ (ak (af 0) (ak (eI 3) aB))) (ak (e2 eE (eI 80) (e2 jw (e2 b9 (af 1) (eI 2)) (eI 21))) (ak (eI 300007) aB)))) (ak (EA (af 4) nH (mq (eI 4))) aB))))) eZ) (aW (wF (dq [none,none,some 7] (dC (af 9)) (yf 2 (cR (eM 0) (cR (eM 1) jz))) iZ (cb 2 rh (ak (af 2) (ak (af 1) aB)))) (eM 10)) (aW (mh (gn (e2 qF (e2 jw (e2 b9 (af 1) (eI 5)) (eI 4)) (eI 1))) (aW (b8 11 (e2 jw (e2 b9 (af 1) (eI 6)) (e2 eE (bE dM (ak (af 9) aB)) (eI 1)))) (b8 10 (e2 eE (EA (af 10) nH (mq (af 11))) (e2 qM (j5 (ak (e2 kS (e2 sD (eI 1) (bE dM (ak (af 7) aB))) (eI 1)) aB)) (e2 kS (bE dM (ak (af 9) aB)) (af 11)))))) eZ) (aW (b8 9 (cb 3 xz (ak (af 9) (ak (af 7) (ak (af 10) aB))))) (aW (b8 12 (cb 3 vL (ak (af 6) (ak (af 9) (ak (af 7) aB))))) (aW (mh (JE (JF (gn (qc "int" (af 12)))) (gn (qc "bool" (af 12)))) (dk (eC (.bl false))) eZ) (aW (b8 13 (cb 2 AI (ak (af 10) (ak (e2 sD (eI 1) (bE dM (ak (af 7) aB))) aB)))) (aW (b8 14 (e2 eE (af 12) (bE vf (ak (cb 2 xy (ak (af 6) (ak (af 9) aB))) aB)))) (aW (mh (gn (vc (af 13))) (dk (cb 2 (re 40) (ak (cb 3 tY (ak (af 6) (ak (af 9) (ak (af 7) aB)))) (ak (af 14) aB)))) eZ) (aW (mh (JF (gn (cb 2 (re 40) (ak (cb 3 vL (ak (af 6) (ak (cb 3 xz (ak (af 9) (ak (af 7) (ak (af 13) aB)))) (ak (af 7) aB)))) (ak (af 14) aB))))) (dk (eC (.bl false))) eZ) (aW (b8 15 (cb 3 xz (ak (af 9) (ak (af 7) (ak (e2 qM (j5 (ak (eI 0) aB)) (bE dM (ak (af 9) aB))) aB))))) (aW (mh (JF (gn (cb 2 (re 40) (ak (cb 3 vL (ak (af 6) (ak (af 15) (ak (af 7) aB)))) (ak (eI 0) aB))))) (dk (eC (.bl false))) eZ) (aW (b8 16 (cb 3 tY (ak (af 6) (ak (af 15) (ak (af 7) aB))))) (aW (mh (JE (JF (gn (qc "int" (af 16)))) (JE (gn (qc "bool" (af 16))) (gn (e2 OZ (af 16) (af 14))))) (dk (eC (.bl false))) eZ) (dk (cb 2 (re 40) (ak (cb 3 tY (ak (af 6) (ak (af 9) (ak (af 7) aB)))) (ak (af 16) aB)))))))))))))))))))))))))))
def f_q41:List W->List am->R W:=de 17 Nd
theorem Qy(F:i9 K "law" "law" qZ f fd)(B:Bl mg)(NM:dy P w K mg base 1 "_law_cell" 2 tZ)(DT:dy P w K mg base 2 "_law_draws" 3 pR)(NJ:dy P w K mg base 1 "_law_later" 2 AI)(NF:dy P w K mg base 3 "_law_lets" 2 xy)(DQ:dy P w K mg base 1 "_law_letter" 2 rh)(NC:dy P w K mg base 1 "_law_machine" 4 Dk)(xM:dy P w K mg base 1 "_law_marks" 2 t4)(ND:dy P w K mg base 3 "_law_pool" 3 AH)(NE:dy P w K mg base 1 "_law_put" 3 xz)(No:dy P w K mg base 2 "_law_row_of" 2 Dm)(Jn:dy P w K mg base 40 "_law_same" 2 (re 40))(Nn:dy P w K mg base 2 "_law_tree" 2 Dj)(Ny:dy P w K mg base 7 "filling_rank" 3 vL)(Nx:dy P w K mg base 7 "fillings" 3 tY):cX P w K mg base (iJ P w) 41 f fd Ib (jb K mg 1 f_q41):=
 bV (k:=40) F Ic rfl fun fO A outer s H E hr=>by have sc:=Ic;walk_at "w"
end
theorem Qz(ns:List α)(hl:0<ns.length)(k:Int):∃c∈ns,tI ns (k%((ns.length:Nat):Int))=some c:=by
 have h0:0<=k%((ns.length:Nat):Int):=iF _ (by omega)
 have h1:k%((ns.length:Nat):Int)<ns.length:=lH _ (by omega)
 obtain⟨m,hm⟩:=Int.eq_ofNat_of_zero_le h0
 rw[hm]at h1 ⊢
 have h2:m<ns.length:=by omega
 exact⟨ns[m],dU _,dR (by simp[h2])⟩
theorem rj{ns:List Int}(h:st[n]?=some (.ro (ns.map W.int)))(k:Int):∃c,tZ [.loc n,.int k] st=.ok (.int c) st:=by
 by_cases hn:ns=[]
 ·subst hn
  refine⟨0,?_⟩
  apply pj;apply GQ;apply l_
  ·(repeat' (first|with_reducible exact m7 (uH h)|walk_at "ev1"))
  ·(walk_at "evs")
 ·have hl:0<ns.length:=kt.mpr hn
  obtain⟨c,hc,e⟩:=Qz (ns.map W.int) (by simpa using hl) k
  obtain⟨c,_,rfl⟩:=ba.mp hc
  refine⟨c,?_⟩
  apply pj;apply Mh
  ·apply vB
   ·(repeat' (first|with_reducible exact m7 (uH h)|walk_at "ev1"))
    rw[bI,al];omega
   ·(walk_at "evs")
  ·(repeat' (first|with_reducible exact m7 (uH h)|with_reducible exact k_ (uH h) e|walk_at "ev1"))
   rw[al];omega
theorem Im(c k s:Int)(hk:-(2^64)<k/\k<2^64)(st:List am):∃r,0<=r/\AG [.int c,.int k,.int s] st=.ok (.int r) st:=by
 have big:∀q:Int,0<=q%2147483647/\q%2147483647<2147483647:=fun q=>⟨iF _ (by decide),lH _ (by decide)⟩
 refine⟨(((c+7*k*k+13*k+s)*69621%2147483647*((c+7*k*k+13*k+s)*69621%2147483647/1009+3)+31*k+s)%2147483629*48271)%1000000007,iF _ (by decide),?_⟩
 apply pj;apply Mh
 ·(walk_at "evs")<;>first|exact .inl (by decide)|exact .inr (by decide)|exact .inr hk
 ·(walk_at "evs")<;>first|exact .inl (by decide)|exact .inr (by decide)|exact .inl (by have:=big ((c+7*k*k+13*k+s)*69621);omega)
theorem oP(c s:Int)(m:Nat)(hm:m<=1000)(st:List am):∃ds:List Int,ds.length=m/\(∀d∈ds,0<=d)/\pR [.int c,.int m,.int s] st=.ok (.loc st.length) (st++[.lst (ds.map W.int)]):=by
 suffices hh:i8 (vD fun w bz=>∃j x,w=.loc (st.length+j)/\bz=st++x/\j=0/\∃ds:List Int,x=[.lst (ds.map W.int)]/\ds.length=m/\∀d∈ds,0<=d) (M6 ([W.int c,.int m,.int s].map some++List.replicate (6-3) none) st) by
  obtain⟨j,x,⟨rfl,ds,rfl,h1,h2⟩,e⟩:=kC hh
  exact⟨ds,h1,h2,e⟩
 apply aD
 ·(walk_at "evs")
 apply aD
 ·(walk_at "evs")
 have main:∀r0:Int,i8 (vD fun w bz=>∃j x,w=.loc (st.length+j)/\bz=st++x/\j=0/\∃ds:List Int,x=[.lst (ds.map W.int)]/\ds.length=m/\∀d∈ds,0<=d)
   (aW (iI (cM (ak (af 1) aB)) (eM 5) (mh (gn (e2 Ey (af 4) (eI 0))) (aW (fB (pK cf (af 3) (ak (e2 jw (af 4) (eI 64)) aB))) (b8 4 (e2 tP (af 4) (eI 64)))) (fB (pK cf (af 3) (ak (cb 3 AG (ak (af 0) (ak (af 5) (ak (af 2) aB)))) aB))))) (dk (af 3))
   [iO c,iO m,iO s,lO st.length,iO r0,none] (st++[.lst []])):=by
  intro r0
  refine dO (fun i ρ bz=>∃(r:Int) (o:Option W) (ds:List Int),ρ=[iO c,iO m,iO s,lO st.length,iO r,o]/\bz=st++[.lst (ds.map W.int)]/\ds.length=i/\∀d∈ds,0<=d) (jf (by(walk_at "evs");rfl) (by omega))
   ⟨r0,none,[],rfl,rfl,rfl,by simp⟩ (fun _ _ _ _=>trivial) ?_ ?_
  ·rintro i w ρ bz hw ⟨r,o,ds,rfl,rfl,hd,h⟩
   obtain⟨hi,rfl⟩:=kO hw
   refine⟨_,rfl,?_⟩
   have f9:(st++[am.lst (ds.map W.int)])[st.length]?=some (.lst (ds.map W.int)):=by rw[jd];rfl
   have hsh:(ds.map W.int).length<mj:=by rw[al,hd];show i<1000000;omega
   by_cases hr:0<r
   ·apply qX
    ·(walk_at "evs");simpa using hr
    apply aD
    ·(repeat' (first|with_reducible exact fz f9|with_reducible exact xq f9 hsh|walk_at "ev1"))
    rw[fD]
    apply cU
    ·(walk_at "evs")
    ·refine⟨_,_,rfl,r/64,_,ds++[r%64],rfl,by simp,by simp[hd],fun d hd'=>?_⟩
     rcases aY.mp hd' with hd'|hd'
     ·exact h d hd'
     ·rw[bB.mp hd'];exact iF _ (by decide)
   ·obtain⟨q,hq,e⟩:=Im c (0+i) s (by omega) (st++[am.lst (ds.map W.int)])
    apply pP
    ·(walk_at "evs");simpa using hr
    apply cU
    ·(repeat' (first|with_reducible exact fz f9|with_reducible exact xq f9 hsh|with_reducible exact e|walk_at "ev1"))
    ·refine⟨_,_,rfl,r,_,ds++[q],rfl,by rw[fD];simp,by simp[hd],fun d hd'=>?_⟩
     rcases aY.mp hd' with hd'|hd'
     ·exact h d hd'
     ·rw[bB.mp hd'];exact hq
  ·rintro ρ bz ⟨r,o,ds,rfl,rfl,hd,h⟩
   apply bC
   ·(walk_at "evs")
   ·exact⟨_,_,rfl,0,_,rfl,rfl,rfl,ds,rfl,by rw[hd];simpa using dQ 0 m,h⟩
 by_cases hc:(10:Int)^18<=c
 ·apply aD
  ·apply l_
   ·(walk_at "evs")<;>simpa using hc
   ·(walk_at "evs")
  ·exact main c
 ·apply aD
  ·apply vB
   ·(walk_at "evs")<;>simpa using hc
   ·(walk_at "evs")
  ·exact main 0
noncomputable abbrev LL:List Nat:=[65,66,67,68,69,70,71,72,73,74,75,76,77,78,79,80,81,82,83,84,85,86,87,88,89,90,97,98,99,100,101,102,103,104,105,106,107,108,109,110,111,112,113,114,115,116,117,118,119,120,121,122]
theorem Li(c s:Int)(m:Nat)(hm:m<=52)(st:List am):∃l:List Nat,l.length=m/\l.Nodup/\(∀d∈l,d∈LL)/\AH [.int c,.int m,.int s] st=.ok (.str l) st:=by
 suffices hh:i8 (vD fun w bz=>(∃x,bz=st++x)/\undWs st.length [w]=true/\∃l:List Nat,w=.str l/\l.length=m/\l.Nodup/\∀d∈l,d∈LL) (M8 ([W.int c,.int m,.int s].map some++List.replicate (7-3) none) st) by
  obtain⟨w,⟨l,rfl,h1,h2,h3⟩,e⟩:=uI hh
  exact⟨l,h1,h2,h3,e⟩
 obtain⟨ds,h1,h2,e⟩:=oP c s m (by omega) st
 apply aD
 ·(walk_at "evs")
 apply aD
 ·(walk_at "evs")
 have f9:lstOf (st++[am.lst (ds.map W.int)]) st.length=some (ds.map W.int):=a_ (by rw[jd];rfl)
 refine dO (fun i ρ bz=>∃(r f:List Nat) (o o2:Option W),ρ=[iO c,iO m,iO s,some (.str r),some (.str f),o,o2]/\bz=st++[.lst (ds.map W.int)]/\f.length=i/\r.length+i=52/\(f++r).Perm LL) (lU (by(repeat' (first|with_reducible exact e|walk_at "ev1"))) f9)
  ⟨LL,[],none,none,rfl,rfl,rfl,rfl,.refl _⟩ (fun i ρ bz h=>?_) ?_ ?_
 ·obtain⟨r,f,o,o2,rfl,rfl,_⟩:=h
  exact f9
 ·rintro i w ρ bz hw ⟨r,f,o,o2,rfl,rfl,hf,hr,hfl⟩
  obtain⟨d,hd,rfl⟩:∃d,ds[i]?=some d/\w=.int d:=by
   simp only[aj,aG]at hw
   obtain⟨d,h1,rfl⟩:=hw
   exact⟨d,h1,rfl⟩
  have hi:i<m:=by rw[<- h1];exact(ac.mp hd).1
  obtain⟨q,hq,eq⟩:=hJ (q:=d) (n:=r.length) (by omega)
  have hL:r.length<=mj:=by show _<=1000000;omega
  have hLf:f.length<=mj:=by show _<=1000000;omega
  have hat:tI r (d%(r.length:Int))=some r[q]:=by rw[eq];exact dR (by simp[hq])
  refine⟨_,rfl,?_⟩
  apply aD
  ·(repeat' (first|with_reducible exact m6 hL|walk_at "ev1"))
   show 0<(r.length:Int);omega
  apply aD
  ·have ha:f.length+[r[q]].length<=mj:=by show _+1<=1000000;omega
   (repeat' (first|with_reducible exact GS hL hat|with_reducible exact yx ha|walk_at "ev1"))
  apply cU
  ·(repeat' (first|with_reducible exact As hL|walk_at "ev1"))
   rw[eq,uJ (by omega),show((q:Int)+1)=((q+1:Nat):Int)from rfl,yz (by omega),aM,ie]
   show _<=1000000;omega
  ·refine⟨_,_,rfl,_,_,_,_,rfl,rfl,by simp[hf],?_,?_⟩
   ·rw[eq,uJ (by omega),show((q:Int)+1)=((q+1:Nat):Int)from rfl,yz (by omega),aE,aM,ie]
    omega
   ·rw[eq,uJ (by omega),show((q:Int)+1)=((q+1:Nat):Int)from rfl,yz (by omega)]
    refine List.Perm.trans ?_ hfl
    rw[bh]
    refine ou f ?_
    have e:r=r.take q++r[q]::r.drop (q+1):=by rw[<- bd hq,gJ]
    have e2:(r[q]::(r.take q++r.drop (q+1))).Perm r:=(List.perm_middle.symm).trans (by rw[<- e])
    exact e2
 ·rintro ρ bz ⟨r,f,o,o2,rfl,rfl,hf,hr,hfl⟩
  apply bC
  ·(walk_at "evs")
  ·exact⟨_,_,rfl,⟨_,rfl⟩,rfl,f,rfl,by rw[hf];simpa using h1,(jr.mp (hfl.nodup_iff.mpr (by decide))).1,fun d hd=>hfl.mem_iff.mp (bS _ hd)⟩
theorem m_{s:List am}{p:Nat}{c:am}(h:st <+: s)(hp:st.length<=p):st <+: s.set p c:=by
 obtain⟨x,rfl⟩:=h
 rw[show p=st.length+(p-st.length) by omega,oK]
 exact bb _ _
theorem hU{s y:List am}(h:st <+: s):st <+: s++y:=h.trans (bb _ _)
theorem pre_get{s:List am}{c:am}(h:st <+: s)(e:st[i]?=some c):s[i]?=some c:=by
 obtain⟨x,rfl⟩:=h
 exact aT e
theorem iK{s:List am}{p:Nat}{c d:am}(h:s[p]?=some d):(s.set p c)[p]?=some c:=by
 rw[bn (ac.mp h).1]
theorem fj{s:List am}{p:Nat}{c:am}(h:p≠q):(s.set p c)[q]?=s[q]?:=bT h
theorem c_{s:List am}{p:Nat}{c:am}(h:s[p]?=some c):p<s.length:=(ac.mp h).1
theorem bc{s:List am}{c:am}:(s++[c])[s.length]?=some c:=by rw[jd];rfl
noncomputable def oQ(l:List Int):List W:=l.map W.int
theorem yI{s:List am}{p:Nat}{ds:List Int}{d:Int}(h:s[p]?=some (.lst (oQ ds)))(e:ds[i]?=some d):b9 (.loc p) (.int i) s=.ok (.int d) s:=k_ (a_ h) (dR (by rw[oQ,aj,e];rfl))
theorem Io(h:lstOf st n=some (ls.map W.str))(hl:ls.length<64):kU [.loc n] st=.ok (.loc st.length) (st++[.lst ((iV ls).map W.str)]):=by
 show ph [.loc n] st=_
 unfold ph
 simp only[h,c5,xn]
 rw[au hl]
theorem vM{a b:List (List Nat)}(h:a.Perm b):(a.map List.length).sum=(b.map List.length).sum:=by
 induction h with
 |nil=>rfl
 |cons x _ ih=>simp only[aP,jN,ih]
 |swap x y l=>simp only[aP,jN];omega
 |trans _ _ ih1 ih2=>rw[ih1,ih2]
theorem rq(l:List Nat):(((l.map fun c=>[c])).map List.length).sum=l.length:=by
 induction l with
 |nil=>rfl
 |cons a r ih=>simp only[aP,jN,br,ih,gr];omega
def y_(l:List Nat):List Nat:=oA [] (iV (l.map fun c=>[c]))
theorem uK(l:List Nat):(y_ l).length=l.length:=by
 unfold y_;rw[pd,List.length_flatten,vM (gX _),rq]
theorem rA(l:List Nat):(y_ l).Perm l:=by
 unfold y_;rw[pd]
 have h:(iV (l.map fun c=>[c])).flatten.Perm (l.map fun c=>[c]).flatten:=(gX _).flatten
 refine h.trans (.of_eq ?_)
 induction l with
 |nil=>rfl
 |cons a r ih=>
  have ih':=ih ((gX _).flatten)
  simp only[aP,cP,ih',List.cons_append,gq]
theorem Do{fe:FE}{s1:List am}(h:fe ρ st=.ok (.loc n) s1)(hc:lstOf s1 n=some ((l.map fun c=>[c]).map W.str))(hl:l.length<64) :
  Gm mw (eC (.str [])) (ak (bE kU (ak fe aB)) aB) ρ st=.ok (.str (y_ l)) (s1++[.lst ((iV (l.map fun c=>[c])).map W.str)]):=by
 have hs:=Io hc (by simpa using hl)
 have hcell2:lstOf (s1++[am.lst ((iV (l.map fun c=>[c])).map W.str)]) s1.length=some ((iV (l.map fun c=>[c])).map W.str):=a_ bc
 have hj:=yy (sep:=[]) hcell2 (by rw[vM (gX _),rq];show _<=1000000;simp;omega)
 exact GO cG rfl (av (bW (av h aV) hs) aV) hj
theorem Lj{s1:List am}(h:fe ρ st=.ok (.str l) s1)(hl:l.length<64) :
  Gm mw (eC (.str [])) (ak (bE kU (ak fe aB)) aB) ρ st=.ok (.str (y_ l)) (s1++[.lst ((iV (l.map fun c=>[c])).map W.str)]):=by
 have hs:kU [.str l] s1=.ok (.loc s1.length) (s1++[.lst ((iV (l.map fun c=>[c])).map W.str)]):=by unfold kU;simp only;rw[au hl]
 have hcell2:lstOf (s1++[am.lst ((iV (l.map fun c=>[c])).map W.str)]) s1.length=some ((iV (l.map fun c=>[c])).map W.str):=a_ bc
 have hj:=yy (sep:=[]) hcell2 (by rw[vM (gX _),rq];show _<=1000000;simp;omega)
 exact GO cG rfl (av (bW (av h aV) hs) aV) hj
section
variable{fs:FA}
theorem uL(V:β->W)(Pb:Nat->β->Prop)(hr:fs ρ st=.ok [.int n] st)(hn:n<=100000)(h:∀i:Nat,i<n->∃b,Pb i b/\el ((oH cap ρ).set 0 (iO i)) st=.ok (V b) st) :
  ∃r:List β,r.length=n/\(∀i b,r[i]?=some b->Pb i b)/\dq cap (cM fs) (eM 0) iZ el ρ st=.ok (.loc st.length) (st++[.lst (r.map V)]):=by
 let f:Fin n->β:=fun i=>Classical.choose (h i i.2)
 have hf:∀i:Fin n,Pb i (f i)/\el ((oH cap ρ).set 0 (iO (i:Nat))) st=.ok (V (f i)) st:=fun i=>Classical.choose_spec (h i i.2)
 let Y:W->W:=fun w=>match w with
  |.int z=>if hz:z.toNat<n then V (f ⟨z.toNat,hz⟩)else .non
  |_=>.non
 have ir:cM fs ρ st=.ok (fP 0 n,none) st:=by
  have:=jf hr (by omega)
  rw[aO]at this
  exact this
 have hc:=m8 (fi:=cM fs) (f:=eM 0) (el:=el) (cap:=cap) (ρ:=ρ) Y ir (by rw[dQ];show _<=1000000;omega) trivial fun w hw=>by
  obtain⟨i,hi,rfl⟩:=sM hw
  refine⟨_,rfl,?_⟩
  rw[show((0:Int)+(i:Int))=(i:Int) by omega]
  show _=R.ok (if hz:(i:Int).toNat<n then V (f ⟨(i:Int).toNat,hz⟩)else .non) st
  rw[dif_pos (show(i:Int).toNat<n by omega)]
  exact(hf ⟨i,hi⟩).2
 refine⟨List.ofFn f,by simp,fun i b hb=>?_,?_⟩
 ·obtain⟨h1,h2⟩:=ac.mp hb
  rw[List.getElem_ofFn]at h2
  rw[<- h2]
  exact(hf ⟨i,by simpa using h1⟩).1
 ·rw[hc]
  have e:(fP 0 n).map Y=(List.ofFn f).map V:=by
   refine List.ext_getElem (by simp[dQ]) fun i h1 h2=>?_
   have hi:i<n:=by simpa[dQ]using h1
   rw[mO,mO,List.getElem_ofFn]
   unfold fP
   rw[mO,List.getElem_range,show((0:Int)+(i:Int))=(i:Int) by omega]
   show(if hz:(i:Int).toNat<n then V (f ⟨(i:Int).toNat,hz⟩)else .non)=_
   rw[dif_pos (show(i:Int).toNat<n by omega)]
  rw[e]
theorem B9(V:β->W)(Pb:Nat->β->Prop)(hr:fs ρ st=.ok [.int n] st)(hn:n<=100000)(h:∀i:Nat,i<n->∃b,Pb i b/\el ((oH cap ρ).set 0 (iO i)) st=.ok (V b) st) :
  ∃r:List β,r.length=n/\(∀i b,r[i]?=some b->Pb i b)/\bE ip (ak (dq cap (cM fs) (eM 0) iZ el) aB) ρ st=.ok (.tup (r.map V)) (st++[.lst (r.map V)]):=by
 obtain⟨r,h1,h2,e⟩:=uL (cap:=cap) (el:=el) V Pb hr hn h
 exact⟨r,h1,h2,bW (av e aV) (oN (a_ bc))⟩
end
structure Mc where
 nm:List Nat
 gd:List Bool
 tb:List (List (List Nat))
noncomputable def pB(r:List Nat):W:=.tup (r.map fun k=>W.int (k:Nat))
def qf(t:List (List Nat)):W:=.tup (t.map pB)
def Mc.w(M:Mc):W:=.tup [.str M.nm,.tup (M.gd.map W.bl),.tup (M.tb.map qf)]
def Wx(n:Nat)(t:List (List Nat)):Prop:=t.length=n/\∀r∈t,r.length=n/\∀k∈r,k<n
structure yJ(M:Mc)(n:Nat):Prop where
 gd:M.gd.length=n
 tb:M.tb.length=2^M.nm.length
 t:∀t∈M.tb,Wx n t
theorem uM(r:List Nat)(n:Nat):(pB r).und n=true:=by
 unfold pB W.und
 induction r with
 |nil=>rfl
 |cons x r ih=>simp only[aP,undWs,ih,cK];rfl
theorem Lk(t:List (List Nat))(n:Nat):(qf t).und n=true:=by
 unfold qf W.und
 induction t with
 |nil=>rfl
 |cons x r ih=>simp only[aP,undWs,ih,cK];exact uM x n
theorem Ip(t:List (List (List Nat)))(n:Nat):undWs n (t.map qf)=true:=by
 induction t with
 |nil=>rfl
 |cons x r ih=>simp only[aP,undWs,ih,cK];exact Lk x n
theorem Ll(t:List Bool)(n:Nat):undWs n (t.map W.bl)=true:=by
 induction t with
 |nil=>rfl
 |cons x r ih=>simp only[aP,undWs,ih,cK];rfl
theorem QB(M:Mc)(n:Nat):M.w.und n=true:=by
 unfold Mc.w
 simp[W.und,undWs,Ip,Ll]
theorem FJ{c:Nat}(h:c<=100):sD (.int 1) (.int c) st=.ok (.int ((2^c:Nat):Int)) st:=by
 have:=fI (C:=fun i j=>0<=j/\j<=1000000/\i.natAbs<2^64) (f:=fun i j=>i*2^j.toNat) (p:=1) (q:=(c:Int)) (st:=st) ⟨by omega,by omega,by decide⟩
 rw[show sD (.int 1) (.int c) st=_ from this]
 simp
theorem jH{s:List am}{p:Nat}{y:W}(h:s[p]?=some (.lst ws))(hl:ws.length<1000000):cf (.loc p) [y] s=.ok .non (s.set p (.lst (ws++[y]))):=xq h hl
theorem QC(h:q<n):CI n (q:Int)=some q:=by
 unfold CI
 rw[au (by omega),au (by omega)];simp
theorem vN{s:List am}{p q:Nat}{v:W}(h:s[p]?=some (.lst ws))(hq:q<ws.length):mv (.loc p) (.int q) v s=some (s.set p (.lst (ws.set q v))):=PL h (QC hq)
noncomputable def nW(l:List Nat):List W:=l.map fun k=>W.int (k:Nat)
theorem rB{s:List am}{p:Nat}{k:Nat}(h:s[p]?=some (.lst (nW l)))(e:l[i]?=some k):b9 (.loc p) (.int i) s=.ok (.int k) s:=k_ (a_ h) (dR (by rw[nW,aj,e];rfl))
theorem vO{s:List am}{k:Nat}(e:l[i]?=some k):b9 (pB l) (.int i) s=.ok (.int k) s:=lT (dR (by rw[aj,e];rfl))
theorem yK{s:List am}{t:List (List Nat)}{r:List Nat}(e:t[i]?=some r):b9 (qf t) (.int i) s=.ok (pB r) s:=lT (dR (by rw[aj,e];rfl))
theorem xA{f:FG}{ρ':cw}{w:W}(h:fe ρ st=.ok w st1)(h2:f w ρ=some ρ'):wF fe f ρ st=.nx ρ' st1:=by
 unfold wF;rw[h];simp only[R.stmt_ok];rw[h2]
theorem B_(nm:List Nat)(n jg dl:Nat)(ds:List Int)(st:List am)(Wk:nm.length<=6)(hn:1<=n)(W7:n<=9)(Rm:1<=jg)(W4:jg<=n)(hd:st[dl]?=some (.lst (oQ ds)))(Nq:n+2^nm.length*(n*n)<=ds.length) :
  ∃M:Mc,M.nm=nm/\yJ M n/\Dk [.str nm,.int n,.int jg,.loc dl] st=.ok M.w st:=by
 suffices hh:i8 (vD fun w bz=>(∃x,bz=st++x)/\undWs st.length [w]=true/\∃M:Mc,w=M.w/\M.nm=nm/\yJ M n) (M' ([W.str nm,.int n,.int jg,.loc dl].map some++List.replicate (10-4) none) st) by
  obtain⟨w,⟨M,rfl,h1,h2⟩,e⟩:=uI hh
  exact⟨M,h1,h2,e⟩
 have da:∀s:List am,dM [.str nm] s=.ok (.int nm.length) s:=fun s=>m6 (by show _<=1000000;omega)
 have p2:2^nm.length<=64:=d8 (by omega) Wk
 obtain⟨N,hN⟩:∃N,N=2^nm.length:=⟨_,rfl⟩
 have sh:∀s:List am,sD (.int 1) (.int nm.length) s=.ok (.int N) s:=fun s=>by rw[hN];exact FJ (by omega)
 rw[<- hN]at p2 Nq
 have hdn:n<=ds.length:=by omega
 obtain⟨gd,hgl,_,eg⟩:=B9 (cap:=[none,some 3]) (ρ:=[some (.str nm),iO n,iO jg,lO dl,none,none,none,none,none,none]) (st:=st) (fs:=ak (af 1) aB) (n:=n)
  (el:=e2 qF (e2 jw (e2 b9 (af 1) (af 0)) (eI 2)) (eI 1)) W.bl (fun _ _=>True) kn (by omega) fun q hq=>by
   obtain⟨d,hdd⟩:∃d,ds[q]?=some d:=⟨_,ae (by omega)⟩
   exact⟨_,trivial,bP (bP (bP kv kv (yI hd hdd)) cG (fI (by decide))) cG (je rfl)⟩
 apply aD
 ·exact bD eg
 generalize hs0:st++[am.lst (gd.map W.bl)]=s0
 have hst0:st <+: s0:=by rw[<- hs0];exact bb _ _
 apply aD
 ·(walk_at "evs")
 apply aD
 ·(walk_at "evs")
 refine dO (fun i ρ s=>∃(tb:List (List (List Nat))) (a:Nat) (o7 o8 o9:Option W),ρ=[some (.str nm),iO n,iO jg,lO dl,some (.tup (gd.map W.bl)),lO s0.length,iO a,o7,o8,o9]/\s0 <+: s/\s[s0.length]?=some (.lst (tb.map qf))/\tb.length=i/\(∀t∈tb,Wx n t)/\a+(N-i)*(n*n)<=ds.length)
  (jf (q:=(N:Int)) (st1:=s0++[am.lst []]) (av (bP cG (bW kn (da _)) (sh _)) aV) (by omega))
  ⟨[],n,none,none,none,rfl,bb _ _,bc,rfl,by simp,by simpa using Nq⟩ (fun _ _ _ _=>trivial) ?_ ?_
 ·rintro i w ρ s hw ⟨tb,a,o7,o8,o9,rfl,hp,hc,hl,ht,hal⟩
  obtain⟨hi,rfl⟩:=kO hw
  rw[aO]at hi
  refine⟨_,rfl,?_⟩
  rw[show N-i=(N-(i+1))+1 by omega,kE]at hal
  apply aD
  ·(walk_at "evs")
  refine dO (fun j ρ z=>∃(y0:List (List Nat)) (a:Nat) (o9:Option W),ρ=[some (.str nm),iO n,iO jg,lO dl,some (.tup (gd.map W.bl)),lO s0.length,iO a,iO (0+(i:Int)),lO s.length,o9]/\s <+: z/\z[s.length]?=some (.lst (y0.map pB))/\y0.length=j/\(∀r∈y0,r.length=n/\∀k∈r,k<n)/\a+((N-(i+1))*(n*n)+(n-j)*n)<=ds.length)
   (jf (q:=(n:Int)) (st1:=s++[am.lst []]) (by(walk_at "evs")) (by omega)) ⟨[],a,_,rfl,bb _ _,bc,rfl,by simp,by simpa using hal⟩ (fun _ _ _ _=>trivial) ?_ ?_
  ·rintro j w ρ z hw ⟨y0,a,o9,rfl,hz,hcz,hrl,hr,hal⟩
   obtain⟨hj,rfl⟩:=kO hw
   rw[aO]at hj
   refine⟨_,rfl,?_⟩
   rw[show n-j=(n-(j+1))+1 by omega,kE]at hal
   have pt:(0:Int)<(jg:Int):=by omega
   obtain⟨r,uq,hrb,er⟩:=B9 (cap:=[none,some 2,some 3,some 6]) (ρ:=[some (.str nm),iO n,iO jg,lO dl,some (.tup (gd.map W.bl)),lO s0.length,iO a,iO (0+(i:Int)),lO s.length,iO (0+(j:Int))]) (st:=z) (fs:=ak (af 1) aB) (n:=n)
    (el:=e2 jw (e2 b9 (af 2) (e2 eE (af 3) (af 0))) (af 1)) (fun k:Nat=>W.int (k:Nat)) (fun _ k=>k<n) kn (by omega) fun q hq=>by
     obtain⟨d,hdd⟩:∃d,ds[a+q]?=some d:=⟨_,ae (by omega)⟩
     obtain⟨k,hk,ek⟩:=hJ (q:=d) (n:=jg) (by omega)
     refine⟨k,by omega,?_⟩
     rw[<- ek]
     exact bP (bP kv (bP kv kv eG) (yI (pre_get (hst0.trans (hp.trans hz)) hd) hdd)) kv (fI pt)
   have ap:=jH (y:=pB r) (pre_get (s:=z++[.lst (r.map fun k:Nat=>W.int k)]) (bb _ _) hcz) (by rw[al];omega)
   apply aD
   ·exact fX (j6 kv (fz hcz) (av er aV) ap)
   apply cU
   ·exact bD (bP kv kv eG)
   ·refine⟨_,_,rfl,y0++[r],a+n,_,rfl,m_ (hU hz) (aw _),?_,by simp[hrl],?_,by omega⟩
    ·rw[iK (pre_get (bb _ _) hcz)];simp
    ·intro x hx
     rcases aY.mp hx with y|y
     ·exact hr x y
     ·simp at y;subst y
      refine⟨uq,fun k hk=>?_⟩
      obtain⟨q,hq⟩:=fN hk
      exact hrb q k hq
  ·rintro ρ z ⟨y0,a,o9,rfl,hz,hcz,hrl,hr,hal⟩
   have hrl:y0.length=n:=by rw[hrl];simp[dQ]
   have hcp:=pre_get hz hc
   have ap:=jH (y:=qf y0) hcp (by rw[al,hl];omega)
   apply cU
   ·exact fX (j6 kv (fz hcp) (av (bW kn (oN (a_ hcz))) aV) ap)
   ·refine⟨_,_,rfl,tb++[y0],a,_,_,_,rfl,m_ (hp.trans hz) (aw _),?_,by simp[hl],?_,by omega⟩
    ·rw[iK hcp];simp
    ·intro x hx
     rcases aY.mp hx with y|y
     ·exact ht x y
     ·simp at y;subst y
      exact⟨hrl,hr⟩
 ·rintro ρ s ⟨tb,a,o7,o8,o9,rfl,hp,hc,hl,ht,hal⟩
  have hl:tb.length=N:=by rw[hl];simp[dQ]
  obtain⟨x,rfl⟩:=hst0.trans hp
  apply bC
  ·exact tU (av kv (av kv (av (bW kn (oN (a_ hc))) aV))) (aQ rfl)
  ·exact⟨_,_,rfl,⟨_,rfl⟩,by simp only[undWs,cK];exact QB ⟨nm,gd,tb⟩ _,⟨nm,gd,tb⟩,rfl,rfl,hgl,by rw[hl,hN],ht⟩
theorem rC(z:Int)(k:Nat)(st:List am):re (k+1) [.int z,.int z] st=.ok (.bl true) st:=by
 have hb:qF (.int z) (.int z) st=.ok (.bl true) st:=je (by simp)
 refine fY (N:=3) (ws:=[.int z,.int z]) (body:=M7 (re k)) ?_ rfl
 apply du
 ·(walk_at "evs")
 apply dZ
 apply du
 ·(walk_at "evs")
 apply dZ
 apply du
 ·(walk_at "evs")
 apply dZ
 apply kN
 ·(walk_at "evs")
 apply jR
 ·apply C9
  ·(walk_at "evs")
  ·apply C9
   ·(walk_at "evs")
   ·(walk_at "evs")
 ·exact⟨_,_,rfl,by simp,[],by simp⟩
noncomputable def sm(L:List α)(f:α->Nat):Nat:=(L.map f).sum
section
theorem B'(f:α->Nat):sm [] f=0:=rfl
theorem eU(x:α)(L:List α)(f:α->Nat):sm (x::L) f=f x+sm L f:=by simp[sm]
theorem qg(L K:List α)(f:α->Nat):sm (L++K) f=sm L f+sm K f:=by simp[sm]
theorem Ca(L:List α)(g:α->β)(f:β->Nat):sm (L.map g) f=sm L fun x=>f (g x):=by simp[sm,eh]
theorem cN{L:List α}{f g:α->Nat}(h:∀x∈L,f x=g x):sm L f=sm L g:=by
 unfold sm;rw[bJ h]
theorem Dp(L:List α)(g:α->List β)(f:β->Nat):sm (L.flatMap g) f=sm L fun x=>sm (g x) f:=by
 induction L with
 |nil=>rfl
 |cons x L ih=>rw[List.flatMap_cons,qg,eU,ih]
theorem QD(L:List α)(f g:α->Nat):sm L (fun x=>f x+g x)=sm L f+sm L g:=by
 induction L with
 |nil=>rfl
 |cons x L ih=>rw[eU,eU,eU,ih];omega
theorem uN(L:List α):sm L (fun _=>0)=0:=by
 induction L with
 |nil=>rfl
 |cons x L ih=>rw[eU,ih]
theorem rD(L:List α)(f:α->Nat)(c:Nat):sm L (fun x=>f x*c)=sm L f*c:=by
 induction L with
 |nil=>simp[sm]
 |cons x L ih=>rw[eU,eU,ih,Nat.add_mul]
theorem yL(L:List α)(f:α->Nat)(c:Nat):sm L (fun x=>c*f x)=c*sm L f:=by
 rw[jn,<- rD];exact cN fun x _=>jn _ _
theorem yM(L:List α)(K:List β)(f:α->β->Nat):sm L (fun x=>sm K fun y=>f x y)=sm K fun y=>sm L fun x=>f x y:=by
 induction L with
 |nil=>simp only[B'];rw[uN]
 |cons x L ih=>rw[eU,ih,<- QD];exact cN fun y _=>(eU x L fun x=>f x y).symm
theorem gC(n:Nat)(f:Nat->Nat):sm (List.range (n+1)) f=sm (List.range n) f+f n:=by
 rw[nY,qg,eU,B'];rfl
theorem yN(a b:Nat)(f:Nat->Nat):sm (List.range (a+b)) f=sm (List.range a) f+sm (List.range b) fun i=>f (a+i):=by
 induction b with
 |zero=>rfl
 |succ b ih=>rw[<- gD,gC,gC,ih];omega
theorem Dq{x:Nat}(h:x<n)(g:Nat->Nat):sm (List.range n) (fun a=>(if x=a then 1 else 0)*g a)=g x:=by
 induction n with
 |zero=>omega
 |succ n ih=>
  rw[gC]
  by_cases e:x=n
  ·subst e
   rw[au rfl,Nat.one_mul,cN (g:=fun _=>0) (fun a ha=>?_),uN,eX]
   rw[bN]at ha
   rw[ax (by omega),kI]
  ·rw[ih (by omega),ax e,kI];rfl
end
def ct(q:Nat)(L:List Nat):Nat:=sm L fun x=>if x=q then 1 else 0
theorem Ua{n:Nat}{L:List Nat}(h:∀x∈L,x<n)(g:Nat->Nat):sm L g=sm (List.range n) fun a=>ct a L*g a:=by
 unfold ct
 rw[cN (L:=List.range n) (g:=fun a=>sm L fun x=>(if x=a then 1 else 0)*g a) (fun a _=>(rD ..).symm),yM]
 exact cN fun x hx=>(Dq (h x hx) g).symm
section
variable(T:Nat->Nat->Nat->Nat)
noncomputable def pop(b:Bool)(st:List Nat):Nat×List Nat:=if b then(st.headD 0,st.tail)else(0,st)
def rE(b x:Nat)(st:List Nat):List Nat:=
 T x (pop (b%2==1) (pop (decide (2<=b)) st).2).1 (pop (decide (2<=b)) st).1::(pop (b%2==1) (pop (decide (2<=b)) st).2).2
end
noncomputable def Tm(tb:List (List (List Nat)))(t a b:Nat):Nat:=((tb.getD t []).getD a []).getD b 0
theorem jT(l:List α)(i:Nat)(d:α):l.getD i d=d\/l.getD i d∈l:=by
 rw[ao]
 cases h:l[i]? with
 |none=>exact .inl rfl
 |some x=>exact .inr (ay h)
theorem xB{M:Mc}(hM:yJ M n)(hn:1<=n)(t a b:Nat):Tm M.tb t a b<n:=by
 unfold Tm
 rcases jT ((M.tb.getD t []).getD a []) b 0 with h|h
 ·omega
 ·rcases jT (M.tb.getD t []) a []with h1|h1
  ·rw[h1]at h;simp at h
  ·rcases jT M.tb t []with h2|h2
   ·rw[h2]at h1;simp at h1
   ·exact((hM.t _ h2).2 _ h1).2 _ h
theorem jk(f:α->β){l:List α}{d:β}{x:α}(h:l[i]?=some x):(l.map f).getD i d=f x:=by
 rw[ao,aj,h];rfl
section
def wt(n:Nat)(P:List (Nat×Nat)):List Nat:=(List.range n).map fun q=>sm P fun p=>if p.1=q then p.2 else 0
theorem vP(P:List (Nat×Nat)):(wt n P).length=n:=by simp[wt]
theorem Dr{P:List (Nat×Nat)}(h:q<n):(wt n P)[q]?=some (sm P fun p=>if p.1=q then p.2 else 0):=by
 unfold wt;rw[aj,aJ h];rfl
theorem Lm{P:List (Nat×Nat)}{r w:Nat}(h:r<n):(wt n P).set r ((sm P fun p=>if p.1=r then p.2 else 0)+w)=wt n (P++[(r,w)]):=by
 refine b6 fun q=>?_
 by_cases hq:q<n
 ·rw[Dr hq,qg,eU,B']
  by_cases e:r=q
  ·subst e
   rw[bn (by rw[vP];exact hq)]
   simp
  ·rw[bT e,Dr hq]
   simp[e]
 ·rw[az (by rw[iD,vP];omega),az (by rw[vP];omega)]
end
theorem sV(l:List α)(d:α)(f:α->β):(List.range l.length).map (fun i=>f (l.getD i d))=l.map f:=by
 refine b6 fun i=>?_
 rw[aj,aj]
 by_cases h:i<l.length
 ·rw[aJ h,ae h]
  show some (f (l.getD i d))=_
  rw[ao,ae h];rfl
 ·rw[az (by simpa using h),az (by omega)];rfl
section
variable{ρ1:cw}{f:FG}
theorem QF{fs:FA}{xs ys:List W}(h:fs ρ st=.ok [.tup xs,.tup ys] st1):mZ fs ρ st=.ok (ky xs ys,none) st1:=by
 unfold mZ;rw[h];rfl
theorem Iq{fs:FA}{xs ys:List W}(h:fs ρ st=.ok [.loc n,.tup ys] st1)(hn:lstOf st1 n=some xs):mZ fs ρ st=.ok (ky xs ys,some (n,xs)) st1:=by
 unfold mZ;rw[h];simp only[R.bind_ok,GM,hn,Option.map_some]
theorem Ir(ls:List Int):qL (ls.map W.int)=some ls:=by
 induction ls with
 |nil=>rfl
 |cons x r ih=>simp only[aP,qL,ih];rfl
theorem AJ{ls:List Int}(h:lstOf st n=some (ls.map W.int)):ym [.loc n] st=.ok (.int ls.sum) st:=by
 unfold ym;simp only[h,c5,Ir]
theorem AK{body:FS}{k:EB}{P:RS->Prop}(I:Nat->cw->List am->Prop)(h:fi ρ st=.ok k st1)(h0:I 0 ρ st1)(hc:∀i ρ st,I i ρ st->iA st k.2)
  (hs:∀i w ρ st,k.1[i]?=some w->I i ρ st->∃ρ',f w ρ=some ρ'/\i8 (EJ (I (i+1))) (body ρ' st)) (he:∀ρ st,I k.1.length ρ st->P (.nx ρ st)):i8 P (iI fi f body ρ st):=by
 obtain⟨ρ2,cV,e,h2⟩:=vA (f:=f) (body:=body) (ck:=k.2) I (ws:=k.1) (ρ:=ρ) (st:=st1) 0 h0 hc fun i w ρ st hw hI=>by
  rw[eX]at hI ⊢
  obtain⟨ρ',e1,ρ2,cV,e2,h2⟩:=hs i w ρ st hw hI
  exact⟨ρ',ρ2,cV,e1,e2,h2⟩
 rw[eX]at h2
 exact cU (by rw[C7 h];exact e) (he _ _ h2)
theorem rF(l:List Nat):(l.map fun(k:Nat)=>(k:Int)).sum=(l.sum:Nat):=by
 induction l with
 |nil=>rfl
 |cons x r ih=>simp only[aP,jN,ih];omega
theorem Iu(L:List α)(f:α->Nat):(L.map fun x=>((f x:Nat):Int)).sum=(sm L f:Nat):=by
 unfold sm
 rw[<- rF,aS];rfl
end
theorem a9{l:List α}(d:α)(h:i<l.length):l[i]?=some (l.getD i d):=by
 rw[ao,ae h];rfl
theorem Cb(l:List Nat)(i k:Nat):(nW l).set i (.int (k:Nat))=nW (l.set i k):=by
 unfold nW;rw[r9]
theorem yO{l:List α}(d:α)(h:l.length<=i):l.getD i d=d:=by
 rw[ao,az h];rfl
noncomputable def zf:List Nat->List Bool->List Nat
 |x::xs,b::bs=>if b then x::zf xs bs else zf xs bs
 |_,_=>[]
noncomputable def gf(n:Nat)(gd:List Bool)(l:List Nat):List Nat:=((List.range n).filter fun q=>gd.getD q false).map fun q=>l.getD q 0
theorem Iv:∀{n:Nat} {l:List Nat} {gd:List Bool},l.length=n->gd.length=n->zf l gd=gf n gd l
 |0,[],[],_,_=>rfl
 |n+1,x::xs,b::bs,h1,h2=>by
  have ih:=Iv (n:=n) (l:=xs) (gd:=bs) (by simpa using h1) (by simpa using h2)
  unfold zf gf
  rw[eV,dW,gz,ih]
  unfold gf
  cases b<;>simp[eh]
 |0,_::_,_,h1,_=>by simp at h1
 |0,[],_::_,_,h2=>by simp at h2
 |n+1,[],_,h1,_=>by simp at h1
 |n+1,_::_,[],_,h2=>by simp at h2
noncomputable def zT:W->Bool
 |.tup [_,.bl b]=>b
 |_=>false
noncomputable def zY:W->W
 |.tup [x,_]=>x
 |_=>.non
theorem Cc:∀(l:List Nat) (gd:List Bool),((ky (nW l) (gd.map W.bl)).filter zT).map zY=nW (zf l gd)
 |x::xs,b::bs=>by
  have ih:=Cc xs bs
  show(((W.tup [.int x,.bl b])::ky (nW xs) (bs.map W.bl)).filter zT).map zY=_
  rw[dW]
  unfold zf
  cases b
  ·rw[ax (by simp[zT]),ax (by simp)];exact ih
  ·rw[au (by simp[zT]),au rfl,aP,ih];rfl
 |[],_=>by simp[nW,ky,zf]
 |_::_,[]=>by simp[nW,ky,zf]
theorem Cd(l:List Nat):nW l=(l.map fun(k:Nat)=>(k:Int)).map W.int:=by unfold nW;rw[aS];rfl
theorem AL{M:Mc}(hM:yJ M n)(hn:n<=1000)(hl:l.length=n)(st:List am):Ie [M.w,pB l] st=.ok (.int ((gf n M.gd l).sum:Nat)) st:=by
 refine fY (w:=.int ((gf n M.gd l).sum:Nat)) ?_ rfl
 have hcm:=oM (cap:=[none,none]) (f:=yf 2 (cR (eM 0) (cR (eM 1) jz))) (t:=gn (af 1)) (el:=af 0) (ρ:=[some M.w,some (pB l)]) (st:=st) (fi:=mZ (ak (af 1) (ak (e2 b9 (af 0) (eI 1)) aB))) zT zY
  (QF (xs:=nW l) (ys:=M.gd.map W.bl) (st1:=st) (av kv (av kx aV))) (by rw[oJ];simp[nW,hl];have:=hM.gd;show _<=1000000;omega) trivial fun w hw=>by
   obtain⟨k,hk⟩:=fN hw
   obtain⟨x,y,hx,hy,rfl⟩:=oI hk
   rw[aj]at hy
   obtain⟨b,_,rfl⟩:=aG.mp hy
   exact⟨_,rfl,bY kv,fun _=>dX rfl⟩
 rw[Cc,Iv hl hM.gd,Cd]at hcm
 apply bC
 ·exact bW (av hcm aV) (AJ (a_ bc))
 ·exact⟨_,_,rfl,by rw[rF],_,rfl⟩
noncomputable def ez(n:Nat):List Nat:=(List.range n).map fun q=>if 0=q then 1 else 0
def AM(n:Nat)(T:Nat->Nat->Nat->Nat)(ns va vb:List Nat):List Nat:=(List.range n).map fun q=>sm (List.range n) fun a=>sm (List.range n) fun b=>va.getD a 0*vb.getD b 0*ct q (ns.map fun t=>T t a b)
def pk(n:Nat)(v:List Nat)(g:Nat->Nat):Nat:=sm (List.range n) fun q=>v.getD q 0*g q
section
theorem lh:(ez n).length=n:=by simp[ez]
theorem Ln(ns va vb:List Nat):(AM n T ns va vb).length=n:=by simp[AM]
theorem Iw(h:q<n):(ez n).getD q 0=if 0=q then 1 else 0:=jk (fun q=>if 0=q then 1 else 0) (aJ h)
theorem qh(hn:1<=n)(g:Nat->Nat):pk n (ez n) g=g 0:=by
 unfold pk
 rw[cN (g:=fun a=>(if 0=a then 1 else 0)*g a) fun q hq=>by rw[Iw (bN.mp hq)]]
 exact Dq (by omega) g
theorem oR{v:List Nat}{f g:Nat->Nat}(h:∀q,f q=g q):pk n v f=pk n v g:=by rw[show f=g from funext h]
theorem Ds(hT:∀t a b,T t a b<n)(ns va vb:List Nat)(g:Nat->Nat):pk n (AM n T ns va vb) g=pk n va fun a=>pk n vb fun b=>sm ns fun t=>g (T t a b):=by
 have e1:pk n (AM n T ns va vb) g=sm (List.range n) fun q=>sm (List.range n) fun a=>sm (List.range n) fun b=>va.getD a 0*vb.getD b 0*(ct q (ns.map fun t=>T t a b)*g q):=by
  unfold pk
  refine cN fun q hq=>?_
  rw[show(AM n T ns va vb).getD q 0=_ from jk _ (aJ (bN.mp hq)),<- rD]
  refine cN fun a _=>?_
  rw[<- rD]
  exact cN fun b _=>Nat.mul_assoc ..
 rw[e1,yM]
 unfold pk
 refine cN fun a _=>?_
 rw[yM,<- yL]
 refine cN fun b _=>?_
 rw[yL,<- Ua (n:=n) (fun x hx=>by obtain⟨t,_,rfl⟩:=ba.mp hx;exact hT ..),Ca,Nat.mul_assoc]
theorem QH{gd:List Bool}(v:List Nat):(gf n gd v).sum=pk n v fun q=>if gd.getD q false then 1 else 0:=by
 unfold gf pk
 show sm ((List.range n).filter _) (fun q=>v.getD q 0)=_
 generalize List.range n=L
 induction L with
 |nil=>rfl
 |cons q L ih=>
  rw[eU,<- ih,dW]
  cases h:gd.getD q false
  ·simp only[h,Bool.false_eq_true,rV,r_,eX]
  ·simp only[h,iC,oX,eU]
end
theorem uk{M:Mc}(hM:yJ M n)(hn:n<=1000)(st:List am):Lg [M.w] st=.ok (pB (ez n)) st:=by
 obtain⟨r,hl,hr,e⟩:=B9 (cap:=[none]) (ρ:=[some M.w]) (st:=st) (fs:=ak (bE dM (ak (e2 b9 (af 0) (eI 1)) aB)) aB) (n:=n)
  (el:=Bc (gn (e2 qF (af 0) (eI 0))) (eI 1) (eI 0)) (fun k:Nat=>W.int (k:Nat)) (fun i k=>k=if i=0 then 1 else 0)
  (by
   have:dM [.tup (M.gd.map W.bl)] st=.ok (.int n) st:=by rw[BU,al,hM.gd]
   exact av (bW (av kx aV) this) aV) (by omega) fun i hi=>by
   refine⟨_,rfl,?_⟩
   by_cases h:i=0
   ·subst h;exact pN (bY (bP kv cG (je rfl))) cG
   ·rw[ax h]
    exact pO (bY (bP kv cG (je (by simpa using h)))) cG
 have er:r=ez n:=by
  refine b6 fun i=>?_
  by_cases h:i<n
  ·obtain⟨x,hx⟩:∃x,r[i]?=some x:=⟨_,ae (by omega)⟩
   rw[hx,hr i x hx]
   unfold ez
   rw[aj,aJ h]
   show _=some (if 0=i then 1 else 0)
   by_cases e:i=0
   ·subst e;rfl
   ·rw[ax e,ax (Ne.symm e)]
  ·rw[az (by omega),az (by rw[lh];omega)]
 subst er
 refine fY (w:=pB (ez n)) ?_ (by simp only[undWs,uM,cK])
 apply bC
 ·exact e
 ·exact⟨_,_,rfl,rfl,_,rfl⟩
structure Pl where
 b:Nat
 m:List Nat
noncomputable def Pl.w(p:Pl):W:=.tup [.int p.b,.str p.m]
def gN(t:List Pl):W:=.tup (t.map Pl.w)
inductive St(n:Nat):List Nat->Nat->List Nat->Nat->Option Nat×Option Nat->Prop
 |z {S:List Nat}:St n S 0 (1::S) 1 (none,none)
 |l {a:Nat} {S:List Nat}:St n (a::S) 1 ((1+a)::S) (1+a) (some (n-1),none)
 |r {a:Nat} {S:List Nat}:St n (a::S) 2 ((1+a)::S) (1+a) (none,some (n-1))
 |b {c a:Nat} {S:List Nat}:St n (c::a::S) 3 ((1+c+a)::S) (1+c+a) (some (n-1-c),some (n-1))
inductive Gr:List Pl->List Nat->List Nat->List (Option Nat×Option Nat)->Prop
 |nil:Gr [] [] [] []
 |snoc {ps:List Pl} {S S' sz:List Nat} {lk:List (Option Nat×Option Nat)} {b k:Nat} {m:List Nat} {x:Option Nat×Option Nat}:Gr ps S sz lk->St ps.length S b S' k x->Gr (ps++[⟨b,m⟩]) S' (sz++[k]) (lk++[x])
def At(sz:List Nat):List Nat->Nat->Prop
 |[],n=>n=0
 |a::S,n=>sz[n-1]?=some a/\a<=n/\1<=a/\At sz S (n-a)
theorem At.app{sz x:List Nat}:∀{S:List Nat} {n:Nat},n<=sz.length->At sz S n->At (sz++x) S n
 |[],_,_,h=>h
 |a::S,n,hn,⟨h1,h2,h3,h4⟩=>⟨by rw[aK (by omega)];exact h1,h2,h3,At.app (by omega) h4⟩
theorem St.at'{sz S':List Nat}{b k:Nat}(h:St n S b S' k x)(hn:sz.length=n)(ha:At sz S n):At (sz++[k]) S' (n+1):=by
 have hk:(sz++[k])[n+1-1]?=some k:=by rw[lI,<- hn];simp
 cases h with
 |z=>exact⟨hk,by omega,by omega,by rw[lI];exact ha.app (by omega)⟩
 |@l a S=>exact⟨hk,by have:=ha.2.1;omega,by omega,by rw[show n+1-(1+a)=n-a by omega];exact ha.2.2.2.app (by omega)⟩
 |@r a S=>exact⟨hk,by have:=ha.2.1;omega,by omega,by rw[show n+1-(1+a)=n-a by omega];exact ha.2.2.2.app (by omega)⟩
 |@b c a S=>exact⟨hk,by have:=ha.2.1;have:=ha.2.2.2.2.1;omega,by omega,by rw[show n+1-(1+c+a)=n-c-a by omega];exact ha.2.2.2.2.2.2.app (by omega)⟩
theorem Gr.ok{ps:List Pl}{sz:List Nat}{lk:List (Option Nat×Option Nat)}(h:Gr ps S sz lk):sz.length=ps.length/\lk.length=ps.length/\At sz S ps.length:=by
 induction h with
 |nil=>exact⟨rfl,rfl,rfl⟩
 |snoc _ hs ih=>
  obtain⟨h1,h2,h3⟩:=ih
  exact⟨by simp[h1],by simp[h2],by rw[aE];exact hs.at' h1 h3⟩
theorem Gr.step{ps:List Pl}{sz:List Nat}{lk:List (Option Nat×Option Nat)}(h:Gr ps S sz lk):∀i,i<ps.length->∃S1 S2 p k x,Gr (ps.take i) S1 (sz.take i) (lk.take i)/\ps[i]?=some p/\sz[i]?=some k/\lk[i]?=some x/\St i S1 p.b S2 k x/\Gr (ps.take (i+1)) S2 (sz.take (i+1)) (lk.take (i+1)):=by
 induction h with
 |nil=>intro i hi;simp at hi
 |@snoc ps S S' sz lk b k m x hg hs ih=>
  intro i hi
  obtain⟨l1,l2,_⟩:=hg.ok
  by_cases e:i=ps.length
  ·subst e
   refine⟨S,S',⟨b,m⟩,k,x,?_,by simp,by rw[<- l1];simp,by rw[<- l2];simp,hs,?_⟩
   ·rw[lG,<- l1,lG]
    rw[l1,<- l2,lG];exact hg
   ·rw[bK (by simp),bK (by simp[l1]),bK (by simp[l2])]
    exact .snoc hg hs
  ·have hi':i<ps.length:=by simp at hi;omega
   obtain⟨S1,S2,p,k1,x1,g1,q1,q2,q3,hs1,g2⟩:=ih i hi'
   refine⟨S1,S2,p,k1,x1,?_,by rw[aK hi'];exact q1,by rw[aK (by omega)];exact q2,by rw[aK (by omega)];exact q3,hs1,?_⟩
   ·rw[cE (by omega),cE (by omega),cE (by omega)];exact g1
   ·rw[cE (by omega),cE (by omega),cE (by omega)];exact g2
theorem Ub{b:Nat}(h:b<=3)(st:List am):wm false (.int b) (.tup [.int 1,.int 3]) st=.ok (.bl (decide (b%2=1))) st:=by
 obtain rfl|rfl|rfl|rfl:b=0\/b=1\/b=2\/b=3:=by omega
 all_goals rfl
theorem Uc{b:Nat}(h:b<=3)(st:List am):wm false (.int b) (.tup [.int 2,.int 3]) st=.ok (.bl (decide (2<=b))) st:=by
 obtain rfl|rfl|rfl|rfl:b=0\/b=1\/b=2\/b=3:=by omega
 all_goals rfl
theorem Lo{p:Pl}(h:p.b<=3)(st:List am):Ih [p.w] st=.ok (.bl (decide (p.b%2=1))) st:=by
 have:=Ub h st
 have i0:b9 p.w (.int 0) st=.ok (.int p.b) st:=rfl
 apply jE
 apply bC
 ·(walk_at "evs")
 ·exact⟨_,_,rfl,rfl,rfl⟩
theorem Iy{p:Pl}(h:p.b<=3)(st:List am):Ii [p.w] st=.ok (.bl (decide (2<=p.b))) st:=by
 have:=Uc h st
 have i0:b9 p.w (.int 0) st=.ok (.int p.b) st:=rfl
 apply jE
 apply bC
 ·(walk_at "evs")
 ·exact⟨_,_,rfl,rfl,rfl⟩
noncomputable def oW:Option Nat->W
 |none=>.non
 |some k=>.int k
def uO(x:Option Nat×Option Nat):W:=.tup [oW x.1,oW x.2]
noncomputable def U4:List Nat->Nat->List Nat
 |[],_=>[]
 |a::S,n=>(n-1)::U4 S (n-a)
theorem At.le{sz:List Nat}:∀{S:List Nat} {n:Nat},At sz S n->S.length<=n
 |[],_,_=>cL _
 |a::S,n,⟨_,h2,h3,h4⟩=>by have:=At.le h4;simp;omega
section
variable{ps:List Pl}{sz:List Nat}{lk:List (Option Nat×Option Nat)}
end
theorem Ce(t:List Pl)(n:Nat):(gN t).und n=true:=by
 unfold gN W.und
 induction t with
 |nil=>rfl
 |cons x r ih=>simp only[aP,undWs,ih,cK];simp[Pl.w,W.und,undWs]
theorem ng(a:List Pl)(st:List am):dM [gN a] st=.ok (.int a.length) st:=by
 unfold gN
 rw[BU,al]
theorem Iz{a:List Pl}{p:Pl}(h:a[q]?=some p)(st:List am):b9 (gN a) (.int q) st=.ok p.w st:=lT (dR (by simp[h]))
theorem IA(p:Pl)(st:List am):b9 p.w (.int 1) st=.ok (.str p.m) st:=rfl
theorem V8(p:Pl)(st:List am):b9 p.w (.int 0) st=.ok (.int p.b) st:=rfl
section
variable{ps:List Pl}{sz:List Nat}{lk:List (Option Nat×Option Nat)}
end
theorem IB{c:Nat}:wm false (.str [c]) (.str l) st=.ok (.bl (decide (c∈l))) st:=rfl
theorem uP{st1:List am}(h:fe ρ st=.ok (.str l) st1):dC fe ρ st=.ok (fg l,none) st1:=by unfold dC;rw[h];rfl
theorem AN{w:W}(h:(fg l)[i]?=some w):∃c,l[i]?=some c/\w=.str [c]:=by
 simp only[fg,aj,aG]at h
 obtain⟨c,h1,rfl⟩:=h
 exact⟨c,h1,rfl⟩
theorem pq(l:List Nat):(fg l).length=l.length:=by simp[fg]
theorem cZ{l:List α}{c:α}(h:l[i]?=some c):l.take (i+1)=l.take i++[c]:=by
 rw[List.take_succ,h];rfl
noncomputable def fC(m:List Nat)(l:List Nat):Nat:=l.foldl (fun a c=>2*a+if c∈m then 1 else 0) 0
theorem sW(m l:List Nat)(c:Nat):fC m (l++[c])=2*fC m l+if c∈m then 1 else 0:=by unfold fC;rw[List.foldl_append];rfl
theorem uQ(m:List Nat)(l:List Nat):fC m l<2^l.length:=by
 have key:∀(l:List Nat) (a k:Nat),a<2^k->l.foldl (fun a c=>2*a+if c∈m then 1 else 0) a<2^(k+l.length):=by
  intro l
  induction l with
  |nil=>intro a k h;simpa using h
  |cons c r ih=>
   intro a k h
   have:=ih (2*a+if c∈m then 1 else 0) (k+1) (by rw[nD];split<;>omega)
   rw[eK,br,show k+(r.length+1)=k+1+r.length by omega];exact this
 have:=key l 0 0 (by simp)
 simpa[fC]using this
theorem sX(names m:List Nat)(st:List am):yH [.str names,.str m] st=.ok (.int (fC m names:Nat)) st:=by
 refine fY (N:=4) (ws:=[.str names,.str m]) (body:=TU) ?_ rfl
 apply aD
 ·(walk_at "evs")
 refine dO (fun i ρ s=>∃o3:Option W,ρ=[some (.str names),some (.str m),iO (fC m (names.take i):Nat),o3]/\s=st) (uP (st1:=st) kv) ⟨none,rfl,rfl⟩ (fun _ _ _ _=>trivial) ?_ ?_
 ·rintro i w ρ s hw ⟨o3,rfl,rfl⟩
  obtain⟨c,hc,rfl⟩:=AN hw
  refine⟨_,rfl,?_⟩
  have e:=sW m (names.take i) c
  rw[<- cZ hc]at e
  apply aD
  ·exact bD (bP kv cG (ma (.inr (by decide))))
  by_cases h:c∈m
  ·have t1:decide (c∈m)=true:=bf h
   rw[au h]at e
   apply qX
   ·exact bY (bP kv kv (by rw[IB,t1]))
   apply cU
   ·exact bD (bP kv cG eG)
   ·exact⟨_,_,rfl,_,by rw[e,dL,dm,nC];rfl,rfl⟩
  ·have t1:decide (c∈m)=false:=a8 h
   rw[ax h]at e
   apply pP
   ·exact bY (bP kv kv (by rw[IB,t1]))
   apply cU
   ·exact vC
   ·exact⟨_,_,rfl,_,by rw[e,dL,dm,nC];rfl,rfl⟩
 ·rintro ρ s ⟨o3,rfl,rfl⟩
  apply bC
  ·(walk_at "evs")
  ·exact⟨_,_,rfl,by rw[show(fg names,(none:Option (Nat×List W))).fst.length=names.length from pq names,cz],[],by simp⟩
theorem xC(l:List Nat):oA [] (l.map fun c=>[c])=l:=by
 rw[pd]
 induction l with
 |nil=>rfl
 |cons a r ih=>simp only[aP,cP,ih];rfl
theorem IC(l:List Nat):(((l.map fun c=>[c])).map List.length).sum=l.length:=by
 induction l with
 |nil=>rfl
 |cons a r ih=>simp only[aP,jN,br,ih,gr];omega
theorem QJ{fe:FE}(T:Nat->Bool)(h:fe ρ st=.ok (.str l) st1)(hl:l.length<=10000)(h0:0<cap.length)
  (ht:∀c∈l,t ((oH cap ρ).set 0 (some (.str [c]))) st1=.ok (T c) st1) :
  ∃x,Gm mw (eC (.str [])) (ak (dq cap (dC fe) (eM 0) t (af 0)) aB) ρ st=.ok (.str (l.filter T)) (st1++x):=by
 have cg:=oM (cap:=cap) (ρ:=ρ) (st:=st) (st1:=st1) (f:=eM 0) (t:=t) (el:=af 0) (fun w=>match w with|.str [c]=>T c|_=>false) id (uP h) (by rw[pq];show _<=1000000;omega) trivial fun w hw=>by
  obtain⟨c,hc,rfl⟩:=ba.mp hw
  exact⟨_,rfl,ht c hc,fun _=>dX (by rw[bn (by simp[oH];exact h0)];rfl)⟩
 have e:((fg l).filter (fun w=>match w with|.str [c]=>T c|_=>false)).map id=((l.filter T).map fun c=>[c]).map W.str:=by
  rw[iX]
  unfold fg
  rw[gz,aS];rfl
 rw[e]at cg
 have hj:=yy (sep:=[]) (st:=st1++[.lst (((l.filter T).map fun c=>[c]).map W.str)]) (n:=st1.length) (a_ bc) (by
  rw[IC]
  have:=b_ T l
  show _<=1000000;simp;omega)
 rw[xC]at hj
 exact⟨_,GO cG rfl (av cg aV) hj⟩
theorem QK(k:Nat)(hk:k<=1000)(st:List am):Ig [.int k] st=.ok (.int (2^k:Nat)) st:=by
 refine fY (N:=3) (ws:=[.int k]) (body:=TQ) ?_ rfl
 apply aD
 ·(walk_at "evs")
 refine dO (fun i ρ s=>∃o2:Option W,ρ=[iO k,iO (2^i:Nat),o2]/\s=st) (jf (q:=(k:Int)) (st1:=st) kn (by omega)) ⟨none,rfl,rfl⟩ (fun _ _ _ _=>trivial) ?_ ?_
 ·rintro i w ρ s hw ⟨o4,rfl,rfl⟩
  obtain⟨hi,rfl⟩:=kO hw
  refine⟨_,rfl,?_⟩
  apply cU
  ·exact bD (bP kv cG (ma (.inr (by decide))))
  ·exact⟨_,_,rfl,_,by rw[show((2^i:Nat):Int)*2=((2^(i+1):Nat):Int) by rw[nD,dm];rfl];rfl,rfl⟩
 ·rintro ρ s ⟨o2,rfl,rfl⟩
  apply bC
  ·(walk_at "evs")
  ·refine⟨_,_,rfl,?_,[],by simp⟩
   rw[show(fP 0 (k:Int).toNat,(none:Option (Nat×List W))).fst.length=k by simp[dQ]]
noncomputable def wK(n a k:Nat):Bool:=decide (a/2^(n-1-k)%2=1)
def pS(nm:List Nat)(a:Nat):List Nat:=((List.range nm.length).filter (wK nm.length a)).map fun k=>nm.getD k 0
def JG(nm:List Nat)(a i:Nat):List Nat:=((List.range' (nm.length-i) i).filter (wK nm.length a)).map fun k=>nm.getD k 0
theorem Lp(m:Nat):Builtin.bitAnd (m:Int) 1=((m%2:Nat):Int):=by
 unfold Builtin.bitAnd
 rw[bf (by omega),bf (by omega)]
 show((((m:Int).toNat &&& 1:Nat)):Int)=_
 rw[aO,Nat.and_one_is_mod]
theorem yP:vd (.int (m:Nat)) (.int 1) st=.ok (.int ((m%2:Nat):Int)) st:=by
 rw[<- Lp];exact fI trivial
theorem ID{a c:Nat}:wE (.int (a:Nat)) (.int (c:Nat)) st=.ok (.int ((a/2^c:Nat):Int)) st:=by
 have:=fI (C:=fun(_ j:Int)=>0<=j) (f:=fun i j=>i/2^j.toNat) (p:=(a:Int)) (q:=(c:Int)) (st:=st) (by omega)
 rw[show wE (.int (a:Nat)) (.int (c:Nat)) st=_ from this,aO]
 simp
theorem IE(nm:List Nat)(a i:Nat)(hi:i<nm.length):JG nm a (i+1)=(if a/2^i%2=1 then[nm.getD (nm.length-1-i) 0]else[])++JG nm a i:=by
 unfold JG
 rw[List.range'_succ,show nm.length-(i+1)+1=nm.length-i by omega,dW]
 have e:wK nm.length a (nm.length-(i+1))=decide (a/2^i%2=1):=by unfold wK;rw[show nm.length-1-(nm.length-(i+1))=i by omega]
 rw[e,show nm.length-(i+1)=nm.length-1-i by omega]
 by_cases h:a/2^i%2=1
 ·simp[h]
 ·simp[h]
theorem Dt(nm:List Nat)(a:Nat):JG nm a nm.length=pS nm a:=by
 unfold JG pS;rw[kJ,List.range_eq_range']
theorem Du(nm:List Nat)(a i:Nat):(JG nm a i).length<=i:=by
 unfold JG
 rw[al]
 exact aL (b_ _ _) (by simp)
theorem uR(nm:List Nat)(a:Nat):(pS nm a).length<=nm.length:=by rw[<- Dt];exact Du nm a _
theorem AO(nm:List Nat)(a:Nat)(hn:nm.length<=60)(st:List am):AD [.str nm,.int (a:Nat)] st=.ok (.str (pS nm a)) st:=by
 refine fY (N:=5) (ws:=[.str nm,.int (a:Nat)]) (body:=TW) ?_ rfl
 apply aD
 ·(walk_at "evs")
 apply aD
 ·(walk_at "evs")
 refine dO (fun i ρ s=>∃o:Option W,ρ=[some (.str nm),iO (a:Nat),some (.str (JG nm a i)),iO ((a/2^i:Nat):Int),o]/\s=st) (k:=(fg nm.reverse,none)) (st1:=st)
  (by unfold BK;rw[show ak (af 0) aB _ st=.ok [.str nm] st from rfl];simp only[R.bind_ok];rw[au (by omega)]) ⟨none,by rw[Nat.pow_zero,Nat.div_one];rfl,rfl⟩ (fun _ _ _ _=>trivial) ?_ ?_
 ·rintro i w ρ s hw ⟨o,rfl,rfl⟩
  unfold fg at hw
  rw[aj]at hw
  have hi:i<nm.length:=by
   rcases kG i nm.length with z|z
   ·exact z
   ·rw[az (by simpa using z)]at hw;cases hw
  rw[gI hi,ae (by omega)]at hw
  have hw:some (W.str [nm[nm.length-1-i]])=some w:=hw
  cases hw
  have hg:nm[nm.length-1-i]'(by omega)=nm.getD (nm.length-1-i) 0:=by rw[ao,ae (by omega)];rfl
  have hl:=Du nm a i
  have hnext:∀m:List Nat,m=JG nm a (i+1)->i8 (EJ fun ρ s'=>∃o:Option W,ρ=[some (.str nm),iO (a:Nat),some (.str (JG nm a (i+1))),iO ((a/2^(i+1):Nat):Int),o]/\s'=s) (b8 3 (e2 wE (af 3) (eI 1)) [some (.str nm),iO (a:Nat),some (.str m),iO ((a/2^i:Nat):Int),some (.str [nm[nm.length-1-i]])] s):=fun m hm=>by
   subst hm
   refine⟨_,_,bD (bP kv cG (ID (c:=1))),some (.str [nm[nm.length-1-i]]),?_,rfl⟩
   rw[nE,<- Nat.pow_add];rfl
  refine⟨_,rfl,?_⟩
  have mP:=IE nm a i hi
  by_cases hb:a/2^i%2=1
  ·rw[au hb]at mP
   apply kN
   ·exact bY (bP (bP kv cG yP) cG (je (by rw[hb];rfl)))
   apply aD
   ·exact bD (bP kv kv (yx (by simp only[br,gr];show _<=1000000;omega)))
   exact hnext _ (by rw[mP,hg])
  ·rw[ax hb]at mP
   apply du
   ·exact bY (bP (bP kv cG yP) cG (je (by rw[bI];omega)))
   apply dZ
   exact hnext _ (by rw[mP];rfl)
 ·rintro ρ s ⟨o,rfl,rfl⟩
  refine bC kv ⟨_,_,rfl,?_,[],by simp⟩
  rw[show(fg nm.reverse).length=nm.length by simp[fg],Dt]
section
variable{kvs:List (DK×W)}
theorem Dv(h:st[n]?=some (.dct kvs)):ga st (.loc n)=some (n,kvs):=by simp only[ga,h]
theorem QL(h:st[n]?=some (.dct kvs)):EG st (.loc n)=some (n,kvs):=by simp only[EG,h]
theorem IF{v:W}(h:st[n]?=some (.dct kvs))(hl:kvs.length<mj):qQ (.loc n) (.int q) v st=some (st.set n (.dct (kX kvs (.i q) v))):=by
 simp only[qQ,QL h,pM];rw[au hl]
theorem Nf{w:W}(h:ga st (.loc n)=some (n,kvs))(hb:kW kvs (.i q)=some w):yo (.loc n) (.int q) st=.ok w st:=by
 simp only[yo,h,pM,hb,c5]
end
theorem IG(hl:l.length<4000)(h:∀c∈l,c∈LL)(st:List am):Lh [.str l] st=.ok (.str (mx l)) st:=by
 have hs:(mx l).length<64:=by
  have:(mx l).length<=LL.length:=pL ((Aa l).imp fun h=>aX h) fun c hc=>h c (sJ.mp hc)
  have e:LL.length=52:=by decide
  omega
 have e1:qJ (af 0) [some (.str l)] st=.ok (.loc st.length) (st++[.lst (fg (mx l))]):=by
  unfold qJ
  rw[dX (w:=.str l) rfl]
  simp only[R.bind_ok,vp,c5]
  rw[au ⟨hl,hs⟩]
 have hj:=yy (sep:=[]) (ls:=(mx l).map fun c=>[c]) (st:=st++[.lst (fg (mx l))]) (n:=st.length) (a_ (by rw[bc];unfold fg;rw[aS];rfl)) (by
  rw[rq];show _<=1000000;simp;omega)
 rw[xC]at hj
 refine fY ?_ rfl
 apply bC
 ·exact GO cG rfl (av e1 aV) hj
 ·exact⟨_,_,rfl,rfl,_,rfl⟩
section
variable{a:Nat}
theorem Lq(hd:nm.Nodup){k c:Nat}(hk:nm[k]?=some c):c∈pS nm a↔wK nm.length a k=true:=by
 have hl:=(ac.mp hk).1
 unfold pS
 constructor
 ·intro h
  obtain⟨j,hj,e⟩:=ba.mp h
  obtain⟨h1,h2⟩:=cH.mp hj
  have h1:=bN.mp h1
  have ej:nm[j]?=some c:=by rw[ao,ae h1]at e;rw[ae h1];exact gY some e
  have:j=k:=by
   obtain⟨q1,e1⟩:=ac.mp ej
   obtain⟨q2,e2⟩:=ac.mp hk
   rcases Nat.lt_trichotomy j k with z|z|z
   ·exact(io.mp hd j k q1 q2 z (e1.trans e2.symm)).elim
   ·exact z
   ·exact(io.mp hd k j q2 q1 z (e2.trans e1.symm)).elim
  rw[<- this];exact h2
 ·intro h
  exact ba.mpr ⟨k,cH.mpr ⟨bN.mpr hl,h⟩,by rw[ao,hk];rfl⟩
theorem xD(hd:nm.Nodup)(ha:a<2^nm.length):∀j,j<=nm.length->fC (pS nm a) (nm.take j)=a/2^(nm.length-j)
 |0,_=>by
  rw[r6,Nat.div_eq_of_lt ha];rfl
 |j+1,h=>by
  have hj:nm[j]?=some nm[j]:=ae (by omega)
  rw[cZ hj,sW,xD hd ha j (by omega)]
  have e:2^(nm.length-j)=2^(nm.length-(j+1))*2:=by rw[<- nD];congr 1;omega
  rw[e,<- nE]
  have hm:=Lq (a:=a) hd hj
  unfold wK at hm
  rw[show nm.length-1-j=nm.length-(j+1) by omega,bH]at hm
  generalize a/2^(nm.length-(j+1))=q at hm ⊢
  by_cases z:nm[j]∈pS nm a
  ·rw[au z];have:=hm.mp z;omega
  ·rw[ax z];have:¬ q%2=1:=fun y=>z (hm.mpr y);omega
theorem IH(hd:nm.Nodup)(ha:a<2^nm.length):fC (pS nm a) nm=a:=by
 have:=xD hd ha nm.length (aw _)
 rw[cz,kJ,Nat.pow_zero,Nat.div_one]at this
 exact this
end
theorem qi{m m':List Nat}(h:∀c∈l,c∈m↔c∈m'):fC m l=fC m' l:=by
 have key:∀(l:List Nat) (a:Nat),(∀c∈l,c∈m↔c∈m')->l.foldl (fun a c=>2*a+if c∈m then 1 else 0) a=l.foldl (fun a c=>2*a+if c∈m' then 1 else 0) a:=by
  intro l
  induction l with
  |nil=>intro a _;rfl
  |cons c r ih=>
   intro a h
   rw[eK,eK,ih _ fun c hc=>h c (by simp[hc])]
   congr 2
   by_cases hc:c∈m
   ·rw[au hc,au ((h c (by simp)).mp hc)]
   ·rw[ax hc,ax fun z=>hc ((h c (by simp)).mpr z)]
 exact key l 0 h
theorem vQ(names m:List Nat)(st:List am):rh [.str names,.str m] st=.ok (.int (fC m names:Nat)) st:=by
 refine fY (N:=4) (ws:=[.str names,.str m]) (body:=Na) ?_ rfl
 apply aD
 ·(walk_at "evs")
 refine dO (fun i ρ s=>∃o3:Option W,ρ=[some (.str names),some (.str m),iO (fC m (names.take i):Nat),o3]/\s=st) (uP (st1:=st) kv) ⟨none,rfl,rfl⟩ (fun _ _ _ _=>trivial) ?_ ?_
 ·rintro i w ρ s hw ⟨o3,rfl,rfl⟩
  obtain⟨c,hc,rfl⟩:=AN hw
  refine⟨_,rfl,?_⟩
  have e:=sW m (names.take i) c
  rw[<- cZ hc]at e
  have bi:vf [.bl (decide (c∈m))] s=.ok (.int ((if c∈m then 1 else 0:Nat):Int)) s:=by
   by_cases h:c∈m
   ·rw[bf h,au h];rfl
   ·rw[a8 h,ax h];rfl
  apply cU
  ·exact bD (bP (bP cG kv (ma (.inl (by decide)))) (bW (av (bP kv kv IB) aV) bi) eG)
  ·exact⟨_,_,rfl,_,by rw[e,dL,dm];rfl,rfl⟩
 ·rintro ρ s ⟨o3,rfl,rfl⟩
  apply bC
  ·(walk_at "evs")
  ·exact⟨_,_,rfl,by rw[show(fg names,(none:Option (Nat×List W))).fst.length=names.length from pq names,cz],[],by simp⟩
def Ud(n:Nat)(x:Option Nat×Option Nat):Prop:=(∀k,x.1=some k->k<n)/\∀k,x.2=some k->k<n
theorem Gr.lk{ps:List Pl}{sz:List Nat}{lk:List (Option Nat×Option Nat)}(h:Gr ps S sz lk)(hx:lk[i]?=some x):Ud i x:=by
 obtain⟨_,l2,_⟩:=h.ok
 have hi:i<ps.length:=by have:=(ac.mp hx).1;omega
 obtain⟨S1,S2,p,k,x',g1,q1,q2,q3,hs,g2⟩:=h.step i hi
 rw[hx]at q3;cases q3
 obtain⟨_,_,ha⟩:=g1.ok
 rw[show(ps.take i).length=i by rw[aM];omega]at ha
 obtain⟨b,m⟩:=p
 cases hs with
 |z=>exact⟨fun k e=>by simp at e,fun k e=>by simp at e⟩
 |@l a S=>have:=ha.2.1;have:=ha.2.2.1;exact⟨fun k e=>by simp at e;omega,fun k e=>by simp at e⟩
 |@r a S=>have:=ha.2.1;have:=ha.2.2.1;exact⟨fun k e=>by simp at e,fun k e=>by simp at e;omega⟩
 |@b c a S=>have:=ha.2.1;have:=ha.2.2.1;exact⟨fun k e=>by simp at e;omega,fun k e=>by simp at e;omega⟩
theorem St.ex{n b:Nat}{S:List Nat}(hb:b<=3)(h:(b+1)/2<=S.length):∃S' k x,St n S b S' k x/\S'.length+(b+1)/2=S.length+1:=by
 obtain rfl|rfl|rfl|rfl:b=0\/b=1\/b=2\/b=3:=by omega
 ·exact⟨_,_,_,.z,by simp⟩
 ·match S,h with
  |a::S,_=>exact⟨_,_,_,.l,by simp⟩
 ·match S,h with
  |a::S,_=>exact⟨_,_,_,.r,by simp⟩
 ·match S,h with
  |c::a::S,_=>exact⟨_,_,_,.b,by simp⟩
  |[_],hz=>simp at hz
  |[],hz=>simp at hz
section
variable(n:Nat)(T:Nat->Nat->Nat->Nat)
def rG(r:List (List Nat)):Option Nat->List Nat
 |none=>ez n
 |some k=>r.getD k (ez n)
def km:List (List Nat)->List (Option Nat×Option Nat)->List (List Nat)->List (List Nat)
 |x::ns,y::lk,r=>km ns lk (r++[AM n T x (rG n r y.1) (rG n r y.2)])
 |_,_,r=>r
theorem vR(x:List Nat)(y:Option Nat×Option Nat):∀(ns:List (List Nat)) (lk:List (Option Nat×Option Nat)) (r:List (List Nat)),ns.length=lk.length->km n T (ns++[x]) (lk++[y]) r=km n T ns lk r++[AM n T x (rG n (km n T ns lk r) y.1) (rG n (km n T ns lk r) y.2)]
 |[],[],r,_=>rfl
 |a::ns,b::lk,r,h=>vR x y ns lk _ (by simpa using h)
 |[],_::_,_,h=>by simp at h
 |_::_,[],_,h=>by simp at h
theorem yQ:∀(ns:List (List Nat)) (lk:List (Option Nat×Option Nat)) (r:List (List Nat)),ns.length=lk.length->(km n T ns lk r).length=r.length+ns.length
 |[],[],r,_=>rfl
 |a::ns,b::lk,r,h=>by
  show(km n T ns lk _).length=_
  rw[yQ ns lk _ (by simpa using h)];simp;omega
 |[],_::_,_,h=>by simp at h
 |_::_,[],_,h=>by simp at h
theorem rH:∀(ns:List (List Nat)) (lk:List (Option Nat×Option Nat)) (r:List (List Nat)),(∀v∈r,v.length=n)->∀v∈km n T ns lk r,v.length=n
 |x::ns,y::lk,r,h=>rH ns lk _ fun v hv=>by
  rcases aY.mp hv with z|z
  ·exact h v z
  ·rw[bB.mp z,Ln]
 |[],[],r,h=>h
 |[],_::_,_,h=>h
 |_::_,[],_,h=>h
end
theorem II{c:Nat}:wm true (.str [c]) (.str l) st=.ok (.bl (!decide (c∈l))) st:=rfl
theorem vS(m nm:List Nat)(hm:m.length<=10000)(st:List am):xw [.str m,.str nm] st=.ok (.str (m.filter fun c=>!decide (c∈nm))) st:=by
 obtain⟨x,e⟩:=QJ (fe:=af 0) (t:=gn (e2 (wm true) (af 0) (af 1))) (cap:=[none,some 1]) (ρ:=[some (.str m),some (.str nm)]) (st:=st) (l:=m) (fun c=>!decide (c∈nm)) kv hm (by decide) fun c _=>bY (bP kv kv II)
 refine fY (N:=2) (ws:=[.str m,.str nm]) (body:=MZ) ?_ rfl
 apply bC
 ·exact e
 ·exact⟨_,_,rfl,rfl,_,rfl⟩
def jU(nm uw m:List Nat):List Nat:=(List.range (2^uw.length)).map fun c=>fC (m.filter fun d=>!decide (d∈uw)) nm+fC (pS uw c) nm
theorem Cf(M:Mc)(uw m:List Nat)(hn:uw.length<=4)(hm:m.length<=10000)(st:List am):AE [M.w,.str uw,.str m] st=.ok (.loc st.length) (st++[.lst (nW (jU M.nm uw m))]):=by
 have hp:2^uw.length<=16:=aL (d8 (by decide) hn) (by decide)
 suffices hh:i8 (vD fun w bz=>∃j x,w=.loc (st.length+j)/\bz=st++x/\j=0/\x=[.lst (nW (jU M.nm uw m))]) (M0 ([M.w,.str uw,.str m].map some++List.replicate (4-3) none) st) by
  obtain⟨j,x,⟨rfl,rfl⟩,e⟩:=kC hh
  exact e
 apply aD
 ·exact bD (bM (av kx (av (bM (av kv kn) (vS m uw hm st) rfl) aV)) (sX M.nm _ st) rfl)
 generalize hA:fC (m.filter fun d=>!decide (d∈uw)) M.nm=A
 obtain⟨r,hr1,hr2,hr3⟩:=uL (cap:=[none,some 3,some 0,some 1]) (ρ:=[some M.w,some (.str uw),some (.str m),iO (A:Nat)]) (st:=st) (n:=2^uw.length)
  (el:=e2 eE (af 1) (cb 2 yH (ak (e2 b9 (af 2) (eI 0)) (ak (cb 2 AD (ak (af 3) (ak (af 0) aB))) aB))))
  (fs:=ak (cb 1 Ig (ak (bE dM (ak (af 1) aB)) aB)) aB) (fun k:Nat=>W.int k) (fun i b=>b=A+fC (pS uw i) M.nm)
  (av (bM (av (bW kn (m6 (by show _<=1000000;omega))) aV) (QK _ (by omega) st) rfl) aV) (by omega) fun i hi=>by
   refine⟨_,rfl,?_⟩
   have:=bP (f:=eE) (ρ:=[iO (i:Nat),iO (A:Nat),some M.w,some (.str uw)]) (st:=st) (fa:=af 1) (fb:=cb 2 yH (ak (e2 b9 (af 2) (eI 0)) (ak (cb 2 AD (ak (af 3) (ak (af 0) aB))) aB))) kv
    (bM (av kx (av (bM (av kv kn) (AO uw i (by omega) st) rfl) aV)) (sX M.nm (pS uw i) st) rfl) eG
   rw[<- dL]at this
   exact this
 have er:r=jU M.nm uw m:=by
  unfold jU
  rw[hA]
  refine b6 fun i=>?_
  rw[aj]
  by_cases hi:i<2^uw.length
  ·rw[aJ hi,ae (by omega)]
   rw[hr2 i _ (ae (by omega))];rfl
  ·rw[az (by omega),az (by simpa using hi)];rfl
 subst er
 apply bC
 ·exact hr3
 ·exact⟨_,_,rfl,0,_,rfl,rfl,rfl,rfl⟩
def pT(st:List am)(x:W)(v:List Nat):Prop:=x=pB v\/∃p,x=.loc p/\st[p]?=some (.lst (nW v))
noncomputable def nz(v:List Nat):List Nat:=(List.range v.length).filter fun i=>decide (0<v.getD i 0)
theorem Dw(v:List Nat):jc (nW v)=(List.range v.length).map fun i=>W.tup [.int (i:Nat),.int (v.getD i 0:Nat)]:=by
 refine b6 fun i=>?_
 rw[aj]
 by_cases hi:i<v.length
 ·obtain⟨w,hw⟩:∃w,(jc (nW v))[i]?=some w:=⟨_,ae (by rw[iU];unfold nW;simpa using hi)⟩
  obtain⟨y,hy,rfl⟩:=kK hw
  unfold nW at hy
  rw[aj,a9 0 hi]at hy
  cases hy
  rw[hw,aJ hi];rfl
 ·rw[az (by rw[iU];unfold nW;simpa using hi),az (by simpa using hi)];rfl
noncomputable def cT:W->Bool
 |.tup [_,.int z]=>decide (z>0)
 |_=>false
noncomputable def cY:W->W
 |.tup [x,_]=>x
 |w=>w
theorem yR{v:List Nat}{x:W}(h:pT st x v)(hl:v.length<=1000):B8 [x] st=.ok (.loc st.length) (st++[.lst (nW (nz v))]):=by
 have hi:∃ck,iA st ck/\jL (ak (af 0) aB) [some x] st=.ok (jc (nW v),ck) st:=by
  rcases h with rfl|⟨p,rfl,hp⟩
  ·exact⟨none,trivial,rfl⟩
  ·refine⟨some (p,nW v),a_ hp,?_⟩
   unfold jL
   rw[show ak (af 0) aB [lO p] st=.ok [.loc p] st from rfl]
   simp only[R.bind_ok,a_ hp]
 obtain⟨ck,hck,hi⟩:=hi
 have hc:=oM (cap:=[none,none]) (f:=yf 2 (cR (eM 0) (cR (eM 1) jz))) (t:=gn (e2 Ey (af 1) (eI 0))) (el:=af 0) cT cY hi (by rw[iU];unfold nW;rw[al];show _<=1000000;omega) hck fun w hw=>by
  rw[Dw]at hw
  obtain⟨i,_,rfl⟩:=ba.mp hw
  exact⟨_,rfl,bY (bP kv cG (jQ rfl)),fun _=>dX rfl⟩
 have e:((jc (nW v)).filter cT).map cY=nW (nz v):=by
  rw[Dw,gz,aS]
  unfold nW nz
  have:(cT∘fun i:Nat=>W.tup [.int (i:Nat),.int (v.getD i 0:Nat)])=fun i=>decide (0<v.getD i 0):=by
   funext i
   show decide (((v.getD i 0:Nat):Int)>0)=_
   rw[iG,bH,bH];omega
  rw[this];rfl
 rw[e]at hc
 suffices hh:i8 (vD fun w bz=>∃j y,w=.loc (st.length+j)/\bz=st++y/\j=0/\y=[.lst (nW (nz v))]) (TJ ([x].map some++List.replicate (1-1) none) st) by
  obtain⟨j,y,⟨rfl,rfl⟩,e⟩:=kC hh
  exact e
 apply bC
 ·exact hc
 ·exact⟨_,_,rfl,0,_,rfl,rfl,rfl,rfl⟩
def Kp(a b:Nat)(s0 s:List am):Prop:=∀(i:Nat) (c:am),s0[i]?=some c->i≠a->i≠b->s[i]?=some c
section
variable{a b:Nat}{s0 s1 s s2:List am}
theorem Kp.refl:Kp a b s s:=fun _ _ h _ _=>h
theorem Kp.trans(h:Kp a b s0 s1)(h2:Kp a b s1 s2):Kp a b s0 s2:=fun i c e x y=>h2 i c (h i c e x y) x y
theorem Kp.app{x:List am}(h:Kp a b s0 s):Kp a b s0 (s++x):=fun i c e x y=>aT (h i c e x y)
theorem Kp.of_app{x:List am}(h:Kp a b (s0++x) s):Kp a b s0 s:=fun i c e x y=>h i c (aT e) x y
theorem Kp.setA{c:am}(h:Kp a b s0 s):Kp a b s0 (s.set a c):=fun i d e x y=>by rw[fj (Ne.symm x)];exact h i d e x y
theorem Kp.setB{c:am}(h:Kp a b s0 s):Kp a b s0 (s.set b c):=fun i d e x y=>by rw[fj (Ne.symm y)];exact h i d e x y
end
theorem sY(L:List α)(t:α->Bool)(g:α->Nat)(h:∀x,t x=false->g x=0):sm (L.filter t) g=sm L g:=by
 induction L with
 |nil=>rfl
 |cons x L ih=>
  rw[dW,eU]
  cases e:t x
  ·rw[h x e,eX,ax (by simp)];exact ih
  ·rw[au rfl,eU,ih]
theorem Ng{v:List Nat}{a:Nat}(h:(nz v)[i]?=some a):a<v.length:=by
 have:=ay h
 exact bN.mp (cH.mp this).1
theorem Cg{x:W}{v:List Nat}{a:Nat}(h:pT st x v)(ha:a<v.length):b9 x (.int (a:Nat)) st=.ok (.int (v.getD a 0:Nat)) st:=by
 rcases h with rfl|⟨p,rfl,hp⟩
 ·exact vO (a9 0 ha)
 ·exact rB hp (a9 0 ha)
theorem Dx{fe:FE}{kvs:List (DK×W)}(h:fe ρ st=.ok (.loc n) st1)(hd:ga st1 (.loc n)=some (n,kvs)):qT fe ρ st=.ok (kvs.map (fun p=>.tup [p.1.w,p.2]),none) (st1.set n (.rod kvs)):=by
 unfold qT;rw[h];simp only[R.bind_ok,hd]
theorem xE{f:FG}{ρ0:cw}:∀(ws f_:List W) (C:Nat->am) (s:List am),(∀x,iA (s++x) ck)->(∀i w,ws[i]?=some w->∀x,∃ρ',f w ρ0=some ρ'/\el ρ' (s++x)=.ok (.loc (s++x).length) (s++x++[C i])) ->
  kT f iZ el ck ρ0 ws f_ s=.ok (f_++(List.range ws.length).map fun i=>W.loc (s.length+i)) (s++(List.range ws.length).map C)
 |[],f_,C,s,hc,_=>by
  have:=hc [];rw[ce]at this
  unfold kT;rw[au this];simp
 |w::ws,f_,C,s,hc,h=>by
  obtain⟨ρ',e1,e3⟩:=h 0 w rfl []
  rw[ce]at e3
  have hc0:=hc []
  rw[ce]at hc0
  unfold kT
  rw[au hc0,e1]
  simp only[show iZ ρ' s=.ok true s from rfl,e3]
  rw[xE ws _ (fun i=>C (i+1)) (s++[C 0]) (fun x=>by rw[bh];exact hc _) fun i v hv x=>by
   have:=h (i+1) v (by simpa using hv) ([C 0]++x)
   rw[<- bh]at this
   exact this]
  rw[br,eV,aE]
  simp[eh,gD,rX 1]
theorem Dy{s1:List am}{f:FG}{cap:List (Option Nat)}(C:Nat->am)(h:fi ρ st=.ok (ws,ck) s1)(hl:ws.length<=100000)(hc:∀x,iA (s1++x) ck)
  (hs:∀i w,ws[i]?=some w->∀x,∃ρ',f w (oH cap ρ)=some ρ'/\el ρ' (s1++x)=.ok (.loc (s1++x).length) (s1++x++[C i])) :
  dq cap fi f iZ el ρ st=.ok (.loc (s1.length+ws.length)) (s1++(List.range ws.length).map C++[.lst ((List.range ws.length).map fun i=>W.loc (s1.length+i))]):=by
 unfold dq
 rw[h]
 simp only[R.bind_ok]
 rw[au (show ws.length<=1000000 by omega),xE ws [] C s1 hc hs]
 simp only[R.bind_ok,gq,kR]
 rw[au (by rw[al,cC];show ws.length<=1000000;omega)]
 simp
theorem QM{fs:FA}(h:fs ρ st=.ok [.tup ws] st1):qa fs ρ st=.ok (jc ws,none) st1:=by unfold qa;rw[h];rfl
theorem QN{fs:FA}{i j:Int}(h:fs ρ st=.ok [.int i,.int j,.int (-1)] st1)(hq:-(2^60)<=i/\i<2^60/\-(2^60)<=j/\j<2^60):yl fs ρ st=.ok (qK i (i-j).toNat,none) st1:=by
 unfold yl;rw[h];simp only[R.bind_ok];rw[au ⟨trivial,hq⟩]
section
variable{c f m:Str}{fo:FE}{fs:FA}{z1 z2 z3:List am}{k L:Nat}{fl fl':List (Str×W)}{y w:W}{P:RS->Prop}{gc:FS}
theorem IJ(h1:fe ρ z=.ok y z1)(h2:fo ρ z1=.ok (.loc n) z2)(h3:z2[n]?=some (.obj c fl))(hl:fl.length<900):pz c f fo fe ρ z=.nx ρ (z2.set n (.obj c (ug f y fl))):=by
 unfold pz
 rw[h1];simp only[R.stmt_ok];rw[h2];simp only[R.stmt_ok,nJ,h3]
 rw[au ⟨trivial,hl⟩]
theorem qj(h:fa ρ z=.ok (.loc n) z1)(h3:z1[n]?=some (.obj c fl))(hk:fl.lookup f=some w):eF c f fa ρ z=.ok w z1:=by
 unfold eF
 rw[h];simp only[R.bind_ok,nJ,h3,iC,hk,c5]
theorem md(h:fo ρ z=.ok (.loc n) z1)(h3:z1[n]?=some (.obj c fl))(hm:fl.lookup m=none)(ha:fs ρ z1=.ok ws z2)(hn:ws.length+1=k)(hF:F (.loc n::ws) z2=.ok w z3):kY c m k F fo fs ρ z=.ok w z3:=by
 unfold kY
 rw[h];simp only[R.bind_ok,nJ,h3]
 rw[au ⟨trivial,hm⟩,ha];simp only[R.bind_ok]
 rw[au hn,hF]
theorem IK(ha:fs ρ z=.ok ws z1)(hn:ws.length+1=k)(hF:F (.loc z1.length::ws) (z1++[.obj c []])=.ok .non z2):Aj c k F fs ρ z=.ok (.loc z1.length) z2:=by
 unfold Aj
 rw[ha];simp only[R.bind_ok]
 rw[au hn,hF]
theorem jl(hρ:ρ[0]?=some (lO L))(h1:fe ρ z=.ok y z1)(h3:z1[L]?=some (.obj c fl))(hl:fl.length<900)(hf:ug f y fl=fl')(next:∀z',z'[L]?=some (.obj c fl')->Kp L L z1 z'->z'.length=z1.length->i8 P (gc ρ z')):i8 P (aW (pz c f (af 0) fe) gc ρ z):=by
 refine aD (IJ h1 (dX hρ) h3 hl) (next _ (by rw[iK h3,hf]) Kp.refl.setA (by simp))
end
def Ch(st z:List am):Prop:=∀(i:Nat) (c:am),st[i]?=some c->z[i]?=some c
theorem Ch.pre(h:Ch st z):∃x,z=st++x:=by
 have:st <+: z:=List.prefix_iff_getElem?.mpr fun i hi=>h i _ (ae hi)
 exact this.imp fun x e=>e.symm
theorem Ch.kp{a b:Nat}{z':List am}(h:Ch st z)(k:Kp a b z z')(ha:st.length<=a)(hb:st.length<=b):Ch st z':=fun i c e=>by
 have:=c_ e
 exact k i c (h i c e) (by omega) (by omega)
theorem ul(h:nm.length<=4)(st:List am):Dd [.str nm] st=.ok .non st:=by
 refine GU ?_
 apply pP
 ·exact bY (bP (bW kn (m6 (by show _<=1000000;omega))) cG (jQ (by simp;omega)))
 ·exact⟨_,_,rfl,[],by simp⟩
theorem Ci{M:Mc}{x:W}(hM:yJ M n)(hn:n<=1000)(hl:l.length=n)(hx:pT st x l):Ie [M.w,x] st=.ok (.int ((gf n M.gd l).sum:Nat)) st:=by
 rcases hx with rfl|⟨p,rfl,hp⟩
 ·exact AL hM hn hl st
 refine fY (w:=.int ((gf n M.gd l).sum:Nat)) ?_ rfl
 have hcm:=oM (cap:=[none,none]) (f:=yf 2 (cR (eM 0) (cR (eM 1) jz))) (t:=gn (af 1)) (el:=af 0) (ρ:=[some M.w,lO p]) (st:=st) (st1:=st) (ws:=ky (nW l) (M.gd.map W.bl)) (ck:=some (p,nW l)) (fi:=mZ (ak (af 1) (ak (e2 b9 (af 0) (eI 1)) aB))) zT zY
  (Iq (av kv (av kx aV)) (a_ hp)) (by rw[oJ];simp[nW,hl];have:=hM.gd;show _<=1000000;omega) (a_ hp) fun w hw=>by
   obtain⟨k,hk⟩:=fN hw
   obtain⟨x,y,hx,hy,rfl⟩:=oI hk
   rw[aj]at hy
   obtain⟨b,_,rfl⟩:=aG.mp hy
   exact⟨_,rfl,bY kv,fun _=>dX rfl⟩
 rw[Cc,Iv hl hM.gd,Cd]at hcm
 apply bC
 ·exact bW (av hcm aV) (AJ (a_ bc))
 ·exact⟨_,_,rfl,by rw[rF],_,rfl⟩
theorem rJ{M:Mc}{n L pc:Nat}{fl:List (Str×W)}{qs:List Nat}{V:List (List Nat)}(hM:yJ M n)(hn:n<=1000)(ho:z[L]?=some (.obj "Course" fl))(hm:fl.lookup ("machine":Str)=some M.w)(hc:fl.lookup ("counts":Str)=some (.loc pc))(EU:z[pc]?=some (.lst (qs.map W.loc)))
  (hq:∀j q:Nat,qs[j]?=some q->z[q]?=some (.lst (nW (V.getD j (ez n))))) (o:Option Nat) (hk:∀k,o=some k->k<qs.length):∃x,bO [.loc L,oW o] z=.ok x z/\pT z x (rG n V o):=by
 cases o with
 |none=>
  refine⟨pB (ez n),?_,.inl rfl⟩
  refine fY (w:=pB (ez n)) ?_ (by simp only[undWs,uM,cK])
  apply bC
  ·exact pN (bY (qW kv rfl)) (bM (av (qj kv ho hm) aV) (uk hM hn z) rfl)
  ·exact⟨_,_,rfl,rfl,[],by simp⟩
 |some k=>
  obtain⟨q,e⟩:∃q,qs[k]?=some q:=⟨_,ae (hk k rfl)⟩
  refine⟨.loc q,?_,.inr ⟨q,rfl,hq k q e⟩⟩
  refine jE ?_
  apply bC
  ·exact pO (bY (qW kv rfl)) (bP (qj kv ho hc) kv (k_ (a_ EU) (dR (by rw[aj,e];rfl))))
  ·exact⟨_,_,rfl,rfl,rfl⟩
section
variable{ps:List Pl}{sz:List Nat}{lk:List (Option Nat×Option Nat)}
theorem Gr.pf(h:Gr ps S sz lk)(hi:i<ps.length):∃(p:Pl) (L R:Nat),ps[i]?=some p/\sz[i]?=some (1+L+R)/\L+R<=i/\lk[i]?=some (if 0<L then some (i-1-R)else none,if 0<R then some (i-1)else none) /\
  p.b=(if 0<L then 1 else 0)+(if 0<R then 2 else 0)/\(0<R->sz[i-1]?=some R)/\(0<L->sz[i-1-R]?=some L):=by
 obtain⟨S1,S2,p,k,x,g1,q1,q2,q3,hs,_⟩:=h.step i hi
 obtain⟨l1,l2,ha⟩:=g1.ok
 have da:(ps.take i).length=i:=by rw[aM];omega
 rw[da]at ha
 obtain⟨b,m⟩:=p
 have get:∀j a,1<=i->j<i->(sz.take i)[j]?=some a->sz[j]?=some a:=fun j a hi1 hj e=>by
  rw[dh hj]at e;exact e
 cases hs with
 |z=>exact⟨⟨0,m⟩,0,0,q1,q2,by omega,q3,rfl,fun z=>absurd z (by omega),fun z=>absurd z (by omega)⟩
 |@l a S=>
  obtain⟨a1,a2,a3,_⟩:=ha
  refine⟨⟨1,m⟩,a,0,q1,q2,by omega,?_,?_,fun z=>absurd z (by omega),fun _=>get _ _ (by omega) (by omega) a1⟩
  ·rw[q3,au (by omega),ax (by omega),r6]
  ·rw[au (by omega),ax (by omega)]
 |@r a S=>
  obtain⟨a1,a2,a3,_⟩:=ha
  refine⟨⟨2,m⟩,0,a,q1,by rw[q2],by omega,?_,?_,fun _=>get _ _ (by omega) (by omega) a1,fun z=>absurd z (by omega)⟩
  ·rw[q3,ax (by omega),au (by omega)]
  ·rw[ax (by omega),au (by omega)]
 |@b c a S=>
  obtain⟨a1,a2,a3,b1,b2,b3,_⟩:=ha
  refine⟨⟨3,m⟩,a,c,q1,by rw[q2];congr 1;omega,by omega,?_,?_,fun _=>get _ _ (by omega) (by omega) a1,fun _=>get _ _ (by omega) (by omega) (by rw[show i-1-c=i-c-1 by omega];exact b1)⟩
  ·rw[q3,au (by omega),au (by omega)]
  ·rw[au (by omega),au (by omega)]
end
section
variable(n:Nat)(T:Nat->Nat->Nat->Nat)
theorem Dz:∀(ns:List (List Nat)) (lk:List (Option Nat×Option Nat)) (r:List (List Nat)),r <+: km n T ns lk r
 |x::ns,y::lk,r=>(bb _ _).trans (Dz ns lk _)
 |[],[],r=>ah _
 |[],_::_,r=>ah _
 |_::_,[],r=>ah _
theorem DA:∀(a b:List (List Nat)) (c d:List (Option Nat×Option Nat)) (r:List (List Nat)),a.length=c.length->km n T (a++b) (c++d) r=km n T b d (km n T a c r)
 |[],b,[],d,r,_=>rfl
 |x::a,b,y::c,d,r,h=>DA a b c d _ (by simpa using h)
 |[],_,_::_,_,_,h=>by simp at h
 |_::_,_,[],_,_,h=>by simp at h
theorem vT(N:List (List Nat))(lk:List (Option Nat×Option Nat))(hl:N.length=lk.length)(i:Nat):km n T (N.take i) (lk.take i) [] <+: km n T N lk []:=by
 have:=DA n T (N.take i) (N.drop i) (lk.take i) (lk.drop i) [] (by simp[hl])
 rw[gJ,gJ]at this
 rw[this]
 exact Dz n T _ _ _
end
theorem AQ{a b:List α}(h:a <+: b)(hi:i<a.length)(d:α):b.getD i d=a.getD i d:=by
 obtain⟨x,rfl⟩:=h
 rw[ao,ao,aK hi]
theorem yS{a b:List (List Nat)}(h:a <+: b){o:Option Nat}(ho:∀k,o=some k->k<a.length):rG n b o=rG n a o:=by
 cases o with
 |none=>rfl
 |some k=>exact AQ h (ho k rfl) _
theorem IL{lk:List (Option Nat×Option Nat)}(hl:N.length=lk.length)(hx:lk[i]?=some x)(hk:Ud i x) :
  (km n T N lk []).getD i (ez n)=AM n T (N.getD i []) (rG n (km n T N lk []) x.1) (rG n (km n T N lk []) x.2):=by
 have hi:i<N.length:=by have:=(ac.mp hx).1;omega
 have p1:=vT n T N lk hl i
 have p2:=vT n T N lk hl (i+1)
 have l1:(km n T (N.take i) (lk.take i) []).length=i:=by rw[yQ n T _ _ _ (by simp[hl])];simp;omega
 have e:km n T (N.take (i+1)) (lk.take (i+1)) []=km n T (N.take i) (lk.take i) []++[AM n T (N.getD i []) (rG n (km n T (N.take i) (lk.take i) []) x.1) (rG n (km n T (N.take i) (lk.take i) []) x.2)]:=by
  rw[cZ (a9 [] hi),cZ hx]
  exact vR n T _ _ _ _ _ (by simp[hl])
 rw[yS p1 (fun k e=>by rw[l1];exact hk.1 k e),yS p1 (fun k e=>by rw[l1];exact hk.2 k e)]
 rw[e]at p2
 rw[AQ p2 (by simp[l1]),ao,dE (by omega),l1];simp
section
variable(T:Nat->Nat->Nat->Nat)(g:Nat->Nat)
def qk:List Nat->List (List Nat)->List Nat->Nat
 |b::bs,x::ns,σ=>sm x fun t=>qk bs ns (rE T b t σ)
 |_,_,σ=>g (σ.headD 0)
def cs(bs:List Nat)(N:List (List Nat))(j:Nat)(σ:List Nat):Nat:=qk T g (bs.drop j) (N.drop j) σ
theorem yT{bs:List Nat}(hl:N.length=bs.length){b:Nat}(hj:bs[j]?=some b)(σ:List Nat):cs T g bs N j σ=sm (N.getD j []) fun t=>cs T g bs N (j+1) (rE T b t σ):=by
 obtain⟨h1,h2⟩:=ac.mp hj
 unfold cs
 rw[bd h1,bd (show j<N.length by omega),h2]
 show sm N[j] _=_
 rw[ao,ae (by omega)];rfl
theorem IM{bs:List Nat}(hj:bs.length<=j)(σ:List Nat):cs T g bs N j σ=g (σ.headD 0):=by
 unfold cs
 rw[eW hj];rfl
end
noncomputable def sk(sz rs:List Nat):Nat->List Nat
 |0=>[]
 |j+1=>rs.getD j 0::sk sz rs (j+1-max 1 (sz.getD j 0))
termination_by j=>j
decreasing_by omega
theorem hW{sz rs:List Nat}{k:Nat}(h:sz[j]?=some k)(hk:1<=k):sk sz rs (j+1)=rs.getD j 0::sk sz rs (j+1-k):=by
 rw[sk,ao (l:=sz),h,show max 1 ((some k).getD 0)=k by show max 1 k=k;omega]
theorem vU{sz rs rs':List Nat}:∀j,(∀k,k<j->rs.getD k 0=rs'.getD k 0)->sk sz rs j=sk sz rs' j:=by
 intro j
 induction j using Nat.strongRecOn with
 |_ j ih=>
  intro h
  cases j with
  |zero=>rw[sk,sk]
  |succ j=>rw[sk,sk,h j (by omega),ih _ (by omega) fun k hk=>h k (by omega)]
noncomputable def j'(rs:List Nat):Option Nat->Nat
 |none=>0
 |some k=>rs.getD k 0
section
variable{ps:List Pl}{sz:List Nat}{lk:List (Option Nat×Option Nat)}{g:Nat->Nat}
theorem IN(h:Gr ps S sz lk)(hN:N.length=ps.length)(hT:∀t a b,T t a b<n)(hn:1<=n):∀(r k:Nat),sz[r]?=some k->∀τ,cs T g (ps.map Pl.b) N (r+1-k) τ=pk n ((km n T N lk []).getD r (ez n)) fun q=>cs T g (ps.map Pl.b) N (r+1) (q::τ):=by
 obtain⟨l1,l2,_⟩:=h.ok
 intro r
 induction r using Nat.strongRecOn with
 |_ r ih=>
  intro k hk τ
  have hr:r<ps.length:=by have:=(ac.mp hk).1;omega
  obtain⟨p,L,R,q1,q2,q3,q4,q5,q6,q7⟩:=h.pf hr
  rw[hk]at q2
  have hkk:k=1+L+R:=aF q2
  have hb:(ps.map Pl.b)[r]?=some p.b:=by rw[aj,q1];rfl
  have st:=yT T g (bs:=ps.map Pl.b) (N:=N) (by simpa using hN) hb
  rw[IL (by omega) q4 (h.lk q4),Ds hT]
  by_cases hL:0<L
  ·by_cases hR:0<R
   ·rw[au hL,au hR]at q5 ⊢
    rw[show(1+2:Nat)=3 from rfl]at q5
    have i1:=ih (r-1-R) (by omega) L (q7 hL) τ
    rw[show r-1-R+1-L=r+1-k by omega]at i1
    rw[i1]
    refine oR fun a=>?_
    have i2:=ih (r-1) (by omega) R (q6 hR) (a::τ)
    rw[show r-1+1-R=r-1-R+1 by omega]at i2
    rw[i2,show r-1+1=r by omega]
    refine oR fun b=>?_
    rw[st,q5];rfl
   ·rw[au hL,ax hR]at q5 ⊢
    rw[show(1+0:Nat)=1 from rfl]at q5
    have i1:=ih (r-1-R) (by omega) L (q7 hL) τ
    rw[show r-1-R+1-L=r+1-k by omega]at i1
    rw[i1]
    refine oR fun a=>?_
    show _=pk n (ez n) _
    rw[qh hn,show r-1-R+1=r by omega,st,q5];rfl
  ·by_cases hR:0<R
   ·rw[ax hL,au hR]at q5 ⊢
    rw[show(0+2:Nat)=2 from rfl]at q5
    show _=pk n (ez n) _
    rw[qh hn]
    have i2:=ih (r-1) (by omega) R (q6 hR) τ
    rw[show r-1+1-R=r+1-k by omega]at i2
    rw[i2,show r-1+1=r by omega]
    refine oR fun b=>?_
    rw[st,q5];rfl
   ·rw[ax hL,ax hR]at q5 ⊢
    rw[show(0+0:Nat)=0 from rfl]at q5
    show _=pk n (ez n) fun a=>pk n (ez n) _
    rw[qh hn,qh hn,show r+1-k=r by omega,st,q5];rfl
theorem DB(h:Gr ps S sz lk)(rs:List Nat){k:Nat}{p:Pl}(hp:ps[i]?=some p)(hx:lk[i]?=some x)(hk:sz[i]?=some k)(t:Nat):rE T p.b t (sk sz rs i)=T t (j' rs x.1) (j' rs x.2)::sk sz rs (i+1-k):=by
 have hi:i<ps.length:=(ac.mp hp).1
 obtain⟨p',L,R,q1,q2,q3,q4,q5,q6,q7⟩:=h.pf hi
 rw[hp]at q1;cases q1
 rw[hx]at q4
 have q4:=aF q4
 rw[hk]at q2
 have hkk:k=1+L+R:=aF q2
 subst q4
 by_cases hL:0<L
 ·by_cases hR:0<R
  ·rw[au hL,au hR]at q5 ⊢
   have e1:=hW (rs:=rs) (q6 hR) hR
   rw[show i-1+1=i by omega]at e1
   have e2:=hW (rs:=rs) (q7 hL) hL
   rw[show i-1-R+1=i-R by omega]at e2
   rw[e1,e2,q5,show i-R-L=i+1-k by omega];rfl
  ·rw[au hL,ax hR]at q5 ⊢
   have e2:=hW (rs:=rs) (q7 hL) hL
   rw[show i-1-R+1=i by omega]at e2
   rw[e2,q5,show i-L=i+1-k by omega];rfl
 ·by_cases hR:0<R
  ·rw[ax hL,au hR]at q5 ⊢
   have e1:=hW (rs:=rs) (q6 hR) hR
   rw[show i-1+1=i by omega]at e1
   rw[e1,q5,show i-R=i+1-k by omega];rfl
  ·rw[ax hL,ax hR]at q5 ⊢
   rw[q5,show i+1-k=i by omega];rfl
theorem Ue(h:Gr ps S sz lk)(rs:List Nat){k:Nat}{p:Pl}(hp:ps[i]?=some p)(hx:lk[i]?=some x)(hk:sz[i]?=some k) :
  (p.b=0/\x=(none,none)/\sk sz rs i=sk sz rs (i+1-k))\/(p.b=1/\(∃l,x=(some l,none))/\sk sz rs i=j' rs x.1::sk sz rs (i+1-k)) \/
  (p.b=2/\(∃r,x=(none,some r))/\sk sz rs i=j' rs x.2::sk sz rs (i+1-k))\/(p.b=3/\x.1≠none/\x.2≠none/\sk sz rs i=j' rs x.2::j' rs x.1::sk sz rs (i+1-k)):=by
 have hi:i<ps.length:=(ac.mp hp).1
 obtain⟨p',L,R,q1,q2,q3,q4,q5,q6,q7⟩:=h.pf hi
 rw[hp]at q1;cases q1
 rw[hx]at q4
 have q4:=aF q4
 rw[hk]at q2
 have hkk:k=1+L+R:=aF q2
 subst q4
 by_cases hL:0<L
 ·by_cases hR:0<R
  ·rw[au hL,au hR]at q5 ⊢
   have e1:=hW (rs:=rs) (q6 hR) hR
   rw[show i-1+1=i by omega]at e1
   have e2:=hW (rs:=rs) (q7 hL) hL
   rw[show i-1-R+1=i-R by omega]at e2
   exact .inr (.inr (.inr ⟨q5,by simp,by simp,by rw[e1,e2,show i-R-L=i+1-k by omega];rfl⟩))
  ·rw[au hL,ax hR]at q5 ⊢
   have e2:=hW (rs:=rs) (q7 hL) hL
   rw[show i-1-R+1=i by omega]at e2
   exact .inr (.inl ⟨q5,⟨_,rfl⟩,by rw[e2,show i-L=i+1-k by omega];rfl⟩)
 ·by_cases hR:0<R
  ·rw[ax hL,au hR]at q5 ⊢
   have e1:=hW (rs:=rs) (q6 hR) hR
   rw[show i-1+1=i by omega]at e1
   exact .inr (.inr (.inl ⟨q5,⟨_,rfl⟩,by rw[e1,show i-R=i+1-k by omega];rfl⟩))
  ·rw[ax hL,ax hR]at q5 ⊢
   exact .inl ⟨q5,rfl,by rw[show i+1-k=i by omega]⟩
theorem DC(h:Gr ps S sz lk)(ro:Nat){k:Nat}(hk:sz[rs.length]?=some k)(h1:1<=k):sk sz (rs++[ro]) (rs.length+1)=ro::sk sz rs (rs.length+1-k):=by
 rw[hW hk h1]
 congr 1
 ·rw[ao];simp
 ·exact vU _ fun j hj=>by rw[ao,ao,aK (by omega)]
theorem IP(rs:List Nat):∀j,(sk sz rs j).length<=j:=by
 intro j
 induction j using Nat.strongRecOn with
 |_ j ih=>
  cases j with
  |zero=>rw[sk];exact aw _
  |succ j=>
   rw[sk,br]
   have:=ih (j+1-max 1 (sz.getD j 0)) (by omega)
   omega
theorem QO(l:List (Option Nat×Option Nat))(n:Nat):undWs n (l.map uO)=true:=by
 induction l with
 |nil=>rfl
 |cons x r ih=>
  obtain⟨a,b⟩:=x
  simp only[aP,undWs,ih,cK,uO,W.und]
  cases a<;>cases b<;>rfl
theorem vV(h:Gr ps S sz lk)(hn:ps.length<=1000)(st:List am):tW [gN ps] st=.ok (.tup (lk.map uO)) st:=by
 obtain⟨l1,l2,_⟩:=h.ok
 refine fY (N:=7) (ws:=[gN ps]) (body:=MX) ?_ (by simp[undWs,W.und,QO])
 have rg:∀k,k<ps.length->(List.range ps.length).getD k 0=k:=fun k hk=>by rw[ao,aJ hk];rfl
 generalize hR:List.range ps.length=R at rg
 apply aD
 ·exact bD (kZ aV (aQ rfl))
 apply aD
 ·exact bD (kZ aV (aQ rfl))
 rw[show(st++[am.lst []]).length=st.length+1 by simp]
 refine dO (fun i ρ s=>∃(o3 o4 o5 o6:Option W),ρ=[some (gN ps),some (.loc st.length),some (.loc (st.length+1)),o3,o4,o5,o6]/\s=st++[.lst ((lk.take i).map uO),.lst (nW (sk sz R i).reverse)]) (k:=(jc (ps.map Pl.w),none)) (st1:=st++[am.lst []]++[am.lst []])
  rfl ⟨none,none,none,none,rfl,by rw[bh,sk];rfl⟩ (fun _ _ _ _=>trivial) ?_ ?_
 ·rintro i w ρ s hw ⟨o3,o4,o5,o6,rfl,rfl⟩
  obtain⟨y,hy,rfl⟩:=kK hw
  rw[aj]at hy
  obtain⟨p,hp,rfl⟩:=aG.mp hy
  have hi:i<ps.length:=(ac.mp hp).1
  obtain⟨x,hx⟩:∃x,lk[i]?=some x:=⟨_,ae (by omega)⟩
  obtain⟨p',L,Q,q1,q2,q3,q4,q5,_⟩:=h.pf hi
  rw[hp]at q1;cases q1
  have hb3:p.b<=3:=by rw[q5];split<;>split<;>omega
  obtain⟨u1,u2⟩:=h.lk hx
  have ob:∀o,(∀k,o=some k->k<i)->o≠none->W.int (j' R o:Nat)=oW o:=fun o ho xO=>by
   cases o with
   |none=>exact absurd rfl xO
   |some k=>show W.int ((R.getD k 0:Nat):Int)=W.int (k:Nat);rw[rg k (by have:=ho k rfl;omega)]
  refine⟨_,rfl,?_⟩
  have tl:=IP (sz:=sz) R (i+1-(1+L+Q))
  have isl:∀A B:List W,pJ (st++[.lst A,.lst B]) (.loc (st.length+1))=true:=fun A B=>fz (by rw[kA];rfl)
  have pop:∀(q:Nat) (B:List Nat) (A:List W),vj (.loc (st.length+1)) [] (st++[.lst A,.lst (nW (q::B).reverse)])=.ok (.int (q:Nat)) (st++[.lst A,.lst (nW B.reverse)]):=fun q B A=>by
   have hc:(st++[am.lst A,.lst (nW (q::B).reverse)])[st.length+1]?=some (.lst (nW B.reverse++[.int (q:Nat)])):=by rw[kA];unfold nW;simp
   rw[Mi hc,oK];rfl
  have put:i8 (EJ fun ρ s=>∃(o3 o4 o5 o6:Option W),ρ=[some (gN ps),some (.loc st.length),some (.loc (st.length+1)),o3,o4,o5,o6]/\s=st++[.lst ((lk.take (i+1)).map uO),.lst (nW (sk sz R (i+1)).reverse)])
    (aW (fB (pK cf (af 2) (ak (af 3) aB))) (fB (pK cf (af 1) (ak (sC (ak (af 6) (ak (af 5) aB))) aB))) [some (gN ps),some (.loc st.length),some (.loc (st.length+1)),some (.int (i:Nat)),some p.w,some (oW x.2),some (oW x.1)] (st++[.lst ((lk.take i).map uO),.lst (nW (sk sz R (i+1-(1+L+Q))).reverse)])):=by
   rw[hW (rs:=R) q2 (by omega),rg i hi]
   generalize sk sz R (i+1-(1+L+Q))=B at tl
   generalize hA:(lk.take i).map uO=A
   have ap:=jH (s:=st++[am.lst A,.lst (nW B.reverse)]) (p:=st.length+1) (y:=.int (i:Nat)) (by rw[kA];rfl) (by unfold nW;rw[al,List.length_reverse];omega)
   rw[oK,show nW B.reverse++[W.int (i:Nat)]=nW (i::B).reverse by unfold nW;simp]at ap
   have hc:(st++[am.lst A,.lst (nW (i::B).reverse)])[st.length]?=some (.lst A):=by rw[jd];rfl
   apply aD
   ·exact fX (j6 kv (isl _ _) kn ap)
   apply cU
   ·exact fX (j6 kv (fz hc) (av (tU (av kv kn) (aQ rfl)) aV) (jH hc (by rw[<- hA,al,aM];omega)))
   ·refine⟨_,_,rfl,_,_,_,_,rfl,?_⟩
    rw[fD,cZ hx,bw,hA];rfl
  have T1:∀(k:Bool) (ρ:cw) (s:List am),decide (2<=p.b)=k->ρ[4]?=some (some p.w)->gn (cb 1 Ii (ak (af 4) aB)) ρ s=.ok k s:=fun k ρ s e h4=>by rw[<- e];exact bY (bM (av (dX h4) aV) (Iy hb3 s) rfl)
  have T2:∀(k:Bool) (ρ:cw) (s:List am),decide (p.b%2=1)=k->ρ[4]?=some (some p.w)->gn (cb 1 Ih (ak (af 4) aB)) ρ s=.ok k s:=fun k ρ s e h4=>by rw[<- e];exact bY (bM (av (dX h4) aV) (Lo hb3 s) rfl)
  rcases Ue h R hp hx q2 with⟨hb,hxx,hs⟩|⟨hb,⟨l,hxx⟩,hs⟩|⟨hb,⟨r,hxx⟩,hs⟩|⟨hb,n1,n2,hs⟩
  ·rw[hs]
   apply aD
   ·exact bD (pO (T1 _ _ _ (by rw[hb];rfl) rfl) cG)
   apply aD
   ·exact bD (pO (T2 _ _ _ (by rw[hb];rfl) rfl) cG)
   rw[hxx]at put;exact put
  ·rw[hs,<- ob x.1 u1 (by rw[hxx];simp)]at *
   apply aD
   ·exact bD (pO (T1 _ _ _ (by rw[hb];rfl) rfl) cG)
   apply aD
   ·exact bD (pN (T2 _ _ _ (by rw[hb];rfl) rfl) (j6 kv (isl _ _) aV (pop _ _ _)))
   rw[show oW x.2=.non by rw[hxx];rfl]at put;exact put
  ·rw[hs,<- ob x.2 u2 (by rw[hxx];simp)]at *
   apply aD
   ·exact bD (pN (T1 _ _ _ (by rw[hb];rfl) rfl) (j6 kv (isl _ _) aV (pop _ _ _)))
   apply aD
   ·exact bD (pO (T2 _ _ _ (by rw[hb];rfl) rfl) cG)
   rw[show oW x.1=.non by rw[hxx];rfl]at put;exact put
  ·rw[hs,<- ob x.1 u1 n1,<- ob x.2 u2 n2]at *
   apply aD
   ·exact bD (pN (T1 _ _ _ (by rw[hb];rfl) rfl) (j6 kv (isl _ _) aV (pop _ _ _)))
   apply aD
   ·exact bD (pN (T2 _ _ _ (by rw[hb];rfl) rfl) (j6 kv (isl _ _) aV (pop _ _ _)))
   exact put
 ·rintro ρ s ⟨o3,o4,o5,o6,rfl,rfl⟩
  rw[show(jc (ps.map Pl.w),(none:Option (Nat×List W))).fst.length=ps.length by rw[iU];simp]
  apply bC
  ·exact bW kn (oN (a_ (by rw[jd];rfl)))
  ·exact⟨_,_,rfl,by rw[bK (by omega)],_,rfl⟩
theorem IQ(h:Gr ps S sz lk)(hn:ps.length<=900)(st:List am):Db [gN ps] st=.ok (pB sz) st:=by
 obtain⟨l1,l2,_⟩:=h.ok
 refine fY (w:=pB sz) ?_ (by simp only[undWs,uM,cK])
 apply aD
 ·exact bD (kZ aV (aQ rfl))
 refine dO (fun i ρ s=>∃(o2 o3 o4:Option W),ρ=[some (gN ps),some (.loc st.length),o2,o3,o4]/\s=st++[.lst (nW (sz.take i))]) (k:=(lk.map uO,none))
  (kB (st1:=st++[am.lst []]) (bM kn (vV h (by omega) _) rfl)) ⟨none,none,none,rfl,rfl⟩ (fun _ _ _ _=>trivial) ?_ ?_
 ·rintro i w ρ s hw ⟨o2,o3,o4,rfl,rfl⟩
  rw[aj]at hw
  obtain⟨x,hx,rfl⟩:=aG.mp hw
  have hi:i<ps.length:=by have:=(ac.mp hx).1;omega
  obtain⟨p,L,R,q1,q2,q3,q4,q5,q6,q7⟩:=h.pf hi
  rw[hx]at q4
  have q4:=aF q4
  have hc:(st++[am.lst (nW (sz.take i))])[st.length]?=some (.lst (nW (sz.take i))):=bc
  have kq:∀(j:Nat) (o:Option Nat) (a c:Nat) (y:W) (ρ:cw),ρ[1]?=some (some (.loc st.length))->ρ[j]?=some (some (oW o))->ρ[4]?=some (some (.int (c:Nat)))->(o=none->a=0)->(∀k,o=some k->(sz.take i)[k]?=some a)->mh (gn (oB (af j))) (b8 4 (e2 eE (af 4) (e2 b9 (af 1) (af j)))) eZ ρ (st++[am.lst (nW (sz.take i))])=.nx (ρ.set 4 (some (.int ((c+a:Nat):Int)))) (st++[am.lst (nW (sz.take i))]):=fun j o a c y ρ h1 hj h4 hn hs=>by
   cases o with
   |none=>
    rw[hn rfl]
    refine vB (bY (m5 (dX hj) rfl)) ?_
    obtain⟨e1,e2⟩:=ac.mp h4
    rw[ig,<- e2,oz];rfl
   |some k=>
    rw[dL]
    exact l_ (bY (m5 (dX hj) rfl)) (bD (bP (dX h4) (bP (dX h1) (dX hj) (rB hc (hs k rfl))) eG))
  refine⟨_,rfl,?_⟩
  apply aD
  ·exact bD cG
  have tk:∀(k a:Nat),k<i->sz[k]?=some a->(sz.take i)[k]?=some a:=fun k a hk e=>by rw[iS,au hk];exact e
  apply aD
  ·exact kq 2 x.1 L 1 .non _ rfl rfl rfl (fun e=>by rw[q4]at e;by_cases hL:0<L;(rw[au hL]at e;cases e);omega) fun k e=>by
    rw[q4]at e
    by_cases hL:0<L
    ·rw[au hL]at e;cases e;exact tk _ _ (by omega) (q7 hL)
    ·rw[ax hL]at e;cases e
  apply aD
  ·exact kq 3 x.2 R (1+L) .non _ rfl rfl rfl (fun e=>by rw[q4]at e;by_cases hR:0<R;(rw[au hR]at e;cases e);omega) fun k e=>by
    rw[q4]at e
    by_cases hR:0<R
    ·rw[au hR]at e;cases e;exact tk _ _ (by omega) (q6 hR)
    ·rw[ax hR]at e;cases e
  apply cU
  ·exact fX (j6 kv (fz hc) kn (jH hc (by unfold nW;rw[al,aM];omega)))
  ·refine⟨_,_,rfl,_,_,_,rfl,?_⟩
   rw[fD,cZ q2,show nW (sz.take i++[1+L+R])=nW (sz.take i)++[W.int ((1+L+R:Nat):Int)] by unfold nW;simp];rfl
 ·rintro ρ s ⟨o2,o3,o4,rfl,rfl⟩
  rw[show(lk.map uO,(none:Option (Nat×List W))).fst.length=ps.length by rw[al,l2],bK (by omega)]
  apply bC
  ·exact bW kn (oN (a_ bc))
  ·exact⟨_,_,rfl,rfl,_,rfl⟩
def DD(n:Nat)(T:Nat->Nat->Nat->Nat)(g:Nat->Nat)(bs:List Nat)(N:List (List Nat))(sz rs:List Nat)(p:Nat):List Nat:=(List.range n).map fun q=>cs T g bs N (p+1) (q::sk sz rs (p+1-sz.getD p 0))
theorem rK{bs:List Nat}(p:Nat):(DD n T g bs N sz rs p).length=n:=by simp[DD]
theorem sZ{bs:List Nat}(p:Nat)(h:q<n):(DD n T g bs N sz rs p).getD q 0=cs T g bs N (p+1) (q::sk sz rs (p+1-sz.getD p 0)):=jk (fun q=>cs T g bs N (p+1) (q::sk sz rs (p+1-sz.getD p 0))) (aJ h)
theorem QP(rs:List Nat)(p:Nat)(hp:p+1=ps.length)(hq:q<n):(DD n T g (ps.map Pl.b) N sz rs p).getD q 0=g q:=by
 rw[sZ p hq,IM T g (by simp;omega)];rfl
theorem QQ(h:Gr ps S sz lk)(hN:N.length=ps.length)(hT:∀t a b,T t a b<n)(hn:1<=n)(rs:List Nat){u p:Nat}(hx:lk[u]?=some x)(hp:x.1=some p)(hq:q<n) :
  (DD n T g (ps.map Pl.b) N sz rs p).getD q 0=pk n (rG n (km n T N lk []) x.2) fun r=>sm (N.getD u []) fun t=>(DD n T g (ps.map Pl.b) N sz rs u).getD (T t q r) 0:=by
 obtain⟨l1,l2,_⟩:=h.ok
 have hu:u<ps.length:=by have:=(ac.mp hx).1;omega
 obtain⟨pl,L,R,q1,q2,q3,q4,q5,q6,q7⟩:=h.pf hu
 rw[hx]at q4
 have q4:=aF q4
 subst q4
 have hL:0<L:=by
  rcases lJ L with z|z
  ·rw[ax (by omega)]at hp;cases hp
  ·exact z
 rw[au hL]at hp
 have hp:u-1-R=p:=aF hp
 have sp:=q7 hL
 rw[hp]at sp
 have hb:(ps.map Pl.b)[u]?=some pl.b:=by rw[aj,q1];rfl
 have st:=yT T g (bs:=ps.map Pl.b) (N:=N) (by simpa using hN) hb
 have wu:∀r t,(DD n T g (ps.map Pl.b) N sz rs u).getD (T t q r) 0=cs T g (ps.map Pl.b) N (u+1) (T t q r::sk sz rs (u-L-R)):=fun r t=>by
  rw[sZ u (hT ..),ao (l:=sz),q2,show u+1-(some (1+L+R)).getD 0=u-L-R by show u+1-(1+L+R)=_;omega]
 rw[sZ p hq,ao (l:=sz),sp,show p+1-(some L).getD 0=u-L-R by show p+1-L=_;omega]
 by_cases hR:0<R
 ·rw[au hL,au hR]at q5
  show _=pk n (rG n _ (if 0<R then some (u-1)else none)) _
  rw[au hR]
  have i2:=IN (g:=g) h hN hT hn (u-1) R (q6 hR) (q::sk sz rs (u-L-R))
  rw[show u-1+1-R=p+1 by omega]at i2
  rw[i2,show u-1+1=u by omega]
  refine oR fun r=>?_
  rw[st,q5]
  exact cN fun t _=>(wu r t).symm
 ·rw[au hL,ax hR]at q5
  show _=pk n (rG n _ (if 0<R then some (u-1)else none)) _
  rw[ax hR]
  show _=pk n (ez n) _
  rw[qh hn,show p+1=u by omega,st,q5]
  exact cN fun t _=>(wu 0 t).symm
theorem Lr(h:Gr ps S sz lk)(hN:N.length=ps.length)(hT:∀t a b,T t a b<n)(rs:List Nat){u p:Nat}(hx:lk[u]?=some x)(hp:x.2=some p)(hq:q<n) :
  (DD n T g (ps.map Pl.b) N sz rs p).getD q 0=sm (N.getD u []) fun t=>(DD n T g (ps.map Pl.b) N sz rs u).getD (T t (j' rs x.1) q) 0:=by
 obtain⟨l1,l2,_⟩:=h.ok
 have hu:u<ps.length:=by have:=(ac.mp hx).1;omega
 obtain⟨pl,L,R,q1,q2,q3,q4,q5,q6,q7⟩:=h.pf hu
 rw[hx]at q4
 have q4:=aF q4
 subst q4
 have hR:0<R:=by
  rcases lJ R with z|z
  ·rw[ax (show ¬ 0<R by omega)]at hp;cases hp
  ·exact z
 rw[au hR]at hp
 have hp:u-1=p:=aF hp
 have sp:=q6 hR
 rw[hp]at sp
 have hb:(ps.map Pl.b)[u]?=some pl.b:=by rw[aj,q1];rfl
 have st:=yT T g (bs:=ps.map Pl.b) (N:=N) (by simpa using hN) hb
 have wu:∀r t,(DD n T g (ps.map Pl.b) N sz rs u).getD (T t r q) 0=cs T g (ps.map Pl.b) N (u+1) (T t r q::sk sz rs (u-L-R)):=fun r t=>by
  rw[sZ u (hT ..),ao (l:=sz),q2,show u+1-(some (1+L+R)).getD 0=u-L-R by show u+1-(1+L+R)=_;omega]
 rw[sZ p hq,ao (l:=sz),sp,show p+1-(some R).getD 0=u-R by show p+1-R=_;omega,show p+1=u by omega,st]
 by_cases hL:0<L
 ·rw[au hL,au hR]at q5
  show _=sm _ fun t=>(DD n T g (ps.map Pl.b) N sz rs u).getD (T t (j' rs (if 0<L then some (u-1-R)else none)) q) 0
  rw[au hL]
  have e2:=hW (rs:=rs) (q7 hL) hL
  rw[show u-1-R+1=u-R by omega]at e2
  rw[e2,q5]
  refine cN fun t _=>?_
  rw[wu,show u-L-R=u-R-L by omega];rfl
 ·rw[ax hL,au hR]at q5
  show _=sm _ fun t=>(DD n T g (ps.map Pl.b) N sz rs u).getD (T t (j' rs (if 0<L then some (u-1-R)else none)) q) 0
  rw[ax hL,q5]
  refine cN fun t _=>?_
  rw[wu,show u-L-R=u-R by omega];rfl
end
section
variable(T:Nat->Nat->Nat->Nat)(g:Nat->Nat)
def s_:List Nat->List (List Nat)->List Nat->List Nat->Nat
 |b::bs,x::ns,c::ch,σ=>sm (List.range c) (fun k=>qk T g bs ns (rE T b (x.getD k 0) σ))+s_ bs ns ch (rE T b (x.getD c 0) σ)
 |_,_,_,_=>0
def fin:List Nat->List (List Nat)->List Nat->List Nat->Nat
 |b::bs,x::ns,c::ch,σ=>fin bs ns ch (rE T b (x.getD c 0) σ)
 |_,_,_,σ=>g (σ.headD 0)
theorem IR(x:List Nat)(f:Nat->Nat):sm x f=sm (List.range x.length) fun k=>f (x.getD k 0):=by
 unfold sm
 rw[sV x 0 f]
theorem vW:∀(bs:List Nat) (N:List (List Nat)) (ch σ:List Nat),(∀c∈ch,c=0)->s_ T g bs N ch σ=0
 |b::bs,x::ns,c::ch,σ,h=>by
  have:=h c aZ
  subst this
  show sm [] _+s_ T g bs ns ch _=0
  rw[vW bs ns ch _ fun c hc=>h c (aA _ hc)];rfl
 |[],_,_,_,_=>by unfold s_;rfl
 |_::_,[],_,_,_=>by unfold s_;rfl
 |_::_,_::_,[],_,_=>by unfold s_;rfl
theorem vX{K:Nat}:∀(bs:List Nat) (N:List (List Nat)) (ch σ:List Nat),N.length=bs.length->ch.length=bs.length->(∀x∈N,x.length=K)->(∀c∈ch,c+1=K)->s_ T g bs N ch σ+fin T g bs N ch σ=qk T g bs N σ
 |[],[],[],σ,_,_,_,_=>by unfold s_ fin qk;omega
 |b::bs,x::ns,c::ch,σ,h1,h2,h3,h4=>by
  have ih:=vX bs ns ch (rE T b (x.getD c 0) σ) (by simpa using h1) (by simpa using h2) (fun x hx=>h3 x (aA _ hx)) fun c hc=>h4 c (aA _ hc)
  show sm (List.range c) _+s_ T g bs ns ch _+fin T g bs ns ch _=sm x _
  rw[gD,ih,IR x,h3 x aZ,<- h4 c aZ,gC]
 |[],_::_,_,_,h,_,_,_=>by simp at h
 |_::_,[],_,_,h,_,_,_=>by simp at h
 |[],[],_::_,_,_,h,_,_=>by simp at h
 |_::_,_::_,[],_,_,h,_,_=>by simp at h
theorem IS{K:Nat}:∀(bs:List Nat) (N:List (List Nat)) (ch σ:List Nat),N.length=bs.length->ch.length=bs.length->(∀x∈N,x.length=K)->(∀c∈ch,c<K)->s_ T g bs N ch σ+fin T g bs N ch σ<=qk T g bs N σ
 |[],[],[],σ,_,_,_,_=>by unfold s_ fin qk;omega
 |b::bs,x::ns,c::ch,σ,h1,h2,h3,h4=>by
  have ih:=IS bs ns ch (rE T b (x.getD c 0) σ) (by simpa using h1) (by simpa using h2) (fun x hx=>h3 x (aA _ hx)) fun c hc=>h4 c (aA _ hc)
  show sm (List.range c) _+s_ T g bs ns ch _+fin T g bs ns ch _<=sm x _
  have hc:=h4 c aZ
  rw[IR x,h3 x aZ,show K=c+1+(K-c-1) by omega,yN,gC]
  omega
 |[],_::_,_,_,h,_,_,_=>by simp at h
 |_::_,[],_,_,h,_,_,_=>by simp at h
 |[],[],_::_,_,_,h,_,_=>by simp at h
 |_::_,_::_,[],_,_,h,_,_=>by simp at h
theorem xF{K c:Nat}{ms zs:List Nat}(hm:∀d∈ms,d+1=K)(hz:∀d∈zs,d=0)(hl:ms.length=zs.length):∀(a bs:List Nat) (N:List (List Nat)) (σ:List Nat),N.length=bs.length->(a++c::ms).length=bs.length->(∀x∈N,x.length=K) ->
  s_ T g bs N (a++(c+1)::zs) σ=s_ T g bs N (a++c::ms) σ+fin T g bs N (a++c::ms) σ
 |[],b::bs,x::ns,σ,h1,h2,h3=>by
  show sm (List.range (c+1)) _+s_ T g bs ns zs _=sm (List.range c) _+s_ T g bs ns ms _+fin T g bs ns ms _
  rw[vW T g bs ns zs _ hz,ig,gD,vX T g bs ns ms _ (by simpa using h1) (by simpa using h2) (fun x hx=>h3 x (aA _ hx)) hm,gC]
 |d::a,b::bs,x::ns,σ,h1,h2,h3=>by
  show sm (List.range d) _+s_ T g bs ns (a++(c+1)::zs) _=sm (List.range d) _+s_ T g bs ns (a++c::ms) _+fin T g bs ns (a++c::ms) _
  rw[xF hm hz hl a bs ns _ (by simpa using h1) (by simpa using h2) fun x hx=>h3 x (aA _ hx),gD]
 |a,[],_,_,_,h2,_=>by simp at h2
 |a,_::_,[],_,h1,_,_=>by simp at h1
end
noncomputable def tD(D:List (Nat×Nat)):List (DK×W):=D.map fun p=>(DK.i (p.1:Nat),W.int (p.2:Nat))
structure ol(D:List (Nat×Nat))(ns:List Nat):Prop where
 nd:(D.map Prod.fst).Nodup
 mem:∀p∈D,p.1∈ns
 sum:∀F:Nat->Nat,sm D (fun p=>p.2*F p.1)=sm ns F
 len:D.length<=ns.length
 le:∀p∈D,p.2<=ns.length
theorem IT(q k:Nat):decide (DK.i (q:Nat)=DK.i (k:Nat))=decide (q=k):=by
 rw[iG,bH,bH]
 constructor
 ·intro h;injection h with h;omega
 ·intro h;rw[h]
theorem IU(D:List (Nat×Nat))(t:Nat):kW (tD D) (.i t)=(D.find? fun p=>decide (p.1=t)).map fun p=>W.int (p.2:Nat):=by
 unfold kW tD
 rw[List.find?_map]
 simp only[eh,IT,Option.map_map]
theorem DE{D:List (Nat×Nat)}{t:Nat}(h:t∉D.map Prod.fst):D.find? (fun p=>decide (p.1=t))=none:=by
 rw[List.find?_eq_none]
 intro p hp z
 exact h (ba.mpr ⟨p,hp,l5 z⟩)
theorem DF{D:List (Nat×Nat)}{t:Nat}{v:W}(h:t∉D.map Prod.fst):(tD D).map (fun p=>if p.1=DK.i (t:Nat)then(p.1,v)else p)=tD D:=by
 unfold tD
 rw[aS]
 refine bJ fun p hp=>?_
 show(if DK.i (p.1:Nat)=DK.i (t:Nat)then _ else _)=_
 rw[ax]
 intro z
 injection z with z
 exact h (ba.mpr ⟨p,hp,by omega⟩)
theorem IV(D:List (Nat×Nat))(t:Nat):((tD D).any fun p=>decide (p.1=DK.i (t:Nat)))=decide (t∈D.map Prod.fst):=by
 unfold tD
 rw[List.any_map,iG,mM,bH,ba]
 simp only[eh,IT,bH]
theorem ol.step{D:List (Nat×Nat)}(h:ol D ns)(t:Nat):∃(e:Nat) (D':List (Nat×Nat)),(kW (tD D) (.i t)).getD (.int 0)=.int (e:Nat)/\kX (tD D) (.i t) (.int ((e+1:Nat):Int))=tD D'/\ol D' (ns++[t]):=by
 have s1:∀F:Nat->Nat,sm (ns++[t]) F=sm ns F+F t:=fun F=>by rw[qg];simp[sm]
 by_cases ht:t∈D.map Prod.fst
 ·obtain⟨⟨t',e⟩,hp,rfl⟩:=ba.mp ht
  obtain⟨D1,D2,rfl⟩:=List.append_of_mem hp
  have nd:=h.nd
  rw[bw,aP,jr]at nd
  obtain⟨n1,n2,n3⟩:=nd
  have t1:t'∉D1.map Prod.fst:=fun z=>n3 t' z t' aZ rfl
  have t2:t'∉D2.map Prod.fst:=(fG.mp n2).1
  refine⟨e,D1++(t',e+1)::D2,?_,?_,?_⟩
  ·rw[IU,l6,DE t1]
   show((List.find? _ _).map _).getD _=_
   rw[bZ,show decide (((t',e):Nat×Nat).1=t')=true from bf rfl];rfl
  ·unfold kX
   rw[IV,au (bf ht)]
   show(tD (D1++(t',e)::D2)).map (fun p=>if p.1=DK.i (t':Nat)then(p.1,W.int ((e+1:Nat):Int))else p)=_
   have:=DF (D:=D1) (v:=W.int ((e+1:Nat):Int)) t1
   have h2:=DF (D:=D2) (v:=W.int ((e+1:Nat):Int)) t2
   unfold tD at this h2 ⊢
   rw[bw,aP,bw,aP,this,h2,bw,aP]
   congr 2
   exact au rfl
  ·refine⟨?_,fun p hp=>?_,fun F=>?_,?_,fun p hp=>?_⟩
   ·have:=h.nd
    rw[bw,aP]at this ⊢
    exact this
   ·rcases aY.mp hp with z|z
    ·exact bS _ (h.mem p (bS _ z))
    ·rcases aH.mp z with rfl|z
     ·exact aI _ aZ
     ·exact bS _ (h.mem p (aI _ (aA _ z)))
   ·rw[s1,<- h.sum F,qg,qg,eU,eU]
    show _+((e+1)*F t'+_)=_+(e*F t'+_)+F t'
    rw[kE];omega
   ·have:=h.len
    simp only[aE,br,gr]at this ⊢;omega
   ·rw[aE,dg]
    rcases aY.mp hp with z|z
    ·have:=h.le p (bS _ z);omega
    ·rcases aH.mp z with rfl|z
     ·have:=h.le (t',e) (aI _ aZ)
      show e+1<=_
      have:e<=ns.length:=this
      omega
     ·have:=h.le p (aI _ (aA _ z));omega
 ·refine⟨0,D++[(t,1)],?_,?_,?_⟩
  ·rw[IU,DE ht];rfl
  ·unfold kX
   rw[IV,ax (by rw[bH];exact ht)]
   unfold tD
   rw[bw];rfl
  ·refine⟨?_,fun p hp=>?_,fun F=>?_,?_,fun p hp=>?_⟩
   ·rw[bw,jr]
    refine⟨h.nd,by simp,fun a ha b hb=>?_⟩
    have:b=t:=by simpa using hb
    subst this
    intro z;subst z;exact ht ha
   ·rcases aY.mp hp with z|z
    ·exact bS _ (h.mem p z)
    ·rw[bB.mp z];exact aI _ aZ
   ·rw[s1,<- h.sum F,qg];simp[sm]
   ·have:=h.len
    simp only[aE,dg]at this ⊢;omega
   ·rw[aE,dg]
    rcases aY.mp hp with z|z
    ·have:=h.le p z;omega
    ·rw[bB.mp z];show 1<=_;omega
theorem IW(hl:ns.length<=1000){p:Nat}(hp:st[p]?=some (.lst (nW ns))):∃D,ol D ns/\AF [.loc p] st=.ok (.loc st.length) (st++[.dct (tD D)]):=by
 suffices hh:i8 (vD fun w bz=>∃j x,w=.loc (st.length+j)/\bz=st++x/\∃D,ol D ns/\j=0/\x=[.dct (tD D)]) (M1 ([W.loc p].map some++List.replicate (3-1) none) st) by
  obtain⟨j,x,⟨D,hD,rfl,rfl⟩,e⟩:=kC hh
  exact⟨D,hD,e⟩
 apply aD
 ·exact bD rfl
 refine dO (fun i ρ s=>∃(o:Option W) (D:List (Nat×Nat)),ρ=[lO p,lO st.length,o]/\s=st++[.dct (tD D)]/\ol D (ns.take i)) (lU kv (a_ (aT hp))) ⟨none,[],rfl,rfl,⟨by simp,by simp,fun _=>rfl,by simp,by simp⟩⟩ (fun i ρ s h=>by obtain⟨_,_,_,rfl,_⟩:=h;exact a_ (aT hp)) ?_ ?_
 ·rintro i w ρ s hw ⟨o,D,rfl,rfl,hD⟩
  unfold nW at hw
  rw[aj]at hw
  obtain⟨t,ht,rfl⟩:=aG.mp hw
  refine⟨_,rfl,?_⟩
  obtain⟨e,D',h1,h2,h3⟩:=hD.step t
  rw[<- cZ ht]at h3
  have hc:(st++[am.dct (tD D)])[st.length]?=some (.dct (tD D)):=bc
  have hg:yp (af 1) (af 2) (eI 0) [lO p,lO st.length,iO (t:Nat)] (st++[am.dct (tD D)])=.ok (.int (e:Nat)) (st++[am.dct (tD D)]):=by
   have ev1:af 1 [lO p,lO st.length,iO (t:Nat)] (st++[am.dct (tD D)])=.ok (.loc st.length) (st++[am.dct (tD D)]):=dX rfl
   have hdc:ga (st++[am.dct (tD D)]) (.loc st.length)=some (st.length,tD D):=by simp only[ga,hc]
   unfold yp
   rw[ev1]
   simp only[R.bind_ok,hdc]
   rw[show af 2 [lO p,lO st.length,iO (t:Nat)] (st++[am.dct (tD D)])=.ok (.int (t:Nat)) (st++[am.dct (tD D)])from dX rfl]
   simp only[R.bind_ok,cG,hdc,pM,h1]
  have hlD:=hD.len
  rw[aM]at hlD
  apply cU
  ·exact tV (bP hg cG eG) kv kv (IF hc (by unfold tD;rw[al];show _<1000000;omega))
  ·refine⟨_,_,rfl,_,D',rfl,?_,h3⟩
   rw[fD,show((e:Int)+1)=((e+1:Nat):Int) by omega,h2];rfl
 ·rintro ρ s ⟨o,D,rfl,rfl,hD⟩
  apply bC
  ·exact dX rfl
  ·refine⟨_,_,rfl,0,_,rfl,rfl,D,?_,rfl,rfl⟩
   unfold nW at hD
   rw[al,cz]at hD
   exact hD
def V9(tbl:List (List (List Nat)))(D:List (Nat×Nat))(vl vr:List Nat):List (Nat×Nat):=(nz vl).flatMap fun a=>(nz vr).flatMap fun b=>D.map fun p=>(Tm tbl p.1 a b,vl.getD a 0*vr.getD b 0*p.2)
theorem QR{tbl:List (List (List Nat))}{D:List (Nat×Nat)}{vl vr:List Nat}(hD:ol D ns)(hl:vl.length=n)(hr:vr.length=n):wt n (V9 tbl D vl vr)=AM n (Tm tbl) ns vl vr:=by
 unfold wt AM V9
 refine bJ fun q _=>?_
 rw[Dp]
 unfold nz
 have key:∀a,sm ((List.filter (fun i=>decide (0<vr.getD i 0)) (List.range vr.length)).flatMap fun b=>D.map fun p=>(Tm tbl p.1 a b,vl.getD a 0*vr.getD b 0*p.2)) (fun p:Nat×Nat=>if p.1=q then p.2 else 0)=sm (List.range n) fun b=>vl.getD a 0*vr.getD b 0*ct q (ns.map fun t=>Tm tbl t a b):=by
  intro a
  have e:∀b,sm (D.map fun p=>(Tm tbl p.1 a b,vl.getD a 0*vr.getD b 0*p.2)) (fun p:Nat×Nat=>if p.1=q then p.2 else 0)=vl.getD a 0*vr.getD b 0*ct q (ns.map fun t=>Tm tbl t a b):=fun b=>by
   unfold ct
   rw[Ca,Ca,<- hD.sum,<- yL]
   refine cN fun t _=>?_
   show(if Tm tbl t.1 a b=q then _ else _)=_
   split<;>simp
  rw[Dp,sY _ _ _ fun b hb=>?_,hr]
  ·exact cN fun b _=>e b
  ·rw[e]
   have:vr.getD b 0=0:=by have:=iR hb;omega
   rw[this,r_,kI]
 rw[sY _ _ _ fun a ha=>?_,hl]
 ·exact cN fun a _=>key a
 ·rw[key]
  have:vl.getD a 0=0:=by have:=iR ha;omega
  rw[cN (g:=fun _=>0) fun b _=>by rw[this,kI,kI],uN]
theorem yU{M:Mc}{tp:Nat}{D:List (Nat×Nat)}{vl vr:List Nat}{xl xr:W}(hM:yJ M n)(hn:n<=1000)(JJ:∀t∈ns,t<M.tb.length)(hD:ol D ns)(Js:ns.length<=1000)(ht:st[tp]?=some (.dct (tD D)))(hl:pT st xl vl)(hr:pT st xr vr)(ll:vl.length=n)(lr:vr.length=n)(hb:(∀a,vl.getD a 0<2^64)\/∀a,vr.getD a 0<2^64)(nl:nz vl≠[])(nr:nz vr≠[]) :
  ∃s',De [M.w,.loc tp,xl,xr] st=.ok (.loc st.length) s'/\Kp tp st.length st s'/\s'[tp]?=some (.rod (tD D))/\s'[st.length]?=some (.lst (nW (AM n (Tm M.tb) ns vl vr))):=by
 suffices hh:i8 (vD fun w s'=>w=.loc st.length/\Kp tp st.length st s'/\s'[tp]?=some (.rod (tD D))/\s'[st.length]?=some (.lst (nW (AM n (Tm M.tb) ns vl vr)))) (Ik ([M.w,.loc tp,xl,xr].map some++List.replicate (11-4) none) st) by
  obtain⟨w,s',e,rfl,h1,h2,h3⟩:=hh
  refine⟨s',?_,h1,h2,h3⟩
  have:=m3 (N:=11) (body:=Ik) (ws:=[M.w,.loc tp,xl,xr]) e
  rw[pi (by simp[undWs,W.und])]at this
  exact this
 have ltp:tp<st.length:=c_ ht
 have e0:dq [none] (dC (e2 b9 (af 0) (eI 1))) (eM 0) iZ (eI 0) [some M.w,lO tp,some xl,some xr,none,none,none,none,none,none,none] st=.ok (.loc st.length) (st++[.lst (nW (wt n []))]):=by
  have:=m8 (cap:=[none]) (f:=eM 0) (el:=eC (.int 0)) (ρ:=[some M.w,lO tp,some xl,some xr,none,none,none,none,none,none,none]) (st:=st) (fun _=>.int 0) (kB (fe:=e2 b9 (af 0) (eI 1)) (ws:=M.gd.map W.bl) (st1:=st) kx)
   (by rw[al,hM.gd];show _<=1000000;omega) trivial fun w _=>⟨_,rfl,cG⟩
  rw[this]
  congr 4
  refine b6 fun i=>?_
  rw[aj,aj,nW,aj]
  by_cases h:i<n
  ·rw[ae (by rw[hM.gd];exact h),Dr h];rfl
  ·rw[az (by rw[hM.gd];omega),az (by rw[vP];omega)];rfl
 apply aD
 ·exact xA e0 rfl
 generalize hs1:st++[am.lst (nW (wt n []))]=s1
 generalize hml:st.length=ml at *
 have vk:∀(x:W) (v:List Nat) (s:List am),pT st x v->Kp tp ml st s->pT s x v:=fun x v s h k=>by
  rcases h with rfl|⟨p,rfl,hp⟩
  ·exact .inl rfl
  ·refine .inr ⟨p,rfl,k p _ hp (fun z=>?_) (fun z=>?_)⟩
   ·subst z;rw[ht]at hp;cases hp
   ·have:=c_ hp;omega
 let St:List am->List (Nat×Nat)->Prop:=fun s P=>Kp tp ml st s/\ga s (.loc tp)=some (tp,tD D)/\s[ml]?=some (.lst (nW (wt n P)))
 have dct_app:∀(s x:List am),ga s (.loc tp)=some (tp,tD D)->ga (s++x) (.loc tp)=some (tp,tD D):=fun s x h=>by
  have hlt:tp<s.length:=by
   rcases kG tp s.length with z|z
   ·exact z
   ·simp only[ga,az z]at h;cases h
  simp only[ga,aK hlt]at h ⊢;exact h
 have st_app:∀(s x:List am) (P:List (Nat×Nat)),St s P->St (s++x) P:=fun s x P ⟨h1,h2,h3⟩=>⟨h1.app,dct_app s x h2,aT h3⟩
 have h0:St s1 []:=by
  rw[<- hs1]
  refine⟨Kp.refl.app,?_,by rw[<- hml];exact bc⟩
  simp only[ga,aT ht]
 let G:Nat->List (Nat×Nat):=fun i=>((nz vl).take i).flatMap fun a=>(nz vr).flatMap fun b=>D.map fun p=>(Tm M.tb p.1 a b,vl.getD a 0*vr.getD b 0*p.2)
 let K:Nat->Nat->List (Nat×Nat):=fun a j=>((nz vr).take j).flatMap fun b=>D.map fun p=>(Tm M.tb p.1 a b,vl.getD a 0*vr.getD b 0*p.2)
 have hc1:=yR (vk xl vl s1 hl h0.1) (by omega)
 have hp1:s1.length≠tp/\s1.length≠ml:=by rw[<- hs1];simp;omega
 refine dO (fun i ρ s=>∃(o5 o6 o7 o8 o9 Ju:Option W),ρ=[some M.w,lO tp,some xl,some xr,lO ml,o5,o6,o7,o8,o9,Ju]/\St s (G i)/\Kp tp ml (s1++[.lst (nW (nz vl))]) s/\(0<i->s[tp]?=some (.rod (tD D))))
  (lU (bM kn hc1 rfl) (a_ bc)) ⟨none,none,none,none,none,none,rfl,st_app _ _ _ h0,Kp.refl,fun z=>absurd z (by omega)⟩ (fun i ρ s h=>by
   obtain⟨_,_,_,_,_,_,_,_,k,_⟩:=h
   exact a_ (k _ _ bc hp1.1 hp1.2)) ?_ ?_
 ·rintro i w ρ s hw ⟨o5,o6,o7,o8,o9,Ju,rfl,hS,hk,hrd⟩
  unfold nW at hw
  rw[aj]at hw
  obtain⟨a,ha,rfl⟩:=aG.mp hw
  have han:=Ng ha
  refine⟨_,rfl,?_⟩
  have hc2:=yR (vk xr vr s hr hS.1) (by omega)
  have lms:ml<s.length:=c_ hS.2.2
  have hp2:s.length≠tp/\s.length≠ml:=by omega
  refine AK (fun j ρ z=>∃(o6 o7 o8 o9 Ju:Option W),ρ=[some M.w,lO tp,some xl,some xr,lO ml,iO (a:Nat),o6,o7,o8,o9,Ju]/\St z (G i++K a j)/\Kp tp ml (s++[.lst (nW (nz vr))]) z/\(0<j->z[tp]?=some (.rod (tD D))))
   (lU (bM kn hc2 rfl) (a_ bc)) ⟨_,_,_,_,_,rfl,by simpa[K]using st_app _ [.lst (nW (nz vr))] _ hS,Kp.refl,fun z=>absurd z (by omega)⟩ (fun i ρ s h=>by
    obtain⟨_,_,_,_,_,_,_,k,_⟩:=h
    exact a_ (k _ _ bc hp2.1 hp2.2)) ?_ ?_
  ·rintro j w ρ z hw ⟨o6,o7,o8,o9,Ju,rfl,hZ,hkz,_⟩
   unfold nW at hw
   rw[aj]at hw
   obtain⟨b,hbj,rfl⟩:=aG.mp hw
   have hbn:=Ng hbj
   refine⟨_,rfl,?_⟩
   apply aD
   ·exact bD (bP (bP kv kv (Cg (vk xl vl z hl hZ.1) han)) (bP kv kv (Cg (vk xr vr z hr hZ.1) hbn)) (ma (by rcases hb with h|h;exact .inl ⟨by omega,by have:=h a;omega⟩;exact .inr ⟨by omega,by have:=h b;omega⟩)))
   rw[<- dm]
   have ltz:tp<z.length:=by have:=c_ hZ.2.2;omega
   have Ks:K a (j+1)=K a j++D.map fun p=>(Tm M.tb p.1 a b,vl.getD a 0*vr.getD b 0*p.2):=by
    show((nz vr).take (j+1)).flatMap _=_
    rw[cZ hbj,List.flatMap_append];simp[K]
   refine AK (fun k ρ z'=>∃(o8 o9 Ju:Option W),ρ=[some M.w,lO tp,some xl,some xr,lO ml,iO (a:Nat),iO (b:Nat),iO ((vl.getD a 0*vr.getD b 0:Nat):Int),o8,o9,Ju]/\St z' (G i++K a j++(D.take k).map fun p=>(Tm M.tb p.1 a b,vl.getD a 0*vr.getD b 0*p.2))/\Kp tp ml z z'/\z'[tp]?=some (.rod (tD D)))
    (Dx kv hZ.2.1) ⟨_,_,_,rfl,⟨hZ.1.setA,by simp only[ga,bn ltz],by rw[fj (by omega)];simpa using hZ.2.2⟩,Kp.refl.setA,bn ltz⟩ (fun _ _ _ _=>trivial) ?_ ?_
   ·rintro k w ρ z' hw ⟨o8,o9,Ju,rfl,hZ',hkz',hr'⟩
    unfold tD at hw
    rw[aS,aj]at hw
    obtain⟨⟨t,e⟩,ht',rfl⟩:=aG.mp hw
    have hpm:=ay ht'
    have he:e<=ns.length:=hD.le _ hpm
    refine⟨_,rfl,?_⟩
    have htb:M.tb[t]?=some (M.tb.getD t []):=a9 [] (JJ t (hD.mem _ hpm))
    obtain⟨t1,t2⟩:=hM.t _ (ay htb)
    have g1:(M.tb.getD t [])[a]?=some ((M.tb.getD t []).getD a []):=a9 [] (by omega)
    obtain⟨r1,r2⟩:=t2 _ (ay g1)
    have g2:((M.tb.getD t []).getD a [])[b]?=some (((M.tb.getD t []).getD a []).getD b 0):=a9 0 (by omega)
    have hq:Tm M.tb t a b<n:=r2 _ (ay g2)
    have ix:b9 (.tup (M.tb.map qf)) (.int (t:Nat)) z'=.ok (qf (M.tb.getD t [])) z':=lT (dR (by rw[aj,htb];rfl))
    apply aD
    ·exact bD (w:=.int (Tm M.tb t a b:Nat)) (bP (bP (bP kx kv ix) kv (yK g1)) kv (vO g2))
    apply cU
    ·exact tV (bP (bP kv kv (rB hZ'.2.2 (Dr hq))) (bP kv kv (ma (.inr ⟨by omega,by omega⟩))) eG) kv kv (vN hZ'.2.2 (by unfold nW;rw[al,vP];exact hq))
    ·refine⟨_,_,rfl,_,_,_,rfl,⟨hZ'.1.setB,?_,?_⟩,hkz'.setB,by rw[fj (by omega)];exact hr'⟩
     ·have:=hZ'.2.1
      simp only[ga,fj (show ml≠tp by omega)]at this ⊢;exact this
     ·rw[iK hZ'.2.2,<- dm,<- dL,Cb,Lm hq,cZ ht']
      simp[bh]
   ·rintro ρ z' ⟨o8,o9,Ju,rfl,hZ',hkz',hr'⟩
    refine⟨_,_,rfl,_,_,_,_,_,rfl,?_,hkz.trans hkz',fun _=>hr'⟩
    rw[show(List.map (fun p:DK×W=>W.tup [p.1.w,p.2]) (tD D),(none:Option (Nat×List W))).fst.length=D.length by unfold tD;rw[al,al],cz]at hZ'
    rw[Ks,<- bh];exact hZ'
  ·rintro ρ z ⟨o6,o7,o8,o9,Ju,rfl,hZ,hkz,hr'⟩
   refine⟨_,_,rfl,_,_,_,_,_,_,rfl,?_,hk.trans hkz.of_app,fun _=>hr' (by unfold nW;rw[al];exact kt.mpr nr)⟩
   have e:G (i+1)=G i++K a (nW (nz vr)).length:=by
    show((nz vl).take (i+1)).flatMap _=_
    rw[cZ ha,List.flatMap_append]
    unfold nW
    simp[G,K]
   rw[e];exact hZ
 ·rintro ρ s ⟨o5,o6,o7,o8,o9,Ju,rfl,hS,hk,hr'⟩
  apply bC
  ·exact dX rfl
  ·refine⟨_,_,rfl,rfl,hS.1,hr' (by unfold nW;rw[al];exact kt.mpr nl),?_⟩
   rw[hS.2.2,<- QR hD ll lr]
   unfold nW V9
   rw[al]
   simp only[G,cz]
theorem DG(ps:List Pl)(hn:ps.length<=1000)(hρ:ρ[0]?=some (some (gN ps)))(st:List am):dq [none] (dC (af 0)) (eM 0) iZ (eC .non) ρ st=.ok (.loc st.length) (st++[.lst ((List.replicate ps.length none).map oW)]):=by
 have:=m8 (cap:=[none]) (f:=eM 0) (el:=eC .non) (ρ:=ρ) (st:=st) (fun _=>.non) (kB (fe:=af 0) (ws:=ps.map Pl.w) (st1:=st) (dX hρ)) (by rw[al];show _<=1000000;omega) trivial fun w _=>⟨_,rfl,cG⟩
 rw[this,List.map_replicate,aS]
 congr 4
 exact List.map_const' ..
def Up(lk:List (Option Nat×Option Nat))(f:Option Nat×Option Nat->Option Nat)(i:Nat)(l:List (Option Nat)):Prop:=
 (∀p u:Nat,l[p]?=some (some u)->∃x,lk[u]?=some x/\f x=some p)/\∀u x p,u<i->lk[u]?=some x->f x=some p->∃v,l[p]?=some (some v)
theorem Up.zero{lk:List (Option Nat×Option Nat)}{k:Nat}:Up lk f 0 (List.replicate k none):=⟨fun p u e=>by
 rw[iW]at e
 split at e<;>simp at e,fun u x p h=>absurd h (by omega)⟩
theorem Up.skip{lk:List (Option Nat×Option Nat)}{l:List (Option Nat)}(h:Up lk f i l)(hx:lk[i]?=some x)(hf:f x=none):Up lk f (i+1) l:=⟨h.1,fun u y p hu hy hp=>by
 by_cases e:u=i
 ·subst e;rw[hx]at hy;cases hy;rw[hf]at hp;cases hp
 ·exact h.2 u y p (by omega) hy hp⟩
theorem Up.put{lk:List (Option Nat×Option Nat)}{l:List (Option Nat)}(h:Up lk f i l)(hx:lk[i]?=some x)(hf:f x=some q)(hq:q<l.length):Up lk f (i+1) (l.set q (some i)):=⟨fun p u e=>by
 by_cases z:q=p
 ·subst z
  rw[bn hq]at e
  cases e;exact⟨x,hx,hf⟩
 ·rw[bT z]at e;exact h.1 p u e,fun u y p hu hy hp=>by
 by_cases z:q=p
 ·subst z;exact⟨i,bn hq⟩
 ·rw[bT z]
  by_cases e:u=i
  ·subst e;rw[hx]at hy;cases hy;rw[hf]at hp;exact absurd (aF hp) z
  ·exact h.2 u y p (by omega) hy hp⟩
noncomputable def xG(sz:List Nat)(N k j:Nat):List Nat:=((List.range k).map fun e=>N-1-e).filter fun p=>decide (p+1-sz.getD p 0=j)
theorem AR(sz:List Nat)(N k j:Nat):xG sz N (k+1) j=xG sz N k j++if N-1-k+1-sz.getD (N-1-k) 0=j then[N-1-k]else[]:=by
 unfold xG
 rw[nY,bw,List.filter_append]
 congr 1
 rw[List.map_singleton,dW]
 by_cases h:N-1-k+1-sz.getD (N-1-k) 0=j
 ·rw[au h,au (bf h)];rfl
 ·rw[ax h,ax (by rw[bH];exact h)];rfl
theorem DH(sz:List Nat)(N k j:Nat):(xG sz N k j).length<=k:=by
 unfold xG
 exact aL (b_ _ _) (by simp)
theorem yV{sz:List Nat}{N p:Nat}:p∈xG sz N N j↔p<N/\p+1-sz.getD p 0=j:=by
 unfold xG
 rw[cH,ba,bH]
 constructor
 ·rintro⟨⟨e,he,rfl⟩,h⟩
  rw[bN]at he
  exact⟨by omega,h⟩
 ·rintro⟨h1,h2⟩
  exact⟨⟨N-1-p,bN.mpr (by omega),by omega⟩,h2⟩
theorem IX(sz:List Nat)(N j:Nat):(xG sz N N j).Pairwise fun a b=>b<a:=by
 unfold xG
 refine List.Pairwise.filter _ ?_
 rw[List.pairwise_map]
 refine List.Pairwise.imp_of_mem ?_ (List.pairwise_lt_range (n:=N))
 intro a b ha hb h
 rw[bN]at ha hb
 omega
theorem IY{sz:List Nat}{N p u:Nat}(hp:(xG sz N N j)[i]?=some p)(hu:u∈xG sz N N j)(h:p<u):u∈(xG sz N N j).take i:=by
 obtain⟨k,hk⟩:=fN hu
 obtain⟨i1,i2⟩:=ac.mp hp
 obtain⟨k1,k2⟩:=ac.mp hk
 have hki:k<i:=by
  rcases Nat.lt_trichotomy k i with z|z|z
  ·exact z
  ·subst z;rw[i2]at k2;omega
  ·have:=io.mp (IX sz N j) i k i1 k1 z
   rw[i2,k2]at this;omega
 exact ay (i:=k) (by rw[iS,au hki];exact hk)
section
variable{ps:List Pl}{sz:List Nat}{lk:List (Option Nat×Option Nat)}
theorem Gr.par(h:Gr ps S sz lk):∀p,p<ps.length->p∈U4 S ps.length\/∃(u:Nat) (x:Option Nat×Option Nat),lk[u]?=some x/\(x.1=some p\/x.2=some p):=by
 induction h with
 |nil=>intro p hp;simp at hp
 |@snoc ps S S' sz lk b k m y hg hs ih=>
  intro p hp
  obtain⟨l1,l2,ha⟩:=hg.ok
  rw[aE,dg]at hp ⊢
  have hy:(lk++[y])[ps.length]?=some y:=by rw[<- l2];simp
  by_cases e:p=ps.length
  ·refine .inl ?_
   subst e
   cases hs<;>simp[U4]
  ·rcases ih p (by omega)with z|⟨u,x,hx,z⟩
   ·cases hs with
    |z=>exact .inl (aA _ (by rw[lI];exact z))
    |@l a S=>
     obtain⟨_,a2,a3,_⟩:=ha
     rcases aH.mp z with z|z
     ·exact .inr ⟨_,_,hy,.inl (by rw[z])⟩
     ·exact .inl (aA _ (by rw[show ps.length+1-(1+a)=ps.length-a by omega];exact z))
    |@r a S=>
     obtain⟨_,a2,a3,_⟩:=ha
     rcases aH.mp z with z|z
     ·exact .inr ⟨_,_,hy,.inr (by rw[z])⟩
     ·exact .inl (aA _ (by rw[show ps.length+1-(1+a)=ps.length-a by omega];exact z))
    |@b c a S=>
     obtain⟨_,a2,a3,_,b2,b3,_⟩:=ha
     rcases aH.mp z with z|z
     ·exact .inr ⟨_,_,hy,.inr (by rw[z])⟩
     ·rcases aH.mp z with z|z
      ·exact .inr ⟨_,_,hy,.inl (by rw[z];show some (ps.length-1-c)=some (ps.length-c-1);congr 1;omega)⟩
      ·exact .inl (aA _ (by rw[show ps.length+1-(1+c+a)=ps.length-c-a by omega];exact z))
   ·exact .inr ⟨u,x,by rw[aK (ac.mp hx).1];exact hx,z⟩
theorem QT(h:Gr ps S sz lk)(hn:ps.length<=900)(st:List am):∃(A B:List (Option Nat)) (x:List am),A.length=ps.length/\B.length=ps.length/\Up lk Prod.fst ps.length A/\Up lk Prod.snd ps.length B/\(st++x)[st.length]?=some (.lst (A.map oW))/\(st++x)[st.length+1]?=some (.lst (B.map oW))/\C_ [gN ps] st=.ok (.tup [.loc st.length,.loc (st.length+1)]) (st++x):=by
 obtain⟨l1,l2,_⟩:=h.ok
 suffices hh:i8 (vD fun w bz=>w=.tup [.loc st.length,.loc (st.length+1)]/\st <+: bz/\∃(A B:List (Option Nat)),A.length=ps.length/\B.length=ps.length/\Up lk Prod.fst ps.length A/\Up lk Prod.snd ps.length B/\bz[st.length]?=some (.lst (A.map oW))/\bz[st.length+1]?=some (.lst (B.map oW))) (Ij ([gN ps].map some++List.replicate (5-1) none) st) by
  obtain⟨w,s',e,rfl,⟨x,rfl⟩,A,B,a1,a2,a3,a4,a5,a6⟩:=hh
  refine⟨A,B,x,a1,a2,a3,a4,a5,a6,?_⟩
  have:=m3 (N:=5) (body:=Ij) (ws:=[gN ps]) e
  rw[pi (by simp[undWs,W.und])]at this
  exact this
 have eA:=DG ps (by omega) (ρ:=[some (gN ps),none,none,none,none]) rfl st
 apply aD
 ·exact xA eA rfl
 generalize hA0:List.replicate ps.length (none:Option Nat)=A0 at *
 have eB:=DG ps (by omega) (ρ:=[some (gN ps),lO st.length,none,none,none]) rfl (st++[.lst (A0.map oW)])
 rw[hA0]at eB
 apply aD
 ·exact xA eB rfl
 rw[show(st++[am.lst (A0.map oW)]).length=st.length+1 by simp]
 have lA0:A0.length=ps.length:=by rw[<- hA0];simp
 have uA:∀f,Up lk f 0 A0:=fun f=>by rw[<- hA0];exact Up.zero
 have hlk:=vV h (by omega) (st++[am.lst (A0.map oW)]++[.lst (A0.map oW)])
 refine dO (fun i ρ s=>∃(o3 o4:Option W) (A B:List (Option Nat)),ρ=[some (gN ps),lO st.length,lO (st.length+1),o3,o4]/\st <+: s/\A.length=ps.length/\B.length=ps.length/\s[st.length]?=some (.lst (A.map oW))/\s[st.length+1]?=some (.lst (B.map oW))/\Up lk Prod.fst i A/\Up lk Prod.snd i B) (k:=(jc (lk.map uO),none))
  (st1:=st++[am.lst (A0.map oW)]++[.lst (A0.map oW)]) (QM (av (bM kn hlk rfl) aV)) ⟨none,none,A0,A0,rfl,hU (hU (ah _)),lA0,lA0,aT bc,by rw[show st.length+1=(st++[am.lst (A0.map oW)]).length by simp];exact bc,uA _,uA _⟩ (fun _ _ _ _=>trivial) ?_ ?_
 ·rintro i w ρ s hw ⟨o3,o4,A,B,rfl,hp,hA,hB,cA,cB,uA,uB⟩
  obtain⟨y,hy,rfl⟩:=kK hw
  rw[aj]at hy
  obtain⟨x,hx,rfl⟩:=aG.mp hy
  obtain⟨k1,k2⟩:=h.lk hx
  have hi:i<ps.length:=by have:=(ac.mp hx).1;omega
  refine⟨_,rfl,?_⟩
  obtain⟨a,b⟩:=x
  have last:∀(s:List am) (A:List (Option Nat)),st <+: s->A.length=ps.length->s[st.length]?=some (.lst (A.map oW))->s[st.length+1]?=some (.lst (B.map oW))->Up lk Prod.fst (i+1) A->i8 (EJ fun ρ s=>∃(o3 o4:Option W) (A B:List (Option Nat)),ρ=[some (gN ps),lO st.length,lO (st.length+1),o3,o4]/\st <+: s/\A.length=ps.length/\B.length=ps.length/\s[st.length]?=some (.lst (A.map oW))/\s[st.length+1]?=some (.lst (B.map oW))/\Up lk Prod.fst (i+1) A/\Up lk Prod.snd (i+1) B)
    (mh (gn (oB (e2 b9 (af 4) (eI 1)))) (qH (af 2) (e2 b9 (af 4) (eI 1)) (af 3) mv) eZ [some (gN ps),lO st.length,lO (st.length+1),iO (i:Nat),some (uO (a,b))] s):=by
   intro s A hp hA cA cB uA
   cases b with
   |none=>
    apply pP
    ·exact bY (m5 kx rfl)
    ·exact⟨_,_,rfl,_,_,A,B,rfl,hp,hA,hB,cA,cB,uA,uB.skip hx rfl⟩
   |some q=>
    have:=k2 q rfl
    apply qX
    ·exact bY (m5 kx rfl)
    apply cU
    ·exact tV kv kv kx (vN (q:=q) cB (by rw[al];omega))
    ·exact⟨_,_,rfl,_,_,A,B.set q (some i),rfl,m_ hp (by omega),hA,by rw[iD];exact hB,by rw[fj (by omega)];exact cA,by rw[iK cB,r9];rfl,uA,uB.put hx rfl (by omega)⟩
  cases a with
  |none=>
   apply du
   ·exact bY (m5 kx rfl)
   apply dZ
   exact last s A hp hA cA cB (uA.skip hx rfl)
  |some q=>
   have:=k1 q rfl
   apply aD
   ·exact l_ (bY (m5 kx rfl)) (tV kv kv kx (vN (q:=q) cA (by rw[al];omega)))
   exact last _ (A.set q (some i)) (m_ hp (aw _)) (by rw[iD];exact hA) (by rw[iK cA,r9];rfl) (by rw[fj (by omega)];exact cB) (uA.put hx rfl (by omega))
 ·rintro ρ s ⟨o3,o4,A,B,rfl,hp,hA,hB,cA,cB,uA,uB⟩
  rw[show(jc (lk.map uO),(none:Option (Nat×List W))).fst.length=ps.length by rw[iU,al,l2]]at uA uB
  apply bC
  ·exact tU (av kv kn) (aQ rfl)
  ·exact⟨_,_,rfl,rfl,hp,A,B,hA,hB,uA,uB,cA,cB⟩
theorem IZ(h:Gr ps S sz lk)(hn:ps.length<=900)(st:List am):∃x:List am,(st++x)[st.length+ps.length]?=some (.lst ((List.range ps.length).map fun i=>W.loc (st.length+i)))/\(∀j,j<ps.length->(st++x)[st.length+j]?=some (.lst (nW (xG sz ps.length ps.length j))))/\Dh [gN ps] st=.ok (.loc (st.length+ps.length)) (st++x):=by
 obtain⟨l1,l2,_⟩:=h.ok
 suffices hh:i8 (vD fun w bz=>∃j x,w=.loc (st.length+j)/\bz=st++x/\j=ps.length/\(st++x)[st.length+ps.length]?=some (.lst ((List.range ps.length).map fun i=>W.loc (st.length+i)))/\∀j,j<ps.length->(st++x)[st.length+j]?=some (.lst (nW (xG sz ps.length ps.length j)))) (M5 ([gN ps].map some++List.replicate (4-1) none) st) by
  obtain⟨j,x,⟨rfl,h1,h2⟩,e⟩:=kC hh
  exact⟨x,h1,h2,e⟩
 have e0:=Dy (cap:=[none]) (ρ:=[some (gN ps),none,none,none]) (f:=eM 0) (el:=j5 aB) (fun _=>am.lst []) (kB (fe:=af 0) (ws:=ps.map Pl.w) (st1:=st) kv) (by rw[al];omega) (fun _=>trivial) fun i w _ x=>⟨_,rfl,kZ aV (aQ rfl)⟩
 rw[al]at e0
 apply aD
 ·exact xA e0 rfl
 generalize hs0:st++(List.range ps.length).map (fun _=>am.lst [])++[.lst ((List.range ps.length).map fun i=>W.loc (st.length+i))]=s0
 have p0:st <+: s0:=by rw[<- hs0];exact hU (hU (ah _))
 have c0:s0[st.length+ps.length]?=some (.lst ((List.range ps.length).map fun i=>W.loc (st.length+i))):=by
  rw[<- hs0,show st.length+ps.length=(st++(List.range ps.length).map fun _=>am.lst []).length by simp];exact bc
 have c1:∀j,j<ps.length->s0[st.length+j]?=some (.lst []):=fun j hj=>by
  rw[<- hs0]
  refine aT ?_
  rw[kA,aj,aJ hj];rfl
 apply aD
 ·exact bD (bM kn (IQ h hn s0) rfl)
 refine dO (fun i ρ s=>∃o:Option W,ρ=[some (gN ps),lO (st.length+ps.length),some (.tup (nW sz)),o]/\st <+: s/\s[st.length+ps.length]?=some (.lst ((List.range ps.length).map fun i=>W.loc (st.length+i)))/\∀j,j<ps.length->s[st.length+j]?=some (.lst (nW (xG sz ps.length i j)))) (k:=(qK ((ps.length:Int)-1) (((ps.length:Int)-1)-(-1)).toNat,none)) (st1:=s0)
  (QN (i:=(ps.length:Int)-1) (j:=-1) (av (bP (bW kn (ng ps s0)) cG (fI trivial)) (av (An cG) (av (An cG) aV))) (by omega)) ⟨none,rfl,p0,c0,fun j hj=>c1 j hj⟩ (fun _ _ _ _=>trivial) ?_ ?_
 ·rintro i w ρ s hw ⟨o,rfl,hp,hc,hj⟩
  unfold qK at hw
  rw[aj]at hw
  obtain⟨i',hi',rfl⟩:=aG.mp hw
  have hi:i<ps.length:=by have:=(ac.mp hi').1;rw[cC]at this;omega
  rw[aJ (by omega)]at hi'
  cases hi'
  obtain⟨t,ht⟩:∃t:Nat,t=ps.length-1-i:=⟨_,rfl⟩
  rw[show((ps.length:Int)-1-(i:Int))=(t:Nat) by omega]
  refine⟨_,rfl,?_⟩
  obtain⟨p,L,R,q1,q2,q3,_⟩:=h.pf (show t<ps.length by omega)
  have hws:=hj (t-(L+R)) (by omega)
  have hl:=DH sz ps.length i (t-(L+R))
  have ix:b9 (.loc (st.length+ps.length)) (.int (((t:Int)+1)-((1+L+R:Nat):Int))) s=.ok (.loc (st.length+(t-(L+R)))) s:=by
   rw[show((t:Int)+1)-((1+L+R:Nat):Int)=((t-(L+R):Nat):Int) by omega]
   exact k_ (a_ hc) (dR (by rw[aj,aJ (by omega)];rfl))
  have iz:b9 (.tup (nW sz)) (.int (t:Nat)) s=.ok (.int (1+L+R:Nat)) s:=lT (dR (by unfold nW;rw[aj,q2];rfl))
  apply cU
  ·exact fX (j6 (bP kv (bP (bP kv cG eG) (bP kv kv iz) (fI trivial)) ix) (fz hws) kn (jH hws (by unfold nW;rw[al];omega)))
  ·refine⟨_,_,rfl,_,rfl,m_ hp (by omega),by rw[fj (by omega)];exact hc,fun j hj'=>?_⟩
   have hbt:t+1-sz.getD t 0=t-(L+R):=by rw[ao,q2];show t+1-(1+L+R)=_;omega
   by_cases e:j=t-(L+R)
   ·subst e
    rw[iK hws,AR,<- ht,au hbt]
    unfold nW
    rw[bw];rfl
   ·rw[fj (by omega),hj j hj',AR,<- ht,ax (by omega),ce]
 ·rintro ρ s ⟨o,rfl,hp,hc,hj⟩
  obtain⟨x,rfl⟩:=hp
  apply bC
  ·exact dX rfl
  ·rw[show(qK ((ps.length:Int)-1) (((ps.length:Int)-1)-(-1)).toNat,(none:Option (Nat×List W))).fst.length=ps.length by show(qK _ _).length=_;unfold qK;rw[al,cC];omega]at hj
   exact⟨_,_,rfl,_,x,rfl,rfl,rfl,hc,hj⟩
end
def um(n:Nat)(v:List Nat):Nat:=pk n v fun _=>1
section
theorem xH(v:List Nat)(c:Nat):pk n v (fun _=>c)=um n v*c:=by
 unfold um pk
 rw[<- rD]
 exact cN fun q _=>by rw[oX]
theorem vY(hn:1<=n):um n (ez n)=1:=qh hn _
theorem QU(L:List α):sm L (fun _=>1)=L.length:=by
 induction L with
 |nil=>rfl
 |cons x L ih=>rw[eU,ih,br];omega
theorem DI(hT:∀t a b,T t a b<n)(ns va vb:List Nat):um n (AM n T ns va vb)=um n va*(um n vb*ns.length):=by
 rw[show um n (AM n T ns va vb)=_ from Ds hT ns va vb _]
 rw[oR (g:=fun _=>um n vb*ns.length) fun a=>by rw[oR (g:=fun _=>ns.length) fun b=>QU ns,xH],xH]
theorem Uf{L:List α}{f:α->Nat}{x:α}(h:x∈L):f x<=sm L f:=by
 induction L with
 |nil=>cases h
 |cons y L ih=>
  rw[eU]
  rcases aH.mp h with rfl|h
  ·omega
  ·have:=ih h;omega
theorem QV{v:List Nat}{a:Nat}(hl:v.length=n):v.getD a 0<=um n v:=by
 by_cases ha:a<n
 ·have:=Uf (f:=fun q=>v.getD q 0*1) (bN.mpr ha)
  rw[oX]at this
  exact this
 ·rw[yO 0 (by omega)];exact cL _
end
theorem I0{v:List Nat}(hl:v.length=n)(h:0<um n v):nz v≠[]:=by
 intro e
 have:um n v=0:=by
  unfold um pk
  rw[cN (g:=fun _=>0) fun q hq=>?_,uN]
  rw[oX]
  rcases lJ (v.getD q 0)with z|z
  ·exact z
  ·have:q∈nz v:=cH.mpr ⟨by rw[hl];exact hq,bf z⟩
   rw[e]at this;cases this
 omega
theorem rL(hn:1<=n){r:List (List Nat)}(h:∀v∈r,0<um n v)(o:Option Nat):0<um n (rG n r o):=by
 cases o with
 |none=>show 0<um n (ez n);rw[vY hn];omega
 |some k=>
  show 0<um n (r.getD k (ez n))
  rcases jT r k (ez n)with e|e
  ·rw[e,vY hn];omega
  ·exact h _ e
theorem DJ(hT:∀t a b,T t a b<n)(hn:1<=n):∀(ns:List (List Nat)) (lk:List (Option Nat×Option Nat)) (r:List (List Nat)),(∀x∈ns,0<x.length)->(∀v∈r,0<um n v)->∀v∈km n T ns lk r,0<um n v
 |x::ns,y::lk,r,h4,h,v,hv=>DJ hT hn ns lk (r++[AM n T x (rG n r y.1) (rG n r y.2)]) (fun x hx=>h4 x (aA _ hx)) (fun v hv=>by
   rcases aY.mp hv with z|z
   ·exact h v z
   ·rw[bB.mp z,DI hT]
    exact Nat.mul_pos (rL hn h y.1) (Nat.mul_pos (rL hn h y.2) (h4 x aZ))) v hv
 |[],[],r,_,h,v,hv=>h v hv
 |[],_::_,r,_,h,v,hv=>h v hv
 |x::ns,[],r,_,h,v,hv=>h v hv
theorem vZ{f:FG}{el:FE}{ck:Option (Nat×List W)}{ρ0:cw}(Pc:Nat->am->Prop):∀(ws f_:List W) (k:Nat) (s:List am),(∀x,iA (s++x) ck)->(∀i w,ws[i]?=some w->∀x,∃ρ' c,f w ρ0=some ρ'/\Pc (k+i) c/\el ρ' (s++x)=.ok (.loc (s++x).length) (s++x++[c])) ->
  ∃cs:List am,cs.length=ws.length/\(∀i c,cs[i]?=some c->Pc (k+i) c)/\kT f iZ el ck ρ0 ws f_ s=.ok (f_++(List.range ws.length).map fun i=>W.loc (s.length+i)) (s++cs)
 |[],f_,k,s,hc,_=>⟨[],rfl,by simp,by
  have:=hc [];rw[ce]at this
  unfold kT;rw[au this];simp⟩
 |w::ws,f_,k,s,hc,h=>by
  obtain⟨ρ',c,e1,hp,e3⟩:=h 0 w rfl []
  rw[ce]at e3
  have hc0:=hc []
  rw[ce]at hc0
  obtain⟨cs,l1,l2,l3⟩:=vZ Pc ws (f_++[.loc s.length]) (k+1) (s++[c]) (fun x=>by rw[bh];exact hc _) fun i v hv x=>by
   obtain⟨ρ',c',a1,a2,a3⟩:=h (i+1) v (by simpa using hv) ([c]++x)
   rw[<- bh]at a3
   exact⟨ρ',c',a1,by rw[show k+1+i=k+(i+1) by omega];exact a2,a3⟩
  refine⟨c::cs,by simp[l1],fun i d hd=>?_,?_⟩
  ·cases i with
   |zero=>simp at hd;subst hd;exact hp
   |succ i=>rw[show k+(i+1)=k+1+i by omega];exact l2 i d (by simpa using hd)
  ·unfold kT
   rw[au hc0,e1]
   simp only[show iZ ρ' s=.ok true s from rfl,e3]
   rw[l3,br,eV,aE]
   simp[eh,gD,rX 1]
theorem Ls{s1:List am}{f:FG}{cap:List (Option Nat)}(Pc:Nat->am->Prop)(h:fi ρ st=.ok (ws,ck) s1)(hl:ws.length<=100000)(hc:∀x,iA (s1++x) ck)
  (hs:∀i w,ws[i]?=some w->∀x,∃ρ' c,f w (oH cap ρ)=some ρ'/\Pc i c/\el ρ' (s1++x)=.ok (.loc (s1++x).length) (s1++x++[c])) :
  ∃cs:List am,cs.length=ws.length/\(∀i c,cs[i]?=some c->Pc i c)/\dq cap fi f iZ el ρ st=.ok (.loc (s1.length+ws.length)) (s1++cs++[.lst ((List.range ws.length).map fun i=>W.loc (s1.length+i))]):=by
 obtain⟨cs,l1,l2,l3⟩:=vZ (f:=f) (el:=el) (ck:=ck) (ρ0:=oH cap ρ) Pc ws [] 0 s1 hc fun i w hw x=>by
  obtain⟨ρ',c,a1,a2,a3⟩:=hs i w hw x
  exact⟨ρ',c,a1,by rw[eX];exact a2,a3⟩
 refine⟨cs,l1,fun i c e=>by have:=l2 i c e;rw[eX]at this;exact this,?_⟩
 unfold dq
 rw[h]
 simp only[R.bind_ok]
 rw[au (show ws.length<=1000000 by omega),l3]
 simp only[R.bind_ok,gq,kR]
 rw[au (by rw[al,cC];show ws.length<=1000000;omega)]
 simp[l1]
structure Ad where
 (L ua ub bg nu tm pc wp rp mp:Nat)
 (b0 n0 t0:Nat)
 (cq:List Nat)
 (A B:List (Option Nat))
abbrev gO(M:Mc)(nm:List Nat)(ps:List Pl):List (List Nat):=ps.map fun p=>jU M.nm nm p.m
def Ug(a:Ad)(M:Mc)(nm:List Nat)(ps:List Pl)(lk:List (Option Nat×Option Nat)):List (Str×W):=[("machine",M.w),("tree",gN ps),("names",.str nm),("links",.tup (lk.map uO)),("ups",.tup [.loc a.ua,.loc a.ub]),("begun",.loc a.bg),("numbers",.loc a.nu),("times",.loc a.tm),("counts",.loc a.pc),("weights",.loc a.wp),("rooms",.loc a.rp),("marks",.loc a.mp)]
structure wL(a:Ad)(M:Mc)(n:Nat)(nm:List Nat)(ps:List Pl)(sz:List Nat)(lk:List (Option Nat×Option Nat))(z:List am):Prop where
 ob:z[a.L]?=some (.obj "Course" (Ug a M nm ps lk))
 cA:z[a.ua]?=some (.lst (a.A.map oW))
 cB:z[a.ub]?=some (.lst (a.B.map oW))
 lA:a.A.length=ps.length
 lB:a.B.length=ps.length
 uA:Up lk Prod.fst ps.length a.A
 uB:Up lk Prod.snd ps.length a.B
 bg:z[a.bg]?=some (.lst ((List.range ps.length).map fun i=>W.loc (a.b0+i)))
 bgs:∀j,j<ps.length->z[a.b0+j]?=some (.lst (nW (xG sz ps.length ps.length j)))
 nu:z[a.nu]?=some (.lst ((List.range ps.length).map fun i=>W.loc (a.n0+i)))
 nus:∀j,j<ps.length->z[a.n0+j]?=some (.lst (nW ((gO M nm ps).getD j [])))
 tm:z[a.tm]?=some (.lst ((List.range ps.length).map fun i=>W.loc (a.t0+i)))
 tms:∀j,j<ps.length->∃D,ol D ((gO M nm ps).getD j [])/\z[a.t0+j]?=some (.rod (tD D))
 pc:z[a.pc]?=some (.lst (a.cq.map W.loc))
 lq:a.cq.length=ps.length
 pcs:∀j q:Nat,a.cq[j]?=some q->z[q]?=some (.lst (nW ((km n (Tm M.tb) (gO M nm ps) lk []).getD j (ez n))))
 lt:a.L<a.wp/\a.ua<a.wp/\a.ub<a.wp/\a.bg<a.wp/\a.nu<a.wp/\a.tm<a.wp/\a.pc<a.wp/\a.b0+ps.length<=a.wp/\a.n0+ps.length<=a.wp/\a.t0+ps.length<=a.wp/\a.wp<a.rp/\a.rp<a.mp
 ltq:∀q∈a.cq,q<a.wp
section
variable{ps:List Pl}{sz:List Nat}{lk:List (Option Nat×Option Nat)}{M:Mc}
def HB(n:Nat)(V:List (List Nat))(lk:List (Option Nat×Option Nat)):Prop:=∀(i:Nat) (u:Option Nat×Option Nat),lk[i]?=some u->u.1≠none->∀a,(rG n V u.2).getD a 0<2^64
theorem DL(h:Gr ps S sz lk)(hl:ps.length<=250)(hM:yJ M n)(Jm:1<=n)(hn:n<=1000)(Wk:nm.length<=4)(hm:∀p∈ps,p.m.length<=1000)(Uv:∀p∈ps,∀t∈jU M.nm nm p.m,t<M.tb.length)(hB:HB n (km n (Tm M.tb) (gO M nm ps) lk []) lk)(st:List am) :
  ∃(z:List am) (a:Ad),dD [.loc st.length,M.w,gN ps,.str nm] (st++[.obj "Course" []])=.ok .non z/\Ch st z/\wL a M n nm ps sz lk z/\a.L=st.length/\z[a.wp]?=some (.dct [])/\z[a.rp]?=some (.lst [])/\z[a.mp]?=some (.lst []):=by
 obtain⟨l1,l2,_⟩:=h.ok
 generalize hL:st.length=L
 have hT:∀t a b,Tm M.tb t a b<n:=xB hM Jm
 have len4:∀m,(jU M.nm nm m).length<=16/\0<(jU M.nm nm m).length:=fun m=>by
  unfold jU
  rw[al,cC]
  exact⟨aL (d8 (by decide) Wk) (by decide),oY (by decide)⟩
 suffices hh:i8 (EJ fun _ z=>∃a:Ad,Ch st z/\wL a M n nm ps sz lk z/\a.L=L/\z[a.wp]?=some (.dct [])/\z[a.rp]?=some (.lst [])/\z[a.mp]?=some (.lst [])) (gK ([.loc L,M.w,gN ps,.str nm].map some++List.replicate (6-4) none) (st++[.obj "Course" []])) by
  obtain⟨ρ,z,e,a,hO,hS,hLa,h3⟩:=hh
  refine⟨z,a,?_,hO,hS,hLa,h3⟩
  show de 6 gK _ _=_
  unfold de
  rw[show gK (List.map some [W.loc L,M.w,gN ps,W.str nm]++List.replicate (6-[W.loc L,M.w,gN ps,W.str nm].length) none) (st++[.obj "Course" []])=_ from e]
  show R.ok W.non (ja (st++[.obj "Course" []]) z [])=_
  unfold ja
  rw[ax]
  rintro⟨_,_,k⟩
  have z0:(st++[am.obj "Course" []])[L]?=some (.obj "Course" []):=by rw[<- hL];exact bc
  have hf:=hS.ob
  rw[hLa]at hf
  rcases k L (by simp;omega)with k|⟨c,k,hu⟩
  ·rw[hf,z0]at k
   simp[Ug]at k
  ·rw[hf]at k
   cases k
   have hu:undWs (st++[am.obj "Course" []]).length ((Ug a M nm ps lk).map fun p=>p.2)=true:=hu
   have:=hS.lt
   simp only[Ug,aP,rY,undWs,W.und,cK,bX,bH,aE,dg]at hu
   omega
 have o0:(st++[am.obj "Course" []])[L]?=some (.obj "Course" []):=by rw[<- hL];exact bc
 have O0:Ch st (st++[am.obj "Course" []]):=fun i c e=>aT e
 apply aD
 ·exact fX (bM kn (ul (by omega) _) rfl)
 refine jl (L:=L) (fl':=[("machine",M.w)]) rfl kv o0 (by decide) rfl fun z1 o1 k1 n1=>?_
 refine jl (L:=L) (fl':=[("machine",M.w),("tree",gN ps)]) rfl kv o1 (by simp) rfl fun z2 o2 k2 n2=>?_
 refine jl (L:=L) (fl':=[("machine",M.w),("tree",gN ps),("names",.str nm)]) rfl kv o2 (by simp) rfl fun z3 o3 k3 n3=>?_
 refine jl (L:=L) (fl':=[("machine",M.w),("tree",gN ps),("names",.str nm),("links",.tup (lk.map uO))]) rfl (bM kn (vV h (by omega) z3) rfl) o3 (by simp) rfl fun z4 o4 k4 n4=>?_
 obtain⟨A,B,ux,lA,lB,uA,uB,cA,cB,eu⟩:=QT h (by omega) z4
 refine jl (L:=L) (fl':=[("machine",M.w),("tree",gN ps),("names",.str nm),("links",.tup (lk.map uO)),("ups",.tup [.loc z4.length,.loc (z4.length+1)])]) rfl (bM kn eu rfl) (aT o4) (by simp) rfl fun z5 o5 k5 n5=>?_
 obtain⟨bx,bg1,bg2,eb⟩:=IZ h (by omega) z5
 refine jl (L:=L) (fl':=[("machine",M.w),("tree",gN ps),("names",.str nm),("links",.tup (lk.map uO)),("ups",.tup [.loc z4.length,.loc (z4.length+1)]),("begun",.loc (z5.length+ps.length))]) rfl (bM kn eb rfl) (aT o5) (by simp) rfl fun z6 o6 k6 n6=>?_
 have hLs:st.length<=L:=by omega
 have L4:L<z4.length:=c_ o4
 have L5:L<z5.length:=c_ o5
 have L6:L<z6.length:=c_ o6
 have O6:Ch st z6:=(((((O0.kp k1 hLs hLs).kp k2 hLs hLs).kp k3 hLs hLs).kp k4 hLs hLs).kp k5.of_app hLs hLs).kp k6.of_app hLs hLs
 have A5:=k5 _ _ cA (by omega) (by omega)
 have B5:=k5 _ _ cB (by omega) (by omega)
 have A6:=k6 _ _ (aT A5) (by omega) (by omega)
 have B6:=k6 _ _ (aT B5) (by omega) (by omega)
 have g6:=k6 _ _ bg1 (by omega) (by omega)
 have gs6:∀j,j<ps.length->z6[z5.length+j]?=some (.lst (nW (xG sz ps.length ps.length j))):=fun j hj=>k6 _ _ (bg2 j hj) (by omega) (by omega)
 have lt6:z5.length+ps.length<z6.length:=c_ g6
 have ltB:z4.length+1<z6.length:=c_ B6
 have e7:=Dy (cap:=[none,some 1,some 3]) (ρ:=[lO L,some M.w,some (gN ps),some (.str nm),none,none]) (f:=eM 0) (el:=cb 3 AE (ak (af 1) (ak (af 2) (ak (e2 b9 (af 0) (eI 1)) aB)))) (fun i=>am.lst (nW ((gO M nm ps).getD i [])))
  (kB (fe:=af 2) (ws:=ps.map Pl.w) (st1:=z6) kv) (by rw[al];omega) (fun _=>trivial) fun i w hw x=>by
   rw[aj]at hw
   obtain⟨p,hp,rfl⟩:=aG.mp hw
   refine⟨_,rfl,?_⟩
   have:=Cf M nm p.m (by omega) (by have:=hm p (ay hp);omega) (z6++x)
   rw[show(gO M nm ps).getD i []=jU M.nm nm p.m from jk _ hp]
   exact bM (av kv (av kv (av (bP kv cG (IA p _)) aV))) this rfl
 rw[al]at e7
 refine jl (L:=L) (fl':=[("machine",M.w),("tree",gN ps),("names",.str nm),("links",.tup (lk.map uO)),("ups",.tup [.loc z4.length,.loc (z4.length+1)]),("begun",.loc (z5.length+ps.length)),("numbers",.loc (z6.length+ps.length))]) rfl e7 (by rw[bh];exact aT o6) (by simp) rfl fun z7 o7 k7 n7=>?_
 have K67:Kp L L z6 z7:=k7.of_app.of_app
 have c7:∀i,i<ps.length->z7[z6.length+i]?=some (.lst (nW ((gO M nm ps).getD i []))):=fun i hi=>by
  refine k7 _ _ (aT ?_) (by omega) (by omega)
  rw[kA,aj,aJ hi];rfl
 have t7:z7[z6.length+ps.length]?=some (.lst ((List.range ps.length).map fun i=>W.loc (z6.length+i))):=by
  refine k7 _ _ ?_ (by omega) (by omega)
  rw[show z6.length+ps.length=(z6++(List.range ps.length).map fun i=>am.lst (nW ((gO M nm ps).getD i []))).length by simp];exact bc
 have O7:Ch st z7:=O6.kp K67 hLs hLs
 have L7:L<z7.length:=c_ o7
 have lt7:z6.length+ps.length<z7.length:=c_ t7
 obtain⟨dc,dl,dp,e8⟩:=Ls (cap:=[none]) (ρ:=[lO L,some M.w,some (gN ps),some (.str nm),none,none]) (f:=eM 0) (el:=cb 1 AF (ak (af 0) aB)) (fun i c=>∃D,ol D ((gO M nm ps).getD i [])/\c=am.dct (tD D))
  (lU (qj (f:="numbers") (fa:=af 0) kv o7 rfl) (a_ t7)) (by rw[al,cC];omega) (fun x=>a_ (aT t7)) fun i w hw x=>by
   rw[aj]at hw
   obtain⟨i',hi',rfl⟩:=aG.mp hw
   have hi:i<ps.length:=by have:=(ac.mp hi').1;simpa using this
   rw[aJ hi]at hi'
   cases hi'
   have hp:ps[i]?=some ps[i]:=ae hi
   have eg:(gO M nm ps).getD i []=jU M.nm nm ps[i].m:=jk _ hp
   obtain⟨D,hD,eD⟩:=IW (ns:=(gO M nm ps).getD i []) (st:=z7++x) (by rw[eg];have:=(len4 ps[i].m).1;omega) (aT (c7 i hi))
   exact⟨_,_,rfl,⟨D,hD,rfl⟩,bM kn eD rfl⟩
 rw[al,cC]at e8 dl
 refine jl (L:=L) (fl':=[("machine",M.w),("tree",gN ps),("names",.str nm),("links",.tup (lk.map uO)),("ups",.tup [.loc z4.length,.loc (z4.length+1)]),("begun",.loc (z5.length+ps.length)),("numbers",.loc (z6.length+ps.length)),("times",.loc (z7.length+ps.length))]) rfl e8 (by rw[bh];exact aT o7) (by simp) rfl fun z8 o8 k8 n8=>?_
 have K78:Kp L L z7 z8:=k8.of_app.of_app
 have c8:∀i,i<ps.length->∃D,ol D ((gO M nm ps).getD i [])/\z8[z7.length+i]?=some (.dct (tD D)):=fun i hi=>by
  have hd:dc[i]?=some dc[i]:=ae (by omega)
  obtain⟨D,hD,e⟩:=dp i _ hd
  refine⟨D,hD,k8 _ _ (aT ?_) (by omega) (by omega)⟩
  rw[kA,hd,e]
 have t8:z8[z7.length+ps.length]?=some (.lst ((List.range ps.length).map fun i=>W.loc (z7.length+i))):=by
  refine k8 _ _ ?_ (by omega) (by omega)
  rw[show z7.length+ps.length=(z7++dc).length by simp[dl]];exact bc
 have O8:Ch st z8:=O7.kp K78 hLs hLs
 have L8:z7.length+ps.length<z8.length:=c_ t8
 generalize hfl:([("machine",M.w),("tree",gN ps),("names",.str nm),("links",.tup (lk.map uO)),("ups",.tup [.loc z4.length,.loc (z4.length+1)]),("begun",.loc (z5.length+ps.length)),("numbers",.loc (z6.length+ps.length)),("times",.loc (z7.length+ps.length)),("counts",.loc z8.length)]:List (Str×W))=fl
 refine jl (L:=L) (fl':=fl) rfl (kZ aV (aQ rfl)) (aT o8) (by simp) (by rw[<- hfl];rfl) fun z9 o9 k9 n9=>?_
 have K89:Kp L L z8 z9:=k9.of_app
 have pc9:z9[z8.length]?=some (.lst []):=k9 _ _ bc (by omega) (by omega)
 have O9:Ch st z9:=O8.kp K89 hLs hLs
 have f1:fl.lookup ("machine":Str)=some M.w:=by rw[<- hfl];rfl
 have f3:fl.lookup ("counts":Str)=some (.loc z8.length):=by rw[<- hfl];rfl
 have f4:fl.lookup ("counts_below":Str)=none:=by rw[<- hfl];rfl
 have f6:fl.lookup ("times":Str)=some (.loc (z7.length+ps.length)):=by rw[<- hfl];rfl
 have f7:fl.lookup ("links":Str)=some (.tup (lk.map uO)):=by rw[<- hfl];rfl
 have t9:z9[z7.length+ps.length]?=some (.lst ((List.range ps.length).map fun i=>W.loc (z7.length+i))):=K89 _ _ t8 (by omega) (by omega)
 have c9:∀i,i<ps.length->∃D,ol D ((gO M nm ps).getD i [])/\z9[z7.length+i]?=some (.dct (tD D)):=fun i hi=>by
  obtain⟨D,hD,e⟩:=c8 i hi
  exact⟨D,hD,K89 _ _ e (by omega) (by omega)⟩
 have K69:Kp L L z6 z9:=(K67.trans K78).trans K89
 generalize hN:gO M nm ps=N at *
 have lN:N.length=ps.length:=by rw[<- hN];simp
 have hN16:∀x∈N,x.length<=16/\0<x.length:=fun x hx=>by
  rw[<- hN]at hx
  obtain⟨p,_,rfl⟩:=ba.mp hx
  exact len4 _
 let V:Nat->List (List Nat):=fun i=>km n (Tm M.tb) (N.take i) (lk.take i) []
 have vlen:∀i,i<=ps.length->(V i).length=i:=fun i hi=>by
  show(km n (Tm M.tb) (N.take i) (lk.take i) []).length=i
  rw[yQ n _ _ _ _ (by simp;omega)];simp;omega
 refine dO (fun i ρ z=>∃(o4 o5:Option W) (qs:List Nat),ρ=[lO L,some M.w,some (gN ps),some (.str nm),o4,o5]/\Ch st z/\z[L]?=some (.obj "Course" fl)/\z[z8.length]?=some (.lst (qs.map W.loc))/\qs.length=i/\i<=ps.length/\(∀j q:Nat,qs[j]?=some q->z8.length<q/\z[q]?=some (.lst (nW ((V i).getD j (ez n))))) /\
   (∀(k:Nat) (c:am),z9[k]?=some c->k≠z8.length->(k<z7.length\/z7.length+ps.length<=k)->z[k]?=some c)/\(∀j,i<=j->j<ps.length->∃D,ol D (N.getD j [])/\z[z7.length+j]?=some (.dct (tD D)))/\∀j,j<i->∃D,ol D (N.getD j [])/\z[z7.length+j]?=some (.rod (tD D)))
  (k:=(ky ((List.range ps.length).map fun i=>W.loc (z7.length+i)) (lk.map uO),some (z7.length+ps.length,(List.range ps.length).map fun i=>W.loc (z7.length+i)))) (st1:=z9)
  (Iq (av (qj kv o9 f6) (av (qj kv o9 f7) aV)) (a_ t9)) ⟨none,none,[],rfl,O9,o9,pc9,rfl,cL _,fun j q e=>by simp at e,fun k c e _ _=>e,fun j _ hj=>c9 j hj,fun j hj=>absurd hj (by omega)⟩ (fun i ρ z hI=>by
   obtain⟨_,_,_,_,_,_,_,_,_,_,t,_⟩:=hI
   exact a_ (t _ _ t9 (by omega) (.inr (aw _)))) ?_ ?_
 ·rintro i w ρ z hw ⟨o4,o5,qs,rfl,hO,ho,EU,hql,hile,hq,mP,hd,hr⟩
  obtain⟨x,y,hx,hy,rfl⟩:=oI hw
  rw[aj]at hx hy
  obtain⟨i',hi',rfl⟩:=aG.mp hx
  have hi:i<ps.length:=by have:=(ac.mp hi').1;simpa using this
  rw[aJ hi]at hi'
  cases hi'
  obtain⟨u,hu,rfl⟩:=aG.mp hy
  obtain⟨u1,u2⟩:=h.lk hu
  refine⟨_,rfl,?_⟩
  have hq':∀j q:Nat,qs[j]?=some q->z[q]?=some (.lst (nW ((V i).getD j (ez n)))):=fun j q e=>(hq j q e).2
  obtain⟨xl,el,vl⟩:=rJ (n:=n) (V:=V i) hM hn ho f1 f3 EU hq' u.1 (fun k e=>by rw[hql];exact u1 k e)
  obtain⟨xr,er,vr⟩:=rJ (n:=n) (V:=V i) hM hn ho f1 f3 EU hq' u.2 (fun k e=>by rw[hql];exact u2 k e)
  have hVr:∀v∈V i,v.length=n:=rH n _ _ _ _ (by simp)
  have bl:∀o,(rG n (V i) o).length=n:=fun o=>by
   cases o with
   |none=>exact lh
   |some k=>
    show((V i).getD k (ez n)).length=n
    rcases jT (V i) k (ez n)with e|e
    ·rw[e];exact lh
    ·exact hVr _ e
  have hVp:∀v∈V i,0<um n v:=DJ hT Jm (N.take i) (lk.take i) [] (fun x hx=>(hN16 x (g8 hx)).2) (by simp)
  have hg:N[i]?=some (N.getD i []):=a9 [] (by omega)
  have hNi:N.getD i []∈N:=ay hg
  have hNi2:(∀t∈N.getD i [],t<M.tb.length)/\(N.getD i []).length<=1000:=by
   refine⟨?_,by have:=(hN16 _ hNi).1;omega⟩
   rw[<- hN]at hNi ⊢
   obtain⟨p,hp,e⟩:=ba.mp hNi
   rw[<- e]
   exact Uv p hp
  obtain⟨D,hD,hDc⟩:=hd i (aw _) hi
  obtain⟨z',ec,kc,rc,cc⟩:=yU (tp:=z7.length+i) hM hn hNi2.1 hD hNi2.2 hDc vl vr (bl _) (bl _) (by
   by_cases e:u.1=none
   ·refine .inl ?_
    intro a
    rw[e]
    show(ez n).getD a 0<2^64
    by_cases ha:a<n
    ·rw[Iw ha];split<;>decide
    ·rw[yO 0 (by rw[lh];omega)];decide
   ·refine .inr ?_
    intro a
    have:=hB i u hu e a
    rw[yS (vT n (Tm M.tb) N lk (by omega) i) (fun k e=>by rw[show(km n (Tm M.tb) (N.take i) (lk.take i) []).length=i from vlen i hile];exact u2 k e)]at this
    exact this) (I0 (bl _) (rL Jm hVp _)) (I0 (bl _) (rL Jm hVp _))
  have lz:z8.length<z.length:=c_ EU
  have hpc':z'[z8.length]?=some (.lst (qs.map W.loc)):=kc _ _ EU (by omega) (by omega)
  apply cU
  ·exact fX (j6 (qj kv ho f3) (fz EU) (av (bM (av kv (av kv (av (md kv ho f4 (av kx aV) rfl el) (av (md kv ho f4 (av kx aV) rfl er) aV)))) ec rfl) aV) (jH hpc' (by rw[al];omega)))
  ·have Vs:V (i+1)=V i++[AM n (Tm M.tb) (N.getD i []) (rG n (V i) u.1) (rG n (V i) u.2)]:=by
    show km n (Tm M.tb) (N.take (i+1)) (lk.take (i+1)) []=_
    rw[cZ hg,cZ hu]
    exact vR n _ _ _ _ _ _ (by simp;omega)
   refine⟨_,_,rfl,_,_,qs++[z.length],rfl,(hO.kp kc (by omega) (by omega)).kp (Kp.refl.setA (a:=z8.length) (b:=z8.length)) (by omega) (by omega),?_,by rw[iK hpc'];simp,by simp[hql],hi,fun j q e=>?_,fun k c e h1 h2=>?_,fun j h1 h2=>?_,fun j h1=>?_⟩
   ·rw[fj (by omega)];exact kc _ _ ho (by omega) (by omega)
   ·by_cases hj:j<qs.length
    ·rw[aK hj]at e
     obtain⟨q1,q2⟩:=hq j q e
     refine⟨q1,?_⟩
     have:=c_ q2
     rw[fj (by omega),kc _ _ q2 (by omega) (by omega),Vs,ao,ao,aK (by rw[vlen i hile];omega)]
    ·rw[dE (by omega)]at e
     have hj0:j-qs.length=0:=by
      have:=(ac.mp e).1
      simp at this;omega
     rw[hj0]at e
     have e:z.length=q:=by simpa using e
     subst e
     refine⟨lz,?_⟩
     have hj':j=(V i).length:=by rw[vlen i hile];omega
     rw[fj (by omega),cc,Vs,hj',ao]
     simp
   ·have:=mP k c e h1 h2
    rw[fj (Ne.symm h1)];exact kc _ _ this (by omega) (by have:=c_ this;omega)
   ·obtain⟨D,hD,e⟩:=hd j (by omega) h2
    exact⟨D,hD,by rw[fj (by omega)];exact kc _ _ e (by omega) (by have:=c_ e;omega)⟩
   ·by_cases e:j=i
    ·subst e;exact⟨D,hD,by rw[fj (by omega)];exact rc⟩
    ·obtain⟨D',hD',e'⟩:=hr j (by omega)
     exact⟨D',hD',by rw[fj (by omega)];exact kc _ _ e' (by omega) (by have:=c_ e';omega)⟩
 ·rintro ρ z ⟨o4,o5,qs,rfl,hO,ho,EU,hql,hile,hq,mP,hd,hr⟩
  rw[show(ky ((List.range ps.length).map fun i=>W.loc (z7.length+i)) (lk.map uO),some (z7.length+ps.length,(List.range ps.length).map fun i=>W.loc (z7.length+i))).fst.length=ps.length by show(ky _ _).length=_;rw[oJ];simp;omega]at hql hq hr
  have VE:V ps.length=km n (Tm M.tb) N lk []:=by
   show km n (Tm M.tb) (N.take ps.length) (lk.take ps.length) []=_
   rw[bK (by omega),bK (by omega)]
  have lz:z8.length<z.length:=c_ EU
  obtain⟨gl,hgl⟩:∃gl:List (Str×W),gl=fl++[(("weights":Str),W.loc z.length)]:=⟨_,rfl⟩
  refine jl (L:=L) (z1:=z++[.dct []]) (y:=.loc z.length) (fl':=gl) rfl rfl (aT ho) (by rw[<- hfl];simp) (by rw[hgl,<- hfl];rfl) fun za oa ka na=>?_
  obtain⟨hl',hhl⟩:∃hl':List (Str×W),hl'=gl++[(("rooms":Str),W.loc za.length)]:=⟨_,rfl⟩
  refine jl (L:=L) (fl':=hl') rfl (kZ aV (aQ rfl)) (aT oa) (by rw[hgl,<- hfl];simp) (by rw[hhl,hgl,<- hfl];rfl) fun zb ob kb nb=>?_
  have olb:(zb++[am.lst []])[L]?=some (.obj "Course" hl'):=aT ob
  have hw:za[z.length]?=some (.dct []):=ka _ _ bc (by omega) (by omega)
  have hwb:=kb _ _ (aT hw) (by omega) (by omega)
  have lza:z.length<za.length:=c_ hw
  have hrb:zb[za.length]?=some (.lst []):=kb _ _ bc (by omega) (by omega)
  have lzb:za.length<zb.length:=c_ hrb
  apply cU
  ·exact IJ (kZ aV (aQ rfl)) kv olb (by rw[hhl,hgl,<- hfl];simp)
  ·have kz:Kp L L z ((zb++[am.lst []]).set L (.obj "Course" (ug "marks" (.loc zb.length) hl'))):=(ka.of_app.trans kb.of_app).app.setA
   have ef:ug "marks" (.loc zb.length) hl'=hl'++[(("marks":Str),W.loc zb.length)]:=by rw[hhl,hgl,<- hfl];rfl
   have kb':Kp L L (zb++[am.lst []]) ((zb++[am.lst []]).set L (.obj "Course" (hl'++[(("marks":Str),W.loc zb.length)]))):=Kp.refl.setA
   rw[ef]at kz ⊢
   generalize hzz:(zb++[am.lst []]).set L (.obj "Course" (hl'++[(("marks":Str),W.loc zb.length)]))=zz at *
   have fin9:∀(k:Nat) (c:am),z9[k]?=some c->k≠z8.length->(k<z7.length\/z7.length+ps.length<=k)->k≠L->zz[k]?=some c:=fun k c e h1 h2 h3=>kz _ _ (mP k c e h1 h2) h3 h3
   have fin6:∀(k:Nat) (c:am),z6[k]?=some c->k≠L->zz[k]?=some c:=fun k c e h3=>by
    have:=c_ e
    exact fin9 k c (K69 _ _ e h3 h3) (by omega) (.inl (by omega)) h3
   have nuF:zz[z6.length+ps.length]?=some (.lst ((List.range ps.length).map fun i=>W.loc (z6.length+i))):=fin9 _ _ (K89 _ _ (K78 _ _ t7 (by omega) (by omega)) (by omega) (by omega)) (by omega) (.inl (by omega)) (by omega)
   have nusF:∀j,j<ps.length->zz[z6.length+j]?=some (.lst (nW (N.getD j []))):=fun j hj=>fin9 _ _ (K89 _ _ (K78 _ _ (c7 j hj) (by omega) (by omega)) (by omega) (by omega)) (by omega) (.inl (by omega)) (by omega)
   have tmF:zz[z7.length+ps.length]?=some (.lst ((List.range ps.length).map fun i=>W.loc (z7.length+i))):=fin9 _ _ t9 (by omega) (.inr (aw _)) (by omega)
   have tmsF:∀j,j<ps.length->∃D,ol D (N.getD j [])/\zz[z7.length+j]?=some (.rod (tD D)):=fun j hj=>by
    obtain⟨D,hD,e⟩:=hr j hj
    exact⟨D,hD,kz _ _ e (by omega) (by omega)⟩
   have w1:zz[z.length]?=some (.dct []):=kb' _ _ (aT hwb) (by omega) (by omega)
   have w2:zz[za.length]?=some (.lst []):=kb' _ _ (aT hrb) (by omega) (by omega)
   have w3:zz[zb.length]?=some (.lst []):=kb' _ _ bc (by omega) (by omega)
   refine⟨_,_,rfl,⟨L,z4.length,z4.length+1,z5.length+ps.length,z6.length+ps.length,z7.length+ps.length,z8.length,z.length,za.length,zb.length,z5.length,z6.length,z7.length,qs,A,B⟩,hO.kp kz hLs hLs,?_,rfl,w1,w2,w3⟩
   refine{ ob:=?_,cA:=fin6 _ _ A6 (by show z4.length≠L;omega),cB:=fin6 _ _ B6 (by show z4.length+1≠L;omega),lA:=lA,lB:=lB,uA:=uA,uB:=uB,bg:=fin6 _ _ g6 (by show z5.length+ps.length≠L;omega),bgs:=fun j hj=>fin6 _ _ (gs6 j hj) (by show z5.length+j≠L;omega),nu:=?_,nus:=?_,tm:=?_,tms:=?_,pc:=kz _ _ EU (by show z8.length≠L;omega) (by show z8.length≠L;omega),lq:=hql,pcs:=?_,lt:=?_,ltq:=?_ }
   ·rw[<- hzz,iK olb,hhl,hgl,<- hfl];rfl
   ·exact nuF
   ·intro j hj;rw[hN];exact nusF j hj
   ·exact tmF
   ·intro j hj;rw[hN];exact tmsF j hj
   ·intro j q e
    obtain⟨q1,q2⟩:=hq j q e
    rw[VE]at q2
    rw[hN]
    exact kz _ _ q2 (by omega) (by omega)
   ·show L<z.length/\z4.length<z.length/\z4.length+1<z.length/\z5.length+ps.length<z.length/\z6.length+ps.length<z.length/\z7.length+ps.length<z.length/\z8.length<z.length/\z5.length+ps.length<=z.length/\z6.length+ps.length<=z.length/\z7.length+ps.length<=z.length/\z.length<za.length/\za.length<zb.length
    omega
   ·intro q hq'
    obtain⟨j,e⟩:=fN hq'
    exact c_ (hq j q e).2
end
theorem I_{s:List am}{p:Nat}{c:am}(h:s[p]?=some c):s.set p c=s:=by
 obtain⟨h1,h2⟩:=ac.mp h
 rw[<- h2];exact oz h1
section
variable{M:Mc}{D:List (Nat×Nat)}{wv:List Nat}
def Wy(M:Mc)(wv:List Nat)(l r:Nat):W->W
 |.tup [.int t,.int e]=>.int (((wv.getD (Tm M.tb t.toNat l r) 0*e.toNat:Nat)):Int)
 |_=>.non
def pw(M:Mc)(ns wv:List Nat)(l r:Nat):Nat:=sm ns fun t=>wv.getD (Tm M.tb t l r) 0
theorem DM{t w l r:Nat}(hM:yJ M n)(hD:ol D ns)(JJ:∀t∈ns,t<M.tb.length)(Js:ns.length<=1000)(ht:st[t]?=some (.rod (tD D)))(hw:st[w]?=some (.lst (nW wv)))(lw:wv.length=n)(hl:l<n)(hr:r<n) :
  tX [M.w,.loc t,.loc w,.int (l:Nat),.int (r:Nat)] st=.ok (.int (pw M ns wv l r:Nat)) st:=by
 have hdc:ga st (.loc t)=some (t,tD D):=by simp only[ga,ht]
 have jm:=Dx (fe:=af 1) (ρ:=[some M.w,lO t,lO w,iO (l:Nat),iO (r:Nat)]) (st:=st) kv hdc
 rw[I_ ht]at jm
 have hcm:=m8 (cap:=[none,none,some 2,some 4,some 3,some 0]) (f:=yf 2 (cR (eM 0) (cR (eM 1) jz))) (el:=e2 fR (e2 b9 (af 2) (e2 b9 (e2 b9 (e2 b9 (e2 b9 (af 5) (eI 2)) (af 0)) (af 4)) (af 3))) (af 1)) (Wy M wv l r) jm
  (by unfold tD;rw[al,al];have:=hD.len;show _<=1000000;omega) trivial fun x hx=>by
   unfold tD at hx
   rw[aS]at hx
   obtain⟨⟨t',e⟩,hp,rfl⟩:=ba.mp hx
   have htl:=JJ t' (hD.mem _ hp)
   have hel:e<=ns.length:=hD.le _ hp
   have htb:M.tb[t']?=some (M.tb.getD t' []):=a9 [] htl
   obtain⟨t1,t2⟩:=hM.t _ (ay htb)
   have g1:(M.tb.getD t' [])[l]?=some ((M.tb.getD t' []).getD l []):=a9 [] (by omega)
   obtain⟨r1,r2⟩:=t2 _ (ay g1)
   have g2:((M.tb.getD t' []).getD l [])[r]?=some (((M.tb.getD t' []).getD l []).getD r 0):=a9 0 (by omega)
   have hq:Tm M.tb t' l r<n:=r2 _ (ay g2)
   have ix:b9 (.tup (M.tb.map qf)) (.int (t':Nat)) st=.ok (qf (M.tb.getD t' [])) st:=lT (dR (by rw[aj,htb];rfl))
   refine⟨_,rfl,?_⟩
   show _=R.ok (W.int ((wv.getD (Tm M.tb ((t':Nat):Int).toNat l r) 0*((e:Nat):Int).toNat:Nat):Int)) st
   rw[aO,aO,dm]
   exact bP (bP kv (bP (bP (bP kx kv ix) kv (yK g1)) kv (vO g2)) (rB hw (a9 0 (by rw[lw];exact hq)))) kv (ma (.inr ⟨by omega,by omega⟩))
 have em:((tD D).map fun p=>W.tup [p.1.w,p.2]).map (Wy M wv l r)=(D.map fun p=>(((wv.getD (Tm M.tb p.1 l r) 0*p.2:Nat)):Int)).map W.int:=by
  unfold tD
  rw[aS,aS,aS]
  refine bJ fun p _=>?_
  show W.int ((wv.getD (Tm M.tb ((p.1:Nat):Int).toNat l r) 0*((p.2:Nat):Int).toNat:Nat):Int)=_
  rw[aO,aO];rfl
 rw[em]at hcm
 have hs:=AJ (a_ (bc (s:=st) (c:=.lst ((D.map fun p=>(((wv.getD (Tm M.tb p.1 l r) 0*p.2:Nat)):Int)).map W.int))))
 have es:sm D (fun p=>wv.getD (Tm M.tb p.1 l r) 0*p.2)=pw M ns wv l r:=by
  have:=hD.sum fun t=>wv.getD (Tm M.tb t l r) 0
  unfold pw
  rw[<- this]
  exact cN fun p _=>jn ..
 rw[Iu D fun p=>wv.getD (Tm M.tb p.1 l r) 0*p.2,es]at hs
 refine fY (w:=.int (pw M ns wv l r:Nat)) ?_ rfl
 apply bC
 ·exact bW (av hcm aV) hs
 ·exact⟨_,_,rfl,rfl,_,rfl⟩
theorem EN{t w l:Nat}(hM:yJ M n)(hn:n<=1000)(hD:ol D ns)(JJ:∀t∈ns,t<M.tb.length)(Js:ns.length<=1000)(ht:st[t]?=some (.rod (tD D)))(hw:st[w]?=some (.lst (nW wv)))(lw:wv.length=n)(hl:l<n) :
  Df [M.w,.loc t,.loc w,.int (l:Nat)] st=.ok (.loc st.length) (st++[.lst (nW ((List.range n).map fun r=>pw M ns wv l r))]):=by
 obtain⟨r,hr1,hr2,hr3⟩:=uL (cap:=[none,some 0,some 1,some 2,some 3]) (ρ:=[some M.w,lO t,lO w,iO (l:Nat)]) (st:=st) (n:=n) (el:=cb 5 tX (ak (af 1) (ak (af 2) (ak (af 3) (ak (af 4) (ak (af 0) aB))))))
  (fs:=ak (bE dM (ak (af 2) aB)) aB) (fun k:Nat=>W.int k) (fun i b=>b=pw M ns wv l i)
  (av (bW kn (by have:=m7 (a_ hw);rw[show(nW wv).length=n by unfold nW;rw[al];exact lw]at this;exact this)) aV) (by omega) fun i hi=>⟨_,rfl,bM (av kv (av kv (av kv (av kv kn)))) (DM hM hD JJ Js ht hw lw hl hi) rfl⟩
 have er:r=(List.range n).map fun r=>pw M ns wv l r:=by
  refine b6 fun i=>?_
  rw[aj]
  by_cases hi:i<n
  ·rw[aJ hi,ae (by omega),hr2 i _ (ae (by omega))];rfl
  ·rw[az (by omega),az (by simpa using hi)];rfl
 subst er
 suffices hh:i8 (vD fun w' bz=>∃j x,w'=.loc (st.length+j)/\bz=st++x/\j=0/\x=[.lst (nW ((List.range n).map fun r=>pw M ns wv l r))]) (M3 ([M.w,.loc t,.loc w,.int (l:Nat)].map some++List.replicate (4-4) none) st) by
  obtain⟨j,x,⟨rfl,rfl⟩,e⟩:=kC hh
  exact e
 apply bC
 ·exact hr3
 ·exact⟨_,_,rfl,0,_,rfl,rfl,rfl,rfl⟩
def Wz(M:Mc)(ns wv vr:List Nat)(l:Nat):W->W
 |.int r=>.int ((pw M ns wv l r.toNat*vr.getD r.toNat 0:Nat):Int)
 |_=>.non
theorem Ja{t w:Nat}{vr:List Nat}{xr:W}(hM:yJ M n)(hn:n<=1000)(hD:ol D ns)(JJ:∀t∈ns,t<M.tb.length)(Js:ns.length<=1000)(ht:st[t]?=some (.rod (tD D)))(hw:st[w]?=some (.lst (nW wv)))(lw:wv.length=n)(hx:pT st xr vr)(lr:vr.length=n)(hb:∀a,vr.getD a 0<2^64) :
  ∃x,(st++x)[st.length+1]?=some (.lst (nW ((List.range n).map fun l=>pk n vr fun r=>pw M ns wv l r)))/\Dg [M.w,.loc t,.loc w,xr] st=.ok (.loc (st.length+1)) (st++x):=by
 suffices hh:i8 (vD fun w' bz=>∃j x,w'=.loc (st.length+j)/\bz=st++x/\j=1/\(st++x)[st.length+1]?=some (.lst (nW ((List.range n).map fun l=>pk n vr fun r=>pw M ns wv l r)))) (M4 ([M.w,.loc t,.loc w,xr].map some++List.replicate (7-4) none) st) by
  obtain⟨j,x,⟨rfl,h1⟩,e⟩:=kC hh
  exact⟨x,h1,e⟩
 apply aD
 ·exact bD (bM kn (yR hx (by omega)) rfl)
 apply aD
 ·exact bD (kZ aV (aQ rfl))
 rw[show(st++[am.lst (nW (nz vr))]).length=st.length+1 by simp]
 generalize hs0:st++[am.lst (nW (nz vr))]++[.lst []]=s0
 have p0:st <+: s0:=by rw[<- hs0];exact hU (hU (ah _))
 have c0:s0[st.length]?=some (.lst (nW (nz vr))):=by rw[<- hs0];exact aT bc
 have c1:s0[st.length+1]?=some (.lst (nW [])):=by rw[<- hs0,show st.length+1=(st++[am.lst (nW (nz vr))]).length by simp];exact bc
 have da:∀s,st <+: s->dM [.loc w] s=.ok (.int n) s:=fun s hp=>by
  have:=m7 (a_ (pre_get hp hw))
  rw[show(nW wv).length=n by unfold nW;rw[al];exact lw]at this;exact this
 refine dO (fun i ρ s=>∃o:Option W,ρ=[some M.w,lO t,lO w,some xr,lO st.length,lO (st.length+1),o]/\st <+: s/\s[st.length]?=some (.lst (nW (nz vr)))/\s[st.length+1]?=some (.lst (nW ((List.range i).map fun l=>pk n vr fun r=>pw M ns wv l r))))
  (jf (q:=(n:Int)) (st1:=s0) (av (bW kn (da s0 p0)) aV) (by omega)) ⟨none,rfl,p0,c0,c1⟩ (fun _ _ _ _=>trivial) ?_ ?_
 ·rintro i w' ρ s hw' ⟨o,rfl,hp,hc0,hc1⟩
  obtain⟨hi,rfl⟩:=kO hw'
  rw[aO]at hi
  rw[show((0:Int)+(i:Int))=(i:Int) by omega]
  refine⟨_,rfl,?_⟩
  have vx:pT s xr vr:=by
   rcases hx with rfl|⟨p,rfl,hp'⟩
   ·exact .inl rfl
   ·exact .inr ⟨p,rfl,pre_get hp hp'⟩
  have hcm:=m8 (cap:=[none,some 0,some 1,some 2,some 6,some 3]) (f:=eM 0) (ρ:=[some M.w,lO t,lO w,some xr,lO st.length,lO (st.length+1),iO (i:Nat)]) (el:=e2 fR (cb 5 tX (ak (af 1) (ak (af 2) (ak (af 3) (ak (af 4) (ak (af 0) aB)))))) (e2 b9 (af 5) (af 0))) (Wz M ns wv vr i)
   (lU (fe:=af 4) kv (a_ hc0)) (by unfold nW nz;rw[al];exact aL (b_ _ _) (by rw[cC];show _<=1000000;omega)) (a_ hc0) fun x hx'=>by
    obtain⟨r,hr,rfl⟩:=ba.mp hx'
    have uq:r<n:=by have:=bN.mp (cH.mp hr).1;omega
    refine⟨_,rfl,?_⟩
    show _=R.ok (W.int ((pw M ns wv i ((r:Nat):Int).toNat*vr.getD ((r:Nat):Int).toNat 0:Nat):Int)) s
    rw[aO,dm]
    exact bP (bM (av kv (av kv (av kv (av kv kn)))) (DM hM hD JJ Js (pre_get hp ht) (pre_get hp hw) lw hi uq) rfl) (bP kv kv (Cg vx (by omega))) (ma (.inr ⟨by omega,by have:=hb r;omega⟩))
  have em:(nW (nz vr)).map (Wz M ns wv vr i)=((nz vr).map fun r=>((pw M ns wv i r*vr.getD r 0:Nat):Int)).map W.int:=by
   unfold nW
   rw[aS,aS]
   refine bJ fun r _=>?_
   show W.int ((pw M ns wv i ((r:Nat):Int).toNat*vr.getD ((r:Nat):Int).toNat 0:Nat):Int)=_
   rw[aO];rfl
  rw[em]at hcm
  have hs:=AJ (a_ (bc (s:=s) (c:=.lst (((nz vr).map fun r=>((pw M ns wv i r*vr.getD r 0:Nat):Int)).map W.int))))
  have ev:sm (nz vr) (fun r=>pw M ns wv i r*vr.getD r 0)=pk n vr fun r=>pw M ns wv i r:=by
   unfold nz pk
   rw[sY _ _ _ fun r hr=>by have:=iR hr;rw[show vr.getD r 0=0 by omega,r_],lr]
   exact cN fun r _=>jn ..
  rw[Iu (nz vr) fun r=>pw M ns wv i r*vr.getD r 0,ev]at hs
  generalize hs1:s++[am.lst (((nz vr).map fun r=>((pw M ns wv i r*vr.getD r 0:Nat):Int)).map W.int)]=s1 at *
  have hc1':s1[st.length+1]?=some (.lst (nW ((List.range i).map fun l=>pk n vr fun r=>pw M ns wv l r))):=by rw[<- hs1];exact aT hc1
  apply cU
  ·exact fX (j6 kv (fz hc1) (av (bW (av hcm aV) hs) aV) (jH hc1' (by unfold nW;rw[al,al,cC];omega)))
  ·refine⟨_,_,rfl,_,rfl,m_ (by rw[<- hs1];exact hU hp) (by omega),by rw[fj (by omega),<- hs1];exact aT hc0,?_⟩
   rw[iK hc1',nY,bw]
   unfold nW
   rw[bw];rfl
 ·rintro ρ s ⟨o,rfl,hp,hc0,hc1⟩
  rw[show(fP 0 (n:Int).toNat,(none:Option (Nat×List W))).fst.length=n by simp[dQ]]at hc1
  obtain⟨x,rfl⟩:=hp
  apply bC
  ·exact dX rfl
  ·exact⟨_,_,rfl,1,x,rfl,rfl,rfl,hc1⟩
noncomputable def gM(M:Mc)(q:Nat):Nat:=if M.gd.getD q false then 1 else 0
noncomputable def WA:W->W
 |.bl b=>.int ((if b then 1 else 0:Nat):Int)
 |_=>.non
theorem Lu(hM:yJ M n)(hn:n<=1000)(st:List am):Dc [M.w] st=.ok (.loc st.length) (st++[.lst (nW ((List.range n).map (gM M)))]):=by
 have:=m8 (cap:=[none]) (f:=eM 0) (el:=Bc (gn (af 0)) (eI 1) (eI 0)) (ρ:=[some M.w]) (st:=st) WA (kB (fe:=e2 b9 (af 0) (eI 1)) (ws:=M.gd.map W.bl) (st1:=st) kx)
  (by rw[al,hM.gd];show _<=1000000;omega) trivial fun w hw=>by
   obtain⟨b,_,rfl⟩:=ba.mp hw
   refine⟨_,rfl,?_⟩
   cases b
   ·exact pO (bY kv) cG
   ·exact pN (bY kv) cG
 have e:(M.gd.map W.bl).map WA=nW ((List.range n).map (gM M)):=by
  have:=sV M.gd false fun b=>(if b then 1 else 0:Nat)
  rw[hM.gd]at this
  unfold nW
  rw[show(List.range n).map (gM M)=_ from this,aS,aS];rfl
 rw[e]at this
 suffices hh:i8 (vD fun w' bz=>∃j x,w'=.loc (st.length+j)/\bz=st++x/\j=0/\x=[.lst (nW ((List.range n).map (gM M)))]) (MY ([M.w].map some++List.replicate (1-1) none) st) by
  obtain⟨j,x,⟨rfl,rfl⟩,e⟩:=kC hh
  exact e
 apply bC
 ·exact this
 ·exact⟨_,_,rfl,0,_,rfl,rfl,rfl,rfl⟩
end
theorem v3(rs:List Nat)(o:Option Nat)(p:Nat)(st:List am)(hc:st[p]?=some (.lst (nW rs)))(ho:∀k,o=some k->k<rs.length):vK [.loc p,oW o] st=.ok (.int (j' rs o:Nat)) st:=by
 refine jE ?_
 cases o with
 |none=>
  apply bC
  ·exact pN (bY (qW kv rfl)) cG
  ·exact⟨_,_,rfl,rfl,rfl⟩
 |some k=>
  apply bC
  ·exact pO (bY (qW kv rfl)) (bP kv kv (rB hc (a9 0 (ho k rfl))))
  ·exact⟨_,_,rfl,rfl,rfl⟩
noncomputable def Uh(A B:List (Option Nat))(p:Nat):Option Nat:=match A.getD p none with
 |some u=>some u
 |none=>B.getD p none
theorem Ui{A B:List (Option Nat)}{ua ub p:Nat}(hA:st[ua]?=some (.lst (A.map oW)))(hB:st[ub]?=some (.lst (B.map oW)))(lA:p<A.length)(lB:p<B.length):Da [.tup [.loc ua,.loc ub],.int (p:Nat)] st=.ok (oW (Uh A B p)) st:=by
 have ia:b9 (.loc ua) (.int (p:Nat)) st=.ok (oW (A.getD p none)) st:=k_ (a_ hA) (dR (by rw[aj,a9 none lA];rfl))
 have ib:b9 (.loc ub) (.int (p:Nat)) st=.ok (oW (B.getD p none)) st:=k_ (a_ hB) (dR (by rw[aj,a9 none lB];rfl))
 refine jE ?_
 unfold Uh
 cases h:A.getD p none with
 |none=>
  rw[h]at ia
  apply bC
  ·exact pO (bY (m5 (bP kx kv ia) rfl)) (bP kx kv ib)
  ·exact⟨_,_,rfl,rfl,rfl⟩
 |some u=>
  rw[h]at ia
  apply bC
  ·exact pN (bY (m5 (bP kx kv ia) rfl)) (bP kx kv ia)
  ·exact⟨_,_,rfl,rfl,rfl⟩
theorem rM(kvs:List (DK×W))(k:DK)(v:W):kW (kX kvs k v) k=some v:=by
 unfold kX
 by_cases h:(kvs.any fun p=>decide (p.1=k))=true
 ·rw[au h]
  unfold kW
  induction kvs with
  |nil=>simp at h
  |cons p r ih=>
   rw[aP,bZ]
   by_cases e:p.1=k
   ·rw[au e,bf e];rfl
   ·rw[ax e,a8 e]
    rw[me,a8 e,Bool.false_or]at h
    exact ih h
 ·rw[ax h]
  unfold kW
  rw[l6]
  have:kvs.find? (fun p=>decide (p.1=k))=none:=by
   rw[List.find?_eq_none]
   intro p hp z
   exact h (mM.mpr ⟨p,hp,z⟩)
  rw[this,Option.none_or,bZ,show decide ((k,v).1=k)=true from bf rfl];rfl
theorem DN{kvs:List (DK×W)}{k k':DK}{v:W}(hk:k'≠k):kW (kX kvs k v) k'=kW kvs k':=by
 unfold kX
 by_cases h:(kvs.any fun p=>decide (p.1=k))=true
 ·rw[au h]
  clear h
  unfold kW
  induction kvs with
  |nil=>rfl
  |cons p r ih=>
   rw[aP,bZ,bZ]
   by_cases e:p.1=k
   ·rw[au e]
    have:decide (p.1=k')=false:=a8 (by rw[e];exact Ne.symm hk)
    rw[this];exact ih
   ·rw[ax e]
    cases hd:decide (p.1=k')
    ·exact ih
    ·rfl
 ·rw[ax h]
  unfold kW
  rw[l6]
  have:List.find? (fun p:DK×W=>decide (p.1=k')) [(k,v)]=none:=by
   rw[bZ,show decide ((k,v).1=k')=false from a8 (Ne.symm hk)];rfl
  rw[this,Option.or_none]
theorem Ai(kvs:List (DK×W))(k:DK)(v:W):(kX kvs k v).length<=kvs.length+1:=by
 unfold kX
 split
 ·rw[al];omega
 ·rw[aE];simp
theorem Lv{kvs:List (DK×W)}{k:DK}{v:W}(h:kW kvs k=some v)(hu:undWs n (kvs.map fun p=>p.2)=true):v.und n=true:=by
 unfold kW at h
 induction kvs with
 |nil=>cases h
 |cons p r ih=>
  rw[aP,undWs,bX]at hu
  rw[bZ]at h
  cases e:decide (p.1=k)
  ·rw[e]at h;exact ih h hu.2
  ·rw[e]at h
   have:p.2=v:=by simpa using h
   rw[<- this];exact hu.1
theorem QW{a b:Nat}(h:a≠b):(DK.i (a:Nat))≠DK.i (b:Nat):=by
 intro z;injection z with z;omega
section
variable{ps:List Pl}{sz:List Nat}{lk:List (Option Nat×Option Nat)}{M:Mc}{a:Ad}
theorem wL.keep{z':List am}(h:wL a M n nm ps sz lk z)(k:∀(i:Nat) (c:am),z[i]?=some c->i<a.wp->z'[i]?=some c):wL a M n nm ps sz lk z':=by
 have lt:=h.lt
 exact⟨k _ _ h.ob (by omega),k _ _ h.cA (by omega),k _ _ h.cB (by omega),h.lA,h.lB,h.uA,h.uB,k _ _ h.bg (by omega),fun j hj=>k _ _ (h.bgs j hj) (by omega),k _ _ h.nu (by omega),fun j hj=>k _ _ (h.nus j hj) (by omega),k _ _ h.tm (by omega),
  fun j hj=>(h.tms j hj).imp fun D hD=>⟨hD.1,k _ _ hD.2 (by omega)⟩,k _ _ h.pc (by omega),h.lq,fun j q e=>k _ _ (h.pcs j q e) (h.ltq q (ay e)),lt,h.ltq⟩
abbrev WV(M:Mc)(n:Nat)(nm:List Nat)(ps:List Pl)(sz rs:List Nat)(u:Nat):List Nat:=DD n (Tm M.tb) (gM M) (ps.map Pl.b) (gO M nm ps) sz rs u
structure Bd(a:Ad)(M:Mc)(n:Nat)(nm:List Nat)(ps:List Pl)(sz rs:List Nat)(K:Nat)(Kn:Nat->Prop)(z:List am):Prop where
 r:z[a.rp]?=some (.lst (nW rs))
 m:∃ms,z[a.mp]?=some (.lst ms)/\ms.length=rs.length
 w:∃kvs,z[a.wp]?=some (.dct kvs)/\kvs.length<=K/\(∀k q,kW kvs k=some (.loc q)->q<z.length)/\∀u,Kn u->∃q,kW kvs (.i (u:Nat))=some (.loc q)/\a.mp<q/\z[q]?=some (.lst (nW (WV M n nm ps sz rs u)))
theorem sd{f:Str}{w:W}{i:Nat}(h:wL a M n nm ps sz lk z)(hi:ρ[i]?=some (lO a.L))(hf:(Ug a M nm ps lk).lookup f=some w):eF "Course" f (af i) ρ z=.ok w z:=qj (dX hi) h.ob hf
theorem Uj(h:Gr ps S sz lk)(hS:S.length<=1)(hz:wL a M n nm ps sz lk z){p:Nat}(hp:p<ps.length) :
  (Uh a.A a.B p=none/\p+1=ps.length)\/∃(u:Nat) (x:Option Nat×Option Nat),Uh a.A a.B p=some u/\lk[u]?=some x/\(x.1=some p\/x.1≠some p/\x.2=some p):=by
 obtain⟨l1,l2,_⟩:=h.ok
 have gA:a.A[p]?=some (a.A.getD p none):=a9 none (by rw[hz.lA];exact hp)
 have gB:a.B[p]?=some (a.B.getD p none):=a9 none (by rw[hz.lB];exact hp)
 unfold Uh
 cases hA:a.A.getD p none with
 |some u=>
  rw[hA]at gA
  obtain⟨x,hx,e⟩:=hz.uA.1 p u gA
  exact .inr ⟨u,x,rfl,hx,.inl e⟩
 |none=>
  rw[hA]at gA
  have noA:∀(u:Nat) (x:Option Nat×Option Nat),lk[u]?=some x->x.1≠some p:=fun u x hx e=>by
   obtain⟨v,hv⟩:=hz.uA.2 u x p (by have:=(ac.mp hx).1;omega) hx e
   rw[gA]at hv;cases hv
  cases hB:a.B.getD p none with
  |some u=>
   rw[hB]at gB
   obtain⟨x,hx,e⟩:=hz.uB.1 p u gB
   exact .inr ⟨u,x,rfl,hx,.inr ⟨noA u x hx,e⟩⟩
  |none=>
   rw[hB]at gB
   refine .inl ⟨rfl,?_⟩
   rcases h.par p hp with m|⟨u,x,hx,e|e⟩
   ·match S,hS,m with
    |[],_,m=>cases m
    |[s],_,m=>
     have:p=ps.length-1:=by simpa[U4]using m
     omega
   ·exact(noA u x hx e).elim
   ·obtain⟨v,hv⟩:=hz.uB.2 u x p (by have:=(ac.mp hx).1;omega) hx e
    rw[gB]at hv;cases hv
theorem Nh(h:Gr ps S sz lk){u p:Nat}(hx:lk[u]?=some x)(hp:x.1=some p\/x.2=some p):p<u/\u+1-sz.getD u 0<=p+1-sz.getD p 0/\(x.2=some p->∀l,x.1=some l->l+1=p+1-sz.getD p 0):=by
 obtain⟨l1,l2,_⟩:=h.ok
 have hu:u<ps.length:=by have:=(ac.mp hx).1;omega
 obtain⟨pl,L,R,q1,q2,q3,q4,q5,q6,q7⟩:=h.pf hu
 rw[hx]at q4
 have q4:=aF q4
 subst q4
 have su:sz.getD u 0=1+L+R:=by rw[ao,q2];rfl
 rw[su]
 have hR:(if 0<R then some (u-1)else none)=some p->0<R/\u-1=p/\sz.getD p 0=R:=fun e=>by
  by_cases hR:0<R
  ·rw[au hR]at e
   have e:u-1=p:=aF e
   have:=q6 hR
   rw[e]at this
   exact⟨hR,e,by rw[ao,this];rfl⟩
  ·rw[ax hR]at e;cases e
 have hL:∀l,(if 0<L then some (u-1-R)else none)=some l->0<L/\u-1-R=l/\sz.getD l 0=L:=fun l e=>by
  by_cases hL:0<L
  ·rw[au hL]at e
   have e:u-1-R=l:=aF e
   have:=q7 hL
   rw[e]at this
   exact⟨hL,e,by rw[ao,this];rfl⟩
  ·rw[ax hL]at e;cases e
 refine⟨?_,?_,fun e2 l e1=>?_⟩
 ·rcases hp with e|e
  ·obtain⟨a1,a2,a3⟩:=hL p e;omega
  ·obtain⟨a1,a2,a3⟩:=hR e;omega
 ·rcases hp with e|e
  ·obtain⟨a1,a2,a3⟩:=hL p e;omega
  ·obtain⟨a1,a2,a3⟩:=hR e;omega
 ·obtain⟨a1,a2,a3⟩:=hL l e1
  obtain⟨b1,b2,b3⟩:=hR e2
  omega
theorem Jb{rs:List Nat}{p:Nat}(hl:l.length=n)(h:∀q,q<n->(WV M n nm ps sz rs p).getD q 0=l.getD q 0):WV M n nm ps sz rs p=l:=by
 refine b6 fun i=>?_
 by_cases hi:i<n
 ·rw[a9 0 (by rw[rK];exact hi),a9 0 (by omega),h i hi]
 ·rw[az (by rw[rK];omega),az (by omega)]
theorem Cj{f:Nat->Nat}(h:q<n):((List.range n).map f).getD q 0=f q:=jk f (aJ h)
structure JH(M:Mc)(n:Nat)(nm:List Nat)(ps:List Pl)(S sz:List Nat)(lk:List (Option Nat×Option Nat)):Prop where
 g:Gr ps S sz lk
 s1:S.length<=1
 l:ps.length<=250
 mo:yJ M n
 n1:1<=n
 n2:n<=1000
 nl:nm.length<=4
 m:∀p∈ps,p.m.length<=1000
 t:∀p∈ps,∀t∈jU M.nm nm p.m,t<M.tb.length
 hb:HB n (km n (Tm M.tb) (gO M nm ps) lk []) lk
theorem JH.num(G:JH M n nm ps S sz lk)(hj:j<ps.length):(∀t∈(gO M nm ps).getD j [],t<M.tb.length)/\((gO M nm ps).getD j []).length=2^nm.length/\2^nm.length<=16:=by
 have e:(gO M nm ps).getD j []=jU M.nm nm ps[j].m:=jk _ (ae hj)
 rw[e]
 refine⟨G.t _ (dU hj),by unfold jU;simp,aL (d8 (by decide) G.nl) (by decide)⟩
theorem Jc(G:JH M n nm ps S sz lk){K p:Nat}{Kn:Nat->Prop}(hz:wL a M n nm ps sz lk z)(hd:Bd a M n nm ps sz rs K Kn z)(hK:K<=900000)(hp:p<ps.length)(W6:rs.length=p+1-sz.getD p 0)(uq:∀r∈rs,r<n)(hu:∀(u:Nat) (x:Option Nat×Option Nat),lk[u]?=some x->(x.1=some p\/x.2=some p)->Kn u) :
  ∃z',dH [.loc a.L,.int (p:Nat)] z=.ok .non z'/\Kp a.wp a.wp z z'/\wL a M n nm ps sz lk z'/\Bd a M n nm ps sz rs (K+1) (fun u=>Kn u\/u=p) z':=by
 obtain⟨l1,l2,_⟩:=G.g.ok
 obtain⟨kvs,hw,E1,hkl,hkn⟩:=hd.w
 obtain⟨ms,hms,hml⟩:=hd.m
 have lt:=hz.lt
 have lw:=c_ hw
 have lr:=c_ hd.r
 have lm:=c_ hms
 have hT:∀t a b,Tm M.tb t a b<n:=xB G.mo G.n1
 have hNl:(gO M nm ps).length=ps.length:=by simp
 suffices hh:i8 (EJ fun _ z'=>∃q x,z.length<=q/\(z++x)[q]?=some (.lst (nW (WV M n nm ps sz rs p)))/\z'=(z++x).set a.wp (.dct (kX kvs (.i (p:Nat)) (.loc q)))) (iu ([.loc a.L,.int (p:Nat)].map some++List.replicate (5-2) none) z) by
  obtain⟨ρ,z',e,q,x,hq,hqc,rfl⟩:=hh
  have hwx:(z++x)[a.wp]?=some (.dct kvs):=aT hw
  have kp:Kp a.wp a.wp z ((z++x).set a.wp (.dct (kX kvs (.i (p:Nat)) (.loc q)))):=Kp.refl.app.setA
  refine⟨_,?_,kp,hz.keep fun i c e h=>kp i c e (by omega) (by omega),⟨kp _ _ hd.r (by omega) (by omega),⟨ms,kp _ _ hms (by omega) (by omega),hml⟩,_,iK hwx,aL (Ai _ _ _) (by omega),fun k q' e=>?_,fun u hu=>?_⟩⟩
  ·unfold dH de
   rw[show iu (List.map some [W.loc a.L,.int (p:Nat)]++List.replicate (5-[W.loc a.L,.int (p:Nat)].length) none) z=_ from e]
   show R.ok W.non (ja z _ [])=_
   unfold ja
   rw[ax]
   rintro⟨_,_,k⟩
   have hnew:((z++x).set a.wp (.dct (kX kvs (.i (p:Nat)) (.loc q))))[a.wp]?=some (.dct (kX kvs (.i (p:Nat)) (.loc q))):=iK hwx
   have bad:undWs z.length ((kX kvs (.i (p:Nat)) (.loc q)).map fun p=>p.2)=true->False:=fun hu=>by
    have:=Lv (rM kvs (.i (p:Nat)) (.loc q)) hu
    simp only[W.und,bH]at this
    omega
   rcases k a.wp lw with k|⟨c,k,hu⟩
   ·rw[hnew,hw]at k
    have k:kX kvs (.i (p:Nat)) (.loc q)=kvs:=by injection k with k;injection k
    have h1:=rM kvs (.i (p:Nat)) (.loc q)
    rw[k]at h1
    have:=hkl _ _ h1
    omega
   ·rw[hnew]at k
    cases k
    exact bad hu
  ·have lq:=c_ hqc
   rw[iD]
   by_cases hk:k=.i (p:Nat)
   ·subst hk
    rw[rM]at e
    injection e with e;injection e with e;omega
   ·rw[DN hk]at e
    have:=hkl _ _ e
    rw[aE];omega
  ·by_cases hup:u=p
   ·subst hup
    exact⟨q,rM _ _ _,by omega,by rw[fj (by omega)];exact hqc⟩
   ·obtain⟨q',e1,e2,e3⟩:=hkn u (hu.resolve_right hup)
    exact⟨q',by rw[DN (QW hup)];exact e1,e2,kp _ _ e3 (by omega) (by omega)⟩
 have hup:=Ui hz.cA hz.cB (p:=p) (by rw[hz.lA];exact hp) (by rw[hz.lB];exact hp)
 apply aD
 ·exact bD (bM (av (sd hz rfl rfl) kn) hup rfl)
 have lt1:kvs.length<1000000:=by omega
 have put:∀(fe:FE) (ρ:cw) (q:Nat) (x:List am),ρ[0]?=some (lO a.L)->ρ[1]?=some (iO (p:Nat))->fe ρ z=.ok (.loc q) (z++x)->z.length<=q->(z++x)[q]?=some (.lst (nW (WV M n nm ps sz rs p))) ->
   i8 (EJ fun _ z'=>∃q x,z.length<=q/\(z++x)[q]?=some (.lst (nW (WV M n nm ps sz rs p)))/\z'=(z++x).set a.wp (.dct (kX kvs (.i (p:Nat)) (.loc q)))) (qH (eF "Course" "weights" (af 0)) (af 1) fe qQ ρ z):=fun fe ρ q x h0 h1 he hq hqc=>by
  have hzx:wL a M n nm ps sz lk (z++x):=hz.keep fun i c e _=>aT e
  apply cU
  ·exact tV he (sd hzx h0 rfl) (dX h1) (IF (aT hw) lt1)
  ·exact⟨_,_,rfl,q,x,hq,hqc,rfl⟩
 have sp:∀u,u<ps.length->sz[u]?=some (sz.getD u 0):=fun u h=>a9 0 (by omega)
 rcases Uj G.g G.s1 hz hp with⟨e,hpe⟩|⟨u,x,e,hx,hxp⟩
 ·rw[e]
  apply qX
  ·exact bY (qW kv rfl)
  refine put _ _ z.length _ rfl rfl (bM (av (sd hz rfl rfl) aV) (Lu G.mo G.n2 z) rfl) (aw _) ?_
  rw[bc,Jb (M:=M) (nm:=nm) (ps:=ps) (sz:=sz) (rs:=rs) (p:=p) (l:=(List.range n).map (gM M)) (by simp) fun q hq=>by rw[QP rs p hpe hq,Cj hq]]
 ·have hul:u<ps.length:=by have:=(ac.mp hx).1;omega
  obtain⟨D,hD,hDc⟩:=hz.tms u hul
  obtain⟨nt,nl,n16⟩:=G.num hul
  obtain⟨q,hg,hqm,hqc⟩:=hkn u (hu u x hx (hxp.imp (fun h=>h) fun h=>h.2))
  have itm:∀ρ:cw,ρ[0]?=some (lO a.L)->ρ[2]?=some (iO (u:Nat))->e2 b9 (eF "Course" "times" (af 0)) (af 2) ρ z=.ok (.loc (a.t0+u)) z:=fun ρ h0 h2=>bP (sd hz h0 rfl) (dX h2) (k_ (a_ hz.tm) (dR (by rw[aj,aJ hul];rfl)))
  have iwt:∀ρ:cw,ρ[0]?=some (lO a.L)->ρ[2]?=some (iO (u:Nat))->e2 yo (eF "Course" "weights" (af 0)) (af 2) ρ z=.ok (.loc q) z:=fun ρ h0 h2=>bP (sd hz h0 rfl) (dX h2) (Nf (Dv hw) hg)
  have ilk:∀ρ:cw,ρ[0]?=some (lO a.L)->ρ[2]?=some (iO (u:Nat))->e2 b9 (eF "Course" "links" (af 0)) (af 2) ρ z=.ok (uO x) z:=fun ρ h0 h2=>bP (sd hz h0 rfl) (dX h2) (lT (dR (by rw[aj,hx];rfl)))
  rw[e]
  apply pP
  ·exact bY (qW kv rfl)
  rcases hxp with h1|⟨h1,h2⟩
  ·have heq:qF (oW x.1) (.int (p:Nat)) z=.ok (.bl true) z:=by rw[h1];exact je (by simp)
   apply qX
   ·exact bY (bP (bP (ilk _ rfl rfl) cG ox) kv heq)
   obtain⟨xr,er,vr⟩:=rJ (n:=n) (V:=km n (Tm M.tb) (gO M nm ps) lk []) G.mo G.n2 hz.ob rfl rfl hz.pc hz.pcs x.2 (fun k e=>by rw[hz.lq];have:=(G.g.lk hx).2 k e;omega)
   apply aD
   ·exact bD (md kv hz.ob rfl (av (bP (ilk _ rfl rfl) cG ox) aV) rfl er)
   have vrl:(rG n (km n (Tm M.tb) (gO M nm ps) lk []) x.2).length=n:=by
    cases x.2 with
    |none=>exact lh
    |some k=>
     rcases jT (km n (Tm M.tb) (gO M nm ps) lk []) k (ez n)with e|e
     ·show((km n (Tm M.tb) (gO M nm ps) lk []).getD k (ez n)).length=n;rw[e];exact lh
     ·exact rH n _ _ _ _ (by simp) _ e
   obtain⟨y,hy,ey⟩:=Ja G.mo G.n2 hD nt (by omega) hDc hqc (rK u) vr vrl (G.hb u x hx (by rw[h1];simp))
   refine put _ _ (z.length+1) y rfl rfl (bM (av (sd hz rfl rfl) (av (itm _ rfl rfl) (av (iwt _ rfl rfl) kn))) ey rfl) (by omega) ?_
   rw[hy,Jb (M:=M) (nm:=nm) (ps:=ps) (sz:=sz) (rs:=rs) (p:=p) (l:=(List.range n).map fun l=>pk n (rG n (km n (Tm M.tb) (gO M nm ps) lk []) x.2) fun r=>pw M ((gO M nm ps).getD u []) (WV M n nm ps sz rs u) l r) (by simp) fun q hq=>by rw[QQ G.g hNl hT G.n1 rs hx h1 hq,Cj hq];rfl]
  ·have heq:qF (oW x.1) (.int (p:Nat)) z=.ok (.bl false) z:=by
    cases hx1:x.1 with
    |none=>rfl
    |some k=>exact je (by rw[bI];intro e;exact h1 (by rw[hx1];congr 1;omega))
   apply pP
   ·exact bY (bP (bP (ilk _ rfl rfl) cG ox) kv heq)
   have hlt:∀k,x.1=some k->k<rs.length:=fun k e=>by
    have:=(Nh G.g hx (.inr h2)).2.2 h2 k e
    omega
   have hrm:=v3 rs x.1 a.rp z hd.r hlt
   apply aD
   ·exact bD (bM (av (sd hz rfl rfl) (av (bP (ilk _ rfl rfl) cG ox) aV)) hrm rfl)
   have hbl:j' rs x.1<n:=by
    cases hx1:x.1 with
    |none=>show 0<n;have:=G.n1;omega
    |some k=>exact uq _ (ay (a9 0 (hlt k hx1)))
   refine put _ _ z.length _ rfl rfl (bM (av (sd hz rfl rfl) (av (itm _ rfl rfl) (av (iwt _ rfl rfl) kn))) (EN G.mo G.n2 hD nt (by omega) hDc hqc (rK u) hbl) rfl) (aw _) ?_
   rw[bc,Jb (M:=M) (nm:=nm) (ps:=ps) (sz:=sz) (rs:=rs) (p:=p) (l:=(List.range n).map fun r=>pw M ((gO M nm ps).getD u []) (WV M n nm ps sz rs u) (j' rs x.1) r) (by simp) fun q hq=>by rw[Lr G.g hNl hT rs hx h2 hq,Cj hq];rfl]
end
theorem EO(h:bz.length=st.length):ja st bz ws=bz:=by
 unfold ja
 split
 ·rw[<- h,cz]
 ·rfl
section
variable{ps:List Pl}{sz:List Nat}{lk:List (Option Nat×Option Nat)}{M:Mc}{a:Ad}
theorem Nj(G:JH M n nm ps S sz lk){o:Option Nat}(ho:∀k,o=some k->k<rs.length)(uq:∀r∈rs,r<n):j' rs o<n:=by
 cases o with
 |none=>show 0<n;have:=G.n1;omega
 |some k=>exact uq _ (ay (a9 0 (ho k rfl)))
theorem v5(G:JH M n nm ps S sz lk)(hz:wL a M n nm ps sz lk z)(hr:z[a.rp]?=some (.lst (nW rs)))(hx:lk[rs.length]?=some x)(uq:∀r∈rs,r<n){c:Nat}(hc:c<2^nm.length) :
  dv [.loc a.L,.int (rs.length:Nat),.int (c:Nat)] z=.ok (.int (Tm M.tb (((gO M nm ps).getD rs.length []).getD c 0) (j' rs x.1) (j' rs x.2):Nat)) z:=by
 obtain⟨l1,l2,_⟩:=G.g.ok
 have hi:rs.length<ps.length:=by have:=(ac.mp hx).1;omega
 obtain⟨nt,nl,n16⟩:=G.num hi
 obtain⟨u1,u2⟩:=G.g.lk hx
 generalize hN:(gO M nm ps).getD rs.length []=Ni at *
 have hg:Ni[c]?=some (Ni.getD c 0):=a9 0 (by omega)
 have htl:=nt _ (ay hg)
 have htb:M.tb[Ni.getD c 0]?=some (M.tb.getD (Ni.getD c 0) []):=a9 [] htl
 obtain⟨t1,t2⟩:=G.mo.t _ (ay htb)
 have b1:=Nj G u1 uq
 have b2:=Nj G u2 uq
 have g1:(M.tb.getD (Ni.getD c 0) [])[j' rs x.1]?=some ((M.tb.getD (Ni.getD c 0) []).getD (j' rs x.1) []):=a9 [] (by omega)
 obtain⟨r1,r2⟩:=t2 _ (ay g1)
 have g2:((M.tb.getD (Ni.getD c 0) []).getD (j' rs x.1) [])[j' rs x.2]?=some (((M.tb.getD (Ni.getD c 0) []).getD (j' rs x.1) []).getD (j' rs x.2) 0):=a9 0 (by omega)
 have i1:b9 (.loc a.nu) (.int (rs.length:Nat)) z=.ok (.loc (a.n0+rs.length)) z:=k_ (a_ hz.nu) (dR (by rw[aj,aJ hi];rfl))
 have cn:=hz.nus rs.length hi
 rw[hN]at cn
 have ix:b9 (.tup (M.tb.map qf)) (.int (Ni.getD c 0:Nat)) z=.ok (qf (M.tb.getD (Ni.getD c 0) [])) z:=lT (dR (by rw[aj,htb];rfl))
 refine jE ?_
 apply aD
 ·exact bD (bP (bP (sd hz rfl rfl) cG ox) (bP (bP (sd hz rfl rfl) kv i1) kv (rB cn hg)) ix)
 apply aD
 ·exact bD (bP (sd hz rfl rfl) kv (lT (w:=uO x) (dR (by rw[aj,hx];rfl))))
 apply bC
 ·exact bP (bP kv (bM (av (sd hz rfl rfl) (av kx aV)) (v3 rs x.1 a.rp z hr u1) rfl) (yK g1)) (bM (av (sd hz rfl rfl) (av kx aV)) (v3 rs x.2 a.rp z hr u2) rfl) (vO g2)
 ·exact⟨_,_,rfl,rfl,rfl⟩
def U5(ps:List Pl)(sz:List Nat)(i u:Nat):Prop:=u<ps.length/\u+1-sz.getD u 0<i/\i<=u
def U6(ps:List Pl)(sz:List Nat)(i u:Nat):Prop:=u<ps.length/\u+1-sz.getD u 0<=i/\i<=u
theorem Gr.sz1(h:Gr ps S sz lk){u:Nat}(hu:u<ps.length):1<=sz.getD u 0/\sz.getD u 0<=u+1:=by
 obtain⟨p,L,R,q1,q2,q3,_⟩:=h.pf hu
 rw[ao,q2]
 show 1<=1+L+R/\1+L+R<=u+1
 omega
theorem Bd.imp{K K':Nat}{P Q:Nat->Prop}(h:Bd a M n nm ps sz rs K P z)(hK:K<=K')(WX:∀u,Q u->P u):Bd a M n nm ps sz rs K' Q z:=by
 obtain⟨kvs,h1,h2,h3,h4⟩:=h.w
 exact⟨h.r,h.m,kvs,h1,by omega,h3,fun u hu=>h4 u (WX u hu)⟩
theorem EQ(G:JH M n nm ps S sz lk){K:Nat}(hz:wL a M n nm ps sz lk z)(hd:Bd a M n nm ps sz rs K (U5 ps sz rs.length) z)(hK:K+250<=900000)(hx:lk[rs.length]?=some x)(uq:∀r∈rs,r<n) :
  ∃q z',gp [.loc a.L] z=.ok (.loc q) z'/\z.length<=q/\z'[q]?=some (.lst (nW (((gO M nm ps).getD rs.length []).map fun t=>(WV M n nm ps sz rs rs.length).getD (Tm M.tb t (j' rs x.1) (j' rs x.2)) 0)))/\Kp a.wp a.wp z z'/\wL a M n nm ps sz lk z'/\Bd a M n nm ps sz rs (K+250) (U6 ps sz rs.length) z':=by
 obtain⟨l1,l2,_⟩:=G.g.ok
 have hi:rs.length<ps.length:=by have:=(ac.mp hx).1;omega
 obtain⟨nt,nl,n16⟩:=G.num hi
 have hT:∀t a b,Tm M.tb t a b<n:=xB G.mo G.n1
 generalize hof:(((gO M nm ps).getD rs.length []).map fun t=>(WV M n nm ps sz rs rs.length).getD (Tm M.tb t (j' rs x.1) (j' rs x.2)) 0)=of
 have lt:=hz.lt
 suffices hh:i8 (vD fun w z'=>∃q,w=.loc q/\z.length<=q/\z'[q]?=some (.lst (nW of))/\Kp a.wp a.wp z z'/\wL a M n nm ps sz lk z'/\Bd a M n nm ps sz rs (K+250) (U6 ps sz rs.length) z') (j9 ([W.loc a.L].map some++List.replicate (3-1) none) z) by
  obtain⟨w,z',e,q,rfl,h1,h2⟩:=hh
  refine⟨q,z',?_,h1,h2⟩
  have:=m3 (N:=3) (body:=j9) (ws:=[.loc a.L]) e
  rw[pi (by simp[undWs,W.und];omega)]at this
  exact this
 have da:=m7 (a_ hd.r)
 rw[show(nW rs).length=rs.length by unfold nW;simp]at da
 apply aD
 ·exact bD (bW (av (sd hz rfl rfl) aV) da)
 have ib:∀{z:List am},wL a M n nm ps sz lk z->b9 (.loc a.bg) (.int (rs.length:Nat)) z=.ok (.loc (a.b0+rs.length)) z:=fun hz=>k_ (a_ hz.bg) (dR (by rw[aj,aJ hi];rfl))
 have bl:=DH sz ps.length ps.length rs.length
 refine dO (fun j ρ z'=>∃o:Option W,ρ=[lO a.L,iO (rs.length:Nat),o]/\Kp a.wp a.wp z z'/\z.length<=z'.length/\wL a M n nm ps sz lk z'/\Bd a M n nm ps sz rs (K+j) (fun u=>U5 ps sz rs.length u\/u∈(xG sz ps.length ps.length rs.length).take j) z')
  (lU (bP (sd hz rfl rfl) kv (ib hz)) (a_ (hz.bgs _ hi))) ⟨none,rfl,Kp.refl,aw _,hz,hd.imp (aw _) fun u h=>h.resolve_right (by simp)⟩ (fun j ρ z' h=>by
   obtain⟨_,_,_,_,h,_⟩:=h
   exact a_ (h.bgs _ hi)) ?_ ?_
 ·rintro j w ρ z' hw ⟨o,rfl,kp,hzl,hz',hd'⟩
  unfold nW at hw
  rw[aj]at hw
  obtain⟨p,hp,rfl⟩:=aG.mp hw
  have hj:j<ps.length:=by have:=(ac.mp hp).1;omega
  obtain⟨pl,pb⟩:=yV.mp (ay hp)
  refine⟨_,rfl,?_⟩
  have hl:=G.l
  obtain⟨z2,e2,k2,s2,d2⟩:=Jc G hz' hd' (by omega) pl pb.symm uq fun u y hy hyp=>by
   obtain⟨q1,q2,_⟩:=Nh G.g hy hyp
   have hul:u<ps.length:=by have:=(ac.mp hy).1;omega
   by_cases e:u+1-sz.getD u 0=rs.length
   ·exact .inr (IY hp (yV.mpr ⟨hul,e⟩) q1)
   ·exact .inl ⟨hul,by omega,by have:=(G.g.sz1 pl).1;omega⟩
  apply cU
  ·exact fX (md kv hz'.ob rfl kn rfl e2)
  ·refine⟨_,_,rfl,_,rfl,kp.trans k2,?_,s2,d2.imp (by omega) fun u h=>?_⟩
   ·rcases kG z2.length z'.length with g|g
    ·have hw':=hz'.lt
     obtain⟨kv,hkv,_⟩:=hd'.w
     have lwp:=c_ hkv
     obtain⟨ms,hms,_⟩:=hd'.m
     have lmp:=c_ hms
     have:z'[z'.length-1]?=some (z'[z'.length-1]'(by omega)):=ae (by omega)
     by_cases e:z'.length-1=a.wp
     ·omega
     ·have:=c_ (k2 _ _ this e e);omega
    ·omega
   ·rw[cZ hp,aY]at h
    rcases h with h|h|h
    ·exact .inl (.inl h)
    ·exact .inl (.inr h)
    ·exact .inr (bB.mp h)
 ·rintro ρ z' ⟨o,rfl,kp,hzl,hz',hd'⟩
  rw[show(nW (xG sz ps.length ps.length rs.length)).length=(xG sz ps.length ps.length rs.length).length by unfold nW;simp,cz]at hd'
  have hl:=G.l
  have hd2:Bd a M n nm ps sz rs (K+250) (U6 ps sz rs.length) z':=hd'.imp (by omega) fun u h=>by
   by_cases e:u+1-sz.getD u 0=rs.length
   ·exact .inr (yV.mpr ⟨h.1,e⟩)
   ·exact .inl ⟨h.1,by have:=h.2.1;omega,h.2.2⟩
  obtain⟨kvs,hw,E1,hkl,hkn⟩:=hd2.w
  obtain⟨q,hg,hqm,hqc⟩:=hkn rs.length ⟨hi,by have:=(G.g.sz1 hi).1;omega,aw _⟩
  have i1:b9 (.loc a.nu) (.int (rs.length:Nat)) z'=.ok (.loc (a.n0+rs.length)) z':=k_ (a_ hz'.nu) (dR (by rw[aj,aJ hi];rfl))
  have hln:=m7 (a_ (hz'.nus rs.length hi))
  rw[show(nW ((gO M nm ps).getD rs.length [])).length=2^nm.length by unfold nW;rw[al];exact nl]at hln
  obtain⟨r,hr1,hr2,hr3⟩:=uL (cap:=[none,some 1,some 0]) (ρ:=[lO a.L,iO (rs.length:Nat),o]) (st:=z') (n:=2^nm.length)
   (el:=e2 b9 (e2 yo (eF "Course" "weights" (af 2)) (af 1)) (kY "Course" "room_by" 3 dv (af 2) (ak (af 1) (ak (af 0) aB))))
   (fs:=ak (bE dM (ak (e2 b9 (eF "Course" "numbers" (af 0)) (af 1)) aB)) aB) (fun k:Nat=>W.int k) (fun i b=>b=(WV M n nm ps sz rs rs.length).getD (Tm M.tb (((gO M nm ps).getD rs.length []).getD i 0) (j' rs x.1) (j' rs x.2)) 0)
   (av (bW (av (bP (sd hz' rfl rfl) kv i1) aV) hln) aV) (by omega) fun i hi2=>⟨_,rfl,bP (bP (sd hz' rfl rfl) kv (Nf (Dv hw) hg)) (md kv hz'.ob rfl (av kv kn) rfl (v5 G hz' hd2.r hx uq hi2)) (rB hqc (a9 0 (by rw[rK];exact hT ..)))⟩
  have er:r=of:=by
   rw[<- hof]
   refine b6 fun i=>?_
   rw[aj]
   by_cases hi2:i<2^nm.length
   ·rw[a9 0 (show i<((gO M nm ps).getD rs.length []).length by omega),ae (by omega),hr2 i _ (ae (by omega))];rfl
   ·rw[az (by omega),az (by omega)];rfl
  subst er
  apply bC
  ·exact hr3
  ·obtain⟨ms,hms,hml⟩:=hd2.m
   exact⟨_,_,rfl,_,rfl,hzl,bc,kp.app,hz'.keep fun i c e _=>aT e,⟨aT hd2.r,⟨ms,aT hms,hml⟩,kvs,aT hw,E1,fun k q e=>by have:=hkl k q e;rw[aE];omega,fun u hu=>(hkn u hu).imp fun q hq=>⟨hq.1,hq.2.1,aT hq.2.2⟩⟩⟩
structure V_(nm:List Nat)(ps:List Pl):Prop where
 n:∀d∈nm,d∈LL
 p:∀p∈ps,∀d∈p.m,d∈LL
theorem ER(G:JH M n nm ps S sz lk)(U9:V_ nm ps){K:Nat}(hz:wL a M n nm ps sz lk z)(hd:Bd a M n nm ps sz rs K (U6 ps sz rs.length) z)(hx:lk[rs.length]?=some x)(uq:∀r∈rs,r<n){c:Nat}(hc:c<2^nm.length) :
  ∃z',fE [.loc a.L,.int (c:Nat)] z=.ok .non z'/\(∀(i:Nat) (e:am),z[i]?=some e->i<a.wp->z'[i]?=some e)/\wL a M n nm ps sz lk z'/\Bd a M n nm ps sz (rs++[Tm M.tb (((gO M nm ps).getD rs.length []).getD c 0) (j' rs x.1) (j' rs x.2)]) K (U5 ps sz (rs.length+1)) z':=by
 obtain⟨l1,l2,_⟩:=G.g.ok
 have hi:rs.length<ps.length:=by have:=(ac.mp hx).1;omega
 generalize uT:Tm M.tb (((gO M nm ps).getD rs.length []).getD c 0) (j' rs x.1) (j' rs x.2)=ro
 have lt:=hz.lt
 obtain⟨ms,hms,hml⟩:=hd.m
 have hl:=G.l
 have hp:ps[rs.length]?=some ps[rs.length]:=ae hi
 have hpm:=ay hp
 have lmp:=c_ hms
 have lrp:=c_ hd.r
 have da:=m7 (a_ hd.r)
 rw[show(nW rs).length=rs.length by unfold nW;simp]at da
 obtain⟨z1,hz1⟩:∃z1,z1=z.set a.rp (.lst (nW (rs++[ro]))):=⟨_,rfl⟩
 have s1:wL a M n nm ps sz lk z1:=hz.keep fun i e h hi=>by rw[hz1,fj (by omega)];exact h
 have hms1:z1[a.mp]?=some (.lst ms):=by rw[hz1,fj (by omega)];exact hms
 have wl:(ps[rs.length].m.filter fun d=>!decide (d∈nm)).length<=1000:=aL (b_ _ _) (G.m _ hpm)
 have ml:=uR nm c
 have mn:=G.nl
 have ho:=IG (l:=(ps[rs.length].m.filter fun d=>!decide (d∈nm))++pS nm c) (by rw[aE];omega) (fun d hd=>by
  rcases aY.mp hd with z|z
  ·exact U9.p _ hpm d (cH.mp z).1
  ·refine U9.n d ?_
   unfold pS at z
   obtain⟨k,hk,rfl⟩:=ba.mp z
   have hkl:=bN.mp (cH.mp hk).1
   exact ay (a9 0 hkl)) z1
 have ap:cf (.loc a.rp) [.int (ro:Nat)] z=.ok .non z1:=by
  rw[jH hd.r (by unfold nW;rw[al];omega),hz1]
  unfold nW
  rw[bw];rfl
 suffices hh:i8 (EJ fun _ z'=>∃v,z'=z1.set a.mp (.lst (ms++[v]))) (j_ ([W.loc a.L,.int (c:Nat)].map some++List.replicate (3-2) none) z) by
  obtain⟨ρ,z',e,v,rfl⟩:=hh
  have kz:∀(i:Nat) (e:am),z[i]?=some e->i≠a.rp->i≠a.mp->(z1.set a.mp (.lst (ms++[v])))[i]?=some e:=fun i e h h1 h2=>by
   rw[fj (Ne.symm h2),hz1,fj (Ne.symm h1)];exact h
  refine⟨_,?_,fun i e h h1=>kz i e h (by omega) (by omega),hz.keep fun i e h h1=>kz i e h (by omega) (by omega),⟨?_,⟨_,iK hms1,by simp[hml]⟩,?_⟩⟩
  ·unfold fE de
   rw[show j_ (List.map some [W.loc a.L,.int (c:Nat)]++List.replicate (3-[W.loc a.L,.int (c:Nat)].length) none) z=_ from e]
   show R.ok W.non (ja z _ [])=_
   rw[EO (by rw[hz1];simp)]
  ·rw[fj (by omega),hz1,iK hd.r]
  ·obtain⟨kvs,hw,E1,hkl,hkn⟩:=hd.w
   refine⟨kvs,kz _ _ hw (by omega) (by omega),E1,fun k q e=>by have:=hkl k q e;rw[hz1];simpa using this,fun u hu=>?_⟩
   obtain⟨q,q1,q2,q3⟩:=hkn u ⟨hu.1,by have:=hu.2.1;omega,by have:=hu.2.2;omega⟩
   refine⟨q,q1,q2,?_⟩
   have ew:WV M n nm ps sz (rs++[ro]) u=WV M n nm ps sz rs u:=by
    unfold WV DD
    refine bJ fun q _=>?_
    rw[vU (rs:=rs++[ro]) (rs':=rs) _ fun k hk=>?_]
    rw[ao,ao,aK (by have:=hu.2.1;omega)]
   rw[ew]
   exact kz _ _ q3 (by omega) (by omega)
 apply aD
 ·exact bD (bW (av (sd hz rfl rfl) aV) da)
 have rb:=v5 G hz hd.r hx uq hc
 rw[uT]at rb
 apply aD
 ·exact fX (j6 (sd hz rfl rfl) (fz hd.r) (av (md kv hz.ob rfl (av kv kn) rfl rb) aV) ap)
 have itr:b9 (gN ps) (.int (rs.length:Nat)) z1=.ok ps[rs.length].w z1:=Iz hp z1
 apply cU
 ·exact fX (j6 (sd s1 rfl rfl) (fz hms1) (av (bM (av (bP (bM (av (bP (bP (sd s1 rfl rfl) kv itr) cG (IA _ _)) (av (sd s1 rfl rfl) aV)) (vS _ nm (by have:=G.m _ hpm;omega) z1) rfl) (bM (av (sd s1 rfl rfl) kn) (AO nm c (by omega) z1) rfl) (yx (by show _<=1000000;omega))) aV) ho rfl) aV) (jH hms1 (by omega)))
 ·exact⟨_,_,rfl,_,rfl⟩
end
section
variable{ps:List Pl}{sz:List Nat}{lk:List (Option Nat×Option Nat)}{M:Mc}{a:Ad}
theorem Bd.app{K:Nat}{P:Nat->Prop}{x:List am}(h:Bd a M n nm ps sz rs K P z):Bd a M n nm ps sz rs K P (z++x):=by
 obtain⟨kvs,hw,E1,hkl,hkn⟩:=h.w
 obtain⟨ms,hms,hml⟩:=h.m
 exact⟨aT h.r,⟨ms,aT hms,hml⟩,kvs,aT hw,E1,fun k q e=>by have:=hkl k q e;rw[aE];omega,fun u hu=>(hkn u hu).imp fun q hq=>⟨hq.1,hq.2.1,aT hq.2.2⟩⟩
abbrev zc(nm:List Nat)(ps:List Pl):List Nat:=ps.map fun p=>fC p.m nm
theorem Lw(G:JH M n nm ps S sz lk)(U9:V_ nm ps)(st:List am) :
  vL [M.w,gN ps,.str nm] st=.ok (.int (s_ (Tm M.tb) (gM M) (ps.map Pl.b) (gO M nm ps) (zc nm ps) []:Nat)) st:=by
 obtain⟨l1,l2,_⟩:=G.g.ok
 have hT:∀t a b,Tm M.tb t a b<n:=xB G.mo G.n1
 have hl:=G.l
 obtain⟨z0,a,e0,O0,s0,hL,w0,r0,m0⟩:=DL G.g G.l G.mo G.n1 G.n2 G.nl G.m G.t G.hb st
 generalize htot:s_ (Tm M.tb) (gM M) (ps.map Pl.b) (gO M nm ps) (zc nm ps) []=tt
 refine fY (w:=.int (tt:Nat)) ?_ rfl
 apply aD
 ·exact bD (IK (av kv (av kv kn)) rfl e0)
 apply aD
 ·exact bD cG
 rw[<- hL]
 refine dO (fun i ρ z=>∃(rs:List Nat) (CC:Nat) (o5 o6:Option W),rs.length=i/\ρ=[some M.w,some (gN ps),some (.str nm),lO a.L,iO (CC:Nat),o5,o6]/\Ch st z/\wL a M n nm ps sz lk z/\Bd a M n nm ps sz rs (i*250) (U5 ps sz i) z/\(∀r∈rs,r<n) /\
   CC+s_ (Tm M.tb) (gM M) ((ps.map Pl.b).drop i) ((gO M nm ps).drop i) ((zc nm ps).drop i) (sk sz rs i)=tt)
  (kB (ws:=ps.map Pl.w) (st1:=z0) kv) ⟨[],0,none,none,rfl,rfl,O0,s0,⟨r0,⟨[],m0,rfl⟩,[],w0,by simp,fun k q e=>(by cases e),fun u hu=>absurd hu.2.1 (by omega)⟩,by simp,by rw[eX,dF,dF,dF,sk];exact htot⟩ (fun _ _ _ _=>trivial) ?_ ?_
 ·rintro i w ρ z hw ⟨rs,CC,o5,o6,rfl,rfl,hO,hz,hd,uq,hsum⟩
  rw[aj]at hw
  obtain⟨p,hp,rfl⟩:=aG.mp hw
  have hi:rs.length<ps.length:=(ac.mp hp).1
  obtain⟨x,hx⟩:∃x,lk[rs.length]?=some x:=⟨_,ae (by omega)⟩
  obtain⟨nt,nl,n16⟩:=G.num hi
  obtain⟨u1,u2⟩:=G.g.lk hx
  have lt:=hz.lt
  refine⟨_,rfl,?_⟩
  have hc:fC p.m nm<2^nm.length:=uQ _ _
  apply aD
  ·exact bD (bM (av kv (av (bP kv cG (IA p z)) aV)) (sX nm p.m z) rfl)
  generalize hcc:fC p.m nm=c at hc
  obtain⟨q,z',e1,hq,hqc,kp,s1,d1⟩:=EQ G hz hd (by have:=lK (show rs.length<=250 by omega) (aw 250);omega) hx uq
  generalize hof:(((gO M nm ps).getD rs.length []).map fun t=>(WV M n nm ps sz rs rs.length).getD (Tm M.tb t (j' rs x.1) (j' rs x.2)) 0)=of at hqc
  have lof:of.length=2^nm.length:=by rw[<- hof,al];exact nl
  have hsl:zW (.loc q) none (some (c:Int)) z'=.ok (.loc z'.length) (z'++[.lst (nW (of.take c))]):=by
   rw[Mj (a_ hqc),uJ (by unfold nW;rw[al];omega)]
   unfold nW
   rw[pZ]
  have hsm:=AJ (ls:=(of.take c).map fun(k:Nat)=>(k:Int)) (a_ (by rw[<- Cd];exact bc (s:=z') (c:=.lst (nW (of.take c)))))
  rw[rF]at hsm
  apply aD
  ·exact bD (bP kv (bW (av (Ar (md kv hz.ob rfl aV rfl e1) Ap (Aq kv) hsl) aV) hsm) eG)
  rw[<- dL]
  have s2:wL a M n nm ps sz lk (z'++[.lst (nW (of.take c))]):=s1.keep fun i c e _=>aT e
  obtain⟨z3,e3,k3,s3,d3⟩:=ER G U9 s2 (d1.app (x:=[.lst (nW (of.take c))])) hx uq hc
  have O3:Ch st z3:=fun i c e=>by
   have h1:=c_ e
   exact k3 i c (aT (kp i c (hO i c e) (by omega) (by omega))) (by omega)
  generalize uT:Tm M.tb (((gO M nm ps).getD rs.length []).getD c 0) (j' rs x.1) (j' rs x.2)=ro at d3
  apply cU
  ·exact fX (md kv s2.ob rfl kn rfl e3)
  ·refine⟨_,_,rfl,rs++[ro],CC+(of.take c).sum,_,_,by simp,rfl,O3,s3,d3.imp (by rw[kE];exact aw _) fun u h=>h,fun r hr=>?_,?_⟩
   ·rcases aY.mp hr with h|h
    ·exact uq r h
    ·rw[bB.mp h,<- uT];exact hT ..
   ·-- the sum goes on
    have hb:(ps.map Pl.b)[rs.length]?=some p.b:=by rw[aj,hp];rfl
    have hN:(gO M nm ps)[rs.length]?=some ((gO M nm ps).getD rs.length []):=a9 [] (by simpa using hi)
    have CD:(zc nm ps)[rs.length]?=some c:=by rw[aj,hp];exact gY some hcc
    obtain⟨b1,b2⟩:=ac.mp hb
    obtain⟨m1,m2⟩:=ac.mp hN
    obtain⟨h1,h2⟩:=ac.mp CD
    rw[bd b1,bd m1,bd h1,b2,m2,h2]at hsum
    have hsz:sz[rs.length]?=some (sz.getD rs.length 0):=a9 0 (by omega)
    have run:∀t,rE (Tm M.tb) p.b t (sk sz rs rs.length)=Tm M.tb t (j' rs x.1) (j' rs x.2)::sk sz rs (rs.length+1-sz.getD rs.length 0):=fun t=>DB G.g rs hp hx hsz t
    have z1':=(G.g.sz1 hi).1
    have esk:sk sz (rs++[ro]) (rs.length+1)=rE (Tm M.tb) p.b (((gO M nm ps).getD rs.length []).getD c 0) (sk sz rs rs.length):=by
     rw[run,hW hsz z1',uT]
     congr 1
     ·rw[ao];simp
     ·exact vU _ fun k hk=>by rw[ao,ao,aK (by omega)]
    have hs:(of.take c).sum=sm (List.range c) fun k=>qk (Tm M.tb) (gM M) ((ps.map Pl.b).drop (rs.length+1)) ((gO M nm ps).drop (rs.length+1)) (rE (Tm M.tb) p.b (((gO M nm ps).getD rs.length []).getD k 0) (sk sz rs rs.length)):=by
     rw[<- hof,<- pZ]
     show sm (((gO M nm ps).getD rs.length []).take c) _=_
     rw[IR,aM,gy (by omega)]
     refine cN fun k hk=>?_
     have hk:=bN.mp hk
     have eT:∀l:List Nat,(l.take c).getD k 0=l.getD k 0:=fun l=>by rw[ao,ao,iS,au hk]
     rw[eT,run]
     exact sZ rs.length (hT _ _ _)
    have hsum:CC+(sm (List.range c) (fun k=>qk (Tm M.tb) (gM M) ((ps.map Pl.b).drop (rs.length+1)) ((gO M nm ps).drop (rs.length+1)) (rE (Tm M.tb) p.b (((gO M nm ps).getD rs.length []).getD k 0) (sk sz rs rs.length)))+s_ (Tm M.tb) (gM M) ((ps.map Pl.b).drop (rs.length+1)) ((gO M nm ps).drop (rs.length+1)) ((zc nm ps).drop (rs.length+1)) (rE (Tm M.tb) p.b (((gO M nm ps).getD rs.length []).getD c 0) (sk sz rs rs.length)))=tt:=hsum
    rw[hs,esk,gD];exact hsum
 ·rintro ρ z ⟨rs,CC,o5,o6,hrl,rfl,hO,hz,hd,uq,hsum⟩
  rw[show(ps.map Pl.w,(none:Option (Nat×List W))).fst.length=ps.length by simp]at hsum
  rw[eW (l:=ps.map Pl.b) (by simp)]at hsum
  have hsum:CC+0=tt:=by
   have e:∀N ch σ,s_ (Tm M.tb) (gM M) [] N ch σ=0:=fun N ch σ=>by unfold s_;rfl
   rw[e]at hsum;exact hsum
  apply bC
  ·exact dX rfl
  ·obtain⟨x,rfl⟩:=hO.pre
   exact⟨_,_,rfl,by rw[<- hsum];rfl,x,rfl⟩
theorem AS(G:JH M n nm ps S sz lk)(st:List am):tY [M.w,gN ps,.str nm] st=.ok (.int (qk (Tm M.tb) (gM M) (ps.map Pl.b) (gO M nm ps) []:Nat)) st:=by
 obtain⟨l1,l2,hat⟩:=G.g.ok
 have hT:∀t a b,Tm M.tb t a b<n:=xB G.mo G.n1
 have hl:=G.l
 obtain⟨z0,a,e0,O0,hz,hL,w0,r0,m0⟩:=DL G.g G.l G.mo G.n1 G.n2 G.nl G.m G.t G.hb st
 obtain⟨x,rfl⟩:=O0.pre
 generalize hV:km n (Tm M.tb) (gO M nm ps) lk []=V
 have hVr:∀v∈V,v.length=n:=by rw[<- hV];exact rH n _ _ _ _ (by simp)
 have hgM:(fun q=>if M.gd.getD q false then 1 else 0)=gM M:=rfl
 have key:∃o:Option Nat,(∀k,o=some k->k<a.cq.length)/\pk n (rG n V o) (gM M)=qk (Tm M.tb) (gM M) (ps.map Pl.b) (gO M nm ps) [] /\
   Bc (gn (e2 Ey (bE dM (ak (eF "Course" "tree" (af 0)) aB)) (eI 0))) (e2 kS (bE dM (ak (eF "Course" "tree" (af 0)) aB)) (eI 1)) (eC .non) [lO a.L] (st++x)=.ok (oW o) (st++x):=by
  by_cases h0:0<ps.length
  ·refine⟨some (ps.length-1),fun k e=>by cases e;rw[hz.lq];omega,?_,?_⟩
   ·have hk:sz[ps.length-1]?=some ps.length:=by
     have hs1:=G.s1
     match S,hat,hs1 with
     |[],hat,_=>exact absurd hat (by show ps.length≠0;omega)
     |[s],⟨h1,h2,h3,h4⟩,_=>
      have h4:ps.length-s=0:=h4
      rw[h1];congr 1;omega
    have sg:=IN (g:=gM M) G.g (N:=gO M nm ps) (by simp) hT G.n1 (ps.length-1) ps.length hk []
    rw[show ps.length-1+1-ps.length=0 by omega,show ps.length-1+1=ps.length by omega,hV]at sg
    have e0:cs (Tm M.tb) (gM M) (ps.map Pl.b) (gO M nm ps) 0 []=qk (Tm M.tb) (gM M) (ps.map Pl.b) (gO M nm ps) []:=by unfold cs;rw[dF,dF]
    rw[<- e0,sg]
    exact(oR fun q=>IM (Tm M.tb) (gM M) (by simp) [q]).symm
   ·have:=pN (fb:=eC .non) (ρ:=[lO a.L]) (st:=st++x) (bY (bP (bW (av (sd (i:=0) (f:="tree") hz rfl rfl) aV) (ng ps _)) (cG (w:=.int 0)) (jQ (f:=fun a b=>decide (a>b)) (k:=true) (bf (by omega))))) (bP (bW (av (sd (i:=0) (f:="tree") hz rfl rfl) aV) (ng ps _)) (cG (w:=.int 1)) (fI (C:=fun _ _=>True) (f:=fun a b=>a-b) trivial))
    rw[show((ps.length:Int)-1)=((ps.length-1:Nat):Int) by omega]at this
    exact this
  ·have LI:ps=[]:=iY.mp (by omega)
   refine⟨none,fun k e=>(by cases e),?_,?_⟩
   ·show pk n (ez n) _=_
    rw[qh G.n1,LI];rfl
   ·exact pO (bY (bP (bW (av (sd (i:=0) (f:="tree") hz rfl rfl) aV) (ng ps _)) (cG (w:=.int 0)) (jQ (f:=fun a b=>decide (a>b)) (k:=false) (a8 (by omega))))) cG
 obtain⟨o,ho1,ho2,ho3⟩:=key
 obtain⟨xv,e2,e3⟩:=rJ (n:=n) (V:=V) G.mo G.n2 hz.ob rfl rfl hz.pc (by rw[<- hV];exact hz.pcs) o ho1
 have vl:(rG n V o).length=n:=by
  cases o with
  |none=>exact lh
  |some k=>
   show(V.getD k (ez n)).length=n
   rcases jT V k (ez n)with e|e
   ·rw[e];exact lh
   ·exact hVr _ e
 have e4:=Ci G.mo G.n2 vl e3
 rw[QH,hgM,ho2]at e4
 have la:fZ [.loc a.L] (st++x)=.ok (.int (qk (Tm M.tb) (gM M) (ps.map Pl.b) (gO M nm ps) []:Nat)) (st++x):=by
  refine jE ?_
  apply bC
  ·exact bM (av (sd hz rfl rfl) (av (md kv hz.ob rfl (av ho3 aV) rfl e2) aV)) e4 rfl
  ·exact⟨_,_,rfl,rfl,rfl⟩
 rw[hL]at la
 have DV:=hz.ob
 rw[hL]at DV
 refine fY ?_ rfl
 apply bC
 ·exact md (IK (av kv (av kv kn)) rfl e0) DV rfl aV rfl la
 ·exact⟨_,_,rfl,rfl,_,rfl⟩
end
theorem AT{m1 m2:List Nat}(l:List Nat)(h:∀d∈m1,d∉m2):fC m1 l+fC m2 l=fC (m1++m2) l:=by
 unfold fC
 have key:∀(l:List Nat) (a b:Nat),l.foldl (fun a c=>2*a+if c∈m1 then 1 else 0) a+l.foldl (fun a c=>2*a+if c∈m2 then 1 else 0) b=l.foldl (fun a c=>2*a+if c∈m1++m2 then 1 else 0) (a+b):=by
  intro l
  induction l with
  |nil=>intro a b;rfl
  |cons c r ih=>
   intro a b
   rw[eK,eK,eK,ih]
   congr 1
   by_cases h1:c∈m1
   ·rw[au h1,ax (h c h1),au (bS _ h1)];omega
   ·by_cases h2:c∈m2
    ·rw[ax h1,au h2,au (aI _ h2)];omega
    ·rw[ax h1,ax h2,ax (by rw[aY];exact fun z=>z.elim h1 h2)];omega
 exact key l 0 0
theorem uS{c d:Nat}(h:d∈pS nm c):d∈nm:=by
 unfold pS at h
 obtain⟨k,hk,rfl⟩:=ba.mp h
 exact ay (a9 0 (bN.mp (cH.mp hk).1))
noncomputable abbrev bare(nm m:List Nat):List Nat:=m.filter fun d=>!decide (d∈nm)
theorem oS{m:List Nat}{d:Nat}:d∈bare nm m↔d∈m/\d∉nm:=by
 rw[cH];simp
def wM(nm:List Nat)(p:Pl)(c:Nat):Pl:=⟨p.b,y_ (bare nm p.m++pS nm c)⟩
def jV(nm:List Nat):List Pl->List Nat->List Pl
 |p::ps,c::ch=>wM nm p c::jV nm ps ch
 |_,_=>[]
theorem v6{p:Pl}{c d:Nat}:d∈(wM nm p c).m↔(d∈p.m/\d∉nm)\/d∈pS nm c:=by
 show d∈y_ _↔_
 rw[(rA _).mem_iff,aY,oS]
theorem ES{p:Pl}{c d:Nat}:d∈bare nm (wM nm p c).m↔d∈bare nm p.m:=by
 rw[oS,oS,v6]
 constructor
 ·rintro⟨h|h,h2⟩
  ·exact h
  ·exact(h2 (uS h)).elim
 ·intro h;exact⟨.inl h,h.2⟩
section
theorem oT:∀{ps:List Pl} {ch:List Nat},ch.length=ps.length->(jV nm ps ch).length=ps.length
 |[],[],_=>rfl
 |p::ps,c::ch,h=>by show(jV nm ps ch).length+1=_;rw[oT (by simpa using h)];rfl
 |[],_::_,h=>by simp at h
 |_::_,[],h=>by simp at h
theorem tf:∀{ps:List Pl} {ch:List Nat},ch.length=ps.length->(jV nm ps ch).map Pl.b=ps.map Pl.b
 |[],[],_=>rfl
 |p::ps,c::ch,h=>by show p.b::(jV nm ps ch).map Pl.b=_;rw[tf (by simpa using h)];rfl
 |[],_::_,h=>by simp at h
 |_::_,[],h=>by simp at h
theorem Ck{uw m m':List Nat}(h:∀d,d∈bare nm m↔d∈bare nm m'):jU uw nm m=jU uw nm m':=by
 unfold jU
 refine bJ fun c _=>?_
 congr 1
 exact qi fun d _=>h d
theorem rN{M:Mc}:∀{ps:List Pl} {ch:List Nat},ch.length=ps.length->gO M nm (jV nm ps ch)=gO M nm ps
 |[],[],_=>rfl
 |p::ps,c::ch,h=>by
  show jU M.nm nm (wM nm p c).m::gO M nm (jV nm ps ch)=jU M.nm nm p.m::gO M nm ps
  rw[rN (by simpa using h),Ck fun d=>ES]
 |[],_::_,h=>by simp at h
 |_::_,[],h=>by simp at h
theorem DO(hd:nm.Nodup):∀{ps:List Pl} {ch:List Nat},ch.length=ps.length->(∀c∈ch,c<2^nm.length)->zc nm (jV nm ps ch)=ch
 |[],[],_,_=>rfl
 |p::ps,c::ch,h,hc=>by
  show fC (wM nm p c).m nm::zc nm (jV nm ps ch)=c::ch
  rw[DO hd (by simpa using h) fun c' h'=>hc c' (aA _ h'),qi (m':=pS nm c) fun d hdn=>?_,IH hd (hc c aZ)]
  rw[v6]
  exact⟨fun z=>z.elim (fun y=>(y.2 hdn).elim) id,.inr⟩
 |[],_::_,h,_=>by simp at h
 |_::_,[],h,_=>by simp at h
theorem rO:∀{ps:List Pl} {ch:List Nat} {q:Pl},q∈jV nm ps ch->∃p∈ps,∃c∈ch,q=wM nm p c
 |p::ps,c::ch,q,h=>by
  rcases aH.mp h with rfl|h
  ·exact⟨p,aZ,c,aZ,rfl⟩
  ·obtain⟨p',h1,c',h2,e⟩:=rO h
   exact⟨p',aA _ h1,c',aA _ h2,e⟩
 |[],[],q,h=>by cases h
 |[],_::_,q,h=>by cases h
 |_::_,[],q,h=>by cases h
theorem DP:∀{ps:List Pl} {ch:List Nat} {i:Nat} {p:Pl} {c:Nat},ps[i]?=some p->ch[i]?=some c->(jV nm ps ch)[i]?=some (wM nm p c)
 |q::ps,d::ch,0,p,c,h1,h2=>by
  have e1:q=p:=by simpa using h1
  have e2:d=c:=by simpa using h2
  subst e1 e2;rfl
 |q::ps,d::ch,i+1,p,c,h1,h2=>by
  show(jV nm ps ch)[i]?=_
  exact DP (by simpa using h1) (by simpa using h2)
 |[],_,_,_,_,h1,_=>by simp at h1
 |_::_,[],_,_,_,_,h2=>by simp at h2
theorem Jd{M:Mc}(p:Pl){c:Nat}(hc:c<2^nm.length):fC (wM nm p c).m M.nm=(jU M.nm nm p.m).getD c 0:=by
 have e:(jU M.nm nm p.m).getD c 0=fC (bare nm p.m) M.nm+fC (pS nm c) M.nm:=jk (fun c=>fC (bare nm p.m) M.nm+fC (pS nm c) M.nm) (aJ hc)
 rw[e,AT _ fun d h1 h2=>(oS.mp h1).2 (uS h2)]
 exact qi fun d _=>(rA _).mem_iff
theorem Lx{M:Mc}(hM:yJ M n)(m:List Nat):∀t∈jU M.nm nm m,t<M.tb.length:=fun t ht=>by
 unfold jU at ht
 obtain⟨c,_,rfl⟩:=ba.mp ht
 have e:=AT (m1:=bare nm m) (m2:=pS nm c) M.nm fun d h1 h2=>(oS.mp h1).2 (uS h2)
 show fC (bare nm m) M.nm+fC (pS nm c) M.nm<_
 rw[e,hM.tb];exact uQ _ _
end
theorem Gr.bs {ps:List Pl} {sz:List Nat} {lk:List (Option Nat × Option Nat)} (h : Gr ps S sz lk) : ∀ {qs : List Pl}, qs.map Pl.b = ps.map Pl.b -> Gr qs S sz lk := by
  induction h with
  | nil => intro qs hq; have : qs = [] := by simpa using hq
           subst this; exact .nil
  | @snoc ps S S' sz lk b k m x hg hs ih =>
    intro qs hq
    rw [bw             ] at hq
    obtain ⟨q1, q2, rfl, h1, h2⟩ := List.map_eq_append_iff.mp hq
    obtain ⟨q, rfl⟩ : ∃ q, q2 = [q] := by
      match q2, h2 with
      | [q], _ => exact ⟨q, rfl⟩
      | [], h2 => simp at h2
      | _ :: _ :: _, h2 => simp at h2
    have hb : q.b = b := by simpa using h2
    obtain ⟨qb, qm⟩ := q
    have hb : qb = b := hb
    subst hb
    have hl : q1.length = ps.length := by have := gY       List.length h1; simpa using this
    exact .snoc (ih h1) (by rw [hl]; exact hs)
structure yW(M:Mc)(n:Nat)(nm:List Nat)(ps:List Pl)(S sz:List Nat)(lk:List (Option Nat×Option Nat)):Prop where
 g:Gr ps S sz lk
 s1:S.length<=1
 l:ps.length<=200
 mo:yJ M n
 n1:1<=n
 n2:n<=1000
 nl:nm.length<=4
 nd:nm.Nodup
 nL:∀d∈nm,d∈LL
 m:∀p∈ps,p.m.length<=900
 mL:∀p∈ps,∀d∈p.m,d∈LL
 hb:HB n (km n (Tm M.tb) (gO M nm ps) lk []) lk
section
variable{ps:List Pl}{sz:List Nat}{lk:List (Option Nat×Option Nat)}{M:Mc}{ch:List Nat}
theorem yW.gd(B:yW M n nm ps S sz lk):JH M n nm ps S sz lk:=
 ⟨B.g,B.s1,by have:=B.l;omega,B.mo,B.n1,B.n2,B.nl,fun p hp=>by have:=B.m p hp;omega,fun p _=>Lx B.mo p.m,B.hb⟩
theorem yW.lt(B:yW M n nm ps S sz lk):V_ nm ps:=⟨B.nL,B.mL⟩
theorem yW.put(B:yW M n nm ps S sz lk)(hl:ch.length=ps.length)(h:∀p∈ps,(bare nm p.m).length<=800):yW M n nm (jV nm ps ch) S sz lk:=by
 refine⟨B.g.bs (tf hl),B.s1,by rw[oT hl];exact B.l,B.mo,B.n1,B.n2,B.nl,B.nd,B.nL,fun q hq=>?_,fun q hq d hd=>?_,by rw[rN hl];exact B.hb⟩
 ·obtain⟨p,hp,c,_,rfl⟩:=rO hq
  show(y_ _).length<=900
  rw[uK,aE]
  have:=uR nm c
  have:=h p hp
  have:=B.nl
  omega
 ·obtain⟨p,hp,c,_,rfl⟩:=rO hq
  rcases v6.mp hd with z|z
  ·exact B.mL p hp d z.1
  ·exact B.nL d (uS z)
end
noncomputable def xI(d:Int)(i:Nat):Bool:=Builtin.bitAnd (d/2^i) 1==1
def li(pool:List Nat)(d:Int):List Nat:=((List.range pool.length).filter (xI d)).map fun i=>pool.getD i 0
theorem nh(pool:List Nat)(d:Int):(li pool d).Sublist pool:=by
 unfold li
 have:((List.range pool.length).map fun i=>pool.getD i 0)=pool:=by
  have:=sV pool 0 (fun x=>x)
  rw[List.map_id']at this;exact this
 conv=>rhs;rw[<- this]
 exact List.Sublist.map _ List.filter_sublist
noncomputable def oU:W->Nat
 |.int i=>i.toNat
 |_=>0
theorem tj(pool:List Nat)(hp:pool.length<=50)(d:Int)(st:List am):t4 [.str pool,.int d] st=.ok (.str (y_ (li pool d))) st:=by
 have hL:pool.length<=mj:=by show _<=1000000;omega
 have hc:=oM (fi:=cM (ak (bE dM (ak (af 0) aB)) aB)) (f:=eM 0) (t:=gn (e2 qF (e2 vd (e2 wE (af 2) (af 0)) (eI 1)) (eI 1))) (el:=e2 b9 (af 1) (af 0)) (cap:=[none,some 0,some 1]) (ρ:=[some (.str pool),iO d]) (st:=st) (st1:=st) (ws:=fP 0 pool.length) (ck:=none) (fun w=>xI d (oU w)) (fun w=>.str [pool.getD (oU w) 0])
   (by
    have:=jf (fs:=ak (bE dM (ak (af 0) aB)) aB) (ρ:=[some (.str pool),iO d]) (st:=st) (st1:=st) (q:=(pool.length:Int)) (av (bW kn (m6 hL)) aV) (by omega)
    rw[aO]at this
    exact this) (by rw[dQ];show _<=1000000;omega) trivial fun w hw=>by
   obtain⟨i,hi,rfl⟩:=sM hw
   refine⟨[iO (0+(i:Int)),some (.str pool),iO d],rfl,?_,fun _=>?_⟩
   ·have h0:(0:Int)<=0+(i:Int):=by omega
    have hk:(Builtin.bitAnd (d/2^(0+(i:Int)).toNat) 1==1)=xI d (oU (.int (0+(i:Int)))):=rfl
    exact bY (bP (bP (bP kv kv (fI h0)) cG (fI trivial)) cG (je hk))
   ·refine bP kv kv ?_
    rw[show((0:Int)+(i:Int))=(i:Int) by omega]
    have e2:tI pool (i:Int)=some (pool.getD i 0):=dR (a9 0 hi)
    rw[GS hL e2]
    simp[oU]
 have e:((fP 0 pool.length).filter fun w=>xI d (oU w)).map (fun w=>W.str [pool.getD (oU w) 0])=((li pool d).map fun c=>[c]).map W.str:=by
  unfold fP li
  rw[gz,aS,aS,aS]
  have e1:((fun w=>xI d (oU w))∘fun k:Nat=>W.int (0+(k:Int)))=xI d:=by funext k;simp[oU]
  rw[e1]
  refine bJ fun k _=>?_
  simp[oU]
 rw[e]at hc
 have hl:(li pool d).length<=50:=aL (nh pool d).length_le hp
 refine fY (N:=2) (ws:=[.str pool,.int d]) (body:=M9) ?_ rfl
 apply bC
 ·exact Do hc (a_ bc) (by omega)
 ·exact⟨_,_,rfl,rfl,_,by rw[bh]⟩
def yX(pool m:List Nat):Prop:=m.length<=50/\∀d∈m,d∈pool
theorem Je{pool:List Nat}(hp:pool.length<=50)(d:Int):yX pool (y_ (li pool d)):=
 ⟨by rw[uK];exact aL (nh pool d).length_le hp,fun c hc=>(nh pool d).subset ((rA _).mem_iff.mp hc)⟩
theorem Jf{f:cw->List am->R Bool}{a b:List am}(h1:f ρ st=.ok false a)(h2:f ρ st=.ok true b):False:=by
 rw[h1]at h2;cases h2
theorem Ly{nd:Nat}{ds:List Int}{pool:List Nat}(hd:st[nd]?=some (.lst (oQ ds)))(WD:ds.length<=100)(hp:pool.length<=50) :
  ∃ps S sz lk,Gr ps S sz lk/\S.length<=1/\ps.length<=2*ds.length/\(∀p∈ps,yX pool p.m)/\Dj [.loc nd,.str pool] st=.ok (gN ps) st:=by
 suffices hh:i8 (vD fun w bz=>(∃x,bz=st++x)/\undWs st.length [w]=true/\∃ps S sz lk,w=gN ps/\Gr ps S sz lk/\S.length<=1/\ps.length<=2*ds.length/\∀p∈ps,yX pool p.m) (M_ ([W.loc nd,.str pool].map some++List.replicate (6-2) none) st) by
  obtain⟨w,⟨ps,S,sz,lk,rfl,h1,h2,h3,h4⟩,e⟩:=uI hh
  exact⟨ps,S,sz,lk,h1,h2,h3,h4,e⟩
 apply aD
 ·(walk_at "evs")
 apply aD
 ·(walk_at "evs")
 have f9:∀A:List W,lstOf (st++[am.lst A]) nd=some (oQ ds):=fun A=>a_ (aT hd)
 refine dO (fun i ρ bz=>∃(ps:List Pl) (S sz:List Nat) (lk:List (Option Nat×Option Nat)) (o5 o6:Option W),ρ=[lO nd,some (.str pool),lO st.length,iO S.length,o5,o6]/\bz=st++[.lst (ps.map Pl.w)]/\Gr ps S sz lk/\ps.length=i/\∀p∈ps,yX pool p.m) (lU (st1:=st++[am.lst []]) (by(walk_at "evs")) (f9 []))
  ⟨[],[],[],[],none,none,rfl,rfl,.nil,rfl,by simp⟩ (fun i ρ bz h=>?_) ?_ ?_
 ·obtain⟨ps,S,sz,lk,o5,o6,rfl,rfl,_⟩:=h
  exact f9 _
 ·rintro i w ρ bz hw ⟨ps,S,sz,lk,o5,o6,rfl,rfl,hg,hle,hpm⟩
  obtain⟨d,hdd,rfl⟩:∃d,ds[i]?=some d/\w=.int d:=by
   simp only[oQ,aj,aG]at hw
   obtain⟨d,h1,rfl⟩:=hw
   exact⟨d,h1,rfl⟩
  have hi:i<ds.length:=(ac.mp hdd).1
  refine⟨_,rfl,?_⟩
  have hc:(st++[am.lst (ps.map Pl.w)])[st.length]?=some (.lst (ps.map Pl.w)):=bc
  obtain⟨b0,hb0,eb0⟩:=hJ (q:=d) (n:=4) (by omega)
  have eb0:d%4=(b0:Int):=eb0
  apply aD
  ·exact bD (bP kv cG (fI (by decide)))
  rw[eb0]
  refine yA (fun ρ bz=>∃b:Nat,b<=3/\(b+1)/2<=S.length/\ρ=[lO nd,some (.str pool),lO st.length,iO S.length,iO d,iO b]/\bz=st++[.lst (ps.map Pl.w)]) ?_ ?_
  ·by_cases h1:S.length<(b0+1)/2
   ·have t1:decide ((S.length:Int)<((b0:Int)+1)/2)=true:=bf (by omega)
    apply qX
    ·exact bY (bP (bP (bP kv cG eG) cG (fI (by decide))) kv (jQ t1))
    apply cU
    ·(walk_at "evs")
    ·exact⟨_,_,rfl,0,by omega,by omega,rfl,rfl⟩
   ·have t1:decide ((S.length:Int)<((b0:Int)+1)/2)=false:=a8 (by omega)
    apply pP
    ·exact bY (bP (bP (bP kv cG eG) cG (fI (by decide))) kv (jQ t1))
    apply cU
    ·exact vC
    ·exact⟨_,_,rfl,b0,by omega,by omega,rfl,rfl⟩
  rintro ρ bz ⟨b2,hb2,ze,rfl,rfl⟩
  obtain⟨S',k,x,mP,hlen'⟩:=St.ex (n:=ps.length) hb2 ze
  have em:=tj pool hp (d/4%16) (st++[am.lst (ps.map Pl.w)])
  have hmk:=Je hp (d/4%16)
  generalize y_ (li pool (d/4%16))=m at em hmk
  have ap:=xq (y:=(Pl.mk b2 m).w) hc (by rw[al];show _<1000000;omega)
  rw[fD]at ap
  have ap:cf (.loc st.length) [.tup [.int b2,.str m]] (st++[am.lst (ps.map Pl.w)])=_:=ap
  apply aD
  ·exact fX (j6 kv (fz hc) (av (tU (av kv (av (bM (av kv (av (bP (bP kv cG (fI (by decide))) cG (fI (by decide))) aV)) em rfl) aV)) (aQ rfl)) aV) ap)
  apply cU
  ·exact bD (bP (bP kv cG eG) (bP (bP kv cG eG) cG (fI (by decide))) (fI trivial))
  ·refine⟨_,_,rfl,ps++[⟨b2,m⟩],S',sz++[k],lk++[x],iO d,iO b2,?_,by simp,.snoc hg mP,by simp[hle],?_⟩
   ·show[_,_,_,iO ((S.length:Int)+1-((b2:Int)+1)/2),_,_]=_
    rw[show(S.length:Int)+1-((b2:Int)+1)/2=(S'.length:Int) by omega]
   ·intro p hp'
    rcases aY.mp hp' with z|z
    ·exact hpm p z
    ·simp at z;subst z;exact hmk
 ·rintro ρ bz ⟨ps,S,sz,lk,o5,o6,rfl,rfl,hg,hle,hpm⟩
  rw[show(oQ ds,some (nd,oQ ds)).fst.length=ds.length by simp[oQ]]at hle
  have hSle:=hg.ok.2.2.le
  refine xu (fun n ρ bz=>∃(ps:List Pl) (S sz:List Nat) (lk:List (Option Nat×Option Nat)),ρ=[lO nd,some (.str pool),lO st.length,iO S.length,o5,o6]/\bz=st++[.lst (ps.map Pl.w)]/\Gr ps S sz lk/\ps.length+S.length<=2*ds.length/\(∀p∈ps,yX pool p.m)/\S.length=n) S.length ⟨ps,S,sz,lk,rfl,rfl,hg,by omega,hpm,rfl⟩ ?_ ?_
  ·rintro n ρ bz ⟨ps,S,sz,lk,rfl,rfl,hg,hle,hpm,rfl⟩
   by_cases h1:1<S.length
   ·refine .inr ?_
    have t1:decide ((1:Int)<(S.length:Int))=true:=bf (by omega)
    constructor
    ·exact bY (bP kv cG (jQ t1))
    obtain⟨S',k,x,mP,hlen'⟩:=St.ex (n:=ps.length) (b:=3) (S:=S) (by omega) (by omega)
    have hc:(st++[am.lst (ps.map Pl.w)])[st.length]?=some (.lst (ps.map Pl.w)):=bc
    have hS2:=hg.ok.2.2.le
    obtain⟨p,hpp⟩:∃p,ps[S.length-1]?=some p:=⟨_,ae (by omega)⟩
    have ix:b9 (.loc st.length) (.int ((S.length:Int)-1)) (st++[am.lst (ps.map Pl.w)])=.ok p.w (st++[am.lst (ps.map Pl.w)]):=by
     rw[show(S.length:Int)-1=((S.length-1:Nat):Int) by omega]
     exact k_ (a_ hc) (dR (by rw[aj,hpp];rfl))
    have hmk:=hpm p (ay hpp)
    have ap:=xq (y:=(Pl.mk 3 p.m).w) hc (by rw[al];show _<1000000;omega)
    rw[fD]at ap
    have ap:cf (.loc st.length) [.tup [.int 3,.str p.m]] (st++[am.lst (ps.map Pl.w)])=_:=ap
    apply aD
    ·exact fX (j6 kv (fz hc) (av (tU (av cG (av (bP (bP kv (bP kv cG (fI trivial)) ix) cG (IA p _)) aV)) (aQ rfl)) aV) ap)
    apply cU
    ·exact bD (bP kv cG (fI trivial))
    ·refine⟨_,_,rfl,S'.length,by omega,ps++[⟨3,p.m⟩],S',sz++[k],lk++[x],?_,by simp,.snoc hg mP,by simp;omega,?_,rfl⟩
     ·show[_,_,_,iO ((S.length:Int)-1),_,_]=_
      rw[show(S.length:Int)-1=(S'.length:Int) by omega]
     ·intro q hq
      rcases aY.mp hq with z|z
      ·exact hpm q z
      ·simp at z;subst z;exact hmk
   ·refine .inl ?_
    have t1:decide ((1:Int)<(S.length:Int))=false:=a8 (by omega)
    exact bY (bP kv cG (jQ t1))
  ·rintro n ρ bz ⟨ps,S,sz,lk,rfl,rfl,hg,hle,hpm,rfl⟩ hno
   have hc:(st++[am.lst (ps.map Pl.w)])[st.length]?=some (.lst (ps.map Pl.w)):=bc
   have hS1:S.length<=1:=by
    rcases kG 1 S.length with h1|h1
    ·have t1:decide ((1:Int)<(S.length:Int))=true:=bf (by omega)
     exact(Jf hno (bY (bP kv cG (jQ t1)))).elim
    ·exact h1
   apply bC
   ·exact bW kn (oN (a_ hc))
   ·exact⟨_,_,rfl,⟨_,rfl⟩,by simp only[undWs,cK];exact Ce ps _,ps,S,sz,lk,rfl,hg,hS1,by omega,hpm⟩
theorem QX{nd:Nat}{ds:List Int}{pool:List Nat}(hd:st[nd]?=some (.lst (oQ ds)))(WD:ds.length<=200)(hp:pool.length<=50) :
  ∃ps S sz lk,Gr ps S sz lk/\S.length<=1/\ps.length=ds.length/\(∀p∈ps,yX pool p.m)/\(∀x∈lk,x.1≠none->x.2=none)/\Dm [.loc nd,.str pool] st=.ok (gN ps) st:=by
 suffices hh:i8 (vD fun w bz=>(∃x,bz=st++x)/\undWs st.length [w]=true/\∃ps S sz lk,w=gN ps/\Gr ps S sz lk/\S.length<=1/\ps.length=ds.length/\(∀p∈ps,yX pool p.m)/\∀x∈lk,x.1≠none->x.2=none) (Nc ([W.loc nd,.str pool].map some++List.replicate (5-2) none) st) by
  obtain⟨w,⟨ps,S,sz,lk,rfl,h1,h2,h3,h4,h5⟩,e⟩:=uI hh
  exact⟨ps,S,sz,lk,h1,h2,h3,h4,h5,e⟩
 apply aD
 ·(walk_at "evs")
 have f9:∀A:List W,lstOf (st++[am.lst A]) nd=some (oQ ds):=fun A=>a_ (aT hd)
 have hen:jL (ak (af 0) aB) [lO nd,some (.str pool),lO st.length,none,none] (st++[am.lst []])=.ok (jc (oQ ds),some (nd,oQ ds)) (st++[am.lst []]):=by
  unfold jL
  rw[show ak (af 0) aB [lO nd,some (.str pool),lO st.length,none,none] (st++[am.lst []])=.ok [.loc nd] (st++[am.lst []])from rfl]
  simp only[R.bind_ok,f9]
 refine dO (fun i ρ bz=>∃(ps:List Pl) (S sz:List Nat) (lk:List (Option Nat×Option Nat)) (o3 o4:Option W),ρ=[lO nd,some (.str pool),lO st.length,o3,o4]/\bz=st++[.lst (ps.map Pl.w)]/\Gr ps S sz lk/\ps.length=i/\(if i=0 then S=[]else ∃s,S=[s])/\(∀p∈ps,yX pool p.m)/\∀x∈lk,x.1≠none->x.2=none) hen
  ⟨[],[],[],[],none,none,rfl,rfl,.nil,rfl,rfl,by simp,by simp⟩ (fun i ρ bz h=>?_) ?_ ?_
 ·obtain⟨ps,S,sz,lk,o3,o4,rfl,rfl,_⟩:=h
  exact f9 _
 ·rintro i w ρ bz hw ⟨ps,S,sz,lk,o3,o4,rfl,rfl,hg,hle,hS,hpm,hlk⟩
  obtain⟨y,hy,rfl⟩:=kK hw
  unfold oQ at hy
  rw[aj]at hy
  obtain⟨d,hdd,rfl⟩:=aG.mp hy
  have hi:i<ds.length:=(ac.mp hdd).1
  refine⟨_,rfl,?_⟩
  have hc:(st++[am.lst (ps.map Pl.w)])[st.length]?=some (.lst (ps.map Pl.w)):=bc
  obtain⟨b0,hb0,eb0⟩:=hJ (q:=d) (n:=2) (by omega)
  have eb0:d%2=(b0:Int):=eb0
  obtain⟨b,S',k,x,hb,mP,hS',hx⟩:∃(b:Nat) (S':List Nat) (k:Nat) (x:Option Nat×Option Nat),(if i=0 then 0 else 1)*(1+(b0:Int))=(b:Int)/\St ps.length S b S' k x/\(∃s,S'=[s])/\(x.1≠none->x.2=none):=by
   by_cases h0:i=0
   ·rw[au h0]at hS ⊢
    subst hS
    exact⟨0,_,_,_,by omega,.z,⟨_,rfl⟩,fun _=>rfl⟩
   ·rw[ax h0]at hS ⊢
    obtain⟨s,rfl⟩:=hS
    by_cases hb1:b0=0
    ·exact⟨1,_,_,_,by omega,.l,⟨_,rfl⟩,fun _=>rfl⟩
    ·exact⟨2,_,_,_,by omega,.r,⟨_,rfl⟩,fun h=>absurd rfl h⟩
  have em:=tj pool hp (d/2%16) (st++[am.lst (ps.map Pl.w)])
  have hmk:=Je hp (d/2%16)
  generalize y_ (li pool (d/2%16))=m at em hmk
  have ap:=xq (y:=(Pl.mk b m).w) hc (by rw[al];show _<1000000;omega)
  rw[fD]at ap
  have ap:cf (.loc st.length) [.tup [.int b,.str m]] (st++[am.lst (ps.map Pl.w)])=_:=ap
  have hint:∀s:List am,bE vf (ak (e2 Ey (af 3) (eI 0)) aB) [lO nd,some (.str pool),lO st.length,iO (i:Nat),iO d] s=.ok (.int (if i=0 then 0 else 1)) s:=fun s=>by
   by_cases h0:i=0
   ·subst h0;rfl
   ·rw[ax h0]
    have t1:decide (((i:Nat):Int)>0)=true:=bf (by omega)
    exact bW (av (bP kv cG (jQ t1)) aV) rfl
  have hbw:∀s:List am,e2 fR (bE vf (ak (e2 Ey (af 3) (eI 0)) aB)) (e2 eE (eI 1) (e2 jw (af 4) (eI 2))) [lO nd,some (.str pool),lO st.length,iO (i:Nat),iO d] s=.ok (.int (b:Nat)) s:=fun s=>by
   have:=bP (hint s) (bP (cG (w:=.int 1)) (bP (fa:=af 4) kv (cG (w:=.int 2)) (fI (C:=fun _ j=>0<j) (f:=fun i j=>i%j) (by decide))) eG) (ma (st:=s) (.inl (by split<;>decide)))
   rw[show((if i=0 then(0:Int)else 1)*(1+d%2))=(b:Int) by rw[eb0];exact hb]at this
   exact this
  apply cU
  ·exact fX (j6 kv (fz hc) (av (tU (av (hbw _) (av (bM (av kv (av (bP (bP kv cG (fI (by decide))) cG (fI (by decide))) aV)) em rfl) aV)) (aQ rfl)) aV) ap)
  ·refine⟨_,_,rfl,ps++[⟨b,m⟩],S',sz++[k],lk++[x],_,_,rfl,by simp,.snoc hg mP,by simp[hle],by rw[ax (by omega)];exact hS',?_,?_⟩
   ·intro p hp'
    rcases aY.mp hp' with z|z
    ·exact hpm p z
    ·simp at z;subst z;exact hmk
   ·intro y hy
    rcases aY.mp hy with z|z
    ·exact hlk y z
    ·rw[bB.mp z];exact hx
 ·rintro ρ bz ⟨ps,S,sz,lk,o3,o4,rfl,rfl,hg,hle,hS,hpm,hlk⟩
  rw[show(jc (oQ ds),some (nd,oQ ds)).fst.length=ds.length by rw[iU];simp[oQ]]at hle hS
  have hc:(st++[am.lst (ps.map Pl.w)])[st.length]?=some (.lst (ps.map Pl.w)):=bc
  have hS1:S.length<=1:=by
   split at hS
   ·rw[hS];simp
   ·obtain⟨s,rfl⟩:=hS;simp
  apply bC
  ·exact bW kn (oN (a_ hc))
  ·exact⟨_,_,rfl,⟨_,rfl⟩,by simp only[undWs,cK];exact Ce ps _,ps,S,sz,lk,rfl,hg,hS1,hle,hpm,hlk⟩
theorem xJ{p:Pl}{c:Nat}:∀{ps:List Pl} {ch:List Nat},ch.length=ps.length->jV nm (ps++[p]) (ch++[c])=jV nm ps ch++[wM nm p c]
 |[],[],_=>rfl
 |q::ps,d::ch,h=>by show wM nm q d::jV nm (ps++[p]) (ch++[c])=_;rw[xJ (by simpa using h)];rfl
 |[],_::_,h=>by simp at h
 |_::_,[],h=>by simp at h
noncomputable def sT(nm:List Nat):W->Bool
 |.str [c]=>!decide (c∈nm)
 |_=>false
noncomputable def lY(l:List Nat):List W:=(l.map fun c=>[c]).map W.str
theorem Cm{ch:List Nat}{ps:List Pl}{wl:Nat}(hn:nm.length<=4)(hl:ch.length=ps.length)(LI:ps.length<=1000)(hm:∀p∈ps,p.m.length<=58)(hw:st[wl]?=some (.lst (nW ch))):xz [gN ps,.str nm,.loc wl] st=.ok (gN (jV nm ps ch)) st:=by
 refine fY (w:=gN (jV nm ps ch)) ?_ (by simp only[undWs,Ce,cK])
 apply aD
 ·exact bD (kZ aV (aQ rfl))
 refine dO (fun i ρ s=>∃(o4 o5:Option W),ρ=[some (gN ps),some (.str nm),lO wl,lO st.length,o4,o5]/\st <+: s/\s[st.length]?=some (.lst ((jV nm (ps.take i) (ch.take i)).map Pl.w)))
  (jf (q:=(ps.length:Int)) (st1:=st++[am.lst []]) (av (bW kn (ng ps _)) aV) (by omega)) ⟨none,none,rfl,hU (ah _),bc⟩ (fun _ _ _ _=>trivial) ?_ ?_
 ·rintro i w ρ s hw' ⟨o4,o5,rfl,hp,hc⟩
  obtain⟨hi,rfl⟩:=kO hw'
  rw[aO]at hi
  rw[show((0:Int)+(i:Int))=(i:Int) by omega]
  refine⟨_,rfl,?_⟩
  have hpi:ps[i]?=some ps[i]:=ae hi
  have hci:ch[i]?=some ch[i]:=ae (by omega)
  generalize ps[i]=p at hpi
  generalize ch[i]=c at hci
  have hpm:=hm p (ay hpi)
  have e1:=oM (cap:=[none,some 1]) (f:=eM 0) (t:=gn (e2 (wm true) (af 0) (af 1))) (el:=af 0) (ρ:=[some (gN ps),some (.str nm),lO wl,lO st.length,iO (i:Nat),o5]) (st:=s) (sT nm) id
   (uP (fe:=e2 b9 (e2 b9 (af 0) (af 4)) (eI 1)) (l:=p.m) (st1:=s) (bP (bP kv kv (Iz hpi s)) cG (IA p s))) (by rw[pq];show _<=1000000;omega) trivial fun x hx=>by
    obtain⟨d,hd,rfl⟩:=ba.mp hx
    exact⟨_,rfl,bY (bP kv kv II),fun _=>dX rfl⟩
  have w1:((fg p.m).filter (sT nm)).map id=lY (bare nm p.m):=by
   rw[iX]
   unfold fg lY
   rw[gz,aS];rfl
  rw[w1]at e1
  apply aD
  ·exact xA e1 rfl
  generalize hs1:s++[am.lst (lY (bare nm p.m))]=s1
  have c1:s1[s.length]?=some (.lst (lY (bare nm p.m))):=by rw[<- hs1];exact bc
  have p1:st <+: s1:=by rw[<- hs1];exact hU hp
  have hc1:s1[st.length]?=some (.lst ((jV nm (ps.take i) (ch.take i)).map Pl.w)):=by rw[<- hs1];exact aT hc
  have hwn:b9 (.loc wl) (.int (i:Nat)) s1=.ok (.int (c:Nat)) s1:=rB (pre_get p1 hw) hci
  have hL:nm.length<=mj:=by show _<=1000000;omega
  have e2':=oM (cap:=[none,some 1,some 2,some 4]) (f:=eM 0) (t:=gn (e2 qF (e2 vd (e2 wE (e2 b9 (af 2) (af 3)) (e2 kS (e2 kS (bE dM (ak (af 1) aB)) (eI 1)) (af 0))) (eI 1)) (eI 1))) (el:=e2 b9 (af 1) (af 0)) (ρ:=[some (gN ps),some (.str nm),lO wl,lO st.length,iO (i:Nat),lO s.length]) (st:=s1) (fun w=>wK nm.length c (oU w)) (fun w=>.str [nm.getD (oU w) 0])
   (jf (fs:=ak (bE dM (ak (af 1) aB)) aB) (q:=(nm.length:Int)) (st1:=s1) (av (bW kn (m6 hL)) aV) (by omega)) (by rw[dQ];show _<=1000000;omega) trivial fun x hx=>by
    obtain⟨j,hj,rfl⟩:=sM hx
    rw[aO]at hj
    rw[show((0:Int)+(j:Int))=(j:Int) by omega]
    refine⟨_,rfl,?_,fun _=>?_⟩
    ·have hsh:wE (.int (c:Nat)) (.int ((nm.length:Int)-1-(j:Int))) s1=.ok (.int ((c/2^(nm.length-1-j):Nat):Int)) s1:=by
      rw[show(nm.length:Int)-1-(j:Int)=((nm.length-1-j:Nat):Int) by omega];exact ID
     refine bY (bP (bP (bP (bP kv kv hwn) (bP (bP (bW kn (m6 hL)) cG (fI trivial)) kv (fI trivial)) hsh) cG yP) cG (je ?_))
     show _=decide (c/2^(nm.length-1-((j:Nat):Int).toNat)%2=1)
     rw[aO,iG,db,bH];omega
    ·refine bP kv kv ?_
     rw[GS hL (dR (a9 0 hj))]
     simp[oU]
  have w2:((fP 0 (nm.length:Int).toNat).filter fun w=>wK nm.length c (oU w)).map (fun w=>W.str [nm.getD (oU w) 0])=lY (pS nm c):=by
   unfold fP lY pS
   rw[aO,gz,aS,aS,aS]
   have e1:((fun w=>wK nm.length c (oU w))∘fun k:Nat=>W.int (0+(k:Int)))=wK nm.length c:=by funext k;simp[oU]
   rw[e1]
   refine bJ fun k _=>?_
   simp[oU]
  rw[w2]at e2'
  have ml:=uR nm c
  have bl:(bare nm p.m).length<=58:=aL (b_ _ _) hpm
  apply aD
  ·exact bD (bP kv e2' (GR (aT c1) bc (by unfold lY;simp only[aE,al];show _<=1000000;omega)))
  rw[show lY (bare nm p.m)++lY (pS nm c)=lY (bare nm p.m++pS nm c) by unfold lY;simp]
  generalize ze:s1++[am.lst (lY (pS nm c))]=s2
  generalize hs3:s2++[am.lst (lY (bare nm p.m++pS nm c))]=s3
  have c3:s3[s2.length]?=some (.lst (lY (bare nm p.m++pS nm c))):=by rw[<- hs3];exact bc
  have p3:s1 <+: s3:=by rw[<- hs3,<- ze];exact hU (hU (ah _))
  have esj:=Do (fe:=af 5) (ρ:=[some (gN ps),some (.str nm),lO wl,lO st.length,iO (i:Nat),lO s2.length]) (st:=s3) (l:=bare nm p.m++pS nm c) kv (a_ c3) (by rw[aE];omega)
  generalize hs4:s3++[am.lst ((iV ((bare nm p.m++pS nm c).map fun c=>[c])).map W.str)]=s4 at esj
  have p4:s1 <+: s4:=by rw[<- hs4];exact hU p3
  have hc4:=pre_get p4 hc1
  have hc3:=pre_get p3 hc1
  have lt:=oT (nm:=nm) (ps:=ps.take i) (ch:=ch.take i) (by simp[hl])
  rw[aM]at lt
  apply cU
  ·exact fX (j6 kv (fz hc3) (av (tU (av (bP (bP kv kv (Iz hpi s3)) cG (V8 p s3)) (av esj aV)) (aQ rfl)) aV) (jH hc4 (by rw[al];omega)))
  ·refine⟨_,_,rfl,_,_,rfl,m_ (p1.trans p4) (aw _),?_⟩
   rw[iK hc4,cZ hpi,cZ hci,xJ (by simp[hl]),bw];rfl
 ·rintro ρ s ⟨o4,o5,rfl,hp,hc⟩
  rw[show(fP 0 (ps.length:Int).toNat,(none:Option (Nat×List W))).fst.length=ps.length by simp[dQ],cz,bK (by omega)]at hc
  obtain⟨x,rfl⟩:=hp
  apply bC
  ·exact bW kn (oN (a_ hc))
  ·exact⟨_,_,rfl,rfl,x,rfl⟩
def WT(nm:List Nat):W->W
 |.tup [_,.str m]=>.int (fC m nm:Nat)
 |_=>.non
theorem Lz{nm:List Nat}{ps:List Pl}(LI:ps.length<=1000){s:List am}(h9:ρ[9]?=some (some (gN ps)))(pD:oH [none,none,some 7] ρ=[none,none,some (.str nm)]):dq [none,none,some 7] (dC (af 9)) (yf 2 (cR (eM 0) (cR (eM 1) jz))) iZ (cb 2 rh (ak (af 2) (ak (af 1) aB))) ρ s=.ok (.loc s.length) (s++[.lst (nW (zc nm ps))]):=by
 have:=m8 (cap:=[none,none,some 7]) (f:=yf 2 (cR (eM 0) (cR (eM 1) jz))) (el:=cb 2 rh (ak (af 2) (ak (af 1) aB))) (ρ:=ρ) (st:=s) (WT nm) (kB (fe:=af 9) (ws:=ps.map Pl.w) (st1:=s) (dX h9)) (by rw[al];show _<=1000000;omega) trivial fun w hw=>by
  obtain⟨p,_,rfl⟩:=ba.mp hw
  rw[pD]
  exact⟨_,rfl,bM (av kv kn) (vQ nm p.m s) rfl⟩
 rw[this]
 unfold nW
 rw[aS,aS];rfl
theorem AU(w:W):∀k:Nat,(List.replicate k [w]).flatten=List.replicate k w
 |0=>rfl
 |k+1=>by rw[ca,cP,AU w k];rfl
theorem Jg{p k:Nat}{v:Nat}(h:st[p]?=some (.lst [.int (v:Nat)]))(hk:k<=1000):qM (.loc p) (.int (k:Nat)) st=.ok (.loc st.length) (st++[.lst (nW (List.replicate k v))]):=by
 unfold qM
 simp only[h]
 rw[au ⟨by omega,by omega,by rw[aO];show 1*k<=1000000;omega⟩,aO,AU]
 unfold kR
 rw[au (by rw[gG];show _<=1000000;omega)]
 unfold nW
 rw[List.map_replicate]
def Nk(K:Nat)(ch zd:List Nat):Prop:=∃a c ms zs,ch=a++c::ms/\zd=a++(c+1)::zs/\(∀d∈ms,d+1=K)/\(∀d∈zs,d=0)/\ms.length=zs.length/\c+1<K
theorem Jh{ch:List Nat}{wl K:Nat}(hl:ch.length<=1000)(hw:st[wl]?=some (.lst (nW ch)))(hK:1<=K)(hc:∀c∈ch,c<K) :
  (AI [.loc wl,.int (K:Nat)] st=.ok .non st/\∀c∈ch,c+1=K)\/∃zd,Nk K ch zd/\AI [.loc wl,.int (K:Nat)] st=.ok (.loc st.length) (st++[.lst (nW zd)]):=by
 suffices hh:i8 (vD fun w s=>(w=.non/\(∃x,s=st++x)/\∀c∈ch,c+1=K)\/∃zd,Nk K ch zd/\w=.loc st.length/\s=st++[.lst (nW zd)]) (Dn ([W.loc wl,.int (K:Nat)].map some++List.replicate (4-2) none) st) by
  obtain⟨w,s,e,⟨rfl,⟨x,rfl⟩,h⟩|⟨zd,h,rfl,rfl⟩⟩:=hh
  ·exact .inl ⟨vz (N:=4) (body:=Dn) (ws:=[W.loc wl,.int (K:Nat)]) e rfl,h⟩
  ·exact .inr ⟨zd,h,Am (N:=4) (body:=Dn) (ws:=[W.loc wl,.int (K:Nat)]) (k:=0) e⟩
 have bl:xj [.loc wl] st=.ok (.loc st.length) (st++[.lst (nW ch)]):=by unfold xj;simp only[a_ hw,c5]
 apply aD
 ·exact bD (bW kn bl)
 have da:∀l:List Nat,l.length=ch.length->dM [.loc st.length] (st++[.lst (nW l)])=.ok (.int (ch.length:Nat)) (st++[.lst (nW l)]):=fun l h=>by
  have:=m7 (a_ (bc (s:=st) (c:=.lst (nW l))))
  rw[show(nW l).length=ch.length by unfold nW;rw[al];exact h]at this;exact this
 apply aD
 ·exact bD (bP (bW kn (da ch rfl)) cG (fI trivial))
 let F:Nat->List Nat:=fun j=>ch.take j++List.replicate (ch.length-j) 0
 have lF:∀j,j<=ch.length->(F j).length=ch.length:=fun j hj=>by simp[F];omega
 have gF:∀j,0<j->j<=ch.length->(F j)[j-1]?=some (ch.getD (j-1) 0):=fun j h0 hj=>by
  show(ch.take j++_)[j-1]?=_
  rw[aK (by rw[aM];omega),iS,au (by omega)]
  exact a9 0 (by omega)
 have cell:∀l:List Nat,(st++[am.lst (nW l)])[st.length]?=some (.lst (nW l)):=fun l=>bc
 have ixF:∀j,0<j->j<=ch.length->b9 (.loc st.length) (.int ((j:Int)-1)) (st++[.lst (nW (F j))])=.ok (.int (ch.getD (j-1) 0:Nat)) (st++[.lst (nW (F j))]):=fun j h0 hj=>by
  rw[show(j:Int)-1=((j-1:Nat):Int) by omega]
  exact rB (cell _) (gF j h0 hj)
 have tsB:∀j,j<=ch.length->LY (gn (e2 Rg (af 3) (eI 0))) (gn (e2 qF (e2 b9 (af 2) (af 3)) (e2 kS (af 1) (eI 1)))) [lO wl,iO (K:Nat),lO st.length,iO ((j:Int)-1)] (st++[.lst (nW (F j))])=.ok (decide (0<j/\ch.getD (j-1) 0+1=K)) (st++[.lst (nW (F j))]):=fun j hj=>by
  by_cases h0:0<j
  ·have t0:decide ((j:Int)-1≥0)=true:=bf (by omega)
   have t5:=hc _ (ay (a9 0 (show j-1<ch.length by omega)))
   refine yu (bY (bP kv cG (jQ t0))) (bY (bP (bP kv kv (ixF j h0 hj)) (bP kv cG (fI trivial)) (je ?_)))
   rw[iG,db,bH]
   omega
  ·have t0:decide ((j:Int)-1≥0)=false:=a8 (by omega)
   rw[a8 (by omega)]
   exact yw (bY (bP kv cG (jQ t0)))
 have F0:F ch.length=ch:=by show ch.take _++_=ch;rw[cz,kJ];simp
 refine xu (fun j ρ s=>j<=ch.length/\ρ=[lO wl,iO (K:Nat),lO st.length,iO ((j:Int)-1)]/\s=st++[.lst (nW (F j))]/\∀d∈ch.drop j,d+1=K) ch.length ⟨aw _,rfl,by rw[F0],by simp⟩ ?_ ?_
 ·rintro j ρ s ⟨hj,rfl,rfl,hd⟩
  have tt:=tsB j hj
  by_cases h:0<j/\ch.getD (j-1) 0+1=K
  ·refine .inr ?_
   rw[bf h]at tt
   refine⟨tt,?_⟩
   have hput:mv (.loc st.length) (.int ((j:Int)-1)) (.int 0) (st++[.lst (nW (F j))])=some (st++[.lst (nW (F (j-1)))]):=by
    have:=vN (q:=j-1) (v:=.int ((0:Nat):Int)) (cell (F j)) (by unfold nW;rw[al,lF j hj];omega)
    rw[show(j:Int)-1=((j-1:Nat):Int) by omega]
    rw[fD,Cb]at this
    rw[show(W.int 0)=W.int ((0:Nat):Int)from rfl,this]
    have e:(F j).set (j-1) 0=F (j-1):=by
     show(ch.take j++List.replicate (ch.length-j) 0).set (j-1) 0=ch.take (j-1)++List.replicate (ch.length-(j-1)) 0
     have e1:ch.take j=ch.take (j-1)++[ch.getD (j-1) 0]:=by
      have:=cZ (a9 (l:=ch) 0 (show j-1<ch.length by omega))
      rw[show j-1+1=j by omega]at this;exact this
     rw[e1,bh,jC _ _ (by rw[aM];omega),aM,gy (by omega),kJ,show ch.length-(j-1)=ch.length-j+1 by omega,ca];rfl
    rw[e];rfl
   apply aD
   ·exact tV cG kv kv hput
   apply cU
   ·exact bD (bP kv cG (fI trivial))
   ·refine⟨_,_,rfl,j-1,by omega,by omega,?_,rfl,fun d hdd=>?_⟩
    ·show[_,_,_,iO ((j:Int)-1-1)]=_
     rw[show(j:Int)-1-1=((j-1:Nat):Int)-1 by omega]
    ·rw[bd (show j-1<ch.length by omega),show j-1+1=j by omega]at hdd
     rcases aH.mp hdd with e|e
     ·rw[e]
      have:=h.2
      rw[ao,ae (show j-1<ch.length by omega)]at this
      exact this
     ·exact hd d e
  ·refine .inl ?_
   rw[a8 h]at tt
   exact tt
 ·rintro j ρ s ⟨hj,rfl,rfl,hd⟩ hno
  have tt:=tsB j hj
  have h:¬ (0<j/\ch.getD (j-1) 0+1=K):=fun h=>by
   rw[bf h]at tt
   exact Jf hno tt
  by_cases h0:0<j
  ·have t0:decide ((j:Int)-1<0)=false:=a8 (by omega)
   apply du
   ·exact bY (bP kv cG (jQ t0))
   apply dZ
   have t5:=hc _ (ay (a9 (l:=ch) 0 (show j-1<ch.length by omega)))
   have hput:mv (.loc st.length) (.int ((j:Int)-1)) (.int ((ch.getD (j-1) 0:Nat)+1:Int)) (st++[.lst (nW (F j))])=some (st++[.lst (nW ((F j).set (j-1) (ch.getD (j-1) 0+1)))]):=by
    have:=vN (q:=j-1) (v:=.int ((ch.getD (j-1) 0+1:Nat):Int)) (cell (F j)) (by unfold nW;rw[al,lF j hj];omega)
    rw[fD,Cb]at this
    rw[show(j:Int)-1=((j-1:Nat):Int) by omega,show(((ch.getD (j-1) 0:Nat):Int)+1)=((ch.getD (j-1) 0+1:Nat):Int) by omega]
    exact this
   apply aD
   ·exact tV (bP (bP kv kv (ixF j h0 hj)) cG eG) kv kv hput
   apply bC
   ·exact dX rfl
   ·refine⟨_,_,rfl,.inr ⟨_,⟨ch.take (j-1),ch.getD (j-1) 0,ch.drop j,List.replicate (ch.length-j) 0,?_,?_,hd,fun d hd=>fQ hd,by simp,by omega⟩,rfl,rfl⟩⟩
    ·have e1:ch.take j=ch.take (j-1)++[ch.getD (j-1) 0]:=by
      have:=cZ (a9 (l:=ch) 0 (show j-1<ch.length by omega))
      rw[show j-1+1=j by omega]at this;exact this
     have:=(gJ j ch).symm
     rw[e1,bh]at this
     exact this
    ·show(ch.take j++List.replicate (ch.length-j) 0).set (j-1) _=_
     have e1:ch.take j=ch.take (j-1)++[ch.getD (j-1) 0]:=by
      have:=cZ (a9 (l:=ch) 0 (show j-1<ch.length by omega))
      rw[show j-1+1=j by omega]at this;exact this
     rw[e1,bh,jC _ _ (by rw[aM];omega),aM,gy (by omega),kJ];rfl
  ·have t0:decide ((j:Int)-1<0)=true:=bf (by omega)
   apply kN
   ·exact bY (bP kv cG (jQ t0))
   apply jR
   ·exact cG
   ·refine⟨_,_,rfl,.inl ⟨rfl,⟨_,rfl⟩,fun c h=>hd c ?_⟩⟩
    rw[show j=0 by omega];exact h
section
variable{ps:List Pl}{sz:List Nat}{lk:List (Option Nat×Option Nat)}{M:Mc}{ch:List Nat}
theorem LA(h:Gr ps S sz lk)(hl:ps.length<=900)(hM:yJ M n)(hn:1<=n)(hN:N.length=ps.length)(CD:ch.length=ps.length)(Ra:∀i p,ps[i]?=some p->(N.getD i []).getD (ch.getD i 0) 0=fC p.m M.nm)(st:List am) :
  ∃rs x,rs.length=ps.length/\(∀r∈rs,r<n)/\(st++x)[st.length+1]?=some (.lst (nW rs))/\fin (Tm M.tb) (gM M) (ps.map Pl.b) N ch []=gM M ((sk sz rs ps.length).headD 0)/\Dl [M.w,gN ps] st=.ok (.loc (st.length+1)) (st++x):=by
 obtain⟨l1,l2,_⟩:=h.ok
 suffices hh:i8 (vD fun w bz=>∃j x,w=.loc (st.length+j)/\bz=st++x/\j=1/\∃rs,rs.length=ps.length/\(∀r∈rs,r<n)/\(st++x)[st.length+1]?=some (.lst (nW rs))/\fin (Tm M.tb) (gM M) (ps.map Pl.b) N ch []=gM M ((sk sz rs ps.length).headD 0)) (Nb ([M.w,gN ps].map some++List.replicate (8-2) none) st) by
  obtain⟨j,x,⟨rfl,rs,h1,h2,h3,h4⟩,e⟩:=kC hh
  exact⟨rs,x,h1,h2,h3,h4,e⟩
 generalize hff:fin (Tm M.tb) (gM M) (ps.map Pl.b) N ch []=ff
 apply aD
 ·exact bD (kZ aV (aQ rfl))
 apply aD
 ·exact bD (kZ aV (aQ rfl))
 rw[show(st++[am.lst []]).length=st.length+1 by simp]
 refine dO (fun i ρ s=>∃(rs:List Nat) (o4 o5 o6 o7:Option W),rs.length=i/\ρ=[some M.w,some (gN ps),lO st.length,lO (st.length+1),o4,o5,o6,o7]/\s=st++[.lst (nW (sk sz rs i).reverse),.lst (nW rs)]/\(∀r∈rs,r<n)/\fin (Tm M.tb) (gM M) ((ps.map Pl.b).drop i) (N.drop i) (ch.drop i) (sk sz rs i)=ff)
  (k:=(ps.map Pl.w,none)) (st1:=(st++[am.lst []])++[am.lst []]) (kB kv) ⟨[],none,none,none,none,rfl,rfl,by rw[bh,sk];rfl,by simp,by rw[dF,dF,dF,sk];exact hff⟩ (fun _ _ _ _=>trivial) ?_ ?_
 ·rintro i w ρ s hw ⟨rs,o4,o5,o6,o7,rfl,rfl,rfl,uq,hfin⟩
  rw[aj]at hw
  obtain⟨p,hp,rfl⟩:=aG.mp hw
  have hi:rs.length<ps.length:=(ac.mp hp).1
  obtain⟨x,hx⟩:∃x,lk[rs.length]?=some x:=⟨_,ae (by omega)⟩
  have hk:sz[rs.length]?=some (sz.getD rs.length 0):=a9 0 (by omega)
  have hk1:=(h.sz1 hi).1
  obtain⟨u1,u2⟩:=h.lk hx
  have bl:∀o,(∀k,o=some k->k<rs.length)->j' rs o<n:=fun o ho=>by
   cases o with
   |none=>show 0<n;omega
   |some k=>exact uq _ (ay (a9 0 (ho k rfl)))
  have b1:=bl x.1 u1
  have b2:=bl x.2 u2
  refine⟨_,rfl,?_⟩
  generalize hkk:sz.getD rs.length 0=k at hk hk1
  have tl:=IP (sz:=sz) rs (rs.length+1-k)
  have htb:M.tb[fC p.m M.nm]?=some (M.tb.getD (fC p.m M.nm) []):=a9 [] (by rw[hM.tb];exact uQ _ _)
  obtain⟨t1,t2⟩:=hM.t _ (ay htb)
  have g1:(M.tb.getD (fC p.m M.nm) [])[j' rs x.1]?=some ((M.tb.getD (fC p.m M.nm) []).getD (j' rs x.1) []):=a9 [] (by omega)
  obtain⟨r1,r2⟩:=t2 _ (ay g1)
  have g2:((M.tb.getD (fC p.m M.nm) []).getD (j' rs x.1) [])[j' rs x.2]?=some (Tm M.tb (fC p.m M.nm) (j' rs x.1) (j' rs x.2)):=a9 0 (by omega)
  have hrow:Tm M.tb (fC p.m M.nm) (j' rs x.1) (j' rs x.2)<n:=r2 _ (ay g2)
  generalize uT:Tm M.tb (fC p.m M.nm) (j' rs x.1) (j' rs x.2)=ro at g2 hrow
  have ix:∀s:List am,b9 (.tup (M.tb.map qf)) (.int (fC p.m M.nm:Nat)) s=.ok (qf (M.tb.getD (fC p.m M.nm) [])) s:=fun s=>lT (dR (by rw[aj,htb];rfl))
  have isl:∀A B:List W,pJ (st++[.lst A,.lst B]) (.loc st.length)=true:=fun A B=>fz (by rw[jd];rfl)
  have put:i8 (EJ fun ρ s=>∃(rs':List Nat) (o4 o5 o6 o7:Option W),rs'.length=rs.length+1/\ρ=[some M.w,some (gN ps),lO st.length,lO (st.length+1),o4,o5,o6,o7]/\s=st++[.lst (nW (sk sz rs' (rs.length+1)).reverse),.lst (nW rs')]/\(∀r∈rs',r<n)/\fin (Tm M.tb) (gM M) ((ps.map Pl.b).drop (rs.length+1)) (N.drop (rs.length+1)) (ch.drop (rs.length+1)) (sk sz rs' (rs.length+1))=ff)
    (aW (fB (pK cf (af 2) (ak (e2 b9 (e2 b9 (e2 b9 (e2 b9 (af 0) (eI 2)) (cb 2 rh (ak (e2 b9 (af 0) (eI 0)) (ak (af 5) aB)))) (af 6)) (af 7)) aB))) (fB (pK cf (af 3) (ak (e2 b9 (af 2) (z_ (eI 1))) aB)))
     [some M.w,some (gN ps),lO st.length,lO (st.length+1),iO p.b,some (.str p.m),iO (j' rs x.1:Nat),iO (j' rs x.2:Nat)] (st++[.lst (nW (sk sz rs (rs.length+1-k)).reverse),.lst (nW rs)])):=by
   generalize hB:sk sz rs (rs.length+1-k)=B at tl
   have hc:(st++[am.lst (nW B.reverse),.lst (nW rs)])[st.length]?=some (.lst (nW B.reverse)):=by rw[jd];rfl
   have ap1:=jH (y:=.int (ro:Nat)) hc (by unfold nW;rw[al,List.length_reverse];omega)
   rw[fD,show nW B.reverse++[W.int (ro:Nat)]=nW (ro::B).reverse by unfold nW;simp]at ap1
   have ap1:cf (.loc st.length) [.int (ro:Nat)] (st++[am.lst (nW B.reverse),.lst (nW rs)])=.ok .non (st++[am.lst (nW (ro::B).reverse),.lst (nW rs)]):=ap1
   apply aD
   ·exact fX (j6 kv (isl _ _) (av (bP (bP (bP kx (bM (av kx kn) (vQ M.nm p.m _) rfl) (ix _)) kv (yK g1)) kv (vO g2)) aV) ap1)
   have hc2:(st++[am.lst (nW (ro::B).reverse),.lst (nW rs)])[st.length]?=some (.lst (nW (ro::B).reverse)):=by rw[jd];rfl
   have hc3:(st++[am.lst (nW (ro::B).reverse),.lst (nW rs)])[st.length+1]?=some (.lst (nW rs)):=by rw[kA];rfl
   have il:b9 (.loc st.length) (.int (-1)) (st++[am.lst (nW (ro::B).reverse),.lst (nW rs)])=.ok (.int (ro:Nat)) (st++[am.lst (nW (ro::B).reverse),.lst (nW rs)]):=k_ (a_ hc2) (GT (q:=0) (by unfold nW;rw[<- List.map_reverse,List.reverse_reverse];rfl))
   apply cU
   ·exact fX (j6 kv (fz hc3) (av (bP kv (An cG) il) aV) (jH hc3 (by unfold nW;rw[al];omega)))
   ·refine⟨_,_,rfl,rs++[ro],_,_,_,_,by simp,rfl,?_,fun r hr=>?_,?_⟩
    ·rw[oK,DC h ro hk hk1,hB,show nW rs++[W.int (ro:Nat)]=nW (rs++[ro]) by unfold nW;simp];rfl
    ·rcases aY.mp hr with z|z
     ·exact uq r z
     ·rw[bB.mp z];exact hrow
    ·have hb:(ps.map Pl.b)[rs.length]?=some p.b:=by rw[aj,hp];rfl
     have hNg:N[rs.length]?=some (N.getD rs.length []):=a9 [] (by omega)
     have hcg:ch[rs.length]?=some (ch.getD rs.length 0):=a9 0 (by omega)
     obtain⟨a1,a2⟩:=ac.mp hb
     obtain⟨m1,m2⟩:=ac.mp hNg
     obtain⟨c1,c2⟩:=ac.mp hcg
     rw[bd a1,bd m1,bd c1,a2,m2,c2]at hfin
     have hfin:fin (Tm M.tb) (gM M) ((ps.map Pl.b).drop (rs.length+1)) (N.drop (rs.length+1)) (ch.drop (rs.length+1)) (rE (Tm M.tb) p.b ((N.getD rs.length []).getD (ch.getD rs.length 0) 0) (sk sz rs rs.length))=ff:=hfin
     rw[Ra rs.length p hp,DB h rs hp hx hk,uT]at hfin
     rw[DC h ro hk hk1];exact hfin
  have pop:∀(q:Nat) (B:List Nat) (A:List W),vj (.loc st.length) [] (st++[.lst (nW (q::B).reverse),.lst A])=.ok (.int (q:Nat)) (st++[.lst (nW B.reverse),.lst A]):=fun q B A=>by
   have hc:(st++[am.lst (nW (q::B).reverse),.lst A])[st.length]?=some (.lst (nW B.reverse++[.int (q:Nat)])):=by rw[jd];unfold nW;simp
   rw[Mi hc,fD];rfl
  have T1:∀(k:Bool) (ρ:cw) (s:List am),decide ((p.b:Int)≥2)=k->ρ[4]?=some (iO p.b)->gn (e2 Rg (af 4) (eI 2)) ρ s=.ok k s:=fun k ρ s e h4=>bY (bP (dX h4) cG (jQ e))
  have T2:∀(k:Bool) (ρ:cw) (s:List am),(((p.b:Int)%2)==1)=k->ρ[4]?=some (iO p.b)->gn (e2 qF (e2 jw (af 4) (eI 2)) (eI 1)) ρ s=.ok k s:=fun k ρ s e h4=>bY (bP (bP (dX h4) cG (fI (by decide))) cG (je e))
  apply aD
  ·exact bD cG
  apply aD
  ·exact bD cG
  rcases Ue h rs hp hx hk with⟨hb,hxx,hs⟩|⟨hb,⟨l,hxx⟩,hs⟩|⟨hb,⟨r,hxx⟩,hs⟩|⟨hb,_,_,hs⟩
  ·rw[hs]
   apply du
   ·exact T1 _ _ _ (by rw[hb];rfl) rfl
   apply dZ
   apply du
   ·exact T2 _ _ _ (by rw[hb];rfl) rfl
   apply dZ
   rw[hxx]at put;exact put
  ·rw[hs]
   apply du
   ·exact T1 _ _ _ (by rw[hb];rfl) rfl
   apply dZ
   apply aD
   ·exact l_ (T2 _ _ _ (by rw[hb];rfl) rfl) (bD (j6 kv (isl _ _) aV (pop _ _ _)))
   rw[hxx]at put ⊢;exact put
  ·rw[hs]
   apply aD
   ·exact l_ (T1 _ _ _ (by rw[hb];rfl) rfl) (bD (j6 kv (isl _ _) aV (pop _ _ _)))
   apply du
   ·exact T2 _ _ _ (by rw[hb];rfl) rfl
   apply dZ
   rw[hxx]at put ⊢;exact put
  ·rw[hs]
   apply aD
   ·exact l_ (T1 _ _ _ (by rw[hb];rfl) rfl) (bD (j6 kv (isl _ _) aV (pop _ _ _)))
   apply aD
   ·exact l_ (T2 _ _ _ (by rw[hb];rfl) rfl) (bD (j6 kv (isl _ _) aV (pop _ _ _)))
   exact put
 ·rintro ρ s ⟨rs,o4,o5,o6,o7,hrl,rfl,rfl,uq,hfin⟩
  rw[show(ps.map Pl.w,(none:Option (Nat×List W))).fst.length=ps.length by simp]at hrl hfin ⊢
  rw[eW (l:=ps.map Pl.b) (by simp)]at hfin
  have e:∀N ch σ,fin (Tm M.tb) (gM M) [] N ch σ=gM M (σ.headD 0):=fun N ch σ=>by unfold fin;rfl
  rw[e]at hfin
  apply bC
  ·exact dX rfl
  ·exact⟨_,_,rfl,1,_,rfl,rfl,rfl,rs,hrl,uq,by rw[kA];rfl,hfin.symm⟩
theorem Nl(hM:yJ M n){k:Nat}(hk:k<n)(st:List am):b9 (.tup (M.gd.map W.bl)) (.int k) st=.ok (.bl (M.gd.getD k false)) st:=
 lT (dR (by rw[aj,a9 false (by rw[hM.gd];exact hk)];rfl))
theorem Ji(h:Gr ps S sz lk)(hl:ps.length<=900)(hM:yJ M n)(hn:1<=n)(hN:N.length=ps.length)(CD:ch.length=ps.length)(Ra:∀i p,ps[i]?=some p->(N.getD i []).getD (ch.getD i 0) 0=fC p.m M.nm)(st:List am) :
  ∃b:Bool,(if b then 1 else 0)=fin (Tm M.tb) (gM M) (ps.map Pl.b) N ch []/\xy [M.w,gN ps] st=.ok (.bl b) st:=by
 obtain⟨l1,l2,_⟩:=h.ok
 have ll:=ng ps st
 by_cases z:0<ps.length
 ·obtain⟨rs,x,h1,h2,h3,h4,e⟩:=LA h hl hM hn hN CD Ra st
  have hk:sz[ps.length-1]?=some (sz.getD (ps.length-1) 0):=a9 0 (by omega)
  have e1:=hW (rs:=rs) hk (h.sz1 (show ps.length-1<ps.length by omega)).1
  rw[show ps.length-1+1=ps.length by omega]at e1
  rw[e1]at h4
  refine⟨M.gd.getD (rs.getD (ps.length-1) 0) false,h4.symm,?_⟩
  refine fY (N:=2) (ws:=[M.w,gN ps]) (body:=Il) ?_ rfl
  refine du (bY (bP (bW kn ll) cG (je (by rw[bI];omega)))) ?_
  refine dZ ?_
  have hg:rs[ps.length-1]?=some (rs.getD (ps.length-1) 0):=a9 0 (by omega)
  refine bC (bP kx (bP (bM (av kv kn) e rfl) (An cG) (k_ (a_ h3) (GT (q:=0) (x:=.int (rs.getD (ps.length-1) 0:Nat)) ?_))) (Nl hM (h2 _ (ay hg)) _)) ⟨_,_,rfl,rfl,_,rfl⟩
  unfold nW
  rw[gI (by rw[al];omega),al,aj,h1,show ps.length-1-0=ps.length-1 by omega,hg];rfl
 ·have LI:ps=[]:=iY.mp (by omega)
  refine⟨M.gd.getD 0 false,?_,?_⟩
  ·subst LI;unfold fin;rfl
  ·refine fY (N:=2) (ws:=[M.w,gN ps]) (body:=Il) ?_ rfl
   refine kN (bY (bP (bW kn ll) cG (je (by rw[db];omega)))) ?_
   exact jR (bP kx cG (Nl (k:=0) hM hn st)) ⟨_,_,rfl,rfl,[],by simp⟩
end
section
variable{ps:List Pl}{sz:List Nat}{lk:List (Option Nat×Option Nat)}
theorem Jj{K:Nat}(h:Gr ps S sz lk)(hN:N.length=ps.length)(hK:∀x∈N,x.length=K)(hT:∀t a b,T t a b<n)(hn:1<=n):∀(r k:Nat),sz[r]?=some k->um n ((km n T N lk []).getD r (ez n))=K^k:=by
 obtain⟨l1,l2,_⟩:=h.ok
 intro r
 induction r using Nat.strongRecOn with
 |_ r ih=>
  intro k hk
  have hr:r<ps.length:=by have:=(ac.mp hk).1;omega
  obtain⟨p,L,R,q1,q2,q3,q4,q5,q6,q7⟩:=h.pf hr
  rw[hk]at q2
  have hkk:k=1+L+R:=aF q2
  have da:(N.getD r []).length=K:=hK _ (ay (a9 [] (by omega)))
  rw[IL (by omega) q4 (h.lk q4),DI hT,da]
  have eL:um n (rG n (km n T N lk []) (if 0<L then some (r-1-R)else none))=K^L:=by
   by_cases hL:0<L
   ·rw[au hL];exact ih _ (by omega) L (q7 hL)
   ·rw[ax hL,show L=0 by omega];exact vY hn
  have eR:um n (rG n (km n T N lk []) (if 0<R then some (r-1)else none))=K^R:=by
   by_cases hR:0<R
   ·rw[au hR];exact ih _ (by omega) R (q6 hR)
   ·rw[ax hR,show R=0 by omega];exact vY hn
  rw[eL,eR,hkk,<- nD,<- Nat.pow_add]
  congr 1;omega
theorem LB(o:Option Nat):(rG n (km n T N lk []) o).length=n:=by
 cases o with
 |none=>exact lh
 |some k=>
  show((km n T N lk []).getD k (ez n)).length=n
  rcases jT (km n T N lk []) k (ez n)with e|e
  ·rw[e];exact lh
  ·exact rH n _ _ _ _ (by simp) _ e
theorem LC{K:Nat}(h:Gr ps S sz lk)(hN:N.length=ps.length)(hK:∀x∈N,x.length=K)(Va:1<=K)(hT:∀t a b,T t a b<n)(hn:1<=n)(hp:K^ps.length<2^64):HB n (km n T N lk []) lk:=by
 obtain⟨l1,l2,_⟩:=h.ok
 intro i u hu _ a
 have hi:i<ps.length:=by have:=(ac.mp hu).1;omega
 have h1:=QV (a:=a) (LB (n:=n) (T:=T) (N:=N) (lk:=lk) u.2)
 have h2:um n (rG n (km n T N lk []) u.2)<=K^ps.length:=by
  cases e:u.2 with
  |none=>
   show um n (ez n)<=_
   rw[vY hn];exact oY Va
  |some k=>
   have hk:=(h.lk hu).2 k e
   have hs:sz[k]?=some (sz.getD k 0):=a9 0 (by omega)
   have:=Jj h hN hK hT hn k _ hs
   show um n ((km n T N lk []).getD k (ez n))<=_
   rw[this]
   exact d8 Va (by have:=(h.sz1 (show k<ps.length by omega)).2;omega)
 omega
theorem QY(hr:∀x∈lk,x.1≠none->x.2=none)(V:List (List Nat)):HB n V lk:=by
 intro i u hu h1 a
 rw[hr u (ay hu) h1]
 show(ez n).getD a 0<2^64
 by_cases ha:a<n
 ·rw[Iw ha];split<;>decide
 ·rw[yO 0 (by rw[lh];omega)];decide
end
theorem v7{l:List α}:mW l none (some (q:Int))=l.take q:=by
 unfold mW
 rw[HT.sIx_none,HT.sIx_nat]
 rcases Nat.le_total q l.length with h|h
 ·rw[gy h];simp
 ·rw[Nat.min_eq_right h,bK h];simp
theorem AV(uw nm m:List Nat):(jU uw nm m).length=2^nm.length:=by unfold jU;simp
noncomputable def Jk:List W:=[.int 40,.int 23,.int 15,.int 10,.int 7]
noncomputable def most(c:Nat):Nat:=[40,23,15,10,7].getD c 0
theorem LD{c:Nat}(h:c<=4):Jk[c]?=some (.int (most c:Nat))/\most c<=40/\c*(2*most c)<64:=by
 obtain rfl|rfl|rfl|rfl|rfl:c=0\/c=1\/c=2\/c=3\/c=4:=by omega
 all_goals exact⟨rfl,by decide,by decide⟩
section
variable{ps:List Pl}{sz:List Nat}{lk:List (Option Nat×Option Nat)}{M:Mc}{ch:List Nat}
theorem Uk{k:Nat}(hk:∀p∈ps,p.m.length<=k)(hn:nm.length<=4):∀q∈jV nm ps ch,q.m.length<=k+4:=fun q hq=>by
 obtain⟨p,hp,c,_,rfl⟩:=rO hq
 show(y_ _).length<=_
 rw[uK,aE]
 have h1:=uR nm c
 have h2:(bare nm p.m).length<=k:=aL (b_ _ _) (hk p hp)
 omega
theorem rP(B:yW M n nm ps S sz lk)(hm:∀p∈ps,p.m.length<=58)(hl:ch.length=ps.length)(hc:∀c∈ch,c<2^nm.length)(st:List am) :
  vL [M.w,gN (jV nm ps ch),.str nm] st=.ok (.int (s_ (Tm M.tb) (gM M) (ps.map Pl.b) (gO M nm ps) ch []:Nat)) st/\tY [M.w,gN (jV nm ps ch),.str nm] st=.ok (.int (qk (Tm M.tb) (gM M) (ps.map Pl.b) (gO M nm ps) []:Nat)) st /\
  ∃b:Bool,(if b then 1 else 0)=fin (Tm M.tb) (gM M) (ps.map Pl.b) (gO M nm ps) ch []/\xy [M.w,gN (jV nm ps ch)] st=.ok (.bl b) st:=by
 have BP:=B.put hl fun p hp=>aL (b_ _ _) (aL (hm p hp) (by decide))
 have h1:=Lw BP.gd BP.lt st
 have h2:=AS BP.gd st
 rw[tf hl,rN hl,DO B.nd hl hc]at h1
 rw[tf hl,rN hl]at h2
 refine⟨h1,h2,?_⟩
 have hlp:=oT (nm:=nm) hl
 obtain⟨b,h3,h4⟩:=Ji BP.g (by have:=BP.l;omega) B.mo B.n1 (N:=gO M nm ps) (ch:=ch) (by rw[hlp];simp) (by rw[hlp];exact hl) (fun i p hp=>by
  have hi:i<ps.length:=by have:=(ac.mp hp).1;omega
  have e1:ps[i]?=some ps[i]:=ae hi
  have e2:ch[i]?=some (ch.getD i 0):=a9 0 (by omega)
  have:=DP (nm:=nm) e1 e2
  rw[this]at hp
  cases hp
  rw[Jd ps[i] (hc _ (ay e2)),show(gO M nm ps).getD i []=jU M.nm nm ps[i].m from jk _ e1]) st
 rw[tf hl]at h3
 exact⟨b,h3,h4⟩
end
theorem QZ{a b:Nat}(h:a<1000000):fR (.int (a:Nat)) (.int (b:Nat)) st=.ok (.int ((a*b:Nat):Int)) st:=by
 rw[ma (.inl ⟨by omega,by omega⟩),dm]
theorem Q0{a c:Nat}(ha:a<2^64)(hc:c<=1000):sD (.int (a:Nat)) (.int (c:Nat)) st=.ok (.int ((a*2^c:Nat):Int)) st:=by
 have:=fI (C:=fun i j=>0<=j/\j<=1000000/\i.natAbs<2^64) (f:=fun i j=>i*2^j.toNat) (p:=(a:Int)) (q:=(c:Int)) (st:=st) ⟨by omega,by omega,by omega⟩
 rw[show sD (.int (a:Nat)) (.int (c:Nat)) st=_ from this,aO]
 simp
theorem law_ok:Me f_q41:=by
 intro ns hn
 suffices hh:i8 (vD fun w bz=>w=.bl true) (Nd ([W.loc 0].map some++List.replicate (17-1) none) [.ro (ns.map W.int)]) by
  obtain⟨w,bz,e,rfl⟩:=hh
  exact⟨_,m3 e⟩
 have h0:([am.ro (ns.map W.int)]:List am)[0]?=some (.ro (ns.map W.int)):=rfl
 generalize hs0:([am.ro (ns.map W.int)]:List am)=s0 at h0
 obtain⟨c0,e0⟩:=rj h0 0
 obtain⟨ds,WD,hdp,e1⟩:=oP c0 50021 8 (by omega) s0
 have e1:pR [.int c0,.int 8,.int 50021] s0=_:=e1
 apply aD
 ·exact bD (bM (av (bM (av kv (av cG aV)) e0 rfl) (av cG (av cG aV))) e1 rfl)
 generalize hsl:s0.length=sl
 generalize hs1:s0++[am.lst (ds.map W.int)]=s
 have hsh:s[sl]?=some (.lst (oQ ds)):=by rw[<- hs1,<- hsl];exact bc
 have h1:s[0]?=some (.ro (ns.map W.int)):=by rw[<- hs1];exact aT h0
 have ish:∀(i:Nat),i<8->∃d:Int,∀z:List am,z[sl]?=some (.lst (oQ ds))->b9 (.loc sl) (.int (i:Nat)) z=.ok (.int d) z:=fun i hi=>by
  obtain⟨d,hd⟩:∃d,ds[i]?=some d:=⟨_,ae (by omega)⟩
  exact⟨d,fun z hz=>yI hz hd⟩
 obtain⟨d0,i0⟩:=ish 0 (by omega)
 obtain⟨d1,i1⟩:=ish 1 (by omega)
 obtain⟨d2,i2⟩:=ish 2 (by omega)
 obtain⟨d3,i3⟩:=ish 3 (by omega)
 obtain⟨d4,i4⟩:=ish 4 (by omega)
 obtain⟨d5,i5⟩:=ish 5 (by omega)
 obtain⟨d6,i6⟩:=ish 6 (by omega)
 obtain⟨d7,i7⟩:=ish 7 (by omega)
 have i0:∀z:List am,z[sl]?=some (.lst (oQ ds))->b9 (.loc sl) (.int 0) z=.ok (.int d0) z:=i0
 have i1:∀z:List am,z[sl]?=some (.lst (oQ ds))->b9 (.loc sl) (.int 1) z=.ok (.int d1) z:=i1
 have i2:∀z:List am,z[sl]?=some (.lst (oQ ds))->b9 (.loc sl) (.int 2) z=.ok (.int d2) z:=i2
 have i3:∀z:List am,z[sl]?=some (.lst (oQ ds))->b9 (.loc sl) (.int 3) z=.ok (.int d3) z:=i3
 have i4:∀z:List am,z[sl]?=some (.lst (oQ ds))->b9 (.loc sl) (.int 4) z=.ok (.int d4) z:=i4
 have i5:∀z:List am,z[sl]?=some (.lst (oQ ds))->b9 (.loc sl) (.int 5) z=.ok (.int d5) z:=i5
 have i6:∀z:List am,z[sl]?=some (.lst (oQ ds))->b9 (.loc sl) (.int 6) z=.ok (.int d6) z:=i6
 have i7:∀z:List am,z[sl]?=some (.lst (oQ ds))->b9 (.loc sl) (.int 7) z=.ok (.int d7) z:=i7
 obtain⟨c,hc,ec⟩:=hJ (q:=d0) (n:=3) (by omega)
 have ec:d0%3=(c:Int):=ec
 apply aD
 ·exact bD (bP (bP kv cG (i0 s hsh)) cG (fI (by decide)))
 rw[ec]
 obtain⟨n',hn',en⟩:=hJ (q:=d1) (n:=5-c) (by omega)
 have en:d1%(5-(c:Int))=(n':Int):=by rw[<- en];congr 1;omega
 have p1:(0:Int)<5-(c:Int):=by omega
 apply aD
 ·exact bD (bP cG (bP (bP kv cG (i1 s hsh)) (bP cG kv (fI trivial)) (fI p1)) eG)
 rw[en]
 obtain⟨n,hnn'⟩:∃n,n=1+n':=⟨_,rfl⟩
 rw[show(1:Int)+(n':Int)=(n:Int) by omega]
 have Jm:1<=n:=by omega
 have hn5:n<=5:=by omega
 obtain⟨c1,e1⟩:=rj h1 1
 obtain⟨pool,qu,hpn,hpp,e2'⟩:=Li c1 100003 6 (by omega) s
 have e2':AH [.int c1,.int 6,.int 100003] s=_:=e2'
 apply aD
 ·exact bD (bM (av (bM (av kv (av cG aV)) e1 rfl) (av cG (av cG aV))) e2' rfl)
 have hnn:n+n*n*2^c<=1000:=by
  have x2:n*n<=5*5:=lK (by omega) (by omega)
  have x1:c=0\/c=1\/c=2:=by omega
  rcases x1 with rfl|rfl|rfl<;>omega
 obtain⟨c2,e3⟩:=rj h1 2
 obtain⟨dr,hdrl,hdrp,e4⟩:=oP c2 200017 (n+n*n*2^c) hnn s
 have e5:e2 eE (af 3) (e2 sD (e2 fR (af 3) (af 3)) (af 2)) [lO 0,lO sl,iO c,iO n,some (.str pool),none,none,none,none,none,none,none,none,none,none,none,none] s=.ok (.int ((n+n*n*2^c:Nat):Int)) s:=by
  rw[show((n+n*n*2^c:Nat):Int)=(n:Int)+((n*n*2^c:Nat):Int) by omega]
  have x2:n*n<=5*5:=lK hn5 hn5
  exact bP kv (bP (bP kv kv (QZ (by omega))) kv (Q0 (by omega) (by omega))) eG
 apply aD
 ·exact bD (bM (av (bM (av kv (av cG aV)) e3 rfl) (av e5 (av cG aV))) e4 rfl)
 generalize hs3:s++[am.lst (dr.map W.int)]=s3
 have hd3:s3[s.length]?=some (.lst (oQ dr)):=by rw[<- hs3];exact bc
 have hsh3:s3[sl]?=some (.lst (oQ ds)):=by rw[<- hs3];exact aT hsh
 have h3:s3[0]?=some (.ro (ns.map W.int)):=by rw[<- hs3];exact aT h1
 have hpL:pool.length<=mj:=by rw[qu];show 6<=1000000;decide
 have esrt:=Lj (fe:=EA (af 4) nH (mq (af 2))) (ρ:=[lO 0,lO sl,iO c,iO n,some (.str pool),lO s.length,none,none,none,none,none,none,none,none,none,none,none]) (st:=s3) (s1:=s3) (l:=pool.take c) (by
  have:=As (l:=none) (h:=some (c:Int)) (st:=s3) hpL
  rw[v7]at this
  exact Ar kv Ap (Aq kv) this) (by rw[aM];omega)
 generalize hs4:s3++[am.lst ((iV ((pool.take c).map fun c=>[c])).map W.str)]=s4 at esrt
 have hd4:s4[s.length]?=some (.lst (oQ dr)):=by rw[<- hs4];exact aT hd3
 have hsh4:s4[sl]?=some (.lst (oQ ds)):=by rw[<- hs4];exact aT hsh3
 have h4:s4[0]?=some (.ro (ns.map W.int)):=by rw[<- hs4];exact aT h3
 have hsl:(y_ (pool.take c)).length=c:=by rw[uK,aM];omega
 obtain⟨M,hMn,hM,e6⟩:=B_ (y_ (pool.take c)) n n s.length dr s4 (by omega) Jm (by omega) Jm (aw _) hd4 (by rw[hsl,hdrl,jn (2^c)];exact aw _)
 apply aD
 ·exact bD (bM (av esrt (av kv (av kv kn))) e6 rfl)
 obtain⟨k4,hk4,ek4⟩:=hJ (q:=d4) (n:=5) (by omega)
 have ek4:d4%5=(k4:Int):=ek4
 have hmk:=Je (pool:=pool) (by omega) d3
 have emk:=tj pool (by omega) d3 s4
 have hpk:(y_ (li pool d3)).Nodup:=(rA _).nodup_iff.mpr ((nh pool d3).nodup hpn)
 generalize hm0:y_ (li pool d3)=m0 at emk hmk hpk
 have esl:zW (.str m0) none (some (k4:Int)) s4=.ok (.str (m0.take k4)) s4:=by
  rw[As (by have:=hmk.1;show _<=1000000;omega),v7]
 apply aD
 ·exact bD (Ar (bM (av kv (av (bP kv cG (i3 s4 hsh4)) aV)) emk rfl) Ap (Aq (by rw[<- ek4];exact bP (bP kv cG (i4 s4 hsh4)) cG (fI (by decide)))) esl)
 have nmk:∀j,(m0.take j).Nodup/\(∀d∈m0.take j,d∈LL):=fun j=>⟨(List.take_sublist _ _).nodup hpk,fun d hd=>hpp d (hmk.2 d (g8 hd))⟩
 have nml:(m0.take k4).length<=4:=by rw[aM];omega
 obtain⟨q1,q2,q3⟩:=LD nml
 have hms:e2 b9 (j5 (ak (eI 40) (ak (eI 23) (ak (eI 15) (ak (eI 10) (ak (eI 7) aB)))))) (bE dM (ak (af 7) aB)) [lO 0,lO sl,iO c,iO n,some (.str pool),lO s.length,some M.w,some (.str (m0.take k4)),none,none,none,none,none,none,none,none,none] s4=.ok (.int (most (m0.take k4).length:Nat)) (s4++[.lst Jk]):=
  bP (kZ (av cG (av cG (av cG (av cG (av cG aV))))) (aQ rfl)) (bW kn (m6 (by show _<=1000000;omega))) (k_ (a_ bc) (dR q1))
 apply aD
 ·exact bD hms
 generalize hs5:s4++[am.lst Jk]=s5
 have hsh5:s5[sl]?=some (.lst (oQ ds)):=by rw[<- hs5];exact aT hsh4
 have h5:s5[0]?=some (.ro (ns.map W.int)):=by rw[<- hs5];exact aT h4
 obtain⟨c3,e7⟩:=rj h5 3
 obtain⟨k2,hk2,ek2⟩:=hJ (q:=d2) (n:=most (m0.take k4).length+1) (by omega)
 have ek2:d2%((most (m0.take k4).length:Int)+1)=(k2:Int):=by rw[<- ek2];congr 1
 obtain⟨dt,hdtl,hdtp,e8⟩:=oP c3 300007 k2 (by omega) s5
 have hpt:(pool.take 4).length<=50:=by rw[aM];omega
 have hpt2:∀d∈pool.take 4,d∈LL:=fun d hd=>hpp d (g8 hd)
 have esl4:∀z:List am,zW (.str pool) none (some 4) z=.ok (.str (pool.take 4)) z:=fun z=>by
  rw[As hpL,show(some (4:Int))=some ((4:Nat):Int)from rfl,v7]
 obtain⟨ps0,S0,sz0,lk0,g0,g1,g2,g3,e9⟩:=Ly (st:=s5++[.lst (dt.map W.int)]) (nd:=s5.length) (ds:=dt) (pool:=pool.take 4) bc (by omega) hpt
 have pm:(0:Int)<(most (m0.take k4).length:Int)+1:=by omega
 apply aD
 ·exact bD (bM (av (bM (av (bM (av kv (av cG aV)) e7 rfl) (av (by rw[<- ek2];exact bP (bP kv cG (i2 s5 hsh5)) (bP kv cG eG) (fI pm)) (av cG aV))) e8 rfl) (av (Ar kv Ap (Aq cG) (esl4 _)) aV)) e9 rfl)
 generalize hs6:s5++[am.lst (dt.map W.int)]=s6
 have hsh6:s6[sl]?=some (.lst (oQ ds)):=by rw[<- hs6];exact aT hsh5
 have h6:s6[0]?=some (.ro (ns.map W.int)):=by rw[<- hs6];exact aT h5
 have hT:∀t a b,Tm M.tb t a b<n:=xB hM Jm
 have mkl:∀(ps:List Pl),(∀p∈ps,yX (pool.take 4) p.m)->(∀p∈ps,p.m.length<=50)/\∀p∈ps,∀d∈p.m,d∈LL:=fun ps h=>⟨fun p hp=>(h p hp).1,fun p hp d hd=>hpt2 d ((h p hp).2 d hd)⟩
 refine yA (fun ρ z=>∃(nm:List Nat) (ps:List Pl) (S sz:List Nat) (lk:List (Option Nat×Option Nat)) (o8:Option W),yW M n nm ps S sz lk/\(∀p∈ps,p.m.length<=50)/\ρ=[lO 0,lO sl,iO c,iO n,some (.str pool),lO s.length,some M.w,some (.str nm),o8,some (gN ps),none,none,none,none,none,none,none]/\z[sl]?=some (.lst (oQ ds))) ?_ ?_
 ·obtain⟨k7,hk7,ek7⟩:=hJ (q:=d7) (n:=8) (by omega)
  have ek7:d7%8=(k7:Int):=ek7
  by_cases h3':k7=3
  ·have te:(d7%8==3)=true:=by rw[ek7,h3'];rfl
   apply qX
   ·exact bY (bP (bP (bP kv cG (i7 s6 hsh6)) cG (fI (by decide))) cG (je te))
   obtain⟨j4,hj4,ej4⟩:=hJ (q:=d4) (n:=2) (by omega)
   have ej4:d4%2=(j4:Int):=ej4
   have esl2:zW (.str (m0.take k4)) none (some (1+d4%2)) s6=.ok (.str (m0.take (min (1+j4) k4))) s6:=by
    rw[As (by show _<=1000000;omega),ej4,show(1:Int)+(j4:Int)=((1+j4:Nat):Int) by omega,v7,List.take_take]
   apply aD
   ·exact bD (Ar kv Ap (Aq (bP cG (bP (bP kv cG (i4 s6 hsh6)) cG (fI (by decide))) eG)) esl2)
   obtain⟨c4,e10⟩:=rj h6 3
   obtain⟨k3,hk3,ek3⟩:=hJ (q:=d2) (n:=21) (by omega)
   have ek3:d2%21=(k3:Int):=ek3
   obtain⟨dt2,hdtl2,hdtp2,e11⟩:=oP c4 300007 (80+k3) (by omega) s6
   obtain⟨ps1,S1,sz1,lk1,f0,f1,f2,f3,f4,e12⟩:=QX (st:=s6++[.lst (dt2.map W.int)]) (nd:=s6.length) (ds:=dt2) (pool:=pool.take 4) bc (by omega) hpt
   obtain⟨m1,m2⟩:=mkl ps1 f3
   apply cU
   ·exact bD (bM (av (bM (av (bM (av kv (av cG aV)) e10 rfl) (av (by rw[show((80+k3:Nat):Int)=80+d2%21 by rw[ek3];omega];exact bP cG (bP (bP kv cG (i2 s6 hsh6)) cG (fI (by decide))) eG) (av cG aV))) e11 rfl) (av (Ar kv Ap (Aq cG) (esl4 _)) aV)) e12 rfl)
   ·refine⟨_,_,rfl,m0.take (min (1+j4) k4),ps1,S1,sz1,lk1,_,⟨f0,f1,by omega,hM,Jm,by omega,by rw[aM];omega,(nmk _).1,(nmk _).2,fun p hp=>by have:=m1 p hp;omega,m2,QY f4 _⟩,m1,rfl,aT hsh6⟩
  ·have te:(d7%8==3)=false:=by rw[ek7,bI];omega
   apply pP
   ·exact bY (bP (bP (bP kv cG (i7 s6 hsh6)) cG (fI (by decide))) cG (je te))
   obtain⟨m1,m2⟩:=mkl ps0 g3
   apply cU
   ·exact vC
   ·refine⟨_,_,rfl,m0.take k4,ps0,S0,sz0,lk0,_,⟨g0,g1,by omega,hM,Jm,by omega,nml,(nmk _).1,(nmk _).2,fun p hp=>by have:=m1 p hp;omega,m2,?_⟩,m1,rfl,hsh6⟩
    refine LC (K:=2^(m0.take k4).length) g0 (by simp) (fun x hx=>by obtain⟨p,_,rfl⟩:=ba.mp hx;exact AV _ _ _) (oY (by decide)) hT Jm ?_
    rw[<- Nat.pow_mul]
    refine Nat.pow_lt_pow_right (by decide) ?_
    have:=lK (aw (m0.take k4).length) (show ps0.length<=2*most (m0.take k4).length by omega)
    omega
 rintro ρ z ⟨nm,ps,S,sz,lk,o8,B,hm50,rfl,hshz⟩
 have LI:=B.l
 have hnl:=B.nl
 have ewy:=Lz (nm:=nm) (ps:=ps) (by omega) (ρ:=[lO 0,lO sl,iO c,iO n,some (.str pool),lO s.length,some M.w,some (.str nm),o8,some (gN ps),none,none,none,none,none,none,none]) (s:=z) rfl rfl
 apply aD
 ·exact xA ewy rfl
 generalize hz1:z++[am.lst (nW (zc nm ps))]=z1
 have hshz1:z1[sl]?=some (.lst (oQ ds)):=by rw[<- hz1];exact aT hshz
 have hwz1:z1[z.length]?=some (.lst (nW (zc nm ps))):=by rw[<- hz1];exact bc
 have hK16:2^nm.length<=16:=aL (d8 (by decide) hnl) (by decide)
 obtain⟨K,hK⟩:∃K,K=2^nm.length:=⟨_,rfl⟩
 have Va:1<=K:=by rw[hK];exact oY (by decide)
 rw[<- hK]at hK16
 have lenS:∀z:List am,dM [.str nm] z=.ok (.int nm.length) z:=fun z=>m6 (by show _<=1000000;omega)
 have eshl:∀z:List am,sD (.int 1) (.int nm.length) z=.ok (.int (K:Nat)) z:=fun z=>by rw[hK];exact FJ (by omega)
 have hchT:∀x∈zc nm ps,x<K:=fun x hx=>by
  obtain⟨p,_,rfl⟩:=ba.mp hx
  rw[hK];exact uQ _ _
 refine yA (fun ρ y=>∃(ch:List Nat) (wl:Nat) (WC:Option W),ch.length=ps.length/\(∀x∈ch,x<K)/\y[wl]?=some (.lst (nW ch))/\ρ=[lO 0,lO sl,iO c,iO n,some (.str pool),lO s.length,some M.w,some (.str nm),o8,some (gN ps),lO wl,WC,none,none,none,none,none]) ?_ ?_
 ·obtain⟨k5,hk5,ek5⟩:=hJ (q:=d5) (n:=4) (by omega)
  have ek5:d5%4=(k5:Int):=ek5
  by_cases h1':k5=1
  ·have te:(d5%4==1)=true:=by rw[ek5,h1'];rfl
   apply qX
   ·exact bY (bP (bP (bP kv cG (i5 z1 hshz1)) cG (fI (by decide))) cG (je te))
   obtain⟨k6,hk6,ek6⟩:=hJ (q:=d6) (n:=ps.length+1) (by omega)
   have ek6:d6%((ps.length:Int)+1)=(k6:Int):=by rw[<- ek6];congr 1
   have pp:(0:Int)<(ps.length:Int)+1:=by omega
   apply aD
   ·exact bD (bP (bP kv cG (i6 z1 hshz1)) (bP (bW kn (ng ps z1)) cG eG) (fI pp))
   rw[ek6]
   have x1:zW (.loc z.length) none (some (k6:Int)) z1=.ok (.loc z1.length) (z1++[.lst (nW ((zc nm ps).take k6))]):=by
    rw[Mj (a_ hwz1),v7];unfold nW;rw[pZ]
   generalize hz2:z1++[am.lst (nW ((zc nm ps).take k6))]=z2 at x1
   have c2':z2[z1.length]?=some (.lst (nW ((zc nm ps).take k6))):=by rw[<- hz2];exact bc
   have hv:(K:Int)-1=((K-1:Nat):Int):=by omega
   have x2:e2 qM (j5 (ak (e2 kS (e2 sD (eI 1) (bE dM (ak (af 7) aB))) (eI 1)) aB)) (e2 kS (bE dM (ak (af 9) aB)) (af 11)) [lO 0,lO sl,iO c,iO n,some (.str pool),lO s.length,some M.w,some (.str nm),o8,some (gN ps),lO z.length,iO (k6:Nat),none,none,none,none,none] z2=.ok (.loc (z2.length+1)) (z2++[.lst [.int ((K-1:Nat):Int)]]++[.lst (nW (List.replicate (ps.length-k6) (K-1)))]):=by
    have hsub:kS (.int (ps.length:Nat)) (.int (k6:Nat)) (z2++[.lst [.int ((K-1:Nat):Int)]])=.ok (.int ((ps.length-k6:Nat):Int)) (z2++[.lst [.int ((K-1:Nat):Int)]]):=by
     rw[show((ps.length-k6:Nat):Int)=(ps.length:Int)-(k6:Int) by omega];exact fI trivial
    have hk1:kS (.int (K:Nat)) (.int 1) z2=.ok (.int ((K-1:Nat):Int)) z2:=by rw[<- hv];exact fI trivial
    have:=Jg (p:=z2.length) (k:=ps.length-k6) (v:=K-1) (bc (s:=z2) (c:=.lst [.int ((K-1:Nat):Int)])) (by omega)
    rw[show(z2++[am.lst [.int ((K-1:Nat):Int)]]).length=z2.length+1 by simp]at this
    exact bP (kZ (av (bP (bP cG (bW kn (lenS z2)) (eshl z2)) cG hk1) aV) (aQ rfl)) (bP (bW kn (ng ps _)) kv hsub) this
   generalize hz3:z2++[am.lst [.int ((K-1:Nat):Int)]]++[.lst (nW (List.replicate (ps.length-k6) (K-1)))]=z3 at x2
   have c3':z3[z2.length+1]?=some (.lst (nW (List.replicate (ps.length-k6) (K-1)))):=by rw[<- hz3,show z2.length+1=(z2++[am.lst [.int ((K-1:Nat):Int)]]).length by simp];exact bc
   have c4':z3[z1.length]?=some (.lst (nW ((zc nm ps).take k6))):=by rw[<- hz3];exact aT (aT c2')
   have lch:(zc nm ps).length=ps.length:=by simp
   apply cU
   ·exact bD (bP (Ar kv Ap (Aq kv) x1) x2 (GR c4' c3' (by unfold nW;simp only[aE,al,aM,gG];show _<=1000000;omega)))
   ·refine⟨_,_,rfl,(zc nm ps).take k6++List.replicate (ps.length-k6) (K-1),z3.length,_,?_,fun x hx=>?_,?_,rfl⟩
    ·rw[aE,aM,gG,lch];omega
    ·rcases aY.mp hx with y|y
     ·exact hchT x (g8 y)
     ·rw[fQ y];omega
    ·rw[bc];unfold nW;rw[bw]
  ·have te:(d5%4==1)=false:=by rw[ek5,bI];omega
   apply pP
   ·exact bY (bP (bP (bP kv cG (i5 z1 hshz1)) cG (fI (by decide))) cG (je te))
   apply cU
   ·exact vC
   ·exact⟨_,_,rfl,zc nm ps,z.length,_,by simp,hchT,hwz1,rfl⟩
 rintro ρ y ⟨ch,wl,WC,hchl,hchK,E1,rfl⟩
 have m58:∀p∈ps,p.m.length<=58:=fun p hp=>by have:=hm50 p hp;omega
 have hchK':∀x∈ch,x<2^nm.length:=by rw[<- hK];exact hchK
 apply aD
 ·exact bD (bM (av kv (av kv kn)) (Cm hnl hchl (by omega) m58 E1) rfl)
 obtain⟨a1,a2,b,hb,a3⟩:=rP B m58 hchl hchK' y
 have mQ:∀q∈jV nm ps ch,q.m.length<=54:=fun q hq=>by have:=Uk (ch:=ch) hm50 hnl q hq;omega
 have BQ:=B.put hchl fun p hp=>aL (b_ _ _) (aL (m58 p hp) (by decide))
 have lQ:=oT (nm:=nm) hchl
 have bQ:=tf (nm:=nm) hchl
 have nQ:=rN (nm:=nm) (M:=M) hchl
 generalize hQ:jV nm ps ch=Q at *
 generalize hrk:s_ (Tm M.tb) (gM M) (ps.map Pl.b) (gO M nm ps) ch []=rk at *
 generalize hcs:qk (Tm M.tb) (gM M) (ps.map Pl.b) (gO M nm ps) []=tt at *
 generalize hff:fin (Tm M.tb) (gM M) (ps.map Pl.b) (gO M nm ps) ch []=ff at *
 have hNK:∀x∈gO M nm ps,x.length=K:=fun x hx=>by obtain⟨p,_,rfl⟩:=ba.mp hx;rw[hK];exact AV _ _ _
 have hNl:(gO M nm ps).length=(ps.map Pl.b).length:=by simp
 have hle:rk+ff<=tt:=by
  rw[<- hrk,<- hcs,<- hff]
  exact IS (Tm M.tb) (gM M) _ _ ch [] hNl (by simpa using hchl) hNK hchK
 apply aD
 ·exact bD (bM (av kv (av kv kn)) a1 rfl)
 apply du
 ·exact qV (xp (bY (Ao kv rfl rfl)) rfl) (bY (Ao kv rfl rfl))
 apply dZ
 have hdue:∀z:List am,vf [.bl b] z=.ok (.int (ff:Nat)) z:=fun z=>by rw[<- hb];cases b<;>rfl
 rcases Jh (by omega) E1 Va hchK with⟨el,hlast⟩|⟨zd,hlat,el⟩
 ·apply aD
  ·exact bD (bM (av kv (av (bP cG (bW kn (lenS y)) (eshl y)) aV)) el rfl)
  apply aD
  ·exact bD (bP kv (bW (av (bM (av kv kn) a3 rfl) aV) (hdue y)) eG)
  rw[<- dL]
  have hlst:rk+ff=tt:=by
   rw[<- hrk,<- hcs,<- hff]
   exact vX (Tm M.tb) (gM M) _ _ ch [] hNl (by simpa using hchl) hNK hlast
  apply kN
  ·exact bY (qW kv rfl)
  apply jR
  ·rw[hlst]
   exact bM (av (bM (av kv (av kv kn)) a2 rfl) kn) (rC _ 39 _) rfl
  ·exact⟨_,_,rfl,rfl⟩
 ·apply aD
  ·exact bD (bM (av kv (av (bP cG (bW kn (lenS y)) (eshl y)) aV)) el rfl)
  generalize hy1:y++[am.lst (nW zd)]=y1
  have hcl':y1[y.length]?=some (.lst (nW zd)):=by rw[<- hy1];exact bc
  obtain⟨la,lc,lms,lzs,le1,le2,le3,le4,le5,le6⟩:=hlat
  have lch':zd.length=ch.length:=by rw[le1,le2];simp[le5]
  have hch':∀x∈zd,x<K:=fun x hx=>by
   rw[le2]at hx
   rcases aY.mp hx with z|z
   ·exact hchK x (by rw[le1];exact bS _ z)
   ·rcases aH.mp z with rfl|z
    ·exact le6
    ·rw[le4 x z];omega
  have hlt:s_ (Tm M.tb) (gM M) (ps.map Pl.b) (gO M nm ps) zd []=rk+ff:=by
   rw[<- hrk,<- hff,le1,le2]
   exact xF (Tm M.tb) (gM M) le3 le4 le5 la _ _ [] hNl (by rw[<- le1];simpa using hchl) hNK
  have a3:∃b:Bool,(if b then 1 else 0)=ff/\xy [M.w,gN Q] y1=.ok (.bl b) y1:=by
   obtain⟨_,_,b',h1,h2⟩:=rP B m58 hchl hchK' y1
   rw[hQ]at h2;rw[hff]at h1
   exact⟨b',h1,h2⟩
  obtain⟨b,hb,a3⟩:=a3
  have hdue:∀z:List am,vf [.bl b] z=.ok (.int (ff:Nat)) z:=fun z=>by rw[<- hb];cases b<;>rfl
  apply aD
  ·exact bD (bP kv (bW (av (bM (av kv kn) a3 rfl) aV) (hdue y1)) eG)
  rw[<- dL]
  apply du
  ·exact bY (qW kv rfl)
  apply dZ
  have mQ58:∀q∈Q,q.m.length<=58:=fun q hq=>by have:=mQ q hq;omega
  have hch'K:∀x∈zd,x<2^nm.length:=by rw[<- hK];exact hch'
  obtain⟨r1,_⟩:=rP BQ mQ58 (show zd.length=Q.length by omega) hch'K y1
  rw[bQ,nQ,hlt]at r1
  apply du
  ·exact xp (bY (bM (av (bM (av kv (av (bM (av kv (av kv kn)) (Cm hnl (show zd.length=Q.length by omega) (by omega) mQ58 hcl') rfl) kn)) r1 rfl) kn) (rC _ 39 _) rfl)) rfl
  apply dZ
  have z0l:qM (.loc y1.length) (.int (Q.length:Nat)) (y1++[am.lst [.int ((0:Nat):Int)]])=.ok (.loc (y1.length+1)) (y1++[am.lst [.int ((0:Nat):Int)]]++[.lst (nW (List.replicate Q.length 0))]):=by
   have:=Jg (p:=y1.length) (k:=Q.length) (v:=0) (bc (s:=y1) (c:=.lst [.int ((0:Nat):Int)])) (by omega)
   rw[show(y1++[am.lst [.int ((0:Nat):Int)]]).length=y1.length+1 by simp]at this
   exact this
  generalize hy2:y1++[am.lst [.int ((0:Nat):Int)]]++[.lst (nW (List.replicate Q.length 0))]=y2 at z0l
  have hcl2:y2[y1.length+1]?=some (.lst (nW (List.replicate Q.length 0))):=by rw[<- hy2,show y1.length+1=(y1++[am.lst [.int ((0:Nat):Int)]]).length by simp];exact bc
  have hzK:∀x∈List.replicate Q.length 0,x<2^nm.length:=fun x hx=>by rw[fQ hx,<- hK];omega
  obtain⟨n1,n2,_⟩:=rP BQ mQ58 (show(List.replicate Q.length 0).length=Q.length by simp) hzK y2
  rw[bQ,nQ,vW (Tm M.tb) (gM M) _ _ _ _ fun x hx=>fQ hx]at n1
  rw[bQ,nQ,hcs]at n2
  apply aD
  ·exact bD (bM (av kv (av kv (av (bP (kZ (av cG aV) (aQ rfl)) (bW kn (ng Q _)) z0l) aV))) (Cm hnl (by simp) (by omega) mQ58 hcl2) rfl)
  apply du
  ·exact xp (bY (bM (av (bM (av kv (av kv kn)) n1 rfl) (av cG aV)) (rC 0 39 _) rfl)) rfl
  apply dZ
  apply aD
  ·exact bD (bM (av kv (av kv kn)) n2 rfl)
  have tlt:decide ((tt:Int)<((rk+ff:Nat):Int))=false:=a8 (by omega)
  apply du
  ·exact qV (xp (bY (Ao kv rfl rfl)) rfl) (qV (bY (Ao kv rfl rfl)) (bY (bP kv kv (jQ tlt))))
  apply dZ
  have a2':tY [M.w,gN Q,.str nm] y2=.ok (.int (tt:Nat)) y2:=by
   obtain⟨_,h2,_⟩:=rP B m58 hchl hchK' y2
   rw[hQ,hcs]at h2;exact h2
  apply bC
  ·exact bM (av (bM (av kv (av kv kn)) a2' rfl) kn) (rC _ 39 _) rfl
  ·exact⟨_,_,rfl,rfl⟩
theorem all_mk{l:PySem.W.OpenLaw}{w:World}{fa:Addr}(X:K.In h)(G:h.Ns mainGlobals mg)(WW:mg "law"=some (.ref fa))
  {Cq:Addr} {Q6 Jp:Option Addr} {Q8:Array (Option Value)} {Q_ Jy Jl Jq Cv Jr:Value} {cO:Addr} {qp:Addr} {wQ:Tok}
  (ET:DefIn K "come_to" PQ)
  (wa:DefIn K "empty_counts" PR)
  (CF:DefIn K "let_many" PU)
  (Cr:DefIn K "in_order" PV)
  (Jo:DefIn K "two_to" PX)
  (AX:DefIn K "letter_of" PY)
  (Cu:DefIn K "marks_of" PZ)
  (Cz:DefIn K "has_left" P0)
  (A2:DefIn K "has_right" P1)
  (Cn:DefIn K "links_of" GW)
  (Jw:DefIn K "ups_of" GY)
  (EX:DefIn K "up_from" G1)
  (Cy:DefIn K "sizes_of" G4)
  (yZ:DefIn K "room_below" G6)
  (wj:DefIn K "good_weights" G8)
  (wg:DefIn K "check_filled" G_)
  (E0:DefIn K "without" G')
  (y7:DefIn K "numbers_at" Hb)
  (CB:DefIn K "times_of" Hd)
  (A7:DefIn K "counts_at" Hf)
  (wN:DefIn K "pair_weight" Hh)
  (uv:DefIn K "right_weights" Hj)
  (v_:DefIn K "left_weights" Hl)
  (wS:DefIn K "parts_begun" Ho)
  (Cw:DefIn K "fillings" Hr)
  (wf:DefIn K "filling_rank" Ht)
  (Ba:DefIn K "_law_cell" Hv)
  (y6:DefIn K "_law_mixed" Hy)
  (y8:DefIn K "_law_draws" HA)
  (A9:DefIn K "_law_same" HD)
  (AW:DefIn K "_law_pool" HG)
  (y9:DefIn K "_law_marks" HI)
  (A4:DefIn K "_law_tree" HK)
  (we:DefIn K "_law_machine" HM)
  (wP:DefIn K "_law_letter" HP)
  (Cs:DefIn K "_law_run" HR)
  (A_:DefIn K "_law_lets" HU)
  (Co:DefIn K "_law_put" HX)
  (wR:DefIn K "_law_row_of" HZ)
  (y4:DefIn K "_law_later" H_)
  (Nv:nsIn K mainGlobals "law"=some (some (.ref Cq)))
  (UG:K.lookup Cq=some ⟨Q_,Q6,.func (fnOf "law" "law" (hG qZ) (gi qZ) (aR qZ) .none Jy Jl Jq Jp Cv Jr),Q8⟩)
  (EY:codeIn K Cv "law"=true)
  (Uw:keepIn K (.ref Cq)=true)
  (jW:nsIn K mainGlobals "Course"=some (some (.ref cO)))
  (cl_Course:L2.Cls K cO)
  (uu:findIn K (.ref cO) "begun"=some none)
  (tq:findIn K (.ref cO) "counts"=some none)
  (ur:findIn K (.ref cO) "links"=some none)
  (rS:findIn K (.ref cO) "machine"=some none)
  (uz:findIn K (.ref cO) "marks"=some none)
  (ut:findIn K (.ref cO) "names"=some none)
  (rR:findIn K (.ref cO) "numbers"=some none)
  (uy:findIn K (.ref cO) "rooms"=some none)
  (uo:findIn K (.ref cO) "times"=some none)
  (v8:findIn K (.ref cO) "tree"=some none)
  (wO:findIn K (.ref cO) "ups"=some none)
  (rQ:findIn K (.ref cO) "weights"=some none)
  (EZ:makesIn K cO=true)
  (EW:keepIn K (.ref cO)=true)
  (dm_Course___init__:DefM K cO "Course.__init__" "__init__" jh)
  (dm_Course_counts_below:DefM K cO "Course.counts_below" "counts_below" gE)
  (dm_Course_let_all:DefM K cO "Course.let_all" "let_all" jF)
  (dm_Course_begin_part:DefM K cO "Course.begin_part" "begin_part" iq)
  (dm_Course_room_by:DefM K cO "Course.room_by" "room_by" jG)
  (dm_Course_offers:DefM K cO "Course.offers" "offers" j7)
  (dm_Course_choose:DefM K cO "Course.choose" "choose" j8)
  (CA:nsIn K mainGlobals "TooGreat"=some (some (.ref qp)))
  (x_TooGreat:excIn K qp Td Mf=true)
  (Re:nsIn K mainGlobals "bool"=some none)
  (A':nsIn K mainGlobals "enumerate"=some none)
  (Ux:nsIn K mainGlobals "int"=some none)
  (yY:nsIn K mainGlobals "isinstance"=some none)
  (Uq:nsIn K mainGlobals "len"=some none)
  (Q1:nsIn K mainGlobals "list"=some none)
  (LK:nsIn K mainGlobals "range"=some none)
  (Cp:nsIn K mainGlobals "reversed"=some none)
  (UI:nsIn K mainGlobals "set"=some none)
  (Jv:nsIn K mainGlobals "sorted"=some none)
  (UF:nsIn K mainGlobals "str"=some none)
  (Us:nsIn K mainGlobals "sum"=some none)
  (LG:nsIn K mainGlobals "tuple"=some none)
  (Ul:nsIn K mainGlobals "zip"=some none)
  (wT:nsIn K mainGlobals "MOST_FILLED"=some (some (.int 4 wQ))) :
  ∃fd:FuncData,(∀(s:Shared) (v:Value),BindsTo s fd ⟨[v],[]⟩ [("_law_script",v)])/\∀base:Heap,K.In base->base.Ns mainGlobals mg->cX l.prog w K mg base (iJ l.prog w) 41 fa fd Ib (jb K mg 1 f_q41):=by
 have e:=WW.symm.trans (mg_of X G Nv)
 cases e
 obtain⟨_,_,xK,Bb⟩:=A9.fn X G
 have F_q41:=xZ (st:=qZ) UG EY Uw
 have m_q41:=mg_of X G Nv
 have B:Bl mg:=⟨mg_none_of X G Re,mg_none_of X G A',mg_none_of X G Ux,mg_none_of X G yY,mg_none_of X G Uq,mg_none_of X G Q1,mg_none_of X G LK,mg_none_of X G Cp,mg_none_of X G UI,mg_none_of X G Jv,mg_none_of X G UF,mg_none_of X G Us,mg_none_of X G LG,mg_none_of X G Ul⟩
 have C:Cls K mg:=⟨⟨qp,mg_of X G CA,x_TooGreat⟩⟩
 have O:Ow K mg:=⟨⟨cO,mg_of X G jW,cl_Course,fun f hf=>by simp only[aH,ii,r4]at hf;rcases hf with rfl|rfl|rfl|rfl|rfl|rfl|rfl|rfl|rfl|rfl|rfl|rfl;(· exact uu);(· exact tq);(· exact ur);(· exact rS);(· exact uz);(· exact ut);(· exact rR);(· exact uy);(· exact uo);(· exact v8);(· exact wO);(· exact rQ)⟩⟩
 have Gg:Gc K mg:=⟨⟨_,.int 4,mg_of X G wT,⟨_,rfl⟩,fun μ H=>.int⟩⟩
 refine⟨fnOf "law" "law" (hG qZ) (gi qZ) (aR qZ) .none Jy Jl Jq Jp Cv Jr,fun s v=>.of_eq rfl,fun base _ _=>?_⟩
 have qd:=@Pu l.prog w K mg base
 have LF:=qd ET X G fun F=>TK F B  
 have Um:=qd wa X G fun F=>TL F B  
 have UB:=qd CF X G fun F=>TM F B  
 have Uo:=qd Cr X G fun F=>TN F B  
 have Uy:=qd Jo X G fun F=>TR F B  
 have LM:=qd AX X G fun F=>TV F   
 have LH:=qd Cu X G fun F=>TX F B  
 have Ut:=qd Cz X G fun F=>TY F   
 have UH:=qd A2 X G fun F=>TZ F   
 have xN:=qd Cn X G fun F=>P3 F B  Ut UH
 have NN:=qd Jw X G fun F=>P4 F B  xN
 have Nz:=qd EX X G fun F=>P5 F   
 have Np:=qd Cy X G fun F=>P6 F B  xN
 have DS:=qd yZ X G fun F=>P8 F   
 have Nw:=qd wj X G fun F=>P9 F   
 have Nr:=qd wg X G fun F=>P_ F B Gg C  
 have DU:=qd E0 X G fun F=>P' F   
 have NK:=qd y7 X G fun F=>Qa F B  LM LH Uy DU
 have NH:=qd CB X G fun F=>Qb F   
 have Nm:=qd A7 X G fun F=>Qc F   LF
 have DR:=qd wN X G fun F=>Qd F B  
 have NO:=qd uv X G fun F=>Qe F B  DR
 have Nu:=qd v_ X G fun F=>Qf F B  LF DR
 have Nt:=qd wS X G fun F=>Qg F B  Np
 have df:l9 l.prog w K mg base 2 "Course" "counts_below" 2 bO:=sL dm_Course_counts_below (mg_of X G jW) cl_Course (fun F=>m9 F O Um)
 have gP:GG l.prog w K mg base 5 "Course" 4 dD:=PB dm_Course___init__ (mg_of X G jW) EZ EW (fun F=>qe F B O df Nr Nm xN NK Nt NH NN)
 have mD:l9 l.prog w K mg base 3 "Course" "let_all" 1 fZ:=sL dm_Course_let_all (mg_of X G jW) cl_Course (fun F=>q9 F B O df UB)
 have ko:l9 l.prog w K mg base 3 "Course" "begin_part" 2 dH:=sL dm_Course_begin_part (mg_of X G jW) cl_Course (fun F=>oO F O df Nw Nu NO DS Nz)
 have hX:l9 l.prog w K mg base 2 "Course" "room_by" 3 dv:=sL dm_Course_room_by (mg_of X G jW) cl_Course (fun F=>q_ F O DS)
 have nR:l9 l.prog w K mg base 4 "Course" "offers" 1 gp:=sL dm_Course_offers (mg_of X G jW) cl_Course (fun F=>sR F B O ko hX)
 have nP:l9 l.prog w K mg base 3 "Course" "choose" 2 fE:=sL dm_Course_choose (mg_of X G jW) cl_Course (fun F=>sU F B O hX Uo LH DU)
 have Nx:=qd Cw X G fun F=>Qh F   gP mD
 have Ny:=qd wf X G fun F=>Qi F B  gP nP nR LM
 have NM:=qd Ba X G fun F=>Qj F B  
 have NG:=qd y6 X G fun F=>Ql F   
 have DT:=qd y8 X G fun F=>Qm F B  NG
 have Jn:=Di (P:=l.prog) (w:=w) (base:=base) xK Bb B  40
 have ND:=qd AW X G fun F=>Qn F B  DT
 have xM:=qd y9 X G fun F=>Qo F B  
 have Nn:=qd A4 X G fun F=>Qp F B  xM
 have NC:=qd we X G fun F=>Qq F B  
 have DQ:=qd wP X G fun F=>Qr F B  
 have NA:=qd Cs X G fun F=>Qs F   DQ
 have NF:=qd A_ X G fun F=>Qt F B  NA
 have NE:=qd Co X G fun F=>Qu F B  
 have No:=qd wR X G fun F=>Qw F B  xM
 have NJ:=qd y4 X G fun F=>Qx F B  
 exact Qy F_q41 B  NM DT NJ NF DQ NC xM ND NE No Jn Nn Ny Nx
end P
end
namespace PySem.W.Fast
def tw14250056378112056703:=tv0
def tw8370738582998983900:=tv0
def tw12827284604792922712:=tv0
def tw11763726696136119800:=tv0
def tw16345530830519095574:=tv0
def tw2441846556063732501:=tv0
def tw2183486990311986162:=tv0
def tw1477488203638120079:=tv0
def tw16296702411246201486:=tv0
def tw4304512353351711531:=tv0
def tw6869234672770208904:=tv0
def tw7893900917486729959:=tv0
def tw5847564673223507623:=tv0
def tw3471370465834993895:=tv0
def tw10420139954479053959:=tv0
def tw7176482918353489574:=tv0
def tw13687454026954463109:=tv0
def tw11010087896007173539:=tv0
def tw10819678010182227650:=tv0
def tw17750931104119224794:=tv0
def tw4601693133106001915:=tv0
def tw824169218001538019:=tv0
def tw8962532973439350574:=tv0
def tw11550314243890021974:=tv0
def tw8512862043971489156:=tv0
def tw14039183546658880826:=tv0
def tw17197591079265097568:=tv0
def tw5370545627382709521:=tv0
def tw12184308115009790275:=tv0
def tw8191943490747470411:=tv0
def tw1478769116222152973:=tv0
def tw9361335385184346188:=tv0
def tw3949795367306483623:=tv0
def tw9447245490118712342:=tv0
def tw17101659470963518144:=tv0
def tw6844192402923543049:=tv0
def tw15569086436227696633:=tv0
def tw670885277092456106:=tv0
def tw4780768936527936838:=tv0
def tw7627850949434103335:=tv0
def tw9009743311192811192:=tv0
def tw5585594670540209598:=tv0
def tw1029376704736372963:=tv0
def tw12704351096501184554:=tv0
def tw13674549267849104478:=tv0
def tw9896232236611810023:=tv0
def tw5415584210619916075:=tv0
def tw13307416772813774417:=tv0
def tw1663801304298502366:=tv0
def tw12797725942244327584:=tv0
def tw16724688370324615665:=tv0
def tw11893461568794118309:=tv0
def tw14943223776616278374:=tv0
def tw2051067417354656526:=tv0
def tw5971791865710417389:=tv0
def tw11452996693824468971:=tv0
def tw14100732746407329667:=tv0
def tw9125490552348640998:=tv0
def tw14410707958356175138:=tv0
def tw17418442004247325283:=tv0
def tw13145760994716553871:=tv0
def tw13591073455238021180:=tv0
def tw11803011312816151316:=tv0
def tw2689714540829336778:=tv0
def tw3974877713876849185:=tv0
def tw13050715669626034666:=tv0
def tw3275187078720246729:=tv0
def tw5113635961776978235:=tv0
def tw4818010762956818124:=tv0
def tw74244360147503348:=tv0
def tw6062433049129689608:=tv0
def tw1592311328365512970:=tv0
def tw4811934840386062483:=tv0
def tw4009611154440275140:=tv0
def tw16611059977432699884:=tv0
def tw9928666229264973480:=tv0
def tw13619677988503708303:=tv0
def tw3008816615989806663:=tv0
def tw2437025577418212347:=tv0
def tw12586880877919250565:=tv0
def tw1551272139992129063:=tv0
def tw13404657753144834459:=tv0
def tw9588150732448933979:=tv0
def tw16002462655373993997:=tv0
def tw14973879558577579826:=tv0
def tw15536344747335070139:=tv0
def tw6601496672867896157:=tv0
def tw10080261554195941410:=tv0
def tw12753398624073405319:=tv0
def tw15921680784174671796:=tv0
def tw9839703773894671922:=tv0
def tw16080442940176805172:=tv0
def tw11889858584442173279:=tv0
def tw4379233274706998352:=tv0
def tw3848729138490946346:=tv0
def tw14948628127724344390:=tv0
def tw10497925118190795422:=tv0
def tw6224537250816240349:=tv0
def tw16974039762544125341:=tv0
def tw4315586466218574395:=tv0
def tw15117171855158688210:=tv0
def tw11860921047990147195:=tv0
def tw393706618863184501:=tv0
def tw14686751643151662797:=tv0
def tw7579697914973963149:=tv0
def tw13904789297407736272:=tv0
def tw9823615960715674394:=tv0
def tw9752700119853582887:=tv0
def tw4611141625795751490:=tv0
def tw13470557768385824657:=tv0
def tw844095608911097700:=tv0
def tw3875777449400013779:=tv0
def tw479975684286808283:=tv0
def tw16224426117573564992:=tv0
def tw3421057809221262392:=tv0
def tw16043389699944140676:=tv0
def tw4696425546282450901:=tv0
def tw4643598461028654221:=tv0
def tw314418595245370189:=tv0
def tw9338434603755793530:=tv0
def tw16917057755521306134:=tv0
def tw6841885930934155803:=tv0
def tw172010268374311307:=tv0
def tw16723924131619191549:=tv0
def tw8502538471523729258:=tv0
def tw3003114186624643639:=tv0
def tw17574333527338906873:=tv0
def tw12884684613570729881:=tv0
def tw16593914103178706536:=tv0
def tw13950562500412213614:=tv0
def tw8541156184614215397:=tv0
def tw3233698661655996578:=tv0
def tw8274071725517386845:=tv0
def tw6099273431622435112:=tv0
def tw13619827288286206061:=tv0
def tw4761522965151166693:=tv0
def tw6460200006625081048:=tv0
def tw14386670272504148244:=tv0
def tw2319104872180857522:=tv0
def tw9290224838990780902:=tv0
def tw10846104240582317987:=tv0
def tw14442276293456601576:=tv0
def tw18022531081832933785:=tv0
def tw2007392230147007914:=tv0
def tw11244626747587723368:=tv0
def tw2434013016136675689:=tv0
def tw14224664473305725817:=tv0
def tw12817569801664404492:=tv0
def tw15419027322026451466:=tv0
def tw1205328165096652486:=tv0
def tw7600454277309833549:=tv0
def tw16000689289976704254:=tv0
def tw16648414899376991981:=tv0
def tw10315897436574952474:=tv0
def tw5962748589960738539:=tv0
def tw11089606527510945686:=tv0
def tw17628736758089915844:=tv0
def tw4234813125916533382:=tv0
def tw6795860371813275722:=tv0
def tw6805907260646292160:=tv0
def tw12670229522902319991:=tv0
def tw2193900317905822707:=tv0
def tw14516705736295819353:=tv0
def tw7677321804637180661:=tv0
def tw972677727072255606:=tv0
def tw584243808424708409:=tv0
def tw4020746088041752552:=tv0
def tw16048634875773758275:=tv0
def tw14106185937598733345:=tv0
def tw1070569175979145420:=tv0
def tw8880318948337166882:=tv0
def tw5560382595526967835:=tv0
def tw4155561082795397704:=tv0
def tw17050357772206945051:=tv0
def tw13554958637777982401:=tv0
def tw11827430300062049100:=tv0
def tw14448141145788713650:=tv0
def tw13878438116115570798:=tv0
def tw11466392799956882701:=tv0
def tw9395317810580316181:=tv0
def tw2822056026058637878:=tv0
def tw1049891885914945071:=tv0
def tw7578771896870111763:=tv0
def tw16697151290724089736:=tv0
def tw10009139830017825957:=tv0
def tw5210898023668210114:=tv0
def tw6976595921935085661:=tv0
def tw17821071471128149291:=tv0
def tw9442586783627317051:=tv0
def tw8026867407875181639:=tv0
def tw2740769588975030866:=tv0
def tw2247083162139251917:=tv0
def tw7742795897801074703:=tv0
def tw8209266627568154536:=tv0
def tw4160951335125752705:=tv0
def tw14920670896835173590:=tv0
def tw7206948685400574349:=tv0
def tw16814369389154713996:=tv0
def tw979555424423631321:=tv0
def tw17447872793559676213:=tv0
def tw18283804476309601101:=tv0
def tw17029891543756547891:=tv0
def tw13704267893230185945:=tv0
def tw8255078151997957402:=tv0
def tw10187450165424266565:=tv0
def tw5221817864358032260:=tv0
def tw7434040730193821338:=tv0
def tw8282366585061786686:=tv0
def tw12411315943287365946:=tv0
def tw9487055778255732942:=tv0
def tw6184914048063271017:=tv0
def tw9678452446783795981:=tv0
def tw1989310092708072381:=tv0
def tw10956944670073571186:=tv0
def tw3180082597258541756:=tv0
def tw12084768955500841081:=tv0
def tw15596283519682297805:=tv0
def tw14435316557034250085:=tv0
def tw13865518354305360234:=tv0
def tw5840421408690352496:=tv0
def tw8825423839930310594:=tv0
def tw365459235168768:=tv0
def tw12921275679944960835:=tv0
def tw16609697939123667869:=tv0
def tw15663316391960746150:=tv0
def tw9998537673093017957:=tv0
def tw13913664963049063834:=tv0
def tw12709219052575610752:=tv0
def tw100287701442377459:=tv0
def tw513330736746919320:=tv0
def tw15909178274336186247:=tv0
def tw9866458494318595282:=tv0
def tw5623899410381178400:=tv0
def tw17261701617478422093:=tv0
def tw15510288381622805843:=tv0
def tw11488847942363258167:=tv0
def tw2296815544922480506:=tv0
def tw13940955447016770113:=tv0
def tw13152074856093799735:=tv0
def tw11158946519214912806:=tv0
def tw13626308377331399107:=tv0
def tw7762613919748989740:=tv0
def tw1871579242869995966:=tv0
def tw12562218576260478992:=tv0
def tw970583299148654749:=tv0
def tw9361673913544313881:=tv0
def tw9324898325318570979:=tv0
def tw8912834614245960147:=tv0
def tw8864759349268672550:=tv0
def tw8709889552153269184:=tv0
def tw8471523773853182714:=tv0
def tw7918168721063425175:=tv0
def tw7793819905898442369:=tv0
def tw7756256176050297502:=tv0
def tw7709341996990765612:=tv0
def tw7609823306616058697:=tv0
def tw7546939566295000250:=tv0
def tw685542046512570587:=tv0
def tw6708193376977554702:=tv0
def tw6385463696242430404:=tv0
def tw6036523767353286533:=tv0
def tw5954466272952218273:=tv0
def tw5766113368656664374:=tv0
def tw5652093630461731288:=tv0
def tw5469653988522419282:=tv0
def tw5443418126027752021:=tv0
def tw530680290655911165:=tv0
def tw4923247823294785341:=tv0
def tw485959406268294304:=tv0
def tw4847420844834161586:=tv0
def tw4836900228789478753:=tv0
def tw4738257355194946309:=tv0
def tw4641058881598378311:=tv0
def tw4544040562095588912:=tv0
def tw4399440915513959607:=tv0
def tw4169434232299189819:=tv0
def tw3986040021163541225:=tv0
def tw3870550353138151119:=tv0
def tw3573975947937649215:=tv0
def tw3570873460578109503:=tv0
def tw3436656100482264338:=tv0
def tw3362586311078942755:=tv0
def tw3337121645829827048:=tv0
def tw2779262290582575707:=tv0
def tw2777926023317001577:=tv0
def tw2734565231391841199:=tv0
def tw2635084557223709466:=tv0
def tw2503425674577298875:=tv0
def tw2341084997239436296:=tv0
def tw18187606560285420659:=tv0
def tw18112663342925229759:=tv0
def tw18105356454389885974:=tv0
def tw18023910402142631018:=tv0
def tw17818318613076973010:=tv0
def tw17731803363364244924:=tv0
def tw17641311753291016703:=tv0
def tw17047085029834183392:=tv0
def tw16902747200403109199:=tv0
def tw16787405964702091440:=tv0
def tw16713613834222822088:=tv0
end PySem.W.Fast
open PySem PySem.W PyProof.Rows
set_option maxRecDepth 100000 in
set_option maxHeartbeats 0 in
theorem PySem.Challenge.cw_trunksay_k61_next_filling_holds : PySem.Challenge.rw_trunksay_k61_next_filling.Holds := by
 w_on; o_law; k_head; (case hw => w_witness2)
 k_fill
 refine L2.walkW (l := PySem.Challenge.rw_trunksay_k61_next_filling) (k := 41) (x := "_law_script") (G := P.f_q41) rfl rfl ⟨rfl, by decide, by decide⟩ (fun w h Y => PySem.W.kIn_of Y) ?F P.law_ok
 case F =>
  intro w mg fa h KX G hmg
  refine' P.all_mk KX G hmg ?_ ?_ ?_ ?_ ?_ ?_ ?_ ?_ ?_ ?_ ?_ ?_ ?_ ?_ ?_ ?_ ?_ ?_ ?_ ?_ ?_ ?_ ?_ ?_ ?_ ?_ ?_ ?_ ?_ ?_ ?_ ?_ ?_ ?_ ?_ ?_ ?_ ?_ ?_ ?_ ?_ ?_ ?_ ?_ ?_ ?cl_Course ?_ ?_ ?_ ?_ ?_ ?_ ?_ ?_ ?_ ?_ ?_ ?_ ?_ ?_ ?dm_Course___init__ ?dm_Course_counts_below ?dm_Course_let_all ?dm_Course_begin_part ?dm_Course_room_by ?dm_Course_offers ?dm_Course_choose ?_ ?x_TooGreat ?_ ?_ ?_ ?_ ?_ ?_ ?_ ?_ ?_ ?_ ?_ ?_ ?_ ?_ ?_
  any_goals (refine' L2.DefIn.mk ?a ?l ?c ?k; (case a => k_is); (case l => k_is); (case c => k_is); (case k => k_is))
  any_goals k_is
  (case cl_Course => exact ⟨by kernel_rfl, by kernel_rfl, by kernel_rfl, by first | k_is | kernel_rfl⟩)
  (case dm_Course___init__ => (refine' L2.DefM.mk ?a ?i ?l ?c ?k; (case a => k_is); (case i => first | k_is | kernel_rfl); (case l => k_is); (case c => k_is); (case k => k_is)))
  (case dm_Course_counts_below => (refine' L2.DefM.mk ?a ?i ?l ?c ?k; (case a => k_is); (case i => first | k_is | kernel_rfl); (case l => k_is); (case c => k_is); (case k => k_is)))
  (case dm_Course_let_all => (refine' L2.DefM.mk ?a ?i ?l ?c ?k; (case a => k_is); (case i => first | k_is | kernel_rfl); (case l => k_is); (case c => k_is); (case k => k_is)))
  (case dm_Course_begin_part => (refine' L2.DefM.mk ?a ?i ?l ?c ?k; (case a => k_is); (case i => first | k_is | kernel_rfl); (case l => k_is); (case c => k_is); (case k => k_is)))
  (case dm_Course_room_by => (refine' L2.DefM.mk ?a ?i ?l ?c ?k; (case a => k_is); (case i => first | k_is | kernel_rfl); (case l => k_is); (case c => k_is); (case k => k_is)))
  (case dm_Course_offers => (refine' L2.DefM.mk ?a ?i ?l ?c ?k; (case a => k_is); (case i => first | k_is | kernel_rfl); (case l => k_is); (case c => k_is); (case k => k_is)))
  (case dm_Course_choose => (refine' L2.DefM.mk ?a ?i ?l ?c ?k; (case a => k_is); (case i => first | k_is | kernel_rfl); (case l => k_is); (case c => k_is); (case k => k_is)))
  (case x_TooGreat => k_exc)
