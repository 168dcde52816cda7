import PyProof.Rows.All
import Wide.All
import OpenK.AllK
import Wide.FinOn
import Lean
import PyProof.EqAt
import PyProof.EqKinds
import PyProof.TupleCall
import PyProof.StrLawsIn
import PyProof.StationsW
import PyProof.NeData
import OpenK.KOwn
import PyProof.NsDelKeeps
import PyProof.ExcArgsOwn
import PyProof.ExcAttrAll.ValueError
import PyProof.IsiH_tuple
import KE.KIsAll
import PyProof.CollectStr
import PyProof.ZipIter
import PyProof.Rows.ZipGen
import PyProof.JoinWalk
import PyProof.CollectIter
import PyProof.EnumMake
import PyProof.SumAny
import PyProof.DictTruth
import KE.KDictList
import KE.KNest
import KE.KEqDict
import PyProof.ListRange
import KE.KEqSeq
import PyProof.Rows.SetFrom
import PyProof.ListMulRoad
import PyProof.AttrMissHeap
import PyProof.ListNew
import PySem.Challenge.RW_trunksay_k62_chances
set_option Elab.async false
set_option linter.all false
set_option genSizeOf false
set_option maxRecDepth 100000

def tv0:=trivial
set_option hygiene false
local macro_rules|`(tactic|walk_at "1")=>`(tactic|refine⟨μ,ρ,st,l,RK.bind h l fun μ1 st1 x v H1 p1 x1 l1 q1 h1=>?_⟩)
local macro_rules|`(tactic|walk_at "2")=>`(tactic|obtain⟨μ,ρ,st,l,h⟩:=h)
local macro_rules|`(#[0])=>`(by first|assumption|exact Nat.ne_of_gt ‹_›|exact Nat.ne_of_lt ‹_›|exact Nat.le_of_lt ‹_›|exact Nat.ne_of_gt (Nat.lt_succ_of_lt ‹_›)|exact Nat.ne_of_gt (Nat.lt_add_right _ ‹_›)|exact Nat.lt_of_lt_of_le ‹_› ‹_›|omega)
local macro_rules|`(#[1])=>`(by decide)
local macro_rules|`(#[2])=>`(fw X nm scope (cellsFrom (G2.objs.size+1) scope.names []++cl) G2.objs.size s2 H1 fp)
local macro_rules|`(#[3])=>`(Option Nat×Option Nat)
local macro_rules|`(#[4])=>`(model X.prog X.w)
local macro_rules|`(#[5])=>`(model prog w)
local macro_rules|`(#[6])=>`(.ListComp oq [⟨tg,dw,lg,0⟩] scope pos)
local macro_rules|`(#[7])=>`(de X nm scope cl C s0 H0 fp)
local macro_rules|`(#[8])=>`(gy M nm ps)
local macro_rules|`(#[9])=>`(by simp)
local macro_rules|`(#[11])=>`(s.heap.objs.size+1)
local macro_rules|`(#[12])=>`(List.range ps.length)
local macro_rules|`(#[13])=>`(by decide +kernel)
set_option hygiene true
open Array renaming length_toList→dX,getElem?_toList→fN,getElem?_eq_getElem→iC,getD_eq_getD_getElem?→lE
open Bool renaming and_eq_true→b_,and_true→cK,false_ne_true→cP,not_eq_true'→gZ,eq_iff_iff→iY,or_eq_true→oA
open Function renaming comp_def→dS
open Int renaming toNat_natCast→aJ,natCast_mul→dE,natCast_add→gQ,emod_nonneg→iX,zero_add→jO,fdiv_eq_ediv_of_nonneg→lY,emod_lt_of_pos→l8,mul_comm→nZ
open LawfulBEq renaming eq_of_beq→ng
open List renaming getElem?_eq_some_iff→ac,getElem?_eq_getElem→ae,getElem?_map→ag,prefix_refl→aj,length_map→ak,getD_eq_getElem?_getD→ao,mem_of_getElem?→aw,getElem?_eq_none→az,getElem?_range→aF,mem_append_right→aH,mem_cons→aM,mem_map→aO,map_cons→aP,getElem?_append_left→aQ,length_append→aT,mem_range→aU,mem_cons_of_mem→aV,size_toArray→aW,append_assoc→aY,mem_append→aZ,map_map→a9,length_cons→a_,length_take→be,drop_eq_getElem_cons→bj,prefix_append→bp,getElem?_set_self→bq,mem_singleton→bv,append_nil→bC,mem_filter→bE,map_append→bG,ext_getElem?→bM,pairwise_cons→bQ,take_of_length_le→bS,mem_cons_self→bV,map_congr_left→bZ,getElem?_set_ne→b8,find?_cons→ca,length_range→cb,length_filter_le→cf,take_length→cu,mem_append_left→cw,replicate_succ→cH,take_append_of_le_length→cN,length_singleton→cW,flatten_cons→cZ,getElem?_append_right→dh,range_succ_eq_map→dv,getElem?_take_of_lt→dC,drop_zero→dD,getElem_mem→dJ,getElem?_of_mem→dL,drop_of_length_le→dU,getElem?_reverse→ei,filter_cons→eG,nodup_cons→eY,foldl_cons→eZ,nil_append→fS,filterMap_cons→gb,length_eq_zero_iff→gk,eq_nil_of_length_eq_zero→gr,length_nil→gK,filter_map→gP,length_drop→io,not_mem_nil→iw,pairwise_iff_getElem→iD,length_reverse→iL,flatMap_append→iM,length_set→iV,lookup_append→jd,getElem?_replicate→jn,map_id→jo,filter_cons_of_pos→jq,nodup_append→jK,length_eq_one_iff→jM,take_append_drop→jW,lookup_cons→j_,sum_cons→km,mem_of_mem_take→kJ,range_succ→kY,length_pos_iff→lj,mem_filterMap→lX,take_left→l7,getElem?_take→l_,perm_ext_iff_of_nodup→md,any_eq_false→mE,take_sublist→mF,find?_append→mG,any_cons→mO,getElem_map→nq,mem_flatMap→nv,filter_cons_of_neg→nw,map_nil→nS,drop_eq_nil_of_le→nT,map_set→n5,of_mem_zip→oy,forIn_cons→oz,length_replicate→oR,set_getElem_self→oX,take_zero→pN
open List.Perm renaming refl→h9,append_left→oU
open Nat renaming le_refl→ax,le_of_ble_eq_true→aE,lt_of_lt_of_le→aL,le_trans→aR,ne_of_lt→a8,lt_irrefl→cr,zero_le→cM,lt_succ_self→cU,lt_succ_of_lt→c5,le_succ→d9,pow_le_pow_right→eP,add_left_cancel→fq,zero_add→fB,ne_of_gt→fU,le_of_lt→gC,eq_zero_or_pos→gF,add_zero→iu,pos_of_mul_pos_right→iR,lt_of_le_of_lt→jc,not_lt→je,pos_of_mul_pos_left→jp,mul_comm→jF,lt_or_ge→jJ,lt_of_succ_lt_succ→jN,div_div_eq_div_mul→jP,not_lt_zero→kW,succ_mul→ly,zero_mul→lF,pow_succ→lG,add_sub_cancel→l9,mul_le_mul→ma,mul_pos→mH,succ_ne_self→nn,add_comm→nR,sub_zero→nY,min_eq_left→oF,mul_one→pO,add_assoc→qA,mul_zero→sJ
open Option renaming map_eq_some_iff→aC
open Option.some renaming inj→aG
open PyProof renaming noPylong_small→nO
open PyProof.Rows renaming callWith_type1→b6,slot_tuple_getitem→d_,callWith_builtin1→j9,subscriptTail_builtinR→nP,boot_enumerate→pM,Constant_none→qu
open PyProof.Rows.F renaming plain_set_update_loop→fm,entry_set_update_loop→iK
open PySem renaming wpAny_bind→aa,wpAny_pure→aq,wpAny_callSpecial?_slot→bn,wpAny_call_entry→br,wpAny_loadPart'→bF,wpAny_newObj_type→bO,wpAny_field→b9,wpAny_setField_rec→cC,isSubtype_type→cS,wpAny_holding→dO,wpAny_attempt→dP,wpAny_seqItems→dR,builtinLookup_eq_fast→eh,wpAny_isInstance→eF,wpAny_mono→eX,wpAny_Call_Name_kw→fK,wpAny_passesOwn→fR,wpAny_truthy_bool→fT,wpAny_of_eq→fW,wpAny_setState_of→fX,wpAny_setEntries_of→gc,wpAny_pyIter_tuple→gD,typeLookup_type→gN,codeAny_builtin→gO,wpAny_pyIter_list→gX,isSubtype_stop→hX,codeAny_mono→im,wpAny_specialOf→iW,typeIs_str→jb,wpAny_rule→jf,wpAny_setField→jG,wpAny_pyIter_enum→jI,wpAny_pyIter_slot→jL,plainId_quiet→kj,sizeLine_eq→kH,wpAny_execs_nil→kT,wpAny_typeOf→lx,tupleKind_room_in1→lZ,wpAny_letOwnedTupleGo_enum→l0,entryFor_alias→l5,wpAny_fieldsOf→l6,wpAny_onRaise→mP,noFill_tuple_add→m_,wpAny_Call_method0_late→nh,wpAny_pyNext_enum_itemD→ni,wpAny_askSetting→no,wpAny_pyIter_rangeiter→nN,call_meets→nQ,callType_new→nV,wpAny_ite_split→oB,wpAny_updateSeq→oE,wpAny_isTrue_Compare1→oQ,wpAny_nextOf_list_end→oV,wpAny_standAt→qv,seq_tuple_add→qw,wpAny_handled→qx,wpAny_call→qV,concat_meets→sD,seqIndex_neg→sF,call_meetsIn→sH,putSet_of→tN
open PySem.Around renaming under_plainId→fY
open PySem.Calls renaming spliced_cons→fJ,callWith_builtin→gE,spliced_nil→gY,evalArgs_plain→kI,Name_function_global→lW,call_function_entry→me
open PySem.F renaming slot_tuple_iterator_next→fL,slot_enumerate_next→gU,args_tuple_iterator_next_1→kU,slot_zip_next→kX,entry_tuple_iterator_next→lD,args_enumerate_next_1→nj,entry_enumerate_next→nU,typeCall_enumerate_1→nX,newCall_enumerate_1→oS,entry_enumerate_new→oT
open PySem.Heap renaming get?_push_of_some→al,get?_push_size→ar,lt_size→aD,size_push→bA,get?_update_other→cx,get?_update_self→cF,get?_push_ne→jH
open PySem.Heap.SameBut renaming update→fj
open PySem.Obj renaming data_mapFields→fM,isFreed_of_fields→jV
open PySem.SeqAt renaming str_beq→qy
open PySem.Value renaming isStrOf_shape→li
def au:=@if_pos
def ay:=@if_neg
def ba:=@decide_eq_true
def bc:=@decide_eq_false
def bf:=@decide_eq_true_iff
def bR:=@beq_eq_false_iff_ne
def dz:=@beq_iff_eq
def g7:=@of_decide_eq_true
def iy:=@decide_eq_decide
def iQ:=@congrArg
def iU:=@if_true
def jg:=@of_decide_eq_false
def j':=@List.any_eq_true
def sE:=@if_false
def sI:=@or_false
set_option compiler.extract_closed false
noncomputable section
variable{us bw:List PySem.Value}{x:Option Nat×Option Nat}{u v:PySem.Value}{a b it C:PySem.Addr}{o e tg dw oq:PySem.Expr}{P prog:PySem.Program}{h h' base:PySem.Heap}{α β:Type}{ah:List (PySem.Addr×PySem.Obj)}{s:PySem.Shared}{g':Array PySem.GenState}{t' i j c n m kk ep q:Nat}{ch fp μ μ':List PySem.Addr}{N ls:List (List Nat)}{M:PySem.Model}{A:PySem.Around}{E Q Qv:PySem.Value->PySem.Shared->Prop}{pos ij p fI p2 dM tp:PySem.Pos}{op:PySem.CmpOp}{K:PySem.W.Frag}{es lg kD:List PySem.Expr}{g:PySem.Value->PySem.Value->PySem.Sem PySem.Value}{body:List PySem.Stmt}{f:Option Nat×Option Nat->Option Nat}{mA mg:PySem.Str->Option PySem.Value}{name:PySem.Str}{pl:PySem.Sem Bool}{kw:List (PySem.Str×PySem.Value)}{env:PySem.Env}{fd:PySem.FuncData}{ps ks:List PySem.Str}{kindOf:PySem.Str->Option PySem.NameKind}{scope:PySem.Scope}{T:Nat->Nat->Nat->Nat}{l nm S rs ns:List Nat}{XP:(PySem.Str->Option PySem.Value)->PySem.Heap->Prop}{YP:PySem.World->PySem.Heap->Prop}{cl:List (PySem.Str×PySem.Addr)}{cap:List (Option Nat)}{use:Option (PySem.Value->PySem.Sem Unit)}
open PySem.W (Frag)
open PySem.W (instObj hideAll lookIn plainGet findIn isFn makesIn emptyDict keepIn kia_one fnOf codeIn excIn nsIn mg_of mg_none_of)
namespace L2
open PySem PySem.Spec PyProof.Rows
noncomputable abbrev jQ:=Sum Int Str
def xg:jQ->Value->Bool
 |.inl k,v=>Value.isInt k v
 |.inr x,v=>Value.isStrOf x v
def V7(w:World):jQ->Int
 |.inl k=>hashInt k
 |.inr x=>hashStr w x
theorem fC:∀{k:jQ} {v:Value},xg k v=true->(∃i t,k=Sum.inl i/\v=Value.int i t)\/(∃x t,k=Sum.inr x/\v=Value.str x t)
 |.inl i,v,h=>by
  obtain⟨t,e⟩:=Value.isInt_shape (k:=i) (v:=v) h
  exact .inl ⟨i,t,rfl,e⟩
 |.inr x,v,h=>by
  obtain⟨t,e⟩:=li (x:=x) (v:=v) h
  exact .inr ⟨x,t,rfl,e⟩
theorem Et(i:Int)(t:Tok):xg (.inl i) (.int i t)=true:=by simp[xg,Value.isInt]
theorem Eu(x:Str)(t:Tok):xg (.inr x) (.str x t)=true:=by simp[xg,Value.isStrOf]
theorem Oo(a b:Int):decide ((Sum.inl a:jQ)=Sum.inl b)=(a==b):=by
 by_cases e:a=b
 ·subst e;simp
 ·have h:¬ (Sum.inl a:jQ)=Sum.inl b:=fun q=>e (Sum.inl.inj q)
  rw[bc h]
  exact(bR.mpr e).symm
theorem Op(a b:Str):decide ((Sum.inr a:jQ)=Sum.inr b)=decide (a=b):=by
 by_cases e:a=b
 ·subst e;simp
 ·have h:¬ (Sum.inr a:jQ)=Sum.inr b:=fun q=>e (Sum.inr.inj q)
  rw[bc h,bc e]
theorem Oq(a:Int)(b:Str):decide ((Sum.inl a:jQ)=Sum.inr b)=false:=bc (fun q=>nomatch q)
theorem Os(a:Str)(b:Int):decide ((Sum.inr a:jQ)=Sum.inl b)=false:=bc (fun q=>nomatch q)
def eQ(prog:Program)(w:World):PySem.KeyKind prog w jQ where
 is:=xg
 hash:=V7 w
 inj:=fun v a b ha hb=>by
  rcases fC ha with⟨i,t,rfl,rfl⟩|⟨x,t,rfl,rfl⟩
  ·rcases fC hb with⟨j,u,rfl,e⟩|⟨y,u,rfl,e⟩
   ·injection e with e1 _;rw[e1]
   ·exact nomatch e
  ·rcases fC hb with⟨j,u,rfl,e⟩|⟨y,u,rfl,e⟩
   ·exact nomatch e
   ·injection e with e1 _;rw[e1]
 byValue:=fun k v h=>by
  rcases fC h with⟨i,t,rfl,rfl⟩|⟨x,t,rfl,rfl⟩<;>rfl
 pyHash:=fun hv h=>by
  rcases fC hv with⟨i,t,rfl,rfl⟩|⟨x,t,rfl,rfl⟩
  ·exact wpAny_pyHash_int h
  ·exact wpAny_pyHash_str h
 eqBool:=fun hu hv h=>by
  rcases fC hu with⟨i,t,rfl,rfl⟩|⟨x,t,rfl,rfl⟩
  ·rcases fC hv with⟨j,u,rfl,rfl⟩|⟨y,u,rfl,rfl⟩
   ·rw[Oo]at h;exact wpAny_eqBool_int h
   ·rw[Oq]at h;exact SeqAt.EqAt.int_str i t y u _ _ _ _ h
  ·rcases fC hv with⟨j,u,rfl,rfl⟩|⟨y,u,rfl,rfl⟩
   ·rw[Os]at h;exact SeqAt.EqAt.str_int x t j u _ _ _ _ h
   ·rw[Op]at h;exact wpAny_eqBool_str h
 «strs»:=fun k x t v h=>by
  rcases fC h with⟨i,u,rfl,e⟩|⟨y,u,rfl,e⟩
  ·exact nomatch e
  ·injection e with e1 _
   subst e1
   cases v<;>rfl
theorem zw(prog:Program)(w:World)(i:Int)(t:Tok):(eQ prog w).is (.inl i) (.int i t)=true:=Et i t
theorem zx(prog:Program)(w:World)(x:Str)(t:Tok):(eQ prog w).is (.inr x) (.str x t)=true:=Eu x t
inductive V where
 |non|bl (b:Bool)|int (i:Int)|str (x:Str)|byt (b:Array UInt8)|flt (b:UInt64)|ref (a:Addr)|ty (n:String)
 deriving DecidableEq
def cL:V->Value->Prop
 |.non,u=>u=Value.none
 |.bl b,u=>u=Value.bool b
 |.int i,u=>∃t,u=Value.int i t
 |.str x,u=>∃t,u=Value.str x t
 |.byt b,u=>∃t,u=Value.bytes b t
 |.flt b,u=>∃t,u=Value.float b t
 |.ref a,u=>u=Value.ref a
 |.ty n,u=>u=Value.type n
abbrev cG:List V->List Value->Prop:=Paired cL
theorem cG.length{xs:List V}(r:cG xs us):xs.length=us.length:=Paired.length r
theorem cG.get:∀{xs:List V} {us:List Value} {i:Nat} {x:V},cG xs us->xs[i]?=some x->∃u,us[i]?=some u/\cL x u
 |_,_,_,_,.nil,e=>by simp at e
 |_,_,0,_,.cons r _,e=>by simp at e;subst e;exact⟨_,rfl,r⟩
 |_,_,i+1,x,.cons _ t,e=>by
  obtain⟨u,h1,h2⟩:=cG.get (i:=i) (x:=x) t (by simpa using e)
  exact⟨u,by simpa using h1,h2⟩
theorem cG.set{x:V}(r:cL x u):∀{xs:List V} {us:List Value} (i:Nat),cG xs us->cG (xs.set i x) (us.set i u)
 |_,_,_,.nil=>.nil
 |_,_,0,.cons _ t=>.cons r t
 |_,_,i+1,.cons q t=>.cons q (cG.set r i t)
theorem cG.append:∀{xs ys:List V} {us ws:List Value},cG xs us->cG ys ws->cG (xs++ys) (us++ws)
 |_,_,_,_,.nil,s=>s
 |_,_,_,_,.cons r t,s=>.cons r (cG.append t s)
theorem cG.take:∀{xs:List V} {us:List Value} (n:Nat),cG xs us->cG (xs.take n) (us.take n)
 |_,_,0,_=>.nil
 |_,_,_+1,.nil=>.nil
 |_,_,n+1,.cons r t=>.cons r (cG.take n t)
theorem cG.drop:∀{xs:List V} {us:List Value} (n:Nat),cG xs us->cG (xs.drop n) (us.drop n)
 |_,_,0,r=>r
 |_,_,_+1,.nil=>.nil
 |_,_,n+1,.cons _ t=>cG.drop n t
def oG:Option V->Option Value->Prop
 |some v,some u=>cL v u
 |none,none=>True
 |_,_=>False
def KV{κ:Type}:List (κ×V)->List (κ×Value)->Prop:=Paired fun(p:κ×V) (q:κ×Value)=>p.1=q.1/\cL p.2 q.2
def kV:jQ->V
 |.inl i=>.int i
 |.inr x=>.str x
inductive HO where
 /-- a list -/
 |lst (xs:List V)
 /-- a tuple (never changes) -/
 |tup (xs:List V)
 /-- a dict whose keys are ints and texts;one whose keys are tuples of ints and texts (the empty one is both) -/
 |dK (kvs:List (jQ×V))|dT (kvs:List (List jQ×V))
 /-- a set of ints: bw members,bw size -/
 |set (S:Int->Bool) (n:Nat)
 /-- an instance of the class at C,bw dict at dx,bw attributes -/
 |ins (C dx:Addr) (fs:List (Str×V))
 /-- the dict of the instance at x -/
 |own (x:Addr)
 /-- the dict of an exception -/
 |xd (fs:List (Str×V))
 /-- a bound method,f of x -/
 |met (f x:Addr)
 /-- a range object lo,lo+1,.. below hi -/
 |rng (lo hi:Int)
 /-- a thing that is known to the object (the script;a dict while a loop walks it): read,never written while it is so -/
 |frz (o:Obj) (u:HO)
 /-- a code object's table -/
 |tbl (ps:Array Value)
 /-- any other thing,by what is true of bw one object (a def of Xt own: SetO a S n:=HO.ext fun h=>..) -/
 |ext (φ:Heap->Prop)
noncomputable abbrev Hp:=Addr->Option HO
def e_(H:Hp)(a:Addr)(o:HO):Hp:=fun b=>if b=a then some o else H b
theorem fg{H:Hp}{o:HO}:e_ H a o a=some o:=by unfold e_;rw[au rfl]
theorem cE{H:Hp}{o:HO}(h:b≠a):e_ H a o b=H b:=by unfold e_;rw[ay h]
theorem Sd{H:Hp}{o u:HO}(h:H a=some o)(h':H b=some u)(d:o≠u):a≠b:=by
 intro e;subst e;rw[h]at h';exact d (aG h')
theorem fF{H:Hp}{o:HO}(h:H a=some o)(h':H b=none):a≠b:=by
 intro e;subst e;rw[h]at h';cases h'
section
variable(P:Program)(w:World)
def f_(H:Hp)(h:Heap)(a:Addr):HO->Prop
 |.lst xs=>xs.length<=sizeLine/\∃(bw:List Value) (n:Nat),cG xs bw/\h.get? a=some { cls:=.type "list",data:=.seq bw.toArray n }
 |.tup xs=>xs.length<=sizeLine/\∃bw:List Value,cG xs bw/\IsTup h a bw.toArray
 |.dK kvs=>kvs.length<=sizeLine/\(a==sysModules)=false/\∃vs,KV kvs vs/\h.DictOf (eQ P w) a vs
 |.dT kvs=>kvs.length<=sizeLine/\(a==sysModules)=false/\∃xs:List (List jQ×Addr×Value),
   Paired (fun(p:List jQ×V) (q:List jQ×Addr×Value)=>p.1=q.1/\H q.2.1=some (.tup (p.1.map kV))/\cL p.2 q.2.2) kvs xs /\
   ∃o es ep,h.get? a=some o/\o.ExactDict/\o.data=.dict es ep/\es.toList=xs.map (entryOfKey (tupleKind (eQ P w)))/\(xs.map (·.1)).Nodup
 |.set S n=>h.SetOf (intKind P w) a S n
 |.ins C dx fs=>H dx=some (.own a)/\fs.length<=1000/\dx≠a/\h.get? a=some (instObj C dx) /\
   ∃mA,h.Ns1 dx mA/\(∀f,oG (fs.lookup f) (mA f))/\PySem.Within mA (fs.map (·.1))
 |.own _=>∃o,h.get? a=some o
 |.xd fs=>∃mA,h.Ns1 a mA/\∀f,oG (fs.lookup f) (mA f)
 |.rng lo hi=>∃t u v,h.get? a=some { cls:=.type "range",data:=.fields #[.int lo t,.int hi u,.int 1 v] }
 |.frz o u=>h.get? a=some o/\f_ H h a u
 |.tbl ps=>h.get? a=some { cls:=.none,data:=.fields ps }
 |.met f x=>h.get? a=some (PySem.W.methodObj (.ref f) (.ref x))
 |.ext φ=>φ h/\(∃o,h.get? a=some o)/\∀h1 h2:Heap,φ h1->(∀o,h1.get? a=some o->h2.get? a=some o)->φ h2
def qB(H:Hp)(h:Heap):Prop:=∀a o,H a=some o->f_ P w H h a o
end
section
variable{w:World}{H H':Hp}{o:HO}
theorem f_.lt(x:f_ P w H h a o):a<h.objs.size:=by
 cases o with
 |lst xs=>obtain⟨_,_,_,_,e⟩:=x;exact aD e
 |tup xs=>obtain⟨_,_,_,p⟩:=x;exact p.lt
 |dK kvs=>obtain⟨_,_,_,_,o,_,_,e,_⟩:=x;exact aD e
 |dT kvs=>obtain⟨_,_,_,_,o,_,_,e,_⟩:=x;exact aD e
 |set S n=>obtain⟨o,_,_,_,e,_⟩:=x;exact aD e
 |ins C dx fs=>obtain⟨_,_,_,e,_⟩:=x;exact aD e
 |own y=>obtain⟨_,e⟩:=x;exact aD e
 |xd fs=>obtain⟨_,⟨_,_,_,e,_⟩,_⟩:=x;exact aD e
 |rng lo hi=>obtain⟨_,_,_,e⟩:=x;exact aD e
 |frz ob u=>obtain⟨e,_⟩:=x;exact aD e
 |tbl ps=>exact aD (show h.get? a=some _ from x)
 |met f y=>exact aD (show h.get? a=some _ from x)
 |ext φ=>obtain⟨_,⟨_,e⟩,_⟩:=x;exact aD e
theorem Paired.mapP{F G:α->β->Prop}:∀{l₁:List α} {l₂:List β},Paired F l₁ l₂->(∀a b,F a b->G a b)->Paired G l₁ l₂
 |_,_,.nil,_=>.nil
 |_,_,.cons r t,f=>.cons (f _ _ r) (Paired.mapP t f)
theorem Paired.imp'{F G:α->β->Prop}(f:∀a b,F a b->G a b){l₁:List α}{l₂:List β}(r:Paired F l₁ l₂):Paired G l₁ l₂:=Paired.mapP r f
theorem f_.stay(x:f_ P w H h a o)(k:∀b u,(b=a\/H b=some (.own a))->h.get? b=some u->h'.get? b=some u)
  (ho:∀b,H b=some (.own a)->H' b=some (.own a)) (ht:∀b xs,H b=some (.tup xs)->H' b=some (.tup xs)):f_ P w H' h' a o:=by
 induction o with
 |lst xs=>obtain⟨z,bw,n,r,e⟩:=x;exact⟨z,bw,n,r,k _ _ (.inl rfl) e⟩
 |tup xs=>obtain⟨z,bw,r,ob,e,c⟩:=x;exact⟨z,bw,r,ob,k _ _ (.inl rfl) e,c⟩
 |dK kvs=>obtain⟨z,y,vs,r,ob,es,ep,e,c⟩:=x;exact⟨z,y,vs,r,ob,es,ep,k _ _ (.inl rfl) e,c⟩
 |dT kvs=>
  obtain⟨z,y,xs,r,ob,es,ep,e,c⟩:=x
  exact⟨z,y,xs,Paired.mapP r fun p q z=>⟨z.1,ht _ _ z.2.1,z.2.2⟩,ob,es,ep,k _ _ (.inl rfl) e,c⟩
 |set S n=>obtain⟨ob,es,ep,t,e,c⟩:=x;exact⟨ob,es,ep,t,k _ _ (.inl rfl) e,c⟩
 |ins C dx fs=>
  obtain⟨d,z,ne,e,mA,⟨od,es,ep,e2,c⟩,r⟩:=x
  exact⟨ho _ d,z,ne,k _ _ (.inl rfl) e,mA,⟨od,es,ep,k _ _ (.inr d) e2,c⟩,r⟩
 |own y=>obtain⟨ob,e⟩:=x;exact⟨ob,k _ _ (.inl rfl) e⟩
 |xd fs=>obtain⟨mA,⟨od,es,ep,e,c⟩,r⟩:=x;exact⟨mA,⟨od,es,ep,k _ _ (.inl rfl) e,c⟩,r⟩
 |rng lo hi=>obtain⟨t,u,v,e⟩:=x;exact⟨t,u,v,k _ _ (.inl rfl) e⟩
 |frz ob u ih=>obtain⟨e,q⟩:=x;exact⟨k _ _ (.inl rfl) e,ih q⟩
 |tbl ps=>
  have e:h.get? a=some { cls:=.none,data:=.fields ps }:=x
  show h'.get? a=some { cls:=.none,data:=.fields ps }
  exact k a _ (.inl rfl) e
 |met f y=>
  have e:h.get? a=some (PySem.W.methodObj (.ref f) (.ref y)):=x
  show h'.get? a=some (PySem.W.methodObj (.ref f) (.ref y))
  exact k a _ (.inl rfl) e
 |ext φ=>obtain⟨p,⟨o,e⟩,st⟩:=x;exact⟨st _ _ p fun o q=>k _ _ (.inl rfl) q,⟨o,k _ _ (.inl rfl) e⟩,st⟩
theorem qB.lt(x:qB P w H h)(e:H a=some o):a<h.objs.size:=(x a o e).lt
theorem qB.fresh(x:qB P w H h)(e:h.objs.size<=a):H a=none:=by
 cases q:H a with
 |none=>rfl
 |some u=>exact absurd (aL (x.lt q) e) (cr _)
theorem qB.kept(x:qB P w H h)(k:∀b u,h.get? b=some u->h'.get? b=some u):qB P w H h':=fun a o e=>
 (x a o e).stay (fun b u _ q=>k b u q) (fun _ q=>q) fun _ _ q=>q
theorem qB.laid(x:qB P w H h)(k:∀b u,h.get? b=some u->h'.get? b=some u)(hp:h.objs.size<=a)(new:f_ P w (e_ H a o) h' a o):qB P w (e_ H a o) h':=fun b u e=>by
 have hn:=x.fresh hp
 by_cases hb:b=a
 ·subst hb;rw[fg]at e;cases e;exact new
 ·rw[cE hb]at e
  exact(x b u e).stay (fun c v _ q=>k c v q) (fun c q=>by rw[cE (fF q hn)];exact q) fun c xs q=>by rw[cE (fF q hn)];exact q
end
def Rd(H:Hp)(a:Addr)(u:HO):Prop:=H a=some u\/∃o,H a=some (.frz o u)
theorem Rd.ok{w:World}{H:Hp}{u:HO}(r:Rd H a u)(x:qB P w H h):f_ P w H h a u:=by
 rcases r with r|⟨o,r⟩
 ·exact x a u r
 ·obtain⟨_,q⟩:=x a _ r
  exact q
def Se:Option HO->Prop
 |some (.lst _)=>True
 |some (.dK _)=>True
 |some (.dT _)=>True
 |some (.set _ _)=>True
 |some (.ins _ _ _)=>True
 |some (.ext _)=>True
 |_=>False
section
variable{w:World}{H:Hp}{x e:Addr}{o':HO}
theorem qB.write(ok:qB P w H h)(mu:Se (H x))(he:e=x\/H e=some (.own x))(k:∀b u,b≠e->h.get? b=some u->h'.get? b=some u)(R9:∃u,h'.get? e=some u)
  (new:f_ P w (e_ H x o') h' x o'):qB P w (e_ H x o') h':=fun b u q=>by
 have nown:∀c y,H c=some (.own y)->c≠x:=fun c y r z=>by subst z;rw[r]at mu;exact mu
 have ntup:∀c xs,H c=some (.tup xs)->c≠x:=fun c xs r z=>by subst z;rw[r]at mu;exact mu
 by_cases hb:b=x
 ·subst hb;rw[fg]at q;cases q;exact new
 ·rw[cE hb]at q
  by_cases hbe:b=e
  ·have q':H b=some (.own x):=by
    rcases he with z|z
    ·exact absurd (hbe.trans z) hb
    ·rw[hbe];exact z
   rw[q]at q';cases q'
   obtain⟨v,hv⟩:=R9
   exact⟨v,by rw[hbe];exact hv⟩
  ·refine(ok b u q).stay (fun c v hc r=>k c v ?_ r) (fun c r=>by rw[cE (nown c b r)];exact r) fun c xs r=>by rw[cE (ntup c xs r)];exact r
   rcases hc with rfl|hc
   ·exact hbe
   ·rintro rfl
    rcases he with z|z
    ·exact nown c b hc z
    ·rw[hc]at z;cases z;exact hb rfl
end
structure Un(fs ex:List Addr)(H H':Hp)(h h':Heap):Prop where
 keep:∀b o,h.get? b=some o->H b=none->b∉fs->b∉ex->h'.get? b=some o
 slot:∀b o,h.get? b=some o->H b=none->b∈fs->b∉ex->∃sl,h'.get? b=some { o with slots:=sl }
 free:∀b o,h.get? b=some o->H b=none->b∉ex->H' b=none
 there:∀b o,h.get? b=some o->b∉ex->∃o',h'.get? b=some o'
 tups:∀b xs,H b=some (.tup xs)->H' b=some (.tup xs)
 frzs:∀b o u,H b=some (.frz o u)->H' b=some (.frz o u)
 tbls:∀b ps,H b=some (.tbl ps)->∃more,H' b=some (.tbl (ps++more))
section
variable{fs U' ex XZ:List Addr}{H H1 H2:Hp}{h1 h2:Heap}{x e:Addr}{o:HO}
theorem Un.any(u:Un fs ex H H1 h h1){ob:Obj}(q:h.get? b=some ob)(n:H b=none)(hx:b∉ex):∃sl,h1.get? b=some { ob with slots:=sl }:=by
 by_cases hb:b∈fs
 ·exact u.slot b ob q n hb hx
 ·exact⟨ob.slots,u.keep b ob q n hb hx⟩
theorem Un.kept(k:∀b u,h.get? b=some u->h'.get? b=some u):Un fs ex H H h h':=
 ⟨fun b ob q _ _ _=>k b ob q,fun b ob q _ _ _=>⟨ob.slots,k b ob q⟩,fun _ _ _ n _=>n,fun b ob q _=>⟨ob,k b ob q⟩,fun _ _ q=>q,fun _ _ _ q=>q,fun _ ps q=>⟨#[],by rw[q];simp⟩⟩
theorem Un.refl:Un fs ex H H h h:=Un.kept fun _ _ q=>q
theorem Un.laid(k:∀b u,h.get? b=some u->h'.get? b=some u)(hp:h.objs.size<=a)(hn:H a=none):Un fs ex H (e_ H a o) h h' where
 keep:=fun b u q _ _ _=>k b u q
 slot:=fun b u q _ _ _=>⟨u.slots,k b u q⟩
 free:=fun b u q n _=>by rw[cE (a8 (aL (aD q) hp))];exact n
 there:=fun b u q _=>⟨u,k b u q⟩
 tups:=fun b xs q=>by rw[cE (fF q hn)];exact q
 frzs:=fun b u xs q=>by rw[cE (fF q hn)];exact q
 tbls:=fun b ps q=>⟨#[],by rw[cE (fF q hn),q];simp⟩
theorem Un.write(mu:Se (H x))(he:e=x\/H e=some (.own x))(k:∀b u,b≠e->h.get? b=some u->h'.get? b=some u)(R9:∃u,h'.get? e=some u):Un fs ex H (e_ H x o) h h':=by
 have hx:∀b,H b=none->b≠x:=fun b n z=>by subst z;rw[n]at mu;exact mu
 have hb:∀b,H b=none->b≠e:=fun b n z=>by
  subst z
  rcases he with r|r
  ·exact hx b n r
  ·rw[n]at r;cases r
 have hm:∀b u,H b=some u->¬ Se (some u)->b≠x:=fun b u q nm z=>by subst z;rw[q]at mu;exact nm mu
 refine⟨fun b u q n _ _=>k b u (hb b n) q,fun b u q n _ _=>⟨u.slots,k b u (hb b n) q⟩,fun b u q n _=>by rw[cE (hx b n)];exact n,fun b u q _=>?_,
  fun b xs q=>by rw[cE (hm b _ q fun z=>z)];exact q,fun b u xs q=>by rw[cE (hm b _ q fun z=>z)];exact q,fun b ps q=>⟨#[],by rw[cE (hm b _ q fun z=>z),q];simp⟩⟩
 by_cases hbe:b=e
 ·subst hbe;exact R9
 ·exact⟨u,k b u hbe q⟩
end
def Vy(h:Heap)(H:Hp):List Addr:=(List.range h.objs.size).filter fun a=>(H a).isSome
def xZ(h:Heap)(H:Hp):Heap:=hideAll h (Vy h H)
theorem Ev(h:Heap)(H:Hp):(xZ h H).objs.size=h.objs.size:=PySem.W.hideAll_size _ _
theorem FU{H:Hp}{o:Obj}(e:h.get? b=some o)(n:H b=none):(xZ h H).get? b=some o:=
 PySem.W.hideAll_get _ e fun hm=>by
  have q:(H b).isSome=true:=(bE.mp hm).2
  rw[n]at q;simp at q
theorem Kk{H:Hp}{o:Obj}(e:(xZ h H).get? b=some o):h.get? b=some o/\H b=none:=by
 have e':h.get? b=some o:=PySem.W.of_hideAll (Vy h H) e
 refine⟨e',?_⟩
 cases q:H b with
 |none=>rfl
 |some x=>
  have hm:b∈Vy h H:=bE.mpr ⟨aU.mpr (aD e'),by simp[q]⟩
  have z:(xZ h H).get? b=none:=PySem.W.hideAll_none (Vy h H) hm
  rw[z]at e;cases e
noncomputable def Kl(g h:Heap)(L:Addr):List (Addr×Obj):=(List.range h.objs.size).filterMap fun a=>if a=L\/(g.get? a).isSome=true then none else(h.get? a).map fun o=>(a,o)
def f'(g h:Heap)(L d:Addr):List (Addr×Obj):=(Kl g h L).filter fun p=>decide (p.1≠d)
structure Mod(K:Frag)(mg:Str->Option Value)(base:Heap):Prop where
 kin:K.In base
 glob:base.Ns mainGlobals mg
 blt:∃mb,base.Ns builtinsNs mb/\∀x:Str,x ≠ "__name__"->mb x=bootBuiltins x
 nolimit:base.NoLimit
structure Cx where
 prog:Program
 w:World
 K:Frag
 mg:Str->Option Value
 base:Heap
 A:Around
 N:List Str
 s₀:Shared
 H₀:Hp
 env:Env
 outer:List Env
 stack:List Env
 ex:List Addr
 fn:Str->Bool
 calm:Bool
 pn:List (Addr×Obj)
 xe:Value->Shared->Prop
noncomputable def uM(l:List Env):List Addr:=l.filterMap (·.frame)
abbrev Cx.fs(X:Cx):List Addr:=uM X.outer
def Sf(sc:Scope)(x:Str):Prop:=sc.names.lookup x=some .local\/sc.names.lookup x=some .cell\/sc.names.lookup x=some .free
def Km(sc:Scope)(x:Str):Prop:=sc.names.lookup x=some .local\/sc.names.lookup x=some .cell
def V8(env:Env)(h:Heap)(m:Str->Option Value)(x:Str)(u:Value):Prop:=
 (env.kindOf x=some .local/\m x=some u)\/((env.kindOf x=some .cell\/env.kindOf x=some .free)/\∃c,env.cells.lookup x=some c/\h.IsCell c (some u))
structure Cx.Ok(X:Cx):Prop where
 mod:Mod X.K X.mg X.base
 kind:X.env.scope.kind=.function
 glob:X.env.globals=mainGlobals
 blt:X.env.builtins=builtinsNs
 above:X.s₀.heap.objs.size<=X.env.locals
 inj:∀x y c,X.env.cells.lookup x=some c->X.env.cells.lookup y=some c->x=y
 has:∀x,(X.env.kindOf x=some .cell\/X.env.kindOf x=some .free)->∃c,X.env.cells.lookup x=some c
 cab:∀x c,X.fn x=true->X.env.cells.lookup x=some c->X.s₀.heap.objs.size<=c
 hd:X.calm=true->X.A.handled=none
 frames:X.A.frames=some X.stack
 stk:X.stack=X.outer\/(X.stack=X.env::X.outer/\X.env.frame=some X.env.locals)
 exf:∀b∈X.ex,b≠X.env.locals/\∀x c,X.env.cells.lookup x=some c->c≠b
 bs:∀b o,X.base.get? b=some o->X.s₀.heap.get? b=some o/\X.H₀ b=none
 bsz:X.base.objs.size<=X.s₀.heap.objs.size
 noex:∀b o,X.base.get? b=some o->b∉X.ex
 exfs:∀b∈X.ex,b∉X.fs
 funs:X.s₀.heap.FunFrames X.base X.outer
 frf:∀b∈X.fs,X.H₀ b=none
structure bK(X:Cx)(ah:List (Addr×Obj))(σ:List (Option V))(H:Hp)(s:Shared):Prop where
 ok:X.Ok
 os:s.os=X.s₀.os
 bare:AllBare s.gens
 base:Un X.fs X.ex X.H₀ H X.s₀.heap s.heap
 loc:∃m,s.heap.Ns X.env.locals m/\∀(i:Nat) (x:Str) (v:V),X.N[i]?=some x->σ[i]?=some (some v)->Sf X.env.scope x->∃u,cL v u/\V8 X.env s.heap m x u
 cell:∀x c,X.env.cells.lookup x=some c->∃v,s.heap.IsCell c v
 free:H X.env.locals=none
 freeC:∀x c,X.env.cells.lookup x=some c->H c=none
 pin:∀p∈X.pn++ah,s.heap.get? p.1=some p.2/\H p.1=none/\p.1≠X.env.locals/\p.1∉X.fs/\∀v,p.2.data≠.cell v
 hok:qB X.prog X.w H s.heap
 len:σ.length=X.N.length
section
variable{X:Cx}{σ:List (Option V)}{H H':Hp}
theorem Cx.Ok.nofr(ok:X.Ok){o:Obj}(e:X.base.get? b=some o):b∉X.fs:=fun hb=>by
 have:=(ok.funs.mem hb).1
 rw[e]at this;cases this
theorem bK.bs(I:bK X ah σ H s):∀b o,X.base.get? b=some o->s.heap.get? b=some o/\H b=none:=fun b o e=>
 ⟨I.base.keep b o (I.ok.bs b o e).1 (I.ok.bs b o e).2 (I.ok.nofr e) (I.ok.noex b o e),I.base.free b o (I.ok.bs b o e).1 (I.ok.bs b o e).2 (I.ok.noex b o e)⟩
theorem bK.bk(I:bK X ah σ H s):∀b o,X.base.get? b=some o->s.heap.get? b=some o:=fun b o e=>(I.bs b o e).1
theorem bK.mod(I:bK X ah σ H s):Mod X.K X.mg X.base:=I.ok.mod
theorem bK.kIn(I:bK X ah σ H s):X.K.In s.heap:=I.ok.mod.kin.keeps I.bk
theorem bK.lt(I:bK X ah σ H s):X.env.locals<s.heap.objs.size:=let ⟨_,hn,_⟩:=I.loc;hn.lt
theorem bK.sz(I:bK X ah σ H s):X.s₀.heap.objs.size<=s.heap.objs.size:=aR I.ok.above (gC I.lt)
theorem bK.nofs(I:bK X ah σ H s)(h:s.heap.objs.size<=a):a∉X.fs:=fun hb=>by
 obtain⟨_,o,ho,_⟩:=I.ok.funs.mem hb
 exact absurd (aL (aD ho) (aR I.sz h)) (cr _)
theorem bK.cne(I:bK X ah σ H s):∀x c,X.env.cells.lookup x=some c->c≠X.env.locals:=fun x c e z=>by
 obtain⟨v,o,ho,hd⟩:=I.cell x c e
 obtain⟨m,⟨o',es,ep,ho',hd',_⟩,_⟩:=I.loc
 rw[z,ho']at ho;cases ho;rw[hd']at hd;cases hd
theorem bK.funs(I:bK X ah σ H s):s.heap.FunFrames X.base X.outer:=by
 have all:∀(l:List Env),(∀b∈uM l,b∈X.fs)->X.s₀.heap.FunFrames X.base l->s.heap.FunFrames X.base l:=by
  intro l
  induction l with
  |nil=>intro _ _;trivial
  |cons env r ih=>
   intro hs hl
   obtain⟨hk,⟨L,o,hf,hn,ho,hd⟩,hr⟩:=hl
   have hL:L∈X.fs:=hs L (by unfold uM;rw[gb,hf];exact bV)
   obtain⟨sl,e⟩:=I.base.slot L o ho (I.ok.frf L hL) hL fun z=>I.ok.exfs L z hL
   exact⟨hk,⟨L,_,hf,hn,e,hd⟩,ih (fun b hb=>hs b (by unfold uM;rw[gb,hf];exact aV _ hb)) hr⟩
 exact all X.outer (fun _ hb=>hb) I.ok.funs
theorem bK.stack(I:bK X ah σ H s):s.heap.FunFrames X.base X.stack:=by
 rcases I.ok.stk with e|⟨e,hf⟩
 ·rw[e];exact I.funs
 ·rw[e]
  obtain⟨m,hn,_⟩:=I.loc
  refine .cons (by rw[I.ok.kind];decide) hf hn ?_ I.funs
  exact Heap.get?_none_of_le (aR I.ok.bsz I.ok.above)
theorem bK.stkSub(I:bK X ah σ H s):∀b∈uM X.stack,b∈X.env.locals::X.fs:=fun b hb=>by
 rcases I.ok.stk with e|⟨e,hf⟩
 ·rw[e]at hb;exact aV _ hb
 ·rw[e]at hb
  unfold uM at hb
  rw[gb,hf]at hb
  exact hb
theorem bK.stkFree(I:bK X ah σ H s):∀b∈uM X.stack,H b=none:=fun b hb=>by
 rcases aM.mp (I.stkSub b hb)with e|hb
 ·rw[e];exact I.free
 ·obtain⟨_,o,ho,_⟩:=I.ok.funs.mem hb
  exact I.base.free b o ho (I.ok.frf b hb) fun z=>I.ok.exfs b z hb
theorem bK.step{g':Array GenState}{t':Nat}{d':Drawn}{ch:List Addr}(I:bK X ah σ H s)
  (Bo:∀b∈ch,(b∈X.ex\/X.s₀.heap.objs.size<=b)/\b≠X.env.locals/\(∀x c,X.env.cells.lookup x=some c->c≠b)/\∀p∈X.pn++ah,p.1≠b)
  (keep:∀b o,b≠X.env.locals->b∉X.fs->b∉ch->s.heap.get? b=some o->H b=none->h'.get? b=some o)
  (slot:∀b o,b≠X.env.locals->b∈X.fs->b∉ch->s.heap.get? b=some o->H b=none->∃sl,h'.get? b=some { o with slots:=sl }) (free:∀b o,b∉ch->s.heap.get? b=some o->H b=none->H' b=none)
  (there:∀b o,b∉ch->s.heap.get? b=some o->∃o',h'.get? b=some o')
  (tups:∀b xs,H b=some (.tup xs)->H' b=some (.tup xs)) (frzs:∀b o u,H b=some (.frz o u)->H' b=some (.frz o u)) (tbls:∀b ps,H b=some (.tbl ps)->∃more,H' b=some (.tbl (ps++more)))
  (ns:∀m,s.heap.Ns X.env.locals m->h'.Ns X.env.locals m) (hok:qB X.prog X.w H' h') (hg:AllBare g') :
  bK X ah σ H' { s with heap:=h',gens:=g',drawn:=d',toks:=t' }:=by
 have neL:∀b o,X.s₀.heap.get? b=some o->b≠X.env.locals:=fun b o e=>a8 (aL (aD e) I.ok.above)
 have neC:∀b o,X.s₀.heap.get? b=some o->b∉X.ex->b∉ch:=fun b o e hx hb=>by
  rcases(Bo b hb).1 with z|z
  ·exact hx z
  ·exact absurd (aL (aD e) z) (cr _)
 have cellK:∀x c,X.env.cells.lookup x=some c->∀v,s.heap.IsCell c v->h'.IsCell c v:=fun x c e v zq=>by
  obtain⟨o,ho,hd⟩:=zq
  have nch:c∉ch:=fun z=>(Bo c z).2.2.1 x c e rfl
  by_cases hc:c∈X.fs
  ·obtain⟨sl,q⟩:=slot c o (I.cne x c e) hc nch ho (I.freeC x c e)
   exact⟨_,q,hd⟩
  ·exact⟨o,keep c o (I.cne x c e) hc nch ho (I.freeC x c e),hd⟩
 refine⟨I.ok,I.os,hg,⟨fun b o e n hb hx=>?_,fun b o e n hb hx=>?_,fun b o e n hx=>?_,fun b o e hx=>?_,fun b xs e=>tups b xs (I.base.tups b xs e),fun b o xs e=>frzs b o xs (I.base.frzs b o xs e),fun b ps e=>?_⟩,?_,fun x c e=>?_,?_,fun x c e=>?_,fun p hp=>?_,hok,I.len⟩
 ·exact keep b o (neL b o e) hb (neC b o e hx) (I.base.keep b o e n hb hx) (I.base.free b o e n hx)
 ·obtain⟨sl,e1⟩:=I.base.slot b o e n hb hx
  obtain⟨sl',e2⟩:=slot b _ (neL b o e) hb (neC b o e hx) e1 (I.base.free b o e n hx)
  exact⟨sl',e2⟩
 ·obtain⟨o',e1⟩:=I.base.there b o e hx
  exact free b o' (neC b o e hx) e1 (I.base.free b o e n hx)
 ·obtain⟨o',e1⟩:=I.base.there b o e hx
  exact there b o' (neC b o e hx) e1
 ·obtain⟨m1,e1⟩:=I.base.tbls b ps e
  obtain⟨m2,e2⟩:=tbls b _ e1
  exact⟨m1++m2,by rw[e2,Array.append_assoc]⟩
 ·obtain⟨m,hn,hl⟩:=I.loc
  refine⟨m,ns m hn,fun i x v e1 e2 e3=>?_⟩
  obtain⟨u,r,l⟩:=hl i x v e1 e2 e3
  refine⟨u,r,?_⟩
  rcases l with l|⟨k,c,e,z⟩
  ·exact .inl l
  ·exact .inr ⟨k,c,e,cellK x c e _ z⟩
 ·obtain⟨v,z⟩:=I.cell x c e
  exact⟨v,cellK x c e v z⟩
 ·obtain⟨m,⟨o,_,_,ho,_⟩,_⟩:=I.loc
  exact free _ o (fun z=>(Bo _ z).2.1 rfl) ho I.free
 ·obtain⟨v,o,ho,hd⟩:=I.cell x c e
  exact free c o (fun z=>(Bo c z).2.2.1 x c e rfl) ho (I.freeC x c e)
 ·obtain⟨e,n,ne,nf,d⟩:=I.pin p hp
  have nch:p.1∉ch:=fun z=>(Bo p.1 z).2.2.2 p hp rfl
  exact⟨keep p.1 p.2 ne nf nch e n,free p.1 p.2 nch e n,ne,nf,d⟩
theorem bK.un{t':Nat}(I:bK X ah σ H s)(u:Un X.fs [] H H' s.heap h')(hok:qB X.prog X.w H' h'):bK X ah σ H' { s with heap:=h',toks:=t' }:=by
 obtain⟨m,⟨o,es,ep,ho,r⟩,_⟩:=id I.loc
 obtain⟨sl,hL⟩:=u.any ho I.free #[9]
 exact I.step (g':=s.gens) (d':=s.drawn) (ch:=[]) (fun _ z=>nomatch z) (fun b o _ hb _ e n=>u.keep b o e n hb #[9]) (fun b o _ hb _ e n=>u.slot b o e n hb #[9]) (fun b o _ e n=>u.free b o e n #[9]) (fun b o _ e=>u.there b o e #[9]) u.tups u.frzs u.tbls (fun m' hm=>by
  obtain⟨o',es',ep',ho',r'⟩:=hm
  rw[ho]at ho';cases ho'
  exact⟨_,es',ep',hL,r'⟩) hok I.bare
theorem bK.call{g':Array GenState}{t':Nat}{d':Drawn}{ch:List Addr}(I:bK X ah σ H s)(u:Un (uM X.stack) ch H H' s.heap h')(hok:qB X.prog X.w H' h')(hg:AllBare g')
  (Bo:∀b∈ch,(b∈X.ex\/X.s₀.heap.objs.size<=b)/\b≠X.env.locals/\(∀x c,X.env.cells.lookup x=some c->c≠b)/\∀p∈X.pn++ah,p.1≠b) :
  bK X ah σ H' { s with heap:=h',gens:=g',drawn:=d',toks:=t' }:=by
 obtain⟨m,⟨o,es,ep,ho,r⟩,_⟩:=id I.loc
 obtain⟨sl,hL⟩:=u.any ho I.free fun z=>(Bo _ z).2.1 rfl
 exact I.step (ch:=ch) Bo (fun b o hL hb hc e n=>u.keep b o e n (fun z=>(aM.mp (I.stkSub b z)).elim hL hb) hc) (fun b o _ _ hc e n=>u.any e n hc) (fun b o hc e n=>u.free b o e n hc) (fun b o hc e=>u.there b o e hc) u.tups u.frzs u.tbls (fun m' hm=>by
  obtain⟨o',es',ep',ho',r'⟩:=hm
  rw[ho]at ho';cases ho'
  exact⟨_,es',ep',hL,r'⟩) hok hg
theorem bK.turned{t':Nat}{it:Addr}(I:bK X ah σ H s)(k:∀b o,b≠it->s.heap.get? b=some o->h'.get? b=some o)(hn:H it=none)(hL:it≠X.env.locals)
  (h1:it∈X.ex\/X.s₀.heap.objs.size<=it) (h2:∀x c,X.env.cells.lookup x=some c->c≠it) (h3:∀p∈X.pn++ah,p.1≠it):bK X ah σ H { s with heap:=h',toks:=t' }:=by
 have nit:∀b u,H b=some u->b≠it:=fun b u e z=>by rw[z,hn]at e;cases e
 refine I.step (g':=s.gens) (d':=s.drawn) (ch:=[it]) (fun b hb=>?_) (fun b o _ _ hc e _=>k b o (fun z=>hc (by simp[z])) e) (fun b o _ _ hc e _=>⟨o.slots,k b o (fun z=>hc (by simp[z])) e⟩) (fun _ _ _ _ n=>n)
  (fun b o hc e=>⟨o,k b o (fun z=>hc (by simp[z])) e⟩) (fun _ _ e=>e) (fun _ _ _ e=>e) (fun b ps e=>⟨#[],by rw[e];simp⟩) (fun m hm=>?_) (fun b u e=>?_) I.bare
 ·have e:b=it:=by simpa using hb
  subst e
  exact⟨h1,hL,h2,h3⟩
 ·obtain⟨o,es,ep,ho,r⟩:=hm
  exact⟨o,es,ep,k _ o (Ne.symm hL) ho,r⟩
 ·refine(I.hok b u e).stay (fun c v hc q=>k c v ?_ q) (fun _ q=>q) fun _ _ q=>q
  rcases hc with z|z
  ·rw[z];exact nit b u e
  ·exact nit c _ z
theorem bK.tok(I:bK X ah σ H s)(t:Nat):bK X ah σ H { s with toks:=t }:=I.un (h':=s.heap) (t':=t) Un.refl I.hok
theorem bK.kept{t':Nat}(I:bK X ah σ H s)(k:∀b u,s.heap.get? b=some u->h'.get? b=some u):bK X ah σ H { s with heap:=h',toks:=t' }:=I.un (Un.kept k) (I.hok.kept k)
theorem bK.laid{a:Addr}{o:HO}{t':Nat}(I:bK X ah σ H s)(k:∀b u,s.heap.get? b=some u->h'.get? b=some u)(hp:s.heap.objs.size<=a)(new:f_ X.prog X.w (e_ H a o) h' a o) :
  bK X ah σ (e_ H a o) { s with heap:=h',toks:=t' }:=I.un (Un.laid k hp (I.hok.fresh hp)) (I.hok.laid k hp new)
theorem bK.write{x e:Addr}{o:HO}(I:bK X ah σ H s)(mu:Se (H x))(he:e=x\/H e=some (.own x))(k:∀b u,b≠e->s.heap.get? b=some u->h'.get? b=some u)(R9:∃u,h'.get? e=some u)
  (new:f_ X.prog X.w (e_ H x o) h' x o):bK X ah σ (e_ H x o) { s with heap:=h',toks:=t' }:=I.un (Un.write mu he k R9) (I.hok.write mu he k R9 new)
theorem bK.pins_of{pins':List (Addr×Obj)}(I:bK X ah σ H s)(h:∀p∈pins',s.heap.get? p.1=some p.2/\H p.1=none/\p.1≠X.env.locals/\p.1∉X.fs/\∀v,p.2.data≠.cell v):bK X pins' σ H s:=
 ⟨I.ok,I.os,I.bare,I.base,I.loc,I.cell,I.free,I.freeC,fun p hp=>(aZ.mp hp).elim (fun z=>I.pin p (cw _ z)) (h p),I.hok,I.len⟩
theorem zy{N:List Str}(hN:N.Nodup){x:Str}(a:N[i]?=some x)(b:N[j]?=some x):i=j:=by
 obtain⟨h1,e1⟩:=ac.mp a
 obtain⟨h2,e2⟩:=ac.mp b
 exact(List.getElem_inj hN).mp (e1.trans e2.symm)
theorem Ew{M:Model}{A:Around}{E:Value->Shared->Prop}{x:Str}{v:V}{Q:Unit->Shared->Prop}(I:bK X ah σ H s)(hN:X.N.Nodup)(hi:X.N[i]?=some x)(hx:Km X.env.scope x)(r:cL v u)
  (h:∀s',bK X ah (σ.set i (some v)) H s'->(∃a,Heap.SameBut a s.heap s'.heap/\(a=X.env.locals\/X.env.cells.lookup x=some a))->Q () s') (hf:X.fn x=true\/X.env.scope.names.lookup x=some .local:=by first|exact .inl rfl|exact .inr rfl|assumption):wpAny M A (storeName X.env x u) Q E s:=by
 obtain⟨m,hn,hl⟩:=id I.loc
 have hcls:(X.env.scope.kind==.class||(X.env.scope.kind==.module&&X.env.locals != X.env.globals))=false:=by rw[I.ok.kind];rfl
 have hiσ:i<σ.length:=by rw[I.len];exact(ac.mp hi).1
 have cne:=I.cne
 have tracked:∀{a:Addr} {h':Heap},(∃o,s.heap.get? a=some o/\H a=none)->Heap.SameBut a s.heap h'->qB X.prog X.w H h':=fun{a h'} ha hs b ob e=>by
  obtain⟨_,_,hfree⟩:=ha
  refine(I.hok b ob e).stay (fun c w' hc q=>(hs.2 c ?_).trans q) (fun _ q=>q) fun _ _ q=>q
  rintro rfl
  rcases hc with rfl|hc
  ·rw[hfree]at e;cases e
  ·rw[hfree]at hc;cases hc
 rcases hx with hk|hk
 ·refine wpAny_storeName_local hk hn (fun h' hn' hs=>?_) hcls
  obtain⟨oL,_,_,hoL,_⟩:=id hn
  refine h _ ⟨I.ok,I.os,I.bare,⟨fun b o e n hb hx=>?_,fun b o e n hb hx=>?_,I.base.free,fun b o e hx=>?_,I.base.tups,I.base.frzs,I.base.tbls⟩,⟨_,hn',fun j y v' e1 e2 e3=>?_⟩,fun y c e=>?_,I.free,I.freeC,fun p hp=>?_,tracked ⟨oL,hoL,I.free⟩ hs,by simpa using I.len⟩ ⟨_,hs,.inl rfl⟩
  ·exact(hs.2 b (a8 (aL (aD e) I.ok.above))).trans (I.base.keep b o e n hb hx)
  ·obtain⟨sl,e1⟩:=I.base.slot b o e n hb hx
   exact⟨sl,(hs.2 b (a8 (aL (aD e) I.ok.above))).trans e1⟩
  ·obtain⟨o',e1⟩:=I.base.there b o e hx
   exact⟨o',(hs.2 b (a8 (aL (aD e) I.ok.above))).trans e1⟩
  ·by_cases hj:j=i
   ·subst hj
    rw[hi]at e1;cases e1
    rw[bq hiσ]at e2
    cases e2
    exact⟨u,r,.inl ⟨hk,by simp⟩⟩
   ·rw[b8 (Ne.symm hj)]at e2
    obtain⟨u',r',q⟩:=hl j y v' e1 e2 e3
    refine⟨u',r',?_⟩
    rcases q with⟨k,e⟩|⟨k,c,e,z⟩
    ·refine .inl ⟨k,?_⟩
     have:y≠x:=fun e=>hj (zy hN e1 (e▸hi))
     simp[this,e]
    ·exact .inr ⟨k,c,e,z.sameBut hs (cne y c e)⟩
  ·obtain⟨w',z⟩:=I.cell y c e
   exact⟨w',z.sameBut hs (cne y c e)⟩
  ·obtain⟨e,n,ne,nf,d⟩:=I.pin p hp
   exact⟨(hs.2 p.1 ne).trans e,n,ne,nf,d⟩
 ·have hfn:X.fn x=true:=by
   rcases hf with z|z
   ·exact z
   ·rw[z]at hk;cases hk
  obtain⟨c,hc⟩:=I.ok.has x (.inl hk)
  obtain⟨w',z⟩:=I.cell x c hc
  refine wpAny_storeName_cell I.ok.kind hk hc z (fun h' hc' hs=>?_)
  obtain⟨oc,hoc,hocd⟩:=id z
  refine h { s with heap:=h' } ⟨I.ok,I.os,I.bare,⟨fun b o e n hb hx=>?_,fun b o e n hb hx=>?_,I.base.free,fun b o e hx=>?_,I.base.tups,I.base.frzs,I.base.tbls⟩,⟨m,hn.sameBut hs (Ne.symm (cne x c hc)),fun j y v' e1 e2 e3=>?_⟩,fun y c' e=>?_,I.free,I.freeC,fun p hp=>?_,tracked ⟨oc,hoc,I.freeC x c hc⟩ hs,by simpa using I.len⟩ ⟨c,hs,.inr hc⟩
  ·exact(hs.2 b (a8 (aL (aD e) (I.ok.cab x c hfn hc)))).trans (I.base.keep b o e n hb hx)
  ·obtain⟨sl,e1⟩:=I.base.slot b o e n hb hx
   exact⟨sl,(hs.2 b (a8 (aL (aD e) (I.ok.cab x c hfn hc)))).trans e1⟩
  ·obtain⟨o',e1⟩:=I.base.there b o e hx
   exact⟨o',(hs.2 b (a8 (aL (aD e) (I.ok.cab x c hfn hc)))).trans e1⟩
  ·by_cases hj:j=i
   ·subst hj
    rw[hi]at e1;cases e1
    rw[bq hiσ]at e2
    cases e2
    exact⟨u,r,.inr ⟨.inl hk,c,hc,hc'⟩⟩
   ·rw[b8 (Ne.symm hj)]at e2
    obtain⟨u',r',q⟩:=hl j y v' e1 e2 e3
    refine⟨u',r',?_⟩
    rcases q with q|⟨k,c',e,z'⟩
    ·exact .inl q
    ·refine .inr ⟨k,c',e,z'.sameBut hs ?_⟩
     rintro rfl
     exact hj (zy hN e1 (I.ok.inj _ _ _ e hc▸hi))
  ·by_cases hcc:c'=c
   ·subst hcc;exact⟨_,hc'⟩
   ·obtain⟨w2,z2⟩:=I.cell y c' e
    exact⟨w2,z2.sameBut hs hcc⟩
  ·obtain⟨e,n,ne,nf,d⟩:=I.pin p hp
   refine⟨(hs.2 p.1 ?_).trans e,n,ne,nf,d⟩
   intro q
   rw[q,hoc]at e
   have q':oc=p.2:=aG e
   exact d w' (by rw[<- q'];exact hocd)
theorem zB{M:Model}{A:Around}{E:Value->Shared->Prop}{x:Str}{v:V}{Q:Unit->Shared->Prop}(I:bK X ah σ H s)(hN:X.N.Nodup)(hi:X.N[i]?=some x)(hx:Km X.env.scope x)(r:cL v u)
  (h:∀s',bK X ah (σ.set i (some v)) H s'->Q () s') (hf:X.fn x=true\/X.env.scope.names.lookup x=some .local:=by first|exact .inl rfl|exact .inr rfl|assumption):wpAny M A (storeName X.env x u) Q E s:=
 Ew I hN hi hx r (fun s' I' _=>h s' I') hf
theorem bK.call'{s':Shared}{ch:List Addr}(I:bK X ah σ H s)(ho:s'.os=s.os)(u:Un (uM X.stack) ch H H' s.heap s'.heap)(hok:qB X.prog X.w H' s'.heap)(hg:AllBare s'.gens)
  (Bo:∀b∈ch,(b∈X.ex\/X.s₀.heap.objs.size<=b)/\b≠X.env.locals/\(∀x c,X.env.cells.lookup x=some c->c≠b)/\∀p∈X.pn++ah,p.1≠b):bK X ah σ H' s':=by
 obtain⟨h',g',d',t',o'⟩:=s'
 have e:o'=s.os:=ho
 subst e
 exact I.call (g':=g') (t':=t') (d':=d') u hok hg Bo
end
abbrev XK:=Value->Option Addr->Hp->Prop
noncomputable abbrev St:=List (Option V)
abbrev VK:=V->Hp->Prop
abbrev TE:=St->Hp->VK->Prop
abbrev TT:=St->Hp->(Bool->Hp->Prop)->Prop
abbrev TA:=St->Hp->(List V->Hp->Prop)->Prop
structure zC where
 nx:St->Hp->Prop
 rt:VK
 bk:St->Hp->Prop:=fun _ _=>False
 ct:St->Hp->Prop:=fun _ _=>False
abbrev TS:=zC->St->Hp->Prop
def EP(X:Cx)(ah:List (Addr×Obj))(σ:St)(Q:VK)(u:Value)(s':Shared):Prop:=∃v H',bK X ah σ H' s'/\cL v u/\Q v H'
def TP(X:Cx)(ah:List (Addr×Obj))(σ:St)(Q:Bool->Hp->Prop)(b:Bool)(s':Shared):Prop:=∃H',bK X ah σ H' s'/\Q b H'
def AP(X:Cx)(ah:List (Addr×Obj))(σ:St)(Q:List V->Hp->Prop)(us:List Value)(s':Shared):Prop:=∃vs H',bK X ah σ H' s'/\cG vs us/\Q vs H'
def SP(X:Cx)(ah:List (Addr×Obj))(D:zC)(f:Flow)(s':Shared):Prop:=
 match f with
 |.next=>∃σ' H',bK X ah σ' H' s'/\D.nx σ' H'
 |.brk=>∃σ' H',bK X ah σ' H' s'/\D.bk σ' H'
 |.cont=>∃σ' H',bK X ah σ' H' s'/\D.ct σ' H'
 |.ret u=>∃v σ' H',bK X ah σ' H' s'/\cL v u/\D.rt v H'
def PE(X:Cx)(e:Expr)(t:TE):Prop:=
 ∀(ah:List (Addr×Obj)) (s:Shared) (σ:St) (H:Hp) (Q:VK),bK X ah σ H s->t σ H Q->wpAny #[4] X.A (eval e X.env) (EP X ah σ Q) X.xe s
def PT(X:Cx)(e:Expr)(t:TT):Prop:=
 ∀(ah:List (Addr×Obj)) (s:Shared) (σ:St) (H:Hp) (Q:Bool->Hp->Prop),bK X ah σ H s->t σ H Q->wpAny #[4] X.A (isTrue e X.env (eval e X.env)) (TP X ah σ Q) X.xe s
def PW(X:Cx)(e:Expr)(t:TT):Prop:=
 ∀(wB:Sem Value) (ah:List (Addr×Obj)) (s:Shared) (σ:St) (H:Hp) (Q:Bool->Hp->Prop),bK X ah σ H s->t σ H Q->wpAny #[4] X.A (isTrue e X.env wB) (TP X ah σ Q) X.xe s
theorem PW.pt{X:Cx}{t:TT}(h:PW X e t):PT X e t:=h _
def PA(X:Cx)(es:List Expr)(t:TA):Prop:=
 ∀(pos:Pos) (ah:List (Addr×Obj)) (s:Shared) (σ:St) (H:Hp) (Q:List V->Hp->Prop),bK X ah σ H s->t σ H Q->wpAny #[4] X.A (spliced (backTo pos (starEach es X.env))) (AP X ah σ Q) X.xe s
def PS(X:Cx)(st:Stmt)(t:TS):Prop:=
 ∀(ah:List (Addr×Obj)) (s:Shared) (σ:St) (H:Hp) (D:zC),bK X ah σ H s->t D σ H->wpAny #[4] X.A (exec st X.env) (SP X ah D) X.xe s
def Ex(X:Cx)(st:List Stmt)(t:TS):Prop:=
 ∀(ah:List (Addr×Obj)) (s:Shared) (σ:St) (H:Hp) (D:zC),bK X ah σ H s->t D σ H->wpAny #[4] X.A (execs st X.env) (SP X ah D) X.xe s
theorem gG{t:Sem α}{Q Q':α->Shared->Prop}(h:wpAny M A t Q E s)(hQ:∀a s,Q a s->Q' a s):wpAny M A t Q' E s:=eX h hQ fun _ _ x=>x
section
variable{X:Cx}
def Sg(i:Nat):TE:=fun σ H Q=>∃v,σ[i]?=some (some v)/\Q v H
def tC(v:V):TE:=fun _ H Q=>Q v H
theorem Ot{x:Str}{pos:Pos}(hN:X.N[i]?=some x)(hv:Sf X.env.scope x)(hd:(x==("__debug__":Str))=false:=by decide)(FP:(x==("__classdict__":Str))=false:=by decide):PE X (.Name x pos) (Sg i):=by
 intro ah s σ H Q I h
 obtain⟨v,e,h⟩:=h
 obtain⟨m,hn,hl⟩:=I.loc
 obtain⟨u,r,l⟩:=hl i x v hN e hv
 have fin:EP X ah σ Q u s:=⟨v,H,I,r,h⟩
 rcases l with⟨hk,hm⟩|⟨hk,c,hc,gj⟩
 ·exact wpAny_Name (wpAny_loadName_local I.ok.kind hk hn hm fin) hd
 ·rcases hk with hk|hk
  ·exact wpAny_Name (wpAny_loadName_cell I.ok.kind hk hc gj fin) hd
  ·exact wpAny_Name (wpAny_loadName_free I.ok.kind hk hc gj fin FP) hd
theorem Ou{i j pos}:PE X (.Constant (.int i) j pos) (tC (.int i)):=fun _ _ _ H _ I h=>wpAny_Constant_int ⟨.int i,H,I.tok _,⟨_,rfl⟩,h⟩
theorem Si{b j pos}:PE X (.Constant (.bool b) j pos) (tC (.bl b)):=fun _ _ _ H _ I h=>Constant_bool ⟨.bl b,H,I,rfl,h⟩
theorem Ov{j pos}:PE X (.Constant .none j pos) (tC .non):=fun _ _ _ H _ I h=>qu ⟨.non,H,I,rfl,h⟩
theorem Ox{x j pos}:PE X (.Constant (.str x) j pos) (tC (.str x)):=fun _ _ _ H _ I h=>Calls.Constant_str ⟨.str x,H,I.tok _,⟨_,rfl⟩,h⟩
def Gl(X:Cx)(x:Str):Prop:=X.env.kindOf x=some .globalImplicit
theorem uN{E:Value->Shared->Prop}{σ:St}{H:Hp}{x:Str}{pos:Pos}(I:bK X ah σ H s)(hg:Gl X x)(hm:X.mg x=some u)(h:Q u s)
  (hd:(x==("__debug__":Str))=false:=by decide):wpAny #[4] X.A (eval (.Name x pos) X.env) Q E s:=
 lW I.ok.kind hg (Calls.loadGlobal_global (by rw[I.ok.glob];exact I.mod.glob.keeps I.bk) hm h) hd
theorem lL{E:Value->Shared->Prop}{σ:St}{H:Hp}{x:Str}{pos:Pos}(I:bK X ah σ H s)(hg:Gl X x)(hm:X.mg x=none)(hv:bootBuiltins x=some u)(h:Q u s)
  (hn:x ≠ "__name__":=by decide) (hd:(x==("__debug__":Str))=false:=by decide):wpAny #[4] X.A (eval (.Name x pos) X.env) Q E s:=by
 obtain⟨mb,h1,h2⟩:=I.mod.blt
 exact lW I.ok.kind hg (Calls.loadGlobal_builtin (by rw[I.ok.glob];exact I.mod.glob.keeps I.bk) hm (by rw[I.ok.blt];exact h1.keeps I.bk) ((h2 x hn).trans hv) h) hd
theorem Ko{x:Str}{v:V}{pos:Pos}(hg:Gl X x)(hm:X.mg x=some u)(r:cL v u)(hd:(x==("__debug__":Str))=false:=by decide):PE X (.Name x pos) (tC v):=
 fun _ _ _ H _ I h=>uN I hg hm ⟨v,H,I,r,h⟩ hd
theorem Kq{x:Str}{v:V}{pos:Pos}(hg:Gl X x)(hm:X.mg x=none)(hv:bootBuiltins x=some u)(r:cL v u)(hn:x ≠ "__name__":=by decide)(hd:(x==("__debug__":Str))=false:=by decide):PE X (.Name x pos) (tC v):=
 fun _ _ _ H _ I h=>lL I hg hm hv ⟨v,H,I,r,h⟩ hn hd
variable{a b:Expr}{ta tb:TE}
def PC(X:Cx)(op:CmpOp)(a b:Expr)(t:TE):Prop:=
 ∀(ah:List (Addr×Obj)) (s:Shared) (σ:St) (H:Hp) (Q:VK),bK X ah σ H s->t σ H Q ->
  wpAny #[4] X.A (eval a X.env) (fun v s₁=>wpAny #[4] X.A (eval b X.env) (fun u s₂=>wpAny #[4] X.A (compareOp op v u) (EP X ah σ Q) X.xe s₂) X.xe s₁) X.xe s
theorem zD(b:Expr)(h:op≠.In)(h2:op≠.NotIn):behindInMarks op b=false:=by
 have e1:(op==CmpOp.In)=false:=by cases op<;>first|rfl|exact absurd rfl h
 have e2:(op==CmpOp.NotIn)=false:=by cases op<;>first|rfl|exact absurd rfl h2
 cases b<;>simp[behindInMarks,e1,e2]
def Sj(ta:TE):TE:=fun σ H Q=>ta σ H fun x H1=>Q (.bl (decide (x=.non))) H1
def Mq(ta:TE):TE:=fun σ H Q=>ta σ H fun x H1=>Q (.bl (!decide (x=.non))) H1
theorem cL.none_iff{x:V}(r:cL x v):(v==Value.none)=decide (x=.non):=by
 cases x with
 |non=>cases r;rfl
 |bl _=>cases r;rfl
 |int _=>obtain⟨t,rfl⟩:=r;rfl
 |str _=>obtain⟨t,rfl⟩:=r;rfl
 |byt _=>obtain⟨t,rfl⟩:=r;rfl
 |flt _=>obtain⟨t,rfl⟩:=r;rfl
 |ref _=>cases r;rfl
 |ty _=>cases r;rfl
theorem FV{j ij}(ha:PE X a ta):PC X .Is a (.Constant .none j ij) (Sj ta):=by
 intro ah s σ H Q I h
 refine gG (ha ah s σ H _ I h) fun v s1 zq=>?_
 obtain⟨x,H1,I1,r1,q1⟩:=zq
 exact qu (is_none_gen ⟨.bl _,H1,I1,by rw[r1.none_iff];rfl,q1⟩)
theorem Kr{j ij}(ha:PE X a ta):PC X .IsNot a (.Constant .none j ij) (Mq ta):=by
 intro ah s σ H Q I h
 refine gG (ha ah s σ H _ I h) fun v s1 zq=>?_
 obtain⟨x,H1,I1,r1,q1⟩:=zq
 exact qu (isnot_none_gen ⟨.bl _,H1,I1,by rw[r1.none_iff];rfl,q1⟩)
def tB(t:TE):TT:=fun σ H Q=>t σ H fun x H1=>∃c,x=.bl c/\Q c H1
theorem Oy{t:TE}(h:PC X op a b t)(h1:behindInMarks op b=false:=by first|exact zD _ #[1] #[1]|rfl):PE X (.Compare a [op] [b] pos) t:=fun ah s σ H Q I hw=>wpAny_Compare1 (h ah s σ H Q I hw) h1
theorem FW{t:TE}(h:PC X op a b t)(h1:behindInMarks op b=false:=by first|exact zD _ #[1] #[1]|rfl):PT X (.Compare a [op] [b] pos) (tB t):=by
 intro ah s σ H Q I hw
 refine oQ (gG (h ah s σ H _ I hw) fun v s1 h1=>gG h1 fun u s2 h2=>gG h2 fun c s3 zq=>?_) h1
 obtain⟨x,H1,I1,r1,q1⟩:=zq
 obtain⟨d,rfl,q⟩:=q1
 cases r1
 exact fT ⟨H1,I1,q⟩
theorem Oz{t:TE}(h:PE X e t)(he:∀wB,isTrue e X.env wB=(do let v <- wB;standAt e.pos;holding [v] (truthy v)):=by intro _;rfl):PT X e (tB t):=by
 intro ah s σ H Q I hw
 refine isTrue_plain (gG (h ah s σ H _ I hw) fun v s1 zq=>?_) (he _)
 obtain⟨x,H1,I1,r1,q1⟩:=zq
 obtain⟨d,rfl,q⟩:=q1
 cases r1
 exact fT ⟨H1,I1,q⟩
variable{tA W9:TT}{f':List Expr}
def XB(t u:TT):TT:=fun σ H Q=>t σ H fun c H1=>if c=true then Q true H1 else u σ H1 Q
def V9(t:TT):TT:=fun σ H Q=>t σ H fun c H1=>Q (!c) H1
theorem OA(ha:PT X a tA):PW X (.BoolOp .Or [a] pos) tA:=by
 intro wh ah s σ H Q I h
 refine isTrue_or (gG (ha ah s σ H Q I h) fun c s1 e=>?_)
 cases c with
 |false=>exact isTrue_or_nil e
 |true=>exact e
theorem Sk(ha:PT X a tA)(hb:PW X (.BoolOp .Or (b::f') pos) W9):PW X (.BoolOp .Or (a::b::f') pos) (XB tA W9):=by
 intro wh ah s σ H Q I h
 refine isTrue_or (gG (ha ah s σ H _ I h) fun c s1 zq=>?_)
 obtain⟨H1,I1,q1⟩:=zq
 cases c with
 |true=>exact⟨H1,I1,q1⟩
 |false=>exact hb wh ah s1 σ H1 Q I1 q1
theorem OB(ha:PT X a tA):PT X (.UnaryOp .Not a pos) (V9 tA):=by
 intro ah s σ H Q I h
 exact isTrue_not (ha ah s σ H (fun c H1=>Q (!c) H1) I h)
def Sl(ta tb:TE):TE:=fun σ H Q=>ta σ H fun x H1=>∃c,x=.bl c/\if c=true then tb σ H1 Q else Q (.bl false) H1
def V_(ta tb:TE):TE:=fun σ H Q=>ta σ H fun x H1=>∃c,x=.bl c/\if c=true then Q (.bl true) H1 else tb σ H1 Q
def Sm(ta:TE):TE:=fun σ H Q=>ta σ H fun x H1=>∃c,x=.bl c/\Q (.bl (!c)) H1
theorem OC{op}{t:TE}(h:PE X a t):PE X (.BoolOp op [a] pos) t:=fun ah s σ H Q I hw=>BoolOp_one (h ah s σ H Q I hw)
theorem OD(ha:PE X a ta)(hb:PE X (.BoolOp .And (b::f') pos) tb):PE X (.BoolOp .And (a::b::f') pos) (Sl ta tb):=by
 intro ah s σ H Q I h
 refine BoolOp_and (gG (ha ah s σ H _ I h) fun v s1 zq=>?_)
 obtain⟨x,H1,I1,r1,q1⟩:=zq
 obtain⟨c,rfl,q1⟩:=q1
 cases r1
 refine fT ?_
 cases c with
 |true=>exact hb ah s1 σ H1 Q I1 q1
 |false=>exact⟨.bl false,H1,I1,rfl,q1⟩
theorem Sn(ha:PE X a ta)(hb:PE X (.BoolOp .Or (b::f') pos) tb):PE X (.BoolOp .Or (a::b::f') pos) (V_ ta tb):=by
 intro ah s σ H Q I h
 refine BoolOp_or (gG (ha ah s σ H _ I h) fun v s1 zq=>?_)
 obtain⟨x,H1,I1,r1,q1⟩:=zq
 obtain⟨c,rfl,q1⟩:=q1
 cases r1
 refine fT ?_
 cases c with
 |false=>exact hb ah s1 σ H1 Q I1 q1
 |true=>exact⟨.bl true,H1,I1,rfl,q1⟩
theorem OE(ha:PE X a ta):PE X (.UnaryOp .Not a pos) (Sm ta):=by
 intro ah s σ H Q I h
 refine UnaryOp_ (gG (ha ah s σ H _ I h) fun v s1 zq=>?_)
 obtain⟨x,H1,I1,r1,q1⟩:=zq
 obtain⟨c,rfl,q1⟩:=q1
 cases r1
 exact not_of (fT ⟨.bl (!c),H1,I1,rfl,q1⟩)
def XC(t:TT)(ta tb:TE):TE:=fun σ H Q=>t σ H fun c H1=>if c=true then ta σ H1 Q else tb σ H1 Q
theorem FX{c:Expr}(hc:PT X c tA)(ha:PE X a ta)(hb:PE X b tb):PE X (.IfExp c a b pos) (XC tA ta tb):=by
 intro ah s σ H Q I h
 refine wpAny_IfExp (gG (hc ah s σ H _ I h) fun d s1 zq=>?_)
 obtain⟨H1,I1,q1⟩:=zq
 cases d with
 |true=>exact ha ah s1 σ H1 Q I1 q1
 |false=>exact hb ah s1 σ H1 Q I1 q1
end
def p8(K:Frag)(H:Hp)(a:Addr)(xs:List V):Prop:=
 Rd H a (.lst xs) \/
  ∃(o:Obj) (bw:Array Value) (n:Nat),K.lookup a=some o/\o.cls=.type "list"/\o.dict=none/\o.data=.seq bw n/\bw.size<=sizeLine/\cG xs bw.toList
def gp(K:Frag)(H:Hp)(a:Addr)(xs:List V):Prop:=
 Rd H a (.tup xs) \/
  ∃(o:Obj) (bw:Array Value) (n:Nat),K.lookup a=some o/\o.cls=.type "tuple"/\o.data=.seq bw n/\bw.size<=sizeLine/\cG xs bw.toList
noncomputable def V':Value->Option V
 |.none=>some .non
 |.bool b=>some (.bl b)
 |.int i _=>some (.int i)
 |.str x _=>some (.str x)
 |.bytes b _=>some (.byt b)
 |.float b _=>some (.flt b)
 |.ref a=>some (.ref a)
 |.type n=>some (.ty n)
 |_=>none
theorem cL.abs{x:V}(r:cL x u):V' u=some x:=by
 cases x with
 |non=>cases r;rfl
 |bl _=>cases r;rfl
 |int _=>obtain⟨t,rfl⟩:=r;rfl
 |str _=>obtain⟨t,rfl⟩:=r;rfl
 |byt _=>obtain⟨t,rfl⟩:=r;rfl
 |flt _=>obtain⟨t,rfl⟩:=r;rfl
 |ref _=>cases r;rfl
 |ty _=>cases r;rfl
theorem cL.inj{x y:V}(r:cL x u)(q:cL y u):x=y:=aG (r.abs.symm.trans q.abs)
theorem cG.inj:∀{xs ys:List V} {us:List Value},cG xs us->cG ys us->xs=ys
 |_,_,_,.nil,.nil=>rfl
 |_,_,_,.cons r t,.cons r' t'=>by rw[r.inj r',cG.inj t t']
section
variable{X:Cx}{σ:St}{H:Hp}{xs ys:List V}
theorem p8.of(h:H a=some (.lst xs)):p8 K H a xs:=.inl (.inl h)
theorem gp.of(h:H a=some (.tup xs)):gp K H a xs:=.inl (.inl h)
theorem bK.list(I:bK X ah σ H s)(h:p8 X.K H a xs):∃bw:List Value,cG xs bw/\PlainL s.heap a bw.toArray/\xs.length<=sizeLine:=by
 rcases h with h|⟨o,bw,n,hk,hc,hd,hs,hz,r⟩
 ·obtain⟨z,bw,n,r,e⟩:=h.ok I.hok
  exact⟨bw,r,⟨_,n,e,rfl,rfl,rfl⟩,z⟩
 ·refine⟨bw.toList,r,⟨o,n,I.kIn a o hk,hc,hd,by simpa using hs⟩,?_⟩
  have e:=r.length
  simp only[dX]at e
  omega
theorem bK.tuple(I:bK X ah σ H s)(h:gp X.K H a xs):∃bw:List Value,cG xs bw/\IsTup s.heap a bw.toArray/\xs.length<=sizeLine:=by
 rcases h with h|⟨o,bw,n,hk,hc,hs,hz,r⟩
 ·obtain⟨z,bw,r,p⟩:=h.ok I.hok
  exact⟨bw,r,p,z⟩
 ·refine⟨bw.toList,r,⟨o,I.kIn a o hk,hc,n,by simpa using hs⟩,?_⟩
  have e:=r.length
  simp only[dX]at e
  omega
theorem bK.list_inj(I:bK X ah σ H s)(h:p8 X.K H a xs)(h':p8 X.K H a ys):xs=ys:=by
 obtain⟨bw,r,⟨o,n,e,_,_,d⟩,_⟩:=I.list h
 obtain⟨its',r',⟨o',n',e',_,_,d'⟩,_⟩:=I.list h'
 rw[e]at e';cases e'
 rw[d]at d'
 injection d' with d1 _
 have:bw=its':=by simpa using iQ Array.toList d1
 subst this
 exact r.inj r'
theorem bK.tuple_inj(I:bK X ah σ H s)(h:gp X.K H a xs)(h':gp X.K H a ys):xs=ys:=by
 obtain⟨bw,r,⟨o,e,_,n,d⟩,_⟩:=I.tuple h
 obtain⟨its',r',⟨o',e',_,n',d'⟩,_⟩:=I.tuple h'
 rw[e]at e';cases e'
 rw[d]at d'
 injection d' with d1 _
 have:bw=its':=by simpa using iQ Array.toList d1
 subst this
 exact r.inj r'
end
section
variable{X:Cx}{σ:St}{H:Hp}
end
section
variable{X:Cx}{st:Stmt}{f':List Stmt}{t u:TS}{te:TE}
def So:TS:=fun D σ H=>D.nx σ H
def Wa(t u:TS):TS:=fun D σ H=>t { D with nx:=u D } σ H
theorem Kt:Ex X [] So:=fun _ _ σ H _ I h=>kT ⟨σ,H,I,h⟩
theorem FY(h1:PS X st t)(h2:Ex X f' u):Ex X (st::f') (Wa t u):=by
 intro ah s σ H D I h
 refine wpAny_execs_cons (gG (h1 ah s σ H { D with nx:=u D } I h) fun f s1 q=>?_)
 cases f with
 |next=>
  obtain⟨σ',H',I',q⟩:=q
  exact h2 ah s1 σ' H' D I' q
 |ret v=>exact q
 |brk=>exact q
 |cont=>exact q
theorem Ku(h1:PS X st t):Ex X [st] t:=by
 intro ah s σ H D I h
 refine wpAny_execs_cons (gG (h1 ah s σ H D I h) fun f s1 q=>?_)
 cases f with
 |next=>exact kT q
 |ret v=>exact q
 |brk=>exact q
 |cont=>exact q
theorem bK.quiet{σ:St}{H:Hp}(I:bK X ah σ H s):interactive X.env=false:=by simp[interactive,I.ok.kind]
def Sq(te:TE):TS:=fun D σ H=>te σ H fun _ H1=>D.nx σ H1
theorem Kv(he:PE X e te)(hs:swapsWith e none pos.line X.env=pure false:=by rfl):PS X (.Expr e pos) (Sq te):=by
 intro ah s σ H D I h
 exact wpAny_Expr_any (gG (he ah s σ H _ I h) fun v s1 zq=>by obtain⟨x,H1,I1,r1,q1⟩:=zq;exact ⟨σ,H1,I1,q1⟩) I.quiet hs
def Wb(te:TE):TS:=fun D σ H=>te σ H D.rt
theorem OF(he:PE X e te):PS X (.Return (some e) pos) (Wb te):=by
 intro ah s σ H D I h
 exact wpAny_Return_some (gG (he ah s σ H _ I h) fun v s1 zq=>by obtain⟨x,H1,I1,r1,q1⟩:=zq;exact ⟨x,σ,H1,I1,r1,q1⟩)
def Wc(c:TT)(t u:TS):TS:=fun D σ H=>c σ H fun b H1=>if b=true then t D σ H1 else u D σ H1
theorem Ss{c:Expr}{a b:List Stmt}{tc:TT}(hc:PT X c tc)(ha:Ex X a t)(hb:Ex X b u):PS X (.If c a b pos) (Wc tc t u):=by
 intro ah s σ H D I h
 refine wpAny_If (gG (hc ah s σ H _ I h) fun d s1 zq=>?_)
 obtain⟨H1,I1,q1⟩:=zq
 cases d with
 |true=>exact ha ah s1 σ H1 D I1 q1
 |false=>exact hb ah s1 σ H1 D I1 q1
end
abbrev TG:=V->St->Hp->(St->Hp->Prop)->Prop
abbrev Kw:=List V->St->Hp->(St->Hp->Prop)->Prop
def PG(X:Cx)(RX:Expr)(t:TG):Prop:=
 ∀(ah:List (Addr×Obj)) (s:Shared) (σ:St) (H:Hp) (v:V) (u:Value) (Q:St->Hp->Prop),bK X ah σ H s->cL v u->t v σ H Q ->
  wpAny #[4] X.A (assign RX X.env u) (fun _ s'=>∃σ' H',bK X ah σ' H' s'/\Q σ' H') X.xe s
def Mr(X:Cx)(ts:List Expr)(t:Kw):Prop:=
 ∀(ah:List (Addr×Obj)) (s:Shared) (σ:St) (H:Hp) (vs:List V) (us:List Value) (Q:St->Hp->Prop),bK X ah σ H s->cG vs us->t vs σ H Q ->
  wpAny #[4] X.A (assignInOrder ((assignEach ts X.env).map (·.2)) us) (fun _ s'=>∃σ' H',bK X ah σ' H' s'/\Q σ' H') X.xe s
abbrev Kx:=V->V->V->Hp->(Hp->Prop)->Prop
def Ey(X:Cx)(t:Kx):Prop:=
 ∀(ah:List (Addr×Obj)) (s:Shared) (σ:St) (H:Hp) (o i v:V) (ov iv u:Value) (Q:Hp->Prop),bK X ah σ H s->cL o ov->cL i iv->cL v u->t o i v H Q ->
  wpAny #[4] X.A (setItem ov iv u) (fun _ s'=>∃H',bK X ah σ H' s'/\Q H') X.xe s
section
variable{X:Cx}
def Ms(i:Nat):TG:=fun v σ H Q=>Q (σ.set i (some v)) H
theorem Ky{x:Str}(hN:X.N.Nodup)(hi:X.N[i]?=some x)(hx:Km X.env.scope x)(hf:X.fn x=true\/X.env.scope.names.lookup x=some .local:=by first|exact .inl rfl|exact .inr rfl|assumption):PG X (.Name x pos) (Ms i):=by
 intro ah s σ H v u Q I r h
 exact wpAny_assign_Name (zB I hN hi hx r (fun s' I'=>⟨_,H,I',h⟩) hf)
def Wd:Kw:=fun vs σ H Q=>vs=[]/\Q σ H
def Su(t:TG)(u:Kw):Kw:=fun vs σ H Q=>∃v r,vs=v::r/\t v σ H fun σ' H'=>u r σ' H' Q
theorem Kz:Mr X [] Wd:=by
 intro ah s σ H vs us Q I r h
 obtain⟨e,h⟩:=h
 subst e
 cases r
 exact assignInOrder_nil ⟨σ,H,I,h⟩
theorem FZ{t:TG}{u:Kw}(h1:PG X e t)(h2:Mr X es u)
  (hs:(assignEach (e::es) X.env).map (·.2)=assign e X.env::(assignEach es X.env).map (·.2):=by rfl):Mr X (e::es) (Su t u):=by
 intro ah s σ H vs us Q I r h
 obtain⟨v,vr,e1,h⟩:=h
 subst e1
 cases r with
 |cons r rr=>
  rw[hs]
  refine assignInOrder_cons (gG (h1 ah s σ H _ _ _ I r h) fun _ s1 zq=>?_)
  obtain⟨σ1,H1,I1,q1⟩:=zq
  exact h2 ah s1 σ1 H1 _ _ Q I1 rr q1
def We(K:Frag)(n:Nat)(t:Kw):TG:=fun v σ H Q=>∃a xs,v=.ref a/\gp K H a xs/\xs.length=n/\t xs σ H Q
theorem OG{k:Nat}{t:Kw}(hc:X.calm=true)(h:Mr X es t)
  (hn:(assignEach es X.env).length=n:=by rfl) (nA:(assignEach es X.env).findIdx? (·.1)=none:=by rfl):PG X (.Tuple es k pos) (We X.K n t):=by
 intro ah s σ H v u Q I r hw
 obtain⟨a,xs,e1,hq,hl,hw⟩:=hw
 subst e1
 cases r
 obtain⟨bw,rv,ht,hz⟩:=I.tuple hq
 refine assign_Tuple_tuple (I.ok.hd hc) ht (by simp[hn,<- hl,rv.length]) nA fun h' hx=>?_
 have I1:bK X ah σ H { s with heap:=h' }:=I.kept (t':=s.toks) fun b o e=>hx b o (a8 (aD e)) e
 exact h ah _ σ H xs _ Q I1 (by simpa using rv) hw
def Wf(to ti:TE)(t:Kx):TG:=fun v σ H Q=>to σ H fun o H1=>ti σ H1 fun i H2=>t o i v H2 fun H3=>Q σ H3
theorem OH{i:Expr}{to ti:TE}{t:Kx}(ho:PE X o to)(hi:PE X i ti)(hs:Ey X t)
  (ha:∀v,assign (.Subscript o i pos) X.env v=(do
   let ov <- holding [v] (eval o X.env)
   let iv <- holding [v,ov] (eval i X.env)
   standAt pos
   holding [v,ov,iv] (setItem ov iv v)
   release [v,ov,iv] []):=by intro _;rfl):PG X (.Subscript o i pos) (Wf to ti t):=by
 intro ah s σ H v u Q I r h
 rw[ha]
 refine aa (dO (gG (ho ah s σ H _ I h) fun ov s1 zq=>?_))
 obtain⟨x,H1,I1,r1,q1⟩:=zq
 refine aa (dO (gG (hi ah s1 σ H1 _ I1 q1) fun iv s2 zq=>?_))
 obtain⟨y,H2,I2,r2,q2⟩:=zq
 refine aa (qv (aa (dO (gG (hs ah s2 σ H2 x y v ov iv u _ I2 r1 r2 r q2) fun _ s3 zq=>?_))))
 obtain⟨H3,I3,q3⟩:=zq
 exact wpAny_release ⟨σ,H3,I3,q3⟩
def KA(te:TE)(g:TG):TS:=fun D σ H=>te σ H fun x H1=>g x σ H1 D.nx
theorem OI{te:TE}{g:TG}(he:PE X e te)(hg:PG X tg g)(hs:swapsWithSole [tg] e pos.line X.env=pure false:=by rfl)(hw:swappedStores [tg] e X.env=pure none:=by rfl)
  (h1:(assignEach [tg] X.env).map (·.2)=[assign tg X.env]:=by rfl):PS X (.Assign [tg] e pos) (KA te g):=by
 intro ah s σ H D I h
 refine wpAny_Assign_stores (gG (he ah s σ H _ I h) fun v s1 zq=>?_) hs hw
 obtain⟨x,H1,I1,r1,q1⟩:=zq
 rw[h1]
 exact gG (hg ah s1 σ H1 x v _ I1 r1 q1) fun _ s2 q=>q
theorem OJ{x:Str}{te:TE}(hN:X.N.Nodup)(hi:X.N[i]?=some x)(hx:Km X.env.scope x)(he:PE X e te)(hs:swapsWith e (some (.Name x ij)) pos.line X.env=pure false:=by rfl)(hf:X.fn x=true\/X.env.scope.names.lookup x=some .local:=by first|exact .inl rfl|exact .inr rfl|assumption) :
  PS X (.Assign [.Name x ij] e pos) (KA te (Ms i)):=by
 intro ah s σ H D I h
 refine wpAny_Assign_Name (gG (he ah s σ H _ I h) fun v s1 zq=>?_) hs
 obtain⟨y,H1,I1,r1,q1⟩:=zq
 exact zB I1 hN hi hx r1 (fun s2 I2=>⟨_,H1,I2,q1⟩) hf
end
section
variable{X:Cx}
def F0(c:TT)(tb:TS):TS:=fun D σ H=>∃W:Nat->St->Hp->Prop,(∃m,W m σ H)/\∀m σ H,W m σ H ->
 c σ H fun b H1=>if b=true then ∃N:St->Hp->Prop,(∀σ' H',N σ' H'->∃m',m'<m/\W m' σ' H')/\tb { D with nx:=N,ct:=N,bk:=D.nx } σ H1 else D.nx σ H1
theorem F1{c:Expr}{tc:TT}{tb:TS}(hp:PassesOwn #[4] X.A X.env X.xe)(hc:PT X c tc)(hb:Ex X body tb):PS X (.While c body [] pos) (F0 tc tb):=by
 intro ah s σ H D I h
 obtain⟨W,⟨m0,w0⟩,turn⟩:=h
 refine wpAny_While (codeAny_whileLoop (fun n s'=>∃σ' H',bK X ah σ' H' s'/\W n σ' H') ?_ m0 ⟨σ,H,I,w0⟩)
 rintro n s1 ⟨σ1,H1,I1,w1⟩
 refine fR hp (gG (hc ah s1 σ1 H1 _ I1 (turn n σ1 H1 w1)) fun b s2 zq=>?_)
 obtain⟨H2,I2,q2⟩:=zq
 cases b with
 |true=>
  obtain⟨N,hN,q2⟩:=q2
  rw[au rfl]
  refine fR hp (gG (hb ah s2 σ1 H2 _ I2 q2) fun f s3 q3=>?_)
  cases f with
  |next=>
   obtain⟨σ3,H3,I3,n3⟩:=q3
   obtain⟨m',hm,w3⟩:=hN σ3 H3 n3
   exact⟨m',hm,σ3,H3,I3,w3⟩
  |cont=>
   obtain⟨σ3,H3,I3,n3⟩:=q3
   obtain⟨m',hm,w3⟩:=hN σ3 H3 n3
   exact⟨m',hm,σ3,H3,I3,w3⟩
  |brk=>exact q3
  |ret v=>exact q3
 |false=>
  rw[ay cP]
  exact kT ⟨σ1,H2,I2,q2⟩
end
structure It where
 go:Nat->Hp->Prop
 yld:Nat->Hp->V->Hp->Prop
 stop:Nat->Hp->Prop
def sL(X:Cx)(ah:List (Addr×Obj))(H:Hp)(b:Addr):Prop:=
 H b=none/\b≠X.env.locals/\b∉X.fs/\(b∈X.ex\/X.s₀.heap.objs.size<=b)/\(∀x c,X.env.cells.lookup x=some c->c≠b)/\∀p∈X.pn++ah,p.1≠b
theorem bK.fpOk{X:Cx}{σ:St}{H H':Hp}(I:bK X ah σ H s)(hb:s.heap.objs.size<=b)(hn:H' b=none):sL X ah H' b:=by
 refine⟨hn,fU (aL I.lt hb),I.nofs hb,.inr (aR I.sz hb),fun x c e z=>?_,fun p hp z=>?_⟩
 ·obtain⟨v,q⟩:=I.cell x c e
  exact absurd (aL q.lt (by rw[z];exact hb)) (cr _)
 ·exact absurd (aL (aD (I.pin p hp).1) (by rw[z];exact hb)) (cr _)
structure x5(P:Program)(w:World)(K:Frag)(tg:Expr)(J:It)(fp:List Addr)(it:Addr)(tn:Nat->Heap->Prop):Prop where
 mem:it∈fp
 obj:∀i h,tn i h->∀b∈fp,∃o,h.get? b=some o/\∀v,o.data≠.cell v
 keep:∀i h h',tn i h->(∀b∈fp,∀o,h.get? b=some o->h'.get? b=some o)->tn i h'
 item:∀(X:Cx),X.prog=P->X.w=w->X.K=K->X.calm=true->∀(i:Nat) (ah:List (Addr×Obj)) (s:Shared) (σ:St) (H:Hp) (E:Value->Shared->Prop),bK X ah σ H s->(∀b∈fp,sL X ah H b)->tn i s.heap->J.go i H ->
  wpAny (model P w) X.A (pyNext (.ref it)) (fun r s1=>∃u,r=some u /\
   wpAny (model P w) X.A (letOwnedTupleGo tg (.ref it) u) (fun _ s2=>∃x H',bK X ah σ H' s2/\cL x u/\J.yld i H x H'/\tn (i+1) s2.heap/\∀b∈fp,H' b=none) E s1) E s
 done:∀(X:Cx),X.prog=P->X.w=w->X.K=K->X.calm=true->∀(i:Nat) (ah:List (Addr×Obj)) (s:Shared) (σ:St) (H:Hp) (E:Value->Shared->Prop),bK X ah σ H s->(∀b∈fp,sL X ah H b)->tn i s.heap->J.stop i H ->
  wpAny (model P w) X.A (pyNext (.ref it)) (fun r s1=>r=none/\bK X ah σ H s1) E s
 self:∀(A:Around) (i:Nat) (s:Shared) (Q:Value->Shared->Prop) (E:Value->Shared->Prop),tn i s.heap->Q (.ref it) s->wpAny (model P w) A (pyIter (.ref it)) Q E s
abbrev TI:=St->Hp->(It->Hp->Prop)->Prop
def Vz(X:Cx)(ah:List (Addr×Obj))(σ:St)(tg:Expr)(R:It->Hp->Prop)(W2:Value)(s2:Shared):Prop:=
 ∃(it:Addr) (fp:List Addr) (tn:Nat->Heap->Prop) (J:It) (H':Hp),W2=.ref it/\bK X ah σ H' s2/\x5 X.prog X.w X.K tg J fp it tn/\tn 0 s2.heap/\(∀b∈fp,sL X ah H' b)/\R J H'
def PI(X:Cx)(tg dw:Expr)(wi:TI):Prop:=
 ∀(ah:List (Addr×Obj)) (s:Shared) (σ:St) (H:Hp) (R:It->Hp->Prop),bK X ah σ H s->wi σ H R ->
  wpAny #[4] X.A (eval dw X.env) (fun v s1=>wpAny #[4] X.A (pyIter v) (Vz X ah σ tg R) X.xe s1) X.xe s
theorem CU      {E:Value -> Shared -> Prop} {s:Shared}    {o:Obj} {n:String} {vs:Array Value} {Q:Unit -> Shared -> Prop} (ho : s.heap.get? it = some o) (hc : o.cls = .type n) (hd : o.data = .fields vs)
    (hn : ["enumerate", "zip", "dict_itemiterator", "dict_reverseitemiterator", "odict_iterator", "itertools.zip_longest", "itertools.pairwise"].contains n = false) (hQ : Q () s) : wpAny M A (letOwnedTupleGo tg (.ref it) u) Q E s := by
  unfold letOwnedTupleGo
  cases tg <;> first
    | exact aq         hQ
    | (cases u <;> first
        | exact aq         hQ
        | (refine aa         (wpAny_load ho ?_)
           rw [hc, hd]
           show wpAny M A (if (["enumerate", "zip", "dict_itemiterator", "dict_reverseitemiterator", "odict_iterator", "itertools.zip_longest", "itertools.pairwise"].contains n && vs[0]? == some (rawInt _)) = true then _ else _) Q E s
           rw [ay     (by intro h; rw [hn, Bool.false_and] at h; cases h)]
           exact aq         hQ))
noncomputable def Xc(K:Frag)(a:Addr):It:=
 ⟨fun i H=>∃xs x,p8 K H a xs/\xs[i]?=some x,fun i H x H'=>H'=H/\∀xs,p8 K H a xs->xs[i]?=some x,fun i H=>∃xs,p8 K H a xs/\xs.length<=i⟩
noncomputable def Xd(K:Frag)(a:Addr):It:=
 ⟨fun i H=>∃xs x,gp K H a xs/\xs[i]?=some x,fun i H x H'=>H'=H/\∀xs,gp K H a xs->xs[i]?=some x,fun i H=>∃xs,gp K H a xs/\xs.length<=i⟩
noncomputable def VA(lo:Int)(n:Nat):It:=⟨fun i _=>i<n,fun i H x H'=>H'=H/\x=.int (lo+i),fun i _=>n<=i⟩
theorem Ez{w:World}(a it:Addr):x5 P w K tg (Xc K a) [it] it (fun i h=>h.IsListIter it a i) where
 mem:=by simp
 obj:=fun i h st b hb=>by
  have e:b=it:=by simpa using hb
  subst e
  obtain⟨o,e,c,d⟩:=st
  exact⟨o,e,fun v z=>by rw[d]at z;cases z⟩
 keep:=fun i h h' st k=>st.at fun o e=>k it #[9] o e
 item:=by
  intro X hP hw hK hc i ah s σ H E I hf st hg
  subst hP hw hK
  obtain⟨xs,x,hq,hx⟩:=hg
  obtain⟨bw,rv,p,hz⟩:=I.list hq
  obtain⟨u,hu,ru⟩:=rv.get hx
  obtain⟨f0,f1,f2,f3,f4,f5⟩:=hf it (by simp)
  refine wpAny_pyNext_list_item st p.isList (x:=u) (by simpa using hu) fun h' bz sb=>?_
  have I1:bK X ah σ H { s with heap:=h' }:=I.turned (t':=s.toks) (fun b o hb e=>(sb.2 b hb).trans e) f0 f1 f3 f4 f5
  obtain⟨o,e,c,d⟩:=id bz
  exact⟨u,rfl,CU (s:={ s with heap:=h' }) e c d #[1] ⟨x,H,I1,ru,⟨rfl,fun ys hy=>by rw[I.list_inj hy hq];exact hx⟩,bz,fun b hb=>(hf b hb).1⟩⟩
 done:=by
  intro X hP hw hK hc i ah s σ H E I hf st hg
  subst hP hw hK
  obtain⟨xs,hq,hx⟩:=hg
  obtain⟨bw,rv,p,hz⟩:=I.list hq
  obtain⟨f0,f1,f2,f3,f4,f5⟩:=hf it (by simp)
  have hl:=rv.length
  exact wpAny_pyNext_list_end (I.ok.hd hc) st p.isList (by simp;omega) fun h' eb=>⟨rfl,I.turned (t':=s.toks) (fun b o hb e=>eb b o hb e) f0 f1 f3 f4 f5⟩
 self:=fun _ _ _ _ _ st h=>wpAny_pyIter_listiter st h
theorem BA{w:World}(a it:Addr):x5 P w K tg (Xd K a) [it] it (fun i h=>h.IsTupleIter it a i) where
 mem:=by simp
 obj:=fun i h st b hb=>by
  have e:b=it:=by simpa using hb
  subst e
  obtain⟨o,e,c,d⟩:=st
  exact⟨o,e,fun v z=>by rw[d]at z;cases z⟩
 keep:=fun i h h' st k=>st.at fun o e=>k it #[9] o e
 item:=by
  intro X hP hw hK hc i ah s σ H E I hf st hg
  subst hP hw hK
  obtain⟨xs,x,hq,hx⟩:=hg
  obtain⟨bw,rv,p,hz⟩:=I.tuple hq
  obtain⟨u,hu,ru⟩:=rv.get hx
  obtain⟨f0,f1,f2,f3,f4,f5⟩:=hf it (by simp)
  refine wpAny_pyNext_tuple_item st (show s.heap.IsTuple a bw.toArray from p) (x:=u) (by simpa using hu) fun h' bz sb=>?_
  have I1:bK X ah σ H { s with heap:=h' }:=I.turned (t':=s.toks) (fun b o hb e=>(sb.2 b hb).trans e) f0 f1 f3 f4 f5
  obtain⟨o,e,c,d⟩:=id bz
  exact⟨u,rfl,CU (s:={ s with heap:=h' }) e c d #[1] ⟨x,H,I1,ru,⟨rfl,fun ys hy=>by rw[I.tuple_inj hy hq];exact hx⟩,bz,fun b hb=>(hf b hb).1⟩⟩
 done:=by
  intro X hP hw hK hc i ah s σ H E I hf st hg
  subst hP hw hK
  obtain⟨xs,hq,hx⟩:=hg
  obtain⟨bw,rv,p,hz⟩:=I.tuple hq
  obtain⟨f0,f1,f2,f3,f4,f5⟩:=hf it (by simp)
  have hl:=rv.length
  exact wpAny_pyNext_tuple_end (I.ok.hd hc) st (show s.heap.IsTuple a bw.toArray from p) (by simp;omega) fun h' eb=>⟨rfl,I.turned (t':=s.toks) (fun b o hb e=>eb b o hb e) f0 f1 f3 f4 f5⟩
 self:=fun _ _ _ _ _ st h=>wpAny_pyIter_tupleiter st h
theorem BB{w:World}(it:Addr)(lo:Int)(n:Nat):x5 P w K tg (VA lo n) [it] it (fun i h=>IsRangeIter h it (lo+(i:Nat)*1) ((n:Int)-(i:Nat)) 1) where
 mem:=by simp
 obj:=fun i h st b hb=>by
  have e:b=it:=by simpa using hb
  subst e
  exact⟨_,st,fun v z=>by
   have z':Data.fields _=Data.cell v:=z
   cases z'⟩
 keep:=fun i h h' st k=>k it #[9] _ st
 item:=by
  intro X hP hw hK hc i ah s σ H E I hf st hg
  subst hP hw hK
  obtain⟨f0,f1,f2,f3,f4,f5⟩:=hf it (by simp)
  have W:=Walks.range (prog:=X.prog) (w:=X.w) (I.ok.hd hc) it lo 1 n
  refine W.item i s _ _ hg st fun v h' tk hv bz kk=>?_
  obtain⟨t,rfl⟩:=hv
  have I1:bK X ah σ H { s with heap:=h',toks:=tk }:=I.turned (fun b o hb e=>kk b o (by simpa using hb) e) f0 f1 f3 f4 f5
  refine⟨_,rfl,CU (s:={ s with heap:=h',toks:=tk }) (n:="range_iterator") bz rfl rfl #[1] ⟨.int (lo+i),H,I1,⟨t,?_⟩,⟨rfl,rfl⟩,bz,fun b hb=>(hf b hb).1⟩⟩
  rw[Int.mul_one]
 done:=by
  intro X hP hw hK hc i ah s σ H E I hf st hg
  subst hP hw hK
  obtain⟨f0,f1,f2,f3,f4,f5⟩:=hf it (by simp)
  exact wpAny_pyNext_range_end (I.ok.hd hc) st (by have:n<=i:=hg;omega) fun h' eb=>⟨rfl,I.turned (t':=s.toks) (fun b o hb e=>eb b o hb e) f0 f1 f3 f4 f5⟩
 self:=fun _ _ _ _ _ st h=>nN st h
section
variable{X:Cx}
def Sv(K:Frag)(tl:TE):TI:=fun σ H R=>tl σ H fun x H1=>∃a,x=.ref a/\(∃xs,p8 K H1 a xs)/\R (Xc K a) H1
def Wg(K:Frag)(tl:TE):TI:=fun σ H R=>tl σ H fun x H1=>∃a,x=.ref a/\(∃xs,gp K H1 a xs)/\R (Xd K a) H1
theorem KB{l:Expr}{tl:TE}(hl:PE X l tl):PI X tg l (Sv X.K tl):=by
 intro ah s σ H R I h
 refine gG (hl ah s σ H _ I h) fun v s1 zq=>?_
 obtain⟨x,H1,I1,r1,q1⟩:=zq
 obtain⟨a,e,⟨xs,hq⟩,q⟩:=q1
 subst e
 cases r1
 obtain⟨bw,rv,p,hz⟩:=I1.list hq
 refine gX p.isList ?_
 refine⟨s1.heap.objs.size,[s1.heap.objs.size],_,_,H1,rfl,I1.kept (t':=s1.toks) fun b o e=>al _ e,Ez a _,⟨_,ar _ rfl,rfl,rfl⟩,fun b hb=>?_,q⟩
 have e:b=s1.heap.objs.size:=by simpa using hb
 subst e
 exact I1.fpOk (ax _) (I1.hok.fresh (ax _))
theorem OK{l:Expr}{tl:TE}(hl:PE X l tl):PI X tg l (Wg X.K tl):=by
 intro ah s σ H R I h
 refine gG (hl ah s σ H _ I h) fun v s1 zq=>?_
 obtain⟨x,H1,I1,r1,q1⟩:=zq
 obtain⟨a,e,⟨xs,hq⟩,q⟩:=q1
 subst e
 cases r1
 obtain⟨bw,rv,p,hz⟩:=I1.tuple hq
 refine gD (show s1.heap.IsTuple a bw.toArray from p) ?_
 refine⟨s1.heap.objs.size,[s1.heap.objs.size],_,_,H1,rfl,I1.kept (t':=s1.toks) fun b o e=>al _ e,BA a _,⟨_,ar _ rfl,rfl,rfl⟩,fun b hb=>?_,q⟩
 have e:b=s1.heap.objs.size:=by simpa using hb
 subst e
 exact I1.fpOk (ax _) (I1.hok.fresh (ax _))
theorem F2{σ:St}{H:Hp}{R:It->Hp->Prop}{lo hi:Int}{t u v:Tok}{tk:Nat}(I:bK X ah σ H s)(h1:-(2^62)<=lo)(h2:lo<2^62)(h3:-(2^62)<=hi)(h4:hi<2^62)
  (q:R (VA lo (hi-lo).toNat) H):wpAny #[4] X.A (pyIter (.ref s.heap.objs.size)) (Vz X ah σ tg R) E { s with heap:=s.heap.push { cls:=.type "range",data:=.fields #[.int lo t,.int hi u,.int 1 v] },toks:=tk }:=by
 refine wpAny_pyIter_range (IsRange.new ..) (small_one h1 h2 h3 h4) ?_
 have I1:bK X ah σ H { s with heap:=s.heap.push { cls:=.type "range",data:=.fields #[.int lo t,.int hi u,.int 1 v] },toks:=tk }:=I.kept fun b o e=>al _ e
 refine⟨(s.heap.push { cls:=.type "range",data:=.fields #[.int lo t,.int hi u,.int 1 v] }).objs.size,[(s.heap.push { cls:=.type "range",data:=.fields #[.int lo t,.int hi u,.int 1 v] }).objs.size],_,_,H,rfl,
  I1.kept (t':=tk) fun b o e=>al _ e,BB _ lo (hi-lo).toNat,?_,fun b hb=>?_,q⟩
 ·have e1:lo+((0:Nat):Int)*1=lo:=by simp
  have e2:(((hi-lo).toNat:Nat):Int)-((0:Nat):Int)=Builtin.Range.rangeSize lo hi 1:=by rw[rangeSize_one];split<;>omega
  show IsRangeIter _ _ (lo+((0:Nat):Int)*1) ((((hi-lo).toNat:Nat):Int)-((0:Nat):Int)) 1
  rw[e1,e2]
  exact ar _ rfl
 ·have e:b=(s.heap.push { cls:=.type "range",data:=.fields #[.int lo t,.int hi u,.int 1 v] }).objs.size:=by simpa using hb
  subst e
  exact I1.fpOk (ax _) (I1.hok.fresh (ax _))
def Sw(ta:TA):TI:=fun σ H R=>ta σ H fun vs H1=>∃j:Int,vs=[.int j]/\-(2^62)<=j/\j<2^62/\R (VA 0 j.toNat) H1
theorem EA{a:Expr}{ta:TA}{p pos:Pos}(hg:Gl X "range")(hm:X.mg "range"=none)(ha:PA X [a] ta)(hs:starEach [a] X.env=[(false,eval a X.env)]:=by rfl):PI X tg (.Call (.Name "range" p) [a] [] pos) (Sw ta):=by
 intro ah s σ H R I h
 refine Call_ (lL I hg hm boot_range (b6 (gG (ha pos ah s σ H _ I h) fun us s1 zq=>?_) hs rfl))
 obtain⟨vs,H1,I1,r1,q1⟩:=zq
 obtain⟨j,e,q1,q2,q⟩:=q1
 subst e
 cases r1 with
 |cons r rr=>
  cases rr
  obtain⟨t,rfl⟩:=r
  exact call_range_1 (F2 I1 #[0] #[0] q1 q2 (by simpa using q))
def Wh(wi:TI)(g:TG)(tb:TS):TS:=fun D σ H=>wi σ H fun J H1=>∃W:Nat->Nat->St->Hp->Prop,(∃m,W 0 m σ H1)/\∀i m σ H,W i m σ H ->
 (J.stop i H/\D.nx σ H)\/(J.go i H/\∃N:St->Hp->Prop,(∀σ' H',N σ' H'->∃m',m'<m/\W (i+1) m' σ' H')/\∀x H',J.yld i H x H'->g x σ H' fun σ2 H2=>tb { D with nx:=N,ct:=N,bk:=D.nx } σ2 H2)
noncomputable def x6(fp:List Addr)(h:Heap):List (Addr×Obj):=fp.filterMap fun b=>(h.get? b).map fun o=>(b,o)
theorem jX{o:Obj}(hb:b∈fp)(e:h.get? b=some o):(b,o)∈x6 fp h:=lX.mpr ⟨b,hb,by rw[e];rfl⟩
theorem EB{p:Addr×Obj}(hp:p∈x6 fp h):p.1∈fp/\h.get? p.1=some p.2:=by
 obtain⟨b,hb,e⟩:=lX.mp hp
 cases q:h.get? b with
 |none=>rw[q]at e;cases e
 |some o=>
  rw[q]at e
  have e':(b,o)=p:=aG e
  subst e'
  exact⟨hb,q⟩
theorem bK.pinned{σ:St}{H:Hp}(I:bK X ah σ H s)(hf:∀b∈fp,sL X ah H b)(ho:∀b∈fp,∃o,s.heap.get? b=some o/\∀v,o.data≠.cell v):bK X (ah++x6 fp s.heap) σ H s:=
 I.pins_of fun p hp=>(aZ.mp hp).elim (fun z=>I.pin p (aH _ z)) fun z=>by
  obtain⟨hb,e⟩:=EB z
  obtain⟨f0,f1,f2,_⟩:=hf p.1 hb
  obtain⟨o,e',d⟩:=ho p.1 hb
  rw[e]at e';cases e'
  exact⟨e,f0,f1,f2,d⟩
theorem bK.unpinned{pl:List (Addr×Obj)}{σ:St}{H:Hp}(I:bK X (ah++pl) σ H s):bK X ah σ H s:=I.pins_of fun p hp=>I.pin p (aH _ (cw _ hp))
theorem OL{wi:TI}{g:TG}{tb:TS}{pos:Pos}(hp:PassesOwn #[4] X.A X.env X.xe)(hc:X.calm=true)(hi:PI X tg dw wi)(hg:PG X tg g)(hb:Ex X body tb)
  (hs:∀x,foldedSetIterable dw X.env x=pure x:=by intro _;rfl):PS X (.For tg dw body [] pos) (Wh wi g tb):=by
 intro ah s σ H D I h
 refine wpAny_For (gG (hi ah s σ H _ I h) fun v s1 h1=>gG h1 fun W2 s2 h2=>?_) hs
 obtain⟨it,fp,tn,J,H2,e,I2,T,db,f2,W,⟨m0,w0⟩,turn⟩:=h2
 subst e
 have stat:∀{H':Hp},(∀b∈fp,H' b=none)->∀b∈fp,sL X ah H' b:=fun hn b hb=>⟨hn b hb,(f2 b hb).2⟩
 refine codeAny_forLoop_any (fun n s'=>∃i σ' H',bK X ah σ' H' s'/\tn i s'.heap/\(∀b∈fp,H' b=none)/\W i n σ' H') ?_ m0 ⟨0,σ,H2,I2,db,fun b hb=>(f2 b hb).1,w0⟩
 rintro n s3 ⟨i,σ3,H3,I3,mD,fr3,w3⟩
 rcases turn i n σ3 H3 w3 with⟨stop,qn⟩|⟨go,N,hN,step⟩
 ·refine fR hp (gG (T.done X rfl rfl rfl hc i ah s3 σ3 H3 X.xe I3 (stat fr3) mD stop) fun r s4 zq=>?_)
  obtain⟨hr,I4⟩:=zq
  subst hr
  exact kT ⟨σ3,H3,I4,qn⟩
 ·refine fR hp (gG (T.item X rfl rfl rfl hc i ah s3 σ3 H3 X.xe I3 (stat fr3) mD go) fun r s4 zq=>?_)
  obtain⟨u,hr,h4⟩:=zq
  subst hr
  refine fR hp (gG h4 fun _ s5 zq=>?_)
  obtain⟨x,H5,I5,r5,y5,st5,fr5⟩:=zq
  have I5':=I5.pinned (stat fr5) (T.obj _ _ st5)
  refine fR hp (gG (hg _ s5 σ3 H5 x u _ I5' r5 (step x H5 y5)) fun _ s6 zq=>?_)
  obtain⟨σ6,H6,I6,q6⟩:=zq
  refine fR hp (gG (hb _ s6 σ6 H6 _ I6 q6) fun f s7 q7=>?_)
  have again:∀{σ7:St} {H7:Hp},bK X (ah++x6 fp s5.heap) σ7 H7 s7->N σ7 H7->∃m,m<n/\∃i σ' H',bK X ah σ' H' s7/\tn i s7.heap/\(∀b∈fp,H' b=none)/\W i m σ' H':=fun{σ7 H7} I7 n7=>by
   obtain⟨m',hm,w7⟩:=hN σ7 H7 n7
   refine⟨m',hm,i+1,σ7,H7,I7.unpinned,T.keep _ _ _ st5 fun b hb o e=>(I7.pin (b,o) (aH _ (aH _ (jX hb e)))).1,fun b hb=>?_,w7⟩
   obtain⟨o,e,d⟩:=T.obj _ _ st5 b hb
   exact(I7.pin (b,o) (aH _ (aH _ (jX hb e)))).2.1
  cases f with
  |next=>obtain⟨σ7,H7,I7,n7⟩:=q7;exact again I7 n7
  |cont=>obtain⟨σ7,H7,I7,n7⟩:=q7;exact again I7 n7
  |brk=>obtain⟨σ7,H7,I7,q7⟩:=q7;exact⟨σ7,H7,I7.unpinned,q7⟩
  |ret v=>obtain⟨x7,σ7,H7,I7,r7,q7⟩:=q7;exact⟨x7,σ7,H7,I7.unpinned,r7,q7⟩
end
abbrev R2:=V->V->Hp->VK->Prop
def n6(X:Cx)(f:Value->Value->Sem Value)(r:R2):Prop:=
 ∀(ah:List (Addr×Obj)) (s:Shared) (σ:St) (H:Hp) (x y:V) (v u:Value) (Q:VK),bK X ah σ H s->cL x v->cL y u->r x y H Q ->
  wpAny #[4] X.A (f v u) (EP X ah σ Q) X.xe s
def Wi(X:Cx)(f:Value->Sem Value)(r:V->Hp->VK->Prop):Prop:=
 ∀(ah:List (Addr×Obj)) (s:Shared) (σ:St) (H:Hp) (x:V) (v:Value) (Q:VK),bK X ah σ H s->cL x v->r x H Q ->
  wpAny #[4] X.A (f v) (EP X ah σ Q) X.xe s
def lM(X:Cx)(f:Value)(r:List V->Hp->VK->Prop):Prop:=
 ∀(ah:List (Addr×Obj)) (s:Shared) (σ:St) (H:Hp) (xs:List V) (us:List Value) (Q:VK),bK X ah σ H s->cG xs us->r xs H Q ->
  wpAny #[4] X.A (call f us) (EP X ah σ Q) X.xe s
def Sx(r:R2)(ta tb:TE):TE:=fun σ H Q=>ta σ H fun x H1=>tb σ H1 fun y H2=>r x y H2 Q
def XD(r:V->Hp->VK->Prop)(ta:TE):TE:=fun σ H Q=>ta σ H fun x H1=>r x H1 Q
def rI(C:Int->Int->Prop)(g:Int->Int->V):R2:=fun x y H Q=>∃i j,x=.int i/\y=.int j/\C i j/\Q (g i j) H
def Kg(g:Int->Int->V):R2:=fun x y H Q=>∃i j,x=.int i/\y=.int j/\Q (g i j) H
def rU(g:Int->V):V->Hp->VK->Prop:=fun x H Q=>∃i,x=.int i/\Q (g i) H
section
variable{X:Cx}{a b c:Expr}{ta tb tc:TE}
theorem OM(ha:PE X a ta)(hb:PE X b tb){σ:St}{H:Hp}{R:V->V->Hp->Prop}(I:bK X ah σ H s)
  (h:ta σ H fun x H1=>tb σ H1 fun y H2=>R x y H2) {Q:Value->Shared->Prop} {f:Value->Value->Sem Value}
  (hf:∀v u s2 x y H2,bK X ah σ H2 s2->cL x v->cL y u->R x y H2->wpAny #[4] X.A (f v u) Q X.xe s2) :
  wpAny #[4] X.A (eval a X.env) (fun v s₁=>wpAny #[4] X.A (eval b X.env) (fun u s₂=>wpAny #[4] X.A (f v u) Q X.xe s₂) X.xe s₁) X.xe s:=by
 refine gG (ha ah s σ H _ I h) fun v s1 zq=>?_
 obtain⟨x,H1,I1,r1,q1⟩:=zq
 refine gG (hb ah s1 σ H1 _ I1 q1) fun u s2 zq=>?_
 obtain⟨y,H2,I2,r2,q2⟩:=zq
 exact hf v u s2 x y H2 I2 r1 r2 q2
theorem Sy{op:Operator}{r:R2}(ho:n6 X (binaryOp op) r)(ha:PE X a ta)(hb:PE X b tb):PE X (.BinOp a op b pos) (Sx r ta tb):=by
 intro ah s σ H Q I h
 exact wpAny_BinOp (OM ha hb I h fun v u s2 x y H2 I2 rx ry q=>ho ah s2 σ H2 x y v u Q I2 rx ry q)
theorem Sz{op:UnaryOp}{r:V->Hp->VK->Prop}(ho:Wi X (unaryOp op) r)(ha:PE X a ta):PE X (.UnaryOp op a pos) (XD r ta):=by
 intro ah s σ H Q I h
 exact UnaryOp_ (gG (ha ah s σ H _ I h) fun v s1 zq=>by obtain⟨x,H1,I1,r1,q1⟩:=zq;exact ho ah s1 σ H1 x v Q I1 r1 q1)
theorem R5{f:Value->Value->Sem Value}{C:Int->Int->Prop}{g:Int->Int->Int}
  (rule:∀(i j:Int) (t u:Tok) (s:Shared) (Q:Value->Shared->Prop) (E:Value->Shared->Prop),C i j->Q (.int (g i j) s.toks) { s with toks:=s.toks+1 }->wpAny #[4] X.A (f (.int i t) (.int j u)) Q E s) :
  n6 X f (rI C fun i j=>.int (g i j)):=by
 intro ah s σ H x y v u Q I rx ry h
 obtain⟨i,j,rfl,rfl,hc,q⟩:=h
 obtain⟨t,rfl⟩:=rx
 obtain⟨t',rfl⟩:=ry
 exact rule i j t t' s _ _ hc ⟨.int (g i j),H,I.tok _,⟨_,rfl⟩,q⟩
theorem ON{f:Value->Value->Sem Value}{g:Int->Int->Int}
  (rule:∀(i j:Int) (t u:Tok) (s:Shared) (Q:Value->Shared->Prop) (E:Value->Shared->Prop),Q (.int (g i j) s.toks) { s with toks:=s.toks+1 }->wpAny #[4] X.A (f (.int i t) (.int j u)) Q E s) :
  n6 X f (Kg fun i j=>.int (g i j)):=by
 intro ah s σ H x y v u Q I rx ry h
 obtain⟨i,j,rfl,rfl,q⟩:=h
 obtain⟨t,rfl⟩:=rx
 obtain⟨t',rfl⟩:=ry
 exact rule i j t t' s _ _ ⟨.int (g i j),H,I.tok _,⟨_,rfl⟩,q⟩
theorem OO{f:Value->Value->Sem Value}{g:Int->Int->Bool}
  (rule:∀(i j:Int) (t u:Tok) (s:Shared) (Q:Value->Shared->Prop) (E:Value->Shared->Prop),Q (.bool (g i j)) s->wpAny #[4] X.A (f (.int i t) (.int j u)) Q E s) :
  n6 X f (Kg fun i j=>.bl (g i j)):=by
 intro ah s σ H x y v u Q I rx ry h
 obtain⟨i,j,rfl,rfl,q⟩:=h
 obtain⟨t,rfl⟩:=rx
 obtain⟨t',rfl⟩:=ry
 exact rule i j t t' s _ _ ⟨.bl (g i j),H,I,rfl,q⟩
def Wj(i j:Int):Prop:=0<j/\j<1073741824
def OP(i j:Int):Prop:=0<=j/\j<=1000000/\i.natAbs<2^64
def OQ(i j:Int):Prop:=(-(2^64)<i/\i<2^64)\/(-(2^64)<j/\j<2^64)
theorem OQ.ok{i j:Int}(h:OQ i j):IntMulOk i j:=by
 rcases h with⟨h1,h2⟩|⟨h1,h2⟩
 ·exact .of_left (intBits_le_64 h1 h2)
 ·exact .of_right (intBits_le_64 h1 h2)
theorem BC(k:Nat):(0:Int)<=2^k:=by
 rw[two_pow_cast]
 exact Int.natCast_nonneg _
theorem OR:n6 X (binaryOp .Add) (Kg fun i j=>.int (i+j)):=ON fun _ _ _ _ _ _ _ q=>add_int q
theorem OS:n6 X (binaryOp .Sub) (Kg fun i j=>.int (i-j)):=ON fun _ _ _ _ _ _ _ q=>sub_int q
theorem OT:n6 X (binaryOp .Mult) (rI OQ fun i j=>.int (i*j)):=R5 fun _ _ _ _ _ _ _ hc q=>mul_int q hc.ok
theorem KC:n6 X (binaryOp .FloorDiv) (rI Wj fun i j=>.int (i/j)):=R5 fun i j _ _ _ _ _ hc q=>by
 have h1:(0:Int)<j:=hc.1
 have h2:j<1073741824:=hc.2
 exact floordiv_int #[0] (by rw[lY i #[0]];exact q) (.inl (nO #[0]))
theorem OU:n6 X (binaryOp .Mod) (rI (fun _ j=>0<j) fun i j=>.int (i%j)):=R5 fun i j _ _ _ _ _ hc q=>by
 have h1:(0:Int)<j:=hc
 exact mod_int' #[0] (by rw[Int.fmod_eq_emod_of_nonneg i #[0]];exact q)
theorem OV:n6 X (binaryOp .Pow) (rI OP fun i j=>.int (i^j.toNat)):=R5 fun _ _ _ _ _ _ _ hc q=>pow_int_small hc.1 hc.2.1 hc.2.2 q
theorem F3:n6 X (binaryOp .LShift) (rI OP fun i j=>.int (i*2^j.toNat)):=R5 fun _ _ _ _ _ _ _ hc q=>lshift_int_small hc.1 hc.2.1 hc.2.2 q
theorem OW:n6 X (binaryOp .RShift) (rI (fun _ j=>0<=j) fun i j=>.int (i/2^j.toNat)):=R5 fun i j _ _ _ _ _ hc q=>
 rshift_int hc (by rw[lY i (BC _)];exact q)
theorem OX:n6 X (binaryOp .BitAnd) (Kg fun i j=>.int (Builtin.bitAnd i j)):=ON fun _ _ _ _ _ _ _ q=>and_int q
theorem XF{f:Value->Sem Value}{g:Int->Int}
  (rule:∀(i:Int) (t:Tok) (s:Shared) (Q:Value->Shared->Prop) (E:Value->Shared->Prop),Q (.int (g i) s.toks) { s with toks:=s.toks+1 }->wpAny #[4] X.A (f (.int i t)) Q E s) :
  Wi X f (rU fun i=>.int (g i)):=by
 intro ah s σ H x v Q I rx h
 obtain⟨i,rfl,q⟩:=h
 obtain⟨t,rfl⟩:=rx
 exact rule i t s _ _ ⟨.int (g i),H,I.tok _,⟨_,rfl⟩,q⟩
theorem OY:Wi X (unaryOp .USub) (rU fun i=>.int (-i)):=XF fun _ _ _ _ _ q=>neg_int q
end
section
variable{X:Cx}{a b c:Expr}{ta tb tc:TE}
theorem F4{σ:St}{H:Hp}{Q:VK}{k k':Bool}(I:bK X ah σ H s)(q:Q (.bl k) H)(e:k=k'):EP X ah σ Q (.bool k') s:=by
 subst e
 exact⟨.bl k,H,I,rfl,q⟩
theorem SC:n6 X (compareOp .Lt) (Kg fun i j=>.bl (decide (i<j))):=OO fun _ _ _ _ _ _ _ q=>lt_int q
theorem SD:n6 X (compareOp .Gt) (Kg fun i j=>.bl (decide (j<i))):=OO fun _ _ _ _ _ _ _ q=>gt_int q
theorem SF:n6 X (compareOp .GtE) (Kg fun i j=>.bl (decide (j<=i))):=OO fun _ _ _ _ _ _ _ q=>ge_int q
theorem EC:n6 X (compareOp .In) (fun x y H Q=>∃i j,x=.str i/\y=.str j/\Q (.bl (!(Builtin.Str.occurrences j i 0 j.length 1).isEmpty)) H):=by
 intro ah s σ H x y v u Q I rx ry h
 obtain⟨i,j,rfl,rfl,q⟩:=h
 obtain⟨t,rfl⟩:=rx
 obtain⟨t',rfl⟩:=ry
 exact in_str (F4 I q rfl)
theorem x8:n6 X (compareOp .NotIn) (fun x y H Q=>∃i j,x=.str i/\y=.str j/\Q (.bl (!(!(Builtin.Str.occurrences j i 0 j.length 1).isEmpty))) H):=by
 intro ah s σ H x y v u Q I rx ry h
 obtain⟨i,j,rfl,rfl,q⟩:=h
 obtain⟨t,rfl⟩:=rx
 obtain⟨t',rfl⟩:=ry
 exact notIn_str (F4 I q rfl)
theorem F5(b:Expr)(h:op≠.In:=by decide)(h2:op≠.NotIn:=by decide):behindInMarks op b=false:=by
 have e1:(op==CmpOp.In)=false:=by cases op<;>first|rfl|exact absurd rfl h
 have e2:(op==CmpOp.NotIn)=false:=by cases op<;>first|rfl|exact absurd rfl h2
 cases b<;>simp[behindInMarks,e1,e2]
theorem KD{r:R2}(ho:n6 X (compareOp op) r)(ha:PE X a ta)(hb:PE X b tb)(hm:behindInMarks op b=false):PE X (.Compare a [op] [b] pos) (Sx r ta tb):=by
 intro ah s σ H Q I h
 exact wpAny_Compare1 (OM ha hb I h fun v u s2 x y H2 I2 rx ry q=>ho ah s2 σ H2 x y v u Q I2 rx ry q) hm
def SH(t:TE):TT:=fun σ H Q=>t σ H fun x H'=>∃k,x=.bl k/\Q k H'
theorem KF{r:R2}(ho:n6 X (compareOp op) r)(ha:PE X a ta)(hb:PE X b tb)(hm:behindInMarks op b=false):PT X (.Compare a [op] [b] pos) (SH (Sx r ta tb)):=by
 intro ah s σ H Q I h
 refine oQ (gG (ha ah s σ H _ I h) fun v s1 ⟨x,H1,I1,r1,q1⟩=>gG (hb ah s1 σ H1 _ I1 q1) fun u s2 ⟨y,H2,I2,r2,q2⟩=>
  gG (ho ah s2 σ H2 x y v u _ I2 r1 r2 q2) fun c s3 ⟨z,H3,I3,r3,k,e,q3⟩=>?_) hm
 subst e
 cases r3
 exact fT ⟨H3,I3,q3⟩
theorem sM:(sizeLine:Nat)<2^63:=by rw[kH];decide
theorem BD:n6 X (binaryOp .Add) (fun x y H Q=>∃i j,x=.str i/\y=.str j/\i.length+j.length<=sizeLine/\Q (.str (i++j)) H):=by
 intro ah s σ H x y v u Q I rx ry h
 obtain⟨i,j,rfl,rfl,hz,q⟩:=h
 obtain⟨t,rfl⟩:=rx
 obtain⟨t',rfl⟩:=ry
 exact add_str (fun t' tk=>⟨.str (i++j),H,I.tok _,⟨_,rfl⟩,q⟩) hz
theorem oY{x:V}(r:cG [x] us):∃u,us=[u]/\cL x u:=by
 cases r with
 |cons r1 r2=>cases r2;exact⟨_,rfl,r1⟩
theorem xh:lM X (.type "int") (fun xs H Q=>(∃i,xs=[.int i]/\Q (.int i) H)\/∃k,xs=[.bl k]/\Q (.int (if k then 1 else 0)) H):=by
 intro ah s σ H xs us Q I r h
 rcases h with⟨i,rfl,q⟩|⟨k,rfl,q⟩
 ·obtain⟨u,rfl,t,rfl⟩:=oY r
  exact call_int_int ⟨.int i,H,I,⟨_,rfl⟩,q⟩
 ·obtain⟨u,rfl,r1⟩:=oY r
  cases r1
  exact call_int_bool ⟨.int (if k then 1 else 0),H,I.tok _,⟨_,rfl⟩,q⟩
end
structure BE(h:Heap)(x dx C:Addr)(mA:Str->Option Value):Prop where
 obj:h.get? x=some (instObj C dx)
 ns:h.Ns1 dx mA
 ne:dx≠x
theorem ED{dx:Addr}(n:h.Ns1 dx mA):∃od,h.get? dx=some od/\∀name,lookIn name od=some (mA name):=by
 obtain⟨o,es,ep,ho,hd,hk,_,hm⟩:=n
 refine⟨o,ho,fun name=>?_⟩
 have e:=hm name
 unfold nsFind findBy at e
 rw[<- Array.find?_toList]at e
 unfold lookIn
 rw[hd]
 dsimp only
 split
 ·rename_i y q
  rw[q]at e
  exact iQ some e
 ·rename_i q
  rw[q]at e
  have a:es.toList.any (·.refKey)=false:=by
   rw[mE]
   intro y hy
   obtain⟨z,t,hkey⟩:=hk y (Array.mem_toList_iff.mp hy)
   simp[DictEntry.refKey,hkey]
  have a':¬ es.toList.any (·.refKey)=true:=by rw[a];exact cP
  rw[ay a']
  exact iQ some e
theorem BE.look{x dx:Addr}(I:BE h x dx C mA):∃od,PySem.W.InstAt h x (instObj C dx) C (some od)/\∀name,lookIn name od=some (mA name):=
 let ⟨od,ho,hl⟩:=ED I.ns
 ⟨od,⟨I.obj,rfl,rfl,ho⟩,hl⟩
section
variable{w:World}{x dx f:Addr}
theorem KG{W7:Bool}(X:K.In s.heap)(I:BE s.heap x dx C mA)(hg:plainGet K C name=true)(hh:PySem.W.hasDictIn K C=true)
  (ha:findIn K (.ref C) name=some none) (hv:mA name=some v) (V6:PySem.W.handedIn v=true) (h:Q v { s with toks:=s.toks+1 }) :
  wpAny #[5] A (getAttr (.ref x) name W7) Q E s:=by
 obtain⟨od,J,hl⟩:=I.look
 exact PySem.W.get_value X J (PySem.W.plainGet_of hg).1 (PySem.W.findObj_own hh ha rfl (by rw[hl,hv])) V6 h
theorem F6{Q:Value×List Value->Shared->Prop}(X:K.In s.heap)(I:BE s.heap x dx C mA)(hg:plainGet K C name=true)
  (hf:findIn K (.ref C) name=some (some (.ref f))) (ht:isFn K (.ref f)=true) (hv:mA name=none) (h:Q (.ref f,[.ref x]) s) :
  wpAny #[5] A (getMethod (.ref x) name pl) Q E s:=by
 obtain⟨od,J,hl⟩:=I.look
 exact PySem.W.method_fn X J (PySem.W.plainGet_of hg).1 (PySem.W.plainGet_of hg).2 hf (dz.mp ht) (by show(lookIn name od).map (·.isSome)=some false;rw[hl,hv];rfl) h
theorem KH{ns:List Str}{Q:Unit->Shared->Prop}(X:K.In s.heap)(I:BE s.heap x dx C mA)
  (hs:findIn K (.ref C) "__setattr__"=some (some (.builtin "object.__setattr__"))) (hp:PySem.W.plainOver K C=true) (ht:PySem.W.takerIn K C name=some none) (hh:PySem.W.hasDictIn K C=true)
  (hw:PySem.Within mA ns) (hsz:ns.length<=sizeLine)
  (h:∀h',BE h' x dx C (fun y=>if y=name then some v else mA y)->Heap.SameBut dx s.heap h'->Q () { s with heap:=h',toks:=s.toks+2 }) :
  wpAny #[5] A (setAttr (.ref x) name v) Q E s:=by
 obtain⟨od,J,hl⟩:=I.look
 refine PySem.W.set_plain X J hs (PySem.W.osa_open (s:={ s with toks:=s.toks+1 }) (r:=none) X J hp ht fun b=>?_)
 obtain⟨cd,hc,hd'⟩:=PySem.W.any_some hh
 have hx:s.heap.get? x=some ⟨.ref C,some dx,.plain,#[]⟩:=I.obj
 refine aa (aq (aa (aa (wpAny_loadPart hx (aa (PySem.W.Looks.here (s:={ s with toks:=s.toks+1 }) (PySem.W.looks_clsIn X hc) ?_))))))
 rw[hd']
 refine aq (a:=some dx) (aa (aq (aa ?_)))
 refine wpAny_nsSet1 (s:={ s with toks:=s.toks+1 }) I.ns fun h' V1 Bz=>?_
 obtain⟨oD,esD,epD,hoD,hdD,hcD⟩:=V1.count (PySem.Within.cons name v hw)
 refine aa (wpAny_lookBehind hoD (by rw[hdD];exact pastItsLine_dict (aR hcD (by rw[a_];omega))) ?_)
 exact aq (h _ ⟨(Bz.2 _ (Ne.symm I.ne)).trans I.obj,V1,I.ne⟩ Bz)
theorem F7{R:Result->Shared->Prop}{vs:List Value}(X:K.In s.heap)(hm:makesIn K C=true)
  (hi:findIn K (.ref C) "__init__"=some (some (.ref f))) (hf:PySem.W.typeIn K (.ref f)=some (.type "function"))
  (h:codeAny #[5] (A.under (.builtin "type.__call__" ⟨.ref C::vs,kw⟩)) (.call (.ref f) ⟨.ref #[11]::vs,kw⟩) (PySem.W.InitBack #[11] R)
   { s with heap:=(s.heap.push emptyDict).push (instObj C s.heap.objs.size) }) :
  codeAny #[5] A (.call (.ref C) ⟨vs,kw⟩) R s:=by
 obtain⟨hh,g,d,t,os⟩:=s
 exact PySem.W.make_core (PySem.W.makes_of X hm) (PySem.W.looks_findIn X hi) (fun self=>PySem.W.bind_fn X self hf) (.inl rfl) h
end
noncomputable def oH(f:Str)(v:V):List (Str×V)->List (Str×V)
 |[]=>[(f,v)]
 |(g,x)::r=>if g=f then(g,v)::r else(g,x)::oH f v r
theorem tO(f g:Str)(v:V):∀fs:List (Str×V),(oH f v fs).lookup g=if g=f then some v else fs.lookup g
 |[]=>by
  show List.lookup g [(f,v)]=_
  by_cases h:g=f
  ·have hb:(g==f)=true:=dz.mpr h
   simp only[List.lookup,hb,au h]
  ·have hb:(g==f)=false:=bR.mpr h
   simp only[List.lookup,hb,ay h]
 |(k,x)::r=>by
  have ih:=tO f g v r
  rw[show oH f v ((k,x)::r)=(if k=f then(k,v)::r else(k,x)::oH f v r)from rfl]
  by_cases hk:k=f
  ·rw[au hk]
   by_cases h:g=k
   ·have hb:(g==k)=true:=dz.mpr h
    simp only[List.lookup,hb,au (h.trans hk)]
   ·have hb:(g==k)=false:=bR.mpr h
    simp only[List.lookup,hb,ay (fun e:g=f=>h (e.trans hk.symm))]
  ·rw[ay hk]
   by_cases h:g=k
   ·have hb:(g==k)=true:=dz.mpr h
    simp only[List.lookup,hb,ay (fun e:g=f=>hk (h.symm.trans e))]
   ·have hb:(g==k)=false:=bR.mpr h
    simp only[List.lookup,hb]
    exact ih
theorem sN(f:Str)(v:V):∀fs:List (Str×V),f∈(oH f v fs).map (·.1)/\∀g,g∈fs.map (·.1)->g∈(oH f v fs).map (·.1)
 |[]=>⟨by simp[oH],fun g h=>by simp at h⟩
 |(k,x)::r=>by
  obtain⟨i1,i2⟩:=sN f v r
  rw[show oH f v ((k,x)::r)=(if k=f then(k,v)::r else(k,x)::oH f v r)from rfl]
  by_cases hk:k=f
  ·rw[au hk]
   subst hk
   exact⟨by simp,fun g h=>by simpa using h⟩
  ·rw[ay hk]
   refine⟨?_,fun g h=>?_⟩
   ·rw[aP]
    exact aV _ i1
   ·rw[aP]at h ⊢
    rcases aM.mp h with e|e
    ·exact aM.mpr (.inl e)
    ·exact aV _ (i2 g e)
theorem tP(f:Str)(v:V):∀fs:List (Str×V),(oH f v fs).length<=fs.length+1
 |[]=>by simp[oH]
 |(k,x)::r=>by
  have ih:=tP f v r
  rw[show oH f v ((k,x)::r)=(if k=f then(k,v)::r else(k,x)::oH f v r)from rfl]
  by_cases hk:k=f
  ·rw[au hk,a_,a_];omega
  ·rw[ay hk,a_,a_];omega
theorem oG.some_of{v:V}{o:Option Value}(r:oG (some v) o):∃u,o=some u/\cL v u:=by
 cases o with
 |none=>exact(show False from r).elim
 |some u=>exact⟨u,rfl,r⟩
theorem oG.none_of{o:Option Value}(r:oG none o):o=none:=by
 cases o with
 |none=>rfl
 |some u=>exact(show False from r).elim
theorem EE{v:V}(r:cL v u):PySem.W.handedIn u=true:=by
 cases v with
 |non=>cases(show u=Value.none from r);rfl
 |bl b=>cases(show u=Value.bool b from r);rfl
 |int i=>obtain⟨t,e⟩:=(show ∃t,u=Value.int i t from r);cases e;rfl
 |str x=>obtain⟨t,e⟩:=(show ∃t,u=Value.str x t from r);cases e;rfl
 |byt b=>obtain⟨t,e⟩:=(show ∃t,u=Value.bytes b t from r);cases e;rfl
 |flt b=>obtain⟨t,e⟩:=(show ∃t,u=Value.float b t from r);cases e;rfl
 |ref a=>cases(show u=Value.ref a from r);rfl
 |ty n=>cases(show u=Value.type n from r);rfl
section
variable{w:World}{H H':Hp}{dx:Addr}{fs U':List (Str×V)}
theorem uO(hok:qB P w H h)(e:H a=some (.ins C dx fs)):∃mA,BE h a dx C mA/\(∀f,oG (fs.lookup f) (mA f))/\PySem.Within mA (fs.map (·.1))/\fs.length<=1000/\H dx=some (.own a):=by
 obtain⟨d,z,ne,ob,mA,n,r,q⟩:=(show f_ P w H h a (.ins C dx fs)from hok a _ e)
 exact⟨mA,⟨ob,n,ne⟩,r,q,z,d⟩
end
structure Cls(K:Frag)(C:Addr):Prop where
 pg:plainGet K C Str.empty=true
 hd:PySem.W.hasDictIn K C=true
 po:PySem.W.plainOver K C=true
 sa:findIn K (.ref C) "__setattr__"=some (some (.builtin "object.__setattr__"))
theorem Cls.get(c:Cls K C)(f:Str):plainGet K C f=true:=c.pg
def qC(K:Frag)(C:Addr)(f:Str):Prop:=findIn K (.ref C) f=some none
theorem qC.taker{f:Str}(n:qC K C f):PySem.W.takerIn K C f=some none:=by
 unfold PySem.W.takerIn
 rw[show findIn K (.ref C) f=some none from n]
 rfl
structure SJ(K:Frag)(C:Addr)(m:Str)(f:Addr):Prop where
 at_:findIn K (.ref C) m=some (some (.ref f))
 fn:isFn K (.ref f)=true
 kp:keepIn K (.ref f)=true
section
variable{X:Cx}{σ:St}{H:Hp}{dx:Addr}{fs:List (Str×V)}{f:Str}{v:V}
theorem BF{b:Bool}(I:bK X ah σ H s)(e:H a=some (.ins C dx fs))(c:Cls X.K C)(n:qC X.K C f)(l:fs.lookup f=some v)
  (h:∀u s',bK X ah σ H s'->cL v u->Q u s'):wpAny #[4] A (getAttr (.ref a) f b) Q E s:=by
 obtain⟨mA,O,r,_,_,_⟩:=uO I.hok e
 obtain⟨u,hu,ru⟩:=oG.some_of (v:=v) (o:=mA f) (by rw[<- l];exact r f)
 exact KG I.kIn O (c.get f) c.hd n hu (EE ru) (h u _ (I.tok _) ru)
theorem u5{m:Str}{g:Addr}{Q:Value×List Value->Shared->Prop}(I:bK X ah σ H s)(e:H a=some (.ins C dx fs))(c:Cls X.K C)(k:SJ X.K C m g)(l:fs.lookup m=none)
  (h:Q (.ref g,[.ref a]) s):wpAny #[4] A (getMethod (.ref a) m pl) Q E s:=by
 obtain⟨mA,O,r,_,_,_⟩:=uO I.hok e
 have hn:mA m=none:=oG.none_of (by rw[<- l];exact r m)
 exact F6 I.kIn O (c.get m) k.at_ k.fn hn h
theorem BG{y:V}{Q:Unit->Shared->Prop}(I:bK X ah σ H s)(e:H a=some (.ins C dx fs))(c:Cls X.K C)(n:qC X.K C f)(hl:fs.length<1000)(ry:cL y u)
  (h:∀s',bK X ah σ (e_ H a (.ins C dx (oH f y fs))) s'->Q () s'):wpAny #[4] A (setAttr (.ref a) f u) Q E s:=by
 obtain⟨mA,O,r,wi,_,ho⟩:=uO I.hok e
 have hz:(fs.map (·.1)).length<=sizeLine:=by rw[ak,kH];omega
 refine KH I.kIn O c.sa c.po n.taker c.hd wi hz fun h' O' sb=>h _ ?_
 have hd:∃o,h'.get? dx=some o:=let ⟨o,_,_,e',_⟩:=O'.ns;⟨o,e'⟩
 refine I.write (x:=a) (e:=dx) (by rw[e];exact True.intro) (.inr ho) (fun b q hb z=>(sb.2 b hb).trans z) hd ?_
 refine⟨by rw[cE O.ne];exact ho,?_,O.ne,O'.obj,_,O'.ns,fun g=>?_,fun g hg=>?_⟩
 ·have:=tP f y fs;omega
 ·show oG ((oH f y fs).lookup g) (if g=f then some u else mA g)
  rw[tO]
  by_cases q:g=f
  ·rw[au q,au q];exact ry
  ·rw[ay q,ay q];exact r g
 ·by_cases q:g=f
  ·rw[q];exact(sN f y fs).1
  ·refine(sN f y fs).2 g (wi g fun z=>hg ?_)
   show(if g=f then some u else mA g)=none
   rw[ay q];exact z
theorem bK.made(I:bK X ah σ H s):bK X ah σ (e_ (e_ H s.heap.objs.size (.own #[11])) #[11] (.ins C s.heap.objs.size []))
  { s with heap:=(s.heap.push emptyDict).push (instObj C s.heap.objs.size) }:=by
 have e1:(s.heap.push emptyDict).get? s.heap.objs.size=some emptyDict:=ar s.heap rfl
 have e2:((s.heap.push emptyDict).push (instObj C s.heap.objs.size)).get? #[11]=some (instObj C s.heap.objs.size):=by
  have:=ar (s.heap.push emptyDict) (o:=instObj C s.heap.objs.size) rfl
  rwa[bA]at this
 have e3:(s.heap.push emptyDict).Ns s.heap.objs.size (fun _=>none):=⟨emptyDict,#[],_,e1,rfl,(fun e he=>absurd he #[9]),fun _=>rfl⟩
 have I1:=I.laid (a:=s.heap.objs.size) (o:=.own #[11]) (h':=s.heap.push emptyDict) (t':=s.toks) (fun b u q=>al _ q) (ax _) ⟨_,e1⟩
 refine I1.laid (a:=s.heap.objs.size+1) (o:=.ins C s.heap.objs.size []) (t':=s.toks) (fun b u q=>al _ q) (Nat.le_of_eq (bA _ _)) ?_
 have ne:s.heap.objs.size≠s.heap.objs.size+1:=a8 (cU _)
 refine⟨by rw[cE ne,fg],cM _,ne,e2,fun _=>none,(Heap.Ns1.of_empty e3).at fun o q=>al _ q,fun _=>True.intro,fun y hy=>absurd rfl hy⟩
theorem KI{w:World}(hb:attributeBase e f env (eval e env)=eval e env)
  (h:wpAny #[5] A (eval e env) (fun o s₁=>wpAny #[5] A (getAttr o f true) Q E s₁) E s):wpAny #[5] A (eval (.Attribute e f pos) env) Q E s:=
 Attribute_any_ h (by rw[arm_eval_Attribute,hb])
end
def Wk(K:Frag)(ta:TE)(f:Str):TE:=fun σ H Q=>ta σ H fun x H1=>∃a C dx fs v,x=.ref a/\H1 a=some (.ins C dx fs)/\Cls K C/\qC K C f/\fs.lookup f=some v/\Q v H1
def Wl(K:Frag)(ta tv:TE)(f:Str):TS:=fun D σ H=>tv σ H fun y H1=>ta σ H1 fun x H2=>∃a C dx fs,x=.ref a/\H2 a=some (.ins C dx fs)/\Cls K C/\qC K C f/\fs.length<1000 /\
 D.nx σ (e_ H2 a (.ins C dx (oH f y fs)))
section
variable{X:Cx}{value:Expr}{f:Str}{Xa:Pos}{ta tv:TE}
theorem OZ(he:PE X e ta)(hb:attributeBase e f X.env (eval e X.env)=eval e X.env):PE X (.Attribute e f pos) (Wk X.K ta f):=by
 intro ah s σ H Q I h
 refine KI hb (gG (he ah s σ H _ I h) fun u s1 zq=>?_)
 obtain⟨x,H1,I1,rx,a,C,dx,fs,v,ex,ea,c,n,l,q⟩:=zq
 subst ex
 obtain rfl:u=Value.ref a:=rx
 exact BF I1 ea c n l fun u' s2 I2 ru=>⟨v,H1,I2,ru,q⟩
theorem O_(ha:PE X o ta)(hv:PE X value tv)(hs:swapsWith value (some (.Attribute o f ij)) pos.line X.env=pure false):PS X (.Assign [.Attribute o f ij] value pos) (Wl X.K ta tv f):=by
 intro ah s σ H D I h
 refine plainObj_wpAny_Assign_Attribute (gG (hv ah s σ H _ I h) fun u s1 zp=>?_) hs
 obtain⟨y,H1,I1,ry,q⟩:=zp
 refine gG (ha ah s1 σ H1 _ I1 q) fun ov s2 zq=>?_
 obtain⟨x,H2,I2,rx,a,C,dx,fs,ex,ea,c,n,l,q2⟩:=zq
 subst ex
 obtain rfl:ov=Value.ref a:=rx
 exact BG I2 ea c n l ry fun s3 I3=>⟨σ,_,I3,q2⟩
end
section
variable{X:Cx}{σ:St}{H:Hp}{c:Value}{b:Bool}
inductive uj(K:Frag)(H:Hp):V->Value->Prop where
 |non:uj K H .non (.type "NoneType")
 |bl (x:Bool):uj K H (.bl x) (.type "bool")
 |int (i:Int):uj K H (.int i) (.type "int")
 |str (x:Str):uj K H (.str x) (.type "str")
 |flt (x:UInt64):uj K H (.flt x) (.type "float")
 |lst {a:Addr} {xs:List V} (e:H a=some (.lst xs)):uj K H (.ref a) (.type "list")
 |frz {a:Addr} {o:Obj} {xs:List V} (e:H a=some (.frz o (.lst xs))):uj K H (.ref a) (.type "list")
 |tup {a:Addr} {xs:List V} (e:H a=some (.tup xs)):uj K H (.ref a) (.type "tuple")
 |dK {a:Addr} {kvs:List (jQ×V)} (e:H a=some (.dK kvs)):uj K H (.ref a) (.type "dict")
 |dT {a:Addr} {kvs:List (List jQ×V)} (e:H a=some (.dT kvs)):uj K H (.ref a) (.type "dict")
 |ins {a C dx:Addr} {fs:List (Str×V)} (e:H a=some (.ins C dx fs)) (cl:Cls K C) (ha:findIn K (.ref C) "__class__"=some (some (.builtin "object.__class__")))
   (hn:PySem.W.specialIn K (.builtin "object.__class__") "__get__"=some (some (.builtin "getset_descriptor.__get__"))) (Xw:PySem.W.takesIn K (.builtin "object.__class__")=some true)
   (hm:PySem.W.mroIn K C (.type "object")=some true):uj K H (.ref a) (.ref C)
theorem pP{x:V}{t:Value}(I:bK X ah σ H s)(rx:cL x u)(ty:uj X.K H x t)(e:PySem.W.kitOne X.K t c=some b)(h:∀tk,Q (.bool b) { s with toks:=tk }) :
  wpAny #[4] A (call (.builtin "isinstance") [u,c]) Q E s:=by
 cases ty with
 |non=>cases(show u=Value.none from rx);exact kia_one PySem.W.kitx_none I.kIn True.intro e (fun z=>nomatch z) h
 |bl y=>cases(show u=Value.bool y from rx);exact kia_one PySem.W.kitx_bool I.kIn True.intro e (fun z=>nomatch z) h
 |int i=>obtain⟨t,q⟩:=(show ∃t,u=Value.int i t from rx);cases q;exact kia_one PySem.W.kitx_int I.kIn True.intro e (fun z=>nomatch z) h
 |str y=>obtain⟨t,q⟩:=(show ∃t,u=Value.str y t from rx);cases q;exact kia_one PySem.W.kitx_str I.kIn True.intro e (fun z=>nomatch z) h
 |flt y=>obtain⟨t,q⟩:=(show ∃t,u=Value.float y t from rx);cases q;exact kia_one PySem.W.kitx_float I.kIn True.intro e (fun z=>nomatch z) h
 |@lst a xs ea=>
  cases(show u=Value.ref a from rx)
  obtain⟨_,_,n,_,h1⟩:=(show f_ X.prog X.w H s.heap a (.lst xs)from I.hok a _ ea)
  exact kia_one PySem.W.kitx_list I.kIn ⟨_,h1,rfl⟩ e (fun z=>nomatch z) h
 |@frz a ob xs ea=>
  cases(show u=Value.ref a from rx)
  obtain⟨_,_,_,n,_,h1⟩:=(show f_ X.prog X.w H s.heap a (.frz ob (.lst xs))from I.hok a _ ea)
  exact kia_one PySem.W.kitx_list I.kIn ⟨_,h1,rfl⟩ e (fun z=>nomatch z) h
 |@tup a xs ea=>
  cases(show u=Value.ref a from rx)
  obtain⟨_,_,_,p⟩:=(show f_ X.prog X.w H s.heap a (.tup xs)from I.hok a _ ea)
  obtain⟨o,h1,h2,_⟩:=p
  exact kia_one PySem.W.kitx_tuple I.kIn ⟨o,h1,h2⟩ e (fun z=>nomatch z) h
 |@dK a kvs ea=>
  cases(show u=Value.ref a from rx)
  obtain⟨_,_,vs,_,p⟩:=(show f_ X.prog X.w H s.heap a (.dK kvs)from I.hok a _ ea)
  obtain⟨o,es,ep,h1,h2,_⟩:=p
  exact kia_one PySem.W.kitx_dict I.kIn ⟨o,h1,h2.1⟩ e (fun z=>nomatch z) h
 |@dT a kvs ea=>
  cases(show u=Value.ref a from rx)
  obtain⟨_,_,xs,_,o,es,ep,h1,h2,_⟩:=(show f_ X.prog X.w H s.heap a (.dT kvs)from I.hok a _ ea)
  exact kia_one PySem.W.kitx_dict I.kIn ⟨o,h1,h2.1⟩ e (fun z=>nomatch z) h
 |@ins a C dx fs ea cl ha hn Xw hm=>
  cases(show u=Value.ref a from rx)
  obtain⟨mA,O,_⟩:=uO I.hok ea
  obtain⟨od,J,_⟩:=O.look
  exact kia_one (PySem.W.kitx_own (cl.get _) cl.hd ha hn Xw hm) I.kIn J e (fun z=>nomatch z) h
end
structure h_(k:Nat)(A:Around):Prop where
 hd:A.handled=none
 dp:A.depth+2*k+5<recursionLimit
 un:A.units+16*k+200<cLine
theorem h_.mono{k:Nat}(r:h_ k A)(h:j<=k):h_ j A:=⟨r.hd,by have:=r.dp;omega,by have:=r.un;omega⟩
theorem h_.deeper{k:Nat}(r:h_ (k+1) A)(env:Env):h_ k (A.deeper env):=
 ⟨r.hd,by have:=r.dp;show A.depth+1+2*k+5<_;omega,by have:=r.un;show A.units+3+16*k+200<_;omega⟩
theorem BH:(A.under (.builtin "type.__call__" ⟨.ref C::us,kw⟩)).depth=A.depth+1:=by
 first|rfl|simp[Around.under,Code.weight,Code.isCreation,Code.isGuard,Code.isCaller,Code.frames,Code.isFrame,guardIds]
theorem BI:(A.under (.builtin "type.__call__" ⟨.ref C::us,kw⟩)).units=A.units+1:=by
 first|rfl|simp[Around.under,Code.cUnits,Code.frames,Code.isFrame]
theorem h_.make{k:Nat}(r:h_ (k+1) A)(C:Addr)(us:List Value)(kw:List (Str×Value)):h_ k (A.under (.builtin "type.__call__" ⟨.ref C::us,kw⟩)):=
 ⟨r.hd,by have:=r.dp;rw[BH];omega,by have:=r.un;rw[BI];omega⟩
theorem h_.depth{k:Nat}(r:h_ k A):A.depth<recursionLimit:=by have:=r.dp;omega
theorem h_.units{k:Nat}(r:h_ k A):A.units+64<cLine:=by have:=r.un;omega
def Wm:TA:=fun _ H Q=>Q [] H
def SL(ta:TE)(tr:TA):TA:=fun σ H Q=>ta σ H fun x H1=>tr σ H1 fun xs H2=>Q (x::xs) H2
section
variable{X:Cx}{te:TE}{t:TA}
theorem F8:PA X [] Wm:=fun _ _ _ _ H Q I h=>gY ⟨[],H,I,.nil,h⟩
theorem x9(ha:PE X e te)(hr:PA X es t)(hs:starEach (e::es) X.env=(false,eval e X.env)::starEach es X.env:=by rfl):PA X (e::es) (SL te t):=by
 intro pos ah s σ H Q I h
 rw[hs]
 show wpAny _ _ (spliced ((false,eval e X.env)::backTo pos (starEach es X.env))) _ _ s
 refine fJ (gG (ha ah s σ H _ I h) fun u s1 zq=>?_)
 obtain⟨x,H1,I1,r1,q1⟩:=zq
 exact gG (hr pos ah s1 σ H1 _ I1 q1) fun us s2 zq=>by obtain⟨xs,H2,I2,r2,q2⟩:=zq;exact ⟨x::xs,H2,I2,.cons r1 r2,q2⟩
end
abbrev Sp:=List V->Hp->VK->XK->Prop
abbrev EF:=List Env->Hp->Shared->XK->Value->Shared->Prop
structure BJ(P:Program)(w:World)(K:Frag)(mg:Str->Option Value)(base:Heap)(A:Around)(outer:List Env)(s:Shared)(H:Hp):Prop where
 frames:A.frames=some outer
 mod:Mod K mg base
 bs:∀b o,base.get? b=some o->s.heap.get? b=some o/\H b=none
 bsz:base.objs.size<=s.heap.objs.size
 funs:s.heap.FunFrames base outer
 frf:∀b∈uM outer,H b=none
 hok:qB P w H s.heap
 bare:AllBare s.gens
def CE(outer:List Env)(P:Program)(w:World)(H:Hp)(s:Shared)(Q:VK)(u:Value)(s':Shared):Prop:=
 ∃v H',s'.os=s.os/\AllBare s'.gens/\Un (uM outer) [] H H' s.heap s'.heap/\qB P w H' s'.heap/\cL v u/\Q v H'
def CR(CX:EF)(outer:List Env)(P:Program)(w:World)(H:Hp)(s:Shared)(Q:VK)(E:XK)(r:Result)(s':Shared):Prop:=
 match r with
 |.ok (.ret u)=>CE outer P w H s Q u s'
 |.ok _=>False
 |.error e=>CX outer H s E e s'
structure c_(P:Program)(w:World)(K:Frag)(mg:Str->Option Value)(base:Heap)(CX:EF)(k:Nat)(f:Addr)(fd:FuncData)(ps:List Str)(sp:Sp):Prop where
 len:∀vs H Q E,sp vs H Q E->vs.length=ps.length
 run:∀(A:Around) (outer:List Env) (s:Shared) (H:Hp) (args:Args) (us:List Value) (vs:List V) (Q:VK) (E:XK),h_ k A->BJ P w K mg base A outer s H->BindsTo s fd args (ps.zip us)->cG vs us->sp vs H Q E ->
  codeAny (model P w) A (.call (.ref f) args) (CR CX outer P w H s Q E) s
theorem c_.mono{w:World}{CX:EF}{k:Nat}{f:Addr}{sp:Sp}(F:c_ P w K mg base CX j f fd ps sp)(h:j<=k) :
  c_ P w K mg base CX k f fd ps sp:=⟨F.len,fun A outer s H args us vs Q E hr=>F.run A outer s H args us vs Q E (hr.mono h)⟩
theorem c_.imp{w:World}{CX:EF}{k:Nat}{f:Addr}{sp XA:Sp}(F:c_ P w K mg base CX k f fd ps sp)
  (h:∀vs H Q E,XA vs H Q E->sp vs H Q E):c_ P w K mg base CX k f fd ps XA:=
 ⟨fun vs H Q E q=>F.len vs H Q E (h _ _ _ _ q),fun A outer s H args us vs Q E hr he hb hv hs=>F.run A outer s H args us vs Q E hr he hb hv (h _ _ _ _ hs)⟩
theorem BJ.make{w:World}{outer:List Env}{H:Hp}(e:BJ P w K mg base A outer s H)(C:Addr)(us:List Value)(kw:List (Str×Value)) :
  BJ P w K mg base (A.under (.builtin "type.__call__" ⟨.ref C::us,kw⟩)) outer s H:=⟨by first|exact e.frames|(simpa[Around.under,Code.envs,Code.isFrame,pushEnvs]using e.frames),e.mod,e.bs,e.bsz,e.funs,e.frf,e.hok,e.bare⟩
section
variable{X:Cx}{σ:St}{H:Hp}{s':Shared}
theorem bK.env0(I:bK X ah σ H s):BJ X.prog X.w X.K X.mg X.base X.A X.stack s H:=
 ⟨I.ok.frames,I.ok.mod,I.bs,aR I.ok.bsz I.sz,I.stack,I.stkFree,I.hok,I.bare⟩
theorem bK.after{Q:VK}(I:bK X ah σ H s)(h:CE X.stack X.prog X.w H s Q u s'):EP X ah σ Q u s':=by
 obtain⟨v,H',os,bare,un,hok,r,q⟩:=h
 obtain⟨hh,g,d,t,os'⟩:=s'
 obtain rfl:os'=s.os:=os
 exact⟨v,H',I.call (h':=hh) (g':=g) (d':=d) (t':=t) (ch:=[]) un hok bare (fun b z=>absurd z #[9]),r,q⟩
end
def p9(K:Frag)(fd:FuncData)(ps:List Str)(ds:List Value):Prop:=
 ∀(s:Shared) (us:List Value),K.In s.heap->(us++ds).length=ps.length->BindsTo s fd ⟨us,[]⟩ (ps.zip (us++ds))
theorem p9.all(h:∀us:List Value,us.length=ps.length->bindArgs fd ⟨us,[]⟩=pure (ps.zip us)):p9 K fd ps []:=fun s us _ hl=>by
 rw[bC]at hl ⊢
 exact .of_eq (h us hl)
def Pa(CX:EF)(X:Cx)(E:XK):Prop:=∀(ah:List (Addr×Obj)) (σ:St) (H:Hp) (s:Shared) (e:Value) (s':Shared),bK X ah σ H s->CX X.stack H s E e s'->X.xe e s'
section
variable{X:Cx}{CX:EF}{k:Nat}{f:Addr}{sp:Sp}{dvs:List V}{ds:List Value}{E:XK}{x m:Str}{ta:TE}{t:TA}
structure Mk(K:Frag)(C f:Addr):Prop where
 makes:makesIn K C=true
 init:findIn K (.ref C) "__init__"=some (some (.ref f))
 fn:isFn K (.ref f)=true
 kp:keepIn K (.ref C)=true
theorem F9{σ:St}{H:Hp}{Q:VK}{vs:List V}(M:Mk X.K C f)(F:c_ X.prog X.w X.K X.mg X.base CX k f fd ps sp)(hr:h_ (k+1) X.A)(hb:p9 X.K fd ps ds)(hd:cG dvs ds)
  (hx:Pa CX X E) (I:bK X ah σ H s) (r:cG vs us)
  (h:∀x dx,H x=none->H dx=none->dx≠x->sp (.ref x::(vs++dvs)) (e_ (e_ H dx (.own x)) x (.ins C dx [])) (fun v H2=>v=.non/\Q (.ref x) H2) E) :
  wpAny #[4] X.A (call (.ref C) us) (EP X ah σ Q) X.xe s:=by
 have hq:=h #[11] s.heap.objs.size (I.hok.fresh (d9 _)) (I.hok.fresh (ax _)) (a8 (cU _))
 have I2:=bK.made (C:=C) I
 have r2:cG (V.ref #[11]::(vs++dvs)) (Value.ref #[11]::(us++ds)):=.cons rfl (r.append hd)
 have hl:(Value.ref #[11]::us++ds).length=ps.length:=by
  have e:=r2.length
  rw[F.len _ _ _ _ hq]at e
  exact e.symm
 refine qV (F7 (f:=f) I.kIn M.makes M.init (dz.mp M.fn) (im (F.run _ X.stack _ _ ⟨Value.ref #[11]::us,[]⟩ (Value.ref #[11]::(us++ds)) _ _ E (hr.make C us [])
  (I2.env0.make C us []) (hb _ (Value.ref #[11]::us) I2.kIn hl) r2 hq) fun r s' hq'=>?_))
 cases r with
 |error e=>exact hx ah σ _ _ e s' I2 hq'
 |ok fl=>
  cases fl with
  |ret u=>
   obtain⟨v,H',I3,rv,ev,q3⟩:=I2.after hq'
   subst ev
   exact⟨rv,⟨V.ref #[11],H',I3,rfl,q3⟩⟩
  |next=>exact False.elim hq'
  |brk=>exact False.elim hq'
  |cont=>exact False.elim hq'
end
def PK(X:Cx)(Xu:List Keyword)(t:TA):Prop:=
 ∀(pos:Pos) (ah:List (Addr×Obj)) (s:Shared) (σ:St) (H:Hp) (Q:List V->Hp->Prop),bK X ah σ H s->t σ H Q->wpAny #[4] X.A (evalAll ((backToKw pos (keywordEach Xu X.env)).map (·.2))) (AP X ah σ Q) X.xe s
section
variable{X:Cx}{CX:EF}{k:Nat}{f:Addr}{sp:Sp}{E:XK}{x m:Str}{W6:Pos}{Xu:List Keyword}{te ta:TE}{t tk:TA}{nm:Option Str}
variable{g:List Value->List Value->List Value}{gV:List V->List V->List V}
end
structure bh(N P:List Str)(sc:Scope):Prop where
 kind:sc.kind=.function
 co:sc.isCoroutine=false
 gen:sc.isGenerator=false
 nd:N.Nodup
 pre:N.take P.length=P
 par:∀x∈P,sc.names.lookup x=some .local\/sc.names.lookup x=some .cell
 nofree:∀y∈sc.names,y.2≠.free
theorem xi{x:Str}:∀{binds:List (Str×Value)} {m:Str->Option Value},(∀v,(x,v)∉binds)->bindL kindOf binds m x=m x
 |[],_,_=>rfl
 |(n,v)::r,m,h=>by
  unfold bindL
  rw[xi fun w hw=>h w (aV _ hw)]
  split
  ·have:x≠n:=by rintro rfl;exact h v bV
   simp[this]
  ·rfl
theorem xj{x:Str}:∀{binds:List (Str×Value)} {m:Str->Option Value},(∀v,(x,v)∉binds)->bindC kindOf binds m x=m x
 |[],_,_=>rfl
 |(n,v)::r,m,h=>by
  unfold bindC
  rw[xj fun w hw=>h w (aV _ hw)]
  split
  ·rfl
  ·have:x≠n:=by rintro rfl;exact h v bV
   simp[this]
theorem xk{x:Str}:∀{P:List Str} {vs:List Value} {i:Nat} {m:Str->Option Value},P.Nodup->P[i]?=some x->vs[i]?=some v->kindOf x=some .local ->
  bindL kindOf (P.zip vs) m x=some v
 |[],_,_,_,_,h,_,_=>by simp at h
 |_::_,[],_,_,_,_,h,_=>by simp at h
 |p::P,w::vs,0,m,nd,h1,h2,hk=>by
  simp at h1 h2;subst h1;subst h2
  show bindL kindOf ((p,w)::P.zip vs) m p=_
  unfold bindL
  rw[xi fun v hv=>(eY.mp nd).1 (oy hv).1,au hk]
  simp
 |p::P,w::vs,i+1,m,nd,h1,h2,hk=>by
  show bindL kindOf ((p,w)::P.zip vs) m x=_
  unfold bindL
  exact xk (i:=i) (eY.mp nd).2 (by simpa using h1) (by simpa using h2) hk
theorem xn{x:Str}:∀{P:List Str} {vs:List Value} {i:Nat} {m:Str->Option Value},P.Nodup->P[i]?=some x->vs[i]?=some v->kindOf x≠some .local ->
  bindC kindOf (P.zip vs) m x=some v
 |[],_,_,_,_,h,_,_=>by simp at h
 |_::_,[],_,_,_,_,h,_=>by simp at h
 |p::P,w::vs,0,m,nd,h1,h2,hk=>by
  simp at h1 h2;subst h1;subst h2
  show bindC kindOf ((p,w)::P.zip vs) m p=_
  unfold bindC
  rw[xj fun v hv=>(eY.mp nd).1 (oy hv).1,ay hk]
  simp
 |p::P,w::vs,i+1,m,nd,h1,h2,hk=>by
  show bindC kindOf ((p,w)::P.zip vs) m x=_
  unfold bindC
  exact xn (i:=i) (eY.mp nd).2 (by simpa using h1) (by simpa using h2) hk
def tQ(N:List Str)(vs:List V):St:=vs.map some++List.replicate (N.length-vs.length) none
def BK(CX:EF)(P:Program)(w:World)(K:Frag)(mg:Str->Option Value)(base:Heap)(N:List Str)(gn:Str)(scope:Scope)(f:Addr)(cd:Value)(A:Around)(outer:List Env)(s:Shared)(H:Hp)(E:XK):Cx where
 prog:=P
 w:=w
 K:=K
 mg:=mg
 base:=base
 A:=A.deeper (envOfC gn scope s.heap.objs.size f cd)
 N:=N
 s₀:=s
 H₀:=H
 env:=envOfC gn scope s.heap.objs.size f cd
 outer:=outer
 stack:=envOfC gn scope s.heap.objs.size f cd::outer
 ex:=[]
 calm:=true
 fn:=fun _=>true
 pn:=[]
 xe:=fun e s'=>wpAny (model P w) (A.deeper (envOfC gn scope s.heap.objs.size f cd)) (leaving (envOfC gn scope s.heap.objs.size f cd) e) (fun _ s''=>CX outer H s E e s'') (fun e' s''=>CX outer H s E e' s'') s'
theorem mR{sc:Scope}{n:Nat}{x:Str}(h:sc.names.lookup x=some .cell):∃c,(cellsFrom n sc.names []).lookup x=some c:=by
 have q:=PySem.W.cellsFrom_some sc.names n [] (.inl h)
 exact Option.isSome_iff_exists.mp q
theorem EG{CX:EF}{w:World}{N:List Str}{gn:Str}{f:Addr}{cd:Value}{outer:List Env}{s1:Shared}{H:Hp}{E:XK}{vs:List V}
  (S:bh N ps scope) (hd:A.handled=none) (e0:BJ P w K mg base A outer s H) (hl:vs.length=ps.length) (r:cG vs us)
  (x:InCallC s s.heap.objs.size (bindL (envOfC gn scope s.heap.objs.size f cd).kindOf (ps.zip us) fun _=>none) (cellsFrom #[11] scope.names []) (bindC (envOfC gn scope s.heap.objs.size f cd).kindOf (ps.zip us) fun _=>none) s1) :
  bK (BK CX P w K mg base N gn scope f cd A outer s H E) [] (tQ N vs) H s1:=by
 have qY:ps.length<=N.length:=by have:=iQ List.length S.pre;rw[be]at this;omega
 obtain⟨h1,tk,rfl,hk⟩:=x.done
 have noA:∀b:Addr,b∉(BK CX P w K mg base N gn scope f cd A outer s H E).ex:=fun b z=>absurd (show b∈([]:List Addr)from z) #[9]
 refine⟨⟨e0.mod,S.kind,rfl,rfl,ax _,fun y z c h1 h2=>?_,fun y hy=>?_,fun y c _ h=>?_,fun _=>hd,Around.frames_deeper e0.frames,.inr ⟨rfl,rfl⟩,fun b z=>absurd z (noA b),e0.bs,e0.bsz,fun b _ _=>noA b,fun b z=>absurd z (noA b),e0.funs,e0.frf⟩,
  rfl,e0.bare,Un.kept hk,⟨_,x.toInCall.ns,fun i y v h1 h2 h3=>?_⟩,fun y c h=>⟨_,x.cell y c h⟩,e0.hok.fresh (ax _),fun y c h=>?_,fun p hp=>absurd (show p∈([]:List (Addr×Obj))from hp) #[9],e0.hok.kept hk,?_⟩
 ·exact name_of_addr x.apart (PySem.mem_of_lookup h1) (PySem.mem_of_lookup h2)
 ·have hy:scope.names.lookup y=some .cell\/scope.names.lookup y=some .free:=hy
  rcases hy with hy|hy
  ·exact mR hy
  ·exact absurd rfl (S.nofree _ (PySem.mem_of_lookup hy))
 ·exact gC (x.above y c (PySem.mem_of_lookup h))
 ·have hi:i<vs.length:=by
   unfold tQ at h2
   by_cases hi:i<vs.length
   ·exact hi
   ·rw[dh (by simpa using hi)]at h2
    rw[jn]at h2
    split at h2<;>cases h2
  have ha:vs[i]?=some v:=by
   unfold tQ at h2
   rw[aQ (by simpa using hi),ag]at h2
   cases e:vs[i]? with
   |none=>rw[e]at h2;cases h2
   |some a=>rw[e]at h2;cases h2;rfl
  obtain⟨u,hu,rv⟩:=r.get ha
  have hp:ps[i]?=some y:=by
   rw[<- S.pre,dC #[0]];exact h1
  have ndP:ps.Nodup:=by rw[<- S.pre];exact S.nd.sublist (mF _ _)
  refine⟨u,rv,?_⟩
  rcases S.par y (aw hp)with k|k
  ·exact .inl ⟨k,xk ndP hp hu k⟩
  ·obtain⟨c,e⟩:=mR (n:=s.heap.objs.size+1) k
   refine .inr ⟨.inl k,c,e,?_⟩
   have q:=x.cell y c e
   rw[xn ndP hp hu (by show scope.names.lookup y≠_;rw[k];decide)]at q
   exact q
 ·exact e0.hok.fresh (gC (x.above y c (PySem.mem_of_lookup h)))
 ·unfold tQ
  show _=N.length
  rw[aT,ak,oR]
  omega
theorem SM{CX:EF}{w:World}{k:Nat}{f:Addr}{gn:Str}{params:Arguments}{dV kV sK pm fO ct oc:Value}{an od:Option Addr}
  {N8:Array (Option Value)} {N ps:List Str} {sp:Sp} (lk:K.lookup f=some ⟨oc,od,.func (fnOf name gn params body scope dV kV sK pm an fO ct),N8⟩) (FP:codeIn K fO gn=true) (S:bh N ps scope)
  (len:∀vs H Q E,sp vs H Q E->vs.length=ps.length)
  (Bj:∀(A:Around) (outer:List Env) (s:Shared) (H:Hp) (vs:List V) (Q:VK) (E:XK),h_ k (A.deeper (envOfC gn scope s.heap.objs.size f fO))->sp vs H Q E ->
   ∃t,Ex (BK CX P w K mg base N gn scope f fO A outer s H E) body t/\t { nx:=fun _ H'=>Q .non H',rt:=Q } (tQ N vs) H) :
  c_ P w K mg base CX (k+1) f (fnOf name gn params body scope dV kV sK pm an fO ct) ps sp:=by
 refine⟨len,fun A outer s H args us vs Q E hr e0 hb r N_=>?_⟩
 have hl:=len _ _ _ _ N_
 have KX:K.In s.heap:=e0.mod.kin.keeps fun b o e=>(e0.bs b o e).1
 have lim:s.heap.NoLimit:=e0.mod.nolimit.keeps fun b o e=>(e0.bs b o e).1
 have iA:∀y∈ps.zip us,scope.names.lookup y.1=some .local\/(scope.names.lookup y.1=some .cell/\((cellsFrom #[11] scope.names []).lookup y.1).isSome=true):=fun zq hy=>by
  obtain⟨n,v⟩:=zq
  rcases S.par n (oy hy).1 with q|q
  ·exact .inl q
  ·exact .inr ⟨q,PySem.W.cellsFrom_some _ _ _ (.inl q)⟩
 refine codeAny_call_function hr.depth (KX _ _ lk) rfl S.co S.gen rfl (PySem.W.codeRec_of KX FP) (hb _ _ _ _ ?_)
 refine wpAny_newFunctionEnv_cells S.kind iA fun env he s1 x=>?_
 subst he
 refine⟨lim.keeps x.toInCall.keep,codeAny_func ?_⟩
 obtain⟨t,ht,hq⟩:=Bj A outer s H vs Q E (hr.deeper _) N_
 have I:bK (BK CX P w K mg base N gn scope f fO A outer s H E) [] (tQ N vs) H s1:=EG S hr.hd e0 hl r x
 refine eX (ht [] s1 (tQ N vs) H _ I hq) (fun fl s' hs=>?_) fun e s' hs=>hs
 have fin:∀{σ':St} {H':Hp} {v:V} {u:Value},bK (BK CX P w K mg base N gn scope f fO A outer s H E) [] σ' H' s'->cL v u->Q v H'->CE outer P w H s Q u s':=
  fun{σ' H' v u} J rv q=>⟨v,H',J.os,J.bare,J.base,J.hok,rv,q⟩
 cases fl with
 |ret u=>
  obtain⟨v,σ',H',J,rv,q⟩:=hs
  exact fin J rv q
 |next=>
  obtain⟨σ',H',J,q⟩:=hs
  exact fin (v:=V.non) (u:=Value.none) J rfl q
 |brk=>
  obtain⟨_,_,_,q⟩:=hs
  exact False.elim q
 |cont=>
  obtain⟨_,_,_,q⟩:=hs
  exact False.elim q
section
variable{X:Cx}{x:Str}{t:TA}{id T:String}{r:List V->Hp->VK->Prop}
def Wn(r:List V->Hp->VK->Prop)(t:TA):TE:=fun σ H Q=>t σ H fun vs H1=>r vs H1 Q
theorem zE(hc:lM X (.builtin id) r)(hg:Gl X x)(hm:X.mg x=none)(hv:bootBuiltins x=some (.builtin id))(ha:PA X (e::es) t)(hn:x ≠ "__name__":=by decide)(J7:(x==("__debug__":Str))=false:=by decide)
  (he:starEach (e::es) X.env=(false,eval e X.env)::starEach es X.env:=by rfl) (qY:(backTo pos (starEach es X.env)).any (·.1)=false:=by rfl):PE X (.Call (.Name x p) (e::es) [] pos) (Wn r t):=by
 intro ah s σ H Q I h
 refine fK (lL I hg hm hv ?_ hn J7)
 exact j9 (gG (ha pos ah s σ H _ I h) fun us s1 zq=>by obtain⟨vs,H1,I1,r1,q1⟩:=zq;exact hc ah s1 σ H1 vs us Q I1 r1 q1) he qY
theorem EH(hc:lM X (.type T) r)(hg:Gl X x)(hm:X.mg x=none)(hv:bootBuiltins x=some (.type T))(ha:PA X (e::es) t)(hn:x ≠ "__name__":=by decide)(J7:(x==("__debug__":Str))=false:=by decide)
  (he:starEach (e::es) X.env=(false,eval e X.env)::starEach es X.env:=by rfl) (qY:(backTo pos (starEach es X.env)).any (·.1)=false:=by rfl):PE X (.Call (.Name x p) (e::es) [] pos) (Wn r t):=by
 intro ah s σ H Q I h
 refine fK (lL I hg hm hv ?_ hn J7)
 exact b6 (gG (ha pos ah s σ H _ I h) fun us s1 zq=>by obtain⟨vs,H1,I1,r1,q1⟩:=zq;exact hc ah s1 σ H1 vs us Q I1 r1 q1) he qY
end
end L2
variable{xs:List (List L2.jQ×PySem.Addr×PySem.Value)}{H H':L2.Hp}{X:L2.Cx}{σ:L2.St}{y:L2.V}{te:L2.TE}{vs:List L2.V}{kvs:List (L2.jQ×L2.V)}
namespace HT
open PySem PyProof.Rows
section
open PySem.SeqAt
open PySem.AutoSeq1 (wpAny_loadPart')
open PySem.MeetsSeq PySem.MeetsSeq2 PySem.MeetsSeq3
end
section
variable{w:World}
theorem cat_tup{t:Addr}{vs ws:List Value}(ht:IsTup s.heap t vs.toArray)(hb:IsTup s.heap b ws.toArray)(hv:vs≠[])
  (h1:ws=[]->Q (.ref t) s) (h2:ws≠[]->Q (.ref s.heap.objs.size) { s with heap:=s.heap.push { cls:=.type "tuple",data:=.seq (vs++ws).toArray } })
  (hsz:vs.length+ws.length<=sizeLine):wpAny #[5] A (binaryOp .Add (.ref t) (.ref b)) Q E s:=by
 obtain⟨⟨cls,dd,data,sl⟩,ho,hc,n,hd⟩:=id ht
 obtain⟨⟨cls2,dd2,data2,sl2⟩,ho2,hc2,n2,hd2⟩:=id hb
 simp only at hc hd hc2 hd2
 subst hc hd hc2 hd2
 have e:vs.toArray++ws.toArray=(vs++ws).toArray:=by simp
 by_cases hw:ws=[]
 ·exact sD ⟨_,ho,rfl⟩ ⟨_,ho2,rfl⟩ m_ qw PySem.F.slot_tuple_add PySem.F.entry_tuple_add (PySem.F.args_tuple_add_2 _ _)
   (tuple_addW1 t b vs.toArray ws.toArray n n2 dd dd2 sl sl2 (by simpa using hv) (by simp[hw])) ⟨ho,ho2,h1 hw⟩
 ·refine sD ⟨_,ho,rfl⟩ ⟨_,ho2,rfl⟩ m_ qw PySem.F.slot_tuple_add PySem.F.entry_tuple_add (PySem.F.args_tuple_add_2 _ _)
   (tuple_addW2 t b vs.toArray ws.toArray n n2 dd dd2 sl sl2 (by simpa using hv) (by simpa using hw) (by rw[aW,aW];exact hsz)) ⟨ho,ho2,?_⟩
  rw[e]
  exact h2 hw
noncomputable def sIx(n d:Nat):Option Int->Nat
 |none=>d
 |some v=>if v<0 then(v+(n:Int)).toNat else min v.toNat n
theorem sIx_none(n d:Nat):sIx n d none=d:=rfl
theorem sIx_nat(n d k:Nat):sIx n d (some (k:Int))=min k n:=by
 show(if (k:Int)<0 then((k:Int)+(n:Int)).toNat else min (k:Int).toNat n)=min k n
 rw[ay #[0],aJ]
theorem sIx_le(n d:Nat)(hd:d<=n)(o:Option Int):sIx n d o<=n:=by
 cases o with
 |none=>exact hd
 |some v=>
  show(if v<0 then(v+(n:Int)).toNat else min v.toNat n)<=n
  by_cases hv:v<0
  ·rw[au hv];omega
  ·rw[ay hv];exact Nat.min_le_right _ _
theorem CV(v:Int)(n d:Nat):(if v<0 then max (v+(n:Int)) 0 else min v (n:Int))=((sIx n d (some v):Nat):Int):=by
 show(if v<0 then max (v+(n:Int)) 0 else min v (n:Int))=(((if v<0 then(v+(n:Int)).toNat else min v.toNat n):Nat):Int)
 by_cases hv:v<0
 ·simp only[au hv];omega
 ·simp only[ay hv];omega
theorem BL(lo hi:Option Int)(n:Nat):Builtin.Slice.sliceAdjust lo hi 1 (n:Int)=(((sIx n 0 lo:Nat):Int),((sIx n n hi:Nat):Int)):=by
 have h1:¬ ((1:Int)<0):=by omega
 unfold Builtin.Slice.sliceAdjust
 simp only[h1,sE]
 refine Prod.ext ?_ ?_
 ·cases lo with
  |none=>rfl
  |some v=>exact CV v n 0
 ·cases hi with
  |none=>rfl
  |some v=>exact CV v n n
theorem BM(i j:Nat):Builtin.Slice.slicePlaces (i:Int) (j:Int) 1=j-i:=by
 unfold Builtin.Slice.slicePlaces
 have h1:(1:Int)>0:=by omega
 simp only[h1,iU,Int.ediv_one]
 split<;>omega
theorem u6{o:Option Int}{Q:Option Int->Shared->Prop}(p:IsPart v o)(h:Q o s):wpAny #[5] A (Builtin.Slice.slicePartIndex v) Q E s:=by
 cases p with
 |none=>exact slicePart_none h
 |int i t=>exact slicePart_int h
theorem sliceApplied_gen{sl:Addr}{vl vu:Value}{lo hi:Option Int}{Q:Int×Int×Nat->Shared->Prop}(hs:s.heap.IsSliceOf sl vl vu .none)(pl:IsPart vl lo)(pu:IsPart vu hi)
  (h:Q (((sIx n 0 lo:Nat):Int),1,sIx n n hi-sIx n 0 lo) s):wpAny #[5] A (Builtin.Slice.sliceApplied (.ref sl) (pure (n:Int))) Q E s:=by
 obtain⟨os,hos,hcs,N7⟩:=id hs
 unfold Builtin.Slice.sliceApplied Builtin.Slice.sliceFields
 refine aa (aa (b9 hos N7 (x:=vl) rfl (aa (b9 hos N7 (x:=vu) rfl (aa (b9 hos N7 (x:=.none) rfl (aq ?_)))))))
 refine aa (slicePart_none ?_)
 show wpAny _ _ (if ((1:Int)==0)=true then _ else _) _ _ s
 rw[ay #[1]]
 refine aa (u6 pl (aa (u6 pu (aa (aq ?_)))))
 show wpAny _ _ (match Builtin.Slice.sliceAdjust lo hi 1 (n:Int)with|(lo,hi)=>pure (lo,(1:Int),Builtin.Slice.slicePlaces lo hi 1)) _ _ s
 rw[BL lo hi n]
 show wpAny _ _ (pure (((sIx n 0 lo:Nat):Int),(1:Int),Builtin.Slice.slicePlaces ((sIx n 0 lo:Nat):Int) ((sIx n n hi:Nat):Int) 1)) _ _ s
 rw[BM]
 exact aq h
theorem F_(xs:Array Value)(i k:Nat):((List.range k).filterMap fun(m:Nat)=>xs[((i:Int)+(m:Int)*1).toNat]?).toArray=((xs.toList.drop i).take k).toArray:=by
 have e:(fun(m:Nat)=>xs[((i:Int)+(m:Int)*1).toNat]?)=fun m=>xs[i+m]?:=by
  funext m
  have:((i:Int)+(m:Int)*1).toNat=i+m:=by omega
  rw[this]
 rw[e]
 have:=pick_run xs i k
 rw[List.filterMap_map]at this
 have e2:((fun x=>xs[x]?)∘fun x=>i+x)=fun m=>xs[i+m]?:=rfl
 rw[e2]at this
 rw[this]
theorem getItem_tuple_cut{t sl:Addr}{items:Array Value}{vl vu:Value}{lo hi:Option Int}(ht:IsTup s.heap t items)(hs:s.heap.IsSliceOf sl vl vu .none)(pl:IsPart vl lo)(pu:IsPart vu hi)
  (hw:¬ (sIx items.size 0 lo=0/\sIx items.size items.size hi=items.size))
  (h:Q (.ref s.heap.objs.size) { s with heap:=s.heap.push { cls:=.type "tuple",data:=.seq ((items.toList.drop (sIx items.size 0 lo)).take (sIx items.size items.size hi-sIx items.size 0 lo)).toArray } })
  (hsz:items.size<=sizeLine):wpAny #[5] A (getItem (.ref t) (.ref sl)) Q E s:=by
 have htake:sizeOk (.seq ((items.toList.drop (sIx items.size 0 lo)).take (sIx items.size items.size hi-sIx items.size 0 lo)).toArray):=by
  show((items.toList.drop (sIx items.size 0 lo)).take (sIx items.size items.size hi-sIx items.size 0 lo)).toArray.size<=sizeLine
  rw[aW,be,io,dX]
  omega
 have hj:sIx items.size items.size hi<=items.size:=sIx_le _ _ (ax _) hi
 obtain⟨os,hos,hcs,N7⟩:=id hs
 have hTs:s.TypeIs (.ref sl) "slice":=⟨os,hos,hcs⟩
 unfold getItem
 try with_reducible refine dO ?_
 first|refine aa (aq ?_)|skip
 refine aa (wpAny_sequenceKey ht.typeIs #[1] ?_)
 refine aa (bn (name:=Str.ofString "__getitem__") ht.typeIs d_
  (br d_ ht.typeIs entry_tuple_getitem ?_ (args_tuple_getitem _ _)))
 show wpAny _ _ (Builtin.Tuple.tupleItemsOf (.ref t) >>= _) _ _ s
 refine aa (tupleItemsOf_ ht ?_)
 refine aa (lx hTs ?_)
 rw[au #[1]]
 refine aa (sliceApplied_gen hs pl pu ?_)
 have hno:¬ ((((sIx items.size 0 lo:Nat):Int)==0&&(1:Int)==1&&(sIx items.size items.size hi-sIx items.size 0 lo)==items.size)=true):=by
  intro q
  rw[b_,b_]at q
  have q1:((sIx items.size 0 lo:Nat):Int)=0:=ng q.1.1
  have q2:sIx items.size items.size hi-sIx items.size 0 lo=items.size:=ng q.2
  exact hw ⟨by omega,by omega⟩
 show wpAny _ _ (if (((sIx items.size 0 lo:Nat):Int)==0&&(1:Int)==1&&(sIx items.size items.size hi-sIx items.size 0 lo)==items.size)=true then _ else _) _ _ s
 rw[ay hno,F_]
 first
  |exact aa (m:=Builtin.Tuple.tupleExact _) (bO (aq ⟨_,rfl,aq h⟩) htake)
  |exact aa (m:=Builtin.Tuple.tupleExact _) (bO (aa (aq (aq ⟨_,rfl,aq h⟩))) htake)
  |exact aa (aa (m:=Builtin.Tuple.tupleExact _) (bO (aq (aq ⟨_,rfl,aq h⟩)) htake))
  |exact aa (aa (m:=Builtin.Tuple.tupleExact _) (bO (aq ⟨_,rfl,aq h⟩) htake))
end
end HT
namespace L2
open PySem PySem.Spec PyProof.Rows
abbrev TO:=St->Hp->(Option Int->Hp->Prop)->Prop
def PO(X:Cx)(e:Option Expr)(t:TO):Prop:=
 ∀(ah:List (Addr×Obj)) (s:Shared) (σ:St) (H:Hp) (Q:Option Int->Hp->Prop),bK X ah σ H s->t σ H Q ->
  wpAny #[4] X.A (evalPart e X.env) (fun u s'=>∃o H',bK X ah σ H' s'/\IsPart u o/\Q o H') X.xe s
def KJ:TO:=fun _ H Q=>Q none H
def SN(t:TE):TO:=fun σ H Q=>t σ H fun x H1=>∃i,x=.int i/\Q (some i) H1
section
variable{lo hi:Option Expr}{tl th:TO}
theorem KL:PO X none KJ:=by
 intro ah s σ H Q I h
 rw[evalPart_none]
 exact aq ⟨none,H,I,.none,h⟩
theorem KM(h:PE X e te):PO X (some e) (SN te):=by
 intro ah s σ H Q I hw
 rw[evalPart_some]
 refine gG (h ah s σ H _ I hw) fun u s1 zq=>?_
 obtain⟨x,H1,I1,r1,q1⟩:=zq
 obtain⟨i,rfl,q⟩:=q1
 obtain⟨t,rfl⟩:=r1
 exact⟨some i,H1,I1,.int i t,q⟩
def SQ(X:Cx)(r:V->Option Int->Option Int->Hp->VK->Prop):Prop:=
 ∀(ah:List (Addr×Obj)) (s:Shared) (σ:St) (H:Hp) (x:V) (v vl vu:Value) (lo hi:Option Int) (sl:Addr) (Q:VK),bK X ah σ H s->cL x v->s.heap.IsSliceOf sl vl vu .none->IsPart vl lo->IsPart vu hi->r x lo hi H Q ->
  ∃T id,typeLookup (.type T) "__getitem__"=pure (some (.builtin id))/\s.TypeIs v T/\wpAny #[4] X.A (getItem v (.ref sl)) (EP X ah σ Q) X.xe s
def XG(r:V->Option Int->Option Int->Hp->VK->Prop)(te:TE)(tl th:TO):TE:=fun σ H Q=>te σ H fun x H1=>tl σ H1 fun l H2=>th σ H2 fun u H3=>r x l u H3 Q
theorem F'{r:V->Option Int->Option Int->Hp->VK->Prop}(hr:SQ X r)(he:PE X e te)(hl:PO X lo tl)(hu:PO X hi th):PE X (.Subscript e (.Slice lo hi none p2) pos) (XG r te tl th):=by
 intro ah s σ H Q I h
 refine Subscript_ (gG (he ah s σ H _ I h) fun v s1 zq=>?_)
 obtain⟨x,H1,I1,r1,q1⟩:=zq
 refine wpAny_Slice (gG (hl ah s1 σ H1 _ I1 q1) fun vl s2 ⟨l,H2,I2,pl,q2⟩=>gG (hu ah s2 σ H2 _ I2 q2) fun vu s3 zq=>?_)
 obtain⟨u,H3,I3,pu,q3⟩:=zq
 rw[evalPart_none]
 refine aq ?_
 have I4:bK X ah σ H3 { s3 with heap:=s3.heap.push { cls:=.type "slice",data:=.fields #[vl,vu,.none] } }:=I3.kept (t':=s3.toks) fun b ob q=>al _ q
 obtain⟨T,id,hT,ht,hg⟩:=hr ah { s3 with heap:=s3.heap.push { cls:=.type "slice",data:=.fields #[vl,vu,.none] } } σ H3 x v vl vu l u s3.heap.objs.size Q I4 r1 (Heap.IsSliceOf.new ..) pl pu q3
 show wpAny #[4] X.A (subscriptTail e (.Slice lo hi none p2) v (.ref s3.heap.objs.size)) (EP X ah σ Q) X.xe { s3 with heap:=s3.heap.push { cls:=.type "slice",data:=.fields #[vl,vu,.none] } }
 exact tail_any (ops:=[.ref s3.heap.objs.size,v]) ht hT hg (by with_unfolding_all rfl)
noncomputable def u7(xs:List V)(lo hi:Option Int):List V:=(xs.drop (HT.sIx xs.length 0 lo)).take (HT.sIx xs.length xs.length hi-HT.sIx xs.length 0 lo)
theorem tR(xs:List V)(lo hi:Option Int):(u7 xs lo hi).length<=xs.length:=by
 unfold u7
 rw[be,io]
 omega
def Wo(K:Frag):V->Option Int->Option Int->Hp->VK->Prop:=fun x lo hi H Q=>∃a xs,x=.ref a/\gp K H a xs /\
 ¬ (HT.sIx xs.length 0 lo=0/\HT.sIx xs.length xs.length hi=xs.length)/\∀p,H p=none->Q (.ref p) (e_ H p (.tup (u7 xs lo hi)))
theorem Pd:SQ X (Wo X.K):=by
 intro ah s σ H x v vl vu lo hi sl Q I rx hs pl pu h
 obtain⟨a,xs,rfl,hx,hw,q⟩:=h
 cases rx
 obtain⟨bw,r,ht,hz⟩:=I.tuple hx
 have dG:bw.toArray.size=xs.length:=by rw[aW];exact r.length.symm
 refine⟨"tuple",_,d_.lookup,ht.typeIs,?_⟩
 refine HT.getItem_tuple_cut ht hs pl pu (by rw[dG];exact hw) ?_ (by rw[dG];exact hz)
 rw[dG]
 refine⟨.ref s.heap.objs.size,_,I.laid (t':=s.toks) (o:=.tup (u7 xs lo hi)) (fun b ob q=>al _ q) (ax _) ?_,rfl,q _ (I.hok.fresh (ax _))⟩
 exact⟨aR (tR xs lo hi) hz,_,(r.drop (HT.sIx xs.length 0 lo)).take (HT.sIx xs.length xs.length hi-HT.sIx xs.length 0 lo),IsTup.new _ _⟩
def SR(K:Frag):R2:=fun x y H Q=>∃a b xs ys,x=.ref a/\y=.ref b/\gp K H a xs/\gp K H b ys/\xs≠[]/\xs.length+ys.length<=sizeLine /\
 (ys=[]->Q (.ref a) H)/\(ys≠[]->∀p,H p=none->Q (.ref p) (e_ H p (.tup (xs++ys))))
theorem cG.nil_iff{xs:List V}(r:cG xs us):us=[]↔xs=[]:=by
 cases r with
 |nil=>simp
 |cons _ _=>simp
theorem KN:n6 X (binaryOp .Add) (SR X.K):=by
 intro ah s σ H x y v u Q I rx ry h
 obtain⟨a,b,xs,ys,rfl,rfl,ha,hb,hx,hz,q1,q2⟩:=h
 cases rx
 cases ry
 obtain⟨bw,r1,p1,_⟩:=I.tuple ha
 obtain⟨its2,r2,p2,_⟩:=I.tuple hb
 refine HT.cat_tup p1 p2 (fun z=>hx (r1.nil_iff.mp z)) (fun z=>⟨.ref a,H,I,rfl,q1 (r2.nil_iff.mp z)⟩) (fun z=>?_) (by rw[<- r1.length,<- r2.length];exact hz)
 refine⟨.ref s.heap.objs.size,_,I.laid (t':=s.toks) (o:=.tup (xs++ys)) (fun b ob q=>al _ q) (ax _) ?_,rfl,q2 (fun w=>z (r2.nil_iff.mpr w)) _ (I.hok.fresh (ax _))⟩
 exact⟨by rw[aT];exact hz,_,r1.append r2,IsTup.new _ _⟩
theorem zF:lM X (.type "tuple") (fun xs H Q=>∃a ys,xs=[.ref a]/\gp X.K H a ys/\Q (.ref a) H):=by
 intro ah s σ H xs us Q I r h
 obtain⟨a,ys,rfl,ha,q⟩:=h
 obtain⟨u,rfl,ru⟩:=oY r
 cases ru
 obtain⟨bw,_,p1,_⟩:=I.tuple ha
 exact call_tuple_same (items:=bw.toArray) p1 ⟨.ref a,H,I,rfl,q⟩
end
noncomputable def CW(n:Nat)(i:Int):Option Nat:=if 0<=i then(if i<n then some i.toNat else none)else if -(n:Int)<=i then some (i+n).toNat else none
def tU(xs:List α)(i:Int):Option α:=(CW xs.length i).bind fun j=>xs[j]?
theorem CY{i:Int}(h:CW n i=some j):seqIndex? i n=some j/\j<n/\-(n:Int)<=i/\i<n:=by
 unfold CW at h
 by_cases h0:0<=i
 ·rw[au h0]at h
  by_cases h1:i<n
  ·rw[au h1]at h
   have e:i.toNat=j:=aG h
   exact⟨by rw[seqIndex_of h0 h1,e],by omega,by omega,h1⟩
  ·rw[ay h1]at h;cases h
 ·rw[ay h0]at h
  by_cases h1:-(n:Int)<=i
  ·rw[au h1]at h
   have e:(i+n).toNat=j:=aG h
   exact⟨by rw[sF #[0] h1,e],by omega,h1,by omega⟩
  ·rw[ay h1]at h;cases h
theorem x_{xs:List α}{i:Int}{v:α}(h:tU xs i=some v):∃j,seqIndex? i xs.length=some j/\xs[j]?=some v/\j<xs.length/\-(xs.length:Int)<=i/\i<xs.length:=by
 unfold tU at h
 cases e:CW xs.length i with
 |none=>rw[e]at h;cases h
 |some j=>
  rw[e]at h
  obtain⟨h1,h2,h3,h4⟩:=CY e
  exact⟨j,h1,h,h2,h3,h4⟩
def CZ(b:Expr):Prop:=∀o i,subscripted b false o i=operate [o,i] (getItem o i)
def Kh(X:Cx)(r:R2):Prop:=
 ∀(value slice:Expr) (ah:List (Addr×Obj)) (s:Shared) (σ:St) (H:Hp) (x y:V) (v u:Value) (Q:VK),bK X ah σ H s->cL x v->cL y u->r x y H Q ->
  subscripted slice false v u=operate [v,u] (getItem v u)->wpAny #[4] X.A (subscriptTail value slice v u) (EP X ah σ Q) X.xe s
def EI(X:Cx)(id:String)(r:V->List V->Hp->VK->Prop):Prop:=
 ∀(ah:List (Addr×Obj)) (s:Shared) (σ:St) (H:Hp) (x:V) (xs:List V) (v:Value) (us:List Value) (Q:VK),bK X ah σ H s->cL x v->cG xs us->r x xs H Q ->
  wpAny #[4] X.A (call (.builtin id) (v::us)) (EP X ah σ Q) X.xe s
section
variable{a b:Expr}{ta tb:TE}
theorem Kh.or{r r':R2}(h:Kh X r)(h':Kh X r'):Kh X (fun x y H Q=>r x y H Q\/r' x y H Q):=by
 intro value slice ah s σ H x y v u Q I rx ry q hs
 rcases q with q|q
 ·exact h value slice ah s σ H x y v u Q I rx ry q hs
 ·exact h' value slice ah s σ H x y v u Q I rx ry q hs
theorem SU{r:R2}(hr:Kh X r)(ha:PE X a ta)(hb:PE X b tb)(hs:CZ b):PE X (.Subscript a b pos) (Sx r ta tb):=by
 intro ah s σ H Q I h
 exact Subscript_ (OM ha hb I h fun v u s2 x y H2 I2 rx ry q=>hr a b ah s2 σ H2 x y v u Q I2 rx ry q (hs _ _))
def SV(K:Frag):R2:=fun x y H Q=>∃p xs i v,x=.ref p/\y=.int i/\p8 K H p xs/\tU xs i=some v/\Q v H
def SX(K:Frag):R2:=fun x y H Q=>∃p xs i v,x=.ref p/\y=.int i/\gp K H p xs/\tU xs i=some v/\Q v H
def SY:R2:=fun x y H Q=>∃z i c,x=.str z/\y=.int i/\z.length<=sizeLine/\tU z.cps.toList i=some c/\Q (.str ⟨#[c]⟩) H
theorem KO:Kh X (SV X.K):=by
 intro value slice ah s σ H x y v u Q I rx ry h hs
 obtain⟨p,xs,i,z,rfl,rfl,hq,he,q⟩:=h
 cases rx
 obtain⟨t,rfl⟩:=ry
 obtain⟨bw,r,pl,hz⟩:=I.list hq
 obtain⟨j,h1,h2,h3,h4,h5⟩:=x_ he
 obtain⟨w,ew,qS⟩:=r.get h2
 have hl:=r.length
 have hn:=sM
 have fin:EP X ah σ Q w s:=⟨z,H,I,qS,q⟩
 by_cases h0:0<=i
 ·have hj:i.toNat=j:=by
   rw[seqIndex_of h0 h5]at h1
   exact aG h1
  exact item_listR pl.isList h0 #[0] (by rw[hj];simpa using ew) fin hs
 ·have hj:(i+(bw.toArray.size:Int)).toNat=j:=by
   rw[sF #[0] h4]at h1
   rw[aW,<- hl]
   exact aG h1
  exact nP (x:=w) pl.isList.typeIs slot_list_getitem.lookup
   (wpAny_getItem_list_neg (Q:=fun r s'=>r=w/\EP X ah σ Q r s') pl.isList #[0] (by rw[aW]<;>omega) #[0] (by rw[hj];simpa using ew) ⟨rfl,fin⟩) hs
theorem Pe:Kh X (SX X.K):=by
 intro value slice ah s σ H x y v u Q I rx ry h hs
 obtain⟨p,xs,i,z,rfl,rfl,hq,he,q⟩:=h
 cases rx
 obtain⟨t,rfl⟩:=ry
 obtain⟨bw,r,pl,hz⟩:=I.tuple hq
 obtain⟨j,h1,h2,h3,h4,h5⟩:=x_ he
 obtain⟨w,ew,qS⟩:=r.get h2
 have hl:=r.length
 have hn:=sM
 have fin:EP X ah σ Q w s:=⟨z,H,I,qS,q⟩
 exact nP (x:=w) pl.typeIs slot_tuple_getitem.lookup
  (getItem_tuple (j:=j) (Q:=fun r s'=>r=w/\EP X ah σ Q r s') pl #[0] #[0] (by rw[aW,<- hl];exact h1) (by simpa using ew) ⟨rfl,fin⟩) hs
theorem Pf:Kh X SY:=by
 intro value slice ah s σ H x y v u Q I rx ry h hs
 obtain⟨z,i,c,rfl,rfl,hz,he,q⟩:=h
 obtain⟨t,rfl⟩:=rx
 obtain⟨t',rfl⟩:=ry
 obtain⟨j,h1,h2,h3,h4,h5⟩:=x_ he
 have hl:z.cps.toList.length=z.length:=by simp[Str.length]
 rw[hl]at h1 h4 h5
 have hn:=sM
 exact tail_any (jb s z t) slot_str_getitem.lookup (getItem_str (c:=c) (by
  have e1:decide (i < -(2^63:Int))=false:=bc #[0]
  have e2:decide (i≥2^63)=false:=bc #[0]
  rw[e1,e2,Bool.or_false]) (by rw[h1];simpa using h2) ⟨.str ⟨#[c]⟩,H,I.tok _,⟨_,rfl⟩,q⟩) hs
def XH(K:Frag):R2:=fun x y H Q=>SV K x y H Q\/SX K x y H Q\/SY x y H Q
theorem Pg:Kh X (XH X.K):=KO.or (Pe.or Pf)
theorem BN(bw:List Value)(n j:Nat)(u:Value):Obj.mapSeq (·.setIfInBounds j u) { cls:=.type "list",data:=.seq bw.toArray n }={ cls:=.type "list",data:=.seq (bw.set j u).toArray n }:=by
 simp[Obj.mapSeq]
theorem bK.lst{p:Addr}{xs:List V}(I:bK X ah σ H s)(h:H p=some (.lst xs)) :
  ∃(bw:List Value) (n:Nat),cG xs bw/\s.heap.get? p=some { cls:=.type "list",data:=.seq bw.toArray n }/\xs.length<=sizeLine:=by
 obtain⟨z,bw,n,r,e⟩:=I.hok p _ h
 exact⟨bw,n,r,e,z⟩
theorem bK.lstUpd{p:Addr}{xs ys:List V}{its':List Value}{n':Nat}{f:Obj->Obj}(I:bK X ah σ H s)(h:H p=some (.lst xs))
  (ho:s.heap.get? p=some { cls:=.type "list",data:=.seq bw.toArray n }) (hf:f { cls:=.type "list",data:=.seq bw.toArray n }={ cls:=.type "list",data:=.seq its'.toArray n' }) (r:cG ys its') (hz:ys.length<=sizeLine) (t:Nat) :
  bK X ah σ (e_ H p (.lst ys)) { s with heap:=s.heap.update p f,toks:=t }:=by
 have e:(s.heap.update p f).get? p=some { cls:=.type "list",data:=.seq its'.toArray n' }:=by
  rw[cF f ho (by rw[hf]<;>rfl),hf]
 refine I.write (x:=p) (e:=p) (by rw[h];trivial) (.inl rfl) (fun b u hb q=>(cx _ _ (Ne.symm hb)).trans q) ⟨_,e⟩ ?_
 exact⟨hz,its',n',r,e⟩
def SZ:V->V->V->Hp->(Hp->Prop)->Prop:=fun o i v H Q=>∃p xs k j,o=.ref p/\i=.int k/\H p=some (.lst xs)/\CW xs.length k=some j/\Q (e_ H p (.lst (xs.set j v)))
theorem Ga:Ey X SZ:=by
 intro ah s σ H o i v ov iv u Q I ro ri rv h
 obtain⟨p,xs,k,j,rfl,rfl,hp,hj,q⟩:=h
 cases ro
 obtain⟨t,rfl⟩:=ri
 obtain⟨bw,n,r,ho,hz⟩:=I.lst hp
 obtain⟨h1,h2,h3,h4⟩:=CY hj
 have hl:=r.length
 have hn:=sM
 have I':bK X ah σ (e_ H p (.lst (xs.set j v))) { s with heap:=s.heap.update p (Obj.mapSeq (·.setIfInBounds j u)) }:=
  I.lstUpd hp ho (BN bw n j u) (r.set rv j) (by rw[iV];exact hz) s.toks
 by_cases h0:0<=k
 ·have hk:k.toNat=j:=by
   rw[seqIndex_of h0 h4]at h1
   exact aG h1
  exact PySem.W.ki_setAt ho h0 #[0] (by rw[aW,<- hl];exact h4) (by rw[hk];exact⟨_,I',q⟩)
 ·have hk:(k+(bw.toArray.size:Int)).toNat=j:=by
   rw[sF #[0] h3]at h1
   rw[aW,<- hl]
   exact aG h1
  exact PySem.W.ki_setBack ho #[0] (by rw[aW,<- hl];exact h3) #[0] (by rw[hk];exact⟨_,I',q⟩)
theorem ya(lo hi:Option Int)(n:Nat):(sliceBounds lo hi none n).1=((HT.sIx n 0 lo:Nat):Int)/\(sliceBounds lo hi none n).2.1=((HT.sIx n n hi:Nat):Int)/\(sliceBounds lo hi none n).2.2=1:=by
 refine⟨?_,?_,rfl⟩
 ·cases lo with
  |none=>simp[sliceBounds,HT.sIx]
  |some i=>
   simp only[sliceBounds,HT.sIx,Option.getD_none,show(1:Int)>0 by decide,iU]
   by_cases h:i<0
   ·simp only[h,iU]<;>omega
   ·simp only[h,sE]<;>omega
 ·cases hi with
  |none=>simp[sliceBounds,HT.sIx]
  |some i=>
   simp only[sliceBounds,HT.sIx,Option.getD_none,show(1:Int)>0 by decide,iU]
   by_cases h:i<0
   ·simp only[h,iU]<;>omega
   ·simp only[h,sE]<;>omega
theorem wI(bw:List Value)(lo hi:Option Int):slicePick bw.toArray lo hi none=((bw.drop (HT.sIx bw.length 0 lo)).take (HT.sIx bw.length bw.length hi-HT.sIx bw.length 0 lo)).toArray:=by
 obtain⟨h1,h2,h3⟩:=ya lo hi bw.toArray.size
 unfold slicePick
 rw[h1,h2,h3]
 simp only[sliceRange_one,pick_run,aW]<;>rfl
def Wp(K:Frag):V->Option Int->Option Int->Hp->VK->Prop:=fun x lo hi H Q=>∃a xs,x=.ref a/\p8 K H a xs/\∀p,H p=none->Q (.ref p) (e_ H p (.lst (u7 xs lo hi)))
theorem KP:SQ X (Wp X.K):=by
 intro ah s σ H x v vl vu lo hi sl Q I rx hs pl pu h
 obtain⟨a,xs,rfl,hx,q⟩:=h
 cases rx
 obtain⟨bw,r,ht,hz⟩:=I.list hx
 have dG:=r.length
 refine⟨"list",_,slot_list_getitem.lookup,ht.isList.typeIs,?_⟩
 refine wpAny_getItem_list_slice ht.isList hs pl pu .none #[9] ?_ (by rw[aW]<;>omega)
 rw[wI,<- dG]
 refine⟨.ref s.heap.objs.size,_,I.laid (t':=s.toks) (o:=.lst (u7 xs lo hi)) (fun b ob q=>al _ q) (ax _) ?_,rfl,q _ (I.hok.fresh (ax _))⟩
 exact⟨aR (tR xs lo hi) hz,_,0,(r.drop (HT.sIx xs.length 0 lo)).take (HT.sIx xs.length xs.length hi-HT.sIx xs.length 0 lo),ar _ rfl⟩
theorem qZ:lM X (.builtin "len") (fun xs H Q=>∃p ys,xs=[.ref p]/\(p8 X.K H p ys\/gp X.K H p ys)/\Q (.int ys.length) H):=by
 intro ah s σ H xs us Q I r h
 obtain⟨p,ys,rfl,hq,q⟩:=h
 obtain⟨u,rfl,rx⟩:=oY r
 cases rx
 have hn:=sM
 rcases hq with hq|hq
 ·obtain⟨bw,r',pl,hz⟩:=I.list hq
  have dG:=r'.length
  exact Calls.call_len_list pl.isList (by simp only[aW]<;>omega) ⟨.int ys.length,H,I.tok _,⟨s.toks+1,by rw[aW,dG]⟩,q⟩
 ·obtain⟨bw,r',pl,hz⟩:=I.tuple hq
  have dG:=r'.length
  exact len_tuple pl (by simp only[aW]<;>omega) ⟨.int ys.length,H,I.tok _,⟨s.toks+1,by rw[aW,dG]⟩,q⟩
theorem yb:lM X (.builtin "len") (fun xs H Q=>∃z,xs=[.str z]/\z.length<=sizeLine/\Q (.int z.length) H):=by
 intro ah s σ H xs us Q I r h
 obtain⟨z,rfl,hz,q⟩:=h
 obtain⟨u,rfl,t,rfl⟩:=oY r
 have hn:=sM
 exact len_str #[0] ⟨.int z.length,H,I.tok _,⟨_,rfl⟩,q⟩
theorem wJ:lM X (.type "tuple") (fun xs H Q=>∃p ys,xs=[.ref p]/\((p8 X.K H p ys/\∀l,H l=none->Q (.ref l) (e_ H l (.tup ys)))\/(gp X.K H p ys/\Q (.ref p) H))):=by
 intro ah s σ H xs us Q I r h
 obtain⟨p,ys,rfl,h⟩:=h
 obtain⟨u,rfl,rx⟩:=oY r
 cases rx
 rcases h with⟨hq,q⟩|⟨hq,q⟩
 ·obtain⟨bw,r',pl,hz⟩:=I.list hq
  have dG:=r'.length
  refine call_tuple_list pl.isList (fun h' kp=>?_) (by simp only[aW]<;>omega)
  have I1:bK X ah σ H { s with heap:=h' }:=I.kept (t':=s.toks) kp
  have I2:bK X ah σ (e_ H h'.objs.size (.tup ys)) { s with heap:=h'.push { cls:=.type "tuple",data:=.seq bw.toArray } }:=
   I1.laid (t':=s.toks) (fun b o e=>al _ e) (ax _) (show f_ X.prog X.w _ _ _ (.tup ys)from⟨hz,bw,r',IsTup.new _ _⟩)
  exact⟨.ref h'.objs.size,_,I2,rfl,q _ (I1.hok.fresh (ax _))⟩
 ·obtain⟨bw,r',pl,hz⟩:=I.tuple hq
  exact call_tuple_same pl ⟨.ref p,H,I,rfl,q⟩
def VB(K:Frag)(T:String)(x:V)(H:Hp):Prop:=match x with
 |.str _=>T="str"
 |.int _=>T="int"
 |.ref p=>(T="list"/\∃xs,p8 K H p xs)\/(T="tuple"/\∃o,K.lookup p=some o/\o.cls=.type "tuple"/\o.dict=none) \/
   (T="dict"/\((∃kvs,H p=some (.dK kvs))\/∃kvs,H p=some (.dT kvs)))\/(T="set"/\∃S n,H p=some (.set S n))
 |_=>False
theorem Gb{T:String}{x:V}(I:bK X ah σ H s)(r:cL x v)(ty:VB X.K T x H) :
  s.TypeIs v T/\∀a,v=.ref a->∃ob,s.heap.get? a=some ob/\ob.dict=none:=by
 cases x with
 |str z=>
  obtain⟨t,rfl⟩:=r
  cases(show T="str" from ty)
  exact⟨jb s z t,fun _ e=>nomatch e⟩
 |int i=>
  obtain⟨t,rfl⟩:=r
  cases(show T="int" from ty)
  exact⟨typeIs_int s i t,fun _ e=>nomatch e⟩
 |ref p=>
  cases r
  rcases ty with⟨rfl,xs,hq⟩|⟨rfl,o,hk,hc,hd⟩|⟨rfl,hk⟩|⟨rfl,S,n,hk⟩
  ·obtain⟨bw,_,pl,_⟩:=I.list hq
   refine⟨pl.isList.typeIs,fun a e=>?_⟩
   cases e
   obtain⟨o,n,e,c,hd,_⟩:=pl
   exact⟨o,e,hd⟩
  ·refine⟨⟨o,I.kIn p o hk,hc⟩,fun a e=>?_⟩
   cases e
   exact⟨o,I.kIn _ o hk,hd⟩
  ·have z:∃o,s.heap.get? p=some o/\o.ExactDict:=by
    rcases hk with⟨kvs,hk⟩|⟨kvs,hk⟩
    ·obtain⟨_,_,_,_,o,_,_,e,ex,_⟩:=I.hok p _ hk
     exact⟨o,e,ex⟩
    ·obtain⟨_,_,_,_,o,_,_,e,ex,_⟩:=I.hok p _ hk
     exact⟨o,e,ex⟩
   obtain⟨o,e,ex⟩:=z
   refine⟨⟨o,e,ex.1⟩,fun a e2=>?_⟩
   cases e2
   exact⟨o,e,ex.2.1⟩
  ·obtain⟨o,_,_,_,e,ex,_⟩:=I.hok p _ hk
   refine⟨⟨o,e,ex.1⟩,fun a e2=>?_⟩
   cases e2
   exact⟨o,e,ex.2.1⟩
 |_=>exact False.elim ty
variable{to:TE}{t:TA}{T id:String}{r:V->List V->Hp->VK->Prop}
end
def Xe(X:Cx)(id:String)(r:V->List V->Hp->VK->Prop):Prop:=
 ∀(ah:List (Addr×Obj)) (s:Shared) (σ:St) (H:Hp) (x:V) (xs:List V) (v:Value) (us:List Value) (Q:VK),bK X ah σ H s->cL x v->cG xs us->r x xs H Q ->
  wpAny #[4] X.A (call (.builtin id) (v::us)) (EP X ah σ Q) X.xe s
theorem cG.one{x:V}(h:cG [x] us):∃u,us=[u]/\cL x u:=by cases h with|cons r t=>cases t;exact⟨_,rfl,r⟩
theorem cG.two{x:V}(h:cG [x,y] us):∃u v,us=[u,v]/\cL x u/\cL y v:=by cases h with|cons r t=>obtain⟨v,rfl,q⟩:=cG.one t;exact⟨_,v,rfl,r,q⟩
theorem cG.zero:∀{us:List Value},cG [] us->us=[]
 |_,.nil=>rfl
theorem cG.dropLast{xs:List V}(h:cG xs us):cG xs.dropLast us.dropLast:=by
 induction h with
 |nil=>exact .nil
 |cons r t ih=>
  cases t with
  |nil=>exact .nil
  |cons q t'=>exact .cons r ih
theorem cG.rep{xs:List V}(h:cG xs us):∀k:Nat,cG (List.replicate k xs).flatten (List.replicate k us).flatten
 |0=>.nil
 |k+1=>by
  rw[cH,cH,cZ,cZ]
  exact cG.append h (cG.rep h k)
theorem BO(l:List α):l.eraseIdx (l.length-1)=l.dropLast:=by
 induction l with
 |nil=>rfl
 |cons a r ih=>
  cases r with
  |nil=>rfl
  |cons b r=>
   have e:(a::b::r).length-1=((b::r).length-1)+1:=by
    have h1:(a::b::r).length=r.length+2:=rfl
    have h2:(b::r).length=r.length+1:=rfl
    omega
   rw[e,List.eraseIdx_cons_succ,ih]
   all_goals rfl
theorem xo(bw:List Value):∀(k:Nat) (fZ:List Value),
  List.foldl (fun x1 x2=>x1++x2) fZ.toArray (List.replicate k bw.toArray)=(fZ++(List.replicate k bw).flatten).toArray
 |0,fZ=>by simp
 |k+1,fZ=>by
  have e:fZ.toArray++bw.toArray=(fZ++bw).toArray:=by simp
  have e2:(fZ++bw)++(List.replicate k bw).flatten=fZ++(List.replicate (k+1) bw).flatten:=by
   rw[cH,cZ,aY]
  rw[<- e2,<- xo bw k (fZ++bw),<- e,cH,eZ]
section
variable{l:Addr}{xs ys zs:List V}
theorem bK.lset{its':List Value}{f:Array Value->Array Value}{t':Nat}(I:bK X ah σ H s)(hH:H l=some (.lst xs))
  (e:s.heap.get? l=some { cls:=.type "list",data:=.seq bw.toArray n }) (hf:f bw.toArray=its'.toArray) (hv:cG ys its') (hz:ys.length<=sizeLine) :
  bK X ah σ (e_ H l (.lst ys)) { s with heap:=s.heap.update l (Obj.mapSeq f),toks:=t' }:=by
 have q:=PySem.IsL.update e f
 rw[hf]at q
 refine I.write (x:=l) (e:=l) (by rw[hH];exact trivial) (.inl rfl) (fun b' u hb hu=>(cx s.heap (Obj.mapSeq f) (Ne.symm hb)).trans hu) ⟨_,q⟩ ?_
 exact⟨hz,its',_,hv,q⟩
theorem bK.lnew{t':Nat}(I:bK X ah σ H s)(hv:cG ys bw)(hz:ys.length<=sizeLine) :
  bK X ah σ (e_ H s.heap.objs.size (.lst ys)) { s with heap:=s.heap.push { cls:=.type "list",data:=.seq bw.toArray },toks:=t' }:=
 I.laid (fun _ _ q=>al _ q) (ax _) ⟨hz,bw,0,hv,ar _ rfl⟩
theorem bK.fresh(I:bK X ah σ H s):H s.heap.objs.size=none:=I.hok.fresh (ax _)
theorem bK.lstM(I:bK X ah σ H s)(hH:H l=some (.lst xs)):xs.length<=sizeLine/\∃(bw:List Value) (n:Nat),cG xs bw/\xs.length=bw.length/\s.heap.get? l=some { cls:=.type "list",data:=.seq bw.toArray n }:=by
 obtain⟨z,bw,n,r,e⟩:=I.hok l _ hH
 exact⟨z,bw,n,r,r.length,e⟩
theorem Gd(h:n<=sizeLine):Builtin.List.listTooLong n=false:=by
 unfold Builtin.List.listTooLong
 exact bc #[0]
end
section
def C0:V->List V->Hp->VK->Prop:=fun x vs H Q=>∃l xs y,x=.ref l/\vs=[y]/\H l=some (.lst xs)/\xs.length<sizeLine/\Q .non (e_ H l (.lst (xs++[y])))
theorem EJ:Xe X "list.append" C0:=by
 intro ah s σ H x vs v us Q I rx rv h
 obtain⟨l,xs,y,rfl,rfl,hH,hz,q⟩:=h
 cases rx
 obtain⟨u,rfl,ru⟩:=rv.one
 obtain⟨z,bw,n,r,hl,e⟩:=I.lstM hH
 refine nQ F.slot_list_append ⟨_,e,rfl⟩ F.entry_list_append (F.args_list_append_2 _ _) (PySem.list_append l bw.toArray n u (by rw[aW];omega)) ⟨e,?_⟩
 refine⟨.non,_,I.lset (its':=bw++[u]) hH e #[9] (r.append (.cons ru .nil)) ?_,rfl,q⟩
 rw[aT,cW]
 omega
def S5:V->List V->Hp->VK->Prop:=fun x vs H Q=>∃l xs y,x=.ref l/\vs=[]/\H l=some (.lst xs)/\xs[xs.length-1]?=some y/\Q y (e_ H l (.lst xs.dropLast))
theorem Ph:Xe X "list.pop" S5:=by
 intro ah s σ H x vs v us Q I rx rv h
 obtain⟨l,xs,y,rfl,rfl,hH,hy,q⟩:=h
 cases rx
 have hus:=rv.zero
 subst hus
 obtain⟨z,bw,n,r,hl,e⟩:=I.lstM hH
 obtain⟨u,hu,ru⟩:=r.get hy
 have hy':bw.toArray[bw.toArray.size-1]?=some u:=by
  show bw.toArray[bw.length-1]?=some u
  rw[<- fN,<- hl]
  exact hu
 refine nQ F.slot_list_pop ⟨_,e,rfl⟩ F.entry_list_pop (F.args_list_pop_1 _) (MeetsSeq.list_pop_last l bw.toArray n u hy' (by rw[aW];omega)) ⟨e,?_⟩
 refine⟨y,_,I.lset (its':=bw.dropLast) hH e ?_ r.dropLast ?_,ru,q⟩
 ·show bw.toArray.eraseIdxIfInBounds (bw.toArray.size-1)=bw.dropLast.toArray
  rw[aW,List.eraseIdxIfInBounds_toArray,BO]
 ·rw[List.length_dropLast]
  omega
def Wq:R2:=fun x y H Q=>∃l b xs zs,x=.ref l/\y=.ref b/\H l=some (.lst xs)/\H b=some (.lst zs)/\xs.length+zs.length<=sizeLine/\∀p,H p=none->Q (.ref p) (e_ H p (.lst (xs++zs)))
theorem Pi:n6 X (binaryOp .Add) Wq:=by
 intro ah s σ H x y v u Q I rx ry h
 obtain⟨l,b,xs,zs,rfl,rfl,hH,hB,hz,q⟩:=h
 cases rx
 cases ry
 obtain⟨z,bw,n,r,hl,e⟩:=I.lstM hH
 obtain⟨z2,its2,n2,r2,hl2,e2⟩:=I.lstM hB
 refine PySem.P.add_list e e2 ?_ (by rw[aW,aW];omega)
 have ea:bw.toArray++its2.toArray=(bw++its2).toArray:=by simp
 rw[ea]
 exact⟨.ref _,_,I.lnew (t':=s.toks) (r.append r2) (by rw[aT];omega),rfl,q _ I.fresh⟩
def Wr:R2:=fun x y H Q=>∃l k xs,x=.ref l/\y=.int k/\H l=some (.lst xs)/\-(2^63)<=k/\k<2^63/\xs.length*k.toNat<=sizeLine /\
 ∀p,H p=none->Q (.ref p) (e_ H p (.lst (List.replicate k.toNat xs).flatten))
theorem KQ(xs:List α)(k:Nat):(List.replicate k xs).flatten.length=k*xs.length:=by
 induction k with
 |zero=>simp
 |succ k ih=>rw[cH,cZ,aT,ih,ly,nR]
theorem Pj:n6 X (binaryOp .Mult) Wr:=by
 intro ah s σ H x y v u Q I rx ry h
 obtain⟨l,k,xs,rfl,rfl,hH,h1,h2,hz,q⟩:=h
 cases rx
 obtain⟨t,rfl⟩:=ry
 obtain⟨z,bw,n,r,hl,e⟩:=I.lstM hH
 have dG:bw.toArray.size*k.toNat<=sizeLine:=by rw[aW,<- hl];exact hz
 have sB:¬ bw.toArray.size*k.toNat>(2^63-1)/8:=by
  have:(sizeLine:Nat)<=(2^63-1)/8:=by decide
  omega
 have hfit:¬ (!Builtin.List.listFitsIndex k)=true:=by
  rw[fitsIndex_both h1 h2]
  exact cP
 have hlong:¬ Builtin.List.listTooLong (bw.toArray.size*k.toNat)=true:=by
  rw[Gd dG]
  exact cP
 have hnew:List.foldl (fun x1 x2=>x1++x2) #[] (List.replicate (if bw.toArray.isEmpty=true then 0 else k.toNat) bw.toArray)=(List.replicate k.toNat bw).flatten.toArray:=by
  have f0:∀m:Nat,List.foldl (fun x1 x2=>x1++x2) #[] (List.replicate m bw.toArray)=(List.replicate m bw).flatten.toArray:=fun m=>by
   have:=xo bw m []
   rw[fS]at this
   exact this
  rw[f0]
  cases bw with
  |nil=>simp
  |cons a r'=>rw[ay (by simp)]
 refine wpAny_binaryOp_repeat_ref (T:="list") (U:="int") #[1] ⟨_,e,rfl⟩ (fun s'=>typeIs_int s' k t) noFill_list_mul F.fills_int_mul F.slot_int_rmul repeat_list F.slot_int_index.lookup
  (nQ F.slot_int_rmul (typeIs_int s k t) F.entry_int_rmul (F.args_int_rmul_2 _ _) (int___rmul___int_list k t l bw.toArray n)
   ⟨e,rfl,⟨_,e,rfl⟩,nQ F.slot_list_mul ⟨_,e,rfl⟩ F.entry_list_mul (F.args_list_mul_2 _ _) (AutoListH.list___mul___list_int_3 l bw.toArray n k t hfit sB hlong) ⟨e,?_⟩⟩)
 rw[hnew]
 exact⟨.ref _,_,I.lnew (t':=s.toks) (r.rep k.toNat) (by rw[KQ,jF];exact hz),rfl,q _ I.fresh⟩
end
section
variable{w:World}
end
section
end
end L2
namespace Att
open PySem PySem.W PySem.Calls PyProof.Rows
theorem uk{P:Params}:∀(ns:List Int) (vs:List Value),WellAll P h vs (ns.map WData.int)->IntsAre vs ns:=by
 intro ns
 induction ns with
 |nil=>
  intro vs w
  rw[nS]at w
  cases w
  exact .nil
 |cons n ns ih=>
  intro vs w
  rw[aP]at w
  cases w with
  |cons a b=>
   cases a
   exact .cons _ _ (ih _ b)
theorem EK{l:OpenLaw}(hn:l.most=some n){P:Params}{args:List WData}{nM:List Value}
  (FN:l.row.toRowW.claim.pre args=true) (NS:WellAll P h nM args) :
  ∃a vs ns,nM=[Value.ref a]/\args=[WData.list (ns.map WData.int)]/\h.get? a=some { cls:=.type "list",data:=.seq vs.toArray }/\IntsAre vs ns/\ns.length<=n:=by
 have hsh:WShape.hasAll [] args [.list .int]=true:=(pre_splitW FN).1
 have hc:l.pre.holds [] { args:=args }=true:=(pre_splitW FN).2
 obtain⟨d,r,rfl,h1,h2⟩:=hasAllW_cons hsh
 obtain rfl:=hasAllW_nil h2
 obtain⟨xs,rfl,h3⟩:=hasW_list h1
 obtain⟨ns,rfl⟩:=items_int h3
 have dG:ns.length<=n:=by
  unfold OpenLaw.pre at hc
  have h4:(WTm.not (.lt (.lit (.int (n:Int))) (.len (.arg 0)))).holds [] { args:=[.list (ns.map .int)] }=true:=by
   have h4:=(holds_andW hc).1
   rw[hn]at h4
   exact h4
  have h5:=condW_of h4 (w_not (w_lt w_lit (w_len_list (w_arg rfl))))
  rw[ak]at h5
  refine Nat.le_of_not_lt fun q=>?_
  have q':(n:Int)<((ns.length:Nat):Int):=by omega
  first
   |(rw[ba q']at h5;exact absurd h5 (by decide))
   |(simp at h5;omega)
 cases NS with
 |cons w1 w2=>
  cases w2
  cases w1 with
  |list ho hall=>exact⟨_,_,ns,rfl,rfl,ho,uk ns _ hall,dG⟩
theorem EL(l:OpenLaw)(args:List WData):l.row.toRowW.claim.post args (.bool true) args=true:=
 postW_of (r:=l.row.toRowW) (X:=(true==true))
  (show WShape.has [] (.bool true) .bool=true by first|rfl|decide|simp[WShape.has,WShape.arms,WShape.armsAll])
  (show(WTm.eq .res (.lit (.bool true))).value [] { args:=args,res:=some (.bool true),after:=args }=some (.bool (true==true))from w_eq_bool (w_res rfl) w_lit) rfl
theorem attach_call{l:OpenLaw}{q:Program}{xX:List Str}{d:DefRec}
  (hn:l.most=some n) (Vo:d.params.defaults=[])
  (call:∀(w:World) (s₀ s₁:Shared) (mg mb:Str->Option Value) (fa:Addr) (o:Obj) (pm cd sK:Value) (a:Addr) (vs:List Value) (ns:List Int),
   Ground q xX [] XP w s₀ mg mb s₁.heap->YP w s₁.heap ->
   s₁.heap.get? fa=some o->o.data=.func (docDef d.name d.params d.body d.scope pm cd sK)->s₁.heap.CodeRec cd d.name->mg d.name=some (.ref fa) ->
   s₁.heap.get? a=some { cls:=.type "list",data:=.seq vs.toArray }->IntsAre vs ns->ns.length<=n->s₁.gens=#[] ->
   codeAny (model l.prog w) callerA (.call (.ref fa) ⟨[.ref a],[]⟩) (fun r s'=>r=.ok (.ret (.bool true))/\OldK s₁.heap s'.heap/\s'.os=s₁.os/\AllBare s'.gens) s₁) :
  WalkO q xX XP YP l.row.toRowW d [] (fun f vs=>PySem.call f vs):=by
 intro w s₀ s₁ mg mb G Y fa o pm cd sK dV kV ho hd FP hD hmg hg args nM as FN hlay hrd NS hlo
 obtain rfl:dV=.none:=Dflts.none hD Vo
 obtain rfl:kV=.none:=Dflts.noKw hD
 obtain⟨a,vs,ns,rfl,rfl,hobj,hints,dG⟩:=EK hn FN NS
 refine enter_call (im (call w s₀ s₁ mg mb fa o pm cd sK a vs ns G Y ho (fd_plain hd) FP hmg hobj hints dG hg) fun r s' hq=>?_)
 obtain⟨rfl,h2,h3,h4⟩:=hq
 exact⟨.inl ⟨.bool true,.bool true,[],rfl,fun _=>rfl,.bool true,EL l _,fun _=>⟨List.Pairwise.nil,fun _ hm=>(nomatch hm)⟩⟩,h2,h3,h4⟩
section
variable{w:World}
end
end Att
namespace L2
open PySem PySem.Spec PyProof.Rows
theorem xp:∀{vs:List Value} {ns:List Int},IntsAre vs ns->cG (ns.map V.int) vs
 |_,_,.nil=>.nil
 |_,_,.cons n t h=>.cons ⟨t,rfl⟩ (xp h)
def KR(H:Hp):Prop:=∀b,H b=none\/∃o xs,H b=some (.frz o (.lst xs))
theorem Ge{P:Program}{w:World}{mb:Str->Option Value}{CX:EF}{k:Nat}{fa:Addr}{fd:FuncData}{x:Str}{sp:Sp}{s₁:Shared}{vs:List Value}{ns:List Int}
  (KX:K.In s₁.heap) (FF:s₁.heap.Ns mainGlobals mg) (hb:s₁.heap.Ns builtinsNs mb) (VZ:∀x:Str,x ≠ "__name__"->mb x=bootBuiltins x) (Xb:s₁.heap.NoLimit) (hg:s₁.gens=#[])
  (ha:s₁.heap.get? a=some { cls:=.type "list",data:=.seq vs.toArray }) (hi:IntsAre vs ns) (hl:ns.length<=sizeLine) (hr:h_ k callerA)
  (F:∀base:Heap,K.In base->base.Ns mainGlobals mg->c_ P w K mg base CX k fa fd [x] sp) (Vh:∀(s:Shared) (u:Value),BindsTo s fd ⟨[u],[]⟩ [(x,u)])
  (N_:∀H:Hp,KR H->p8 K H a (ns.map V.int)->sp [.ref a] H (fun v _=>v=.bl true) fun _ _ _=>False)
  (W8:∀H e s',CX [] H s₁ (fun _ _ _=>False) e s'->False) :
  codeAny (model P w) callerA (.call (.ref fa) ⟨[.ref a],[]⟩) (fun r s'=>r=.ok (.ret (.bool true))/\OldK s₁.heap s'.heap/\s'.os=s₁.os/\AllBare s'.gens) s₁:=by
 have rv:=xp hi
 have lenV:=hi.length
 have core:∀H:Hp,KR H->p8 K H a (ns.map V.int)->qB P w H s₁.heap->(∀b,H b≠none->b=a)->(H a≠none->K.lookup a=none) ->
   codeAny (model P w) callerA (.call (.ref fa) ⟨[.ref a],[]⟩) (fun r s'=>r=.ok (.ret (.bool true))/\OldK s₁.heap s'.heap/\s'.os=s₁.os/\AllBare s'.gens) s₁:=by
  intro H hO hS hok hA hK
  have base_of:∀{b:Addr} {o:Obj},s₁.heap.get? b=some o->H b=none->(xZ s₁.heap H).get? b=some o:=fun e n=>FU e n
  have noA:∀{b:Addr} {o:Obj} {es:Array DictEntry} {ep:Nat},s₁.heap.get? b=some o->o.data=.dict es ep->H b=none:=fun{b o es ep} e d=>by
   cases q:H b with
   |none=>rfl
   |some u=>
    have e':b=a:=hA b (by rw[q];simp)
    subst e'
    rw[ha]at e;cases e
    have d':Data.seq vs.toArray _=Data.dict es ep:=d
    cases d'
  have nsK:∀{b:Addr} {m:Str->Option Value},s₁.heap.Ns b m->(xZ s₁.heap H).Ns b m:=fun{b m} ⟨o,es,ep,e,d,r⟩=>⟨o,es,ep,base_of e (noA e d),d,r⟩
  have hKb:K.In (xZ s₁.heap H):=fun b o e=>base_of (KX b o e) (by
   cases q:H b with
   |none=>rfl
   |some u=>
    have e':b=a:=hA b (by rw[q];simp)
    subst e'
    rw[hK (by rw[q];simp)]at e;cases e)
  have hM:Mod K mg (xZ s₁.heap H):=⟨hKb,nsK FF,⟨mb,nsK hb,VZ⟩,let ⟨mc,h1,h2⟩:=Xb;⟨mc,nsK h1,h2⟩⟩
  have e0:BJ P w K mg (xZ s₁.heap H) callerA [] s₁ H:=⟨rfl,hM,fun b o e=>Kk e,Nat.le_of_eq (Ev _ _),trivial,fun b hb=>absurd (show b∈([]:List Addr)from hb) #[9],hok,.of_eq hg⟩
  refine im ((F _ hKb (nsK FF)).run callerA [] s₁ H ⟨[.ref a],[]⟩ [.ref a] [.ref a] _ _ hr e0 (Vh s₁ (.ref a)) (.cons rfl .nil) (N_ H hO hS)) fun r s' h=>?_
  cases r with
  |error e=>exact(W8 H e s' h).elim
  |ok fl=>
   cases fl with
   |next=>exact False.elim h
   |brk=>exact False.elim h
   |cont=>exact False.elim h
   |ret u=>
    obtain⟨v,H',os,bare,un,hok',r',q⟩:=h
    have q':v=.bl true:=q
    subst q'
    obtain rfl:u=Value.bool true:=r'
    refine⟨rfl,OldK.of_keep fun b o e=>?_,os,bare⟩
    cases q:H b with
    |none=>exact un.keep b o e q (by intro z;exact absurd (show b∈([]:List Addr)from z) (by simp)) (by simp)
    |some u=>
     rcases hO b with z|⟨ob,xs,z⟩
     ·rw[q]at z;cases z
     ·have z2:=un.frzs b ob _ z
      obtain⟨e1,_⟩:=hok b _ z
      obtain⟨e2,_⟩:=hok' b _ z2
      rw[e]at e1;cases e1
      exact e2
 cases hk:K.lookup a with
 |some o=>
  have e:=KX a o hk
  rw[ha]at e
  cases e
  refine core (fun _=>none) (fun _=>.inl rfl) (.inr ⟨_,vs.toArray,_,hk,rfl,rfl,rfl,by rw[aW,lenV];exact hl,by simpa using rv⟩) (fun b u z=>by have z':(none:Option HO)=some u:=z;cases z') (fun b z=>absurd rfl z) fun z=>absurd rfl z
 |none=>
  refine core (fun b=>if b=a then some (.frz { cls:=.type "list",data:=.seq vs.toArray } (.lst (ns.map V.int)))else none) (fun b=>?_) (.inl (.inr ⟨{ cls:=.type "list",data:=.seq vs.toArray },au rfl⟩)) (fun b u z=>?_) (fun b z=>?_) fun _=>hk
  ·by_cases hb:b=a
   ·exact .inr ⟨_,_,au hb⟩
   ·exact .inl (ay hb)
  ·by_cases hb:b=a
   ·have z':=(au hb).symm.trans z
    cases z'
    subst hb
    exact⟨ha,by rw[ak];exact hl,vs,_,rv,ha⟩
   ·have z':=(ay hb).symm.trans z
    cases z'
  ·by_cases hb:b=a
   ·exact hb
   ·exact absurd (ay hb) z
theorem walk_of{l:PySem.W.OpenLaw}{n k:Nat}{q:Program}{xX:List Str}{d:DefRec}{K:Params->Frag}{CX:World->EF}{sp:World->Sp}{x:Str}
  (hn:l.most=some n) (V1:n<=sizeLine) (Vo:d.params.defaults=[]) (hr:h_ k callerA)
  (hY:∀(w:World) (h:Heap),YP w h->(K w.params).In h)
  (F:∀(w:World) (mg:Str->Option Value) (fa:Addr) (h:Heap),(K w.params).In h->h.Ns mainGlobals mg->mg d.name=some (.ref fa) ->
   ∃fd:FuncData,(∀(s:Shared) (u:Value),BindsTo s fd ⟨[u],[]⟩ [(x,u)]) /\
    ∀base:Heap,(K w.params).In base->base.Ns mainGlobals mg->c_ l.prog w (K w.params) mg base (CX w) k fa fd [x] (sp w))
  (N_:∀(w:World) (H:Hp) (a:Addr) (ns:List Int),ns.length<=n->KR H->p8 (K w.params) H a (ns.map V.int)->sp w [.ref a] H (fun v _=>v=.bl true) fun _ _ _=>False)
  (W8:∀(w:World) (H:Hp) (s:Shared) (e:Value) (s':Shared),CX w [] H s (fun _ _ _=>False) e s'->False) :
  PySem.W.WalkO q xX XP YP l.row.toRowW d [] (fun f vs=>PySem.call f vs):=by
 refine Att.attach_call hn Vo fun w s₀ s₁ mg mb fa o pm cd sK a vs ns G Y ho hd FP hmg hobj hints dG hg=>?_
 have KX:=hY w _ Y
 obtain⟨fd,hb,hF⟩:=F w mg fa _ KX G.T.g hmg
 exact Ge KX G.T.g G.T.b G.T.builtins G.T.nolimit hg hobj hints (aR dG V1) hr hF hb (fun H hO hS=>N_ w H a ns dG hO hS) fun H e s'=>W8 w H s₁ e s'
noncomputable def ic(s:Stmt):Arguments:=match s with
 |.FunctionDef _ a _ _ _ _ _ _ _ _=>a
 |_=>{ posonlyargs:=[],args:=[],vararg:=none,kwonlyargs:=[],kw_defaults:=[],kwarg:=none,defaults:=[] }
noncomputable def gs(s:Stmt):List Stmt:=match s with
 |.FunctionDef _ _ b _ _ _ _ _ _ _=>b
 |_=>[]
noncomputable def aK(s:Stmt):Scope:=match s with
 |.FunctionDef _ _ _ _ _ _ sc _ _ _=>sc
 |_=>{ kind:=.function,names:=[],isGenerator:=false,isCoroutine:=false }
structure iZ(K:Frag)(x gn:Str)(st:Stmt)(f:Addr)(fd:FuncData):Prop where
 ex:∃(oc:Value) (od:Option Addr) (kV sK pm:Value) (an:Option Addr) (fO ct:Value) (N8:Array (Option Value)),
  fd=fnOf x gn (ic st) (gs st) (aK st) .none kV sK pm an fO ct/\K.lookup f=some ⟨oc,od,.func fd,N8⟩/\codeIn K fO gn=true
 kp:keepIn K (.ref f)=true
section
variable{w:World}
theorem iZ.binds{x gn:Str}{st:Stmt}{f:Addr}(F:iZ K x gn st f fd)
  (h:∀(kV sK pm:Value) (an:Option Addr) (fO ct:Value) (us:List Value),us.length=ps.length->bindArgs (fnOf x gn (ic st) (gs st) (aK st) .none kV sK pm an fO ct) ⟨us,[]⟩=pure (ps.zip us)):p9 K fd ps []:=by
 obtain⟨oc,od,kV,sK,pm,an,fO,ct,N8,rfl,lk,FP⟩:=F.ex
 exact .all (h kV sK pm an fO ct)
theorem yc{x gn:Str}{st:Stmt}{f:Addr}{oc:Value}{od an:Option Addr}{N8:Array (Option Value)}{kV sK pm fO ct:Value}(l:K.lookup f=some ⟨oc,od,.func (fnOf x gn (ic st) (gs st) (aK st) .none kV sK pm an fO ct),N8⟩)
  (c:codeIn K fO gn=true) (k:keepIn K (.ref f)=true):iZ K x gn st f (fnOf x gn (ic st) (gs st) (aK st) .none kV sK pm an fO ct):=⟨⟨oc,od,kV,sK,pm,an,fO,ct,N8,rfl,l,c⟩,k⟩
end
theorem Gf{k:Nat}(hr:h_ k A):A.units+1<cLine:=jc (Nat.add_le_add_left (by decide:1<=64) _) hr.units
section
theorem pv(i:Nat){x:Str}{pos:Pos}(hN:X.N[i]?=some x:=by rfl)(hv:Sf X.env.scope x:=by first|exact Or.inl rfl|exact Or.inr (Or.inl rfl)|exact Or.inr (Or.inr rfl))(hd:(x==("__debug__":Str))=false:=by decide)
  (FP:(x==("__classdict__":Str))=false:=by decide):PE X (.Name x pos) (Sg i):=Ot hN hv hd FP
end
def ul(H H':Hp):Prop:=∀b o,H b=some o->H' b=some o
theorem ul.refl(H:Hp):ul H H:=fun _ _ h=>h
section
variable{κ:Type}[DecidableEq κ]
noncomputable def pY(kvs:List (κ×V))(k:κ):Option V:=(kvs.find? fun kv=>decide (kv.1=k)).map (·.2)
noncomputable def sO(kvs:List (κ×V))(k:κ)(v:V):List (κ×V):=
 if (kvs.any fun kv=>decide (kv.1=k))=true then kvs.map (fun kv=>if kv.1=k then(kv.1,v)else kv)else kvs++[(k,v)]
theorem q9{p:κ×V}{r:List (κ×V)}{k:κ}(e:p.1=k):pY (p::r) k=some p.2:=by simp[pY,ca,e]
theorem q_{p:κ×V}{r:List (κ×V)}{k:κ}(e:¬ p.1=k):pY (p::r) k=pY r k:=by simp[pY,ca,e]
theorem zG(k:κ):∀kvs:List (κ×V),(kvs.any fun kv=>decide (kv.1=k))=(pY kvs k).isSome
 |[]=>rfl
 |p::r=>by
  rw[mO]
  by_cases e:p.1=k
  ·simp only[q9 e,ba e,Bool.true_or,Option.isSome_some]
  ·rw[q_ e,bc e,Bool.false_or];exact zG k r
theorem tV(kvs:List (κ×V))(k:κ)(v:V):(sO kvs k v).length<=kvs.length+1:=by
 unfold sO
 split
 ·rw[ak];omega
 ·rw[aT,a_,gK];omega
theorem oG.isSome_eq{o:Option V}{u:Option Value}(r:oG o u):o.isSome=u.isSome:=by
 cases o with
 |none=>cases u with
  |none=>rfl
  |some _=>exact(show False from r).elim
 |some _=>cases u with
  |none=>exact(show False from r).elim
  |some _=>rfl
theorem oG.getD{o:Option V}{u:Option Value}{d:V}{d':Value}(r:oG o u)(rd:cL d d'):cL (o.getD d) (u.getD d'):=by
 cases o with
 |none=>cases u with
  |none=>exact rd
  |some _=>exact(show False from r).elim
 |some _=>cases u with
  |none=>exact(show False from r).elim
  |some _=>exact r
theorem KV.val{kvs:List (κ×V)}{vs:List (κ×Value)}(r:KV kvs vs)(k:κ):oG (pY kvs k) (valueAt vs k):=by
 unfold KV at r
 induction r with
 |nil=>exact True.intro
 |@cons p q ps qs h t ih=>
  obtain⟨h1,h2⟩:=h
  by_cases e:p.1=k
  ·have e':q.1=k:=h1.symm.trans e
   have b:valueAt (q::qs) k=some q.2:=by simp[valueAt,ca,e']
   rw[q9 e,b];exact h2
  ·have e':¬ q.1=k:=fun z=>e (h1.trans z)
   have b:valueAt (q::qs) k=valueAt qs k:=by simp[valueAt,ca,e']
   rw[q_ e,b];exact ih
theorem KV.any{kvs:List (κ×V)}{vs:List (κ×Value)}(r:KV kvs vs)(k:κ):(kvs.any fun kv=>decide (kv.1=k))=vs.any fun kv=>decide (kv.1=k):=by
 unfold KV at r
 induction r with
 |nil=>rfl
 |cons h t ih=>rw[mO,mO,ih,h.1]
theorem KV.repl{kvs:List (κ×V)}{vs:List (κ×Value)}(r:KV kvs vs)(k:κ)(ry:cL y u) :
  KV (kvs.map fun kv=>if kv.1=k then(kv.1,y)else kv) (vs.map fun kv=>if kv.1=k then(kv.1,u)else kv):=by
 unfold KV at r ⊢
 induction r with
 |nil=>exact .nil
 |@cons p q ps qs h t ih=>
  rw[aP,aP]
  refine .cons ?_ ih
  obtain⟨h1,h2⟩:=h
  by_cases e:p.1=k
  ·rw[au e,au (h1.symm.trans e)];exact⟨h1,ry⟩
  ·rw[ay e,ay (fun z=>e (h1.trans z))];exact⟨h1,h2⟩
theorem KV.put{kvs:List (κ×V)}{vs:List (κ×Value)}(r:KV kvs vs)(k:κ)(ry:cL y u):KV (sO kvs k y) (stored vs k u):=by
 unfold sO stored
 rw[r.any k]
 by_cases e:(vs.any fun kv=>decide (kv.1=k))=true
 ·rw[au e,au e];exact r.repl k ry
 ·rw[ay e,ay e];exact Paired.snoc r ⟨rfl,ry⟩
theorem KV.length{kvs:List (κ×V)}{vs:List (κ×Value)}(r:KV kvs vs):kvs.length=vs.length:=Paired.length r
end
theorem C1{w:World}{k:jQ}(r:cL (kV k) u):(eQ P w).is k u=true:=by
 cases k with
 |inl i=>obtain⟨t,e⟩:=(show ∃t,u=Value.int i t from r);subst e;exact zw P w i t
 |inr x=>obtain⟨t,e⟩:=(show ∃t,u=Value.str x t from r);subst e;exact zx P w x t
theorem xq{w:World}:∀{ks:List jQ} {us:List Value},cG (ks.map kV) us->ItemsAre (eQ P w) ks us
 |[],_,r=>by rw[nS]at r;cases r;exact .nil
 |k::ks,_,r=>by
  rw[aP]at r
  cases r with
  |cons h t=>exact .cons (C1 h) (xq t)
abbrev KT(H:Hp):List (List jQ×V)->List (List jQ×Addr×Value)->Prop:=Paired fun p q=>p.1=q.1/\H q.2.1=some (.tup (p.1.map kV))/\cL p.2 q.2.2
theorem KT.val{kvs:List (List jQ×V)}(r:KT H kvs xs)(k:List jQ):oG (pY kvs k) ((atKey xs k).map (·.2)):=by
 induction r with
 |nil=>exact True.intro
 |@cons p q ps qs h t ih=>
  obtain⟨h1,_,h2⟩:=h
  by_cases e:p.1=k
  ·have e':q.1=k:=h1.symm.trans e
   have b:atKey (q::qs) k=some q.2:=by simp[atKey,ca,e']
   rw[q9 e,b];exact h2
  ·have e':¬ q.1=k:=fun z=>e (h1.trans z)
   have b:atKey (q::qs) k=atKey qs k:=by simp[atKey,ca,e']
   rw[q_ e,b];exact ih
theorem KT.repl{kvs:List (List jQ×V)}(r:KT H kvs xs)(k:List jQ)(ry:cL y u) :
  KT H (kvs.map fun kv=>if kv.1=k then(kv.1,y)else kv) (xs.map (putAt k u)):=by
 induction r with
 |nil=>exact .nil
 |@cons p q ps qs h t ih=>
  rw[aP,aP]
  refine .cons ?_ ih
  obtain⟨h1,h2,h3⟩:=h
  unfold putAt
  by_cases e:p.1=k
  ·rw[au e,au (h1.symm.trans e)];exact⟨h1,h2,ry⟩
  ·rw[ay e,ay (fun z=>e (h1.trans z))];exact⟨h1,h2,h3⟩
theorem KT.put{kvs:List (List jQ×V)}(r:KT H kvs xs)(k:List jQ)(hb:H b=some (.tup (k.map kV)))(ry:cL y u) :
  KT H (sO kvs k y) (storedH xs k b u):=by
 have e:(kvs.any fun kv=>decide (kv.1=k))=(atKey xs k).isSome:=by
  rw[zG,(r.val k).isSome_eq,Option.isSome_map]
 unfold sO storedH
 rw[e]
 by_cases q:(atKey xs k).isSome=true
 ·rw[au q,au q];exact r.repl k ry
 ·rw[ay q,ay q];exact Paired.snoc r ⟨rfl,hb,ry⟩
theorem KT.keeps{kvs:List (List jQ×V)}(r:KT H kvs xs)(ht:∀b ys,H b=some (.tup ys)->H' b=some (.tup ys)):KT H' kvs xs:=
 Paired.mapP r fun _ _ z=>⟨z.1,ht _ _ z.2.1,z.2.2⟩
section
variable{w:World}
theorem Mt{u:HO}(ok:qB P w H h)(e:Rd H a u):f_ P w H h a u:=e.ok ok
theorem zH(ok:qB P w H h)(e:Rd H a (.dK kvs)):kvs.length<=sizeLine/\(a==sysModules)=false/\∃vs,KV kvs vs/\h.DictOf (eQ P w) a vs:=
 show f_ P w H h a (.dK kvs)from Mt ok e
theorem Mu(ok:qB P w H h)(e:H a=some (.dK kvs)):kvs.length<=sizeLine/\(a==sysModules)=false/\∃vs,KV kvs vs/\h.DictOf (eQ P w) a vs:=zH ok (.inl e)
theorem yd{ks:List jQ}(ok:qB P w H h)(e:H a=some (.tup (ks.map kV))):(tupleKind (eQ P w)).is h ks a:=by
 obtain⟨_,bw,r,o,h1,h2,n,h3⟩:=(show f_ P w H h a (.tup (ks.map kV))from ok a _ e)
 exact⟨o,bw.toArray,n,h1,h2,h3,by simpa using xq r⟩
theorem zI{kvs:List (List jQ×V)}(ok:qB P w H h)(e:Rd H a (.dT kvs)):kvs.length<=sizeLine/\(a==sysModules)=false /\
  ∃xs,KT H kvs xs/\h.DictOfH (tupleKind (eQ P w)) a xs:=by
 obtain⟨z,y,xs,r,o,es,ep,h1,h2,h3,h4,h5⟩:=(show f_ P w H h a (.dT kvs)from Mt ok e)
 refine⟨z,y,xs,r,o,es,ep,h1,h2,h3,h4,fun x hx=>?_,h5⟩
 have all:∀{l:List (List jQ×V)} {m:List (List jQ×Addr×Value)},KT H l m->∀x∈m,(tupleKind (eQ P w)).is h x.1 x.2.1:=by
  intro l m q
  induction q with
  |nil=>intro x hx;exact nomatch hx
  |@cons p q ps qs hq t ih=>
   intro x hx
   rcases aM.mp hx with e|hx
   ·subst e
    exact yd ok (by rw[<- hq.1];exact hq.2.1)
   ·exact ih x hx
 exact all r x hx
theorem S6{kvs:List (List jQ×V)}(ok:qB P w H h)(e:H a=some (.dT kvs)):kvs.length<=sizeLine/\(a==sysModules)=false /\
  ∃xs,KT H kvs xs/\h.DictOfH (tupleKind (eQ P w)) a xs:=zI ok (.inl e)
end
def wK(H:Hp)(a:Addr)(y:V)(r:Option V):Prop:=
 (∃kvs k,Rd H a (.dK kvs)/\y=kV k/\r=pY kvs k)\/∃kvs k b,Rd H a (.dT kvs)/\y=.ref b/\H b=some (.tup (k.map kV))/\r=pY kvs k
def KS(H:Hp)(a:Addr)(y v:V)(H':Hp):Prop:=
 (∃kvs k,H a=some (.dK kvs)/\y=kV k/\kvs.length<sizeLine/\H'=e_ H a (.dK (sO kvs k v))) \/
 ∃kvs k b,H a=some (.dT kvs)/\y=.ref b/\H b=some (.tup (k.map kV))/\kvs.length<sizeLine/\H'=e_ H a (.dT (sO kvs k v))
theorem KS.k{k:jQ}{v:V}(e:H a=some (.dK kvs))(hl:kvs.length<sizeLine):KS H a (kV k) v (e_ H a (.dK (sO kvs k v))):=.inl ⟨kvs,k,e,rfl,hl,rfl⟩
section
variable{v:V}{r:Value}{o:Option V}
theorem bK.big(I:bK X ah σ H s):sysModules<s.heap.objs.size:=by
 have h:mainGlobals<s.heap.objs.size:=(I.mod.glob.keeps I.bk).lt
 exact Nat.lt_trans #[1] h
theorem EM(hu:A.units+1<cLine)(I:bK X ah σ H s)(g:wK H a y (some v))(ry:cL y u)(h:∀w' s',bK X ah σ H s'->cL v w'->Q w' s') :
  wpAny #[4] A (getItem (.ref a) u) Q E s:=by
 rcases g with⟨kvs,k,e,ey,l⟩|⟨kvs,k,b,e,ey,eb,l⟩
 ·subst ey
  obtain⟨z,hd,vs,rel,dd⟩:=zH I.hok e
  obtain⟨w',hw,qS⟩:=oG.some_of (v:=v) (o:=valueAt vs k) (by rw[l];exact rel.val k)
  exact wpAny_getItem_of (C1 ry) dd.mapOf hw (h w' _ (I.tok _) qS)
 ·subst ey
  cases(show u=Value.ref b from ry)
  obtain⟨z,hd,xs,rel,dd⟩:=zI I.hok e
  obtain⟨w',hw,qS⟩:=oG.some_of (v:=v) (o:=(atKey xs k).map (·.2)) (by rw[l];exact rel.val k)
  obtain⟨p,hp,hp2⟩:=aC.mp hw
  refine wpAny_getItem_heap (lZ hu) (yd I.hok eb) dd hp ?_
  rw[hp2]
  exact h w' _ (I.tok _) qS
theorem C2{ob:HO}(I:bK X ah σ H s)(mu:Se (H a))(hs:Heap.SameBut a s.heap h')(he:∃q,h'.get? a=some q)(new:f_ X.prog X.w (e_ H a ob) h' a ob) :
  bK X ah σ (e_ H a ob) { s with heap:=h',toks:=t' }:=
 I.write (x:=a) (e:=a) mu (.inl rfl) (fun b q hb z=>(hs.2 b hb).trans z) he new
theorem Pk{w:World}{vs:List (jQ×Value)}(z:kvs.length<=sizeLine)(hd:(a==sysModules)=false)(rel:KV kvs vs)(dd:h'.DictOf (eQ P w) a vs) :
  f_ P w H' h' a (.dK kvs):=⟨z,hd,vs,rel,dd⟩
theorem EN{Q:Unit->Shared->Prop}(hu:A.units+1<cLine)(I:bK X ah σ H s)(g:KS H a y v H')(ry:cL y u)(rv:cL v r)(h:∀s',bK X ah σ H' s'->Q () s') :
  wpAny #[4] A (setItem (.ref a) u r) Q E s:=by
 rcases g with⟨kvs,k,e,ey,l,eH⟩|⟨kvs,k,b,e,ey,eb,l,eH⟩
 ·subst ey eH
  obtain⟨z,hd,vs,rel,dd⟩:=Mu I.hok e
  have hz:vs.length<=sizeLine:=by rw[<- rel.length];exact z
  have hl:(sO kvs k v).length<=sizeLine:=by have:=tV kvs k v;omega
  refine wpAny_setItem_pairs (hsz:=hz) (C1 ry) dd fun h' dd' hs=>h _ ?_
  have he:∃q,h'.get? a=some q:=let ⟨q,_,_,hq,_⟩:=dd';⟨q,hq⟩
  exact C2 I (by rw[e];exact True.intro) hs he (Pk hl hd (rel.put k rv) dd')
 ·subst ey eH
  cases(show u=Value.ref b from ry)
  obtain⟨z,hd,xs,rel,dd⟩:=S6 I.hok e
  have hz:xs.length<=sizeLine:=by rw[<- Paired.length rel];exact z
  have hl:(sO kvs k v).length<=sizeLine:=by have:=tV kvs k v;omega
  refine wpAny_setItem_heap (hsz:=hz) (lZ hu) (yd I.hok eb) dd fun h' dd' hs=>h _ ?_
  obtain⟨q,es,ep,hq,h2,h3,h4,_,h5⟩:=dd'
  refine C2 I (by rw[e];exact True.intro) hs ⟨q,hq⟩ ⟨hl,hd,_,(rel.put k eb rv).keeps fun c ys ec=>?_,q,es,ep,hq,h2,h3,h4,h5⟩
  rw[cE (Sd ec e (fun z=>nomatch z))]
  exact ec
end
section
variable{k:jQ}
end
def Pm(i:Expr):Prop:=∀ov iv,subscripted i false ov iv=operate [ov,iv] (getItem ov iv)
theorem KU{w:World}{value slice:Expr}{T id:String}
  (hl:typeLookup (.type T) "__getitem__"=pure (some (.builtin id))) (hs:Pm slice)
  (h:wpAny #[5] A (eval value env) (fun o s₁=>wpAny #[5] A (eval slice env) (fun i s₂=>s₂.TypeIs o T/\wpAny #[5] A (getItem o i) Q E s₂) E s₁) E s) :
  wpAny #[5] A (eval (.Subscript value slice pos) env) Q E s:=by
 refine Subscript_ (eX h (fun o s₁ h₁=>eX h₁ (fun i s₂ h₂=>?_) fun _ _ x=>x) fun _ _ x=>x)
 obtain⟨hT,h₂⟩:=h₂
 unfold subscriptTail
 refine aa ?_
 rw[getitemInPython_of_ne hT.not_modules]
 refine aa (iW hT hl ?_)
 have fin:wpAny #[5] A (subscripted slice false o i) (fun r s₃=>wpAny #[5] A (letTemporaryGo value o r >>= fun _=>pure r) Q E s₃) E s₂:=by
  rw[hs o i]
  exact wpAny_operating (eX h₂ (fun r s₃ h₃=>aa (wpAny_letTemporaryGo (aq h₃))) fun _ _ x=>x)
 first
  |exact aq (aa fin)
  |exact aa (aq (aa fin))
  |exact aa fin
theorem zJ{o:Option V}(I:bK X ah σ H s)(g:wK H a y o):s.TypeIs (.ref a) "dict":=by
 rcases g with⟨kvs,k,e,_,_⟩|⟨kvs,k,b,e,_,_,_⟩
 ·obtain⟨_,_,vs,_,dd⟩:=zH I.hok e
  exact dd.typeIs
 ·obtain⟨_,_,xs,_,dd⟩:=zI I.hok e
  exact dd.typeIs
def S7(td ty:TE):TE:=fun σ H Q=>td σ H fun x H1=>ty σ H1 fun y H2=>∃a v,x=.ref a/\wK H2 a y (some v)/\Q v H2
section
variable{i value:Expr}{Xa:Pos}{td ty tv:TE}
theorem KW(hu:X.A.units+1<cLine)(ho:PE X o td)(hi:PE X i ty)(hs:Pm i):PE X (.Subscript o i pos) (S7 td ty):=by
 intro ah s σ H Q I h
 refine KU PySem.F.slot_dict_getitem.lookup hs (gG (ho ah s σ H _ I h) fun u s1 ⟨x,H1,I1,rx,q1⟩=>gG (hi ah s1 σ H1 _ I1 q1) fun iv s2 zq=>?_)
 obtain⟨y,H2,I2,ry,a,v,ex,g,q2⟩:=zq
 subst ex
 obtain rfl:u=Value.ref a:=rx
 exact⟨zJ I2 g,EM hu I2 g ry fun w' s3 I3 qS=>⟨v,H2,I3,qS,q2⟩⟩
end
theorem Gh{w:World}(h:Heap)(hb:sysModules<h.objs.size):f_ P w H (h.push { cls:=.type "dict",data:=.dict #[] }) h.objs.size (.dK []):=
 ⟨cM _,bR.mpr (Ne.symm (a8 hb)),[],.nil,Heap.DictOf.new h⟩
def Pn:TE:=fun _ H Q=>∀p,H p=none->Q (.ref p) (e_ H p (.dK []))
section
theorem Gi:PE X (.Dict [] [] pos) Pn:=fun ah s σ H Q I h=>
 wpAny_Dict_empty ⟨.ref s.heap.objs.size,_,I.laid (a:=s.heap.objs.size) (o:=.dK []) (t':=s.toks) (fun _ _ q=>al _ q) (ax _) (Gh s.heap I.big),rfl,h _ (I.hok.fresh (ax _))⟩
end
structure M2(X:Cx)(o:Expr)(m:Str)(fI:Pos)(e f:Expr)(dM:Pos):Prop where
 base:attributeBase o m X.env (eval o X.env)=eval o X.env
 few:((backTo dM (starEach [e,f] X.env)).all (fun x=>!x.1)&&(backToKw dM (keywordEach [] X.env)).all (fun x=>x.1.isSome)
  && decide (([e,f]:List Expr).length+([]:List Keyword).length+(if ([]:List Keyword).isEmpty then 0 else 1)<30))=true
 line:(fI.endLine==dM.line)=true
 trees:backTo dM (starEach [e,f] X.env)=[(false,eval e X.env),(false,eval f X.env)]
def Xf(H:Hp)(a:Addr):Prop:=(∃kvs,Rd H a (.dK kvs))\/∃kvs,Rd H a (.dT kvs)
theorem Po(I:bK X ah σ H s)(d:Xf H a) :
  s.TypeIs (.ref a) "dict"/\(∀b,Value.ref a=.ref b->∃ob,s.heap.get? b=some ob/\ob.dict=none)/\(a==sysModules)=false:=by
 rcases d with⟨kvs,e⟩|⟨kvs,e⟩
 ·obtain⟨_,hd,vs,_,dd⟩:=zH I.hok e
  refine⟨dd.typeIs,fun b q=>?_,hd⟩
  cases q
  obtain⟨ob,_,_,h1,h2,_⟩:=dd
  exact⟨ob,h1,h2.2.1⟩
 ·obtain⟨_,hd,xs,_,dd⟩:=zI I.hok e
  refine⟨dd.typeIs,fun b q=>?_,hd⟩
  cases q
  obtain⟨ob,_,_,h1,h2,_⟩:=dd
  exact⟨ob,h1,h2.2.1⟩
section
variable{d:V}{r:Value}{o:Option V}
theorem Pp(hu:A.units+1<cLine)(I:bK X ah σ H s)(g:wK H a y o)(ry:cL y u)(rd:cL d r)(h:∀w' s',bK X ah σ H s'->cL (o.getD d) w'->Q w' s') :
  wpAny #[4] A (call (.builtin "dict.get") [.ref a,u,r]) Q E s:=by
 rcases g with⟨kvs,k,e,ey,l⟩|⟨kvs,k,b,e,ey,eb,l⟩
 ·subst ey
  obtain⟨z,hd,vs,rel,dd⟩:=zH I.hok e
  refine sH PySem.F.slot_dict_get dd.typeIs PySem.F.entry_dict_get (PySem.F.args_dict_get_3 _ _ _) (meets_dict_get_default (eQ X.prog X.w) a (C1 ry) hd r) ⟨_,dd.mapOf,h _ _ (I.tok _) ?_⟩
  rw[l]
  exact(rel.val k).getD rd
 ·subst ey
  cases(show u=Value.ref b from ry)
  obtain⟨z,hd,xs,rel,dd⟩:=zI I.hok e
  refine sH PySem.F.slot_dict_get dd.typeIs PySem.F.entry_dict_get (PySem.F.args_dict_get_3 _ _ _) (meetsH_dict_get_default (tupleKind (eQ X.prog X.w)) a b hd r) ⟨lZ hu,k,xs,yd I.hok eb,dd,h _ _ (I.tok _) ?_⟩
  rw[l]
  exact(rel.val k).getD rd
end
def Pq(td ty tx:TE):TE:=fun σ H Q=>td σ H fun x H1=>∃a,x=.ref a/\Xf H1 a/\ty σ H1 fun y H2=>tx σ H2 fun z H3=>∃o,wK H3 a y o/\Q (o.getD z) H3
section
variable{f:Expr}{td ty tx:TE}
theorem Gj(hu:X.A.units+1<cLine)(ho:PE X o td)(he:PE X e ty)(hf:PE X f tx)(m:M2 X o "get" fI e f dM):PE X (.Call (.Attribute o "get" fI) [e,f] [] dM) (Pq td ty tx):=by
 intro ah s σ H Q I h
 refine wpAny_Call_method m.base m.few m.line PySem.F.plainAttrs_dict PySem.F.slot_dict_get PySem.F.type_dict_get (gG (ho ah s σ H _ I h) fun u s1 zq=>?_)
 obtain⟨x,H1,I1,rx,a,ex,d,q1⟩:=zq
 subst ex
 obtain rfl:u=Value.ref a:=rx
 obtain⟨t1,t2,_⟩:=Po I1 d
 refine⟨t1,t2,?_⟩
 rw[m.trees]
 refine gE rfl (kI (fJ (gG (he ah s1 σ H1 _ I1 q1) fun iv s2 ⟨y,H2,I2,ry,q2⟩=>
  fJ (gG (hf ah s2 σ H2 _ I2 q2) fun fv s3 ⟨z,H3,I3,rz,ov,g,q3⟩=>gY ?_))))
 exact Pp hu I3 g ry rz fun w' s4 I4 qS=>⟨_,H3,I4,qS,q3⟩
end
section
end
section
end
section
end
section
variable{κ:Type}[DecidableEq κ]
end
end L2
set_option maxHeartbeats 4000000
namespace L2
open PySem PySem.Spec PyProof.Rows
abbrev de(X:Cx)(nm:List Str)(scope:Scope)(cl:List (Str×Addr))(C:Addr)(s0:Shared)(H0:Hp)(fp:List Addr):Cx:=
 { X with N:=nm,s₀:=s0,H₀:=H0,env:=compEnvC scope cl C X.env,outer:=X.stack,stack:=X.stack,ex:=fp,fn:=fun _=>false,pn:=[],xe:=fun _ _=>False }
def Gk(X:Cx)(lg:List Expr)(t:TT):Prop:=
 ∀(ah:List (Addr×Obj)) (s:Shared) (σ:St) (H:Hp) (Q:Bool->Hp->Prop),bK X ah σ H s->t σ H Q ->
  wpAny #[4] X.A (forIn lg true fun c r=>if r=true then do let ok <- isTrue c X.env (eval c X.env);pure (ForInStep.yield ok)else pure (ForInStep.yield r)) (TP X ah σ Q) X.xe s
def Ws:TT:=fun _ H Q=>Q true H
theorem KY:Gk X [] Ws:=fun _ _ _ H _ I h=>wpAny_tests_nil ⟨H,I,h⟩
theorem KZ{c:Expr}{t:TT}(hc:PT X c t):Gk X [c] t:=fun ah s σ H Q I h=>wpAny_tests_one (hc ah s σ H Q I h)
def p_(cap:List (Option Nat))(σ:St):St:=cap.map fun o=>o.bind fun j=>(σ[j]?).join
def u8(cap:List (Option Nat))(wi:TI)(g:TG)(tc:TT)(te:TE):TE:=fun σ H Q=>wi σ H fun J H1=>∃W:Nat->Nat->List V->Hp->Prop,(∃m,W 0 m [] H1)/\∀i m ys H2,W i m ys H2 ->
 (J.stop i H2/\ys.length<=sizeLine/\∀p,H2 p=none->Q (.ref p) (e_ H2 p (.lst ys))) \/
 (J.go i H2/\∀x H3,J.yld i H2 x H3->g x (p_ cap σ) H3 fun σ2 H4=>tc σ2 H4 fun b H5=>if b=true then te σ2 H5 fun y H6=>ys.length<sizeLine/\∃m',m'<m/\W (i+1) m' (ys++[y]) H6 else ∃m',m'<m/\W (i+1) m' ys H5)
theorem Un.cellK{fs ex:List Addr}(u:Un fs ex H H' h h'){c:Addr}{v:Option Value}(x:h.IsCell c v)(n:H c=none)(he:c∉ex):h'.IsCell c v:=by
 obtain⟨o,ho,hd⟩:=x
 obtain⟨sl,q⟩:=u.any ho n he
 exact⟨_,q,hd⟩
structure u9(X:Cx)(scope:Scope)(cl:List (Str×Addr))(x:Str):Prop where
 vis:Sf X.env.scope x
 nl:X.env.scope.names.lookup x≠some .local
 cl:cl.lookup x=X.env.cells.lookup x
 kd:(relabel scope X.env).names.lookup x=some .cell\/(relabel scope X.env).names.lookup x=some .free
theorem mI:∀(names:List (Str×NameKind)) (n:Nat) (fZ:List (Str×Addr)) {y:Str} {c:Addr},(y,c)∈cellsFrom n names fZ->(y,NameKind.cell)∈names\/(y,c)∈fZ
 |[],_,_,_,_,h=>.inr h
 |(x,k)::r,n,fZ,y,c,h=>by
  have h:(y,c)∈(if k==.cell then cellsFrom (n+1) r ((x,n)::fZ)else cellsFrom n r fZ):=h
  split at h
  ·rename_i hk
   rcases mI r _ _ h with q|q
   ·exact .inl (aV _ q)
   ·rcases aM.mp q with e|q
    ·cases e
     exact .inl (by rw[ng hk];exact bV)
    ·exact .inr q
  ·rcases mI r _ _ h with q|q
   ·exact .inl (aV _ q)
   ·exact .inr q
theorem jh:∀{l:List (Str×β)} {x:Str} {b:β},l.lookup x=some b->(x,b)∈l
 |[],_,_,h=>by simp at h
 |(y,c)::r,x,b,h=>by
  rw[j_]at h
  cases hx:x==y with
  |true=>rw[hx]at h;have:=ng hx;subst this;cases h;exact bV
  |false=>rw[hx]at h;exact aV _ (jh h)
theorem ke:∀(names:List (Str×NameKind)) (n:Nat) (fZ:List (Str×Addr)),cellsFrom n names fZ=cellsFrom n names []++fZ
 |[],_,_=>rfl
 |(x,k)::r,n,fZ=>by
  show(if k==.cell then cellsFrom (n+1) r ((x,n)::fZ)else cellsFrom n r fZ)=(if k==.cell then cellsFrom (n+1) r [(x,n)]else cellsFrom n r [])++fZ
  split
  ·rw[ke r (n+1) ((x,n)::fZ),ke r (n+1) [(x,n)],aY];rfl
  ·exact ke r n fZ
abbrev fw(X:Cx)(nm:List Str)(scope:Scope)(cl:List (Str×Addr))(C:Addr)(s0:Shared)(H0:Hp)(fp:List Addr):Cx:=
 { de X nm scope cl C s0 H0 fp with fn:=fun y=>scope.names.lookup y==some .cell }
theorem K0{M:Model}{A:Around}{E:Value->Shared->Prop}{globals:Addr}{gn:Str}{Q:Env->Shared->Prop}
  (hQ:∀h':Heap,h'.Ns s.heap.objs.size (fun x=>([]:List (Str×Value)).reverse.lookup x)->(∀b o,s.heap.get? b=some o->h'.get? b=some o)->CellsOk h' #[11] (cellsFrom #[11] scope.names []) ->
   Q (newEnv scope s.heap.objs.size globals (cellsFrom #[11] scope.names []++cl) gn none .none (some env) builtinsNs) { s with heap:=h' }) :
  wpAny M A (newFunctionEnv scope globals cl [] gn none .none (some env)) Q E s:=by
 simp only[newFunctionEnv,Option.isSome_some,iU]
 refine aa (wpAny_alloc ?_)
 refine aa (wpAny_layCells _ (fun name kind cells=>by cases hkc:kind==NameKind.cell<;>simp[hkc]) _ _ _ _ ?_)
 have ok:=cellsFrom_ok scope.names (s.heap.push { cls:=.type "dict",data:=.dict #[] }) #[11] [] ⟨fun _ _ hm=>(nomatch hm),List.Pairwise.nil⟩ (by rw[bA];exact ax _)
 rw[bA]at ok
 rw[show({ s with heap:=s.heap.push { cls:=.type "dict",data:=.dict #[] } }:Shared).heap.objs.size=s.heap.objs.size+1 from bA ..,ke _ _ cl]
 exact aa (aq (aq (hQ _ ((Heap.Ns.new s.heap (.type "dict")).keeps (pushCells_keeps _ _)) (fun b o e=>pushCells_keeps _ _ b o (al _ e)) ok)))
section
variable{nm:List Str}{wi:TI}{g:TG}{tc:TT}
theorem yf{prog:Program}{w:World}{A:Around}{E:Value->Shared->Prop}{l:Addr}{u:Value}{Q:Value->Shared->Prop}
  (e:s.heap.get? l=some { cls:=.type "list",data:=.seq bw.toArray n }) (hz:bw.length<sizeLine)
  (h:∀(h':Heap) (n' tk:Nat),h'.get? l=some { cls:=.type "list",data:=.seq (bw++[u]).toArray n' }->(∀b o,b≠l->s.heap.get? b=some o->h'.get? b=some o)->Q .none { s with heap:=h',toks:=tk }) :
  wpAny #[5] A (call (.builtin "list.append") [.ref l,u]) Q E s:=by
 refine nQ F.slot_list_append ⟨_,e,rfl⟩ F.entry_list_append (F.args_list_append_2 _ _) (PySem.list_append l bw.toArray n u (by rw[aW];omega)) ⟨e,?_⟩
 have q:=PySem.IsL.update e (fun a=>a.push u)
 have q2:(s.heap.update l (Obj.mapSeq fun x=>x.push u)).get? l=some { cls:=.type "list",data:=.seq (bw++[u]).toArray (if ((bw.toArray.push u).size==bw.toArray.size)=true then n else n+1) }:=by
  rw[show(s.heap.update l (Obj.mapSeq fun x=>x.push u)).get? l=_ from q];simp
 exact h _ _ s.toks q2 fun b o hb ho=>(cx s.heap (Obj.mapSeq _) (Ne.symm hb)).trans ho
structure zK(X:Cx)(ah:List (Addr×Obj))(H:Hp)(s:Shared)(C:Addr)(m:Str->Option Value):Prop where
 ns:s.heap.Ns C m
 fr:H C=none
 nl:C≠X.env.locals
 nf:C∉X.fs
 hi:X.s₀.heap.objs.size<=C
 nc:∀x c,X.env.cells.lookup x=some c->c≠C
 np:∀p∈X.pn++ah,p.1≠C
theorem zK.off{m:Str->Option Value}(B:zK X ah H s C m)(I:bK X ah σ H s)(hs:Heap.SameBut C s.heap h'):bK X ah σ H { s with heap:=h' }:=I.turned (t':=s.toks) (it:=C) (fun b o hb e=>hs.extBut b o hb e) B.fr B.nl (.inr B.hi) B.nc B.np
theorem Gm{N1:List (Addr×Obj)}{σ2:St}{H1:Hp}{s2:Shared}
  (sB:∀(i j:Nat),cap[i]?=some (some j)->∃x,nm[i]?=some x/\X.N[j]?=some x/\u9 X scope cl x) (dG:cap.length=nm.length)
  (I2:bK X ah σ H1 s2) (Va:∀b∈fp,∀x c,X.env.cells.lookup x=some c->c≠b)
  (I:bK (fw X nm scope cl C s2 H1 fp) N1 σ2 H s):bK (fw X nm scope cl C s2 H1 fp) N1 (p_ cap σ) H s:=by
 refine⟨I.ok,I.os,I.bare,I.base,?_,I.cell,I.free,I.freeC,I.pin,I.hok,by show(p_ cap σ).length=nm.length;unfold p_;rw[ak];exact dG⟩
 obtain⟨m,hn,_⟩:=I.loc
 refine⟨m,hn,fun i x v e1 e2 e3=>?_⟩
 unfold p_ at e2
 rw[ag]at e2
 cases hc:cap[i]? with
 |none=>rw[hc]at e2;cases e2
 |some oj=>
  cases oj with
  |none=>rw[hc]at e2;cases e2
  |some j=>
   rw[hc]at e2
   have e2':(σ[j]?).join=some v:=by simpa using e2
   have e2:σ[j]?=some (some v):=by
    cases hs:σ[j]? with
    |none=>rw[hs]at e2';cases e2'
    |some ov=>rw[hs]at e2';simp at e2';rw[e2']
   obtain⟨x',f1,f2,k⟩:=sB i j hc
   have hx:x'=x:=by
    have z:nm[i]?=some x:=e1
    rw[f1]at z;exact aG z
   subst hx
   obtain⟨m2,_,hl2⟩:=I2.loc
   obtain⟨u,r,l⟩:=hl2 j x' v f2 e2 k.vis
   refine⟨u,r,?_⟩
   rcases l with⟨kl,_⟩|⟨_,c,hcc,gj⟩
   ·exact absurd kl k.nl
   ·refine .inr ⟨k.kd,c,by rw[<- hcc];exact k.cl,?_⟩
    exact I.base.cellK gj (I2.freeC _ _ hcc) fun z=>Va c z _ _ hcc rfl
theorem BP{Qk:VK}(iB:X.calm=true)(wC:closureFor scope X.env=pure cl)(qt:∀x c,cl.lookup x=some c->X.env.cells.lookup x=some c)
  (iA:scope.kind=.function) (qT:∀x∈scope.names,x.2=.local->scope.names.lookup x.1=some .local) (XT:∀y∈scope.names,y.2=.cell->cl.lookup y.1=none)
  (CQ:∀x,scope.names.lookup x≠some .cell->((relabel scope X.env).names.lookup x=some .cell\/(relabel scope X.env).names.lookup x=some .free)->∃c,cl.lookup x=some c)
  (sB:∀(i j:Nat),cap[i]?=some (some j)->∃x,nm[i]?=some x/\X.N[j]?=some x/\u9 X scope cl x/\(x,NameKind.cell)∉scope.names) (dG:cap.length=nm.length)
  (hi:PI X tg dw wi) (hg:∀k C s0 H0 fp,PG (fw X nm scope (cellsFrom k scope.names []++cl) C s0 H0 fp) tg g) (ht:∀k C s0 H0 fp,Gk (fw X nm scope (cellsFrom k scope.names []++cl) C s0 H0 fp) lg tc)
  (he:∀k C s0 H0 fp,PE (fw X nm scope (cellsFrom k scope.names []++cl) C s0 H0 fp) oq te) (hs:∀x,foldedSetIterable dw X.env x=pure x)
  (I:bK X ah σ H s) (h:u8 cap wi g tc te σ H Qk) (fin:∀(s4:Shared) (C D:Addr) (m4:Str->Option Value) (Hn:Hp),bK X ah σ Hn s4->zK X ah Hn s4 C m4->Qk (.ref D) Hn->compPost #[4] X.A X.xe use Qv (.ref D) C (.ok .next) s4) :
  wpAny #[4] X.A (comprehension #[6] scope X.env (firstIterPos [⟨tg,dw,lg,0⟩] pos) (newList []) (firstAsync [⟨tg,dw,lg,0⟩]) (firstIter [⟨tg,dw,lg,0⟩] X.env) use) Qv X.xe s:=by
 refine wpAny_comprehension_free (use:=use) rfl hs wC iA qT (gG (hi ah s σ H _ I h) fun v s1 h1=>gG h1 fun W2 s2 h2=>?_)
 obtain⟨it,fp,tn,J,H1,e,I2,T,db,f2,W,⟨m0,w0⟩,turn⟩:=h2
 subst e
 have hfpn:∀b∈fp,b<s2.heap.objs.size:=fun b hb=>let ⟨o,ho,_⟩:=T.obj _ _ db b hb;aD ho
 have hfpc:∀b∈fp,∀x c,X.env.cells.lookup x=some c->c≠b:=fun b hb=>(f2 b hb).2.2.2.2.1
 refine bO (K0 (fun h₁ hns₁ hsb₁ cok=>?_))
 dsimp only at hns₁ hsb₁ cok ⊢
 generalize hH2:s2.heap.push { cls:=.type "list",dict:=none,data:=.seq ([]:List Value).toArray }=G2 at hns₁ hsb₁ cok ⊢
 have hC:G2.objs.size=s2.heap.objs.size+1:=by rw[<- hH2,bA]
 have hDC:s2.heap.objs.size≠G2.objs.size:=by rw[hC];exact a8 (cU _)
 have old:∀b o,s2.heap.get? b=some o->h₁.get? b=some o:=fun b o e=>hsb₁ b o (hH2▸al _ e)
 have hacc:h₁.get? s2.heap.objs.size=some { cls:=.type "list",data:=.seq ([]:List Value).toArray }:=hsb₁ _ _ (hH2▸ar _ rfl)
 have both:∀y c,(cellsFrom (G2.objs.size+1) scope.names []++cl).lookup y=some c->(cellsFrom (G2.objs.size+1) scope.names []).lookup y=some c\/cl.lookup y=some c:=fun y c e=>by
  rw[jd]at e
  cases h:(cellsFrom (G2.objs.size+1) scope.names []).lookup y with
  |none=>rw[h]at e;exact .inr e
  |some b=>rw[h]at e;exact .inl e
 have ownhi:∀y c,(cellsFrom (G2.objs.size+1) scope.names []).lookup y=some c->h₁.IsCell c none/\G2.objs.size+1<=c:=fun y c e=>cok.empty y c (PySem.mem_of_lookup e)
 have cllow:∀y c,cl.lookup y=some c->c<s2.heap.objs.size:=fun y c e=>by obtain⟨v,hv⟩:=I2.cell y c (qt _ _ e);exact hv.lt
 have hcap0:=sB
 have sB:∀(i j:Nat),cap[i]?=some (some j)->∃x,nm[i]?=some x/\X.N[j]?=some x/\u9 X scope (cellsFrom (G2.objs.size+1) scope.names []++cl) x:=fun i j e=>by
  obtain⟨x,q1,q2,k,q3⟩:=hcap0 i j e
  refine⟨x,q1,q2,k.vis,k.nl,?_,k.kd⟩
  rw[jd]
  cases h:(cellsFrom (G2.objs.size+1) scope.names []).lookup x with
  |none=>exact k.cl
  |some c=>
   rcases mI _ _ _ (PySem.mem_of_lookup h)with z|z
   ·exact absurd z q3
   ·cases z
 have okB:#[2].Ok:=by
  refine⟨I2.ok.mod,iA,I2.ok.glob,I2.ok.blt,by show s2.heap.objs.size<=G2.objs.size;omega,fun x y c h1 h2=>?_,fun x hx=>?_,fun x c h0 hc=>?_,fun hc=>I2.ok.hd iB,I2.ok.frames,.inl rfl,?_,?_,?_,?_,?_,?_,?_⟩
  ·rcases both x c h1 with q1|q1<;>rcases both y c h2 with q2|q2
   ·exact name_of_addr cok.apart (PySem.mem_of_lookup q1) (PySem.mem_of_lookup q2)
   ·exact absurd (cllow y c q2) (je.mpr (aR #[0] (ownhi x c q1).2))
   ·exact absurd (cllow x c q1) (je.mpr (aR #[0] (ownhi y c q2).2))
   ·exact I2.ok.inj x y c (qt _ _ q1) (qt _ _ q2)
  ·show ∃c,(cellsFrom (G2.objs.size+1) scope.names []++cl).lookup x=some c
   rw[jd]
   by_cases hq:scope.names.lookup x=some .cell
   ·obtain⟨c,e⟩:=mR (n:=G2.objs.size+1) hq
    exact⟨c,by rw[e];rfl⟩
   ·obtain⟨c,e⟩:=CQ x hq hx
    cases h:(cellsFrom (G2.objs.size+1) scope.names []).lookup x with
    |none=>exact⟨c,e⟩
    |some b=>exact⟨b,rfl⟩
  ·have hq:scope.names.lookup x=some .cell:=by simpa using h0
   obtain⟨b,e⟩:=mR (n:=G2.objs.size+1) hq
   have hc:(cellsFrom (G2.objs.size+1) scope.names []++cl).lookup x=some c:=hc
   rw[jd,e]at hc
   cases hc
   have:=(ownhi x _ e).2
   show s2.heap.objs.size<=_
   omega
  ·intro b hb
   exact⟨a8 (aL (hfpn b hb) (by show _<=G2.objs.size;omega)),fun x c hx=>(both x c hx).elim (fun q=>fU (aL (hfpn b hb) (aR #[0] (ownhi x c q).2))) fun q=>hfpc b hb x c (qt _ _ q)⟩
  ·exact fun b o hb=>I2.bs b o hb
  ·exact aR I2.ok.bsz I2.sz
  ·intro b o hb z
   rcases(f2 b z).2.2.2.1 with q|q
   ·exact I2.ok.noex b o hb q
   ·exact absurd (aD (I2.ok.bs b o hb).1) (je.mpr q)
  ·intro b hb z
   rcases aM.mp (I2.stkSub b z)with q|q
   ·exact(f2 b hb).2.1 q
   ·exact(f2 b hb).2.2.1 q
  ·exact I2.stack
  ·exact I2.stkFree
 have I4:bK #[2] [] (p_ cap σ) H1 { s2 with heap:=h₁ }:=by
  refine Gm sB dG I2 hfpc (σ2:=List.replicate nm.length none) ⟨okB,rfl,I2.bare,Un.kept old,⟨_,hns₁,fun i x v _ e2=>?_⟩,fun x c hx=>?_,?_,fun x c hx=>(both x c hx).elim (fun q=>I2.hok.fresh (by have:=(ownhi x c q).2;omega)) fun q=>I2.freeC x c (qt _ _ q),fun p hp=>absurd hp #[9],I2.hok.kept old,by simp⟩
  ·rw[jn]at e2;split at e2<;>cases e2
  ·rcases both x c hx with q|q
   ·exact⟨none,(ownhi x c q).1⟩
   ·obtain⟨v,hv⟩:=I2.cell x c (qt _ _ q)
    exact⟨v,hv.keeps old⟩
  ·exact I2.hok.fresh (by show _<=G2.objs.size;omega)
 have hsz0:∀{Hx:Hp} {sx:Shared} {px:List (Addr×Obj)} {σx:St},bK #[2] px σx Hx sx->Hx s2.heap.objs.size=none->∀{oa:Obj},sx.heap.get? s2.heap.objs.size=some oa->(∀v,oa.data≠.cell v) ->
   bK #[2] [(s2.heap.objs.size,oa)] σx Hx sx:=fun{Hx sx px σx} Ix hn {oa} ho hd=>Ix.pins_of fun p hp=>by
  have e:p=(s2.heap.objs.size,oa):=by simpa using hp
  subst e
  exact⟨ho,hn,hDC,fun z=>by
   obtain⟨_,o,q,_⟩:=I2.stack.mem z
   exact absurd (aD q) (cr _),hd⟩
 have hfpB:∀{Hx:Hp} {oa:Obj},(∀b∈fp,Hx b=none)->∀b∈fp,sL #[2] [(s2.heap.objs.size,oa)] Hx b:=fun{Hx oa} hn b hb=>
  ⟨hn b hb,(okB.exf b hb).1,okB.exfs b hb,.inl hb,(okB.exf b hb).2,fun p hp=>by
   have e:p=(s2.heap.objs.size,oa):=by simpa using hp
   subst e
   exact fU (hfpn b hb)⟩
 have hcalmB:#[2].calm=true:=iB
 have loop:∀sx:Shared,sx={ s2 with heap:=h₁ } ->
   codeAny #[4] X.A (.compLoop #[6] 0 (.ref it) (.ref s2.heap.objs.size) (compEnvC scope (cellsFrom (G2.objs.size+1) scope.names []++cl) G2.objs.size X.env))
    (compPost #[4] X.A X.xe use Qv (.ref s2.heap.objs.size) G2.objs.size) sx:=by
  rintro sx rfl
  refine codeAny_loop rfl (fun n s'=>∃i ys H',bK #[2] [] (p_ cap σ) H' s'/\tn i s'.heap/\(∀b∈fp,H' b=none)/\H' s2.heap.objs.size=none /\
   (∃bw k,cG ys bw/\s'.heap.get? s2.heap.objs.size=some { cls:=.type "list",data:=.seq bw.toArray k })/\W i n ys H') ?_ m0
   ⟨0,[],H1,I4,T.keep _ _ _ db (fun b _ o e=>old b o e),fun b hb=>(f2 b hb).1,I2.fresh,⟨[],0,.nil,hacc⟩,w0⟩
  rintro n s3 ⟨i,ys,H3,I3,mD,fr3,na3,⟨bw,ka,rv,ea⟩,w3⟩
  show wpAny _ X.A ((compTurn #[6] 0 (.ref it) (.ref s2.heap.objs.size) (compEnvC scope (cellsFrom (G2.objs.size+1) scope.names []++cl) G2.objs.size X.env)).onRaise (fun x=>do noteFrame x (compEnvC scope (cellsFrom (G2.objs.size+1) scope.names []++cl) G2.objs.size X.env);theTreesLotGoes x)) _ _ s3
  refine wpAny_noted ?_
  rw[compTurn_list]
  refine aa (qv ?_)
  have I3p:=hsz0 I3 na3 ea (fun v z=>by cases z)
  rcases turn i n ys H3 w3 with⟨stop,hz,qn⟩|⟨go,step⟩
  ·refine aa (eX (T.done #[2] rfl rfl rfl hcalmB i _ s3 _ H3 (fun _ _=>False) I3p (hfpB fr3) mD stop) (fun r s4 hr=>?_) fun _ _ z=>z.elim)
   obtain⟨hr,I4'⟩:=hr
   subst hr
   refine aq ?_
   obtain⟨m4,hn4,_⟩:=id I4'.loc
   have pa:=I4'.pin (s2.heap.objs.size,{ cls:=.type "list",data:=.seq bw.toArray ka }) #[9]
   have ne:∀b o,s2.heap.get? b=some o->b≠s2.heap.objs.size/\b≠G2.objs.size:=fun b o e=>⟨a8 (aD e),a8 (by rw[hC];exact c5 (aD e))⟩
   have I5:bK X ah σ (e_ H3 s2.heap.objs.size (.lst ys)) s4:=by
    refine I2.call' (ch:=fp) I4'.os ⟨fun b o e n hb hx=>?_,fun b o e n hb hx=>?_,fun b o e n hx=>?_,fun b o e hx=>?_,fun b xs e=>?_,fun b o u e=>?_,fun b ps e=>?_⟩ ?_ I4'.bare fun b hb=>?_
    ·exact I4'.base.keep b o e n hb hx
    ·exact I4'.base.slot b o e n hb hx
    ·rw[cE (ne b o e).1];exact I4'.base.free b o e n hx
    ·exact I4'.base.there b o e hx
    ·have q:=I4'.base.tups b xs e
     rw[cE (fF q na3)];exact q
    ·have q:=I4'.base.frzs b o u e
     rw[cE (fF q na3)];exact q
    ·obtain⟨mr,q⟩:=I4'.base.tbls b ps e
     exact⟨mr,by rw[cE (fF q na3)];exact q⟩
    ·intro b o e
     by_cases hb:b=s2.heap.objs.size
     ·subst hb
      rw[fg]at e;cases e
      exact⟨hz,bw,ka,rv,pa.1⟩
     ·rw[cE hb]at e
      exact(I4'.hok b o e).stay (fun c u hc q=>q) (fun c q=>by rw[cE (fF q na3)];exact q) fun c xs q=>by rw[cE (fF q na3)];exact q
    ·obtain⟨_,g1,_,g3,g4,g5⟩:=f2 b hb
     exact⟨g3,g1,g4,g5⟩
   have lC:s2.heap.objs.size<=G2.objs.size:=by rw[hC];exact d9 _
   exact fin s4 G2.objs.size _ m4 _ I5 ⟨hn4,by rw[cE (Ne.symm hDC)];exact I4'.free,fU (aL I2.lt lC),I2.nofs lC,aR I2.sz lC,fun x c hx z=>(by
    obtain⟨v,o,ho,_⟩:=I2.cell x c hx
    exact absurd (aD ho) (by rw[z];exact je.mpr lC)),fun p hp z=>(by
    have:=(I2.pin p hp).1
    exact absurd (aD this) (by rw[z];exact je.mpr lC))⟩ (qn _ na3)
  ·refine aa (eX (T.item #[2] rfl rfl rfl hcalmB i _ s3 _ H3 (fun _ _=>False) I3p (hfpB fr3) mD go) (fun r s4 hr=>?_) fun _ _ z=>z.elim)
   obtain⟨u,hr,h4⟩:=hr
   subst hr
   dsimp only
   refine aa (eX h4 (fun _ s5 h5=>?_) fun _ _ z=>z.elim)
   obtain⟨x,H5,I5,r5,y5,st5,fr5⟩:=h5
   have I5':=I5.pinned (hfpB fr5) (T.obj _ _ st5)
   refine aa (eX (hg _ _ _ _ _ _ s5 _ H5 x u _ I5' r5 (step x H5 y5)) (fun _ s6 h6=>?_) fun _ _ z=>z.elim)
   obtain⟨σ6,H6,I6,q6⟩:=h6
   refine aa (eX (ht _ _ _ _ _ _ s6 σ6 H6 _ I6 q6) (fun ok s7 h7=>?_) fun _ _ z=>z.elim)
   obtain⟨H7,I7,q7⟩:=h7
   have back:∀{H8:Hp} {s8:Shared} {R_:List V} {its':List Value} {k':Nat},bK #[2] [] σ6 H8 s8->(∀b∈fp,∀o,s5.heap.get? b=some o->s8.heap.get? b=some o)->(∀b∈fp,H8 b=none)->H8 s2.heap.objs.size=none ->
     cG R_ its'->s8.heap.get? s2.heap.objs.size=some { cls:=.type "list",data:=.seq its'.toArray k' }->(∃m',m'<n/\W (i+1) m' R_ H8) ->
     ∃m,m<n/\∃i ys H',bK #[2] [] (p_ cap σ) H' s8/\tn i s8.heap/\(∀b∈fp,H' b=none)/\H' s2.heap.objs.size=none /\
      (∃bw k,cG ys bw/\s8.heap.get? s2.heap.objs.size=some { cls:=.type "list",data:=.seq bw.toArray k })/\W i m ys H':=
    fun{H8 s8 R_ its' k'} I8 kf f8 n8 rv8 e8 ⟨m',hm,w8⟩=>⟨m',hm,i+1,R_,H8,Gm sB dG I2 hfpc I8,T.keep _ _ _ st5 kf,f8,n8,⟨its',k',rv8,e8⟩,w8⟩
   cases ok with
   |false=>
    refine aq ⟨rfl,?_⟩
    have q7':∃m',m'<n/\W (i+1) m' ys H7:=by simpa using q7
    have pa:=I7.pin (s2.heap.objs.size,{ cls:=.type "list",data:=.seq bw.toArray ka }) #[9]
    refine back (I7.pins_of fun p hp=>absurd hp #[9]) (fun b hb o e=>?_) (fun b hb=>?_) pa.2.1 rv pa.1 q7'
    ·exact(I7.pin (b,o) (aH _ (aH _ (jX hb e)))).1
    ·obtain⟨o,e,d⟩:=T.obj _ _ st5 b hb
     exact(I7.pin (b,o) (aH _ (aH _ (jX hb e)))).2.1
   |true=>
    rw[au rfl]at q7
    refine aa (aa (eX (he _ _ _ _ _ _ s7 σ6 H7 _ I7 q7) (fun xv s8 h8=>?_) fun _ _ z=>z.elim))
    obtain⟨y,H8,I8,r8,hzy,q8⟩:=h8
    have pa:=I8.pin (s2.heap.objs.size,{ cls:=.type "list",data:=.seq bw.toArray ka }) #[9]
    refine aa (yf pa.1 (by rw[<- rv.length];exact hzy) fun h' k' tk e9 sb=>?_)
    refine aq (aq ⟨rfl,?_⟩)
    have I9:bK #[2] [] σ6 H8 { s8 with heap:=h',toks:=tk }:=
     (bK.pins_of (pins':=[]) I8 fun p hp=>absurd hp #[9]).turned (it:=s2.heap.objs.size) (fun b o hb e=>sb b o hb e) pa.2.1 hDC (.inr (ax _)) (fun x c hx z=>by
      rcases both x c hx with q|q
      ·exact je.mpr (ownhi x c q).2 (by rw[z];omega)
      ·exact cr _ (by have:=cllow x c q;rw[z]at this;exact this)) (fun p hp=>absurd hp #[9])
    refine back I9 (fun b hb o e=>?_) (fun b hb=>?_) pa.2.1 (rv.append (.cons r8 .nil)) e9 q8
    ·exact sb b o (a8 (hfpn b hb)) (I8.pin (b,o) (aH _ (aH _ (jX hb e)))).1
    ·obtain⟨o,e,d⟩:=T.obj _ _ st5 b hb
     exact(I8.pin (b,o) (aH _ (aH _ (jX hb e)))).2.1
 exact codeAny_compStart_list (loop _ rfl) (T.self _ _ _ _ _ (T.keep _ _ _ db fun b _ o e=>old b o e) (loop _ rfl))
theorem re:∀(names:List (Str×NameKind)) (n:Nat),(∀y∈names,y.2≠.cell)->cellsFrom n names []=[]
 |[],_,_=>rfl
 |(x,k)::r,n,h=>by
  show(if k==.cell then cellsFrom (n+1) r [(x,n)]else cellsFrom n r [])=[]
  rw[ay (by have:=h (x,k) #[9];simpa using this)]
  exact re r n fun y hy=>h y (by simp[hy])
theorem xu{Qk:VK}(iB:X.calm=true)(wC:closureFor scope X.env=pure cl)(qt:∀x c,cl.lookup x=some c->X.env.cells.lookup x=some c)
  (iA:scope.kind=.function) (qT:∀x∈scope.names,x.2=.local->scope.names.lookup x.1=some .local) (gj:∀y∈scope.names,y.2≠.cell)
  (CQ:∀x,((relabel scope X.env).names.lookup x=some .cell\/(relabel scope X.env).names.lookup x=some .free)->∃c,cl.lookup x=some c)
  (sB:∀(i j:Nat),cap[i]?=some (some j)->∃x,nm[i]?=some x/\X.N[j]?=some x/\u9 X scope cl x) (dG:cap.length=nm.length)
  (hi:PI X tg dw wi) (hg:∀C s0 H0 fp,PG #[7] tg g) (ht:∀C s0 H0 fp,Gk #[7] lg tc)
  (he:∀C s0 H0 fp,PE #[7] oq te) (hs:∀x,foldedSetIterable dw X.env x=pure x)
  (I:bK X ah σ H s) (h:u8 cap wi g tc te σ H Qk) (fin:∀(s4:Shared) (C D:Addr) (m4:Str->Option Value) (Hn:Hp),bK X ah σ Hn s4->zK X ah Hn s4 C m4->Qk (.ref D) Hn->compPost #[4] X.A X.xe use Qv (.ref D) C (.ok .next) s4) :
  wpAny #[4] X.A (comprehension #[6] scope X.env (firstIterPos [⟨tg,dw,lg,0⟩] pos) (newList []) (firstAsync [⟨tg,dw,lg,0⟩]) (firstIter [⟨tg,dw,lg,0⟩] X.env) use) Qv X.xe s:=by
 have nc:∀k,cellsFrom k scope.names []++cl=cl:=fun k=>by rw[re _ _ gj];rfl
 have nx:∀C s0 H0 fp,fw X nm scope cl C s0 H0 fp=de X nm scope cl C s0 H0 fp:=fun C s0 H0 fp=>by
  have:(fun y=>scope.names.lookup y==some .cell)=fun _=>false:=funext fun y=>by
   rw[bR]
   exact fun e=>gj _ (jh e) rfl
  unfold fw de
  rw[this]
 exact BP iB wC qt iA qT (fun y hy h=>absurd h (gj y hy)) (fun x _ h=>CQ x h) (fun i j h=>let ⟨x,a,b,d⟩:=sB i j h;⟨x,a,b,d,fun z=>gj _ z rfl⟩) dG hi
  (fun k C s0 H0 fp=>by rw[nc,nx];exact hg C s0 H0 fp) (fun k C s0 H0 fp=>by rw[nc,nx];exact ht C s0 H0 fp) (fun k C s0 H0 fp=>by rw[nc,nx];exact he C s0 H0 fp) hs I h fin
theorem K3(iB:X.calm=true)(wC:closureFor scope X.env=pure cl)(qt:∀x c,cl.lookup x=some c->X.env.cells.lookup x=some c)
  (iA:scope.kind=.function) (qT:∀x∈scope.names,x.2=.local->scope.names.lookup x.1=some .local) (gj:∀y∈scope.names,y.2≠.cell)
  (CQ:∀x,((relabel scope X.env).names.lookup x=some .cell\/(relabel scope X.env).names.lookup x=some .free)->∃c,cl.lookup x=some c)
  (sB:∀(i j:Nat),cap[i]?=some (some j)->∃x,nm[i]?=some x/\X.N[j]?=some x/\u9 X scope cl x) (dG:cap.length=nm.length)
  (hi:PI X tg dw wi) (hg:∀C s0 H0 fp,PG #[7] tg g) (ht:∀C s0 H0 fp,Gk #[7] lg tc)
  (he:∀C s0 H0 fp,PE #[7] oq te) (hs:∀x,foldedSetIterable dw X.env x=pure x:=by intro _;rfl) :
  PE X #[6] (u8 cap wi g tc te):=by
 intro ah s σ H Q I h
 rw[eval_ListComp]
 exact xu iB wC qt iA qT gj CQ sB dG hi hg ht he hs I h fun s4 C D m4 Hn I4 B q=>⟨m4,B.ns,fun h' hs'=>⟨.ref D,Hn,B.off I4 hs',rfl,q⟩⟩
end
noncomputable def tx(l:List Nat):Str:=⟨l.toArray⟩
theorem Ps(l:List Nat):(tx l).cps.toList=l:=rfl
theorem i7(l:List Nat):(tx l).length=l.length:=by show l.toArray.size=_;simp
theorem BQ(a b:List Nat):tx a++tx b=tx (a++b):=by
 show(⟨a.toArray++b.toArray⟩:Str)=⟨(a++b).toArray⟩
 simp
theorem Gn{a b:List Nat}:tx a=tx b↔a=b:=⟨fun h=>by have:=iQ (fun z:Str=>z.cps.toList) h;exact this,fun h=>by rw[h]⟩
noncomputable def S8(nM:List V):It:=⟨fun i _=>i<nM.length,fun i H x H'=>H'=H/\nM[i]?=some x,fun i _=>nM.length<=i⟩
theorem qD{w:World}{nM:List V}{Pr:Nat->Value->Prop}{S:Nat->Heap->Prop}{ty:String}
  (W:∀A:Around,A.handled=none->Walks P w A it [it] [it] nM.length Pr S) (hv:∀i v,i<nM.length->Pr i v->∃x,nM[i]?=some x/\cL x v)
  (Bt:∀i h,S i h->∃o vs,h.get? it=some o/\o.cls=.type ty/\o.data=.fields vs)
  (Bx:["enumerate","zip","dict_itemiterator","dict_reverseitemiterator","odict_iterator","itertools.zip_longest","itertools.pairwise"].contains ty=false)
  (J4:∀(A:Around) (i:Nat) (s:Shared) (Q:Value->Shared->Prop) (E:Value->Shared->Prop),S i s.heap->Q (.ref it) s->wpAny (model P w) A (pyIter (.ref it)) Q E s) :
  x5 P w K tg (S8 nM) [it] it (fun i h=>i<=nM.length/\S i h) where
 mem:=by simp
 obj:=fun i h st b hb=>by
  have e:b=it:=by simpa using hb
  subst e
  obtain⟨o,vs,e,c,d⟩:=Bt i h st.2
  exact⟨o,e,fun v z=>by rw[d]at z;cases z⟩
 keep:=fun i h h' st k=>⟨st.1,(W { depth:=0,handled:=none,frames:=none } rfl).frame i h h' st.2 k⟩
 item:=by
  intro X hP hw hK hc i ah s σ H E I hf st hg
  subst hP hw hK
  obtain⟨f0,f1,f2,f3,f4,f5⟩:=hf it (by simp)
  refine(W X.A (I.ok.hd hc)).item i s _ _ hg st.2 fun v h' tk hp bz kk=>?_
  have I1:bK X ah σ H { s with heap:=h',toks:=tk }:=I.turned (fun b o hb e=>kk b o (by simpa using hb) e) f0 f1 f3 f4 f5
  obtain⟨x,hx,rx⟩:=hv i v hg hp
  obtain⟨o,vs,e,c,d⟩:=Bt _ _ bz
  exact⟨v,rfl,CU (s:={ s with heap:=h',toks:=tk }) e c d Bx ⟨x,H,I1,rx,⟨rfl,hx⟩,⟨hg,bz⟩,fun b hb=>(hf b hb).1⟩⟩
 done:=by
  intro X hP hw hK hc i ah s σ H E I hf st hg
  subst hP hw hK
  obtain⟨f0,f1,f2,f3,f4,f5⟩:=hf it (by simp)
  have e:i=nM.length:=Nat.le_antisymm st.1 hg
  refine(W X.A (I.ok.hd hc)).done s _ _ (e▸st.2) fun h' tk kk=>⟨rfl,I.turned (fun b o hb e=>kk b o (by simpa using hb) e) f0 f1 f3 f4 f5⟩
 self:=fun A i s Q E st h=>J4 A i s Q E st.2 h
section
def g_(l:List Nat):List V:=l.map fun c=>.str (tx [c])
def Wt(tl:TE):TI:=fun σ H R=>tl σ H fun x H1=>∃l,x=.str (tx l)/\R (S8 (g_ l)) H1
theorem EO(i:Nat)(v:Value)(hi:i<(g_ l).length)(h:SignAt (tx l) i v):∃x,(g_ l)[i]?=some x/\cL x v:=by
 obtain⟨c,u,hc,e⟩:=h
 refine⟨.str (tx [c]),?_,u,e⟩
 unfold g_
 rw[ag]
 have:l[i]?=some c:=by simpa[tx]using hc
 rw[this];rfl
theorem Pt{l:Expr}{tl:TE}(hl:PE X l tl):PI X tg l (Wt tl):=by
 intro ah s σ H R I h
 refine gG (hl ah s σ H _ I h) fun v s1 zq=>?_
 obtain⟨x,H1,I1,r1,q1⟩:=zq
 obtain⟨l,e,q⟩:=q1
 subst e
 obtain⟨t,rfl⟩:=r1
 have hn:(tx l).cps.size=(g_ l).length:=by unfold g_;simp[tx]
 have fin:∀(ob:Obj) (S:Nat->Heap->Prop) (ty:String),(∀A:Around,A.handled=none->Walks X.prog X.w A s1.heap.objs.size [s1.heap.objs.size] [s1.heap.objs.size] (tx l).cps.size (SignAt (tx l)) S)->S 0 (s1.heap.push ob) ->
   (∀i h,S i h->∃o vs,h.get? s1.heap.objs.size=some o/\o.cls=.type ty/\o.data=.fields vs) ->
   ["enumerate","zip","dict_itemiterator","dict_reverseitemiterator","odict_iterator","itertools.zip_longest","itertools.pairwise"].contains ty=false ->
   (∀(A:Around) (i:Nat) (s:Shared) (Q:Value->Shared->Prop) (E:Value->Shared->Prop),S i s.heap->Q (.ref s1.heap.objs.size) s->wpAny #[4] A (pyIter (.ref s1.heap.objs.size)) Q E s) ->
   Vz X ah σ tg R (.ref s1.heap.objs.size) { s1 with heap:=s1.heap.push ob }:=fun ob S ty W h0 Bt Bx J4=>by
  rw[hn]at W
  refine⟨s1.heap.objs.size,[s1.heap.objs.size],_,_,H1,rfl,I1.kept (t':=s1.toks) fun b o e=>al _ e,qD W (fun i v hi hp=>EO i v hi hp) Bt Bx J4,⟨cM _,h0⟩,fun b hb=>?_,q⟩
  have e:b=s1.heap.objs.size:=by simpa using hb
  subst e
  exact I1.fpOk (ax _) I1.fresh
 cases ha:(tx l).cps.all (· < 128)
 ·exact wpAny_pyIter_wide ha (fin _ _ _ (fun A hA=>Walks.strWide hA _ (tx l) t) ⟨_,ar _ rfl,rfl,rfl⟩ (fun i h st=>by obtain⟨o,a,b,c⟩:=st;exact⟨o,_,a,b,c⟩) #[1] fun A i s Q E st h=>wpAny_pyIter_striter_wide st h)
 ·exact wpAny_pyIter_ascii ha (fin _ _ _ (fun A hA=>Walks.strAscii hA _ (tx l) t) ⟨_,ar _ rfl,rfl,rfl⟩ (fun i h st=>by obtain⟨o,a,b,c⟩:=st;exact⟨o,_,a,b,c⟩) #[1] fun A i s Q E st h=>wpAny_pyIter_striter_ascii st h)
noncomputable def EQ(l:List Nat)(lo hi:Option Int):List Nat:=(l.drop (HT.sIx l.length 0 lo)).take (HT.sIx l.length l.length hi-HT.sIx l.length 0 lo)
theorem zL(l:List Nat)(lo hi:Option Int):(EQ l lo hi).length<=l.length:=by unfold EQ;rw[be,io];omega
theorem BR(l:List Nat)(i k:Nat):((List.range k).map fun(m:Nat)=>i+m).filterMap (fun j=>l[j]?)=(l.drop i).take k:=by
 induction k generalizing i with
 |zero=>simp
 |succ k ih=>
  rw[dv,aP,a9]
  have e:((fun m=>i+m)∘Nat.succ)=fun m=>(i+1)+m:=by funext m;simp[Function.comp];omega
  rw[e]
  by_cases h:i<l.length
  ·rw[gb]
   simp only[iu,ae h]
   rw[ih (i+1),bj h,List.take_succ_cons]
  ·rw[gb]
   have h':l.length<=i:=by omega
   simp only[iu,az h']
   rw[ih (i+1),nT h',nT #[0]]
   simp
theorem Mv(v:Int)(n d:Nat):(if (1:Int)>0 then max 0 (min (if v<0 then v+(n:Int)else v) (n:Int))else max (-1) (min (if v<0 then v+(n:Int)else v) ((n:Int)-1)))=((HT.sIx n d (some v):Nat):Int):=by
 rw[au #[0]]
 show _=(((if v<0 then(v+(n:Int)).toNat else min v.toNat n):Nat):Int)
 by_cases hv:v<0
 ·simp only[au hv];omega
 ·simp only[ay hv];omega
theorem Pu(lo hi:Option Int)(n:Nat):Builtin.Str.strSliceIndices lo hi 1 n=(List.range (HT.sIx n n hi-HT.sIx n 0 lo)).map fun(m:Nat)=>HT.sIx n 0 lo+m:=by
 have key:∀a b:Nat,sliceRange (a:Int) (b:Int) 1=(List.range (b-a)).map fun(m:Nat)=>a+m:=fun a b=>by
  unfold sliceRange
  have e:(if (1:Int)>0 then(if (a:Int)<(b:Int)then((b:Int)-a+1-1)/1 else 0)else(if (a:Int)>b then((a:Int)-b-1-1)/(-1)else 0)).toNat=b-a:=by
   rw[au #[0]]
   by_cases h:(a:Int)<b
   ·rw[au h];omega
   ·rw[ay h];omega
  dsimp only
  rw[e]
  refine bZ fun k _=>?_
  omega
 unfold Builtin.Str.strSliceIndices
 rw[<- key]
 dsimp only
 congr 1
 ·cases lo with
  |none=>rfl
  |some v=>exact Mv v n 0
 ·cases hi with
  |none=>rfl
  |some v=>exact Mv v n n
theorem Go(l:List Nat)(lo hi:Option Int):Txt.slice (tx l) lo hi=tx (EQ l lo hi):=by
 unfold Txt.slice
 rw[Pu,i7]
 split
 ·rename_i h
  simp only[beq_self_eq_true,Bool.true_and,dz,ak,cb]at h
  unfold EQ
  have h1:=HT.sIx_le l.length l.length (ax _) hi
  have h2:=HT.sIx_le l.length 0 (cM _) lo
  by_cases hz:l.length=0
  ·have:l=[]:=gr hz
   subst this;simp
  ·have e0:HT.sIx l.length 0 lo=0:=by omega
   rw[e0,dD,bS #[0]]
 ·unfold EQ tx
  have:∀j:Nat,(l.toArray)[j]?=l[j]?:=fun j=>by simp
  simp only[this]
  rw[BR]
def Wu:V->Option Int->Option Int->Hp->VK->Prop:=fun x lo hi H Q=>∃l,x=.str (tx l)/\l.length<=sizeLine/\Q (.str (tx (EQ l lo hi))) H
theorem C3{o:Option Int}(p:IsPart v o):∃q:Option (Int×Tok),v=partValue q/\q.map (·.1)=o:=by
 cases p with
 |none=>exact⟨none,rfl,rfl⟩
 |int i t=>exact⟨some (i,t),rfl,rfl⟩
theorem Pv:SQ X Wu:=by
 intro ah s σ H x v vl vu lo hi sl Q I rx hs pl pu h
 obtain⟨l,e,hz,q⟩:=h
 subst e
 obtain⟨t,rfl⟩:=rx
 obtain⟨pl',rfl,rfl⟩:=C3 pl
 obtain⟨pu',rfl,rfl⟩:=C3 pu
 refine⟨"str",_,F.slot_str_getitem.lookup,jb _ _ _,?_⟩
 refine wpAny_getItem_str_slice (l:=pl') (u:=pu') (st:=none) hs rfl (post_val_or_str ?_)
 have e:=Go l (pl'.map (·.1)) (pu'.map (·.1))
 unfold Txt.slice at e
 show(if ((1:Int)==1&&(Builtin.Str.strSliceIndices (pl'.map (·.1)) (pu'.map (·.1)) 1 (tx l).length).length==(tx l).length)=true then tx l else⟨((Builtin.Str.strSliceIndices (pl'.map (·.1)) (pu'.map (·.1)) 1 (tx l).length).filterMap ((tx l).cps[·]?)).toArray⟩:Str).length<=sizeLine /\
  ∀t' k,EP X ah σ Q (.str (if ((1:Int)==1&&(Builtin.Str.strSliceIndices (pl'.map (·.1)) (pu'.map (·.1)) 1 (tx l).length).length==(tx l).length)=true then tx l else⟨((Builtin.Str.strSliceIndices (pl'.map (·.1)) (pu'.map (·.1)) 1 (tx l).length).filterMap ((tx l).cps[·]?)).toArray⟩:Str) t') { s with toks:=k }
 rw[e,i7]
 exact⟨aR (zL l _ _) hz,fun t' k=>⟨.str _,H,I.tok k,⟨t',rfl⟩,q⟩⟩
theorem Gp(c:Nat)(l:List Nat):(!(Builtin.Str.occurrences (tx l) (tx [c]) 0 (tx l).length 1).isEmpty)=decide (c∈l):=StrLaws.found_one (tx l) c
def S9(Vu:Bool):R2:=fun x y H Q=>∃c l,x=.str (tx [c])/\y=.str (tx l)/\Q (.bl (if Vu then !decide (c∈l)else decide (c∈l))) H
theorem ER:n6 X (compareOp .In) (S9 false):=by
 intro ah s σ H x y v u Q I rx ry h
 obtain⟨c,l,rfl,rfl,q⟩:=h
 exact EC ah s σ H _ _ v u Q I rx ry ⟨_,_,rfl,rfl,by rw[Gp];exact q⟩
theorem yg:n6 X (compareOp .NotIn) (S9 true):=by
 intro ah s σ H x y v u Q I rx ry h
 obtain⟨c,l,rfl,rfl,q⟩:=h
 exact x8 ah s σ H _ _ v u Q I rx ry ⟨_,_,rfl,rfl,by rw[Gp];exact q⟩
theorem qE:∀{ys:List (List Nat)} {bw:List Value},cG (ys.map fun l=>V.str (tx l)) bw->StrsAre bw (ys.map tx)
 |[],_,r=>by cases r;exact .nil
 |y::ys,_,r=>by
  cases r with
  |cons r rr=>
   obtain⟨t,rfl⟩:=r
   exact .cons _ _ (qE rr)
theorem nB:∀{bw:List Value} {ss:List Str},StrsAre bw ss->cG (ss.map fun z=>V.str z) bw
 |_,_,.nil=>.nil
 |_,_,.cons y t r=>.cons ⟨t,rfl⟩ (nB r)
noncomputable def oZ(sep:List Nat):List (List Nat)->List Nat
 |[]=>[]
 |[x]=>x
 |x::y::r=>x++sep++oZ sep (y::r)
theorem pQ:∀ys:List (List Nat),oZ [] ys=ys.flatten
 |[]=>rfl
 |[x]=>by simp[oZ]
 |x::y::r=>by rw[oZ,pQ (y::r)];simp
theorem K4(sep:List Nat):∀ys:List (List Nat),Txt.join (tx sep) (ys.map tx)=tx (oZ sep ys):=fun ys=>by
 show Builtin.Str.glued (tx sep) (ys.map tx)=_
 rw[StrLaws.glued_eq_join]
 induction ys with
 |nil=>rfl
 |cons x r ih=>
  cases r with
  |nil=>rfl
  |cons y r=>
   show tx x++tx sep++Str.join (tx sep) ((y::r).map tx)=tx (x++sep++oZ sep (y::r))
   rw[ih,BQ,BQ]
def S_(K:Frag):V->List V->Hp->VK->Prop:=fun x vs H Q=>∃(sep:List Nat) (a:Addr) (ys:List (List Nat)),x=.str (tx sep)/\vs=[.ref a]/\p8 K H a (ys.map fun l=>V.str (tx l))/\(ys.map List.length).sum+ys.length*sep.length<=16777216/\Q (.str (tx (oZ sep ys))) H
theorem K5:EI X "str.join" (S_ X.K):=by
 intro ah s σ H x vs v us Q I rx rv h
 obtain⟨sep,a,ys,rfl,rfl,hS,hz,q⟩:=h
 obtain⟨t,rfl⟩:=rx
 obtain⟨u,rfl,ru⟩:=rv.one
 cases ru
 obtain⟨bw,r,p,_⟩:=I.list hS
 refine join_list p.isList (qE (by simpa using r)) ?_ fun t' k=>?_
 ·rw[a9,i7,ak]
  have e:((fun z:Str=>z.length)∘tx)=List.length:=by funext l;exact i7 l
  rw[e];exact hz
 ·rw[K4]
  exact⟨.str _,H,I.tok k,⟨t',rfl⟩,q⟩
end
inductive D where
 |non|bl (b:Bool)|int (i:Int)|str (l:List Nat)|tnil|tcons (d r:D)
 deriving DecidableEq
structure eS(K:Frag)(H H':Hp):Prop where
 t:∀p xs,gp K H p xs->gp K H' p xs
 z:∀b o u,H b=some (.frz o u)->H' b=some (.frz o u)
instance {K:Frag} {H H':Hp}:CoeFun (eS K H H') (fun _=>∀p xs,gp K H p xs->gp K H' p xs):=⟨eS.t⟩
theorem gp.same{K:Frag}(e:ul H H'):eS K H H':=⟨fun p xs h=>by
 rcases h with(h|⟨o,h⟩)|h
 ·exact .inl (.inl (e _ _ h))
 ·exact .inl (.inr ⟨o,e _ _ h⟩)
 ·exact .inr h,fun b o u h=>e _ _ h⟩
theorem cQ{p:Addr}(h:H p=none)(o:HO):ul H (e_ H p o):=fun b u q=>by rw[cE (fF q h)];exact q
def VC(l:Addr)(H H':Hp):Prop:=∀b o,b≠l->H b=some o->H' b=some o
theorem iS{l:Addr}{o:HO}:VC l H (e_ H l o):=fun b u h q=>by rw[cE h];exact q
theorem gp.but{l:Addr}{xs:List V}(e:VC l H H')(hl:H l=some (.lst xs)):eS K H H':=by
 have wZ:∀{p:Addr} {o:HO},H p=some o->(∀zs,o≠.lst zs)->p≠l:=fun{p o} q hn z=>by subst z;rw[hl]at q;cases q;exact hn _ rfl
 refine⟨fun p ys h=>?_,fun b o u h=>e _ _ (wZ h (fun _ z=>by cases z)) h⟩
 rcases h with(h|⟨o,h⟩)|h
 ·exact .inl (.inl (e _ _ (wZ h (fun _ z=>by cases z)) h))
 ·exact .inl (.inr ⟨o,e _ _ (wZ h (fun _ z=>by cases z)) h⟩)
 ·exact .inr h
theorem eS.refl:eS K H H:=⟨fun _ _ h=>h,fun _ _ _ h=>h⟩
theorem eS.trans{H1 H2:Hp}(a:eS K H H1)(b:eS K H1 H2):eS K H H2:=⟨fun p xs h=>b p xs (a p xs h),fun c o u h=>b.z c o u (a.z c o u h)⟩
theorem gp.new{p:Addr}{xs:List V}:gp K (e_ H p (.tup xs)) p xs:=gp.of fg
theorem Ta{x:Str}{v:V}{pos:Pos}(h:∃u,X.mg x=some u/\cL v u)(hg:Gl X x:=by rfl)(hd:(x==("__debug__":Str))=false:=by decide):PE X (.Name x pos) (tC v):=by
 obtain⟨u,a,b⟩:=h
 exact Ko hg a b hd
section
variable{to:TE}{t:TA}{id:String}{r:V->List V->Hp->VK->Prop}
def XI(r:V->List V->Hp->VK->Prop)(to:TE)(t:TA):TE:=fun σ H Q=>to σ H fun x H1=>(∃l ys,x=.ref l/\H1 l=some (.lst ys))/\t σ H1 fun xs H2=>r x xs H2 Q
def XJ(r:V->List V->Hp->VK->Prop)(to:TE)(t:TA):TE:=fun σ H Q=>to σ H fun x H1=>(∃l,x=.str (tx l))/\t σ H1 fun xs H2=>r x xs H2 Q
def Wv(r:V->List V->Hp->VK->Prop)(to:TE):TE:=fun σ H Q=>to σ H fun x H1=>(∃l ys,x=.ref l/\H1 l=some (.lst ys))/\r x [] H1 Q
theorem zM{x:V}(h:∃l ys,x=.ref l/\H l=some (.lst ys)):VB K "list" x H:=by
 obtain⟨l,ys,rfl,h⟩:=h
 exact .inl ⟨rfl,_,.of h⟩
theorem K6{x:V}(h:∃l,x=.str (tx l)):VB K "str" x H:=by
 obtain⟨l,rfl⟩:=h
 exact rfl
theorem Gq{T:String}{ty:V->Hp->Prop}(W_:∀x H,ty x H->VB X.K T x H)(pa:PlainAttrs T)(slot:Slot T name id)(Bx:typeOf (.builtin id)=pure (.type "method_descriptor"))(hm:EI X id r)(ho:PE X o to)(ha:PA X (e::es) t)
  (kE:attributeBase o name X.env (eval o X.env)=eval o X.env)
  (wm:((backTo dM (starEach (e::es) X.env)).all (fun x=>!x.1)&&(backToKw dM (keywordEach [] X.env)).all (fun x=>x.1.isSome)
   && decide ((e::es).length+([]:List Keyword).length+(if ([]:List Keyword).isEmpty then 0 else 1)<30))=true)
  (kG:(fI.endLine==dM.line)=true) (hs:starEach (e::es) X.env=(false,eval e X.env)::starEach es X.env) (nK:(backTo dM (starEach es X.env)).any (·.1)=false) :
  PE X (.Call (.Attribute o name fI) (e::es) [] dM) (fun σ H Q=>to σ H fun x H1=>ty x H1/\t σ H1 fun xs H2=>r x xs H2 Q):=by
 intro ah s σ H Q I h
 refine wpAny_Call_method_late kE wm kG rfl (gG (ho ah s σ H _ I h) fun v s1 zq=>?_)
 obtain⟨x,H1,I1,r1,ty,q1⟩:=zq
 obtain⟨h1,h2⟩:=Gb I1 r1 (W_ _ _ ty)
 refine⟨T,id,pa,slot,Bx,h1,h2,?_⟩
 have hA:=ha dM ah s1 σ H1 _ I1 q1
 rw[hs]at hA ⊢
 refine gE (by show(false||(backTo dM (starEach es X.env)).any (·.1))=false;rw[nK]<;>rfl) (kI ?_)
 exact gG hA fun us s2 zq=>by obtain⟨vs,H2,I2,r2,q2⟩:=zq;exact hm ah s2 σ H2 x vs v us Q I2 r1 r2 q2
theorem Tb(slot:Slot "list" name id)(Bx:typeOf (.builtin id)=pure (.type "method_descriptor"))(hm:EI X id r)(ho:PE X o to)(ha:PA X (e::es) t)
  (kE:attributeBase o name X.env (eval o X.env)=eval o X.env:=by rfl)
  (wm:((backTo dM (starEach (e::es) X.env)).all (fun x=>!x.1)&&(backToKw dM (keywordEach [] X.env)).all (fun x=>x.1.isSome)
   && decide ((e::es).length+([]:List Keyword).length+(if ([]:List Keyword).isEmpty then 0 else 1)<30))=true:=by rfl)
  (kG:(fI.endLine==dM.line)=true:=by rfl) (hs:starEach (e::es) X.env=(false,eval e X.env)::starEach es X.env:=by rfl) (nK:(backTo dM (starEach es X.env)).any (·.1)=false:=by rfl) :
  PE X (.Call (.Attribute o name fI) (e::es) [] dM) (XI r to t):=Gq (ty:=fun x H1=>∃l ys,x=.ref l/\H1 l=some (.lst ys)) (fun _ _ h=>zM h) F.plainAttrs_list slot Bx hm ho ha kE wm kG hs nK
theorem Tc(slot:Slot "str" name id)(Bx:typeOf (.builtin id)=pure (.type "method_descriptor"))(hm:EI X id r)(ho:PE X o to)(ha:PA X (e::es) t)
  (kE:attributeBase o name X.env (eval o X.env)=eval o X.env:=by rfl)
  (wm:((backTo dM (starEach (e::es) X.env)).all (fun x=>!x.1)&&(backToKw dM (keywordEach [] X.env)).all (fun x=>x.1.isSome)
   && decide ((e::es).length+([]:List Keyword).length+(if ([]:List Keyword).isEmpty then 0 else 1)<30))=true:=by rfl)
  (kG:(fI.endLine==dM.line)=true:=by rfl) (hs:starEach (e::es) X.env=(false,eval e X.env)::starEach es X.env:=by rfl) (nK:(backTo dM (starEach es X.env)).any (·.1)=false:=by rfl) :
  PE X (.Call (.Attribute o name fI) (e::es) [] dM) (XJ r to t):=Gq (ty:=fun x H1=>∃l,x=.str (tx l)) (fun _ _ h=>K6 h) F.plainAttrs_str slot Bx hm ho ha kE wm kG hs nK
theorem Pw(slot:Slot "list" name id)(Bx:typeOf (.builtin id)=pure (.type "method_descriptor"))(hm:EI X id r)(ho:PE X o to)
  (kE:attributeBase o name X.env (eval o X.env)=eval o X.env:=by rfl) (kG:(fI.endLine==dM.line)=true:=by rfl):PE X (.Call (.Attribute o name fI) [] [] dM) (Wv r to):=by
 intro ah s σ H Q I h
 refine nh kE kG (gG (ho ah s σ H _ I h) fun v s1 zq=>?_)
 obtain⟨x,H1,I1,r1,ty,q1⟩:=zq
 obtain⟨h1,h2⟩:=Gb I1 r1 (zM ty)
 exact⟨"list",id,F.plainAttrs_list,slot,Bx,h1,h2,gE rfl (PySem.evalArgs_none (hm ah s1 σ H1 x [] v [] Q I1 r1 .nil q1))⟩
end
section
variable{t:TA}
def Td(t:TA):TE:=fun σ H Q=>t σ H fun xs H1=>xs.length<=sizeLine/\∀p H2,H1 p=none->H2=e_ H1 p (.tup xs)->Q (.ref p) H2
def Te(t:TA):TE:=fun σ H Q=>t σ H fun xs H1=>xs.length<=sizeLine/\∀p H2,H1 p=none->H2=e_ H1 p (.lst xs)->Q (.ref p) H2
theorem K7{x1}(h:PA X es t):PE X (.Tuple es x1 pos) (Td t):=by
 intro ah s σ H Q I hq
 refine wpAny_Tuple_spliced (gG (h pos ah s σ H _ I hq) fun us s1 ⟨xs,H1,I1,r,z,q⟩=>⟨by rw[<- r.length];exact z,?_⟩)
 have hf:H1 s1.heap.objs.size=none:=I1.hok.fresh (ax _)
 refine⟨.ref s1.heap.objs.size,e_ H1 s1.heap.objs.size (.tup xs),I1.laid (t':=s1.toks) (fun b u e=>al _ e) (ax _) ?_,rfl,q _ _ hf rfl⟩
 exact⟨z,us,r,⟨_,ar _ rfl,rfl,_,rfl⟩⟩
theorem K8(h:PA X es t):PE X (.List es pos) (Te t):=by
 intro ah s σ H Q I hq
 refine wpAny_List_spliced (gG (h pos ah s σ H _ I hq) fun us s1 ⟨xs,H1,I1,r,z,q⟩=>⟨by rw[<- r.length];exact z,?_⟩)
 have hf:H1 s1.heap.objs.size=none:=I1.hok.fresh (ax _)
 refine⟨.ref s1.heap.objs.size,e_ H1 s1.heap.objs.size (.lst xs),I1.laid (t':=s1.toks) (fun b u e=>al _ e) (ax _) ?_,rfl,q _ _ hf rfl⟩
 exact⟨z,us,0,r,ar _ rfl⟩
theorem EI.imp{id:String}{r r':V->List V->Hp->VK->Prop}(h:EI X id r)(i:∀x xs H Q,r' x xs H Q->r x xs H Q):EI X id r':=fun ah s σ H x xs v us Q I rx rv q=>h ah s σ H x xs v us Q I rx rv (i _ _ _ _ q)
theorem lM.imp{f:Value}{r r':List V->Hp->VK->Prop}(h:lM X f r)(i:∀xs H Q,r' xs H Q->r xs H Q):lM X f r':=fun ah s σ H xs us Q I rv q=>h ah s σ H xs us Q I rv (i _ _ _ q)
theorem n6.imp{f:Value->Value->Sem Value}{r r':R2}(h:n6 X f r)(i:∀x y H Q,r' x y H Q->r x y H Q):n6 X f r':=fun ah s σ H x y v u Q I rx ry q=>h ah s σ H x y v u Q I rx ry (i _ _ _ _ q)
def Gu:V->List V->Hp->VK->Prop:=fun x vs H Q=>∃l xs y,x=.ref l/\vs=[y]/\H l=some (.lst xs)/\xs.length<sizeLine/\∀H2,H2=e_ H l (.lst (xs++[y]))->Q .non H2
theorem BS:EI X "list.append" Gu:=EI.imp (r:=C0) EJ fun _ _ _ _ zq=>by obtain⟨l,xs,y,a,b,c,d,q⟩:=zq;exact ⟨l,xs,y,a,b,c,d,q _ rfl⟩
def Tf:V->List V->Hp->VK->Prop:=fun x vs H Q=>∃l xs y,x=.ref l/\vs=[]/\H l=some (.lst (xs++[y]))/\∀H2,H2=e_ H l (.lst xs)->Q y H2
theorem K9:EI X "list.pop" Tf:=EI.imp (r:=S5) Ph fun _ _ _ _ zq=>by obtain⟨l,xs,y,a,b,c,q⟩:=zq;exact ⟨l,xs++[y],y,a,b,c,by simp,by rw[List.dropLast_concat];exact q _ rfl⟩
def Px:V->V->V->Hp->(Hp->Prop)->Prop:=fun o i v H Q=>∃p xs k j,o=.ref p/\i=.int k/\H p=some (.lst xs)/\CW xs.length k=some j/\∀H2,H2=e_ H p (.lst (xs.set j v))->Q H2
theorem ES:Ey X Px:=fun ah s σ H o i v ov iv u Q I r1 r2 r3 q=>by
 obtain⟨p,xs,k,j,a,b,c,d,q⟩:=q
 exact Ga ah s σ H o i v ov iv u Q I r1 r2 r3 ⟨p,xs,k,j,a,b,c,d,q _ rfl⟩
def Gv(K:Frag):List V->Hp->VK->Prop:=fun xs H Q=>∃p ys,xs=[.ref p]/\p8 K H p ys/\∀l H2,H l=none->H2=e_ H l (.tup ys)->Q (.ref l) H2
theorem zN:lM X (.type "tuple") (Gv X.K):=lM.imp wJ fun _ _ _ zq=>by obtain⟨p,ys,a,b,q⟩:=zq;exact ⟨p,ys,a,.inl ⟨b,fun l hl=>q l _ hl rfl⟩⟩
def Tg:R2:=fun x y H Q=>∃l b xs zs,x=.ref l/\y=.ref b/\H l=some (.lst xs)/\H b=some (.lst zs)/\xs.length+zs.length<=sizeLine/\∀p H2,H p=none->H2=e_ H p (.lst (xs++zs))->Q (.ref p) H2
theorem K_:n6 X (binaryOp .Add) Tg:=n6.imp Pi fun _ _ _ _ zq=>by obtain⟨l,b,xs,zs,h1,h2,h3,h4,h5,q⟩:=zq;exact ⟨l,b,xs,zs,h1,h2,h3,h4,h5,fun p hp=>q p _ hp rfl⟩
end
def Gw(T:String):Prop:=T="tuple"\/T="bool"\/T="int"\/T="str"
end L2
namespace L2
end L2
namespace L2
open PySem PySem.Spec PyProof.Rows
structure QE(X:Cx)(e:Expr)(t:TE):Prop where
 h:PE X e t
structure QA(X:Cx)(es:List Expr)(t:TA):Prop where
 h:PA X es t
structure QS(X:Cx)(s:Stmt)(t:TS):Prop where
 h:PS X s t
structure QG(X:Cx)(e:Expr)(t:TG):Prop where
 h:PG X e t
structure QI(X:Cx)(tg it:Expr)(t:TI):Prop where
 h:PI X tg it t
structure Ww(X:Cx)(es:List Expr)(t:TT):Prop where
 h:Gk X es t
structure Xg(X:Cx)(f:Value->Value->Sem Value)(r:R2):Prop where
 h:n6 X f r
structure Mw(X:Cx)(f:Value)(r:List V->Hp->VK->Prop):Prop where
 h:lM X f r
section
variable{a b c:Expr}{ta tb tc to:TE}{t u:TA}{x:Str}{tA W9:TT}{f':List Expr}
theorem Gx:Xg X (binaryOp .LShift) (rI OP fun i j=>.int (i*2^j.toNat)):=⟨F3⟩
variable{st:Stmt}{sr:List Stmt}{ts us:TS}{g:TG}
end
section
variable{c:Expr}{wi:TI}{g:TG}{tb:TS}{tA:TT}
end
noncomputable def jt(env:Env):List (Str×NameKind)->List (Str×Addr)->List (Str×Addr)
 |[],cs=>cs
 |(n,k)::r,cs=>jt env r (if k==.free then(n,(env.cells.lookup n).getD 0)::cs else cs)
theorem Th(h:∀x∈scope.names,x.2=.free->∃c,env.cells.lookup x.1=some c):closureFor scope env=pure (jt env scope.names []):=by
 unfold closureFor
 have key:∀(ns:List (Str×NameKind)) (cs:List (Str×Addr)),(∀x∈ns,x.2=.free->∃c,env.cells.lookup x.1=some c) ->
   (forIn ns cs fun(x:Str×NameKind) (r:List (Str×Addr))=>if (x.2==NameKind.free)=true then(do let a <- cellOf env x.1;pure (ForInStep.yield ((x.1,a)::r)))else(pure (ForInStep.yield r):Sem _))=pure (jt env ns cs):=by
  intro ns
  induction ns with
  |nil=>intro cs _;rfl
  |cons y r ih=>
   intro cs hc
   obtain⟨n,k⟩:=y
   rw[oz]
   have ihr:=fun cs=>ih cs fun x hx=>hc x (aV _ hx)
   by_cases hk:(k==NameKind.free)=true
   ·obtain⟨c,e⟩:=hc (n,k) bV (ng hk)
    have e2:cellOf env n=pure c:=by unfold cellOf;rw[e]
    show((if (k==NameKind.free)=true then _ else _) >>= _)=pure (jt env r (if (k==NameKind.free)=true then _ else _))
    rw[au hk,au hk,e2]
    simp only[pure_bind]
    have e3:(env.cells.lookup n).getD 0=c:=by rw[show env.cells.lookup n=some c from e];rfl
    rw[e3]
    exact ihr _
   ·show((if (k==NameKind.free)=true then _ else _) >>= _)=pure (jt env r (if (k==NameKind.free)=true then _ else _))
    rw[ay hk,ay hk]
    simp only[pure_bind]
    exact ihr _
 have:=key scope.names [] h
 dsimp only
 rw[this];simp only[pure_bind]
theorem xw:∀(ns:List (Str×NameKind)) (cs:List (Str×Addr)),(∀x∈ns,x.2=.free->∃c,env.cells.lookup x.1=some c)->(∀y∈cs,env.cells.lookup y.1=some y.2)->∀y∈jt env ns cs,env.cells.lookup y.1=some y.2
 |[],cs,_,h=>h
 |(n,k)::r,cs,hf,h=>by
  refine xw r _ (fun x hx=>hf x (aV _ hx)) ?_
  by_cases hk:(k==NameKind.free)=true
  ·rw[au hk]
   intro y hy
   rcases aM.mp hy with rfl|hy
   ·obtain⟨c,e⟩:=hf (n,k) bV (ng hk)
    show env.cells.lookup n=some ((env.cells.lookup n).getD 0)
    rw[show env.cells.lookup n=some c from e];rfl
   ·exact h y hy
  ·rw[ay hk];exact h
theorem u_:∀(ns:List (Str×NameKind)) (cs:List (Str×Addr)) (y:Str×Addr),y∈cs->y∈jt env ns cs
 |[],_,_,h=>h
 |(n,k)::r,cs,y,h=>by
  refine u_ r _ y ?_
  split
  ·exact aV _ h
  ·exact h
theorem vc{env:Env}:∀(ns:List (Str×NameKind)) (cs:List (Str×Addr)) (x:Str),(x,NameKind.free)∈ns->∃c,(x,c)∈jt env ns cs
 |[],_,_,h=>by simp at h
 |(n,k)::r,cs,x,h=>by
  rcases aM.mp h with e|h
  ·obtain⟨e1,e2⟩:=Prod.mk.inj e
   subst e1;subst e2
   exact⟨_,u_ r _ (x,_) (by rw[au (by rfl:(NameKind.free==NameKind.free)=true)];exact bV)⟩
  ·exact vc r _ x h
theorem vd:∀{l:List (Str×β)} {x:Str} {b:β},(x,b)∈l->∃c,l.lookup x=some c
 |(y,c)::r,x,b,h=>by
  rw[j_]
  cases hx:x==y with
  |true=>exact⟨c,rfl⟩
  |false=>
   rcases aM.mp h with e|h
   ·cases e;simp at hx
   ·exact vd h
theorem tW{env:Env}{g:Str×NameKind->Bool}:∀{names:List (Str×NameKind)} {x:Str},names.lookup x=some .free ->
  (names.map fun y=>if g y then(y.1,NameKind.cell)else y).lookup x=some .cell\/(names.map fun y=>if g y then(y.1,NameKind.cell)else y).lookup x=some .free
 |[],_,h=>by simp at h
 |(n,k)::r,x,h=>by
  rw[j_]at h
  rw[aP]
  have e1:∀y:Str×NameKind,(if g y then(y.1,NameKind.cell)else y).1=y.1:=fun y=>by split<;>rfl
  have e2:∀(y:Str×NameKind) (l:List (Str×NameKind)),(y::l).lookup x=if (x==y.1)=true then some y.2 else l.lookup x:=fun y l=>by
   obtain⟨a,b⟩:=y
   rw[j_]
   cases x==a<;>rfl
  rw[e2,e1]
  cases hx:x==n with
  |true=>
   rw[hx]at h
   cases h
   rw[au rfl]
   by_cases hg:g (n,.free)=true
   ·rw[au hg];exact .inl rfl
   ·rw[ay hg];exact .inr rfl
  |false=>
   rw[hx]at h
   rw[ay (by exact cP)]
   exact tW (env:=env) h
noncomputable def zO(dn:List (Str×NameKind))(sn:List (Str×NameKind))(nm:List Str)(cap:List (Option Nat))(N:List Str):Bool:=
 (sn.all fun x=>!(x.2==.local)||sn.lookup x.1==some .local)&&(sn.all fun y=>!(y.2==.cell))&&(sn.all fun x=>!(x.2==.free)||dn.lookup x.1==some .cell)&&(cap.length==nm.length) &&
 ((List.range cap.length).all fun i=>match cap[i]? with
  |some (some j)=>(match nm[i]?,N[j]? with
   |some x,some y=>x==y&&dn.lookup x==some .cell&&sn.lookup x==some .free
   |_,_=>false)
  |_=>true)
structure Wx(X:Cx)(scope:Scope)(nm:List Str)(cap:List (Option Nat)):Prop where
 clos:closureFor scope X.env=pure (jt X.env scope.names [])
 cl:∀x c,(jt X.env scope.names []).lookup x=some c->X.env.cells.lookup x=some c
 nms:∀x∈scope.names,x.2=.local->scope.names.lookup x.1=some .local
 cell:∀y∈scope.names,y.2≠.cell
 has:∀x,((relabel scope X.env).names.lookup x=some .cell\/(relabel scope X.env).names.lookup x=some .free)->∃c,(jt X.env scope.names []).lookup x=some c
 cp:∀(i j:Nat),cap[i]?=some (some j)->∃x,nm[i]?=some x/\X.N[j]?=some x/\u9 X scope (jt X.env scope.names []) x
 len:cap.length=nm.length
theorem Ti{nm:List Str}{cap:List (Option Nat)}(hf:∀x,X.env.scope.names.lookup x=some .cell->∃c,X.env.cells.lookup x=some c)(hB:zO X.env.scope.names scope.names nm cap X.N=true):Wx X scope nm cap:=by
 simp only[zO,b_,List.all_eq_true,oA,gZ,dz,bR]at hB
 obtain⟨⟨⟨⟨b1,b2⟩,b3⟩,b4⟩,b5⟩:=hB
 have has:∀x∈scope.names,x.2=.free->∃c,X.env.cells.lookup x.1=some c:=fun x hx hk=>by
  rcases b3 x hx with z|z
  ·exact absurd hk z
  ·exact hf _ z
 have qt:∀x c,(jt X.env scope.names []).lookup x=some c->X.env.cells.lookup x=some c:=fun x c h=>xw scope.names [] has #[9] (x,c) (jh h)
 have hin:∀x,(x,NameKind.free)∈scope.names->∃c,(jt X.env scope.names []).lookup x=some c:=fun x h=>let ⟨_,q⟩:=vc (env:=X.env) scope.names [] x h;vd q
 have hmap:(relabel scope X.env).names=scope.names.map fun y=>if (y.2==.free&&X.env.scope.kind==.function&&X.env.kindOf y.1==some .cell)then(y.1,NameKind.cell)else y:=by
  show scope.names.map _=_
  refine bZ fun y _=>?_
  obtain⟨a,b⟩:=y
  rfl
 have fr:∀x,((relabel scope X.env).names.lookup x=some .cell\/(relabel scope X.env).names.lookup x=some .free)->(x,NameKind.free)∈scope.names:=fun x h=>by
  have h':∃k,(x,k)∈(relabel scope X.env).names/\(k=.cell\/k=.free):=by
   rcases h with h|h
   ·exact⟨_,jh h,.inl rfl⟩
   ·exact⟨_,jh h,.inr rfl⟩
  obtain⟨k,hm,hk⟩:=h'
  rw[hmap]at hm
  obtain⟨y,hy,e⟩:=aO.mp hm
  obtain⟨a,b⟩:=y
  by_cases hb:b=.free
  ·subst hb
   have:a=x:=by split at e<;>(cases e;rfl)
   subst this;exact hy
  ·rw[ay (by simp[hb])]at e
   cases e
   rcases hk with rfl|rfl
   ·exact absurd rfl (b2 _ hy)
   ·exact absurd rfl hb
 refine⟨Th has,qt,fun x hx hk=>(b1 x hx).resolve_left fun z=>z hk,fun y hy=>b2 y hy,fun x hx=>hin x (fr x hx),fun i j e=>?_,b4⟩
 have hi':i<cap.length:=(ac.mp e).1
 have q:=b5 i (aU.mpr hi')
 rw[e]at q
 dsimp only at q
 cases hx:nm[i]? with
 |none=>rw[hx]at q;simp at q
 |some x=>
  cases hy:X.N[j]? with
  |none=>rw[hx,hy]at q;simp at q
  |some y=>
   rw[hx,hy]at q
   simp only[b_,dz]at q
   obtain⟨⟨rfl,q1⟩,q2⟩:=q
   refine⟨x,rfl,rfl,.inr (.inl q1),(by rw[q1];decide),?_,?_⟩
   ·obtain⟨c,hc⟩:=hin x (jh q2)
    rw[hc,qt _ _ hc]
   ·rw[hmap];exact tW (env:=X.env) q2
theorem Py{pos:Pos}{nm:List Str}{wi:TI}{g:TG}{tc:TT}(iB:X.calm=true)
  (lV:X.env.cells=cellsFrom m X.env.scope.names []) (iA:scope.kind=.function) (hB:zO X.env.scope.names scope.names nm cap X.N=true)
  (hi:QI X tg dw wi) (hg:∀cl C s0 H0 fp,QG #[7] tg g) (ht:∀cl C s0 H0 fp,Ww #[7] lg tc)
  (he:∀cl C s0 H0 fp,QE #[7] oq te) (hs:∀x,foldedSetIterable dw X.env x=pure x:=by intro _;rfl) :
  QE X #[6] (u8 cap wi g tc te):=by
 have F:=Ti (nm:=nm) (cap:=cap) (fun x z=>by rw[lV];exact mR z) hB
 exact⟨K3 iB F.clos F.cl iA F.nms F.cell F.has F.cp F.len hi.h (fun C s0 H0 fp=>(hg _ C s0 H0 fp).h) (fun C s0 H0 fp=>(ht _ C s0 H0 fp).h) (fun C s0 H0 fp=>(he _ C s0 H0 fp).h) hs⟩
def La(K:Frag):List V->Hp->VK->Prop:=fun xs H Q=>∃(p:Addr) (ys:List (List Nat)),xs=[.ref p]/\p8 K H p (ys.map fun l=>V.str (tx l))/\ys.length<64 /\
 ∀zs:List (List Nat),zs.Perm ys->sortedS (zs.map tx)=true->∀l H2,H l=none->H2=e_ H l (.lst (zs.map fun l=>V.str (tx l)))->Q (.ref l) H2
theorem C4(z:Str):tx z.cps.toList=z:=by cases z;rfl
theorem wL:Mw X (.builtin "sorted") (La X.K):=⟨by
 intro ah s σ H xs us Q I r h
 obtain⟨p,ys,rfl,hS,h64,q⟩:=h
 obtain⟨u,rfl,ru⟩:=oY r
 cases ru
 obtain⟨bw,rv,pl,hz⟩:=I.list hS
 have hl:=rv.length
 rw[ak]at hl
 refine sorted_strs (ss:=ys.map tx) pl.isList (qE (by simpa using rv)) #[0] fun out ss' h1 h2 h3=>?_
 obtain⟨ep,hat⟩:=sortedAll_at s.heap bw out
 have wG:H #[11]=none:=I.hok.fresh (d9 _)
 have hmap:(ss'.map fun z=>z.cps.toList).map tx=ss':=by
  rw[a9]
  have:(tx∘fun z:Str=>z.cps.toList)=id:=funext fun z=>C4 z
  rw[this,jo]
 have hperm:(ss'.map fun z=>z.cps.toList).Perm ys:=by
  have e:=h2.map fun z:Str=>z.cps.toList
  rw[a9]at e
  have:((fun z:Str=>z.cps.toList)∘tx)=id:=funext fun l=>by simp[tx]
  rw[this,jo]at e
  exact e
 have hvals:cG ((ss'.map fun z=>z.cps.toList).map fun l=>V.str (tx l)) out.toList:=by
  have e:=nB h1
  rw[<- hmap,a9]at e
  exact e
 refine⟨.ref #[11],_,I.laid (t':=s.toks) (fun b o e=>sortedAll_old e) (d9 _) ?_,rfl,q _ hperm (by rw[hmap];exact h3) _ _ wG rfl⟩
 refine⟨?_,out.toList,ep,hvals,hat⟩
 rw[ak,hperm.length_eq]
 exact aR (gC h64) #[1]⟩
theorem bK.turned2{t':Nat}{e:Addr}(I:bK X ah σ H s)(k:∀b o,b≠e->b≠it->s.heap.get? b=some o->h'.get? b=some o)
  (he:∃o,h'.get? e=some o) (f1:sL X ah H e) (f2:sL X ah H it):bK X ah σ H { s with heap:=h',toks:=t' }:=by
 have nit:∀b u,H b=some u->b≠e/\b≠it:=fun b u q=>⟨fun z=>(by rw[z,f1.1]at q;cases q),fun z=>(by rw[z,f2.1]at q;cases q)⟩
 have nin:∀b,b∉[e,it]->b≠e/\b≠it:=fun b h=>⟨fun z=>h (by simp[z]),fun z=>h (by simp[z])⟩
 refine I.step (g':=s.gens) (d':=s.drawn) (ch:=[e,it]) (fun b hb=>?_) (fun b o _ _ hc q _=>k b o (nin b hc).1 (nin b hc).2 q) (fun b o _ _ hc q _=>⟨o.slots,k b o (nin b hc).1 (nin b hc).2 q⟩) (fun _ _ _ _ n=>n)
  (fun b o hc q=>⟨o,k b o (nin b hc).1 (nin b hc).2 q⟩) (fun _ _ q=>q) (fun _ _ _ q=>q) (fun b ps q=>⟨#[],by rw[q];simp⟩) (fun m hm=>?_) (fun b u q=>?_) I.bare
 ·have z:b=e\/b=it:=by simpa using hb
  rcases z with rfl|rfl
  ·exact⟨f1.2.2.2.1,f1.2.1,f1.2.2.2.2.1,f1.2.2.2.2.2⟩
  ·exact⟨f2.2.2.2.1,f2.2.1,f2.2.2.2.2.1,f2.2.2.2.2.2⟩
 ·obtain⟨o,es,ep,ho,r⟩:=hm
  exact⟨o,es,ep,k _ o (Ne.symm f1.2.1) (Ne.symm f2.2.1) ho,r⟩
 ·refine(I.hok b u q).stay (fun c v hc z=>?_) (fun _ z=>z) fun _ _ z=>z
  rcases hc with y|y
  ·rw[y]at z ⊢;exact k b v (nit b u q).1 (nit b u q).2 z
  ·exact k c v (nit c _ y).1 (nit c _ y).2 z
section
variable{w:World}
theorem qa{t:Addr}{bw:Array Value}{x:Value}(st:s.heap.IsTupleIter it t i)(ht:s.heap.IsTuple t bw)(hx:bw[i]?=some x)
  (q:∀g,g.IsTupleIter it t (i+1)->Heap.SameBut it s.heap g->Q x { s with heap:=g }):wpAny #[5] A (Builtin.SmallTypes.nextOf (.ref it)) Q E s:=by
 obtain⟨ob,e1,e2,e3⟩:=id st
 obtain⟨ot,g1,_,nt,g3⟩:=ht
 have T:=st.typeIs
 unfold Builtin.SmallTypes.nextOf
 refine aa (bn (name:=Str.ofString "__next__") T fL (br fL T lD ?_ (kU _)))
 show wpAny _ _ (field (.ref it) 0 >>= _) _ _ s
 refine aa (b9 e1 e3 (x:=.ref t) rfl ?_)
 dsimp only
 rw[ay (show ¬ ((Value.ref t==Value.none)=true)from cP)]
 refine aa (b9 e1 e3 (x:=.int i 0) rfl ?_)
 dsimp only
 refine aa (dR g1 g3 ?_)
 simp only[aJ,hx]
 refine aa (jG e1 e3 #[9] (aq ⟨x,rfl,aq (q _ ?_ (fj ..))⟩))
 exact⟨_,cF _ e1 (jV (fM e3 _)),(Obj.cls_mapFields ..).trans e2,by rw[fM e3];simp[rawInt]⟩
theorem nC{t:Addr}{bw:Array Value}(hh:A.handled=none)(st:s.heap.IsTupleIter it t i)(ht:s.heap.IsTuple t bw)(hx:bw[i]?=none)
  (q:∀g e,Heap.ExtBut it s.heap g->(∃o,g.get? e=some o/\o.cls=.type "StopIteration")->E (.ref e) { s with heap:=g }):wpAny #[5] A (Builtin.SmallTypes.nextOf (.ref it)) Q E s:=by
 obtain⟨ob,e1,e2,e3⟩:=id st
 obtain⟨ot,g1,_,nt,g3⟩:=ht
 have T:=st.typeIs
 unfold Builtin.SmallTypes.nextOf
 refine aa (bn (name:=Str.ofString "__next__") T fL (br fL T lD ?_ (kU _)))
 show wpAny _ _ (field (.ref it) 0 >>= _) _ _ s
 refine aa (b9 e1 e3 (x:=.ref t) rfl ?_)
 dsimp only
 rw[ay (show ¬ ((Value.ref t==Value.none)=true)from cP)]
 refine aa (b9 e1 e3 (x:=.int i 0) rfl ?_)
 dsimp only
 refine aa (dR g1 g3 ?_)
 simp only[aJ,hx]
 refine aa (jf (aa (jG e1 e3 #[9] (aa ?_))))
 simp only[newExc,newTuple]
 refine aa (bO (aa (m:=firstArgMember _ _) (fW (a:=Value.none) (by first|rfl|(simp only[firstArgMember];rfl)) (bO ?_ (by size_fits)))) (by size_fits))
 simp only[raiseNew]
 refine aa (qx ?_)
 rw[show A.in1.handled=none from hh]
 exact aa (aq (wpAny_throw (q _ _ (((fj ..).extBut.push _).push _) ⟨_,ar _ rfl,rfl⟩)))
end
theorem Gy{w:World}{A:Around}(hh:A.handled=none)(it t:Addr)(wZ:t≠it)(bw:Array Value) :
  Draws prog w A it [it,t] bw.size (fun i v=>bw[i]?=some v) (fun i h=>h.IsTupleIter it t i/\h.IsTuple t bw) where
 live:=fun _ _ st=>let ⟨o,e,_⟩:=st.1;⟨o,e⟩
 frame:=fun _ h h' st k=>⟨st.1.at fun o e=>k it #[9] o e,let ⟨o,e,r⟩:=st.2;⟨o,k t #[9] o e,r⟩⟩
 item:=fun i s Q E hi st q=>qa st.1 st.2 (x:=bw[i]) (by simp[hi]) fun g a b=>q _ g s.toks (by simp[hi]) ⟨a,st.2.extBut b.extBut wZ⟩ b
 done:=fun s Q E st q=>nC hh st.1 st.2 #[9] q
open AutoSeq1 (wpAny_loadPart')
def Xh(K:Frag)(a:Addr):It:=
 ⟨fun i H=>∃xs x,gp K H a xs/\xs[i]?=some x,fun i H v H'=>∃p,H p=none/\v=.ref p/\∀xs x,gp K H a xs->xs[i]?=some x->H'=e_ H p (.tup [.int i,x]),fun i H=>∃xs,gp K H a xs/\xs.length<=i⟩
theorem ET{w:World}(a it e:Addr)(RT:e≠it) :
  x5 P w K (.Tuple kD kk pos) (Xh K a) [e,it] e (fun i h=>(∃old,IsEnum h e it i old)/\h.IsTupleIter it a i) where
 mem:=by simp
 obj:=fun i h st b hb=>by
  have z:b=e\/b=it:=by simpa using hb
  rcases z with rfl|rfl
  ·obtain⟨old,q⟩:=st.1
   exact⟨_,q,fun v z=>by cases z⟩
  ·obtain⟨o,q,c,d⟩:=st.2
   exact⟨o,q,fun v z=>by rw[d]at z;cases z⟩
 keep:=fun i h h' st k=>⟨let ⟨old,q⟩:=st.1;⟨old,k e #[9] _ q⟩,st.2.at fun o q=>k it #[9] o q⟩
 item:=by
  intro X hP hw hK hc i ah s σ H E I hf st hg
  subst hP hw hK
  obtain⟨xs,x,hq,hx⟩:=hg
  obtain⟨bw,rv,p,hz⟩:=I.tuple hq
  obtain⟨u,hu,ru⟩:=rv.get hx
  obtain⟨⟨old,he⟩,jD⟩:=st
  have hT:s.heap.IsTuple a bw.toArray:=p
  obtain⟨oa,ha,hca,_⟩:=id hT
  obtain⟨oi,hi,hci,_⟩:=id jD
  have nai:a≠it:=fun z=>by
   rw[z,hi]at ha;cases ha
   rw[hci]at hca;injection hca with z;exact absurd z #[1]
  have nae:a≠e:=fun z=>by
   rw[z,he]at ha;cases ha
   injection hca with z;exact absurd z #[1]
  have hlt:i<bw.toArray.size:=by
   have:=(ac.mp hu).1
   simpa using this
  refine ni (Gy (A:=X.A.in1) (I.ok.hd hc) it a nai bw.toArray) he ⟨jD,hT⟩ hlt RT (by simp[RT,Ne.symm nae]) fun x' g tk hx' ho' bz htup hsz hk=>⟨_,rfl,?_⟩
  have ex:x'=u:=by
   have e1:bw[i]?=some x':=by simpa using hx'
   rw[hu]at e1;exact(aG e1).symm
  subst ex
  refine l0 ho' fun g2 Vl Bz=>?_
  have wG:H s.heap.objs.size=none:=I.hok.fresh (ax _)
  have I1:bK X ah σ (e_ H s.heap.objs.size (.tup [.int i,x])) { s with heap:=s.heap.push { cls:=.type "tuple",data:=.seq #[.int i tk,x'] },toks:=tk+1 }:=I.laid (fun b o q=>al _ q) (ax _)
   ⟨by show 2<=sizeLine;decide,[.int i tk,x'],.cons ⟨tk,rfl⟩ (.cons ru .nil),⟨_,ar _ rfl,rfl,_,rfl⟩⟩
  have nf:∀b∈[e,it],b≠s.heap.objs.size:=fun b hb=>by
   have z:b=e\/b=it:=by simpa using hb
   rcases z with rfl|rfl
   ·exact a8 (aD he)
   ·exact a8 (aD hi)
  have fp:∀b∈[e,it],sL X ah (e_ H s.heap.objs.size (.tup [.int i,x])) b:=fun b hb=>by
   obtain⟨f0,f⟩:=hf b hb
   exact⟨by rw[cE (nf b hb)];exact f0,f⟩
  have he2':IsEnum g2 e it ((i:Int)+1) x':=Vl
  have I2:bK X ah σ (e_ H s.heap.objs.size (.tup [.int i,x])) { s with heap:=g2,toks:=tk+1 }:=I1.turned2 (t':=tk+1) (fun b o hbe hbi q=>?_) ⟨_,he2'⟩ (fp e #[9]) (fp it #[9])
  ·refine⟨.ref s.heap.objs.size,_,I2,rfl,⟨_,wG,rfl,fun ys y hy hy'=>?_⟩,⟨⟨x',by simpa using he2'⟩,bz.1.extBut Bz.extBut (Ne.symm RT)⟩,fun b hb=>(fp b hb).1⟩
   have e1:=I.tuple_inj hy hq
   subst e1
   rw[hx]at hy';cases hy';rfl
  ·have q':(s.heap.push { cls:=.type "tuple",data:=.seq #[.int i tk,x'] }).get? b=some o:=q
   refine Bz.extBut b o hbe ?_
   by_cases hb:b=s.heap.objs.size
   ·subst hb
    have e1:=ar s.heap (o:={ cls:=.type "tuple",data:=.seq #[.int i tk,x'] }) rfl
    rw[e1]at q';cases q'
    exact htup
   ·rw[jH _ _ _ hb]at q'
    exact hk b o hbe hbi q'
 done:=by
  intro X hP hw hK hc i ah s σ H E I hf st hg
  subst hP hw hK
  obtain⟨xs,hq,hx⟩:=hg
  obtain⟨bw,rv,p,hz⟩:=I.tuple hq
  obtain⟨⟨old,he⟩,jD⟩:=st
  have hT:s.heap.IsTuple a bw.toArray:=p
  have hl:=rv.length
  have hT':Shared.TypeIs s (.ref e) "enumerate":=⟨_,he,rfl⟩
  unfold pyNext
  refine aa (dP (bn (name:=Str.ofString "__next__") hT' gU (br gU hT' nU ?_ (nj _))))
  show wpAny _ _ (field (.ref e) 2 >>= _) _ _ _
  refine aa (b9 he rfl (x:=.ref it) rfl (aa (nC (show X.A.in1.handled=none from I.ok.hd hc) jD hT (by simp;omega) fun g y hx' hy=>?_)))
  obtain⟨o,ho,qt⟩:=hy
  refine aa (eF (T:="StopIteration") (b:=true) ⟨o,ho,qt⟩ hX (aq ⟨rfl,?_⟩))
  obtain⟨f0,f1,f2,f3,f4,f5⟩:=hf it (by simp)
  exact I.turned (t':=s.toks) (fun b o hb q=>hx' b o hb q) f0 f1 f3 f4 f5
 self:=fun A i s Q E st h=>let ⟨_,q⟩:=st.1;jI q h
open AutoSeq1 (wpAny_loadPart')
noncomputable abbrev rh(t:Addr):Obj:={ cls:=.type "tuple_iterator",data:=.fields #[.ref t,.int 0 0] }
noncomputable abbrev sP(it:Addr):Obj:={ cls:=.type "enumerate",data:=.fields #[.none,.bool false,.ref it,rawInt 0,.none,.none] }
theorem Pz(t:Addr)(bw:Array Value)(n:Nat)(dc:Option Addr)(sl:Array (Option Value)) :
  Meets (Builtin.«enumerate.__new__» ⟨[.type "enumerate",.ref t],[]⟩) (fun _ R s=>s.heap.get? t=some { cls:=.type "tuple",dict:=dc,data:=.seq bw n,slots:=sl } /\
   R (.ok (.ret (.ref (s.heap.push (rh t)).objs.size))) { s with heap:=(s.heap.push (rh t)).push (sP s.heap.objs.size) }):=
 .of_wp fun prog w A R s h=>by
  obtain⟨hp,g,d,tk,os⟩:=s
  obtain⟨ht,h⟩:=h
  have sb:=sub_enumerate
  have hT:Heap.IsTuple (Shared.heap ⟨hp,g,d,tk,os⟩) t bw:=⟨_,ht,rfl,n,rfl⟩
  wp_walk using bF ht
  refine wpAny_stack_any fun st=>aq ?_
  split
  ·rename_i c _ _ _ _ _
   cases(c==Value.type "enumerate")<;>(wp_walk using bF ht,gD hT;exact⟨_,rfl,h⟩)
  ·wp_walk using bF ht,gD hT
   exact⟨_,rfl,h⟩
section
variable{w:World}
theorem wM{t:Addr}{bw:Array Value}(hT:s.heap.IsTuple t bw)
  (q:∀g,IsEnum g #[11] s.heap.objs.size 0 .none->g.IsTupleIter s.heap.objs.size t 0->(∀b o,s.heap.get? b=some o->g.get? b=some o)->Q (.ref #[11]) { s with heap:=g }) :
  wpAny #[5] A (call (.type "enumerate") [.ref t]) Q E s:=by
 obtain⟨⟨c,dc,dt,sl⟩,ht,hc,n,hd⟩:=hT
 obtain rfl:c=.type "tuple":=hc
 obtain rfl:dt=.seq bw n:=hd
 refine nV F.called_enumerate #[1] (nX _) (oS _) (fun ob=>F.args_object_init_2 ob _) oT (Pz t bw n dc sl) ⟨ht,?_⟩
 have z:(s.heap.push (rh t)).objs.size=s.heap.objs.size+1:=bA ..
 show _/\_
 rw[z]
 have e1:IsEnum ((s.heap.push (rh t)).push (sP s.heap.objs.size)) #[11] s.heap.objs.size 0 .none:=by
  have y:=ar (s.heap.push (rh t)) (o:=sP s.heap.objs.size) rfl
  rw[z]at y;exact y
 exact⟨⟨_,e1,rfl⟩,q _ e1 ⟨_,al _ (ar _ rfl),rfl,rfl⟩ fun b o y=>al _ (al _ y)⟩
end
section
def Wy(K:Frag)(ta:TA):TI:=fun σ H R=>ta σ H fun vs H1=>∃a,vs=[.ref a]/\(∃xs,gp K H1 a xs)/\R (Xh K a) H1
theorem Gz{a:Expr}{ta:TA}{p pos tp:Pos}{kD:List Expr}{kk:Nat}(hm:X.mg "enumerate"=none)(ha:QA X [a] ta)(hg:Gl X "enumerate":=by rfl)(hs:starEach [a] X.env=[(false,eval a X.env)]:=by rfl) :
  QI X (.Tuple kD kk tp) (.Call (.Name "enumerate" p) [a] [] pos) (Wy X.K ta):=⟨by
 intro ah s σ H R I h
 refine Call_ (lL I hg hm pM (b6 (gG (ha.h pos ah s σ H _ I h) fun us s1 zq=>?_) hs rfl))
 obtain⟨vs,H1,I1,r1,q1⟩:=zq
 obtain⟨t,e,⟨xs,hq⟩,q⟩:=q1
 subst e
 obtain⟨u,rfl,ru⟩:=oY r1
 cases ru
 obtain⟨bw,rv,pt,hz⟩:=I1.tuple hq
 refine wM (show s1.heap.IsTuple t bw.toArray from pt) fun g e1 e2 kp=>?_
 refine jI e1 ?_
 refine⟨s1.heap.objs.size+1,[s1.heap.objs.size+1,s1.heap.objs.size],_,_,H1,rfl,I1.kept (t':=s1.toks) kp,ET t _ _ (nn _),⟨⟨_,e1⟩,e2⟩,fun b hb=>?_,q⟩
 have z:b=s1.heap.objs.size+1\/b=s1.heap.objs.size:=by simpa using hb
 rcases z with rfl|rfl
 ·exact I1.fpOk (d9 _) (I1.hok.fresh (d9 _))
 ·exact I1.fpOk (ax _) (I1.hok.fresh (ax _))⟩
end
section
variable{g:TG}{tc:TT}{H1:Hp}{Q:VK}
end
theorem xy:∀(p:Nat) (m:List Nat),risingS (tx [p]) (m.map fun c=>tx [c])=true->(∀c∈m,p<=c)/\m.Pairwise (· <= ·)
 |p,[],_=>⟨fun c h=>by simp at h,.nil⟩
 |p,c::r,h=>by
  have h':(!ltCps (tx [c]).cps.toList (tx [p]).cps.toList&&risingS (tx [c]) (r.map fun c=>tx [c]))=true:=h
  rw[b_]at h'
  obtain⟨a,b⟩:=h'
  obtain⟨b1,b2⟩:=xy c r b
  have FH:p<=c:=by
   rw[ltCps_eq]at a
   have a':(!decide ([c]<[p]))=true:=a
   have:=jg (gZ _▸a')
   rcases jJ c p with z|z
   ·exact absurd (List.Lex.rel z) this
   ·exact z
  refine⟨fun x hx=>?_,bQ.mpr ⟨b1,b2⟩⟩
  rcases aM.mp hx with rfl|hx
  ·exact FH
  ·exact aR FH (b1 x hx)
theorem zP:∀(m:List Nat),sortedS ((m.map fun c=>[c]).map tx)=true->m.Pairwise (· <= ·)
 |[],_=>.nil
 |c::r,h=>by
  have h':risingS (tx [c]) ((r.map fun c=>[c]).map tx)=true:=h
  rw[a9]at h'
  obtain⟨a,b⟩:=xy c r h'
  exact bQ.mpr ⟨a,b⟩
theorem eK:Slot "set_iterator" "__next__" "set_iterator.__next__":=.of (owner:="set_iterator") (n:="__next__") (by rw[gN,eh];kernel_rfl) #[13] #[13] #[13] (by first|exact .inl #[13]|exact .inr #[13]) (by rw[cS];kernel_rfl)
theorem mf:entryFor table "set_iterator.__next__"=some Builtin.«set_iterator.__next__»:=entryFor_of_tree (by kernel_rfl)
theorem mh(a:Value):argsOk "set_iterator.__next__" ⟨[a],[]⟩:=by unfold argsOk;kernel_rfl
theorem zQ:entryFor table "set.__iter__"=some Builtin.«frozenset.__iter__»:=l5 (id':="frozenset.__iter__") (by kernel_rfl) (by first|rfl|decide +kernel|(unfold String.splitOn;simp +decide [String.splitOnAux])) #[13] (by kernel_rfl)
noncomputable def um(w:World):Bool:=w.params.followText "set-order"
def C5(w:World)(n:Nat)(t:SetTable):Prop:=(um w=true\/t.led=true)/\(n=0\/t.plain=false)
theorem EU(t:SetTable)(es:Array (Int×Value))(h:Int)(x:Value):(layNew t es h x).2.1.led=t.led/\(t.plain=false->(layNew t es h x).2.1.plain=false):=by
 unfold layNew
 split
 ·dsimp only
  unfold SetTable.orStandIn
  split
  ·exact⟨rfl,fun z=>z⟩
  ·exact⟨rfl,fun _=>rfl⟩
 ·exact⟨rfl,fun _=>rfl⟩
theorem yh{t t':SetTable}{hs:Array Int}{o:Array Nat}(h:t.relaid hs n=some (t',o)):t'.led=t.led/\t'.plain=t.plain:=by
 unfold SetTable.relaid SetTable.laid at h
 cases hc:SetTable.layClean (SetTable.sizeAbove n-1) hs with
 |none=>rw[hc]at h;cases h
 |some ow=>
  rw[hc]at h
  have h':=aG h
  obtain⟨a,_⟩:=Prod.mk.inj h'
  subst a
  exact⟨rfl,rfl⟩
theorem zR(t:SetTable)(es:Array (Int×Value))(n:Nat):(relayAll t es n).2.1.led=t.led/\(t.plain=false->(relayAll t es n).2.1.plain=false):=by
 unfold relayAll
 split
 ·rename_i t' o he
  obtain⟨a,b⟩:=yh he
  dsimp only
  split
  ·exact⟨a,fun z=>b.trans z⟩
  ·exact⟨rfl,fun _=>rfl⟩
 ·exact⟨rfl,fun _=>rfl⟩
section
variable{w:World}
def zS(prog:Program)(w:World)(h:Heap)(a:Addr)(ks:List Str):Prop:=
 ∃o es ep t,h.get? a=some o/\o.ExactSet/\o.data=.set es ep t/\ElemsOf (PySem.strKind prog w) es.toList/\(es.toList.map fun e=>strOf e.2).Perm ks/\es.size<scanBound/\t.fits es.size=true/\C5 w es.size t
theorem zU{l:List (Int×Value)}(h:ElemsOf (PySem.strKind prog w) l):∀e∈l,∃t,e.2=.str (strOf e.2) t:=fun e he=>by
 obtain⟨⟨k,hk,_⟩,_⟩:=h e he
 obtain⟨t,ht⟩:=li hk
 exact⟨t,by rw[ht];rfl⟩
theorem xz{k:Str}{e:Int×Value}{l:List (Int×Value)}(h:ElemsOf (PySem.strKind prog w) l)(he:e∈l):(PySem.strKind prog w).is k e.2=true↔k=strOf e.2:=by
 obtain⟨t,ht⟩:=zU h e he
 constructor
 ·intro z
  obtain⟨u,hu⟩:=li z
  rw[hu];rfl
 ·intro z
  show Value.isStrOf k e.2=true
  rw[ht,z]
  show Value.isStrOf (strOf e.2) (.str (strOf e.2) t)=true
  unfold Value.isStrOf;simp
theorem zS.keep(z:zS prog w h a ks)(k:∀o,h.get? a=some o->h'.get? a=some o):zS prog w h' a ks:=let ⟨o,es,ep,t,ho,r⟩:=z;⟨o,es,ep,t,k o ho,r⟩
theorem Lb{x:Str}{tk:Tok}{Q:Bool->Shared->Prop}(z:zS prog w s.heap a ks)(Xv:ks.length+1<scanBound)
  (q:∀b g,Heap.SameBut a s.heap g->zS prog w g a (if x∈ks then ks else ks++[x])->Q b { s with heap:=g }):wpAny #[5] A (setAddHashed a (.str x tk) ((PySem.strKind prog w).hash x)) Q E s:=by
 obtain⟨o,es,ep,t,ho,zv,hd,hel,hp,hb,hf,Kj⟩:=z
 have dG:es.size=ks.length:=by have:=hp.length_eq;simpa using this
 have hkey:(PySem.strKind prog w).is x (.str x tk)=true:=by show Value.isStrOf x (.str x tk)=true;unfold Value.isStrOf;simp
 have hsc:(Value.str x tk).scannable=true:=rfl
 unfold setAddHashed setAddHashedIn
 refine dO (aa (fX ho hd hf ?_))
 dsimp only
 rw[byScan_of hsc hb hel,au rfl]
 unfold setAddByScan
 refine aa (aa (jf (aa (wpAny_setScan_of hkey ho hd hf hel ?_))))
 cases hr:List.findIdx? (fun e=>(PySem.strKind prog w).is x e.2) es.toList with
 |some j=>
  obtain⟨hj,hpj,_⟩:=List.findIdx?_eq_some_iff_getElem.mp hr
  have hin:x∈ks:=hp.mem_iff.mp (aO.mpr ⟨es.toList[j],dJ hj,((xz hel (dJ hj)).mp hpj).symm⟩)
  refine aq (aq ?_)
  have e1:=q false s.heap (Heap.SameBut.refl a s.heap) (by rw[au hin];exact⟨o,es,ep,t,ho,zv,hd,hel,hp,hb,hf,Kj⟩)
  exact e1
 |none=>
  have hin:¬ x∈ks:=fun hx=>by
   obtain⟨e,he,hxe⟩:=aO.mp (hp.mem_iff.mpr hx)
   have y:=List.findIdx?_eq_none_iff.mp hr e he
   rw[(xz hel he).mpr hxe.symm]at y
   cases y
  have q':=fun b g h1 h2=>q b g h1 (by rw[ay hin];exact h2)
  dsimp only
  have lp:=layNew_perm t es ((PySem.strKind prog w).hash x) (.str x tk)
  have lf:=layNew_fits t es ((PySem.strKind prog w).hash x) (.str x tk)
  have lm:=EU t es ((PySem.strKind prog w).hash x) (.str x tk)
  generalize layNew t es ((PySem.strKind prog w).hash x) (.str x tk)=L at lp lf lm ⊢
  obtain⟨es1,t1,wd,gv⟩:=L
  dsimp only at lp lf lm ⊢
  rw[Array.toList_push]at lp
  have el1:ElemsOf (PySem.strKind prog w) es1.toList:=(hel.push hkey hsc).perm lp
  have sz1:es1.size=es.size+1:=by have:=lp.length_eq;simpa using this
  have b1:es1.size<scanBound:=by omega
  have p1:(es1.toList.map fun e=>strOf e.2).Perm (ks++[x]):=by
   have y:=lp.map fun e:Int×Value=>strOf e.2
   rw[bG]at y
   exact y.trans (hp.append_right _)
  have gw:∀(b:Bool) {s₁:Shared} {Q':Unit->Shared->Prop},Q' () s₁->wpAny #[5] A (match b with|true=>rule "set.scan.the-table-gave-way" | false=>pure ()) Q' E s₁:=fun b _ _ y=>by cases b<;>first|exact aq y|exact jf y
  refine aa (gw _ ?_)
  have fin:∀t2:SetTable,t2.fits es1.size=true->t2.led=t.led->t2.plain=false->wpAny #[5] A (do
    storeSet a es1 t2
    if (!wd&&t2.tooFull)=true then do
      (match (relayAll t2 es1 (SetTable.grown es1.size)).2.2 with|true=>rule "set.scan.the-table-gave-way" | false=>pure ())
      storeSet a (relayAll t2 es1 (SetTable.grown es1.size)).1 (relayAll t2 es1 (SetTable.grown es1.size)).2.1
      pure (some true)
     else pure (some true)) (fun r s'=>wpAny #[5] A (match r with|some added=>pure added|none=>setAddHashedIn a (.str x tk) ((PySem.strKind prog w).hash x) 99999) Q E s') E s:=by
   intro t2 f2 l2 n2
   have to2:C5 w es1.size t2:=⟨by rw[l2];exact Kj.1,.inr n2⟩
   refine aa (wpAny_storeSet_of ho hd ?_ (fits_of_scanBound b1))
   have g1:(s.heap.update a (Obj.putSet es1 t2)).get? a=some { o with data:=.set es1 (ep+1) t2 }:=by
    have y:=cF (Obj.putSet es1 t2) ho (by rw[tN es1 t2 hd];rfl)
    rw[tN es1 t2 hd]at y;exact y
   have sb:=fj s.heap a (Obj.putSet es1 t2)
   split
   ·have rp:=relayAll_perm t2 es1 (SetTable.grown es1.size)
    have rf:=relayAll_fits t2 es1 (SetTable.grown es1.size)
    have rm:=zR t2 es1 (SetTable.grown es1.size)
    generalize relayAll t2 es1 (SetTable.grown es1.size)=R at rp rf rm ⊢
    obtain⟨es2,t3,gv2⟩:=R
    dsimp only at rp rf rm ⊢
    have sz2:es2.size=es1.size:=by have:=rp.length_eq;simpa using this
    refine aa (gw _ (aa (wpAny_storeSet_of g1 rfl (aq (aq ?_)) (fits_of_scanBound #[0]))))
    have g2:((s.heap.update a (Obj.putSet es1 t2)).update a (Obj.putSet es2 t3)).get? a=some { o with data:=.set es2 (ep+1+1) t3 }:=by
     have y:=cF (Obj.putSet es2 t3) g1 (by rw[tN es2 t3 rfl];rfl)
     rw[tN es2 t3 rfl]at y;exact y
    refine q' true _ (sb.trans (fj _ a _)) ⟨_,es2,_,t3,g2,zv,rfl,el1.perm rp,?_,by omega,rf,?_⟩
    ·exact(rp.map fun e:Int×Value=>strOf e.2).trans p1
    ·exact⟨by rw[rm.1,l2];exact Kj.1,.inr (rm.2 n2)⟩
   ·exact aq (aq (q' true _ sb ⟨_,es1,_,t2,g1,zv,rfl,el1,p1,b1,f2,to2⟩))
  by_cases qY:t1.plain=true
  ·rw[au qY,hashByValue_scannable 8 hsc]
   refine aa (aq ?_)
   exact fin { t1 with plain:=false } (SetTable.fits_plain_off lf) lm.1 rfl
  ·rw[ay qY]
   refine aa (aq ?_)
   exact fin t1 lf lm.1 (by simpa using qY)
end
section
variable{w:World}{R:Result->Shared->Prop}{I:Addr}{wr:List Addr}{P:Nat->Value->Prop}{St:Nat->Heap->Prop}
def Mx(prog:Program)(w:World)(val:Nat->Str)(h:Heap)(a:Addr)(i:Nat):Prop:=∃ks,zS prog w h a ks/\ks.Nodup/\(∀x,x∈ks↔∃j,j<i/\val j=x)/\ks.length<=i
theorem GA(W:Walks prog w A.in1 I fp wr n P St)(S:Addr)(Xy:S∉fp)(val:Nat->Str)(Bk:∀i v,P i v->∃t,v=.str (val i) t)(hb:n+1<scanBound) :
  ∀(k i:Nat) (s:Shared),n-i=k->i<=n->St i s.heap->Mx prog w val s.heap S i ->
   (∀g tk,Mx prog w val g S n->(∀b o,b≠S->b∉wr->s.heap.get? b=some o->g.get? b=some o)->R (.ok (.ret .none)) { s with heap:=g,toks:=tk }) ->
   codeAny #[5] A (.builtin "set.update.loop" ⟨[.ref S,.ref I],[]⟩) R s:=by
 have hSw:S∉wr:=fun h=>Xy (W.sub _ h)
 intro k
 induction k with
 |zero=>
  intro i s hk hi st hM hR
  obtain rfl:i=n:=by omega
  refine gO iK ?_
  rw[fY fm _]
  show wpAny _ A.in1 (pyNext (.ref I) >>= _) _ _ s
  refine aa (W.done s _ _ st fun g tk kp=>aq (hR g tk ?_ fun b o _ hb e=>kp b o hb e))
  obtain⟨ks,z,r⟩:=hM
  exact⟨ks,z.keep fun o e=>kp S o hSw e,r⟩
 |succ k ih=>
  intro i s hk hi st hM hR
  have hlt:i<n:=by omega
  refine gO iK ?_
  rw[fY fm _]
  show wpAny _ A.in1 (pyNext (.ref I) >>= _) _ _ s
  refine aa (W.item i s _ _ hlt st fun v g tk hP bz kp=>?_)
  obtain⟨t,rfl⟩:=Bk i v hP
  obtain⟨ks,z,nd,mem,len⟩:=hM
  have z':zS prog w g S ks:=z.keep fun o e=>kp S o hSw e
  refine aa (dO ?_)
  unfold setAdd
  refine dO (aa ((PySem.strKind prog w).pyHash (k:=val i) (show Value.isStrOf (val i) (.str (val i) t)=true by unfold Value.isStrOf;simp) ?_))
  refine Lb (s:={ s with heap:=g,toks:=tk+1 }) z' #[0] fun _ g2 sb z2=>?_
  refine aq ⟨kj fm _,ih (i+1) _ #[0] hlt (W.frame _ _ _ bz fun b hb o e=>?_) ?_ fun g3 tk3 hM3 kp3=>?_⟩
  ·rw[sb.2 b (fun h:b=S=>Xy (by rw[<- h];exact hb))];exact e
  ·refine⟨_,z2,?_,fun x=>?_,?_⟩
   ·by_cases hx:val i∈ks
    ·rw[au hx];exact nd
    ·rw[ay hx];exact jK.mpr ⟨nd,by simp,fun a ha b hb=>by rw[bv]at hb;subst hb;exact fun e=>hx (e▸ha)⟩
   ·by_cases hx:val i∈ks
    ·rw[au hx,mem x]
     constructor
     ·rintro⟨j,hj,e⟩;exact⟨j,by omega,e⟩
     ·rintro⟨j,hj,e⟩
      by_cases hji:j=i
      ·subst hji;subst e;exact(mem _).mp hx
      ·exact⟨j,by omega,e⟩
    ·rw[ay hx,aZ,mem x,bv]
     constructor
     ·rintro(⟨j,hj,e⟩|e)
      ·exact⟨j,by omega,e⟩
      ·exact⟨i,by omega,e.symm⟩
     ·rintro⟨j,hj,e⟩
      by_cases hji:j=i
      ·subst hji;exact .inr e.symm
      ·exact .inl ⟨j,by omega,e⟩
   ·by_cases hx:val i∈ks
    ·rw[au hx];omega
    ·rw[ay hx,aT,cW];omega
  ·exact hR g3 tk3 hM3 fun b o hb hw e=>kp3 b o hb hw ((sb.2 b hb).trans (kp b o hw e))
end
section
variable{w:World}
abbrev dQ(w:World):Obj:={ cls:=.type "set",dict:=none,data:=.set #[] 0 (.fresh 0 0 (!um w)) }
theorem zV(a:Value){Q₁:Value->Shared->Prop}(h:Q₁ (.ref s.heap.objs.size) { s with heap:=s.heap.push (dQ w) }) :
  codeAny #[5] A (.call (.builtin "set.__new__") ⟨[.type "set",a],[]⟩) (wants Q₁ E) s:=by
 refine codeAny_of_tree ?_
 show wpAny _ A.in1 (do checkBuiltinCall "set.__new__" ⟨[.type "set",a],[]⟩;again (.builtin "set.__new__" ⟨[.type "set",a],[]⟩)) _ _ s
 refine aa (fW (PySem.F.newCall_set_1 a) (aq ⟨kj PySem.F.plain_set_new _,gO PySem.F.entry_set_new ?_⟩))
 rw[fY PySem.F.plain_set_new _]
 unfold Builtin.«set.__new__» Builtin.Frozenset.newClass
 have sb:=sub_set_self
 obtain⟨hp,g,d,tk,os⟩:=s
 dsimp only
 wp_walk
 refine no (aq ?_)
 dsimp only
 simp only[newObj]
 exact aa (wpAny_alloc (aq (aq h)))
set_option maxHeartbeats 8000000 in
theorem mJ{T:String}{V0:Obj}{fp:Addr->List Addr}{n:Nat}{P:Nat->Value->Prop}{St:Addr->Nat->Heap->Prop}{val:Nat->Str}{Q:Value->Shared->Prop}(hT:Shared.TypeIs { s with heap:=s.heap.push (dQ w) } v T)
  (n1:isSubtype (.type T) (.type "set")=pure false) (n2:isSubtype (.type T) (.type "frozenset")=pure false) (n3:(Value.type T==Value.type "dict")=false)
  (jD:∀(A:Around) (E:Value->Shared->Prop) (Q:Value->Shared->Prop),Q (.ref #[11]) { s with heap:=(s.heap.push (dQ w)).push V0 }->wpAny #[5] A (pyIter v) Q E { s with heap:=s.heap.push (dQ w) })
  (W:∀(A:Around) (it:Addr),A.handled=none->it=s.heap.objs.size+1->Walks prog w A it (fp it) [it] n P (St it)) (Va:s.heap.objs.size∉fp #[11]) (st:St #[11] 0 ((s.heap.push (dQ w)).push V0)) (Bk:∀i v,P i v->∃t,v=.str (val i) t)
  (hh:A.handled=none) (hb:n+1<scanBound)
  (q:∀g tk,Mx prog w val g s.heap.objs.size n->(∀b o,s.heap.get? b=some o->g.get? b=some o)->Q (.ref s.heap.objs.size) { s with heap:=g,toks:=tk }) :
  wpAny #[5] A (call (.type "set") [v]) Q E s:=by
 obtain⟨c,tl,hmro⟩:=PySem.F.called_set.mro
 have hmade:=PySem.F.called_set.made
 have hsub:=PySem.F.called_set.sub
 refine qV (codeAny_of_tree ?_)
 show wpAny _ _ (callAny (.type "set") _) _ _ _
 refine aq ⟨Code.quiet_builtin _ #[13],gO PySem.F.entry_type_call ?_⟩
 rw[Around.under_plain (weight_type_call_type "set" [v] []) rfl]
 have h1:=PySem.F.called_set.notType
 have h2:=PySem.F.called_set.canCreate
 have hct:=PySem.F.typeCall_set_1 v
 repeat(any_goals (first|assumption|wp_step))
 refine im (zV v (E:=E) (Q₁:=fun obj s₁=>obj=.ref s.heap.objs.size/\s₁={ s with heap:=s.heap.push (dQ w) }) ⟨rfl,rfl⟩) fun r s₁ hr=>?_
 cases r with
 |error e=>exact hr
 |ok fl=>
  cases fl with
  |ret obj=>
   obtain⟨rfl,rfl⟩:=hr
   have gS:(s.heap.push (dQ w)).get? s.heap.objs.size=some (dQ w):=ar _ rfl
   have tS:Shared.TypeIs { s with heap:=s.heap.push (dQ w) } (.ref s.heap.objs.size) "set":=⟨_,gS,rfl⟩
   have hli:=PySem.F.called_set.init.lookup
   have hbi:=PySem.F.called_set.init.bind (.ref s.heap.objs.size)
   repeat(any_goals (first|assumption|wp_step))
   refine im (codeAny_call_builtin (R:=wants (fun r s₂=>r=.none/\∃g tk,s₂={ s with heap:=g,toks:=tk }/\Mx prog w val g s.heap.objs.size n/\(∀b o,s.heap.get? b=some o->g.get? b=some o)) E) PySem.F.called_set.init.plain PySem.F.entry_set_init (check_set_init_1 tS ?_)) fun r₂ s₂ hr₂=>?_
   ·unfold Builtin.«set.__init__» noKeywords Builtin.Frozenset.updateFrom
    generalize hPI:pyIter=PI
    wp_walk
    subst hPI
    refine jD _ _ _ (aa (wpAny_runValue ?_))
    have g0:((s.heap.push (dQ w)).push V0).get? s.heap.objs.size=some (dQ w):=al _ gS
    have m0:Mx prog w val ((s.heap.push (dQ w)).push V0) s.heap.objs.size 0:=⟨[],⟨_,#[],0,_,g0,⟨rfl,rfl,rfl⟩,rfl,fun e he=>by simp at he,by simp,by unfold scanBound;decide,rfl,?_⟩,List.nodup_nil,fun x=>by simp,ax _⟩
    ·refine GA (W _ _ (by simpa using hh) rfl) s.heap.objs.size Va val Bk hb (n-0) 0 _ rfl (cM _) st m0 fun g tk hM kp=>?_
     refine aq (aq ⟨rfl,g,tk,rfl,hM,fun b o e=>kp b o (a8 (aD e)) (fun hbm=>?_) (al _ (al _ e))⟩)
     rw[bv]at hbm
     exact absurd (aD e) (by rw[hbm];exact je.mpr (d9 _))
    ·refine⟨?_,.inl rfl⟩
     show um w=true\/(!um w)=true
     cases um w<;>simp
   ·cases r₂ with
    |error e=>exact hr₂
    |ok fl₂=>
     cases fl₂ with
     |ret r=>
      obtain⟨rfl,g,tk,rfl,hM,kp⟩:=hr₂
      repeat(any_goals (first|assumption|wp_step))
      exact q g tk hM kp
     |_=>exact hr₂.elim
  |_=>exact hr.elim
end
theorem qF:∀{l:List α} {i:Nat} (h:i<l.length),(l[i]::l.eraseIdx i).Perm l
 |x::r,0,_=>h9 _
 |x::r,i+1,h=>(List.Perm.swap x (r[i]'(by simpa using h)) (r.eraseIdx i)).trans ((qF (l:=r) (i:=i) (by simpa using h)).cons x)
section
theorem wN{XX:Source}{Q:Nat->Shared->Prop}(hn:n≠0)(h:∀i,i<n->∀d,Q i { s with drawn:=d }):wpAny M A (choose XX n) Q E s:=fun _ _ _=>⟨hn,h _ (Nat.mod_lt _ (Nat.pos_of_ne_zero hn)) _⟩
theorem zW:∀(n:Nat) (xs:List α) (s:Shared) (Q:List α->Shared->Prop),xs.length=n->(∀ys,ys.Perm xs->∀d,Q ys { s with drawn:=d })->wpAny M A (drawOrder n xs) Q E s
 |0,xs,s,Q,hl,h=>by
  have e:xs=[]:=gr hl
  subst e
  unfold drawOrder
  exact aq (h [] (h9 _) s.drawn)
 |n+1,[],s,Q,hl,h=>by simp at hl
 |n+1,x::r,s,Q,hl,h=>by
  unfold drawOrder
  refine aa (wN #[9] fun i hi d=>?_)
  have e:(x::r)[i]?=some (x::r)[i]:=ae hi
  rw[e]
  dsimp only
  refine aa (zW n ((x::r).eraseIdx i) _ _ (by rw[List.length_eraseIdx,au hi];simp at hl ⊢;omega) fun ys hp d'=>aq (h _ ?_ d'))
  exact(List.Perm.cons _ hp).trans (qF hi)
theorem C6(next:Nat->Nat):∀(Mp k:Nat) (Bi:List α) (out:Array α),Bi.length=Mp->(pickOrder.go next Mp k Bi out).toList.Perm (out.toList++Bi)
 |0,k,Bi,out,h=>by
  have e:Bi=[]:=gr h
  subst e
  unfold pickOrder.go
  simp
 |Mp+1,k,Bi,out,h=>by
  have hlt:next k%Bi.length<Bi.length:=Nat.mod_lt _ #[0]
  unfold pickOrder.go
  rw[ae hlt]
  dsimp only
  refine(C6 next Mp (k+1) _ _ (by rw[List.length_eraseIdx,au hlt];omega)).trans ?_
  rw[Array.toList_push,aY]
  exact oU _ (qF hlt)
theorem EV(next:Nat->Nat)(xs:Array α):(pickOrder next xs).toList.Perm xs.toList:=by
 unfold pickOrder
 have:=C6 next xs.size 0 xs.toList #[] #[9]
 simpa using this
end
noncomputable abbrev qc(f:Value)(i:Int)(S:Addr)(n ep:Nat):Obj:={ cls:=.type "set_iterator",dict:=none,data:=.fields #[f,rawInt i,.ref S,rawInt n,rawInt ep],slots:=#[] }
section
variable{w:World}
theorem ve{Q:Fin->Shared->Prop}(hh:A.handled=none)(q:∀g e,(∀b o,s.heap.get? b=some o->g.get? b=some o)->(∃o,g.get? e=some o/\o.cls=.type "StopIteration")->E (.ref e) { s with heap:=g }) :
  wpAny #[5] A (do let x <- newExc (.type "StopIteration") [];raiseNew x) Q E s:=by
 refine aa ?_
 simp only[newExc,newTuple]
 refine aa (bO (aa (m:=firstArgMember _ _) (fW (a:=Value.none) (by first|rfl|(simp only[firstArgMember];rfl)) (bO ?_ (by size_fits)))) (by size_fits))
 simp only[raiseNew]
 refine aa (qx ?_)
 rw[hh]
 exact aa (aq (wpAny_throw (q _ _ (fun b o e=>al _ (al _ e)) ⟨_,ar _ rfl,rfl⟩)))
structure jR(w:World)(h:Heap)(S:Addr)(es:Array (Int×Value))(ep:Nat)(t:SetTable):Prop where
 ex:∃o,h.get? S=some o/\o.ExactSet/\o.data=.set es ep t
 fits:t.fits es.size=true
theorem jR.keep{S:Addr}{es:Array (Int×Value)}{t:SetTable}(z:jR w h S es ep t)(k:∀o,h.get? S=some o->h'.get? S=some o):jR w h' S es ep t:=⟨let ⟨o,ho,r⟩:=z.ex;⟨o,k o ho,r⟩,z.fits⟩
theorem EW{S p:Addr}{k:Nat}{es:Array (Int×Value)}{t:SetTable}{pv:Array Value}{pn:Nat}{x:Int×Value}{Q:Option Value->Shared->Prop}(jD:s.heap.get? it=some (qc (.ref p) i S n ep))(hS:jR w s.heap S es ep t)(hn:es.size=n)
  (hp:∃o,s.heap.get? p=some o/\o.cls=.type "tuple"/\o.data=.seq pv pn) (hk:pv[i]?=some (rawInt k)) (hx:es[k]?=some x)
  (q:∀g,g.get? it=some (qc (.ref p) ((i:Int)+1) S n ep)->Heap.SameBut it s.heap g->Q (some x.2) { s with heap:=g }):wpAny #[5] A (pyNext (.ref it)) Q E s:=by
 obtain⟨o,ho,zv,hd⟩:=hS.ex
 obtain⟨op,hop,hcp,hdp⟩:=hp
 have T:Shared.TypeIs s (.ref it) "set_iterator":=⟨_,jD,rfl⟩
 unfold pyNext
 refine aa (dP (bn (name:=Str.ofString "__next__") T eK (br eK T mf ?_ (mh _))))
 show wpAny _ _ (fieldsOf (.ref it) >>= _) _ _ s
 refine aa (l6 jD rfl ?_)
 dsimp only
 refine aa (gc ho hd hS.fits ?_)
 rw[ay (by rw[hn];simp)]
 refine aa (dR hop hdp ?_)
 simp only[aJ,hk]
 unfold setNextDrawn
 refine aa (aa (fX ho hd hS.fits ?_))
 dsimp only
 rw[ay #[9],aJ,hx]
 refine aq (aa (cC jD #[9] fun g e1 e2=>aq ⟨_,rfl,aq (q g (by simpa using e1) e2)⟩))
theorem wO{S p:Addr}{es:Array (Int×Value)}{t:SetTable}{pv:Array Value}{pn:Nat}{Q:Option Value->Shared->Prop}(hh:A.handled=none)(jD:s.heap.get? it=some (qc (.ref p) i S n ep))(hS:jR w s.heap S es ep t)(hn:es.size=n)
  (hp:∃o,s.heap.get? p=some o/\o.cls=.type "tuple"/\o.data=.seq pv pn) (hk:pv[i]?=none)
  (q:∀g,(∀b o,b≠it->s.heap.get? b=some o->g.get? b=some o)->Q none { s with heap:=g }):wpAny #[5] A (pyNext (.ref it)) Q E s:=by
 obtain⟨o,ho,zv,hd⟩:=hS.ex
 obtain⟨op,hop,hcp,hdp⟩:=hp
 have T:Shared.TypeIs s (.ref it) "set_iterator":=⟨_,jD,rfl⟩
 unfold pyNext
 refine aa (dP (bn (name:=Str.ofString "__next__") T eK (br eK T mf ?_ (mh _))))
 show wpAny _ _ (fieldsOf (.ref it) >>= _) _ _ s
 refine aa (l6 jD rfl ?_)
 dsimp only
 refine aa (gc ho hd hS.fits ?_)
 rw[ay (by rw[hn];simp)]
 refine aa (dR hop hdp ?_)
 simp only[aJ,hk]
 refine aa (cC jD #[9] fun g e1 e2=>aa (cC e1 #[9] fun g2 e3 e4=>ve (s:={ s with heap:=g2 }) (show A.in1.handled=none from hh) fun g3 e kp hx=>?_))
 obtain⟨ox,hox,hcx⟩:=hx
 refine aa (eF (T:="StopIteration") (b:=true) ⟨ox,hox,hcx⟩ hX (aq (q g3 fun b o hb e=>kp b o ?_)))
 exact e4.extBut b o hb (e2.extBut b o hb e)
theorem GB{S:Addr}{sl sl':Nat}{es:Array (Int×Value)}{t:SetTable}{x:Value}{Q:Option Value->Shared->Prop}(jD:s.heap.get? it=some (qc (rawInt sl) i S n ep))(hS:jR w s.heap S es ep t)(hn:es.size=n)
  (hx:∀(Q':Option (Value×Nat)->Shared->Prop) (E':Value->Shared->Prop),Q' (some (x,sl')) s->wpAny #[5] A.in1 (setNext S sl i ep) Q' E' s)
  (q:∀g,g.get? it=some (qc (rawInt sl') ((i:Int)+1) S n ep)->Heap.SameBut it s.heap g->Q (some x) { s with heap:=g }):wpAny #[5] A (pyNext (.ref it)) Q E s:=by
 obtain⟨o,ho,zv,hd⟩:=hS.ex
 have T:Shared.TypeIs s (.ref it) "set_iterator":=⟨_,jD,rfl⟩
 unfold pyNext
 refine aa (dP (bn (name:=Str.ofString "__next__") T eK (br eK T mf ?_ (mh _))))
 show wpAny _ _ (fieldsOf (.ref it) >>= _) _ _ s
 refine aa (l6 jD rfl ?_)
 dsimp only
 refine aa (gc ho hd hS.fits ?_)
 rw[ay (by rw[hn];simp)]
 show wpAny _ _ (setNext S (sl:Int).toNat (i:Int).toNat (ep:Int).toNat >>= _) _ _ s
 simp only[aJ]
 refine aa (hx _ _ ?_)
 dsimp only
 refine aa (cC jD #[9] fun g e1 e2=>aa (cC e1 #[9] fun g2 e3 e4=>aq ⟨_,rfl,aq (q g2 (by simpa using e3) (e2.trans e4))⟩))
theorem yi{S:Addr}{sl:Nat}{es:Array (Int×Value)}{t:SetTable}{Q:Option Value->Shared->Prop}(hh:A.handled=none)(jD:s.heap.get? it=some (qc (rawInt sl) i S n ep))(hS:jR w s.heap S es ep t)(hn:es.size=n)
  (hx:∀(Q':Option (Value×Nat)->Shared->Prop) (E':Value->Shared->Prop),Q' none s->wpAny #[5] A.in1 (setNext S sl i ep) Q' E' s)
  (q:∀g,(∀b o,b≠it->s.heap.get? b=some o->g.get? b=some o)->Q none { s with heap:=g }):wpAny #[5] A (pyNext (.ref it)) Q E s:=by
 obtain⟨o,ho,zv,hd⟩:=hS.ex
 have T:Shared.TypeIs s (.ref it) "set_iterator":=⟨_,jD,rfl⟩
 unfold pyNext
 refine aa (dP (bn (name:=Str.ofString "__next__") T eK (br eK T mf ?_ (mh _))))
 show wpAny _ _ (fieldsOf (.ref it) >>= _) _ _ s
 refine aa (l6 jD rfl ?_)
 dsimp only
 refine aa (gc ho hd hS.fits ?_)
 rw[ay (by rw[hn];simp)]
 show wpAny _ _ (setNext S (sl:Int).toNat (i:Int).toNat (ep:Int).toNat >>= _) _ _ s
 simp only[aJ]
 refine aa (hx _ _ ?_)
 dsimp only
 refine aa (cC jD #[9] fun g e1 e2=>ve (s:={ s with heap:=g }) (show A.in1.handled=none from hh) fun g3 e kp hx=>?_)
 obtain⟨ox,hox,hcx⟩:=hx
 exact aa (eF (T:="StopIteration") (b:=true) ⟨ox,hox,hcx⟩ hX (aq (q g3 fun b o hb e=>kp b o (e2.extBut b o hb e))))
end
theorem tX:Slot "set_iterator" "__iter__" "set_iterator.__iter__":=.of (owner:="set_iterator") (n:="__iter__") (by rw[gN,eh];kernel_rfl) #[13] #[13] #[13] (by first|exact .inl #[13]|exact .inr #[13]) (by rw[cS];kernel_rfl)
theorem zX(a:Value):argsOk "set_iterator.__iter__" ⟨[a],[]⟩:=by unfold argsOk;kernel_rfl
theorem zZ:entryFor table "set_iterator.__iter__"=some Builtin.«dict_keyiterator.__iter__»:=l5 (id':="dict_keyiterator.__iter__") (by kernel_rfl) (by first|rfl|decide +kernel|(unfold String.splitOn;simp +decide [String.splitOnAux])) #[13] (by kernel_rfl)
section
variable{w:World}
theorem z_{S:Addr}{f:Value}{i:Int}(jD:s.heap.get? it=some (qc f i S n ep))(q:Q (.ref it) s):wpAny #[5] A (pyIter (.ref it)) Q E s:=by
 have T:Shared.TypeIs s (.ref it) "set_iterator":=⟨_,jD,rfl⟩
 exact jL T tX (br tX T zZ (aq ⟨_,rfl,"set_iterator",_,T,eK.lookup,q⟩) (zX _))
theorem BU(hh:A.handled=none){S p:Addr}{ep:Nat}{es:Array (Int×Value)}{t:SetTable}{pl:List Nat}(qY:pl.Perm (List.range n))(hn:es.size=n)(h1:it≠S)(h2:it≠p) :
  Walks prog w A it [it,p,S] [it] n (fun i v=>∃k x,pl[i]?=some k/\es[k]?=some x/\v=x.2) (fun i h=>i<=n/\h.get? it=some (qc (.ref p) i S n ep)/\(∃o,h.get? p=some o/\o.cls=.type "tuple"/\∃e,o.data=.seq (pl.map fun k:Nat=>rawInt k).toArray e)/\jR w h S es ep t) where
 sub:=fun b hb=>by simp at hb;simp[hb]
 frame:=fun i h h' st k=>⟨st.1,k it #[9] _ st.2.1,(let ⟨o,ho,r⟩:=st.2.2.1;⟨o,k p #[9] o ho,r⟩),st.2.2.2.keep fun o ho=>k S #[9] o ho⟩
 item:=fun i s Q E hi st q=>by
  obtain⟨_,jD,⟨op,hop,hcp,e,hdp⟩,hS⟩:=st
  have hl:pl.length=n:=by have:=qY.length_eq;simpa using this
  have hk:pl[i]?=some pl[i]:=ae #[0]
  have hkn:pl[i]<es.size:=by rw[hn];exact aU.mp (qY.mem_iff.mp (dJ #[0]))
  refine EW jD hS hn ⟨op,hop,hcp,hdp⟩ (k:=pl[i]) (x:=es[pl[i]]) (by simp[hk]) (by simp[hkn]) fun g a b=>q _ g s.toks ⟨pl[i],es[pl[i]],hk,by simp[hkn],rfl⟩ ⟨hi,?_,⟨op,b.extBut p op (Ne.symm h2) hop,hcp,e,hdp⟩,hS.keep fun o ho=>b.extBut S o (Ne.symm h1) ho⟩ fun c o hc ho=>b.extBut c o (fun z=>hc (by simp[z])) ho
  rw[a];rfl
 done:=fun s Q E st q=>by
  obtain⟨_,jD,⟨op,hop,hcp,e,hdp⟩,hS⟩:=st
  have hl:pl.length=n:=by have:=qY.length_eq;simpa using this
  exact wO hh jD hS hn ⟨op,hop,hcp,hdp⟩ (by simp[hl]) fun g kp=>q g s.toks fun c o hc ho=>kp c o (fun z=>hc (by simp[z])) ho
 self:=fun i s Q E st q=>z_ st.2.1 q
theorem EX(hh:A.handled=none){S:Addr}{ep:Nat}{es:Array (Int×Value)}{t:SetTable}{vs:List Value}{sl:Nat->Nat}(hv:vs.length=n)(hn:es.size=n)(h1:it≠S)
  (hx:∀(s:Shared) (i:Nat),jR w s.heap S es ep t->i<=n->∀(A:Around) (Q':Option (Value×Nat)->Shared->Prop) (E':Value->Shared->Prop),Q' ((vs[i]?).map fun v=>(v,sl (i+1))) s->wpAny #[5] A (setNext S (sl i) i ep) Q' E' s) :
  Walks prog w A it [it,S] [it] n (fun i v=>vs[i]?=some v) (fun i h=>i<=n/\h.get? it=some (qc (rawInt (sl i)) i S n ep)/\jR w h S es ep t) where
 sub:=fun b hb=>by simp at hb;simp[hb]
 frame:=fun i h h' st k=>⟨st.1,k it #[9] _ st.2.1,st.2.2.keep fun o ho=>k S #[9] o ho⟩
 item:=fun i s Q E hi st q=>by
  obtain⟨_,jD,hS⟩:=st
  have hk:vs[i]?=some vs[i]:=ae #[0]
  refine GB (x:=vs[i]) (sl':=sl (i+1)) jD hS hn (fun Q' E' y=>hx s i hS (gC hi) _ Q' E' (by rw[hk];exact y)) fun g a b=>q _ g s.toks hk ⟨hi,?_,hS.keep fun o ho=>b.extBut S o (Ne.symm h1) ho⟩ fun c o hc ho=>b.extBut c o (fun z=>hc (by simp[z])) ho
  rw[a];rfl
 done:=fun s Q E st q=>by
  obtain⟨_,jD,hS⟩:=st
  have hk:vs[n]?=none:=az #[0]
  exact yi hh jD hS hn (fun Q' E' y=>hx s n hS (ax _) _ Q' E' (by rw[hk];exact y)) fun g kp=>q g s.toks fun c o hc ho=>kp c o (fun z=>hc (by simp[z])) ho
 self:=fun i s Q E st q=>z_ st.2.1 q
end
section
variable{w:World}
theorem pR{Q:Bool->Shared->Prop}(q:Q (um w) s):wpAny #[5] A setsByText Q E s:=by
 unfold setsByText
 exact aa (no (aq q))
theorem EY{S:Addr}{es:Array (Int×Value)}{t:SetTable}{Q:Option (Value×Nat)->Shared->Prop}(hb:um w=true)(hS:jR w s.heap S es ep t)
  (q:Q ((((pickOrder (w.params.setOrder S ep) es).toList.map (·.2))[i]?).map fun v=>(v,0)) s):wpAny #[5] A (setNext S 0 i ep) Q E s:=by
 obtain⟨o,ho,zv,hd⟩:=hS.ex
 unfold setNext
 refine aa (fX ho hd hS.fits ?_)
 dsimp only
 refine aa (pR ?_)
 rw[hb,au rfl,ay #[9]]
 unfold setWalk
 refine aa (aa (fX ho hd hS.fits ?_))
 dsimp only
 refine aa (pR ?_)
 rw[hb,au rfl]
 refine aa (no (aq (aq ?_)))
 have e:((pickOrder (w.params.setOrder S ep) es)[i]?).map (fun e=>(e.2,0))=(((pickOrder (w.params.setOrder S ep) es).toList.map (·.2))[i]?).map fun v=>(v,0):=by
  rw[ag,fN,Option.map_map];rfl
 show Q (((pickOrder (w.params.setOrder S ep) es)[i]?).map fun e=>(e.2,0)) s
 rw[e];exact q
theorem xA(p:Nat):SetTable.below #[p] 0=0/\SetTable.below #[p] (p+1)=1:=by
 unfold SetTable.below
 constructor
 ·simp[SetTable.below.go]
 ·simp[SetTable.below.go]
theorem GC{S:Addr}{es:Array (Int×Value)}{t:SetTable}{Q:Option (Value×Nat)->Shared->Prop}(hb:um w=false)(hS:jR w s.heap S es ep t)(R4:t.led=true)(h1:es.size<=1)(hi:i<=es.size)
  (q:Q (((es.toList.map (·.2))[i]?).map fun v=>(v,if i+1=0 then 0 else t.place.getD 0 0+1)) s):wpAny #[5] A (setNext S (if i=0 then 0 else t.place.getD 0 0+1) i ep) Q E s:=by
 obtain⟨o,ho,zv,hd⟩:=hS.ex
 have hf:=hS.fits
 have hps:t.place.size=es.size:=by
  unfold SetTable.fits at hf
  simp only[b_,dz]at hf
  exact hf.1
 unfold setNext
 refine aa (fX ho hd hS.fits ?_)
 dsimp only
 refine aa (pR ?_)
 rw[hb,ay cP]
 show wpAny _ _ (if (!t.plain&&decide (es.size>1))=true then _ else _) _ _ _
 rw[ay (by simp;omega)]
 show wpAny _ _ ((if (!t.led&&!es.isEmpty)=true then _ else pure ()) >>= _) _ _ _
 rw[ay (by simp[R4])]
 refine aa (aq (aq ?_))
 by_cases hz:es.size=0
 ·have e1:es=#[]:=Array.eq_empty_of_size_eq_zero hz
  subst e1
  simpa using q
 ·have hs1:es.size=1:=by omega
  obtain⟨x,rfl⟩:∃x,es=#[x]:=by
   obtain⟨l⟩:=es
   obtain⟨x,e⟩:=jM.mp hs1
   exact⟨x,iQ Array.mk e⟩
  obtain⟨p,hp⟩:∃p,t.place=#[p]:=by
   generalize t.place=pl at hps
   obtain⟨l⟩:=pl
   obtain⟨x,e⟩:=jM.mp hps
   exact⟨x,iQ Array.mk e⟩
  rw[hp]at q ⊢
  rcases(show i=0\/i=1 by simp at hi;omega)with rfl|rfl
  ·simp[xA]at q ⊢;exact q
  ·simp[xA]at q ⊢;exact q
end
theorem yj[Inhabited β](f:Nat->β)(xs:List α)(g:α->β)(n:Nat)(hn:xs.length=n)(hf:∀i x,xs[i]?=some x->f i=g x):(List.range n).map f=xs.map g:=by
 apply bM
 intro i
 rw[ag,ag]
 by_cases h:i<n
 ·rw[aF h,ae #[0]]
  exact iQ some (hf i _ (ae #[0]))
 ·rw[az (by simp;omega),az #[0]];rfl
section
variable{w:World}
theorem GD{S:Addr}{es:Array (Int×Value)}{t:SetTable}(hS:jR w s.heap S es ep t)(Kj:C5 w es.size t)(hsz:es.size<=sizeLine)
  (q:∀(g:Heap) (d:Drawn) (it:Addr) (fp:List Addr) (P:Nat->Value->Prop) (St:Nat->Heap->Prop),(∀A:Around,A.handled=none->Walks prog w A it fp [it] es.size P St)->St 0 g->s.heap.objs.size<=it->(∀b∈fp,b=S\/s.heap.objs.size<=b)->(∀b∈fp,b<g.objs.size)->(∀b o,s.heap.get? b=some o->g.get? b=some o) ->
   (∀fZ,ItemsOf P fZ es.size->fZ.toList.Perm (es.toList.map (·.2)))->Q (.ref it) { s with heap:=g,drawn:=d }):wpAny #[5] A (pyIter (.ref S)) Q E s:=by
 obtain⟨o,ho,zv,hd⟩:=hS.ex
 have T:Shared.TypeIs s (.ref S) "set":=⟨o,ho,zv.1⟩
 have hSlt:=aD ho
 refine jL T PySem.F.slot_set_iter (br PySem.F.slot_set_iter T zQ ?_ (PySem.F.args_set_iter_1 _))
 show wpAny _ _ (Builtin.Frozenset.sizeOf S >>= _) _ _ s
 unfold Builtin.Frozenset.sizeOf
 refine aa (aa (gc ho hd hS.fits (aq ?_)))
 unfold setDrawn
 refine aa (aa (fX ho hd hS.fits ?_))
 dsimp only
 refine aa (pR (aq ?_))
 by_cases hdr:(!um w&&(!t.plain&&decide (es.size>1)))=true
 ·show wpAny _ _ (if (!um w&&(!t.plain&&decide (es.size>1)))=true then _ else _) _ _ _
  rw[au hdr]
  refine aa (zW es.size (List.range es.size) _ _ #[9] fun pl hp d=>?_)
  have hl:pl.length=es.size:=by have:=hp.length_eq;simpa using this
  refine aa (wpAny_newTuple ?_ (by rw[ak,hl];exact hsz))
  have hS1:jR w (s.heap.push { cls:=.type "tuple",data:=.seq (pl.map fun i:Nat=>rawInt i).toArray }) S es ep t:=hS.keep fun o e=>al _ e
  obtain⟨o1,ho1,_,hd1⟩:=hS1.ex
  refine aa (wpAny_setEpoch_of (s:={ s with heap:=s.heap.push { cls:=.type "tuple",data:=.seq (pl.map fun i:Nat=>rawInt i).toArray },drawn:=d }) ho1 hd1 hS.fits ?_)
  refine aa (bO (aq ⟨_,rfl,"set_iterator",_,⟨_,ar _ rfl,rfl⟩,eK.lookup,?_⟩))
  have z:(s.heap.push { cls:=.type "tuple",data:=.seq (pl.map fun i:Nat=>rawInt i).toArray }).objs.size=s.heap.objs.size+1:=bA ..
  refine q _ d _ [_,s.heap.objs.size,S] _ _ (fun A hA=>BU (p:=s.heap.objs.size) (t:=t) (ep:=ep) hA hp rfl ?_ ?_) ⟨cM _,ar _ rfl,⟨_,al _ (ar _ rfl),rfl,0,rfl⟩,hS1.keep fun o e=>al _ e⟩ ?_ (fun b hb=>?_) (fun b hb=>?_) (fun b o e=>al _ (al _ e)) fun fZ hacc=>?_
  ·rw[z];exact fU (c5 hSlt)
  ·rw[z];exact nn _
  ·rw[z];exact d9 _
  ·simp only[aM,iw,sI]at hb
   rcases hb with rfl|rfl|rfl
   ·rw[z];exact .inr (d9 _)
   ·exact .inr (ax _)
   ·exact .inl rfl
  ·simp only[aM,iw,sI]at hb
   have z2:∀o2,((s.heap.push { cls:=.type "tuple",data:=.seq (pl.map fun i:Nat=>rawInt i).toArray }).push o2).objs.size=s.heap.objs.size+2:=fun o2=>by rw[bA,z]
   rw[z2]
   rcases hb with rfl|rfl|rfl
   ·rw[z];exact cU _
   ·exact c5 (cU _)
   ·exact c5 (c5 hSlt)
  ·have e:fZ.toList=pl.map fun k=>(es.getD k (0,.none)).2:=by
    apply bM
    intro i
    rw[ag]
    by_cases hi:i<es.size
    ·have hia:i<fZ.size:=by rw[hacc.1];exact hi
     have ha:fZ[i]?=some (fZ[i]'hia):=iC hia
     obtain⟨k,x,h1,h2,h3⟩:=hacc.2 i _ ha
     rw[fN,ha,h1]
     have:es.getD k (0,.none)=x:=by rw[lE,h2];rfl
     rw[h3]
     show some x.2=some (es.getD k (0,.none)).2
     rw[this]
    ·rw[az (by rw[dX,hacc.1];omega),az #[0]];rfl
   rw[e]
   refine(hp.map _).trans (List.Perm.of_eq ?_)
   exact yj _ es.toList (·.2) es.size #[9] fun i x hx=>by
    have hx':es[i]?=some x:=by rw[<- fN];exact hx
    rw[lE,hx'];rfl
 ·show wpAny _ _ (if (!um w&&(!t.plain&&decide (es.size>1)))=true then _ else _) _ _ _
  rw[ay hdr]
  refine aa (aq (aa (wpAny_setEpoch_of ho hd hS.fits ?_)))
  refine aa (bO (aq ⟨_,rfl,"set_iterator",_,⟨_,ar _ rfl,rfl⟩,eK.lookup,?_⟩))
  have fin:∀(vs:List Value) (sl:Nat->Nat),sl 0=0->vs.Perm (es.toList.map (·.2))->(∀(s:Shared) (i:Nat),jR w s.heap S es ep t->i<=es.size->∀(A:Around) (Q':Option (Value×Nat)->Shared->Prop) (E':Value->Shared->Prop),Q' ((vs[i]?).map fun v=>(v,sl (i+1))) s->wpAny #[5] A (setNext S (sl i) i ep) Q' E' s) ->
    Q (.ref s.heap.objs.size) { s with heap:=s.heap.push (qc (rawInt 0) 0 S es.size ep) }:=fun vs sl h0 hp hx=>by
   have hl:vs.length=es.size:=by have:=hp.length_eq;simpa using this
   refine q _ s.drawn s.heap.objs.size [s.heap.objs.size,S] _ _ (fun A hA=>EX (t:=t) (ep:=ep) (vs:=vs) (sl:=sl) hA hl rfl (fU hSlt) hx) ⟨cM _,?_,hS.keep fun o e=>al _ e⟩ (ax _) (fun b hb=>?_) (fun b hb=>?_) (fun b o e=>al _ e) fun fZ hacc=>?_
   ·rw[h0];exact ar _ rfl
   ·simp only[aM,iw,sI]at hb
    rcases hb with rfl|rfl
    ·exact .inr (ax _)
    ·exact .inl rfl
   ·simp only[aM,iw,sI]at hb
    rw[bA]
    rcases hb with rfl|rfl
    ·exact cU _
    ·exact c5 hSlt
   ·have e:fZ.toList=vs:=by
     apply bM
     intro i
     by_cases hi:i<es.size
     ·have hia:i<fZ.size:=by rw[hacc.1];exact hi
      have ha:fZ[i]?=some (fZ[i]'hia):=iC hia
      rw[fN,ha,hacc.2 i _ ha]
     ·rw[az (by rw[dX,hacc.1];omega),az #[0]]
    rw[e];exact hp
  cases hb:um w with
  |true=>exact fin ((pickOrder (w.params.setOrder S ep) es).toList.map (·.2)) (fun _=>0) rfl ((EV _ _).map _) fun s i hS' hi A Q' E' y=>EY hb hS' y
  |false=>
   have h1:es.size<=1:=by
    rcases Kj.2 with z|z
    ·omega
    ·rw[hb,z]at hdr;simp at hdr;omega
   have R4:t.led=true:=Kj.1.resolve_left (by rw[hb];exact cP)
   exact fin (es.toList.map (·.2)) (fun i=>if i=0 then 0 else t.place.getD 0 0+1) rfl (h9 _) fun s i hS' hi A Q' E' y=>GC hb hS' R4 h1 hi y
end
section
variable{w:World}
theorem GE{S:Addr}{Q:Bool->Shared->Prop}(T:s.TypeIs (.ref S) "set")(q:Q false s):wpAny #[5] A (Builtin.List.listLengthHint (.ref S)) Q E s:=by
 unfold Builtin.List.listLengthHint
 refine aa (iW T PySem.F.slot_set_len.lookup ?_)
 generalize hid:("set.__len__":String)=id0
 wp_delta
 rw[show splitId id0=some ("set","__len__")from by subst hid;decide +kernel]
 subst hid
 refine aa (eF (T:="set") (b:=true) T (by rw[cS];kernel_rfl) ?_)
 refine oB (fun y=>absurd y #[1]) (fun _=>oB (fun _=>?_) (fun y=>absurd #[13] y))
 exact aa (lx T (aq q))
theorem Aa{S:Addr}{es:Array (Int×Value)}{t:SetTable}{Q:List Value->Shared->Prop}(hS:jR w s.heap S es ep t)(Kj:C5 w es.size t)(hsz:es.size<=sizeLine)(hh:A.handled=none)
  (q:∀(g:Heap) (d:Drawn) (tk:Nat) (vs:List Value),(∀b o,s.heap.get? b=some o->g.get? b=some o)->vs.Perm (es.toList.map (·.2))->Q vs { s with heap:=g,drawn:=d,toks:=tk }):wpAny #[5] A (collect (.ref S)) Q E s:=by
 obtain⟨o,ho,zv,hd⟩:=hS.ex
 have hSlt:=aD ho
 unfold collect
 refine aa (wpAny_runValue (gO entry_proto_collect' ?_))
 rw[fY PySem.F.plain_proto_collect _]
 show wpAny _ A.in1 (newList [] >>= fun l=>again (.builtin "list.__iadd__" ⟨[l,.ref S],[]⟩)) _ _ s
 refine aa (bO (aq ⟨kj PySem.F.plain_list_iadd _,gO entry_list_iadd' ?_⟩))
 rw[fY PySem.F.plain_list_iadd _]
 generalize hL:s.heap.objs.size=L
 have gL:(s.heap.push { cls:=.type "list",data:=.seq ([]:List Value).toArray }).get? L=some { cls:=.type "list",data:=.seq #[] }:=by rw[<- hL];exact ar _ rfl
 have hS1:jR w (s.heap.push { cls:=.type "list",data:=.seq ([]:List Value).toArray }) S es ep t:=hS.keep fun o e=>al _ e
 have z1:(s.heap.push { cls:=.type "list",data:=.seq ([]:List Value).toArray }).objs.size=L+1:=by rw[bA,hL]
 have kp1:∀b o,s.heap.get? b=some o->(s.heap.push { cls:=.type "list",data:=.seq ([]:List Value).toArray }).get? b=some o:=fun b o e=>al _ e
 have bL:∀b o,s.heap.get? b=some o->b≠L:=fun b o e=>by rw[<- hL];exact a8 (aD e)
 generalize s.heap.push { cls:=.type "list",data:=.seq ([]:List Value).toArray }=h1 at gL hS1 z1 kp1 ⊢
 have wZ:L≠S:=by rw[<- hL];exact fU hSlt
 obtain⟨o1,ho1,hex1,hd1⟩:=hS1.ex
 have T:Shared.TypeIs { s with heap:=h1 } (.ref S) "set":=⟨o1,ho1,hex1.1⟩
 show wpAny _ A.in1 (Builtin.List.listExtendWith (.ref L) (.ref S) (.ref L)) _ _ _
 unfold Builtin.List.listExtendWith
 refine aa (lx (T:="set") T ?_)
 have e1:Builtin.List.listSameRef (.ref L) (.ref S)=false:=by simp[Builtin.List.listSameRef,wZ]
 have e2:(Value.type "set" == Value.type "list")=false:=by decide
 have e3:(Value.type "set" == Value.type "tuple")=false:=by decide
 simp only[e1,e2,e3,Bool.or_false,Bool.false_eq_true,sE]
 refine aa (GD (s:={ s with heap:=h1 }) hS1 Kj hsz fun g d it fp P St W st jD Va hfl kp2 hperm=>?_)
 have gL2:=kp2 _ _ gL
 have hLf:L∉fp:=fun hm=>by
  rcases Va L hm with y|y
  ·exact wZ y
  ·rw[show Shared.heap { s with heap:=h1 }=h1 from rfl,z1]at y;exact absurd y (Nat.not_le.mpr (cU _))
 obtain⟨o2,ho2,hex2,hd2⟩:=(hS1.keep fun o e=>kp2 S o e).ex
 refine aa (dO (GE (s:={ s with heap:=g,drawn:=d }) ⟨o2,ho2,hex2.1⟩ ?_))
 have itL:it≠L:=fun y=>by
  have:=jD
  rw[show Shared.heap { s with heap:=h1 }=h1 from rfl,z1,y]at this
  exact absurd this (Nat.not_le.mpr (cU _))
 have old:∀b o,s.heap.get? b=some o->b≠it:=fun b o e y=>by
  have h2:=aD (kp1 b o e)
  have h3:=jD
  rw[show Shared.heap { s with heap:=h1 }=h1 from rfl]at h3
  rw[y]at h2
  exact absurd h2 (je.mpr h3)
 have key:∀(g':Heap) (c tk:Nat),St 0 g'->(∀b o,b≠L->g.get? b=some o->g'.get? b=some o)->g'.get? L=some { cls:=.type "list",data:=.seq #[] c } ->
   codeAny #[5] A (.builtin "list.extend.loop" ⟨[.ref L,.ref it,.ref L],[]⟩) (wants (fun r s'=>wpAny #[5] A (match r with|.ref a=>(do match (<- load a).data with|.seq xs _=>pure xs.toList|_=>unsupported "internal:collect")|_=>unsupported "internal:collect") Q E s') E) { s with heap:=g',drawn:=d,toks:=tk }:=by
  intro g' c tk bz kp3 gL3
  refine codeAny_extend_loopS (W A.in1 (by simpa using hh)).toS hsz L hLf (.ref L) es.size 0 _ #[] c rfl (cM _) bz gL3 (ItemsOf.nil _) fun s' fZ c' hm gL4 hacc=>?_
  have ee:s'={ s with heap:=s'.heap,drawn:=d,toks:=s'.toks }:=by
   have h1:=hm.gens
   have h2:=hm.drawn
   have h3:=hm.os
   cases s'
   simp only at h1 h2 h3
   subst h1;subst h2;subst h3;rfl
  refine aa (wpAny_load gL4 (aq ?_))
  rw[ee]
  refine q s'.heap d s'.toks fZ.toList (fun b o e=>hm.heap b o (fun y=>?_) (kp3 b o (bL b o e) (kp2 b o (kp1 b o e)))) (hperm fZ hacc)
  rcases aM.mp y with y|y
  ·exact bL b o e y
  ·exact old b o e (bv.mp y)
 refine oB (fun _=>?_) (fun _=>aq ⟨kj PySem.F.plain_extend_loop _,key g 0 _ st (fun _ _ _ e=>e) gL2⟩)
 refine aa (jf (aa ?_))
 show wpAny _ _ (updateSeq L (·.push .none) >>= fun _=>updateSeq L (·.pop)) _ _ _
 refine aa (oE gL2 rfl ?_)
 have g5:=cF (Obj.mapSeq (·.push Value.none)) gL2 rfl
 refine oE (hz:=by seq_fits) g5 rfl ?_
 have g6:=cF (Obj.mapSeq (·.pop)) g5 rfl
 refine aq ⟨kj PySem.F.plain_extend_loop _,key _ _ _ ((W A hh).frame 0 _ _ st fun b hb o e=>?_) (fun b o hb e=>?_) g6⟩
 ·have hbL:b≠L:=fun y=>hLf (y▸hb)
  exact(cx _ _ (Ne.symm hbL)).trans ((cx _ _ (Ne.symm hbL)).trans e)
 ·exact(cx _ _ (Ne.symm hb)).trans ((cx _ _ (Ne.symm hb)).trans e)
end
section
variable{w:World}
theorem BV{S:Addr}(z:zS prog w s.heap S ks)(few:ks.length<64)(hh:A.handled=none)
  (q:∀(g0 g1:Heap) (d:Drawn) (tk:Nat) (out:Array Value) (ss:List Str) (e:Nat),(∀b o,s.heap.get? b=some o->g0.get? b=some o)->(∀b o,g0.get? b=some o->g1.get? b=some o)->g1.get? g0.objs.size=some (seqObj "list" out e) ->
   StrsAre out.toList ss->ss.Perm ks->sortedS ss=true->Q (.ref g0.objs.size) { s with heap:=g1,drawn:=d,toks:=tk }):wpAny #[5] A (call (.builtin "sorted") [.ref S]) Q E s:=by
 obtain⟨o,es,ep,t,ho,zv,hd,hel,hp,hb,hf,Kj⟩:=z
 have hS:jR w s.heap S es ep t:=⟨⟨o,ho,zv,hd⟩,hf⟩
 have dG:es.size=ks.length:=by have:=hp.length_eq;simpa using this
 apply me kind_sorted plain_sorted entry_sorted (args_sorted1 _)
 show wpAny _ _ (checkCount "sorted" 1 1 _ >>= _) _ _ _
 refine aa (aq (aa (Aa hS Kj (by rw[kH];omega) (by simpa using hh) fun g d tk vs kp pv=>?_)))
 have hv:∀v∈vs,∃x t,v=Value.str x t:=fun v hv=>by
  obtain⟨e,he,rfl⟩:=aO.mp (pv.mem_iff.mp hv)
  obtain⟨t,ht⟩:=zU hel e he
  exact⟨_,t,ht⟩
 have nA:=strsAre_map vs hv
 have hks:(vs.map strOf).Perm ks:=by
  refine(pv.map strOf).trans ?_
  rw[a9];exact hp
 have hvl:vs.length<64:=by have:=hks.length_eq;rw[ak]at this;omega
 refine aa (wpAny_newList ?_ (by rw[kH];omega))
 have oL:(g.push (seqObj "list" vs.toArray 0)).get? g.objs.size=some (seqObj "list" vs.toArray 0):=ar _ rfl
 refine aa (dO (br slot_list_sort ⟨_,oL,rfl⟩ entry_list_sort (list_sort_treeK strKind_oneLt oL nA.keysOf (fun a b r e=>keyKind_strs (by rw[<- e];exact nA)) hvl fun st a1 a2=>⟨_,rfl,?_⟩) (args_list_sort _)))
 obtain⟨ss,h1,h2,h3⟩:=sorted_out_str nA a1 a2
 obtain⟨e,he⟩:=sortedHeap_at (out:=(arrOf st).map (·.2)) oL
 refine aq ⟨_,rfl,q g _ d tk _ ss e kp (fun b o hb=>?_) he h1 (h2.trans hks) h3⟩
 rw[sortedHeap_old (a8 (aD hb)) (by rw[bA];exact c5 (aD hb))]
 exact al _ hb
noncomputable abbrev Tj(ty:String)(x:Str)(t:Tok):Obj:={ cls:=.type ty,data:=.fields #[.str x t,.int 0 0] }
theorem GF{t:Tok}(hh:A.handled=none)(hb:l.length+1<scanBound)
  (q:∀g tk,Mx prog w (fun j=>tx [l.getD j 0]) g s.heap.objs.size l.length->(∀b o,s.heap.get? b=some o->g.get? b=some o)->Q (.ref s.heap.objs.size) { s with heap:=g,toks:=tk }):wpAny #[5] A (call (.type "set") [.str (tx l) t]) Q E s:=by
 have z:(s.heap.push (dQ w)).objs.size=s.heap.objs.size+1:=bA ..
 have hn:(tx l).cps.size=l.length:=by simp[tx]
 have Bk:∀i v,SignAt (tx l) i v->∃t,v=Value.str (tx [l.getD i 0]) t:=by
  rintro i v ⟨c,u,hc,rfl⟩
  have:l[i]?=some c:=by simpa[tx]using hc
  exact⟨u,by rw[ao,this];rfl⟩
 have hT:Shared.TypeIs { s with heap:=s.heap.push (dQ w) } (.str (tx l) t) "str":=jb _ _ _
 rw[<- hn]at hb q
 cases ha:(tx l).cps.all (· < 128)
 ·refine mJ (T:="str") (fp:=fun it=>[it]) (P:=SignAt (tx l)) (St:=fun it i h=>h.IsStrIter it "str_iterator" (tx l) t i) hT (by rw[cS];kernel_rfl) (by rw[cS];kernel_rfl) #[1]
   (fun A E Q y=>wpAny_pyIter_wide ha (by show Q (.ref (s.heap.push (dQ w)).objs.size) _;rw[z];exact y)) (fun A it hA _=>Walks.strWide hA it (tx l) t) #[9] ⟨Tj "str_iterator" (tx l) t,?_,rfl,rfl⟩ Bk hh hb q
  rw[<- z];exact ar _ rfl
 ·refine mJ (T:="str") (fp:=fun it=>[it]) (P:=SignAt (tx l)) (St:=fun it i h=>h.IsStrIter it "str_ascii_iterator" (tx l) t i) hT (by rw[cS];kernel_rfl) (by rw[cS];kernel_rfl) #[1]
   (fun A E Q y=>wpAny_pyIter_ascii ha (by show Q (.ref (s.heap.push (dQ w)).objs.size) _;rw[z];exact y)) (fun A it hA _=>Walks.strAscii hA it (tx l) t) #[9] ⟨Tj "str_ascii_iterator" (tx l) t,?_,rfl,rfl⟩ Bk hh hb q
  rw[<- z];exact ar _ rfl
theorem Lc(hh:A.handled=none)(hb:l.length+1<scanBound)(ht:s.heap.IsTuple a bw.toArray)(hv:cG (g_ l) bw)
  (q:∀g tk,Mx prog w (fun j=>tx [l.getD j 0]) g s.heap.objs.size l.length->(∀b o,s.heap.get? b=some o->g.get? b=some o)->Q (.ref s.heap.objs.size) { s with heap:=g,toks:=tk }):wpAny #[5] A (call (.type "set") [.ref a]) Q E s:=by
 have z:(s.heap.push (dQ w)).objs.size=s.heap.objs.size+1:=bA ..
 have hn:bw.toArray.size=l.length:=by have:=hv.length;unfold g_ at this;simpa using this.symm
 have ha:a<s.heap.objs.size:=by obtain⟨o,ho,_⟩:=ht;exact aD ho
 have Sc:(s.heap.push (dQ w)).IsTuple a bw.toArray:=ht.at fun o e=>al _ e
 have Bk:∀i v,bw.toArray[i]?=some v->∃t,v=Value.str (tx [l.getD i 0]) t:=by
  intro i v hi
  have hi':bw[i]?=some v:=by simpa using hi
  have hlt:i<l.length:=by
   have:=(ac.mp hi').1
   rw[<- hn];simpa using this
  have hx:(g_ l)[i]?=some (.str (tx [l.getD i 0])):=by
   unfold g_
   rw[ag,ae hlt,ao,ae hlt];rfl
  obtain⟨u,hu,t,e⟩:=hv.get hx
  rw[hi']at hu
  exact⟨t,(aG hu).trans e⟩
 rw[<- hn]at hb q
 refine mJ (T:="tuple") (fp:=fun it=>[it,a]) (P:=fun i v=>bw.toArray[i]?=some v) (St:=fun it i h=>h.IsTupleIter it a i/\h.IsTuple a bw.toArray) Sc.typeIs (by rw[cS];kernel_rfl) (by rw[cS];kernel_rfl) #[1]
  (fun A E Q y=>gD Sc (by show Q (.ref (s.heap.push (dQ w)).objs.size) _;rw[z];exact y)) (fun A it hA e=>Walks.tuple hA it a (by rw[e];exact a8 (c5 ha)) bw.toArray) (by simp;exact fun e=>absurd ha (by rw[<- e];exact cr _)) ⟨⟨{ cls:=.type "tuple_iterator",data:=.fields #[.ref a,.int 0 0] },?_,rfl,rfl⟩,?_⟩ Bk hh hb q
 ·rw[<- z];exact ar _ rfl
 ·exact Sc.at fun o e=>al _ e
end
theorem Ld{ss:List Str}(hp:ss.Perm ks)(Vr:ks.Nodup)(hm:∀x,x∈ks↔∃j,j<l.length/\tx [l.getD j 0]=x)(hs:sortedS ss=true) :
  ∃m:List Nat,ss=m.map (fun c=>tx [c])/\m.Nodup/\m.Pairwise (· <= ·)/\∀c,c∈m↔c∈l:=by
 have all:∀z∈ss,tx [z.cps.toList.headD 0]=z:=fun z hz=>by
  obtain⟨j,_,e⟩:=(hm z).mp (hp.mem_iff.mp hz)
  subst e;rfl
 have em:ss=(ss.map fun z=>z.cps.toList.headD 0).map fun c=>tx [c]:=by
  rw[a9]
  conv=>lhs;rw[<- jo ss]
  exact bZ fun z hz=>(all z hz).symm
 refine⟨ss.map fun z=>z.cps.toList.headD 0,em,?_,?_,fun c=>?_⟩
 ·have nd:ss.Nodup:=hp.nodup_iff.mpr Vr
  rw[em]at nd
  exact List.Pairwise.of_map (fun c=>tx [c]) (fun a b h e=>h (by rw[e])) nd
 ·refine zP _ ?_
  rw[a9]
  rw[em]at hs
  exact hs
 ·constructor
  ·intro hc
   obtain⟨z,hz,rfl⟩:=aO.mp hc
   obtain⟨j,hj,e⟩:=(hm z).mp (hp.mem_iff.mp hz)
   subst e
   show l.getD j 0∈l
   rw[ao,ae hj]
   exact dJ hj
  ·intro hc
   obtain⟨j,hj,e⟩:=List.getElem_of_mem hc
   refine aO.mpr ⟨tx [c],hp.mem_iff.mpr ((hm _).mpr ⟨j,hj,?_⟩),rfl⟩
   rw[ao,ae hj,e];rfl
def Le(K:Frag)(H:Hp)(v:V)(l:List Nat):Prop:=v=.str (tx l)\/∃a,v=.ref a/\gp K H a (g_ l)
def GG(K:Frag)(te:TE):TE:=fun σ H Q=>te σ H fun v H1=>∃l,Le K H1 v l/\l.length<4000/\(∀m:List Nat,m.Nodup->(∀c∈m,c∈l)->m.length<64) /\
 ∀m:List Nat,m.Nodup->m.Pairwise (· <= ·)->(∀c,c∈m↔c∈l)->∀a H2,H1 a=none->H2=e_ H1 a (.lst (m.map fun c=>V.str (tx [c])))->Q (.ref a) H2
theorem bK.kept2{d':Drawn}(I:bK X ah σ H s)(k:∀b o,s.heap.get? b=some o->h'.get? b=some o):bK X ah σ H { s with heap:=h',drawn:=d',toks:=t' }:=
 I.step (g':=s.gens) (ch:=[]) (fun _ z=>nomatch z) (fun b o _ _ _ e _=>k b o e) (fun b o _ _ _ e _=>⟨o.slots,k b o e⟩) (fun _ _ _ _ n=>n) (fun b o _ e=>⟨o,k b o e⟩) (fun _ _ e=>e) (fun _ _ _ e=>e) (fun b ps e=>⟨#[],by rw[e];simp⟩)
  (fun m hm=>let ⟨o,es,ep,ho,r⟩:=hm;⟨o,es,ep,k _ o ho,r⟩) (I.hok.kept k) I.bare
theorem EZ{p1 p2 RU Kd:Pos}(h1:X.mg "sorted"=none)(h3:X.mg "set"=none)(he:QE X e te)(hc:X.calm=true:=by rfl)
  (W':Gl X "sorted":=by rfl) (W5:Gl X "set":=by rfl) (V4:starEach [e] X.env=(false,eval e X.env)::starEach [] X.env:=by rfl):QE X (.Call (.Name "sorted" p1) [.Call (.Name "set" p2) [e] [] Kd] [] RU) (GG X.K te):=⟨by
 intro ah s σ H Q I h
 refine fK (lL I W' h1 PyProof.Rows.boot_sorted (j9 ?_) #[1] #[1])
 show wpAny _ _ (spliced ((false,eval (.Call (.Name "set" p2) [e] [] Kd) X.env)::[])) _ _ s
 refine fJ (fK (lL I W5 h3 PyProof.Rows.boot_set (b6 ?_ V4 rfl) #[1] #[1]))
 rw[V4]
 show wpAny _ _ (spliced ((false,eval e X.env)::[])) _ _ s
 refine fJ (gG (he.h ah s σ H _ I h) fun u s1 ⟨v,H1,I1,r1,l,hl,hb,few,q⟩=>gY ?_)
 have hh:X.A.handled=none:=I1.ok.hd hc
 have hb':l.length+1<scanBound:=by unfold scanBound;omega
 have fin:∀g tk,Mx X.prog X.w (fun j=>tx [l.getD j 0]) g s1.heap.objs.size l.length->(∀b o,s1.heap.get? b=some o->g.get? b=some o) ->
   wpAny #[4] X.A (spliced []) (fun vs s₂=>wpAny #[4] X.A (call (.builtin "sorted") (.ref s1.heap.objs.size::vs)) (EP X ah σ Q) X.xe s₂) X.xe { s1 with heap:=g,toks:=tk }:=fun g tk hM kp=>by
  refine gY ?_
  obtain⟨ks,z,nd,mem,len⟩:=hM
  have wm:ks.length<64:=by
   obtain⟨m,em,mn,_,mm⟩:∃m:List Nat,ks=m.map (fun c=>tx [c])/\m.Nodup/\True/\∀c∈m,c∈l:=by
    have all:∀z∈ks,tx [z.cps.toList.headD 0]=z:=fun z hz=>by
     obtain⟨j,_,e⟩:=(mem z).mp hz
     subst e;rfl
    have em:ks=(ks.map fun z=>z.cps.toList.headD 0).map fun c=>tx [c]:=by
     rw[a9]
     conv=>lhs;rw[<- jo ks]
     exact bZ fun z hz=>(all z hz).symm
    refine⟨_,em,?_,trivial,fun c hc=>?_⟩
    ·have nd':=nd
     rw[em]at nd'
     exact List.Pairwise.of_map (fun c=>tx [c]) (fun a b h e=>h (by rw[e])) nd'
    ·obtain⟨z,hz,rfl⟩:=aO.mp hc
     obtain⟨j,hj,e⟩:=(mem z).mp hz
     subst e
     show l.getD j 0∈l
     rw[ao,ae hj]
     exact dJ hj
   rw[em,ak]
   exact few m mn mm
  refine BV z wm hh fun g0 g1 d tk' out ss ep k0 k1 gL nA hperm hsrt=>?_
  obtain⟨m,em,mn,mp,mm⟩:=Ld hperm nd mem hsrt
  have I2:bK X ah σ H1 { s1 with heap:=g0,drawn:=d,toks:=tk' }:=I1.kept2 fun b o e=>k0 b o (kp b o e)
  have wG:H1 g0.objs.size=none:=I2.hok.fresh (ax _)
  have hvals:cG (m.map fun c=>V.str (tx [c])) out.toList:=by
   have e:=nB nA
   rw[em,a9]at e
   exact e
  refine⟨.ref g0.objs.size,_,I2.laid (o:=.lst (m.map fun c=>V.str (tx [c]))) (t':=tk') k1 (ax _) ?_,rfl,q m mn mp mm _ _ wG rfl⟩
  refine⟨?_,out.toList,ep,hvals,gL⟩
  rw[ak]
  exact aR (gC (few m mn fun c hc=>(mm c).mp hc)) #[1]
 rcases hl with rfl|⟨a,rfl,hT⟩
 ·obtain⟨t,rfl⟩:=r1
  exact GF hh hb' fin
 ·cases r1
  obtain⟨bw,rv,ht,_⟩:=I1.tuple hT
  exact Lc hh hb' ht rv fin⟩
theorem ko:Slot "reversed" "__next__" "reversed.__next__":=.of (owner:="reversed") (n:="__next__") (by rw[gN,eh];kernel_rfl) #[13] #[13] #[13] (by first|exact .inl #[13]|exact .inr #[13]) (by rw[cS];kernel_rfl)
theorem tY:Slot "reversed" "__iter__" "reversed.__iter__":=.of (owner:="reversed") (n:="__iter__") (by rw[gN,eh];kernel_rfl) #[13] #[13] #[13] (by first|exact .inl #[13]|exact .inr #[13]) (by rw[cS];kernel_rfl)
theorem Ab:Slot "reversed" "__init__" "object.__init__":=.of (owner:="object") (n:="__init__") (by rw[gN,eh];kernel_rfl) #[13] #[13] #[13] (by first|exact .inl #[13]|exact .inr #[13]) (by rw[cS];kernel_rfl)
theorem tZ:entryFor table "reversed.__next__"=some Builtin.«reversed.__next__»:=entryFor_of_tree (by kernel_rfl)
theorem Ac:entryFor table "reversed.__iter__"=some Builtin.«dict_keyiterator.__iter__»:=l5 (id':="dict_keyiterator.__iter__") (by kernel_rfl) (by first|rfl|decide +kernel|(unfold String.splitOn;simp +decide [String.splitOnAux])) #[13] (by kernel_rfl)
theorem t4(a:Value):argsOk "reversed.__next__" ⟨[a],[]⟩:=by unfold argsOk;kernel_rfl
theorem Ae(a:Value):argsOk "reversed.__iter__" ⟨[a],[]⟩:=by unfold argsOk;kernel_rfl
theorem BW:TypeCalled "reversed" "reversed.__new__" "object.__init__":=⟨by decide +kernel,PySem.F.create_reversed,⟨_,_,PySem.F.mro_reversed⟩,PySem.F.made_reversed,PySem.F.plain_reversed_new,PySem.F.sub_reversed_self,Ab⟩
theorem BX:typeLookup (.type "str") "__reversed__"=pure none:=by rw[gN,eh];kernel_rfl
noncomputable abbrev My(x:Str)(t:Tok)(i:Int):Obj:={ cls:=.type "reversed",data:=.fields #[.str x t,rawInt i] }
def lP(h:Heap)(it:Addr)(x:Str)(t:Tok)(i:Int):Prop:=∃o,h.get? it=some o/\o.cls=.type "reversed"/\o.data=.fields #[.str x t,rawInt i]
theorem Lf(x:Str)(t:Tok)(hx:¬ (x.length:Int)≥2^63) :
  Meets (Builtin.«reversed.__new__» ⟨[.type "reversed",.str x t],[]⟩) (fun _ R s=>∀tk,R (.ok (.ret (.ref s.heap.objs.size))) { s with heap:=s.heap.push (My x t ((x.length:Int)-1)),toks:=tk }):=
 .of_wp fun prog w A R s h=>by
  unfold Builtin.«reversed.__new__»
  refine aa (fW (newClass_reversed _) ?_)
  try dsimp only
  refine aa (fW (a:=()) (by first|rfl|kernel_rfl) (aa (fW (a:=()) (by first|rfl|kernel_rfl) ?_)))
  try dsimp only
  refine aa (iW (jb _ _ _) BX ?_)
  show wpAny _ _ (_ >>= _) _ _ _
  refine aa ?_
  wp_delta
  refine aa (eF (T:="str") (b:=false) (jb _ _ _) (by rw[cS];kernel_rfl) ?_)
  try dsimp only
  try rw[ay cP]
  refine aa (iW (jb _ _ _) PySem.F.slot_str_getitem.lookup ?_)
  try dsimp only
  rw[au #[13]]
  refine aq ?_
  rw[ay #[1]]
  refine aa (len_str hx (aa (fW (a:=some (x.length:Int)) rfl ?_)))
  try dsimp only
  unfold Builtin.SmallTypes.newRecord
  try dsimp only
  exact aa (bO (aq ⟨_,rfl,h _⟩))
theorem lP.typeIs{x:Str}{t:Tok}{i:Int}(z:lP s.heap a x t i):s.TypeIs (.ref a) "reversed":=let ⟨o,ho,hc,_⟩:=z;⟨o,ho,hc⟩
theorem lP.keep{x:Str}{t:Tok}{i:Int}(z:lP h a x t i)(e:∀o,h.get? a=some o->h'.get? a=some o):lP h' a x t i:=let ⟨o,ho,r⟩:=z;⟨o,e _ ho,r⟩
section
variable{w:World}
theorem GH{x:Str}{t:Tok}(hx:¬ (x.length:Int)≥2^63)(q:∀tk,Q (.ref s.heap.objs.size) { s with heap:=s.heap.push (My x t ((x.length:Int)-1)),toks:=tk }) :
  wpAny #[5] A (call (.type "reversed") [.str x t]) Q E s:=by
 refine nV BW #[1] (PySem.F.typeCall_reversed_1 _) (PySem.F.newCall_reversed_1 _) (fun ob=>PySem.F.args_object_init_2 ob _) PySem.F.entry_reversed_new (Lf x t hx) fun tk=>?_
 exact⟨⟨_,ar _ rfl,rfl⟩,q tk⟩
theorem GI{x:Str}{t:Tok}{Q:Option Value->Shared->Prop}(jD:lP s.heap it x t (i:Int))(hc:x.cps[i]?=some c)(hi:(i:Int)<2^63)
  (q:∀g tk u,lP g it x t ((i:Int)-1)->Heap.SameBut it s.heap g->Q (some (.str ⟨#[c]⟩ u)) { s with heap:=g,toks:=tk }):wpAny #[5] A (pyNext (.ref it)) Q E s:=by
 obtain⟨o,ho,qt,hd⟩:=id jD
 have T:=jD.typeIs
 unfold pyNext
 refine aa (dP (bn (name:=Str.ofString "__next__") T ko (br ko T tZ ?_ (t4 _))))
 unfold Builtin.«reversed.__next__»
 refine aa (fW (a:=(Value.ref it,[])) rfl ?_)
 try dsimp only
 refine aa (b9 ho hd (x:=.str x t) rfl (aa (b9 ho hd (x:=rawInt (i:Int)) rfl ?_)))
 show wpAny _ _ (if (i:Int)<0 then _ else _) _ _ s
 rw[ay #[0]]
 refine aa (iW (jb _ _ _) PySem.F.slot_str_getitem.lookup ?_)
 rw[ay #[9]]
 have hlt:i<x.cps.size:=(Array.getElem?_eq_some_iff.mp hc).1
 refine aa (wpAny_mkInt (aa (dP (getItem_str (c:=c) (by simp;omega) ?_ ?_))))
 ·rw[show seqIndex? (i:Int) x.length=some i from by rw[PySem.StrLaws.seqIndex_nonneg (by omega) (by have:x.length=x.cps.size:=rfl;omega)];simp]
  exact hc
 try dsimp only
 refine aa (b9 ho hd (x:=rawInt (i:Int)) rfl ?_)
 show wpAny _ _ (setField (.ref it) 1 (rawInt ((i:Int)-1)) >>= fun _=>ret _) _ _ _
 refine aa (jG ho hd #[9] (aq ⟨_,rfl,aq (q _ _ _ ?_ (fj ..))⟩))
 exact⟨_,cF _ ho (jV (fM hd _)),(Obj.cls_mapFields ..).trans qt,by rw[fM hd];simp⟩
theorem Lg{x:Str}{t:Tok}{Q:Option Value->Shared->Prop}(hh:A.handled=none)(jD:lP s.heap it x t (-1))(q:∀g,(∀b o,b≠it->s.heap.get? b=some o->g.get? b=some o)->Q none { s with heap:=g }):wpAny #[5] A (pyNext (.ref it)) Q E s:=by
 obtain⟨o,ho,qt,hd⟩:=id jD
 have T:=jD.typeIs
 unfold pyNext
 refine aa (dP (bn (name:=Str.ofString "__next__") T ko (br ko T tZ ?_ (t4 _))))
 unfold Builtin.«reversed.__next__»
 refine aa (fW (a:=(Value.ref it,[])) rfl ?_)
 try dsimp only
 refine aa (b9 ho hd (x:=.str x t) rfl (aa (b9 ho hd (x:=rawInt (-1)) rfl ?_)))
 show wpAny _ _ (if (-1:Int)<0 then _ else _) _ _ s
 rw[au #[1]]
 refine aa (jf (aa ?_))
 wp_delta
 refine aa (jG ho hd #[9] ?_)
 have ho2:=cF (Obj.mapFields fun a=>a.set! 1 (rawInt (-1))) ho (jV (fM hd _))
 refine jG ho2 (fM hd _) #[9] ?_
 refine aa ?_
 show wpAny _ _ (newExc (.type "StopIteration") [] >>= _) _ _ _
 refine aa ?_
 simp only[newExc,newTuple]
 refine aa (bO (aa (m:=firstArgMember _ _) (fW (a:=Value.none) (by first|rfl|(simp only[firstArgMember];rfl)) (bO ?_ (by size_fits)))) (by size_fits))
 simp only[raiseNew]
 refine aa (qx ?_)
 rw[show A.in1.handled=none from hh]
 refine aa (aq (wpAny_throw ?_))
 refine aa (eF (T:="StopIteration") (b:=true) ⟨_,ar _ rfl,rfl⟩ hX ?_)
 refine aq (q _ fun b o hb e=>al _ (al _ ?_))
 exact(cx _ _ (Ne.symm hb)).trans ((cx _ _ (Ne.symm hb)).trans e)
theorem vf{x:Str}{t:Tok}{i:Int}(jD:lP s.heap it x t i)(q:Q (.ref it) s):wpAny #[5] A (pyIter (.ref it)) Q E s:=by
 have T:=jD.typeIs
 refine jL T tY (br tY T Ac ?_ (Ae _))
 show wpAny _ _ (ret (.ref it)) _ _ s
 exact aq ⟨_,rfl,"reversed",_,T,ko.lookup,q⟩
end
theorem E0{w:World}(hh:A.handled=none)(it:Addr)(x:Str)(t:Tok)(hx:(x.length:Int)<2^63) :
  Walks prog w A it [it] [it] x.length (fun i v=>∃c u,x.cps[x.length-1-i]?=some c/\v=.str ⟨#[c]⟩ u) (fun i h=>i<=x.length/\lP h it x t ((x.length:Int)-1-(i:Int))) where
 sub:=fun _ hb=>hb
 frame:=fun _ _ _ st hk=>⟨st.1,st.2.keep fun o e=>hk it #[9] o e⟩
 item:=fun i s Q E hi st q=>by
  have e:(x.length:Int)-1-(i:Int)=((x.length-1-i:Nat):Int):=by omega
  have jD:=st.2
  rw[e]at jD
  have hlt:x.length-1-i<x.cps.size:=by have:x.length=x.cps.size:=rfl;omega
  have hc:x.cps[x.length-1-i]?=some (x.cps[x.length-1-i]'hlt):=iC hlt
  refine GI jD hc (by omega) fun g tk u hg sb=>?_
  have e2:((x.length-1-i:Nat):Int)-1=(x.length:Int)-1-((i+1:Nat):Int):=by omega
  rw[e2]at hg
  exact q _ g tk ⟨_,u,hc,rfl⟩ ⟨hi,hg⟩ fun b o hb eo=>sb.extBut b o (fun h=>hb (by simp[h])) eo
 done:=fun s Q E st q=>by
  have e:(x.length:Int)-1-(x.length:Int)=-1:=by omega
  have jD:=st.2
  rw[e]at jD
  exact Lg hh jD fun g kp=>q g s.toks fun b o hb eo=>kp b o (fun h=>hb (by simp[h])) eo
 self:=fun _ _ _ _ st q=>vf st.2 q
def Tk(ta:TA):TI:=fun σ H R=>ta σ H fun vs H1=>∃l,vs=[.str (tx l)]/\l.length<=1000000/\R (S8 (g_ l.reverse)) H1
theorem Lh{tg a:Expr}{ta:TA}{p pos:Pos}(hm:X.mg "reversed"=none)(ha:QA X [a] ta)(hg:Gl X "reversed":=by rfl)(hs:starEach [a] X.env=(false,eval a X.env)::starEach [] X.env:=by rfl) :
  QI X tg (.Call (.Name "reversed" p) [a] [] pos) (Tk ta):=⟨by
 intro ah s σ H R I h
 refine Call_ (lL I hg hm boot_reversed (b6 (gG (ha.h pos ah s σ H _ I h) fun us s1 zq=>?_) hs rfl))
 obtain⟨vs,H1,I1,r1,q1⟩:=zq
 obtain⟨l,e,hl,q⟩:=q1
 subst e
 cases r1 with
 |cons x1 r1=>
  cases r1
  obtain⟨t,rfl⟩:=x1
  have hn:(tx l).length=(g_ l.reverse).length:=by unfold g_;rw[i7];simp
  have hb:((tx l).length:Int)<2^63:=by rw[i7];omega
  refine GH #[0] fun tk=>?_
  refine vf (x:=tx l) (t:=t) (i:=((tx l).length:Int)-1) ⟨_,ar _ rfl,rfl,rfl⟩ ?_
  refine⟨s1.heap.objs.size,[s1.heap.objs.size],_,_,H1,rfl,I1.kept (t':=tk) fun b o e=>al _ e,qD (ty:="reversed") (S:=fun i h=>i<=(tx l).length/\lP h s1.heap.objs.size (tx l) t (((tx l).length:Int)-1-(i:Int))) (fun A hA=>by rw[<- hn];exact E0 hA _ (tx l) t hb) (fun k v hk hp=>?_) (fun k h st=>?_) #[1] (fun A k s Q E st h=>vf st.2 h),⟨cM _,cM _,⟨_,ar _ rfl,rfl,?_⟩⟩,fun b hb=>?_,q⟩
  ·obtain⟨c,u,hc,rfl⟩:=hp
   refine⟨.str (tx [c]),?_,u,rfl⟩
   rw[<- hn]at hk
   rw[i7]at hc hk
   have hc':l[l.length-1-k]?=some c:=by simpa[tx]using hc
   unfold g_
   rw[ag,ei hk,hc'];rfl
  ·obtain⟨_,o,e1,e2,e3⟩:=st
   exact⟨o,_,e1,e2,e3⟩
  ·simp
  ·have e:b=s1.heap.objs.size:=by simpa using hb
   subst e
   exact I1.fpOk (ax _) I1.fresh⟩
theorem xB(a b:Int):Builtin.Range.rangeSize a b (-1)=((a-b).toNat:Int):=by
 unfold Builtin.Range.rangeSize
 rw[ay #[1]]
 simp only[Int.neg_neg,Int.ediv_one]
 split<;>omega
theorem BY{a b:Int}(h1:-(2^60)<=a)(h2:a<2^60)(h3:-(2^60)<=b)(h4:b<2^60):Builtin.Range.small a b (-1)=true:=by
 unfold Builtin.Range.small
 rw[xB]
 simp only[Builtin.Range.rangeFitsLong,b_,oA,decide_eq_true_eq,dz,ay (show ¬ ((-1:Int)>0) by decide)]
 omega
noncomputable def xC(i:Int)(n:Nat):List V:=(List.range n).map fun k:Nat=>V.int (i-k)
def Tl(ta:TA):TI:=fun σ H R=>ta σ H fun vs H1=>∃i j:Int,vs=[.int i,.int j,.int (-1)]/\(-(2^60)<=i/\i<2^60/\-(2^60)<=j/\j<2^60)/\R (S8 (xC i (i-j).toNat)) H1
theorem yk{tg a b c:Expr}{ta:TA}{p pos:Pos}(hm:X.mg "range"=none)(ha:QA X [a,b,c] ta)(hg:Gl X "range":=by rfl)(hs:starEach [a,b,c] X.env=(false,eval a X.env)::starEach [b,c] X.env:=by rfl)
  (Bz:(backTo pos (starEach [b,c] X.env)).any (·.1)=false:=by rfl):QI X tg (.Call (.Name "range" p) [a,b,c] [] pos) (Tl ta):=⟨by
 intro ah s σ H R I h
 refine Call_ (lL I hg hm boot_range (b6 (gG (ha.h pos ah s σ H _ I h) fun us s1 zq=>?_) hs Bz))
 obtain⟨vs,H1,I1,r1,q1⟩:=zq
 obtain⟨i,j,e,⟨b1,b2,b3,b4⟩,q⟩:=q1
 subst e
 cases r1 with
 |cons x1 r1=>cases r1 with
  |cons x2 r1=>cases r1 with
   |cons x3 r1=>
    cases r1
    obtain⟨t1,rfl⟩:=x1
    obtain⟨t2,rfl⟩:=x2
    obtain⟨t3,rfl⟩:=x3
    refine call_range_3 #[1] ?_ (Or.inl (nO #[0]))
    refine wpAny_pyIter_range (IsRange.new ..) (BY b1 b2 b3 b4) ?_
    generalize hN:(i-j).toNat=n at q
    have hl:(xC i n).length=n:=by unfold xC;simp
    have I2:bK X ah σ H1 { s1 with heap:=s1.heap.push { cls:=.type "range",data:=.fields #[.int i t1,.int j t2,.int (-1) t3] },toks:=s1.toks }:=I1.kept fun b o e=>al _ e
    refine⟨(s1.heap.push { cls:=.type "range",data:=.fields #[.int i t1,.int j t2,.int (-1) t3] }).objs.size,[(s1.heap.push { cls:=.type "range",data:=.fields #[.int i t1,.int j t2,.int (-1) t3] }).objs.size],_,_,H1,rfl,
     I2.kept (t':=s1.toks) fun b o e=>al _ e,qD (ty:="range_iterator") (fun A hA=>by rw[hl];exact Walks.range hA _ i (-1) n) (fun k v hk hp=>?_) (fun k h st=>⟨_,_,st,rfl,rfl⟩) #[1] (fun A k s Q E st h=>nN st h),⟨cM _,?_⟩,fun b hb=>?_,q⟩
    ·obtain⟨t,rfl⟩:=hp
     rw[hl]at hk
     refine⟨.int (i+k*(-1)),?_,t,rfl⟩
     unfold xC
     rw[ag,aF hk]
     show some (V.int (i-k))=_
     congr 2;omega
    ·have e1:i+((0:Nat):Int)*(-1)=i:=by simp
     have e2:((n:Nat):Int)-((0:Nat):Int)=Builtin.Range.rangeSize i j (-1):=by rw[xB,hN];simp
     rw[e1,e2]
     exact ar _ rfl
    ·have e:b=(s1.heap.push { cls:=.type "range",data:=.fields #[.int i t1,.int j t2,.int (-1) t3] }).objs.size:=by simpa using hb
     subst e
     exact I2.fpOk (ax _) (I2.hok.fresh (ax _))⟩
section
variable{nm:List Str}{wi:TI}{g:TG}{tc:TT}
theorem BZ{x0:Str}{p0 p1:Pos}{gx:TG}(R3:PG X (.Name x0 p0) gx)(R0:swapsWith #[6] (some (.Name x0 p0)) p1.line X.env=pure true)(iB:X.calm=true)(wC:closureFor scope X.env=pure cl)(qt:∀x c,cl.lookup x=some c->X.env.cells.lookup x=some c)
  (iA:scope.kind=.function) (qT:∀x∈scope.names,x.2=.local->scope.names.lookup x.1=some .local) (gj:∀y∈scope.names,y.2≠.cell)
  (CQ:∀x,((relabel scope X.env).names.lookup x=some .cell\/(relabel scope X.env).names.lookup x=some .free)->∃c,cl.lookup x=some c)
  (sB:∀(i j:Nat),cap[i]?=some (some j)->∃x,nm[i]?=some x/\X.N[j]?=some x/\u9 X scope cl x) (dG:cap.length=nm.length)
  (hi:PI X tg dw wi) (hg:∀C s0 H0 fp,PG #[7] tg g) (ht:∀C s0 H0 fp,Gk #[7] lg tc)
  (he:∀C s0 H0 fp,PE #[7] oq te) (hs:∀x,foldedSetIterable dw X.env x=pure x:=by intro _;rfl) :
  PS X (.Assign [.Name x0 p0] #[6] p1) (KA (u8 cap wi g tc te) gx):=by
 intro ah s σ H D I h
 rw[exec_Assign_Name_used _ _ _ _ R0]
 suffices main:wpAny #[4] X.A (comprehension #[6] scope X.env (firstIterPos [⟨tg,dw,lg,0⟩] pos) (newList []) (firstAsync [⟨tg,dw,lg,0⟩]) (firstIter [⟨tg,dw,lg,0⟩] X.env) (some (assign (.Name x0 p0) X.env))) (fun _ s'=>SP X ah D .next s') X.xe s from
  aa (qv (aa (aa (eX main (fun _ s' h=>aq (aq h)) fun _ _ z=>z))))
 refine xu iB wC qt iA qT gj CQ sB dG hi hg ht he hs I h fun s4 C D m4 Hn I4 B q=>?_
 obtain⟨oC,es,ep,hoC,hdC,hrC⟩:=B.ns
 refine eX (R3 _ s4 σ _ (.ref D) (.ref D) _ (I4.pins_of (pins':=ah++[(C,oC)]) fun p hp=>?_) rfl q) (fun _ s5 h5=>?_) fun _ _ z=>z
 ·rcases aZ.mp hp with z|z
  ·exact I4.pin p (aH _ z)
  ·have e:p=(C,oC):=by simpa using z
   subst e
   exact⟨hoC,B.fr,B.nl,B.nf,fun v z=>by rw[hdC]at z;cases z⟩
 obtain⟨σ',H',I6,nx⟩:=h5
 have pC:=I6.pin (C,oC) (aH _ (aH _ (bv.mpr rfl)))
 have I7:bK X ah σ' H' s5:=I6.pins_of fun p hp=>I6.pin p (aH _ (cw _ hp))
 have B7:zK X ah H' s5 C m4:=⟨⟨oC,es,ep,pC.1,hdC,hrC⟩,pC.2.1,B.nl,B.nf,B.hi,B.nc,B.np⟩
 exact⟨m4,B7.ns,fun h' hs'=>⟨σ',H',B7.off I7 hs',nx⟩⟩
end
theorem B0{x0:Str}{p0 p1:Pos}{gx:TG}{pos:Pos}{nm:List Str}{wi:TI}{g:TG}{tc:TT}(R3:QG X (.Name x0 p0) gx)(iB:X.calm=true)
  (lV:X.env.cells=cellsFrom m X.env.scope.names []) (iA:scope.kind=.function) (hB:zO X.env.scope.names scope.names nm cap X.N=true)
  (hi:QI X tg dw wi) (hg:∀cl C s0 H0 fp,QG #[7] tg g) (ht:∀cl C s0 H0 fp,Ww #[7] lg tc)
  (he:∀cl C s0 H0 fp,QE #[7] oq te) (hs:∀x,foldedSetIterable dw X.env x=pure x:=by intro _;rfl) (R0:swapsWith #[6] (some (.Name x0 p0)) p1.line X.env=pure true:=by first|rfl|kernel_rfl) :
  QS X (.Assign [.Name x0 p0] #[6] p1) (KA (u8 cap wi g tc te) gx):=by
 have F:=Ti (nm:=nm) (cap:=cap) (fun x z=>by rw[lV];exact mR z) hB
 exact⟨BZ R3.h R0 iB F.clos F.cl iA F.nms F.cell F.has F.cp F.len hi.h (fun C s0 H0 fp=>(hg _ C s0 H0 fp).h) (fun C s0 H0 fp=>(ht _ C s0 H0 fp).h) (fun C s0 H0 fp=>(he _ C s0 H0 fp).h) hs⟩
open AutoSeq1 (wpAny_loadPart')
theorem GJ(l b:Addr)(i1 i2:Array Value)(n1 n2:Nat)(d1 d2:Option Addr)(s1 s2:Array (Option Value))(h0:i1.isEmpty=true) :
  Meets (Builtin.«tuple.__add__» ⟨[.ref l,.ref b],[]⟩) (fun _ R s=>s.heap.get? l=some { cls:=.type "tuple",dict:=d1,data:=.seq i1 n1,slots:=s1 }/\s.heap.get? b=some { cls:=.type "tuple",dict:=d2,data:=.seq i2 n2,slots:=s2 }/\R (.ok (.ret (.ref b))) s):=
 .of_wp fun prog w A R s h=>by
  obtain⟨hp,g,d,tk,os⟩:=s
  obtain⟨e1,e2,h⟩:=h
  have a2:=PyProof.Rows.sub_tuple_tuple
  wp_walk using bF e1,bF e2
  exact⟨_,rfl,h⟩
def Tn(K:Frag):R2:=fun x y H Q=>∃a b xs ys,x=.ref a/\y=.ref b/\gp K H a xs/\gp K H b ys/\xs.length+ys.length<=sizeLine/\∀p H2,ul H H2->gp K H2 p (xs++ys)->Q (.ref p) H2
theorem PB:Xg X (binaryOp .Add) (Tn X.K):=⟨by
 intro ah s σ H x y v u Q I rx ry h
 obtain⟨a,b,xs,ys,rfl,rfl,ha,hb,hz,q⟩:=h
 by_cases hx:xs=[]
 ·subst hx
  cases rx
  cases ry
  obtain⟨bw,r1,p1,_⟩:=I.tuple ha
  obtain⟨its2,r2,p2,_⟩:=I.tuple hb
  have e1:bw=[]:=r1.nil_iff.mpr rfl
  obtain⟨⟨c1,d1,g1,l1⟩,f1,hc1,n1,hd1⟩:=id p1
  obtain⟨⟨c2,d2,g2,l2⟩,f2,hc2,n2,hd2⟩:=id p2
  simp only at hc1 hd1 hc2 hd2
  subst hc1 hd1 hc2 hd2
  refine sD ⟨_,f1,rfl⟩ ⟨_,f2,rfl⟩ m_ qw PySem.F.slot_tuple_add PySem.F.entry_tuple_add (PySem.F.args_tuple_add_2 _ _) (GJ a b bw.toArray its2.toArray n1 n2 d1 d2 l1 l2 (by rw[e1];rfl)) ⟨f1,f2,?_⟩
  exact⟨.ref b,H,I,rfl,q b H (ul.refl H) hb⟩
 ·exact KN ah s σ H _ _ v u Q I rx ry ⟨a,b,xs,ys,rfl,rfl,ha,hb,hx,hz,fun e=>q a H (ul.refl H) (by rw[e,bC];exact ha),fun _ p hp=>q p _ (cQ hp _) (gp.of fg)⟩⟩
inductive W where
 |non|bl (b:Bool)|int (i:Int)|str (l:List Nat)|tup (ws:List W)|loc (n:Nat)
inductive DK where
 |i (z:Int)|s (l:List Nat)
deriving DecidableEq
def DK.key:DK->jQ
 |.i z=>.inl z
 |.s l=>.inr (tx l)
inductive KX where
 |bo (b:Bool)|fl (ks:List Int)|pr (i:Int) (ks:List Int)
deriving DecidableEq
noncomputable def KX.w:KX->W
 |.bo b=>.bl b
 |.fl ks=>.tup (ks.map W.int)
 |.pr i ks=>.tup [.int i,.tup (ks.map W.int)]
noncomputable def GK(ks:List Int):Int:=reduceHash (Builtin.Tuple.tupleHashOf (ks.map hashInt))
def KX.hash:KX->Int
 |.bo b=>hashInt (if b then 1 else 0)
 |.fl ks=>GK ks
 |.pr i ks=>reduceHash (Builtin.Tuple.tupleHashOf [hashInt i,GK ks])
inductive am where
 |lst (ws:List W)
 |ro (ws:List W)
 |exc (c:Str)
 |dct (kvs:List (DK×W))
 |tab (P:Addr) (pos:Pos) (q:Str)
 |rod (kvs:List (DK×W))
 |dcx (kvs:List (KX×W))
 |rox (kvs:List (KX×W))
 |obj (c:Str) (fs:List (Str×W))
 |pin (k:Bool) (c:Addr) (o:Obj) (w:W)
 |gone
noncomputable abbrev ny:Nat:=1000000
theorem nD(h:n<=ny):n<=sizeLine:=aR h #[1]
theorem PD(h:n<=ny):n<sizeLine:=jc h #[1]
inductive R(α:Type) where
 |ok (a:α) (st:List am)
 |ex (c:Str) (st:List am)
 |bad
end L2
variable{st bz st1 s1 z:List L2.am}{ws:List L2.W}{F G:List L2.W->List L2.am->L2.R L2.W}{ck:Option (Nat×List L2.W)}
namespace L2
open PySem PySem.Spec PyProof.Rows
noncomputable def R.bind:R α->(α->List am->R β)->R β
 |.ok a st,k=>k a st
 |.ex c st,_=>.ex c st
 |.bad,_=>.bad
@[simp] theorem R.bind_ok{α β:Type}(a:α)(st:List am)(k:α->List am->R β):(R.ok a st).bind k=k a st:=rfl
@[simp] theorem R.bind_ex{α β:Type}(c:Str)(st:List am)(k:α->List am->R β):(R.ex c st:R α).bind k=.ex c st:=rfl
@[simp] theorem R.bind_bad{α β:Type}(k:α->List am->R β):(R.bad:R α).bind k=.bad:=rfl
noncomputable abbrev cy:=List (Option W)
inductive RS where
 |nx (ρ:cy) (st:List am)|rt (w:W) (st:List am)|bk (ρ:cy) (st:List am)|ct (ρ:cy) (st:List am)
 |ex (c:Str) (ρ:cy) (st:List am)|bad
abbrev FE:=cy->List am->R W
abbrev FT:=cy->List am->R Bool
abbrev FA:=cy->List am->R (List W)
abbrev FS:=cy->List am->RS
section
variable(K:Frag)
mutual
def bD(μ:List Addr)(H:Hp):W->V->Prop
 |.non,v=>v=.non
 |.bl b,v=>v=.bl b
 |.int i,v=>v=.int i
 |.str l,v=>v=.str (tx l)
 |.tup ws,v=>∃p vs,v=.ref p/\gp K H p vs/\RelWs μ H ws vs
 |.loc n,v=>∃a,μ[n]?=some a/\v=.ref a
def RelWs(μ:List Addr)(H:Hp):List W->List V->Prop
 |[],vs=>vs=[]
 |w::ws,vs=>∃x xs,vs=x::xs/\bD μ H w x/\RelWs μ H ws xs
end
end
theorem pre_get(h:μ <+: μ')(e:μ[n]?=some a):μ'[n]?=some a:=by
 obtain⟨t,rfl⟩:=h
 rw[aQ (ac.mp e).1];exact e
section
mutual
theorem bD.mono(h:μ <+: μ')(e:eS K H H'):∀{w:W} {v:V},bD K μ H w v->bD K μ' H' w v
 |.non,_,r=>by unfold bD at r ⊢;exact r
 |.bl _,_,r=>by unfold bD at r ⊢;exact r
 |.int _,_,r=>by unfold bD at r ⊢;exact r
 |.str _,_,r=>by unfold bD at r ⊢;exact r
 |.tup _,_,r=>by unfold bD at r ⊢;obtain⟨p,vs,a,b,c⟩:=r;exact⟨p,vs,a,e _ _ b,RelWs.mono h e c⟩
 |.loc _,_,r=>by unfold bD at r ⊢;obtain⟨a,b,c⟩:=r;exact⟨a,pre_get h b,c⟩
theorem RelWs.mono(h:μ <+: μ')(e:eS K H H'):∀{ws:List W} {vs:List V},RelWs K μ H ws vs->RelWs K μ' H' ws vs
 |[],_,r=>by unfold RelWs at r ⊢;exact r
 |_::_,_,r=>by unfold RelWs at r ⊢;obtain⟨x,xs,a,b,c⟩:=r;exact⟨x,xs,a,bD.mono h e b,RelWs.mono h e c⟩
end
theorem RelWs.nilI:RelWs K μ H [] []:=by unfold RelWs;rfl
theorem RelWs.consI{w:W}{x:V}{xs:List V}(a:bD K μ H w x)(b:RelWs K μ H ws xs):RelWs K μ H (w::ws) (x::xs):=by unfold RelWs;exact⟨x,xs,rfl,a,b⟩
theorem RelWs.nilE(h:RelWs K μ H [] vs):vs=[]:=by unfold RelWs at h;exact h
theorem RelWs.consE{w:W}(h:RelWs K μ H (w::ws) vs):∃x xs,vs=x::xs/\bD K μ H w x/\RelWs K μ H ws xs:=by unfold RelWs at h;exact h
theorem RelWs.pr:∀{ws:List W} {vs:List V},RelWs K μ H ws vs↔Paired (fun w v=>bD K μ H w v) ws vs
 |[],vs=>⟨fun h=>by rw[h.nilE];exact .nil,fun h=>by cases h;exact .nilI⟩
 |w::ws,vs=>⟨fun h=>by obtain⟨x,xs,rfl,a,b⟩:=h.consE;exact .cons a (RelWs.pr.mp b),fun h=>by cases h with|cons a b=>exact .consI a (RelWs.pr.mpr b)⟩
theorem RelWs.len(h:RelWs K μ H ws vs):ws.length=vs.length:=Paired.length (RelWs.pr.mp h)
theorem RelWs.app:∀{as:List W} {xs:List V} {bs:List W} {ys:List V},RelWs K μ H as xs->RelWs K μ H bs ys->RelWs K μ H (as++bs) (xs++ys)
 |[],xs,bs,ys,a,b=>by rw[a.nilE];exact b
 |w::as,xs,bs,ys,a,b=>by obtain⟨x,xs,rfl,c,d⟩:=a.consE;exact .consI c (RelWs.app d b)
theorem RelWs.get:∀{ws:List W} {vs:List V} {i:Nat} {w:W},RelWs K μ H ws vs->ws[i]?=some w->∃v,vs[i]?=some v/\bD K μ H w v
 |[],_,_,_,_,e=>by simp at e
 |x::ws,vs,0,w,h,e=>by obtain⟨y,ys,rfl,a,b⟩:=h.consE;simp at e;subst e;exact⟨y,rfl,a⟩
 |x::ws,vs,i+1,w,h,e=>by obtain⟨y,ys,rfl,a,b⟩:=h.consE;simpa using RelWs.get (i:=i) b (by simpa using e)
theorem RelWs.take:∀{ws:List W} {vs:List V} (n:Nat),RelWs K μ H ws vs->RelWs K μ H (ws.take n) (vs.take n)
 |_,_,0,_=>by simp only[pN];exact .nilI
 |[],vs,n+1,h=>by rw[h.nilE];exact .nilI
 |x::ws,vs,n+1,h=>by obtain⟨y,ys,rfl,a,b⟩:=h.consE;exact .consI a (RelWs.take n b)
theorem RelWs.drop:∀{ws:List W} {vs:List V} (n:Nat),RelWs K μ H ws vs->RelWs K μ H (ws.drop n) (vs.drop n)
 |_,_,0,h=>h
 |[],vs,n+1,h=>by rw[h.nilE];exact .nilI
 |x::ws,vs,n+1,h=>by obtain⟨y,ys,rfl,a,b⟩:=h.consE;exact RelWs.drop n b
theorem RelWs.setI:∀{ws:List W} {vs:List V} (i:Nat) {w:W} {v:V},bD K μ H w v->RelWs K μ H ws vs->RelWs K μ H (ws.set i w) (vs.set i v)
 |[],vs,_,_,_,_,h=>by rw[h.nilE];exact .nilI
 |x::ws,vs,0,w,v,r,h=>by obtain⟨y,ys,rfl,a,b⟩:=h.consE;exact .consI r b
 |x::ws,vs,i+1,w,v,r,h=>by obtain⟨y,ys,rfl,a,b⟩:=h.consE;exact .consI a (RelWs.setI i r b)
theorem bD.intE{i:Int}{v:V}(h:bD K μ H (.int i) v):v=.int i:=by unfold bD at h;exact h
theorem bD.blE{b:Bool}{v:V}(h:bD K μ H (.bl b) v):v=.bl b:=by unfold bD at h;exact h
theorem bD.nonE{v:V}(h:bD K μ H .non v):v=.non:=by unfold bD at h;exact h
theorem bD.strE{v:V}(h:bD K μ H (.str l) v):v=.str (tx l):=by unfold bD at h;exact h
theorem bD.tupE{v:V}(h:bD K μ H (.tup ws) v):∃p vs,v=.ref p/\gp K H p vs/\RelWs K μ H ws vs:=by unfold bD at h;exact h
theorem bD.locE{v:V}(h:bD K μ H (.loc n) v):∃a,μ[n]?=some a/\v=.ref a:=by unfold bD at h;exact h
theorem bD.int{i:Int}:bD K μ H (.int i) (.int i):=by unfold bD;rfl
theorem bD.bl{i:Bool}:bD K μ H (.bl i) (.bl i):=by unfold bD;rfl
theorem bD.non:bD K μ H .non .non:=by unfold bD;rfl
theorem bD.str:bD K μ H (.str l) (.str (tx l)):=by unfold bD;rfl
theorem bD.tupI{p:Addr}(a:gp K H p vs)(b:RelWs K μ H ws vs):bD K μ H (.tup ws) (.ref p):=by unfold bD;exact⟨p,vs,rfl,a,b⟩
theorem bD.locI(e:μ[n]?=some a):bD K μ H (.loc n) (.ref a):=by unfold bD;exact⟨a,e,rfl⟩
end
noncomputable def To(a:Addr)(C:Value):HO:=.ext fun h=>∃o vs,h.get? a=some o/\o.cls=C/\o.data=.fields vs
noncomputable def Af(b:Addr)(q:Str):HO:=.ext fun h=>∃o vs t,h.get? b=some o/\o.data=.fields vs/\vs[1]?=some (.str q t)
def VD(K:Frag)(H:Hp)(a:Addr)(xs:List V):Prop:=
 (∃o,H a=some (.frz o (.lst xs)))\/∃(o:Obj) (bw:Array Value) (n:Nat),K.lookup a=some o/\o.cls=.type "list"/\o.dict=none/\o.data=.seq bw n/\bw.size<=sizeLine/\cG xs bw.toList
theorem VD.sq{xs:List V}(h:VD K H a xs):p8 K H a xs:=by
 rcases h with⟨o,h⟩|h
 ·exact .inl (.inr ⟨o,h⟩)
 ·exact .inr h
noncomputable def am.isRo:am->Bool
 |.ro _=>true
 |.gone=>true
 |_=>false
def DX(a:Addr)(es:List DictEntry):Heap->Prop:=fun h=>∃o ep,h.get? a=some o/\o.ExactDict/\o.data=.dict es.toArray ep
noncomputable abbrev Xi(a:Addr)(es:List DictEntry):HO:=.ext (DX a es)
def Ag(K:Frag)(μ:List Addr)(H:Hp)(p:KX×W)(e:DictEntry):Prop:=e.hash=p.1.hash/\(∃v,bD K μ H p.1.w v/\cL v e.key)/\∃v,bD K μ H p.2 v/\cL v e.val
noncomputable def Wz(a:Addr)(o:Obj):HO:=.ext fun h=>h.get? a=some o
def mi(K:Frag)(mg:Str->Option Value)(μ:List Addr)(H:Hp):am->Addr->Prop
 |.lst ws,a=>∃vs,H a=some (.lst vs)/\RelWs K μ H ws vs
 |.ro ws,a=>∃vs,VD K H a vs/\RelWs K μ H ws vs
 |.exc c,a=>∃C,mg c=some C/\H a=some (To a C)
 |.dct kvs,a=>∃vs,H a=some (.dK ((kvs.map fun p=>p.1.key).zip vs))/\RelWs K μ H (kvs.map fun p=>p.2) vs
 |.rod kvs,a=>∃vs o,H a=some (.frz o (.dK ((kvs.map fun p=>p.1.key).zip vs)))/\RelWs K μ H (kvs.map fun p=>p.2) vs
 |.dcx kvs,a=>∃es,H a=some (Xi a es)/\(a==sysModules)=false/\Paired (Ag K μ H) kvs es/\(kvs.map fun p=>p.1).Nodup
 |.rox kvs,a=>∃es o,H a=some (.frz o (Xi a es))/\(a==sysModules)=false/\Paired (Ag K μ H) kvs es/\(kvs.map fun p=>p.1).Nodup
 |.obj c fs,a=>∃C dx vs,mg c=some (.ref C)/\H a=some (.ins C dx ((fs.map fun p=>p.1).zip vs))/\RelWs K μ H (fs.map fun p=>p.2) vs
 |.tab P pos q,a=>a=P/\∃ps,H a=some (.tbl ps)/\TriplesOk ps.toList/\(codeAmong pos ps.toList=none\/∃c,codeAmong pos ps.toList=some (.ref c)/\H c=some (Af c q))
 |.pin k c o w,a=>a=c/\H a=some (Wz a o)/\(k=false->∃fd cd,o.data=.func fd/\fd.code=.ref cd/\H cd=some (Af cd fd.qualname))/\∃v,bD K μ H w v/\(k=true->∃u,o.data=.cell (some u)/\cL v u)
 |.gone,_=>True
structure iN(K:Frag)(mg:Str->Option Value)(μ:List Addr)(st:List am)(H:Hp):Prop where
 nd:∀(i j:Nat) (a:Addr) (ci cj:am),st[i]?=some ci->st[j]?=some cj->ci.isRo=false->cj.isRo=false->μ[i]?=some a->μ[j]?=some a->i=j
 len:st.length=μ.length
 at':∀(i:Nat) (c:am) (a:Addr),st[i]?=some c->μ[i]?=some a->mi K mg μ H c a
section
theorem Ag.mono(h:μ <+: μ')(x:eS K H H'){p:KX×W}{e:DictEntry}(r:Ag K μ H p e):Ag K μ' H' p e:=by
 obtain⟨a,⟨v,b,c⟩,u,d,g⟩:=r
 exact⟨a,⟨v,b.mono h x,c⟩,u,d.mono h x,g⟩
theorem mi.keep(h:μ <+: μ')(x:eS K H H'){c:am}(e:∀o,H a=some o->H' a=some o)(e2:∀b q,H b=some (Af b q)->H' b=some (Af b q))(r:mi K mg μ H c a):mi K mg μ' H' c a:=by
 cases c with
 |lst ws=>obtain⟨vs,p,y⟩:=r;exact⟨vs,e _ p,y.mono h x⟩
 |ro ws=>
  obtain⟨vs,p,y⟩:=r
  refine⟨vs,?_,y.mono h x⟩
  rcases p with⟨o,p⟩|p
  ·exact .inl ⟨o,e _ p⟩
  ·exact .inr p
 |exc c=>obtain⟨C,p,y⟩:=r;exact⟨C,p,e _ y⟩
 |dct kvs=>obtain⟨vs,p,y⟩:=r;exact⟨vs,e _ p,y.mono h x⟩
 |rod kvs=>obtain⟨vs,o,p,y⟩:=r;exact⟨vs,o,e _ p,y.mono h x⟩
 |dcx kvs=>obtain⟨es,p,d,y,z⟩:=r;exact⟨es,e _ p,d,Paired.imp' (fun _ _ q=>q.mono h x) y,z⟩
 |rox kvs=>obtain⟨es,o,p,d,y,z⟩:=r;exact⟨es,o,e _ p,d,Paired.imp' (fun _ _ q=>q.mono h x) y,z⟩
 |obj c fs=>obtain⟨C,dx,vs,m,p,y⟩:=r;exact⟨C,dx,vs,m,e _ p,y.mono h x⟩
 |tab P pos q=>
  obtain⟨ea,ps,p,t,y⟩:=r
  refine⟨ea,ps,e _ p,t,?_⟩
  rcases y with y|⟨c,y,z⟩
  ·exact .inl y
  ·exact .inr ⟨c,y,e2 _ _ z⟩
 |pin k c o w=>obtain⟨ea,p,g,v,y,z⟩:=r;exact⟨ea,e _ p,fun q=>let ⟨fd,cd,q1,q2,q3⟩:=g q;⟨fd,cd,q1,q2,e2 _ _ q3⟩,v,y.mono h x,z⟩
 |gone=>trivial
theorem mi.ro_ne{c:am}(r:mi K mg μ H c a)(h:c.isRo=false):∃o,H a=some o:=by
 cases c with
 |lst ws=>obtain⟨vs,p,y⟩:=r;exact⟨_,p⟩
 |ro ws=>cases h
 |exc c=>obtain⟨C,p,y⟩:=r;exact⟨_,y⟩
 |dct kvs=>obtain⟨vs,p,y⟩:=r;exact⟨_,p⟩
 |rod kvs=>obtain⟨vs,o,p,y⟩:=r;exact⟨_,p⟩
 |dcx kvs=>obtain⟨es,p,_⟩:=r;exact⟨_,p⟩
 |rox kvs=>obtain⟨es,o,p,_⟩:=r;exact⟨_,p⟩
 |obj c fs=>obtain⟨C,dx,vs,m,p,y⟩:=r;exact⟨_,p⟩
 |tab P pos q=>obtain⟨_,ps,p,_⟩:=r;exact⟨_,p⟩
 |pin k c o w=>obtain⟨_,p,_⟩:=r;exact⟨_,p⟩
 |gone=>cases h
theorem iN.same(S:iN K mg μ st H)(e:ul H H'):iN K mg μ st H':=⟨S.nd,S.len,fun i c a h1 h2=>(S.at' i c a h1 h2).keep (aj _) (gp.same e) (e a) fun b q h=>e b _ h⟩
theorem iN.get(S:iN K mg μ st H){c:am}(h:st[n]?=some c):∃a,μ[n]?=some a/\mi K mg μ H c a:=by
 have hn:n<μ.length:=by rw[<- S.len];exact(ac.mp h).1
 exact⟨μ[n],ae hn,S.at' n c _ h (ae hn)⟩
theorem iN.push(S:iN K mg μ st H){p:Addr}{o:HO}{c:am}(hp:H p=none)(hc:mi K mg (μ++[p]) (e_ H p o) c p):iN K mg (μ++[p]) (st++[c]) (e_ H p o):=by
 have hs:ul H (e_ H p o):=cQ hp o
 have FN:μ <+: μ++[p]:=bp _ _
 have old:∀{i:Nat} {d:am} {a:Addr},i<st.length->(st++[c])[i]?=some d->(μ++[p])[i]?=some a->st[i]?=some d/\μ[i]?=some a:=fun{i d a} hi h1 h2=>by
  rw[aQ hi]at h1
  rw[aQ (by rw[<- S.len];exact hi)]at h2
  exact⟨h1,h2⟩
 have new:∀{i:Nat} {d:am} {a:Addr},¬ i<st.length->(st++[c])[i]?=some d->(μ++[p])[i]?=some a->i=st.length/\d=c/\a=p:=fun{i d a} hi h1 h2=>by
  have hi':i=st.length:=by
   have:=(ac.mp h1).1
   simp at this;omega
  subst hi'
  simp at h1
  rw[S.len,dh (ax _)]at h2
  simp at h2
  exact⟨rfl,h1.symm,h2.symm⟩
 refine⟨fun i j a ci cj h1 h2 r1 r2 m1 m2=>?_,by simp[S.len],fun i d a h1 h2=>?_⟩
 ·by_cases hi:i<st.length
  ·obtain⟨x1,x2⟩:=old hi h1 m1
   by_cases hj:j<st.length
   ·obtain⟨y1,y2⟩:=old hj h2 m2
    exact S.nd i j a ci cj x1 y1 r1 r2 x2 y2
   ·obtain⟨_,_,rfl⟩:=new hj h2 m2
    obtain⟨o',z⟩:=(S.at' i ci a x1 x2).ro_ne r1
    rw[hp]at z;cases z
  ·obtain⟨e1,_,rfl⟩:=new hi h1 m1
   by_cases hj:j<st.length
   ·obtain⟨y1,y2⟩:=old hj h2 m2
    obtain⟨o',z⟩:=(S.at' j cj a y1 y2).ro_ne r2
    rw[hp]at z;cases z
   ·obtain⟨e2,_,_⟩:=new hj h2 m2
    omega
 ·by_cases hi:i<st.length
  ·obtain⟨x1,x2⟩:=old hi h1 h2
   exact(S.at' i d a x1 x2).keep FN (gp.same hs) (hs a) fun b q h=>hs b _ h
  ·obtain⟨_,rfl,rfl⟩:=new hi h1 h2
   exact hc
theorem iN.setG(S:iN K mg μ st H){c c':am}{o o':HO}(hn:st[n]?=some c)(u4:c.isRo=false)(hm:μ[n]?=some a)(ha:H a=some o)(hf:∀q u,o≠.frz q u)(hg:∀q,o≠Af a q)(hx:eS K H (e_ H a o'))(XO:c'.isRo=false)(hr:mi K mg μ (e_ H a o') c' a):iN K mg μ (st.set n c') (e_ H a o'):=by
 have hl:n<st.length:=(ac.mp hn).1
 have back:∀{i:Nat} {d:am},(st.set n c')[i]?=some d->∃d',st[i]?=some d'/\(d'=d\/(i=n/\d=c')):=fun{i d} h=>by
  by_cases e:i=n
  ·subst e
   rw[bq hl]at h
   exact⟨_,hn,.inr ⟨rfl,(aG h).symm⟩⟩
  ·rw[b8 (Ne.symm e)]at h
   exact⟨d,h,.inl rfl⟩
 refine⟨fun i j b ci cj h1 h2 r1 r2 m1 m2=>?_,by simp[S.len],fun i d b h1 h2=>?_⟩
 ·obtain⟨di,x1,y1⟩:=back h1
  obtain⟨dj,x2,y2⟩:=back h2
  refine S.nd i j b di dj x1 x2 ?_ ?_ m1 m2
  ·rcases y1 with rfl|⟨rfl,rfl⟩
   ·exact r1
   ·rw[hn]at x1;cases x1;exact u4
  ·rcases y2 with rfl|⟨rfl,rfl⟩
   ·exact r2
   ·rw[hn]at x2;cases x2;exact u4
 ·by_cases e:i=n
  ·subst e
   rw[bq hl]at h1
   cases h1
   rw[hm]at h2;cases h2
   exact hr
  ·rw[b8 (Ne.symm e)]at h1
   have r:=S.at' i d b h1 h2
   by_cases hrd:d.isRo=true
   ·cases d with
    |ro zs=>
     obtain⟨us,p,q⟩:=r
     refine⟨us,?_,q.mono (aj _) hx⟩
     rcases p with⟨o2,p⟩|p
     ·exact .inl ⟨o2,by rw[cE (by rintro rfl;rw[ha]at p;cases p;exact hf _ _ rfl)];exact p⟩
     ·exact .inr p
    |lst _=>cases hrd
    |exc _=>cases hrd
    |dct _=>cases hrd
    |rod _=>cases hrd
    |dcx _=>cases hrd
    |rox _=>cases hrd
    |obj _ _=>cases hrd
    |tab _ _ _=>cases hrd
    |pin _ _ _ _=>cases hrd
    |gone=>trivial
   ·refine r.keep (aj _) hx (fun o ho=>?_) fun b' q h=>by rw[cE (by rintro rfl;rw[ha]at h;cases h;exact hg _ rfl)];exact h
    have hb:b≠a:=by
     rintro rfl
     exact e (S.nd i n b d _ h1 hn (by simpa using hrd) u4 h2 hm)
    rw[cE hb];exact ho
theorem iN.set(S:iN K mg μ st H){R':List W}{Br:List V}(hn:st[n]?=some (.lst ws))(hm:μ[n]?=some a)(ha:H a=some (.lst vs))(hr:RelWs K μ H R' Br):iN K mg μ (st.set n (.lst R')) (e_ H a (.lst Br)):=by
 have hx:eS K H (e_ H a (.lst Br)):=gp.but iS ha
 have hl:n<st.length:=(ac.mp hn).1
 have back:∀{i:Nat} {d:am},(st.set n (.lst R'))[i]?=some d->∃d',st[i]?=some d'/\(d'=d\/(i=n/\d=.lst R')):=fun{i d} h=>by
  by_cases e:i=n
  ·subst e
   rw[bq hl]at h
   exact⟨_,hn,.inr ⟨rfl,(aG h).symm⟩⟩
  ·rw[b8 (Ne.symm e)]at h
   exact⟨d,h,.inl rfl⟩
 refine⟨fun i j b ci cj h1 h2 r1 r2 m1 m2=>?_,by simp[S.len],fun i d b h1 h2=>?_⟩
 ·obtain⟨di,x1,y1⟩:=back h1
  obtain⟨dj,x2,y2⟩:=back h2
  refine S.nd i j b di dj x1 x2 ?_ ?_ m1 m2
  ·rcases y1 with rfl|⟨rfl,rfl⟩
   ·exact r1
   ·rw[hn]at x1;cases x1;rfl
  ·rcases y2 with rfl|⟨rfl,rfl⟩
   ·exact r2
   ·rw[hn]at x2;cases x2;rfl
 ·by_cases e:i=n
  ·subst e
   rw[bq hl]at h1
   cases h1
   rw[hm]at h2;cases h2
   exact⟨Br,fg,hr.mono (aj _) hx⟩
  ·rw[b8 (Ne.symm e)]at h1
   have r:=S.at' i d b h1 h2
   by_cases u4:d.isRo=true
   ·cases d with
    |ro zs=>
     obtain⟨us,p,q⟩:=r
     refine⟨us,?_,q.mono (aj _) hx⟩
     rcases p with⟨o',p⟩|p
     ·exact .inl ⟨o',by rw[cE (by rintro rfl;rw[ha]at p;cases p)];exact p⟩
     ·exact .inr p
    |lst _=>cases u4
    |exc _=>cases u4
    |dct _=>cases u4
    |rod _=>cases u4
    |dcx _=>cases u4
    |rox _=>cases u4
    |obj _ _=>cases u4
    |tab _ _ _=>cases u4
    |pin _ _ _ _=>cases u4
    |gone=>trivial
   ·refine r.keep (aj _) hx (fun o ho=>?_) fun b' q h=>by rw[cE (by rintro rfl;rw[ha]at h;cases h)];exact h
    have hb:b≠a:=by
     rintro rfl
     exact e (S.nd i n b d _ h1 hn (by simpa using u4) rfl h2 hm)
    rw[cE hb];exact ho
end
structure Rl(X:Cx)(μ:List Addr)(ρ:cy)(st:List am)(σ:St)(H:Hp):Prop where
 env:Paired (fun(o:Option W) (s:Option V)=>∀w,o=some w->∃v,s=some v/\bD X.K μ H w v) ρ σ
 sto:iN X.K X.mg μ st H
theorem xD(h:μ <+: μ')(x:eS K H H'):∀{ρ:cy} {σ:St},Paired (fun(o:Option W) (s:Option V)=>∀w,o=some w->∃v,s=some v/\bD K μ H w v) ρ σ ->
  Paired (fun(o:Option W) (s:Option V)=>∀w,o=some w->∃v,s=some v/\bD K μ' H' w v) ρ σ
 |_,_,.nil=>.nil
 |_,_,.cons a t=>.cons (fun w e=>let ⟨v,p,q⟩:=a w e;⟨v,p,q.mono h x⟩) (xD h x t)
theorem Rl.to{ρ:cy}(r:Rl X μ ρ st σ H)(h:μ <+: μ')(x:eS X.K H H')(s:iN X.K X.mg μ' bz H'):Rl X μ' ρ bz σ H':=⟨xD h x r.env,s⟩
theorem vg:∀{ρ:cy} {σ:St} {i:Nat} {w:W},Paired (fun(o:Option W) (s:Option V)=>∀w,o=some w->∃v,s=some v/\bD K μ H w v) ρ σ->ρ[i]?=some (some w)->∃v,σ[i]?=some (some v)/\bD K μ H w v
 |_,_,_,_,.nil,e=>by simp at e
 |_,_,0,w,.cons a t,e=>by simp at e;obtain⟨v,p,q⟩:=a w e;exact⟨v,by simp[p],q⟩
 |_,_,i+1,w,.cons a t,e=>by simpa using vg (i:=i) t (by simpa using e)
theorem vh{w:W}{v:V}(r:bD K μ H w v):∀{ρ:cy} {σ:St} (i:Nat),Paired (fun(o:Option W) (s:Option V)=>∀w,o=some w->∃v,s=some v/\bD K μ H w v) ρ σ ->
  Paired (fun(o:Option W) (s:Option V)=>∀w,o=some w->∃v,s=some v/\bD K μ H w v) (ρ.set i (some w)) (σ.set i (some v))
 |_,_,_,.nil=>.nil
 |_,_,0,.cons a t=>.cons (fun w' e=>⟨v,rfl,by cases e;exact r⟩) t
 |_,_,i+1,.cons a t=>.cons a (vh r i t)
structure xE(X:Cx)(ah:List (Addr×Obj))(σ:St)(c:Str)(H:Hp)(e:Value)(s:Shared):Prop where
 inv:bK X ah σ H s
 ex:∃x C t B,e=.ref x/\X.mg c=some C/\H x=none/\B.StaysIn s.heap/\B.get? x=none/\s.heap.FunFrames B X.stack /\
  (s.heap.TracedW B x C (.ref t)\/(∃oe vs,s.heap.get? x=some oe/\oe.cls=C/\oe.dict=none/\oe.data=.fields vs/\vs[1]?=some .none/\vs[0]?=some (.ref t))\/∃L,X.env.frame=some L/\s.heap.TracedAtW B x C (.ref t) (rawInt L)) /\
  ∀b o,s.heap.get? b=some o->(H b≠none\/((∃o0,X.s₀.heap.get? b=some o0)/\b∉X.fs/\b∉X.ex)\/((∃y,X.env.cells.lookup y=some b)/\b∉uM X.stack)\/∃p∈X.pn++ah,p.1=b)->B.get? b=some o
def XS(X:Cx)(c:Str)(μ:List Addr)(ρ:cy)(st:List am)(H:Hp):Prop:=
 ∀ah μ' σ' H' e s',μ <+: μ'->eS X.K H H'->Rl X μ' ρ st σ' H'->xE X ah σ' c H' e s'->X.xe e s'
def XE(X:Cx)(c:Str)(μ:List Addr)(st:List am)(σ:St)(H:Hp):Prop:=
 ∀ah μ' H' e s',μ <+: μ'->eS X.K H H'->iN X.K X.mg μ' st H'->xE X ah σ c H' e s'->X.xe e s'
theorem XE.mono{c:Str}{μ1:List Addr}{H1:Hp}(h:XE X c μ st σ H)(p:μ <+: μ1)(x:eS X.K H H1):XE X c μ1 st σ H1:=fun ah μ' H' e s' a b=>h ah μ' H' e s' (p.trans a) (x.trans b)
theorem XS.mono{c:Str}{μ1:List Addr}{ρ:cy}{H1:Hp}(h:XS X c μ ρ st H)(p:μ <+: μ1)(x:eS X.K H H1):XS X c μ1 ρ st H1:=fun ah μ' σ' H' e s' a b=>h ah μ' σ' H' e s' (p.trans a) (x.trans b)
theorem XS.toE{c:Str}{ρ:cy}{V5:List am}(h:XS X c μ ρ st H)(r:Rl X μ ρ V5 σ H):XE X c μ st σ H:=fun ah μ' H' e s' a b s f=>h ah μ' σ H' e s' a b (r.to a b s) f
def RK(X:Cx)(rel:List Addr->Hp->α->β->Prop)(μ:List Addr)(σ:St)(H:Hp)(Q:β->Hp->Prop):R α->Prop
 |.ok a bz=>∀μ' b H',μ <+: μ'->eS X.K H H'->iN X.K X.mg μ' bz H'->rel μ' H' a b->Q b H'
 |.ex c bz=>XE X c μ bz σ H
 |.bad=>False
theorem RK.mono{rel:List Addr->Hp->α->β->Prop}{μ1:List Addr}{H1:Hp}{Q:β->Hp->Prop}{r:R α}(h:RK X rel μ σ H Q r)(p:μ <+: μ1)(x:eS X.K H H1):RK X rel μ1 σ H1 Q r:=by
 cases r with
 |ok a st=>exact fun μ' b H' a1 b1=>h μ' b H' (p.trans a1) (x.trans b1)
 |ex c st=>exact XE.mono h p x
 |bad=>exact h
def tG(X:Cx)(rel:List Addr->Hp->α->β->Prop)(f:cy->List am->R α)(σ:St)(H:Hp)(Q:β->Hp->Prop):Prop:=
 ∃μ ρ st,Rl X μ ρ st σ H/\RK X rel μ σ H Q (f ρ st)
abbrev sQ(X:Cx):List Addr->Hp->W->V->Prop:=fun μ H w v=>bD X.K μ H w v
abbrev WA(X:Cx):List Addr->Hp->List W->List V->Prop:=fun μ H w v=>RelWs X.K μ H w v
abbrev PF:List Addr->Hp->Bool->Bool->Prop:=fun _ _ a b=>a=b
abbrev tE(X:Cx)(f:FE):TE:=tG X (sQ X) f
abbrev tT(X:Cx)(f:FT):TT:=tG X PF f
abbrev Tp(X:Cx)(f:FA):TA:=tG X (WA X) f
theorem RK.bind{α' β':Type}{rel:List Addr->Hp->α->β->Prop}{Vj:List Addr->Hp->α'->β'->Prop}{ρ:cy}{r:R α}{k:α->List am->R α'}{Q:β'->Hp->Prop}{T:β->Hp->Prop}
  (h:RK X Vj μ σ H Q (r.bind k)) (l:Rl X μ ρ st σ H)
  (hk:∀μ' bz x v H',μ <+: μ'->eS X.K H H'->Rl X μ' ρ bz σ H'->rel μ' H' x v->RK X Vj μ' σ H' Q (k x bz)->T v H'):RK X rel μ σ H T r:=by
 cases r with
 |ok a bz=>exact fun μ' b H' p x s q=>hk μ' bz a b H' p x (l.to p x s) q (RK.mono h p x)
 |ex c bz=>exact h
 |bad=>exact h
def SK(X:Cx)(μ:List Addr)(H:Hp)(D:zC):RS->Prop
 |.nx ρ st=>∀μ' σ' H',μ <+: μ'->eS X.K H H'->Rl X μ' ρ st σ' H'->D.nx σ' H'
 |.bk ρ st=>∀μ' σ' H',μ <+: μ'->eS X.K H H'->Rl X μ' ρ st σ' H'->D.bk σ' H'
 |.ct ρ st=>∀μ' σ' H',μ <+: μ'->eS X.K H H'->Rl X μ' ρ st σ' H'->D.ct σ' H'
 |.rt w st=>∀μ' v H',μ <+: μ'->eS X.K H H'->iN X.K X.mg μ' st H'->bD X.K μ' H' w v->D.rt v H'
 |.ex c ρ st=>XS X c μ ρ st H
 |.bad=>False
theorem SK.mono{μ1:List Addr}{H1:Hp}{D:zC}{r:RS}(h:SK X μ H D r)(p:μ <+: μ1)(x:eS X.K H H1):SK X μ1 H1 D r:=by
 cases r with
 |nx ρ st=>exact fun μ' b H' a1 b1=>h μ' b H' (p.trans a1) (x.trans b1)
 |bk ρ st=>exact fun μ' b H' a1 b1=>h μ' b H' (p.trans a1) (x.trans b1)
 |ct ρ st=>exact fun μ' b H' a1 b1=>h μ' b H' (p.trans a1) (x.trans b1)
 |rt w st=>exact fun μ' b H' a1 b1=>h μ' b H' (p.trans a1) (x.trans b1)
 |ex c ρ st=>exact XS.mono h p x
 |bad=>exact h
def WB(X:Cx)(g:FS):TS:=fun D σ H=>∃μ ρ st,Rl X μ ρ st σ H/\SK X μ H D (g ρ st)
structure SE(X:Cx)(e:Expr)(f:FE):Prop where
 h:PE X e (tE X f)
structure ST(X:Cx)(e:Expr)(f:FT):Prop where
 h:PT X e (tT X f)
structure SW(X:Cx)(e:Expr)(f:FT):Prop where
 h:PW X e (tT X f)
structure SA(X:Cx)(es:List Expr)(f:FA):Prop where
 h:PA X es (Tp X f)
structure SS(X:Cx)(s:Stmt)(g:FS):Prop where
 h:PS X s (WB X g)
structure SB(X:Cx)(s:List Stmt)(g:FS):Prop where
 h:Ex X s (WB X g)
theorem PE.imp{t t':TE}(h:PE X e t)(i:∀σ H Q,t' σ H Q->t σ H Q):PE X e t':=fun ah s σ H Q I q=>h ah s σ H Q I (i _ _ _ q)
theorem PT.imp{t t':TT}(h:PT X e t)(i:∀σ H Q,t' σ H Q->t σ H Q):PT X e t':=fun ah s σ H Q I q=>h ah s σ H Q I (i _ _ _ q)
theorem PW.imp{t t':TT}(h:PW X e t)(i:∀σ H Q,t' σ H Q->t σ H Q):PW X e t':=fun wh ah s σ H Q I q=>h wh ah s σ H Q I (i _ _ _ q)
theorem PA.imp{e:List Expr}{t t':TA}(h:PA X e t)(i:∀σ H Q,t' σ H Q->t σ H Q):PA X e t':=fun pos ah s σ H Q I q=>h pos ah s σ H Q I (i _ _ _ q)
theorem PS.imp{e:Stmt}{t t':TS}(h:PS X e t)(i:∀D σ H,t' D σ H->t D σ H):PS X e t':=fun ah s σ H D I q=>h ah s σ H D I (i _ _ _ q)
theorem Ex.imp{e:List Stmt}{t t':TS}(h:Ex X e t)(i:∀D σ H,t' D σ H->t D σ H):Ex X e t':=fun ah s σ H D I q=>h ah s σ H D I (i _ _ _ q)
section
variable{a b c:Expr}{x:Str}{f':List Expr}{fa fb fc fe:FE}{ft fu:FT}{fs:FA}
def af(i:Nat):FE:=fun ρ st=>match ρ[i]? with
 |some (some w)=>.ok w st
 |_=>.bad
theorem GL(i:Nat){pos:Pos}(hN:X.N[i]?=some x:=by rfl)(hv:Sf X.env.scope x:=by first|exact Or.inl rfl|exact Or.inr (Or.inl rfl)|exact Or.inr (Or.inr rfl))(hd:(x==("__debug__":Str))=false:=by decide)
  (FP:(x==("__classdict__":Str))=false:=by decide):SE X (.Name x pos) (af i):=⟨(pv i hN hv hd FP).imp fun σ H Q h=>by
 obtain⟨μ,ρ,st,r,h⟩:=h
 unfold af at h
 cases e:ρ[i]? with
 |none=>rw[e]at h;exact h.elim
 |some ow=>
  cases ow with
  |none=>rw[e]at h;exact h.elim
  |some w=>
   rw[e]at h
   obtain⟨v,e1,e2⟩:=vg r.env e
   exact⟨v,e1,h μ v H (aj _) eS.refl r.sto e2⟩⟩
def eC(w:W):FE:=fun _ st=>.ok w st
abbrev eI(n:Int):FE:=eC (.int n)
theorem Tq{w:W}{v:V}(hc:PE X e (tC v))(hr:∀μ H,bD X.K μ H w v):SE X e (eC w):=⟨hc.imp fun σ H Q h=>by
 obtain⟨μ,ρ,st,r,h⟩:=h
 exact h μ v H (aj _) eS.refl r.sto (hr _ _)⟩
theorem Tr{i:Int}:SE X (.Constant (.int i) j pos) (eC (.int i)):=Tq Ou fun _ _=>.int
theorem WC{k:Bool}:SE X (.Constant (.bool k) j pos) (eC (.bl k)):=Tq Si fun _ _=>.bl
theorem Ts:SE X (.Constant .none j pos) (eC .non):=Tq Ov fun _ _=>.non
theorem Mz(h:x=tx l:=by decide +kernel):SE X (.Constant (.str x) j pos) (eC (.str l)):=Tq Ox fun _ _=>by rw[h];exact .str
theorem Tt{w:W}(h:∃u v,X.mg x=some u/\cL v u/\∀μ H,bD X.K μ H w v)(hg:Gl X x:=by rfl)(hd:(x==("__debug__":Str))=false:=by decide):SE X (.Name x pos) (eC w):=by
 obtain⟨u,v,a,b,c⟩:=h
 exact Tq (Ta ⟨u,a,b⟩ hg hd) c
def e2(f:W->W->List am->R W)(fa fb:FE):FE:=fun ρ st=>(fa ρ st).bind fun x st=>(fb ρ st).bind fun y st=>f x y st
def FQ(X:Cx)(μ:List Addr)(H:Hp)(Q:VK):R W->Prop
 |.ok w bz=>∀μ' v H',μ <+: μ'->eS X.K H H'->iN X.K X.mg μ' bz H'->bD X.K μ' H' w v->Q v H'
 |_=>False
def uo:R α->Prop
 |.ex _ _=>False
 |_=>True
def WD(X:Cx)(f:W->W->List am->R W):R2:=fun x y H Q=>∃μ st wx wy,iN X.K X.mg μ st H/\bD X.K μ H wx x/\bD X.K μ H wy y/\FQ X μ H Q (f wx wy st)
structure vi(X:Cx)(g:Value->Value->Sem Value)(f:W->W->List am->R W):Prop where
 h:n6 X g (WD X f)
 n:∀x y st,uo (f x y st)
theorem sR{Q:VK}{r:R W}(h:RK X (sQ X) μ σ H Q r)(n:uo r):FQ X μ H Q r:=by
 cases r with
 |ok a st=>exact h
 |ex c st=>exact n.elim
 |bad=>exact h
theorem C7{f:W->W->List am->R W}{Q:VK}(n:∀x y st,uo (f x y st))(h:tE X (e2 f fa fb) σ H Q):Sx (WD X f) (tE X fa) (tE X fb) σ H Q:=by
 walk_at "2"
 refine⟨μ,ρ,st,l,RK.bind h l fun μ1 st1 x v H1 p1 x1 l1 q1 h1=>⟨μ1,ρ,st1,l1,RK.bind h1 l1 fun μ2 db y u H2 p2 x2 l2 q2 h2=>?_⟩⟩
 exact⟨μ2,db,x,y,l2.sto,q1.mono p2 x2,q2,sR h2 (n _ _ _)⟩
theorem WE{op:Operator}{f:W->W->List am->R W}(ho:vi X (binaryOp op) f)(ha:SE X a fa)(hb:SE X b fb):SE X (.BinOp a op b pos) (e2 f fa fb):=⟨(Sy ho.h ha.h hb.h).imp fun _ _ _ h=>C7 ho.n h⟩
theorem Tu{f:W->W->List am->R W}(ho:vi X (compareOp op) f)(ha:SE X a fa)(hb:SE X b fb)(hm:behindInMarks op b=false:=by first|exact F5 _|rfl):SE X (.Compare a [op] [b] pos) (e2 f fa fb):=⟨(KD ho.h ha.h hb.h hm).imp fun _ _ _ h=>C7 ho.n h⟩
def fG(fa:FE):FT:=fun ρ st=>(fa ρ st).bind fun x st=>match x with
 |.bl k=>.ok k st
 |_=>.bad
theorem rj{Q:Bool->Hp->Prop}(h:tT X (fG fa) σ H Q):tE X fa σ H fun x H1=>∃k,x=.bl k/\Q k H1:=by
 walk_at "2"
 walk_at "1"
 cases x with
 |bl k=>exact⟨k,q1.blE,h1 μ1 k H1 (aj _) eS.refl l1.sto rfl⟩
 |_=>exact h1.elim
theorem GM{f:W->W->List am->R W}(ho:vi X (compareOp op) f)(ha:SE X a fa)(hb:SE X b fb)(hm:behindInMarks op b=false:=by first|exact F5 _|rfl):ST X (.Compare a [op] [b] pos) (fG (e2 f fa fb)):=⟨(KF ho.h ha.h hb.h hm).imp fun σ H Q h=>by
 have h':tE X (e2 f fa fb) σ H fun x H1=>∃k,x=.bl k/\Q k H1:=rj h
 exact C7 ho.n h'⟩
theorem PH(h:SE X e fe)(he:∀wB,isTrue e X.env wB=(do let v <- wB;standAt e.pos;holding [v] (truthy v)):=by intro _;rfl):ST X e (fG fe):=⟨(Oz h.h he).imp fun σ H Q h=>rj h⟩
def Tv(t u:FT):FT:=fun ρ st=>(t ρ st).bind fun k st=>if k then u ρ st else .ok false st
def C8(t u:FT):FT:=fun ρ st=>(t ρ st).bind fun k st=>if k then .ok true st else u ρ st
def E1(t:FT):FT:=fun ρ st=>(t ρ st).bind fun k st=>.ok (!k) st
theorem PJ(ha:ST X a ft):SW X (.BoolOp .Or [a] pos) ft:=⟨OA ha.h⟩
theorem MA(ha:ST X a ft)(hb:SW X (.BoolOp .Or (b::f') pos) fu):SW X (.BoolOp .Or (a::b::f') pos) (C8 ft fu):=⟨(Sk ha.h hb.h).imp fun σ H Q h=>by
 walk_at "2"
 walk_at "1"
 cases q1
 cases x with
 |false=>exact⟨μ1,ρ,st1,l1,h1⟩
 |true=>exact h1 μ1 true H1 (aj _) eS.refl l1.sto rfl⟩
theorem WF(h:SW X e ft):ST X e ft:=⟨h.h.pt⟩
theorem PL(ha:ST X a ft):ST X (.UnaryOp .Not a pos) (E1 ft):=⟨(OB ha.h).imp fun σ H Q h=>by
 walk_at "2"
 walk_at "1"
 cases q1
 exact h1 μ1 _ H1 (aj _) eS.refl l1.sto rfl⟩
def Ah(fa fb:FE):FE:=fun ρ st=>(fa ρ st).bind fun x st=>match x with
 |.bl true=>fb ρ st
 |.bl false=>.ok (.bl false) st
 |_=>.bad
def PM(fa fb:FE):FE:=fun ρ st=>(fa ρ st).bind fun x st=>match x with
 |.bl true=>.ok (.bl true) st
 |.bl false=>fb ρ st
 |_=>.bad
def Li(fa:FE):FE:=fun ρ st=>(fa ρ st).bind fun x st=>match x with
 |.bl k=>.ok (.bl (!k)) st
 |_=>.bad
theorem Tw{op:BoolOp}(h:SE X a fa):SE X (.BoolOp op [a] pos) fa:=⟨OC h.h⟩
theorem Tx(ha:SE X a fa)(hb:SE X (.BoolOp .And (b::f') pos) fb):SE X (.BoolOp .And (a::b::f') pos) (Ah fa fb):=⟨(OD ha.h hb.h).imp fun σ H Q h=>by
 walk_at "2"
 walk_at "1"
 cases x with
 |bl k=>
  refine⟨k,q1.blE,?_⟩
  cases k with
  |true=>exact⟨μ1,ρ,st1,l1,h1⟩
  |false=>exact h1 μ1 _ H1 (aj _) eS.refl l1.sto .bl
 |_=>exact h1.elim⟩
theorem WG(ha:SE X a fa)(hb:SE X (.BoolOp .Or (b::f') pos) fb):SE X (.BoolOp .Or (a::b::f') pos) (PM fa fb):=⟨(Sn ha.h hb.h).imp fun σ H Q h=>by
 walk_at "2"
 walk_at "1"
 cases x with
 |bl k=>
  refine⟨k,q1.blE,?_⟩
  cases k with
  |false=>exact⟨μ1,ρ,st1,l1,h1⟩
  |true=>exact h1 μ1 _ H1 (aj _) eS.refl l1.sto .bl
 |_=>exact h1.elim⟩
theorem Tz(ha:SE X a fa):SE X (.UnaryOp .Not a pos) (Li fa):=⟨(OE ha.h).imp fun σ H Q h=>by
 walk_at "2"
 walk_at "1"
 cases x with
 |bl k=>exact⟨k,q1.blE,h1 μ1 _ H1 (aj _) eS.refl l1.sto .bl⟩
 |_=>exact h1.elim⟩
def Ai(t:FT)(fa fb:FE):FE:=fun ρ st=>(t ρ st).bind fun k st=>if k then fa ρ st else fb ρ st
theorem WH(hc:ST X c ft)(ha:SE X a fa)(hb:SE X b fb):SE X (.IfExp c a b pos) (Ai ft fa fb):=⟨(FX hc.h ha.h hb.h).imp fun σ H Q h=>by
 walk_at "2"
 walk_at "1"
 cases q1
 cases x with
 |false=>exact⟨μ1,ρ,st1,l1,h1⟩
 |true=>exact⟨μ1,ρ,st1,l1,h1⟩⟩
noncomputable def W.isNon:W->Bool
 |.non=>true
 |_=>false
def vj(fa:FE):FE:=fun ρ st=>(fa ρ st).bind fun x st=>.ok (.bl x.isNon) st
def mS(fa:FE):FE:=fun ρ st=>(fa ρ st).bind fun x st=>.ok (.bl (!x.isNon)) st
theorem MB{w:W}{v:V}(r:bD X.K μ H w v):decide (v=.non)=w.isNon:=by
 cases w with
 |non=>rw[r.nonE];rfl
 |bl b=>rw[r.blE];rfl
 |int b=>rw[r.intE];rfl
 |str b=>rw[r.strE];rfl
 |tup b=>obtain⟨p,vs,rfl,_⟩:=r.tupE;rfl
 |loc b=>obtain⟨p,_,rfl⟩:=r.locE;rfl
theorem MC{Q:VK}(h:tE X (vj fa) σ H Q):Sj (tE X fa) σ H Q:=by
 walk_at "2"
 walk_at "1"
 show Q (.bl (decide (v=.non))) H1
 rw[MB q1]
 exact h1 μ1 _ H1 (aj _) eS.refl l1.sto .bl
theorem PN{Q:VK}(h:tE X (mS fa) σ H Q):Mq (tE X fa) σ H Q:=by
 walk_at "2"
 walk_at "1"
 show Q (.bl (!decide (v=.non))) H1
 rw[MB q1]
 exact h1 μ1 _ H1 (aj _) eS.refl l1.sto .bl
theorem TB(ha:SE X a fa):SE X (.Compare a [.Is] [.Constant .none j ij] pos) (vj fa):=⟨(Oy (FV ha.h)).imp fun _ _ _ h=>MC h⟩
theorem PP(ha:SE X a fa):ST X (.Compare a [.Is] [.Constant .none j ij] pos) (fG (vj fa)):=⟨(FW (FV ha.h)).imp fun _ _ _ h=>MC (rj h)⟩
theorem Lj(ha:SE X a fa):ST X (.Compare a [.IsNot] [.Constant .none j ij] pos) (fG (mS fa)):=⟨(FW (Kr ha.h)).imp fun _ _ _ h=>PN (rj h)⟩
def aA:FA:=fun _ st=>.ok [] st
def ai(fa:FE)(fs:FA):FA:=fun ρ st=>(fa ρ st).bind fun x st=>(fs ρ st).bind fun xs st=>.ok (x::xs) st
theorem B1:SA X [] aA:=⟨F8.imp fun σ H Q h=>by
 walk_at "2"
 exact h μ [] H (aj _) eS.refl l.sto .nilI⟩
theorem yl(ha:SE X e fe)(hr:SA X es fs)(hs:starEach (e::es) X.env=(false,eval e X.env)::starEach es X.env:=by rfl):SA X (e::es) (ai fe fs):=⟨(x9 ha.h hr.h hs).imp fun σ H Q h=>by
 walk_at "2"
 refine⟨μ,ρ,st,l,RK.bind h l fun μ1 st1 x v H1 p1 x1 l1 q1 h1=>⟨μ1,ρ,st1,l1,RK.bind h1 l1 fun μ2 db xs vs H2 p2 x2 l2 q2 h2=>?_⟩⟩
 exact h2 μ2 _ H2 (aj _) eS.refl l2.sto (.consI (q1.mono p2 x2) q2)⟩
def TC(zs:List (List Nat)):FA:=fun _ st=>.ok (zs.map W.str) st
def rk(ws:List W)(st:List am):R W:=if ws.length<=ny then .ok (.tup ws) st else .bad
def kZ(ws:List W)(st:List am):R W:=if ws.length<=ny then .ok (.loc st.length) (st++[.lst ws])else .bad
def o_(fs:FA):FE:=fun ρ st=>(fs ρ st).bind fun ws st=>rk ws st
def ju(fs:FA):FE:=fun ρ st=>(fs ρ st).bind fun ws st=>kZ ws st
theorem iN.newLst(S:iN K mg μ st H){p:Addr}(hp:H p=none)(r:RelWs K μ H ws vs):iN K mg (μ++[p]) (st++[.lst ws]) (e_ H p (.lst vs)):=
 S.push hp ⟨vs,fg,r.mono (bp _ _) (gp.same (cQ hp _))⟩
theorem sT(S:iN K mg μ st H){p:Addr}:bD K (μ++[p]) H' (.loc st.length) (.ref p):=.locI (by rw[S.len];simp)
theorem GN{Q:VK}(S:iN X.K X.mg μ st H)(q:RelWs X.K μ H ws vs)(h:RK X (sQ X) μ σ H Q (rk ws st)):vs.length<=sizeLine/\∀p H2,H p=none->H2=e_ H p (.tup vs)->Q (.ref p) H2:=by
 unfold rk at h
 by_cases hz:ws.length<=ny
 ·rw[au hz]at h
  refine⟨by rw[<- q.len];exact nD hz,fun p H2 hp e=>?_⟩
  subst e
  have x:=gp.same (K:=X.K) (cQ hp (.tup vs))
  exact h μ _ _ (aj _) x (S.same (cQ hp _)) (.tupI gp.new (q.mono (aj _) x))
 ·rw[ay hz]at h;exact h.elim
theorem rq{σ:St}{Q:VK}(S:iN X.K X.mg μ st H)(q:RelWs X.K μ H ws vs)(h:RK X (sQ X) μ σ H Q (kZ ws st)):vs.length<=sizeLine/\∀p H2,H p=none->H2=e_ H p (.lst vs)->Q (.ref p) H2:=by
 unfold kZ at h
 by_cases hz:ws.length<=ny
 ·rw[au hz]at h
  refine⟨by rw[<- q.len];exact nD hz,fun p H2 hp e=>?_⟩
  subst e
  exact h (μ++[p]) _ _ (bp _ _) (gp.same (cQ hp _)) (S.newLst hp q) (sT S)
 ·rw[ay hz]at h;exact h.elim
theorem TD{k:Nat}(h:SA X es fs):SE X (.Tuple es k pos) (o_ fs):=⟨(K7 h.h).imp fun σ H Q h=>by
 walk_at "2"
 exact⟨μ,ρ,st,l,RK.bind h l fun μ1 st1 x v H1 p1 x1 l1 q1 h1=>GN l1.sto q1 h1⟩⟩
theorem TF(h:SA X es fs):SE X (.List es pos) (ju fs):=⟨(K8 h.h).imp fun σ H Q h=>by
 walk_at "2"
 exact⟨μ,ρ,st,l,RK.bind h l fun μ1 st1 x v H1 p1 x1 l1 q1 h1=>rq l1.sto q1 h1⟩⟩
end
section
theorem mj{Q:VK}{i:Int}(S:iN X.K X.mg μ st H)(h:FQ X μ H Q (.ok (.int i) st)):Q (.int i) H:=h μ _ H (aj _) eS.refl S .int
theorem nE{Q:VK}{i:Bool}(S:iN X.K X.mg μ st H)(h:FQ X μ H Q (.ok (.bl i) st)):Q (.bl i) H:=h μ _ H (aj _) eS.refl S .bl
theorem rA{Q:VK}{i:List Nat}(S:iN X.K X.mg μ st H)(h:FQ X μ H Q (.ok (.str i) st)):Q (.str (tx i)) H:=h μ _ H (aj _) eS.refl S .str
theorem GO{Q:VK}{r:R W}(h:FQ X μ H Q r):RK X (sQ X) μ σ H Q r:=by
 cases r with
 |ok a st=>exact h
 |ex c st=>exact h.elim
 |bad=>exact h
noncomputable def E2(C:Int->Int->Prop)[∀i j,Decidable (C i j)](f:Int->Int->Int):W->W->List am->R W
 |.int i,.int j,st=>if C i j then .ok (.int (f i j)) st else .bad
 |_,_,_=>.bad
theorem Aj{C C':Int->Int->Prop}[∀i j,Decidable (C' i j)]{f:Int->Int->Int}(h:n6 X g (rI C fun i j=>.int (f i j)))(hC:∀i j,C' i j->C i j):vi X g (E2 C' f):=⟨h.imp fun x y H Q zq=>by
 obtain⟨μ,st,wx,wy,S,rx,ry,q⟩:=zq
 cases wx with
 |int i=>
  cases wy with
  |int j=>
   simp only[E2]at q
   by_cases c:C' i j
   ·rw[au c]at q;exact⟨i,j,rx.intE,ry.intE,hC i j c,mj S q⟩
   ·rw[ay c]at q;exact q.elim
  |_=>exact q.elim
 |_=>cases wy<;>exact q.elim,fun x y st=>by
 unfold E2
 split
 ·split<;>trivial
 ·trivial⟩
noncomputable def E3(f:Int->Int->Bool):W->W->List am->R W
 |.int i,.int j,st=>.ok (.bl (f i j)) st
 |_,_,_=>.bad
theorem GP{f:Int->Int->Bool}(h:n6 X g (Kg fun i j=>.bl (f i j))):vi X g (E3 f):=⟨h.imp fun x y H Q zq=>by
 obtain⟨μ,st,wx,wy,S,rx,ry,q⟩:=zq
 cases wx with
 |int i=>
  cases wy with
  |int j=>exact⟨i,j,rx.intE,ry.intE,nE S q⟩
  |_=>exact q.elim
 |_=>cases wy<;>exact q.elim,fun x y st=>by
 unfold E3
 split<;>trivial⟩
abbrev PQ(i j:Int):Prop:=(-(2^64)<i/\i<2^64)\/(-(2^64)<j/\j<2^64)
abbrev uq:=E2 (fun _ _=>True) fun i j=>i-j
abbrev TH:=E2 PQ fun i j=>i*j
abbrev jr:=E2 (fun _ j=>0<j) fun i j=>i%j
abbrev rB:=E2 (fun _ j=>0<j/\j<1073741824) fun i j=>i/j
abbrev TJ:=E2 (fun i j=>0<=j/\j<=1000000/\i.natAbs<2^64) fun i j=>i^j.toNat
abbrev vm:=E2 (fun i j=>0<=j/\j<=1000000/\i.natAbs<2^64) fun i j=>i*2^j.toNat
abbrev B2:=E2 (fun _ j=>0<=j) fun i j=>i/2^j.toNat
abbrev Ak:=E2 (fun _ _=>True) fun i j=>Builtin.bitAnd i j
theorem GQ{f:Int->Int->V}(h:n6 X g (Kg f)):n6 X g (rI (fun _ _=>True) f):=h.imp fun _ _ _ _ zq=>by obtain⟨i,j,a,b,_,q⟩:=zq;exact ⟨i,j,a,b,q⟩
theorem TK:vi X (binaryOp .Sub) uq:=Aj (GQ OS) fun _ _ _=>trivial
theorem TL:vi X (binaryOp .Mult) TH:=Aj OT fun _ _ h=>h
theorem TM:vi X (binaryOp .Mod) jr:=Aj OU fun _ _ h=>h
theorem PR:vi X (binaryOp .FloorDiv) rB:=Aj KC fun _ _ h=>h
theorem TN:vi X (binaryOp .Pow) TJ:=Aj OV fun _ _ h=>h
theorem TQ:vi X (binaryOp .LShift) vm:=Aj F3 fun _ _ h=>h
theorem TR:vi X (binaryOp .RShift) B2:=Aj OW fun _ _ h=>h
theorem PU:vi X (binaryOp .BitAnd) Ak:=Aj (GQ OX) fun _ _ _=>trivial
def fx:W->W->List am->R W
 |.int i,.int j,st=>.ok (.int (i+j)) st
 |.str a,.str b,st=>if a.length+b.length<=ny then .ok (.str (a++b)) st else .bad
 |.tup a,.tup b,st=>rk (a++b) st
 |.loc n,.loc m,st=>match st[n]?,st[m]? with
  |some (.lst a),some (.lst b)=>kZ (a++b) st
  |_,_=>.bad
 |_,_,_=>.bad
theorem Lk(ws:List W)(st:List am):uo (rk ws st):=by unfold rk;split<;>trivial
theorem C9(ws:List W)(st:List am):uo (kZ ws st):=by unfold kZ;split<;>trivial
theorem TU:vi X (binaryOp .Add) fx:=⟨fun ah s σ H x y v u Q I rv ru zq=>by
 obtain⟨μ,st,wx,wy,S,rx,ry,q⟩:=zq
 cases wx with
 |int i=>
  cases wy with
  |int j=>exact OR ah s σ H x y v u Q I rv ru ⟨i,j,rx.intE,ry.intE,mj S q⟩
  |_=>exact q.elim
 |str a=>
  cases wy with
  |str b=>
   simp only[fx]at q
   by_cases c:a.length+b.length<=ny
   ·rw[au c]at q
    exact BD ah s σ H x y v u Q I rv ru ⟨_,_,rx.strE,ry.strE,by rw[i7,i7];exact nD c,by rw[BQ];exact rA S q⟩
   ·rw[ay c]at q;exact q.elim
  |_=>exact q.elim
 |tup a=>
  cases wy with
  |tup b=>
   obtain⟨p1,vs1,rfl,h1,r1⟩:=rx.tupE
   obtain⟨p2,vs2,rfl,h2,r2⟩:=ry.tupE
   have q':FQ X μ H Q (rk (a++b) st):=q
   unfold rk at q'
   by_cases c:(a++b).length<=ny
   ·rw[au c]at q'
    refine PB.h ah s σ H _ _ v u Q I rv ru ⟨p1,p2,vs1,vs2,rfl,rfl,h1,h2,by rw[<- r1.len,<- r2.len,<- aT];exact nD c,fun p H2 e t=>?_⟩
    exact q' μ _ _ (aj _) (gp.same e) (S.same e) (.tupI t ((r1.app r2).mono (aj _) (gp.same e)))
   ·rw[ay c]at q';exact q'.elim
  |_=>exact q.elim
 |loc n=>
  cases wy with
  |loc m=>
   simp only[fx]at q
   cases e1:st[n]? with
   |none=>rw[e1]at q;exact q.elim
   |some c1=>
    cases e2:st[m]? with
    |none=>rw[e1,e2]at q;cases c1<;>exact q.elim
    |some c2=>
     cases c1 with
     |lst a=>
      cases c2 with
      |lst b=>
       rw[e1,e2]at q
       obtain⟨a1,g1,vs1,k1,r1⟩:=S.get e1
       obtain⟨a2,g2,vs2,k2,r2⟩:=S.get e2
       obtain⟨b1,f1,rfl⟩:=rx.locE
       obtain⟨b2,f2,rfl⟩:=ry.locE
       rw[g1]at f1;cases f1
       rw[g2]at f2;cases f2
       obtain⟨hz,qq⟩:=rq (σ:=σ) S (r1.app r2) (GO q)
       exact K_ ah s σ H _ _ v u Q I rv ru ⟨a1,a2,vs1,vs2,rfl,rfl,k1,k2,by rw[<- aT];exact hz,qq⟩
      |_=>rw[e1,e2]at q;exact q.elim
     |_=>rw[e1,e2]at q;exact q.elim
  |_=>exact q.elim
 |_=>cases wy<;>exact q.elim,fun x y st=>by
 unfold fx
 split
 ·trivial
 ·split<;>trivial
 ·exact Lk _ _
 ·split
  ·exact C9 _ _
  ·trivial
 ·trivial⟩
abbrev TV:=E3 fun i j=>decide (i<j)
abbrev B3:=E3 fun i j=>decide (j<i)
abbrev MD:=E3 fun i j=>decide (j<=i)
theorem w_lt:vi X (compareOp .Lt) TV:=GP SC
theorem PV:vi X (compareOp .Gt) B3:=GP SD
theorem TW:vi X (compareOp .GtE) MD:=GP SF
end
mutual
noncomputable def ln:W->W->Option Bool
 |.non,.non=>some true
 |.bl a,.bl b=>some (a==b)
 |.bl a,.int b=>some ((if a then 1 else 0)==b)
 |.int a,.bl b=>some (a==(if b then 1 else 0))
 |.int a,.int b=>some (a==b)
 |.str a,.str b=>some (a==b)
 |.tup a,.tup b=>eqWs a b
 |.loc _,_=>none
 |.non,.loc _=>none
 |.bl _,.loc _=>none
 |.int _,.loc _=>none
 |.str _,.loc _=>none
 |.tup _,.loc _=>none
 |.non,.bl _=>some false
 |.non,.int _=>some false
 |.non,.str _=>some false
 |.non,.tup _=>some false
 |.bl _,.non=>some false
 |.bl _,.str _=>some false
 |.bl _,.tup _=>some false
 |.int _,.non=>some false
 |.int _,.str _=>some false
 |.int _,.tup _=>some false
 |.str _,.non=>some false
 |.str _,.bl _=>some false
 |.str _,.int _=>some false
 |.str _,.tup _=>some false
 |.tup _,.non=>some false
 |.tup _,.bl _=>some false
 |.tup _,.int _=>some false
 |.tup _,.str _=>some false
noncomputable def eqWs:List W->List W->Option Bool
 |[],[]=>some true
 |[],_::_=>some false
 |_::_,[]=>some false
 |x::xs,y::ys=>match ln x y,eqWs xs ys with
  |some a,some b=>some (a&&b)
  |_,_=>none
end
mutual
noncomputable def W.dep:W->Nat
 |.tup ws=>depWs ws+1
 |_=>0
noncomputable def depWs:List W->Nat
 |[]=>0
 |w::ws=>max w.dep (depWs ws)
end
theorem qG:∀(xs ys:List W) (b:Bool),eqWs xs ys=some b->∃e:Nat->Bool,(∀j (h1:j<xs.length) (h2:j<ys.length),ln xs[j] ys[j]=some (e j))/\((List.range (min xs.length ys.length)).all e&&xs.length==ys.length)=b
 |[],[],b,h=>by unfold eqWs at h;cases h;exact⟨fun _=>true,fun j h1=>absurd h1 (kW _),rfl⟩
 |[],y::ys,b,h=>by unfold eqWs at h;cases h;exact⟨fun _=>true,fun j h1=>absurd h1 (kW _),by simp⟩
 |x::xs,[],b,h=>by unfold eqWs at h;cases h;exact⟨fun _=>true,fun j _ h1=>absurd h1 (kW _),by simp⟩
 |x::xs,y::ys,b,h=>by
  unfold eqWs at h
  cases e1:ln x y with
  |none=>rw[e1]at h;simp at h
  |some a=>
   cases e2:eqWs xs ys with
   |none=>rw[e1,e2]at h;simp at h
   |some c=>
    rw[e1,e2]at h
    simp at h
    obtain⟨e,he,hb⟩:=qG xs ys c e2
    refine⟨fun j=>match j with|0=>a|j+1=>e j,fun j h1 h2=>?_,?_⟩
    ·cases j with
     |zero=>exact e1
     |succ j=>exact he j (jN h1) (jN h2)
    ·have m:min (x::xs).length (y::ys).length=min xs.length ys.length+1:=by simp only[a_];omega
     rw[m,dv,List.all_cons,List.all_map,<- h,<- hb]
     simp[dS,Bool.and_assoc]
theorem C_{a b:W}{x:V}{k:Bool}(hn:a.dep<=0)(ra:bD X.K μ H a x)(rb:bD X.K μ H b x)(he:ln a b=some k):k=true:=by
 cases a with
 |tup i=>unfold W.dep at hn;omega
 |non=>cases ra.nonE;cases b<;>first|(unfold ln at he;cases he;rfl)|cases rb.blE|cases rb.intE|cases rb.strE|(obtain⟨_,_,z,_⟩:=rb.tupE;cases z)|(unfold ln at he;cases he)
 |bl i=>cases ra.blE;cases b<;>first|(cases rb.blE;unfold ln at he;simp at he;exact he)|cases rb.nonE|cases rb.intE|cases rb.strE|(obtain⟨_,_,z,_⟩:=rb.tupE;cases z)|(unfold ln at he;cases he)
 |int i=>cases ra.intE;cases b<;>first|(cases rb.intE;unfold ln at he;simp at he;exact he)|cases rb.nonE|cases rb.blE|cases rb.strE|(obtain⟨_,_,z,_⟩:=rb.tupE;cases z)|(unfold ln at he;cases he)
 |str i=>cases ra.strE;cases b<;>first|(have z:=rb.strE;injection z with z;rw[Gn.mp z]at he;unfold ln at he;simp at he;exact he)|cases rb.nonE|cases rb.blE|cases rb.intE|(obtain⟨_,_,z,_⟩:=rb.tupE;cases z)|(unfold ln at he;cases he)
 |loc i=>cases b<;>(unfold ln at he;cases he)
theorem GR(I:bK X ah σ H s):∀(n:Nat) (a b:W) (x:V) (k:Bool),a.dep<=n->bD X.K μ H a x->bD X.K μ H b x->ln a b=some k->k=true:=by
 intro n
 induction n with
 |zero=>exact fun a b x k hn ra rb he=>C_ hn ra rb he
 |succ n ih=>
  intro a b x k hn ra rb he
  cases a with
  |tup i=>
   obtain⟨p',Br,rfl,hS',r'⟩:=ra.tupE
   cases b with
   |tup z=>
    obtain⟨p,vs,e,hS,r⟩:=rb.tupE
    cases e
    obtain rfl:=I.tuple_inj hS hS'
    have he':eqWs i z=some k:=by unfold ln at he;exact he
    have dn:depWs i<=n:=by unfold W.dep at hn;omega
    have key:∀(i z:List W) (vs:List V) (k:Bool),depWs i<=n->RelWs X.K μ H i vs->RelWs X.K μ H z vs->eqWs i z=some k->k=true:=by
     intro i
     induction i with
     |nil=>
      intro z vs k _ r' r he
      have e1:=r'.nilE
      subst e1
      cases z with
      |nil=>unfold eqWs at he;cases he;rfl
      |cons _ _=>have e2:=r.len;simp at e2
     |cons w i ih2=>
      intro z vs k dn r' r he
      obtain⟨x,xs,rfl,rx,rxs⟩:=r'.consE
      cases z with
      |nil=>have e2:=r.len;simp at e2
      |cons y z=>
       obtain⟨x2,xs2,e3,ry,rys⟩:=r.consE
       cases e3
       unfold eqWs at he
       cases e1:ln w y with
       |none=>rw[e1]at he;simp at he
       |some k1=>
        cases e2:eqWs i z with
        |none=>rw[e1,e2]at he;simp at he
        |some k2=>
         rw[e1,e2]at he
         simp at he
         unfold depWs at dn
         have q1:=ih w y x k1 #[0] rx ry e1
         have q2:=ih2 z xs k2 #[0] rxs rys e2
         rw[<- he,q1,q2];rfl
    exact key i z _ k dn r' r he'
   |non=>cases rb.nonE
   |bl z=>cases rb.blE
   |int z=>cases rb.intE
   |str z=>cases rb.strE
   |loc z=>unfold ln at he;cases he
  |_=>exact C_ (ax _) ra rb he
theorem sU:∀{ws:List W} {j:Nat} (h:j<ws.length),ws[j].dep<=depWs ws
 |w::ws,0,_=>by unfold depWs;exact Nat.le_max_left _ _
 |w::ws,j+1,h=>by unfold depWs;exact aR (sU (j:=j) (jN h)) (Nat.le_max_right _ _)
inductive Sh(s:Shared):W->Value->Prop
 |non:Sh s .non .none
 |bl (b:Bool):Sh s (.bl b) (.bool b)
 |int (i:Int) (t:Tok):Sh s (.int i) (.int i t)
 |str (l:List Nat) (t:Tok):Sh s (.str l) (.str (tx l) t)
 |tup (ws:List W) (p:Addr) (bw:List Value) (h:IsTup s.heap p bw.toArray):Sh s (.tup ws) (.ref p)
 |loc (n:Nat) (u:Value):Sh s (.loc n) u
section
theorem t5(I:bK X ah σ H s){a:W}{x:V}(ra:bD X.K μ H a x)(ru:cL x u):Sh s a u:=by
 cases a with
 |non=>cases ra.nonE;cases ru;exact .non
 |bl i=>cases ra.blE;cases ru;exact .bl _
 |int i=>cases ra.intE;obtain⟨t,rfl⟩:=ru;exact .int _ _
 |str i=>cases ra.strE;obtain⟨t,rfl⟩:=ru;exact .str _ _
 |tup i=>obtain⟨p,vs,rfl,hS,_⟩:=ra.tupE;cases ru;obtain⟨bw,_,ht,_⟩:=I.tuple hS;exact .tup _ _ _ ht
 |loc i=>exact .loc _ _
open SeqAt.EqAt in
theorem Da{a b:W}{k:Bool}(ha:Sh s a u)(hb:Sh s b v)(hu:A.units<cLine)(ht:b.dep=0\/a.dep=0)(he:ln a b=some k):SeqAt.EqAt A s u v k:=by
 cases ha<;>cases hb<;>first
  |(unfold ln at he;cases he;done)
  |(unfold ln at he;cases he;with_reducible first|exact same _|exact bool_none _|exact bool_bool _ _|exact bool_int _ _ _|exact bool_str _ _ _|exact int_none _ _|exact int_bool _ _ _|exact int_int _ _ _ _|exact int_str _ _ _ _|exact str_none _ _|exact str_bool _ _ _|exact str_int _ _ _ _|exact none_bool _|exact none_int _ _|exact none_str _ _)
  |(unfold ln at he;cases he;(with_reducible first|refine' bool_tuple _ ?_ hu|refine' int_tuple _ _ ?_ hu|refine' str_tuple _ _ ?_ hu|refine' tuple_none ?_ hu|refine' tuple_bool _ ?_ hu|refine' tuple_int _ _ ?_ hu|refine' tuple_str _ _ ?_ hu|refine' none_tuple ?_ hu);rotate_left;assumption)
  |(unfold W.dep at ht;omega)
  |skip
 rename_i i t z r
 unfold ln at he;cases he
 have:=str_str (A:=A) (s:=s) (tx i) t (tx z) r
 rw[<- qy]at this
 exact this
open SeqAt.RcAt in
theorem Ll{a b:W}{k:Bool}(ha:Sh s a u)(hb:Sh s b v)(hu:A.units<cLine)(ht:b.dep=0\/a.dep=0)(he:ln a b=some k):SeqAt.RcAt A s u v k:=by
 cases ha<;>cases hb<;>first
  |(unfold ln at he;cases he;done)
  |(unfold ln at he;cases he;with_reducible first|exact none_none|exact bool_none _|exact bool_bool _ _|exact bool_int _ _ _|exact bool_str _ _ _|exact int_none _ _|exact int_bool _ _ _|exact int_int _ _ _ _|exact int_str _ _ _ _|exact str_none _ _|exact str_bool _ _ _|exact str_int _ _ _ _|exact none_bool _|exact none_int _ _|exact none_str _ _)
  |(unfold ln at he;cases he;(with_reducible first|refine' bool_tuple _ ?_ hu|refine' int_tuple _ _ ?_ hu|refine' str_tuple _ _ ?_ hu|refine' tuple_none ?_ hu|refine' tuple_bool _ ?_ hu|refine' tuple_int _ _ ?_ hu|refine' tuple_str _ _ ?_ hu|refine' none_tuple ?_ hu);rotate_left;assumption)
  |(unfold W.dep at ht;omega)
  |skip
 rename_i i t z r
 unfold ln at he;cases he
 have:=str_str (A:=A) (s:=s) (tx i) t (tx z) r
 rw[<- qy]at this
 exact this
open SeqAt.RcNeAt in
theorem E4         {a b:W}  {k:Bool} (ha : Sh s a u) (hb : Sh s b v) (hu : A.units < cLine) (ht : b.dep = 0 \/ a.dep = 0) (he : ln  a b = some k) : SeqAt.RcNeAt A s u v (!k) := by
  cases ha <;> cases hb <;> first
    | (unfold ln  at he; cases he; done)
    | (unfold ln  at he; cases he; try simp only [Bool.not_true, Bool.not_false]
       with_reducible first | exact none_none | exact bool_none _ | exact bool_bool _ _ | exact bool_int _ _ _ | exact bool_str _ _ _ | exact int_none _ _ | exact int_bool _ _ _ | exact int_int _ _ _ _ | exact int_str _ _ _ _ | exact str_none _ _ | exact str_bool _ _ _ | exact str_int _ _ _ _ | exact none_bool _ | exact none_int _ _ | exact none_str _ _)
    | (unfold ln  at he; cases he; try simp only [Bool.not_true, Bool.not_false]
       (with_reducible first | refine' bool_tuple _ ?_ hu | refine' int_tuple _ _ ?_ hu | refine' str_tuple _ _ ?_ hu | refine' tuple_none ?_ hu | refine' tuple_bool _ ?_ hu | refine' tuple_int _ _ ?_ hu | refine' tuple_str _ _ ?_ hu | refine' none_tuple ?_ hu); rotate_left; assumption)
    | (unfold W.dep at ht; omega)
    | skip
  rename_i i t z r
  unfold ln  at he; cases he
  have := str_str (A := A) (s := s) (tx i) t (tx z) r
  rw [<- qy           ] at this
  exact this
theorem Al{i z:List W}{Br:List V}{its':List Value}{e:Nat->Bool}{A:Around}(ih:∀(a b:W) (A:Around) (x y:V) (u v:Value) (k:Bool),a.dep<=m->bD X.K μ H a x->bD X.K μ H b y->cL x u->cL y v->A.units+m<cLine->ln a b=some k->SeqAt.EqAt A s u v k)
  (r':RelWs X.K μ H i Br) (r:RelWs X.K μ H z vs) (w':cG Br its') (w:cG vs bw) (hd:depWs i<=m) (hu:A.units+1+m<cLine) (h1:∀j (h1:j<i.length) (h2:j<z.length),ln i[j] z[j]=some (e j)):∀j (j1:j<its'.toArray.size) (j2:j<bw.toArray.size),SeqAt.EqAt A.in1 s its'.toArray[j] bw.toArray[j] (e j):=fun j j1 j2=>by
 have j1':j<i.length:=by rw[r'.len,w'.length];simpa using j1
 have j2':j<z.length:=by rw[r.len,w.length];simpa using j2
 obtain⟨x1,g1,q1⟩:=r'.get (ae j1')
 obtain⟨x2,g2,q2⟩:=r.get (ae j2')
 obtain⟨u1,f1,v1⟩:=w'.get g1
 obtain⟨u2,f2,v2⟩:=w.get g2
 have E:=ih i[j] z[j] A.in1 x1 x2 u1 u2 (e j) (aR (sU j1') hd) q1 q2 v1 v2 hu (h1 j j1' j2')
 have t1:its'.toArray[j]=u1:=by simpa using (ac.mp f1).2
 have t2:bw.toArray[j]=u2:=by simpa using (ac.mp f2).2
 rw[t1,t2];exact E
theorem GS(I:bK X ah σ H s):∀(n:Nat) (a b:W) (A:Around) (x y:V) (u v:Value) (k:Bool),a.dep<=n->bD X.K μ H a x->bD X.K μ H b y->cL x u->cL y v->A.units+n<cLine->ln a b=some k->SeqAt.EqAt A s u v k:=by
 intro n
 induction n with
 |zero=>exact fun a b A x y u v k hn ra rb ru rv hu he=>Da (t5 I ra ru) (t5 I rb rv) hu (.inr (by omega)) he
 |succ m ih=>
  intro a b A x y u v k hn ra rb ru rv hu he
  by_cases hb:b.dep=0\/a.dep=0
  ·exact Da (t5 I ra ru) (t5 I rb rv) #[0] hb he
  ·cases b with
   |tup z=>
    cases a with
    |tup i=>
     obtain⟨p',Br,rfl,hS',r'⟩:=id ra.tupE;cases ru;obtain⟨its',w',ht',_⟩:=I.tuple hS'
     obtain⟨p,vs,rfl,hS,r⟩:=id rb.tupE;cases rv;obtain⟨bw,w,ht,_⟩:=I.tuple hS
     by_cases hpp:p'=p
     ·subst hpp
      rw[GR I (m+1) (.tup i) (.tup z) (.ref p') k hn ra rb he]
      exact SeqAt.EqAt.same _
     ·obtain⟨e,h1,h2⟩:=qG i z k (by unfold ln at he;exact he)
      have R:=SeqAt.RcAt.tuples (A:=A) (e:=e) ht' ht #[0] (Al ih r' r w' w (by unfold W.dep at hn;omega) #[0] h1)
      rw[show its'.toArray.size=i.length by simp[<- w'.length,<- r'.len],show bw.toArray.size=z.length by simp[<- w.length,<- r.len],h2]at R
      exact SeqAt.EqAt.of_refs hpp R
    |_=>exact(hb (.inr rfl)).elim
   |_=>exact(hb (.inl rfl)).elim
theorem GT(I:bK X ah σ H s){a b:W}{x:V}{k:Bool}(hn:b.dep=0\/a.dep<=n)(ra:bD X.K μ H a x)(rb:bD X.K μ H b y)(ru:cL x u)(rv:cL y v)(hu:A.units+n<cLine)(he:ln a b=some k):SeqAt.RcAt A s u v k/\SeqAt.RcNeAt A s u v (!k):=by
 by_cases hb:b.dep=0\/a.dep=0
 ·exact⟨Ll (t5 I ra ru) (t5 I rb rv) #[0] hb he,E4 (t5 I ra ru) (t5 I rb rv) #[0] hb he⟩
 cases b with
 |tup z=>
  cases a with
  |tup i=>
   obtain⟨p',Br,rfl,hS',r'⟩:=ra.tupE;cases ru;obtain⟨its',w',ht',_⟩:=I.tuple hS'
   obtain⟨p,vs,rfl,hS,r⟩:=rb.tupE;cases rv;obtain⟨bw,w,ht,_⟩:=I.tuple hS
   obtain⟨e,h1,h2⟩:=qG i z k (by unfold ln at he;exact he)
   have hd:depWs i+1<=n:=hn.elim (fun z=>(hb (.inl z)).elim) id
   obtain⟨m,rfl⟩:∃m,n=m+1:=⟨n-1,by omega⟩
   have T:=Al (A:=A) (GS I m) r' r w' w #[0] #[0] h1
   have R:=SeqAt.RcAt.tuples (A:=A) (e:=e) ht' ht #[0] T
   have R2:=SeqAt.RcNeAt.tuples (A:=A) (e:=e) ht' ht #[0] T
   rw[show its'.toArray.size=i.length by simp[<- w'.length,<- r'.len],show bw.toArray.size=z.length by simp[<- w.length,<- r.len],h2]at R R2
   exact⟨R,R2⟩
  |_=>exact(hb (.inr rfl)).elim
 |_=>exact(hb (.inl rfl)).elim
end
def qW:W->W->List am->R W:=fun x y st=>match ln x y with
 |some k=>if y.dep=0\/x.dep<=64 then .ok (.bl k) st else .bad
 |none=>.bad
theorem TX{k:Nat}(hr:h_ k X.A):vi X (compareOp .Eq) qW:=⟨fun ah s σ H x y v u Q I rv ru zq=>by
 obtain⟨μ,st,wx,wy,S,rx,ry,q⟩:=zq
 unfold qW at q
 cases e:ln wx wy with
 |none=>rw[e]at q;exact q.elim
 |some b=>
  rw[e]at q
  simp only at q
  by_cases c:wy.dep=0\/wx.dep<=64
  ·rw[au c]at q
   have:=hr.units
   exact(GT I c rx ry rv ru this e).1 X.prog X.w X.xe _ ⟨.bl b,H,I,rfl,nE S q⟩
  ·rw[ay c]at q;exact q.elim,fun x y st=>by
 unfold qW
 split
 ·split<;>trivial
 ·trivial⟩
def FR:W->W->List am->R W:=fun x y st=>match ln x y with
 |some k=>if y.dep=0\/x.dep<=64 then .ok (.bl (!k)) st else .bad
 |none=>.bad
theorem TY{k:Nat}(hr:h_ k X.A):vi X (compareOp .NotEq) FR:=⟨fun ah s σ H x y v u Q I rv ru zq=>by
 obtain⟨μ,st,wx,wy,S,rx,ry,q⟩:=zq
 unfold FR at q
 cases e:ln wx wy with
 |none=>rw[e]at q;exact q.elim
 |some b=>
  rw[e]at q
  simp only at q
  by_cases c:wy.dep=0\/wx.dep<=64
  ·rw[au c]at q
   have:=hr.units
   exact(GT I c rx ry rv ru this e).2 X.prog X.w X.xe _ ⟨.bl (!b),H,I,rfl,nE S q⟩
  ·rw[ay c]at q;exact q.elim,fun x y st=>by
 unfold FR
 split
 ·split<;>trivial
 ·trivial⟩
def ur(x:W):List W->Option Bool
 |[]=>some false
 |y::ys=>match ln y x,ur x ys with
  |some a,some b=>some (a||b)
  |_,_=>none
def rC(Vu:Bool)(x y:W)(st:List am):R W:=match y with
 |.str l=>(match x with
  |.str [c]=>.ok (.bl (if Vu then !decide (c∈l)else decide (c∈l))) st
  |_=>.bad)
 |.tup ys=>(match ur x ys with
  |some k=>if depWs ys<=63 then .ok (.bl (if Vu then !k else k)) st else .bad
  |none=>.bad)
 |.loc n=>(match st[n]? with
  |some (.lst ys)=>(match ur x ys with
   |some k=>if depWs ys<=63 then .ok (.bl (if Vu then !k else k)) st else .bad
   |none=>.bad)
  |_=>.bad)
 |_=>.bad
theorem Am{x:W}:∀{ys:List W} {k:Bool},ur x ys=some k->(∀(j:Nat) w,ys[j]?=some w->∃b,ln w x=some b)/\(k=true↔∃(j:Nat) (w:W),ys[j]?=some w/\ln w x=some true)
 |[],k,h=>by
  unfold ur at h;cases h
  exact⟨fun j w e=>by simp at e,fun z=>(by cases z),fun⟨j,w,e,_⟩=>(by simp at e)⟩
 |y::ys,k,h=>by
  unfold ur at h
  cases e1:ln y x with
  |none=>rw[e1]at h;simp at h
  |some a=>
   cases e2:ur x ys with
   |none=>rw[e1,e2]at h;simp at h
   |some b=>
    rw[e1,e2]at h
    simp at h
    obtain⟨q1,q2⟩:=Am e2
    refine⟨fun j w e=>?_,fun z=>?_,fun⟨j,w,e,f⟩=>?_⟩
    ·cases j with
     |zero=>simp at e;subst e;exact⟨a,e1⟩
     |succ j=>exact q1 j w (by simpa using e)
    ·rw[<- h]at z
     cases a with
     |true=>exact⟨0,y,rfl,e1⟩
     |false=>
      obtain⟨j,w,p,q⟩:=q2.mp (by simpa using z)
      exact⟨j+1,w,by simpa using p,q⟩
    ·rw[<- h]
     cases j with
     |zero=>simp at e;subst e;rw[e1]at f;cases f;rfl
     |succ j=>rw[q2.mpr ⟨j,w,by simpa using e,f⟩];simp
theorem nF(I:bK X ah σ H s){wx:W}{x:V}(rx:bD X.K μ H wx x)(rv:cL x v)(n:Nat){A:Around}(hu:A.units+n<cLine)
  {ys:List W} {vs:List V} {us:List Value} {k:Bool} (hd:depWs ys<=n) (rs:RelWs X.K μ H ys vs) (qS:cG vs us) (ha:ur wx ys=some k):∃e:Value->Bool,(∀u,u∈us.toArray->SeqAt.EqAt A s u v (e u))/\us.toArray.any e=k:=by
 classical
 obtain⟨q1,q2⟩:=Am ha
 have at':∀(j:Nat) (u:Value),us[j]?=some u->∃w b,ys[j]?=some w/\ln w wx=some b/\SeqAt.EqAt A s u v b:=fun j u e=>by
  have hj:j<ys.length:=by
   have h1:=(ac.mp e).1
   rw[rs.len,qS.length];exact h1
  obtain⟨b,hb⟩:=q1 j ys[j] (ae hj)
  obtain⟨y,g1,r1⟩:=rs.get (ae hj)
  obtain⟨u',f1,v1⟩:=qS.get g1
  rw[e]at f1;cases f1
  exact⟨_,b,ae hj,hb,GS I n ys[j] wx A y x u v b (aR (sU hj) hd) r1 rx v1 rv hu hb⟩
 refine⟨fun u=>decide (∃(j:Nat) (w:W),us[j]?=some u/\ys[j]?=some w/\ln w wx=some true),fun u hu=>?_,?_⟩
 ·by_cases c:∃(j:Nat) (w:W),us[j]?=some u/\ys[j]?=some w/\ln w wx=some true
  ·show SeqAt.EqAt A s u v (decide _)
   rw[ba c]
   obtain⟨j,w,e1,e2,e3⟩:=c
   obtain⟨w',b,f1,f2,f3⟩:=at' j u e1
   rw[e2]at f1;cases f1
   rw[e3]at f2;cases f2
   exact f3
  ·show SeqAt.EqAt A s u v (decide _)
   rw[bc c]
   obtain⟨j,hj,e⟩:=List.mem_iff_getElem.mp (show u∈us by simpa using hu)
   have e':us[j]?=some u:=by rw[ae hj,e]
   obtain⟨w',b,f1,f2,f3⟩:=at' j u e'
   cases b with
   |false=>exact f3
   |true=>exact absurd ⟨j,w',e',f1,f2⟩ c
 ·rw[List.any_toArray]
  cases k with
  |true=>
   obtain⟨j,w,e1,e2⟩:=q2.mp rfl
   have hj:j<us.length:=by rw[<- qS.length,<- rs.len];exact(ac.mp e1).1
   exact j'.mpr ⟨us[j],dJ hj,ba ⟨j,w,ae hj,e1,e2⟩⟩
  |false=>
   refine mE.mpr fun u _ c=>?_
   obtain⟨j,w,_,e1,e2⟩:=g7 c
   have:=q2.mpr ⟨j,w,e1,e2⟩
   cases this
theorem TZ{k:Nat}(hr:h_ k X.A):vi X (compareOp .In) (rC false):=⟨fun ah s σ H x y v u Q I rv ru zq=>by
 obtain⟨μ,st,wx,wy,S,rx,ry,q⟩:=zq
 have hu:=hr.units
 cases wy with
 |str l=>
  simp only[rC]at q
  split at q
  ·exact ER ah s σ H x y v u Q I rv ru ⟨_,_,rx.strE,ry.strE,nE S q⟩
  ·exact q.elim
 |tup ys=>
  simp only[rC]at q
  cases hk:ur wx ys with
  |none=>rw[hk]at q;exact q.elim
  |some kk=>
   rw[hk]at q
   simp only at q
   by_cases c:depWs ys<=63
   ·rw[au c]at q
    obtain⟨p,vs,rfl,hS,r⟩:=ry.tupE
    cases ru
    obtain⟨bw,w,ht,_⟩:=I.tuple hS
    obtain⟨e,he,ha⟩:=nF (A:=X.A.in1) I rx rv 63 (by show X.A.units+1+63<cLine;omega) c r w hk
    exact SeqAt.in_tupleAt e ht he ⟨.bl _,H,I,rfl,by rw[ha];exact nE S q⟩
   ·rw[ay c]at q;exact q.elim
 |loc n=>
  simp only[rC]at q
  cases e1:st[n]? with
  |none=>rw[e1]at q;exact q.elim
  |some cc=>
   rw[e1]at q
   cases cc with
   |lst ys=>
    simp only at q
    cases hk:ur wx ys with
    |none=>rw[hk]at q;exact q.elim
    |some kk=>
     rw[hk]at q
     simp only at q
     by_cases c:depWs ys<=63
     ·rw[au c]at q
      obtain⟨a1,g1,vs,k1,r⟩:=S.get e1
      obtain⟨b1,f1,rfl⟩:=ry.locE
      rw[g1]at f1;cases f1
      cases ru
      obtain⟨bw,w,ht,_⟩:=I.list (p8.of k1)
      obtain⟨e,he,ha⟩:=nF (A:=X.A.in1) I rx rv 63 (by show X.A.units+1+63<cLine;omega) c r w hk
      exact SeqAt.in_listAt e ht.isList he ⟨.bl _,H,I,rfl,by rw[ha];exact nE S q⟩
     ·rw[ay c]at q;exact q.elim
   |_=>exact q.elim
 |_=>exact q.elim,fun x y st=>by
 unfold rC
 repeat' split
 all_goals trivial⟩
theorem ME{k:Nat}(hr:h_ k X.A):vi X (compareOp .NotIn) (rC true):=⟨fun ah s σ H x y v u Q I rv ru zq=>by
 obtain⟨μ,st,wx,wy,S,rx,ry,q⟩:=zq
 have hu:=hr.units
 cases wy with
 |str l=>
  simp only[rC]at q
  split at q
  ·exact yg ah s σ H x y v u Q I rv ru ⟨_,_,rx.strE,ry.strE,nE S q⟩
  ·exact q.elim
 |tup ys=>
  simp only[rC]at q
  cases hk:ur wx ys with
  |none=>rw[hk]at q;exact q.elim
  |some kk=>
   rw[hk]at q
   simp only at q
   by_cases c:depWs ys<=63
   ·rw[au c]at q
    obtain⟨p,vs,rfl,hS,r⟩:=ry.tupE
    cases ru
    obtain⟨bw,w,ht,_⟩:=I.tuple hS
    obtain⟨e,he,ha⟩:=nF (A:=X.A.in1) I rx rv 63 (by show X.A.units+1+63<cLine;omega) c r w hk
    exact SeqAt.notIn_tupleAt e ht he ⟨.bl _,H,I,rfl,by rw[ha];exact nE S q⟩
   ·rw[ay c]at q;exact q.elim
 |loc n=>
  simp only[rC]at q
  cases e1:st[n]? with
  |none=>rw[e1]at q;exact q.elim
  |some cc=>
   rw[e1]at q
   cases cc with
   |lst ys=>
    simp only at q
    cases hk:ur wx ys with
    |none=>rw[hk]at q;exact q.elim
    |some kk=>
     rw[hk]at q
     simp only at q
     by_cases c:depWs ys<=63
     ·rw[au c]at q
      obtain⟨a1,g1,vs,k1,r⟩:=S.get e1
      obtain⟨b1,f1,rfl⟩:=ry.locE
      rw[g1]at f1;cases f1
      cases ru
      obtain⟨bw,w,ht,_⟩:=I.list (p8.of k1)
      obtain⟨e,he,ha⟩:=nF (A:=X.A.in1) I rx rv 63 (by show X.A.units+1+63<cLine;omega) c r w hk
      exact SeqAt.notIn_listAt e ht.isList he ⟨.bl _,H,I,rfl,by rw[ha];exact nE S q⟩
     ·rw[ay c]at q;exact q.elim
   |_=>exact q.elim
 |_=>exact q.elim,fun x y st=>by
 unfold rC
 repeat' split
 all_goals trivial⟩
section
variable{w:World}
theorem An{t sl:Addr}{items:Array Value}{vl vu:Value}{lo hi:Option Int}(ht:IsTup s.heap t items)(hs:s.heap.IsSliceOf sl vl vu .none)(pl:IsPart vl lo)(pu:IsPart vu hi)
  (hw:HT.sIx items.size 0 lo=0/\HT.sIx items.size items.size hi=items.size) (h:Q (.ref t) s):wpAny #[5] A (getItem (.ref t) (.ref sl)) Q E s:=by
 obtain⟨os,hos,hcs,N7⟩:=id hs
 have hTs:s.TypeIs (.ref sl) "slice":=⟨os,hos,hcs⟩
 unfold getItem
 try with_reducible refine dO ?_
 first|refine aa (aq ?_)|skip
 refine aa (wpAny_sequenceKey ht.typeIs #[1] ?_)
 refine aa (bn (name:=Str.ofString "__getitem__") ht.typeIs d_
  (br d_ ht.typeIs entry_tuple_getitem ?_ (args_tuple_getitem _ _)))
 show wpAny _ _ (Builtin.Tuple.tupleItemsOf (.ref t) >>= _) _ _ s
 refine aa (tupleItemsOf_ ht ?_)
 refine aa (lx hTs ?_)
 rw[au #[1]]
 refine aa (HT.sliceApplied_gen hs pl pu ?_)
 have hyes:(((HT.sIx items.size 0 lo:Nat):Int)==0&&(1:Int)==1&&(HT.sIx items.size items.size hi-HT.sIx items.size 0 lo)==items.size)=true:=by
  rw[hw.1,hw.2];simp
 show wpAny _ _ (if (((HT.sIx items.size 0 lo:Nat):Int)==0&&(1:Int)==1&&(HT.sIx items.size items.size hi-HT.sIx items.size 0 lo)==items.size)=true then _ else _) _ _ s
 rw[au hyes]
 unfold Builtin.Tuple.tupleIsExact
 obtain⟨ot,hot,hct,nt,hdt⟩:=id ht
 refine aa (aa (lx (T:="tuple") ht.typeIs ?_))
 refine aq ?_
 rw[au #[1]]
 exact aa (jf (aq ⟨_,rfl,aq h⟩))
end
section
variable{a b c:Expr}{x:Str}{fa fb fc fe:FE}{fs:FA}
noncomputable def lstOf(st:List am)(n:Nat):Option (List W):=match st[n]? with
 |some (.lst ws)=>some ws
 |some (.ro ws)=>some ws
 |_=>none
theorem iN.lstOf(S:iN K mg μ st H)(h:lstOf st n=some ws):∃a vs,μ[n]?=some a/\p8 K H a vs/\RelWs K μ H ws vs:=by
 unfold L2.lstOf at h
 cases e:st[n]? with
 |none=>rw[e]at h;cases h
 |some cc=>
  rw[e]at h
  cases cc with
  |lst zs=>cases h;obtain⟨a,g,vs,k,r⟩:=S.get e;exact⟨a,vs,g,p8.of k,r⟩
  |ro zs=>cases h;obtain⟨a,g,vs,k,r⟩:=S.get e;exact⟨a,vs,g,k.sq,r⟩
  |exc zs=>cases h
  |dct zs=>cases h
  |rod zs=>cases h
  |dcx zs=>cases h
  |rox zs=>cases h
  |obj _ _=>cases h
  |tab _ _ _=>cases h
  |pin _ _ _ _=>cases h
  |gone=>cases h
noncomputable def sV(o:Option α)(k:α->R W):R W:=match o with
 |some a=>k a
 |none=>.bad
@[simp] theorem dH{α:Type}(a:α)(k:α->R W):sV (some a) k=k a:=rfl
def bI(x y:W)(st:List am):R W:=match x,y with
 |.tup ws,.int i=>sV (tU ws i) fun w=>.ok w st
 |.str l,.int i=>if l.length<=ny then sV (tU l i) (fun c=>.ok (.str [c]) st)else .bad
 |.loc n,.int i=>sV (lstOf st n) fun ws=>sV (tU ws i) fun w=>.ok w st
 |_,_=>.bad
theorem Db{i:Int}{w:W}(r:RelWs K μ H ws vs)(h:tU ws i=some w):∃v,tU vs i=some v/\bD K μ H w v:=by
 unfold tU at h ⊢
 rw[<- r.len]
 cases e:CW ws.length i with
 |none=>rw[e]at h;cases h
 |some k=>rw[e]at h;exact r.get h
theorem WI:Kh X (WD X bI):=fun value slice ah s σ H x y v u Q I rv ru zq hs=>by
 obtain⟨μ,st,wx,wy,S,rx,ry,q⟩:=zq
 refine Pg value slice ah s σ H x y v u Q I rv ru ?_ hs
 cases wy with
 |int i=>
  cases wx with
  |tup ws=>
   simp only[bI]at q
   cases e1:tU ws i with
   |none=>rw[e1]at q;exact q.elim
   |some w=>
    rw[e1]at q
    obtain⟨p,vs,rfl,hS,r⟩:=rx.tupE
    obtain⟨z,f,g⟩:=Db r e1
    exact .inr (.inl ⟨p,vs,i,z,rfl,ry.intE,hS,f,q μ z H (aj _) eS.refl S g⟩)
  |str l=>
   simp only[bI]at q
   by_cases c:l.length<=ny
   ·rw[au c]at q
    cases e1:tU l i with
    |none=>rw[e1]at q;exact q.elim
    |some w=>
     rw[e1]at q
     exact .inr (.inr ⟨_,i,w,rx.strE,ry.intE,by rw[i7];exact nD c,by rw[Ps];exact e1,rA S q⟩)
   ·rw[ay c]at q;exact q.elim
  |loc n=>
   simp only[bI]at q
   cases e0:lstOf st n with
   |none=>rw[e0]at q;exact q.elim
   |some ws=>
    rw[e0]at q
    cases e1:tU ws i with
    |none=>rw[dH,e1]at q;exact q.elim
    |some w=>
     rw[dH,e1]at q
     obtain⟨a,vs,g,hS,r⟩:=S.lstOf e0
     obtain⟨b1,f1,rfl⟩:=rx.locE
     rw[g]at f1;cases f1
     obtain⟨z,f,g⟩:=Db r e1
     exact .inl ⟨_,vs,i,z,rfl,ry.intE,hS,f,q μ z H (aj _) eS.refl S g⟩
  |_=>exact q.elim
 |_=>cases wx<;>exact q.elim
theorem qe{o:Option α}{k:α->R W}(h:∀a,uo (k a)):uo (sV o k):=by
 unfold sV
 split
 ·exact h _
 ·trivial
theorem T0(x y:W)(st:List am):uo (bI x y st):=by
 unfold bI
 split
 ·exact qe fun _=>trivial
 ·split
  ·exact qe fun _=>trivial
  ·trivial
 ·exact qe fun _=>qe fun _=>trivial
 ·trivial
theorem WJ(ha:SE X a fa)(hb:SE X b fb)(hs:CZ b:=by intro _ _;rfl):SE X (.Subscript a b pos) (e2 bI fa fb):=⟨(SU WI ha.h hb.h hs).imp fun _ _ _ h=>C7 T0 h⟩
abbrev FO:=cy->List am->R (Option Int)
abbrev WK:List Addr->Hp->Option Int->Option Int->Prop:=fun _ _ a b=>a=b
structure SO(X:Cx)(e:Option Expr)(f:FO):Prop where
 h:PO X e (tG X WK f)
def qf:FO:=fun _ st=>.ok none st
def pd(fa:FE):FO:=fun ρ st=>(fa ρ st).bind fun x st=>match x with
 |.int i=>.ok (some i) st
 |_=>.bad
theorem PO.imp{e:Option Expr}{t t':TO}(h:PO X e t)(i:∀σ H Q,t' σ H Q->t σ H Q):PO X e t':=fun ah s σ H Q I q=>h ah s σ H Q I (i _ _ _ q)
theorem Lm:SO X none qf:=⟨KL.imp fun σ H Q h=>by
 walk_at "2"
 exact h μ none H (aj _) eS.refl l.sto rfl⟩
theorem Ln(ha:SE X a fa):SO X (some a) (pd fa):=⟨(KM ha.h).imp fun σ H Q h=>by
 walk_at "2"
 walk_at "1"
 cases x with
 |int k=>exact⟨k,q1.intE,h1 μ1 _ H1 (aj _) eS.refl l1.sto rfl⟩
 |_=>exact h1.elim⟩
noncomputable def oI(xs:List α)(lo hi:Option Int):List α:=(xs.drop (HT.sIx xs.length 0 lo)).take (HT.sIx xs.length xs.length hi-HT.sIx xs.length 0 lo)
def E5(x:W)(lo hi:Option Int)(st:List am):R W:=match x with
 |.tup ws=>.ok (.tup (oI ws lo hi)) st
 |.str l=>if l.length<=ny then .ok (.str (oI l lo hi)) st else .bad
 |.loc n=>sV (lstOf st n) fun ws=>.ok (.loc st.length) (st++[.lst (oI ws lo hi)])
 |_=>.bad
theorem T3(x:W)(lo hi:Option Int)(st:List am):uo (E5 x lo hi st):=by
 unfold E5 sV
 repeat' split
 all_goals trivial
def GU(fa:FE)(fl fh:FO):FE:=fun ρ st=>(fa ρ st).bind fun x st=>(fl ρ st).bind fun l st=>(fh ρ st).bind fun h st=>E5 x l h st
theorem WL:SQ X (fun x lo hi H Q=>∃μ st wx,iN X.K X.mg μ st H/\bD X.K μ H wx x/\FQ X μ H Q (E5 wx lo hi st)):=by
 intro ah s σ H x v vl vu lo hi sl Q I rv hs pl pu ⟨μ,st,wx,S,rx,q⟩
 cases wx with
 |tup ws=>
  obtain⟨p,vs,rfl,hS,r⟩:=rx.tupE
  have hl:=r.len
  by_cases hw:HT.sIx vs.length 0 lo=0/\HT.sIx vs.length vs.length hi=vs.length
  ·cases rv
   obtain⟨bw,w,ht,hz⟩:=I.tuple hS
   have dG:bw.toArray.size=vs.length:=by rw[aW];exact w.length.symm
   refine⟨"tuple",_,d_.lookup,ht.typeIs,An ht hs pl pu (by rw[dG];exact hw) ⟨.ref p,H,I,rfl,?_⟩⟩
   have e:oI ws lo hi=ws:=by
    unfold oI
    rw[hl,hw.1,hw.2,dD,nY,<- hl,cu]
   have q':FQ X μ H Q (.ok (.tup (oI ws lo hi)) st):=q
   rw[e]at q'
   exact q' μ _ H (aj _) eS.refl S rx
  ·refine Pd ah s σ H _ v vl vu lo hi sl Q I rv hs pl pu ⟨p,vs,rfl,hS,hw,fun p2 hp2=>?_⟩
   have x:=gp.same (K:=X.K) (cQ hp2 (.tup (u7 vs lo hi)))
   have rc:RelWs X.K μ H (oI ws lo hi) (u7 vs lo hi):=by
    unfold oI u7
    rw[hl]
    exact(r.drop _).take _
   exact q μ _ _ (aj _) x (S.same (cQ hp2 _)) (.tupI gp.new (rc.mono (aj _) x))
 |str l=>
  simp only[E5]at q
  by_cases c:l.length<=ny
  ·rw[au c]at q
   exact Pv ah s σ H _ v vl vu lo hi sl Q I rv hs pl pu ⟨l,rx.strE,nD c,rA S q⟩
  ·rw[ay c]at q;exact q.elim
 |loc n=>
  simp only[E5]at q
  cases e0:lstOf st n with
  |none=>rw[e0]at q;exact q.elim
  |some ws=>
   rw[e0]at q
   obtain⟨a,vs,g,hS,r⟩:=S.lstOf e0
   obtain⟨b1,f1,rfl⟩:=rx.locE
   rw[g]at f1;cases f1
   have hl:=r.len
   refine KP ah s σ H _ v vl vu lo hi sl Q I rv hs pl pu ⟨_,vs,rfl,hS,fun p2 hp2=>?_⟩
   have rc:RelWs X.K μ H (oI ws lo hi) (u7 vs lo hi):=by
    unfold oI u7
    rw[hl]
    exact(r.drop _).take _
   exact q (μ++[p2]) _ _ (bp _ _) (gp.same (cQ hp2 _)) (S.newLst hp2 rc) (sT S)
 |_=>exact q.elim
theorem WM{lo hi:Option Expr}{fl fh:FO}(ha:SE X a fa)(hl:SO X lo fl)(hh:SO X hi fh):SE X (.Subscript a (.Slice lo hi none p2) pos) (GU fa fl fh):=⟨(F' WL ha.h hl.h hh.h).imp fun σ H Q h=>by
 walk_at "2"
 refine⟨μ,ρ,st,l,RK.bind h l fun μ1 st1 x v H1 p1 x1 l1 q1 h1=>⟨μ1,ρ,st1,l1,RK.bind h1 l1 fun μ2 db y u H2 p2 x2 l2 q2 h2=>⟨μ2,ρ,db,l2,RK.bind h2 l2 fun μ3 mD z t H3 p3 x3 l3 q3 h3=>?_⟩⟩⟩
 cases q2;cases q3
 exact⟨μ3,mD,x,l3.sto,(q1.mono p2 x2).mono p3 x3,sR h3 (T3 _ _ _ _)⟩⟩
def Xj(X:Cx)(F:List W->List am->R W):List V->Hp->VK->Prop:=fun vs H Q=>∃μ st ws,iN X.K X.mg μ st H/\RelWs X.K μ H ws vs/\FQ X μ H Q (F ws st)
structure t6(X:Cx)(f:Value)(F:List W->List am->R W):Prop where
 h:lM X f (Xj X F)
 n:∀ws st,uo (F ws st)
def bH(F:List W->List am->R W)(fs:FA):FE:=fun ρ st=>(fs ρ st).bind fun ws st=>F ws st
theorem Dc{Q:VK}(n:∀ws st,uo (F ws st))(h:tE X (bH F fs) σ H Q):Wn (Xj X F) (Tp X fs) σ H Q:=by
 walk_at "2"
 exact⟨μ,ρ,st,l,RK.bind h l fun μ1 st1 x v H1 p1 x1 l1 q1 h1=>⟨μ1,st1,x,l1.sto,q1,sR h1 (n _ _)⟩⟩
theorem uP{id:String}(hc:t6 X (.builtin id) F)(hm:X.mg x=none)(hv:bootBuiltins x=some (.builtin id))(ha:SA X (e::es) fs)(hg:Gl X x:=by rfl)(hn:x ≠ "__name__":=by decide)(J7:(x==("__debug__":Str))=false:=by decide)
  (he:starEach (e::es) X.env=(false,eval e X.env)::starEach es X.env:=by rfl) (qY:(backTo pos (starEach es X.env)).any (·.1)=false:=by rfl):SE X (.Call (.Name x p) (e::es) [] pos) (bH F fs):=⟨(zE hc.h hg hm hv ha.h hn J7 he qY).imp fun _ _ _ h=>Dc hc.n h⟩
theorem Ao{T:String}(hc:t6 X (.type T) F)(hm:X.mg x=none)(hv:bootBuiltins x=some (.type T))(ha:SA X (e::es) fs)(hg:Gl X x:=by rfl)(hn:x ≠ "__name__":=by decide)(J7:(x==("__debug__":Str))=false:=by decide)
  (he:starEach (e::es) X.env=(false,eval e X.env)::starEach es X.env:=by rfl) (qY:(backTo pos (starEach es X.env)).any (·.1)=false:=by rfl):SE X (.Call (.Name x p) (e::es) [] pos) (bH F fs):=⟨(EH hc.h hg hm hv ha.h hn J7 he qY).imp fun _ _ _ h=>Dc hc.n h⟩
theorem RelWs.one{a:W}(r:RelWs K μ H [a] vs):∃x,vs=[x]/\bD K μ H a x:=by
 obtain⟨x,xs,rfl,rx,rn⟩:=r.consE
 rw[rn.nilE];exact⟨x,rfl,rx⟩
def dY(ws:List W)(st:List am):R W:=match ws with
 |[.tup xs]=>.ok (.int xs.length) st
 |[.str l]=>if l.length<=ny then .ok (.int l.length) st else .bad
 |[.loc n]=>sV (lstOf st n) fun xs=>.ok (.int xs.length) st
 |_=>.bad
theorem MF:t6 X (.builtin "len") dY:=⟨fun ah s σ H vs us Q I rv zq=>by
 obtain⟨μ,st,ws,S,r,q⟩:=zq
 unfold dY at q
 split at q
 ·obtain⟨x,rfl,rx⟩:=r.one
  obtain⟨p,ys,rfl,hS,r'⟩:=rx.tupE
  exact qZ ah s σ H _ us Q I rv ⟨p,ys,rfl,.inr hS,by rw[<- r'.len];exact mj S q⟩
 ·obtain⟨x,rfl,rx⟩:=r.one
  split at q
  ·rename_i c
   exact yb ah s σ H _ us Q I rv ⟨_,by rw[rx.strE],by rw[i7];exact nD c,by rw[i7];exact mj S q⟩
  ·exact q.elim
 ·obtain⟨x,rfl,rx⟩:=r.one
  unfold sV at q
  split at q
  ·rename_i ys e0
   obtain⟨a,vs,g,hS,r'⟩:=S.lstOf e0
   obtain⟨b1,f1,rfl⟩:=rx.locE
   rw[g]at f1;cases f1
   exact qZ ah s σ H _ us Q I rv ⟨_,vs,rfl,.inl hS,by rw[<- r'.len];exact mj S q⟩
  ·exact q.elim
 ·exact q.elim,fun ws st=>by
 unfold dY sV
 repeat' split
 all_goals trivial⟩
def fy(ws:List W)(st:List am):R W:=match ws with
 |[.tup xs]=>.ok (.tup xs) st
 |[.loc n]=>sV (lstOf st n) fun xs=>.ok (.tup xs) st
 |_=>.bad
theorem Lo:t6 X (.type "tuple") fy:=⟨fun ah s σ H vs us Q I rv zq=>by
 obtain⟨μ,st,ws,S,r,q⟩:=zq
 unfold fy at q
 split at q
 ·obtain⟨x,rfl,rx⟩:=r.one
  obtain⟨p,ys,rfl,hS,r'⟩:=id rx.tupE
  exact zF ah s σ H _ us Q I rv ⟨p,ys,rfl,hS,q μ _ H (aj _) eS.refl S rx⟩
 ·obtain⟨x,rfl,rx⟩:=r.one
  unfold sV at q
  split at q
  ·rename_i ys e0
   obtain⟨a,vs,g,hS,r'⟩:=S.lstOf e0
   obtain⟨b1,f1,rfl⟩:=rx.locE
   rw[g]at f1;cases f1
   refine zN ah s σ H _ us Q I rv ⟨_,vs,rfl,hS,fun l H2 hl e=>?_⟩
   subst e
   have x:=gp.same (K:=X.K) (cQ hl (.tup vs))
   exact q μ _ _ (aj _) x (S.same (cQ hl _)) (.tupI gp.new (r'.mono (aj _) x))
  ·exact q.elim
 ·exact q.elim,fun ws st=>by
 unfold fy sV
 repeat' split
 all_goals trivial⟩
noncomputable def Ap(ws:List W)(st:List am):R W:=match ws with
 |[.int i]=>.ok (.int i) st
 |[.bl k]=>.ok (.int (if k then 1 else 0)) st
 |_=>.bad
theorem T4:t6 X (.type "int") Ap:=⟨fun ah s σ H vs us Q I rv zq=>by
 obtain⟨μ,st,ws,S,r,q⟩:=zq
 unfold Ap at q
 split at q
 ·obtain⟨x,rfl,rx⟩:=r.one
  exact xh ah s σ H _ us Q I rv (.inl ⟨_,by rw[rx.intE],mj S q⟩)
 ·obtain⟨x,rfl,rx⟩:=r.one
  exact xh ah s σ H _ us Q I rv (.inr ⟨_,by rw[rx.blE],mj S q⟩)
 ·exact q.elim,fun ws st=>by unfold Ap;split<;>trivial⟩
end
section
variable{a b c:Expr}{x:Str}{fa fb fc fe:FE}{fs:FA}{ft:FT}{st1:Stmt}{sr sa sb:List Stmt}{g g':FS}
def aX(g g':FS):FS:=fun ρ st=>match g ρ st with
 |.nx ρ' bz=>g' ρ' bz
 |r=>r
def d8:FS:=fun ρ st=>.nx ρ st
theorem GV:SB X [] d8:=⟨Kt.imp fun D σ H h=>by
 walk_at "2"
 exact h μ σ H (aj _) eS.refl l⟩
theorem ym(h1:SS X st1 g):SB X [st1] g:=⟨Ku h1.h⟩
theorem Lp(h1:SS X st1 g)(h2:SB X sr g'):SB X (st1::sr) (aX g g'):=⟨(FY h1.h h2.h).imp fun D σ H h=>by
 walk_at "2"
 refine⟨μ,ρ,st,l,?_⟩
 unfold aX at h
 cases e:g ρ st with
 |nx ρ' bz=>rw[e]at h;exact fun μ' σ' H' p x l'=>⟨μ',ρ',bz,l',SK.mono h p x⟩
 |rt w bz=>rw[e]at h;exact h
 |bk ρ' bz=>rw[e]at h;exact h
 |ct ρ' bz=>rw[e]at h;exact h
 |ex c ρ' bz=>rw[e]at h;exact h
 |bad=>rw[e]at h;exact h⟩
def R.stmt(r:R α)(ρ:cy)(k:α->List am->RS):RS:=match r with
 |.ok a st=>k a st
 |.ex c st=>.ex c ρ st
 |.bad=>.bad
@[simp] theorem R.stmt_ok{α:Type}(a:α)(st:List am)(ρ:cy)(k:α->List am->RS):(R.ok a st).stmt ρ k=k a st:=rfl
theorem RK.stmt{rel:List Addr->Hp->α->β->Prop}{ρ:cy}{D:zC}{r:R α}{k:α->List am->RS}{T:β->Hp->Prop}
  (h:SK X μ H D (r.stmt ρ k)) (l:Rl X μ ρ st σ H)
  (hk:∀μ' bz x v H',μ <+: μ'->eS X.K H H'->Rl X μ' ρ bz σ H'->rel μ' H' x v->SK X μ' H' D (k x bz)->T v H'):RK X rel μ σ H T r:=by
 cases r with
 |ok a bz=>exact fun μ' b H' p x s q=>hk μ' bz a b H' p x (l.to p x s) q (SK.mono h p x)
 |ex c bz=>exact XS.toE h l
 |bad=>exact h
def eT(fe:FE):FS:=fun ρ st=>(fe ρ st).stmt ρ fun _ st=>.nx ρ st
theorem Lq(he:SE X e fe)(hs:swapsWith e none pos.line X.env=pure false:=by rfl):SS X (.Expr e pos) (eT fe):=⟨(Kv he.h hs).imp fun D σ H h=>by
 walk_at "2"
 exact⟨μ,ρ,st,l,RK.stmt h l fun μ1 st1 x v H1 p1 x1 l1 q1 h1=>h1 μ1 σ H1 (aj _) eS.refl l1⟩⟩
def dk(fe:FE):FS:=fun ρ st=>(fe ρ st).stmt ρ fun w st=>.rt w st
theorem GW(he:SE X e fe):SS X (.Return (some e) pos) (dk fe):=⟨(OF he.h).imp fun D σ H h=>by
 walk_at "2"
 exact⟨μ,ρ,st,l,RK.stmt h l fun μ1 st1 x v H1 p1 x1 l1 q1 h1=>h1 μ1 v H1 (aj _) eS.refl l1.sto q1⟩⟩
def lH(t:FT)(g g':FS):FS:=fun ρ st=>(t ρ st).stmt ρ fun k st=>if k then g ρ st else g' ρ st
theorem MG(hc:ST X c ft)(ha:SB X sa g)(hb:SB X sb g'):SS X (.If c sa sb pos) (lH ft g g'):=⟨(Ss hc.h ha.h hb.h).imp fun D σ H h=>by
 walk_at "2"
 refine⟨μ,ρ,st,l,RK.stmt h l fun μ1 st1 x v H1 p1 x1 l1 q1 h1=>?_⟩
 cases q1
 cases x with
 |true=>exact⟨μ1,ρ,st1,l1,h1⟩
 |false=>exact⟨μ1,ρ,st1,l1,h1⟩⟩
abbrev FG:=W->cy->Option cy
abbrev MH:=List W->cy->Option cy
def VF(X:Cx)(f:FG):TG:=fun v σ H Q=>∃μ ρ st w ρ',Rl X μ ρ st σ H/\bD X.K μ H w v/\f w ρ=some ρ'/\∀σ',Rl X μ ρ' st σ' H->Q σ' H
def WN(X:Cx)(f:MH):Kw:=fun vs σ H Q=>∃μ ρ st ws ρ',Rl X μ ρ st σ H/\RelWs X.K μ H ws vs/\f ws ρ=some ρ'/\∀σ',Rl X μ ρ' st σ' H->Q σ' H
theorem PG.imp{t t':TG}(h:PG X e t)(i:∀v σ H Q,t' v σ H Q->t v σ H Q):PG X e t':=fun ah s σ H x u Q I r q=>h ah s σ H x u Q I r (i _ _ _ _ q)
theorem Mr.imp{e:List Expr}{t t':Kw}(h:Mr X e t)(i:∀v σ H Q,t' v σ H Q->t v σ H Q):Mr X e t':=fun ah s σ H x u Q I r q=>h ah s σ H x u Q I r (i _ _ _ _ q)
structure SG(X:Cx)(e:Expr)(f:FG):Prop where
 h:PG X e (VF X f)
structure VG(X:Cx)(e:List Expr)(f:MH):Prop where
 h:Mr X e (WN X f)
def dZ(i:Nat):FG:=fun w ρ=>some (ρ.set i (some w))
theorem Dd(hN:X.N.Nodup)(hi:X.N[i]?=some x)(hx:Km X.env.scope x)(hf:X.fn x=true\/X.env.scope.names.lookup x=some .local:=by first|exact .inl rfl|exact .inr rfl|assumption):SG X (.Name x pos) (dZ i):=⟨(Ky hN hi hx hf).imp fun v σ H Q h=>by
 obtain⟨μ,ρ,st,w,ρ',l,r,e,q⟩:=h
 cases e
 exact q _ ⟨vh r i l.env,l.sto⟩⟩
def kq:MH:=fun ws ρ=>match ws with
 |[]=>some ρ
 |_=>none
def dq(f:FG)(fs:MH):MH:=fun ws ρ=>match ws with
 |w::ws=>(f w ρ).bind fun ρ'=>fs ws ρ'
 |[]=>none
theorem Lr:VG X [] kq:=⟨Kz.imp fun vs σ H Q h=>by
 obtain⟨μ,ρ,st,ws,ρ',l,r,e,q⟩:=h
 cases ws with
 |nil=>cases e;exact⟨r.nilE,q σ l⟩
 |cons _ _=>cases e⟩
theorem GX{f:FG}{fs:MH}(h1:SG X e f)(h2:VG X es fs)(hs:(assignEach (e::es) X.env).map (·.2)=assign e X.env::(assignEach es X.env).map (·.2):=by rfl):VG X (e::es) (dq f fs):=⟨(FZ h1.h h2.h hs).imp fun vs σ H Q h=>by
 obtain⟨μ,ρ,st,ws,ρ',l,r,e,q⟩:=h
 cases ws with
 |nil=>cases e
 |cons w ws=>
  obtain⟨x,xs,rfl,rx,rs⟩:=r.consE
  simp only[dq]at e
  cases e1:f w ρ with
  |none=>rw[e1]at e;cases e
  |some ρ1=>
   rw[e1]at e
   exact⟨x,xs,rfl,μ,ρ,st,w,ρ1,l,rx,e1,fun σ1 l1=>⟨μ,ρ1,st,ws,ρ',l1,rs,e,q⟩⟩⟩
def zu(n:Nat)(fs:MH):FG:=fun w ρ=>match w with
 |.tup ws=>if ws.length=n then fs ws ρ else none
 |_=>none
theorem PX{k:Nat}{fs:MH}(hc:X.calm=true)(h:VG X es fs)(hn:(assignEach es X.env).length=n:=by rfl)(nA:(assignEach es X.env).findIdx? (·.1)=none:=by rfl):SG X (.Tuple es k pos) (zu n fs):=⟨(OG hc h.h hn nA).imp fun v σ H Q h=>by
 obtain⟨μ,ρ,st,w,ρ',l,r,e,q⟩:=h
 cases w with
 |tup ws=>
  obtain⟨p,vs,rfl,hS,rs⟩:=r.tupE
  simp only[zu]at e
  by_cases c:ws.length=n
  ·rw[au c]at e
   exact⟨p,vs,rfl,hS,by rw[<- rs.len];exact c,μ,ρ,st,ws,ρ',l,rs,e,q⟩
  ·rw[ay c]at e;cases e
 |_=>cases e⟩
def Aq(fe:FE)(f:FG):FS:=fun ρ st=>(fe ρ st).stmt ρ fun w st=>match f w ρ with
 |some ρ'=>.nx ρ' st
 |none=>.bad
def bP(i:Nat)(fe:FE):FS:=fun ρ st=>(fe ρ st).stmt ρ fun w st=>.nx (ρ.set i (some w)) st
theorem PY(hN:X.N.Nodup)(hi:X.N[i]?=some x)(hx:Km X.env.scope x)(he:SE X e fe)(hs:swapsWith e (some (.Name x ij)) pos.line X.env=pure false:=by rfl)(hf:X.fn x=true\/X.env.scope.names.lookup x=some .local:=by first|exact .inl rfl|exact .inr rfl|assumption) :
  SS X (.Assign [.Name x ij] e pos) (bP i fe):=⟨(OJ hN hi hx he.h hs hf).imp fun D σ H h=>by
 walk_at "2"
 exact⟨μ,ρ,st,l,RK.stmt h l fun μ1 st1 x v H1 p1 x1 l1 q1 h1=>h1 μ1 _ H1 (aj _) eS.refl ⟨vh q1 i l1.env,l1.sto⟩⟩⟩
def pe(x i v:W)(st:List am):Option (List am):=match x,i with
 |.loc n,.int k=>(match st[n]? with
  |some (.lst ws)=>(CW ws.length k).map fun j=>st.set n (.lst (ws.set j v))
  |_=>none)
 |_,_=>none
def rD(fo fi fe:FE)(f:W->W->W->List am->Option (List am)):FS:=fun ρ st=>(fe ρ st).stmt ρ fun v st=>(fo ρ st).stmt ρ fun x st=>(fi ρ st).stmt ρ fun i st=>match f x i v st with
 |some bz=>.nx ρ bz
 |none=>.bad
def GY(X:Cx)(f:W->W->W->List am->Option (List am)):Kx:=fun o i v H Q=>∃μ st wo wi wv bz,iN X.K X.mg μ st H/\bD X.K μ H wo o/\bD X.K μ H wi i/\bD X.K μ H wv v/\f wo wi wv st=some bz/\∀H',eS X.K H H'->iN X.K X.mg μ bz H'->Q H'
theorem PZ:Ey X (GY X pe):=fun ah s σ H o i v ov iv u Q I r1 r2 r3 zq=>by
 obtain⟨μ,st,wo,wi,wv,bz,S,ro,ri,rv,e,q⟩:=zq
 cases wo with
 |loc n=>
  cases wi with
  |int k=>
   simp only[pe]at e
   cases e1:st[n]? with
   |none=>rw[e1]at e;cases e
   |some cc=>
    rw[e1]at e
    cases cc with
    |lst ws=>
     simp only at e
     cases e2:CW ws.length k with
     |none=>rw[e2]at e;cases e
     |some jj=>
      rw[e2]at e
      cases e
      obtain⟨a1,g1,vs,k1,r⟩:=S.get e1
      obtain⟨b1,f1,rfl⟩:=ro.locE
      rw[g1]at f1;cases f1
      refine ES ah s σ H _ i v ov iv u Q I r1 r2 r3 ⟨a1,vs,k,jj,rfl,ri.intE,k1,by rw[<- r.len];exact e2,fun H2 eH=>?_⟩
      subst eH
      exact q _ (gp.but iS k1) (S.set e1 g1 k1 (r.setI jj rv))
    |_=>cases e
  |_=>cases e
 |_=>cases wi<;>cases e
theorem GZ{f:W->W->W->List am->Option (List am)}{i:Expr}{fi:FE}{fo:FE}(W4:Ey X (GY X f))(he:SE X e fe)(ho:SE X o fo)(hi:SE X i fi)
  (ha:∀v,assign (.Subscript o i ij) X.env v=(do
   let ov <- holding [v] (eval o X.env)
   let iv <- holding [v,ov] (eval i X.env)
   standAt ij
   holding [v,ov,iv] (setItem ov iv v)
   release [v,ov,iv] []):=by intro _;rfl)
  (hs:swapsWithSole [.Subscript o i ij] e pos.line X.env=pure false:=by rfl) (hw:swappedStores [.Subscript o i ij] e X.env=pure none:=by rfl) (h1:(assignEach [.Subscript o i ij] X.env).map (·.2)=[assign (.Subscript o i ij) X.env]:=by rfl) :
  SS X (.Assign [.Subscript o i ij] e pos) (rD fo fi fe f):=⟨(OI he.h (OH ho.h hi.h W4 ha) hs hw h1).imp fun D σ H h=>by
 walk_at "2"
 refine⟨μ,ρ,st,l,RK.stmt h l fun μ1 st1 v vv H1 p1 x1 l1 q1 h1=>⟨μ1,ρ,st1,l1,RK.stmt h1 l1 fun μ2 db x xv H2 p2 x2 l2 q2 h2=>⟨μ2,ρ,db,l2,RK.stmt h2 l2 fun μ3 mD i iv H3 p3 x3 l3 q3 h3=>?_⟩⟩⟩
 cases e1:f x i v mD with
 |none=>rw[e1]at h3;exact h3.elim
 |some bz=>
  rw[e1]at h3
  exact⟨μ3,mD,x,i,v,bz,l3.sto,q2.mono p3 x3,q3,(q1.mono p2 x2).mono p3 x3,e1,fun H' xx S'=>h3 μ3 σ H' (aj _) xx (l3.to (aj _) xx S')⟩⟩
end
def hG(st:List am):Option (Nat×List W)->Prop
 |none=>True
 |some (n,ws)=>lstOf st n=some ws
noncomputable abbrev E6:=List W×Option (Nat×List W)
abbrev FI:=cy->List am->R E6
def yn(X:Cx)(J:It)(k:E6)(μ:List Addr)(H:Hp):Prop:=
 ∀(i:Nat) μ' bz H',μ <+: μ'->eS X.K H H'->iN X.K X.mg μ' bz H'->hG bz k.2 ->
  (∀w,k.1[i]?=some w->J.go i H'/\∀x H'',J.yld i H' x H''->eS X.K H' H''/\iN X.K X.mg μ' bz H''/\bD X.K μ' H'' w x)/\(k.1.length<=i->J.stop i H')
abbrev T5(X:Cx):List Addr->Hp->E6->It->Prop:=fun μ H k J=>yn X J k μ H
structure SI(X:Cx)(tg it:Expr)(f:FI):Prop where
 h:PI X tg it (fun σ H R=>tG X (T5 X) f σ H R)
theorem PI.imp{it:Expr}{t t':TI}(h:PI X tg it t)(i:∀σ H Q,t' σ H Q->t σ H Q):PI X tg it t':=fun ah s σ H Q I q=>h ah s σ H Q I (i _ _ _ q)
open Classical in
def vn(f:FG)(body:FS)(ck:Option (Nat×List W)):List W->FS
 |[],ρ,st=>if hG st ck then .nx ρ st else .bad
 |w::ws,ρ,st=>if hG st ck then(match f w ρ with
  |none=>.bad
  |some ρ'=>(match body ρ' st with
   |.nx ρ2 db=>vn f body ck ws ρ2 db
   |.ct ρ2 db=>vn f body ck ws ρ2 db
   |.bk ρ2 db=>.nx ρ2 db
   |.rt w db=>.rt w db
   |.ex c ρ2 db=>.ex c ρ2 db
   |.bad=>.bad))else .bad
def gm(fi:FI)(f:FG)(body:FS):FS:=fun ρ st=>(fi ρ st).stmt ρ fun k st=>vn f body k.2 k.1 ρ st
section
variable{a b c:Expr}{fa fb fe:FE}{fs:FA}{ft:FT}{g:FS}{f:FG}{fi:FI}
theorem P0(hi:SI X tg dw fi)(hg:SG X tg f)(hb:SB X body g)(hc:X.calm=true:=by rfl)(hp:PassesOwn #[4] X.A X.env X.xe:=by passes_own)(hs:∀x,foldedSetIterable dw X.env x=pure x:=by intro _;rfl):SS X (.For tg dw body [] pos) (gm fi f g):=⟨(OL hp hc hi.h hg.h hb.h hs).imp fun D σ H h=>by
 walk_at "2"
 refine⟨μ,ρ,st,l,RK.stmt h l fun μ1 st1 k J H1 p1 x1 l1 wk h1=>?_⟩
 refine⟨fun i m σ' H'=>i<=k.1.length/\m=k.1.length-i/\∃μ' ρ' bz,μ1 <+: μ'/\eS X.K H1 H'/\Rl X μ' ρ' bz σ' H'/\SK X μ' H' D (vn f g k.2 (k.1.drop i) ρ' bz),
  ⟨_,cM _,rfl,μ1,ρ,st1,aj _,eS.refl,l1,h1⟩,?_⟩
 rintro i m σ' H' ⟨hi,rfl,μ',ρ',bz,pm,xm,lm,hm⟩
 by_cases hlt:i<k.1.length
 ·rw[bj hlt]at hm
  unfold vn at hm
  by_cases ck:hG bz k.2
  ·rw[au ck]at hm
   obtain⟨go,yld⟩:=(wk i μ' bz H' pm xm lm.sto ck).1 _ (ae hlt)
   cases hf:f k.1[i] ρ' with
   |none=>rw[hf]at hm;exact hm.elim
   |some ρ2=>
    rw[hf]at hm
    simp only at hm
    refine .inr ⟨go,fun σ2 H2=>∃μ2 ρ3 db,μ' <+: μ2/\eS X.K H' H2/\Rl X μ2 ρ3 db σ2 H2/\SK X μ2 H2 D (vn f g k.2 (k.1.drop (i+1)) ρ3 db),fun σ2 H2 ⟨μ2,ρ3,db,q1,q2,q3,q4⟩=>
     ⟨_,by omega,hlt,rfl,μ2,ρ3,db,pm.trans q1,xm.trans q2,q3,q4⟩,fun x H2 hy=>?_⟩
    obtain⟨y1,y2,y3⟩:=yld x H2 hy
    refine⟨μ',ρ',bz,k.1[i],ρ2,lm.to (aj _) y1 y2,y3,hf,fun σ2 l2=>⟨μ',ρ2,bz,l2,?_⟩⟩
    cases e:g ρ2 bz with
    |nx ρ3 mD=>rw[e]at hm;exact fun μ4 σ4 H4 p4 x4 l4=>⟨μ4,ρ3,mD,p4,y1.trans x4,l4,SK.mono hm p4 (y1.trans x4)⟩
    |ct ρ3 mD=>rw[e]at hm;exact fun μ4 σ4 H4 p4 x4 l4=>⟨μ4,ρ3,mD,p4,y1.trans x4,l4,SK.mono hm p4 (y1.trans x4)⟩
    |bk ρ3 mD=>rw[e]at hm;exact fun μ4 σ4 H4 p4 x4 l4=>hm μ4 σ4 H4 p4 (y1.trans x4) l4
    |rt w mD=>rw[e]at hm;exact fun μ4 v4 H4 p4 x4=>hm μ4 v4 H4 p4 (y1.trans x4)
    |ex c ρ3 mD=>rw[e]at hm;exact XS.mono hm (aj _) y1
    |bad=>rw[e]at hm;exact hm
  ·rw[ay ck]at hm;exact hm.elim
 ·have hi':i=k.1.length:=by omega
  subst hi'
  rw[dU (ax _)]at hm
  unfold vn at hm
  by_cases ck:hG bz k.2
  ·rw[au ck]at hm
   exact .inl ⟨(wk _ μ' bz H' pm xm lm.sto ck).2 (ax _),hm μ' σ' H' (aj _) eS.refl lm⟩
  ·rw[ay ck]at hm;exact hm.elim⟩
def gg(t:FT)(body:FS):Nat->FS
 |0,_,_=>.bad
 |n+1,ρ,st=>(t ρ st).stmt ρ fun k st=>if k then(match body ρ st with
   |.nx ρ2 db=>gg t body n ρ2 db
   |.ct ρ2 db=>gg t body n ρ2 db
   |.bk ρ2 db=>.nx ρ2 db
   |.rt w db=>.rt w db
   |.ex c ρ2 db=>.ex c ρ2 db
   |.bad=>.bad)else .nx ρ st
open Classical in
def ph(t:FT)(body:FS):FS:=fun ρ st=>if h:∃n,gg t body n ρ st≠.bad then gg t body h.choose ρ st else .bad
theorem pi(t:FT)(g:FS):∀(n:Nat) (ρ:cy) (st:List am),gg t g n ρ st≠.bad->gg t g (n+1) ρ st=gg t g n ρ st
 |0,_,_,h=>absurd rfl h
 |n+1,ρ,st,h=>by
  unfold gg at h ⊢
  cases e:t ρ st with
  |ex c st1=>rfl
  |bad=>rfl
  |ok k st1=>
   rw[e]at h
   simp only[R.stmt_ok]at h ⊢
   cases k with
   |false=>rfl
   |true=>
    simp only[iU]at h ⊢
    cases e2:g ρ st1 with
    |nx ρ2 db=>rw[e2]at h;exact pi t g n ρ2 db h
    |ct ρ2 db=>rw[e2]at h;exact pi t g n ρ2 db h
    |_=>rfl
theorem xF{t:FT}{n m:Nat}{ρ:cy}(h:gg t g n ρ st≠.bad)(hm:n<=m):gg t g m ρ st=gg t g n ρ st:=by
 induction hm with
 |refl=>rfl
 |@step m _ ih=>rw[pi t g m ρ st (by rw[ih];exact h),ih]
theorem E7{t:FT}{ρ:cy}{r:RS}(h:gg t g n ρ st=r)(hr:r≠.bad):ph t g ρ st=r:=by
 have hx:∃n,gg t g n ρ st≠.bad:=⟨n,by rw[h];exact hr⟩
 unfold ph
 rw[dif_pos hx]
 have c:=hx.choose_spec
 have a:=xF c (Nat.le_max_left hx.choose n)
 have b:=xF (n:=n) (m:=max hx.choose n) (by rw[h];exact hr) (Nat.le_max_right _ _)
 rw[<- a,b,h]
theorem Ar{t:FT}{D:zC}:∀(n:Nat) (σ:St) (H:Hp) (μ:List Addr) (ρ:cy) (st:List am),Rl X μ ρ st σ H->SK X μ H D (gg t g n ρ st)->F0 (tT X t) (WB X g) D σ H:=by
 intro n σ H μ ρ st l h
 refine⟨fun m σ' H'=>∃μ' ρ' bz,Rl X μ' ρ' bz σ' H'/\SK X μ' H' D (gg t g m ρ' bz),⟨n,μ,ρ,st,l,h⟩,?_⟩
 rintro m σ' H' ⟨μ',ρ',bz,l',h'⟩
 cases m with
 |zero=>exact h'.elim
 |succ m=>
  refine⟨μ',ρ',bz,l',RK.stmt h' l' fun μ1 st1 k v H1 p1 x1 l1 q1 h1=>?_⟩
  cases q1
  cases k with
  |false=>exact h1 μ1 σ' H1 (aj _) eS.refl l1
  |true=>
   refine⟨fun σ2 H2=>∃μ2 ρ2 db,Rl X μ2 ρ2 db σ2 H2/\SK X μ2 H2 D (gg t g m ρ2 db),fun σ2 H2 z=>⟨m,cU m,z⟩,μ1,ρ',st1,l1,?_⟩
   simp only[iU]at h1
   cases e:g ρ' st1 with
   |nx ρ3 mD=>rw[e]at h1;exact fun μ4 σ4 H4 p4 x4 l4=>⟨μ4,ρ3,mD,l4,SK.mono h1 p4 x4⟩
   |ct ρ3 mD=>rw[e]at h1;exact fun μ4 σ4 H4 p4 x4 l4=>⟨μ4,ρ3,mD,l4,SK.mono h1 p4 x4⟩
   |bk ρ3 mD=>rw[e]at h1;exact h1
   |rt w mD=>rw[e]at h1;exact h1
   |ex c ρ3 mD=>rw[e]at h1;exact h1
   |bad=>rw[e]at h1;exact h1
theorem G0{t:FT}(hc:ST X c t)(hb:SB X body g)(hp:PassesOwn #[4] X.A X.env X.xe:=by passes_own):SS X (.While c body [] pos) (ph t g):=⟨(F1 hp hc.h hb.h).imp fun D σ H h=>by
 walk_at "2"
 unfold ph at h
 by_cases hx:∃n,gg t g n ρ st≠.bad
 ·rw[dif_pos hx]at h;exact Ar _ σ H μ ρ st l h
 ·rw[dif_neg hx]at h;exact h.elim⟩
def G1(fe:FE):FI:=fun ρ st=>(fe ρ st).bind fun x st=>match x with
 |.tup ws=>.ok (ws,none) st
 |_=>.bad
theorem G3(he:SE X e fe):SI X tg e (G1 fe):=⟨(OK he.h).imp fun σ H R h=>by
 walk_at "2"
 walk_at "1"
 cases x with
 |tup ws=>
  obtain⟨p,vs,rfl,hS,r⟩:=q1.tupE
  refine⟨p,rfl,⟨vs,hS⟩,h1 μ1 _ H1 (aj _) eS.refl l1.sto fun i μ' bz H' pp xx S _=>⟨fun w hw=>?_,fun hl=>⟨vs,xx _ _ hS,by rw[<- r.len];exact hl⟩⟩⟩
  have r':=r.mono pp xx
  obtain⟨v,g1,g2⟩:=r'.get hw
  refine⟨⟨vs,v,xx _ _ hS,g1⟩,fun y H'' hy=>?_⟩
  obtain⟨rfl,hy⟩:=hy
  have:=hy vs (xx _ _ hS)
  rw[g1]at this;cases this
  exact⟨eS.refl,S,g2⟩
 |_=>exact h1.elim⟩
def MI(fe:FE):FI:=fun ρ st=>(fe ρ st).bind fun x st=>match x with
 |.loc n=>(match lstOf st n with
  |some ws=>.ok (ws,some (n,ws)) st
  |none=>.bad)
 |_=>.bad
theorem P1(he:SE X e fe):SI X tg e (MI fe):=⟨(KB he.h).imp fun σ H R h=>by
 walk_at "2"
 walk_at "1"
 cases x with
 |loc n=>
  obtain⟨a,ha,rfl⟩:=q1.locE
  simp only at h1
  cases e1:lstOf st1 n with
  |none=>rw[e1]at h1;exact h1.elim
  |some ws=>
   rw[e1]at h1
   obtain⟨a',vs0,g0,hS0,r0⟩:=l1.sto.lstOf e1
   rw[ha]at g0;cases g0
   refine⟨a,rfl,⟨vs0,hS0⟩,h1 μ1 _ H1 (aj _) eS.refl l1.sto fun i μ' bz H' pp xx S ck=>?_⟩
   obtain⟨a2,vs,g2,hS,r⟩:=S.lstOf (show lstOf bz n=some ws from ck)
   have:μ'[n]?=some a:=pre_get pp ha
   rw[g2]at this;cases this
   refine⟨fun w hw=>?_,fun hl=>⟨vs,hS,by rw[<- r.len];exact hl⟩⟩
   obtain⟨v,g1,g3⟩:=r.get hw
   refine⟨⟨vs,v,hS,g1⟩,fun y H'' hy=>?_⟩
   obtain⟨rfl,hy⟩:=hy
   have:=hy vs hS
   rw[g1]at this;cases this
   exact⟨eS.refl,S,g3⟩
 |_=>exact h1.elim⟩
noncomputable def eM(lo:Int)(n:Nat):List W:=(List.range n).map fun(i:Nat)=>W.int (lo+i)
theorem dy(lo:Int)(n:Nat):(eM lo n).length=n:=by simp[eM]
theorem B4{lo:Int}:yn X (VA lo n) (eM lo n,none) μ H:=fun i μ' bz H' pp xx S _=>by
 refine⟨fun w hw=>?_,fun hl=>by rw[dy]at hl;exact hl⟩
 have hi:i<n:=by
  have:=(ac.mp hw).1
  rw[dy]at this;exact this
 refine⟨hi,fun y H'' hy=>?_⟩
 obtain⟨rfl,rfl⟩:=hy
 have e:w=.int (lo+i):=by
  unfold eM at hw
  rw[ag,aF hi]at hw
  exact(aG hw).symm
 subst e
 exact⟨eS.refl,S,.int⟩
def ce(fs:FA):FI:=fun ρ st=>(fs ρ st).bind fun ws st=>match ws with
 |[.int j]=>if -(2^62)<=j/\j<2^62 then .ok (eM 0 j.toNat,none) st else .bad
 |_=>.bad
theorem E8(hm:X.mg "range"=none)(ha:SA X [a] fs)(hg:Gl X "range":=by rfl)(hs:starEach [a] X.env=[(false,eval a X.env)]:=by rfl):SI X tg (.Call (.Name "range" p) [a] [] pos) (ce fs):=⟨(EA hg hm ha.h hs).imp fun σ H R h=>by
 walk_at "2"
 walk_at "1"
 split at h1
 ·obtain⟨y,rfl,ry⟩:=q1.one
  split at h1
  ·rename_i c
   exact⟨_,by rw[ry.intE],c.1,c.2,h1 μ1 _ H1 (aj _) eS.refl l1.sto B4⟩
  ·exact h1.elim
 ·exact h1.elim⟩
end
mutual
noncomputable def W.und(n:Nat):W->Bool
 |.loc m=>decide (m<n)
 |.tup ws=>undWs n ws
 |_=>true
noncomputable def undWs(n:Nat):List W->Bool
 |[]=>true
 |w::ws=>w.und n&&undWs n ws
end
def am.und(n:Nat):am->Bool
 |.lst ws=>undWs n ws
 |.ro ws=>undWs n ws
 |.exc _=>true
 |.dct kvs=>undWs n (kvs.map fun p=>p.2)
 |.rod kvs=>undWs n (kvs.map fun p=>p.2)
 |.dcx kvs=>undWs n (kvs.map fun p=>p.2)
 |.rox kvs=>undWs n (kvs.map fun p=>p.2)
 |.obj _ fs=>undWs n (fs.map fun p=>p.2)
 |.tab _ _ _=>true
 |.pin _ _ _ w=>w.und n
 |.gone=>true
section
mutual
theorem bD.und:∀{w:W} {v:V},bD K μ H w v->w.und μ.length=true
 |.non,_,_=>by simp[W.und]
 |.bl _,_,_=>by simp[W.und]
 |.int _,_,_=>by simp[W.und]
 |.str _,_,_=>by simp[W.und]
 |.tup _,_,r=>by obtain⟨p,vs,_,_,c⟩:=r.tupE;unfold W.und;exact RelWs.und c
 |.loc _,_,r=>by obtain⟨a,e,_⟩:=r.locE;unfold W.und;exact ba (ac.mp e).1
theorem RelWs.und:∀{ws:List W} {vs:List V},RelWs K μ H ws vs->undWs μ.length ws=true
 |[],_,_=>by unfold undWs;rfl
 |_::_,_,r=>by obtain⟨x,xs,_,b,c⟩:=r.consE;unfold undWs;rw[bD.und b,RelWs.und c];rfl
end
mutual
theorem bD.take:∀{w:W} {v:V},bD K μ H w v->w.und n=true->bD K (μ.take n) H w v
 |.non,_,r,_=>by rw[r.nonE];exact .non
 |.bl _,_,r,_=>by rw[r.blE];exact .bl
 |.int _,_,r,_=>by rw[r.intE];exact .int
 |.str _,_,r,_=>by rw[r.strE];exact .str
 |.tup _,_,r,b=>by obtain⟨p,vs,rfl,h,c⟩:=r.tupE;unfold W.und at b;exact .tupI h (RelWs.takeN c b)
 |.loc _,_,r,b=>by obtain⟨a,e,rfl⟩:=r.locE;unfold W.und at b;exact .locI (by rw[dC (g7 b)];exact e)
theorem RelWs.takeN:∀{ws:List W} {vs:List V},RelWs K μ H ws vs->undWs n ws=true->RelWs K (μ.take n) H ws vs
 |[],_,r,_=>by rw[r.nilE];exact .nilI
 |_::_,_,r,b=>by
  obtain⟨x,xs,rfl,b1,c1⟩:=r.consE
  unfold undWs at b
  rw[b_]at b
  exact .consI (bD.take b1 b.1) (RelWs.takeN c1 b.2)
end
theorem KX.und_w(k:KX)(n:Nat):k.w.und n=true:=by
 have hi:∀ks:List Int,undWs n (ks.map W.int)=true:=fun ks=>by
  induction ks with
  |nil=>rfl
  |cons a l ih=>show(true&&undWs n (l.map W.int))=true;rw[ih];rfl
 cases k with
 |bo b=>rfl
 |fl ks=>unfold KX.w W.und;exact hi ks
 |pr i ks=>unfold KX.w W.und undWs;rw[show(W.int i).und n=true from rfl];unfold undWs;rw[show(W.tup (ks.map W.int)).und n=true by unfold W.und;exact hi ks];rfl
theorem vo:∀{kvs:List (KX×W)} {es:List DictEntry},Paired (Ag K μ H) kvs es->undWs μ.length (kvs.map fun p=>p.2)=true
 |_,_,.nil=>rfl
 |_,_,.cons r t=>by
  obtain⟨_,_,v,h,_⟩:=r
  show(_&&undWs _ _)=true
  rw[h.und,vo t];rfl
theorem sW:∀{kvs:List (KX×W)} {es:List DictEntry},Paired (Ag K μ H) kvs es->undWs n (kvs.map fun p=>p.2)=true->Paired (Ag K (μ.take n) H) kvs es
 |_,_,.nil,_=>.nil
 |_,_,.cons r t,b=>by
  obtain⟨a,⟨u,c,d⟩,v,h,g⟩:=r
  have b:(_&&undWs n _)=true:=b
  rw[b_]at b
  exact .cons ⟨a,⟨u,bD.take c (KX.und_w _ n),d⟩,v,bD.take h b.1,g⟩ (sW t b.2)
theorem mi.und{c:am}(r:mi K mg μ H c a):c.und μ.length=true:=by
 cases c with
 |lst ws=>obtain⟨vs,_,y⟩:=r;exact y.und
 |ro ws=>obtain⟨vs,_,y⟩:=r;exact y.und
 |exc c=>rfl
 |dct kvs=>obtain⟨vs,_,y⟩:=r;exact y.und
 |rod kvs=>obtain⟨vs,_,_,y⟩:=r;exact y.und
 |dcx kvs=>obtain⟨es,_,_,y,_⟩:=r;exact vo y
 |rox kvs=>obtain⟨es,_,_,_,y,_⟩:=r;exact vo y
 |obj _ fs=>obtain⟨_,_,vs,_,_,y⟩:=r;exact y.und
 |tab _ _ _=>rfl
 |pin _ _ _ _=>obtain⟨_,_,_,v,y,_⟩:=r;exact y.und
 |gone=>rfl
theorem mi.take{c:am}(r:mi K mg μ H c a)(b:c.und n=true):mi K mg (μ.take n) H c a:=by
 cases c with
 |lst ws=>obtain⟨vs,x,y⟩:=r;exact⟨vs,x,y.takeN b⟩
 |ro ws=>obtain⟨vs,x,y⟩:=r;exact⟨vs,x,y.takeN b⟩
 |exc c=>exact r
 |dct kvs=>obtain⟨vs,x,y⟩:=r;exact⟨vs,x,y.takeN b⟩
 |rod kvs=>obtain⟨vs,o,x,y⟩:=r;exact⟨vs,o,x,y.takeN b⟩
 |dcx kvs=>obtain⟨es,x,d,y,z⟩:=r;exact⟨es,x,d,sW y b,z⟩
 |rox kvs=>obtain⟨es,o,x,d,y,z⟩:=r;exact⟨es,o,x,d,sW y b,z⟩
 |obj _ fs=>obtain⟨C,dx,vs,m,x,y⟩:=r;exact⟨C,dx,vs,m,x,y.takeN b⟩
 |tab _ _ _=>exact r
 |pin _ _ _ _=>obtain⟨ea,p,g,v,y,z⟩:=r;exact⟨ea,p,g,v,y.take b,z⟩
 |gone=>trivial
end
theorem f_.ex{w:World}{o:HO}(x:f_ P w H h a o):∃ob,h.get? a=some ob:=by
 cases o with
 |lst xs=>obtain⟨_,_,_,_,e⟩:=x;exact⟨_,e⟩
 |tup xs=>obtain⟨_,_,_,o,e,_⟩:=x;exact⟨_,e⟩
 |dK kvs=>obtain⟨_,_,_,_,o,_,_,e,_⟩:=x;exact⟨_,e⟩
 |dT kvs=>obtain⟨_,_,_,_,o,_,_,e,_⟩:=x;exact⟨_,e⟩
 |set S n=>obtain⟨o,_,_,_,e,_⟩:=x;exact⟨_,e⟩
 |ins C dx fs=>obtain⟨_,_,_,e,_⟩:=x;exact⟨_,e⟩
 |own y=>obtain⟨_,e⟩:=x;exact⟨_,e⟩
 |xd fs=>obtain⟨_,⟨_,_,_,e,_⟩,_⟩:=x;exact⟨_,e⟩
 |rng lo hi=>obtain⟨_,_,_,e⟩:=x;exact⟨_,e⟩
 |frz ob u=>obtain⟨e,_⟩:=x;exact⟨_,e⟩
 |tbl ps=>exact⟨_,(show h.get? a=some _ from x)⟩
 |met f y=>exact⟨_,(show h.get? a=some _ from x)⟩
 |ext φ=>obtain⟨_,⟨_,e⟩,_⟩:=x;exact⟨_,e⟩
def MJ(st bz:List am)(ws:List W):Prop:=undWs st.length ws=true/\st.length<=bz.length/\∀(i:Nat),i<st.length->bz[i]?=st[i]?\/∃c,bz[i]?=some c/\c.und st.length=true
open Classical in
noncomputable def trunc(st bz:List am)(ws:List W):List am:=if MJ st bz ws then bz.take st.length else bz
theorem vp{ws:List W}{vs:List V}(S:iN K mg μ st H)(S':iN K mg μ' bz H')(p:μ <+: μ')(r:RelWs K μ' H' ws vs) :
  ∃μ2,μ <+: μ2/\iN K mg μ2 (trunc st bz ws) H'/\RelWs K μ2 H' ws vs:=by
 unfold trunc
 by_cases k:MJ st bz ws
 ·rw[au k]
  obtain⟨k1,k2,k3⟩:=k
  have e:μ'.take st.length=μ:=by
   obtain⟨t,rfl⟩:=p
   rw[S.len,l7]
  refine⟨μ'.take st.length,by rw[e];exact aj _,⟨fun i j a ci cj h1 h2 r1 r2 m1 m2=>?_,by rw[be,be,S'.len],fun i c a h1 h2=>?_⟩,r.takeN k1⟩
  ·have hi:i<st.length:=by have:=(ac.mp h1).1;rw[be]at this;omega
   have hj:j<st.length:=by have:=(ac.mp h2).1;rw[be]at this;omega
   rw[dC hi]at h1 m1
   rw[dC hj]at h2 m2
   exact S'.nd i j a ci cj h1 h2 r1 r2 m1 m2
  ·have hi:i<st.length:=by have:=(ac.mp h1).1;rw[be]at this;omega
   rw[dC hi]at h1 h2
   refine(S'.at' i c a h1 h2).take ?_
   rcases k3 i hi with q|⟨c',q,b⟩
   ·rw[h1]at q
    obtain⟨a0,g0,r0⟩:=S.get q.symm
    have:=r0.und
    rw[S.len];exact this
   ·rw[h1]at q;cases q;exact b
 ·rw[ay k]
  exact⟨μ',p,S',r⟩
def dm(N:Nat)(body:FS)(ws:List W)(st:List am):R W:=match body (ws.map some++List.replicate (N-ws.length) none) st with
 |.rt w bz=>.ok w (trunc st bz [w])
 |.nx _ bz=>.ok .non (trunc st bz [])
 |.ex c _ bz=>.ex c (trunc st bz [])
 |_=>.bad
def iE(P:Program)(w:World):EF:=fun outer H s E e s'=>∃x C t B H',e=.ref x/\E C none H'/\s'.os=s.os/\AllBare s'.gens/\Un (uM outer) [] H H' s.heap s'.heap/\qB P w H' s'.heap/\H' x=none/\Heap.FlyingW B outer x C (.ref t) s'.heap /\
 ∀b o,s'.heap.get? b=some o->(H' b≠none\/((∃o0,s.heap.get? b=some o0)/\b∉uM outer))->B.get? b=some o
def i8(K:Frag)(mg:Str->Option Value)(n:Nat)(F:List W->List am->R W):Sp:=fun vs H Q E=>vs.length=n/\∃μ ws st,iN K mg μ st H/\RelWs K μ H ws vs/\(match F ws st with
 |.ok w bz=>∀μ' v H',μ <+: μ'->eS K H H'->iN K mg μ' bz H'->bD K μ' H' w v->Q v H'
 |.ex c bz=>∀C μ' H',mg c=some C->μ <+: μ'->eS K H H'->iN K mg μ' bz H'->E C none H'
 |.bad=>False)
theorem xE.noted{c:Str}{e:Value}{Q:Unit->Shared->Prop}{E:Value->Shared->Prop}{M:Model}{outer:List Env}(f:xE X ah σ c H e s)(nA:X.stack=X.env::outer)(wG:X.env.frame=some X.env.locals)(hA:X.A.frames=some X.stack)
  (h:∀x C t B h',e=.ref x->X.mg c=some C->H x=none->Heap.FlyingW B X.stack x C (.ref t) h'->s.heap.UpToSlots h' ->
   (∀b o,s.heap.get? b=some o->(H b≠none\/((∃o0,X.s₀.heap.get? b=some o0)/\b∉X.fs/\b∉X.ex)\/((∃y,X.env.cells.lookup y=some b)/\b∉uM X.stack)\/∃p∈X.pn++ah,p.1=b)->B.get? b=some o)->Q () { s with heap:=h' }) :
  wpAny M X.A (leaving X.env e) Q E s:=by
 obtain⟨x,C,t,B,rfl,hC,hx,st,nx,ff,tr,cov⟩:=f.ex
 rw[nA]at ff hA
 rcases tr with tr|⟨oe,vs,he,rfl,_,hd,h1,h0⟩|⟨L,hL,tr⟩
 ·refine wpAny_leaving_nextW hA ff wG tr st nx fun h' hL=>?_
  obtain⟨k1,k2,k3,k4⟩:=hL
  exact h x C t B h' rfl hC hx ⟨k1,nx,by rw[nA];exact k2,k3⟩ k4 cov
 ·refine wpAny_leaving_firstW hA ff wG he st nx hd h1 h0 fun h' hL=>?_
  obtain⟨k1,k2,k3,k4⟩:=hL
  exact h x _ t B h' rfl hC hx ⟨k1,nx,by rw[nA];exact k2,k3⟩ k4 cov
 ·unfold leaving
  refine aa (wpAny_noteFrame_againW hL tr (wpAny_landsW ⟨st,nx,ff,tr⟩ fun h' fl up=>?_))
  exact h x C t B h' rfl hC hx (by rw[nA];exact fl) up cov
theorem xE.leaves{c:Str}{e:Value}{E:XK}{E':Value->Shared->Prop}(f:xE X ah σ c H e s)(nA:X.stack=X.env::X.outer)(wG:X.env.frame=some X.env.locals)(hA:X.A.frames=some X.stack)(zv:X.ex=[])
  (hE:∀C,X.mg c=some C->E C none H):wpAny M X.A (leaving X.env e) (fun _ s''=>iE X.prog X.w X.outer X.H₀ X.s₀ E e s'') E' s:=by
 refine f.noted nA wG hA fun x C t B h' he hC hx fl up cov=>?_
 have I:=f.inv
 have un:=I.base
 rw[zv]at un
 have fsE:X.fs=uM X.outer:=rfl
 obtain⟨f1,f2,f3,f4⟩:=fl
 rw[nA]at f3
 obtain⟨_,_,f3'⟩:=f3
 have frames:∀b∈uM X.outer,∀o,s.heap.get? b=some o->∃sl,h'.get? b=some { o with slots:=sl }:=fun b hb o ho=>by
  obtain⟨_,o',ho',hd⟩:=I.funs.mem hb
  rw[ho]at ho';cases ho'
  exact up b o ho hd
 have kept:∀b o,s.heap.get? b=some o->(∃o0,X.s₀.heap.get? b=some o0)->b∉uM X.outer->h'.get? b=some o:=fun b o ho h0 hb=>f1 b o (cov b o ho (.inr (.inl ⟨h0,hb,by rw[zv];simp⟩)))
 have keptH:∀b o,s.heap.get? b=some o->H b≠none->h'.get? b=some o:=fun b o ho h0=>f1 b o (cov b o ho (.inl h0))
 refine⟨x,C,t,B,H,he,hE C hC,I.os,I.bare,⟨fun b o q n hb hx=>?_,fun b o q n hb hx=>?_,fun b o q n hx=>un.free b o q n hx,fun b o q hx=>?_,un.tups,un.frzs,un.tbls⟩,fun b u hb=>?_,hx,⟨f1,f2,f3',f4⟩,fun b o ho hr=>?_⟩
 ·exact kept b o (un.keep b o q n hb hx) ⟨o,q⟩ hb
 ·obtain⟨sl,q1⟩:=un.slot b o q n hb hx
  obtain⟨sl2,q2⟩:=frames b hb _ q1
  exact⟨sl2,q2⟩
 ·obtain⟨o',q1⟩:=un.there b o q hx
  by_cases hb:b∈uM X.outer
  ·obtain⟨sl2,q2⟩:=frames b hb _ q1;exact⟨_,q2⟩
  ·exact⟨o',kept b o' q1 ⟨o,q⟩ hb⟩
 ·refine(I.hok b u hb).stay (fun c v hc q=>?_) (fun _ q=>q) fun _ _ q=>q
  refine keptH c v q ?_
  rcases hc with rfl|hc
  ·rw[hb];simp
  ·rw[hc];simp
 ·rcases hr with hr|⟨⟨o0,h0⟩,hb⟩
  ·cases hu:H b with
   |none=>exact absurd hu hr
   |some u=>
    have lt:=I.hok.lt hu
    obtain⟨ob,Bt⟩:∃ob,s.heap.get? b=some ob:=by
     exact(I.hok b u hu).ex
    have:=keptH b ob Bt hr
    rw[ho]at this;cases this
    exact cov b o Bt (.inl hr)
  ·obtain⟨o',q1⟩:=un.there b o0 h0 #[9]
   have:=kept b o' q1 ⟨o0,h0⟩ hb
   rw[ho]at this;cases this
   exact cov b o q1 (.inr (.inl ⟨⟨o0,h0⟩,hb,by rw[zv];simp⟩))
structure dB(P:Program)(w:World)(K:Frag)(mg:Str->Option Value)(base:Heap)(k:Nat)(x:Str)(n:Nat)(F:List W->List am->R W):Prop where
 ex:∃(f:Addr) (fd:FuncData) (ps:List Str),mg x=some (.ref f)/\keepIn K (.ref f)=true/\ps.length=n/\p9 K fd ps []/\c_ P w K mg base (iE P w) k f fd ps (i8 K mg n F)
theorem dB.mono{w:World}{k:Nat}{x:Str}(h:dB P w K mg base j x n F)(hj:j<=k):dB P w K mg base k x n F:=by
 obtain⟨f,fd,ps,a,b,c,d,e⟩:=h.ex
 exact⟨f,fd,ps,a,b,c,d,e.mono hj⟩
def cz(n:Nat)(F:List W->List am->R W)(fs:FA):FE:=fun ρ st=>(fs ρ st).bind fun ws st=>if ws.length=n then F ws st else .bad
section
theorem G4{k:Nat}{f:Addr}{Q:VK}{us:List Value}{vs:List V}
  (Fn:c_ X.prog X.w X.K X.mg X.base (iE X.prog X.w) k f fd ps (i8 X.K X.mg n F)) (hn:ps.length=n) (hr:h_ k X.A) (hb:p9 X.K fd ps []) (I:bK X ah σ H s) (S:iN X.K X.mg μ st H) (r:RelWs X.K μ H ws vs) (rv:cG vs us) (hl:ws.length=n)
  (h:RK X (sQ X) μ σ H Q (F ws st)):wpAny #[4] X.A (call (.ref f) us) (EP X ah σ Q) X.xe s:=by
 have hl':(us++([]:List Value)).length=ps.length:=by rw[bC,<- rv.length,<- r.len,hl,hn]
 cases e:F ws st with
 |bad=>rw[e]at h;exact h.elim
 |ok w bz=>
  rw[e]at h
  refine qV (im (Fn.run X.A X.stack s H ⟨us,[]⟩ us vs Q (fun _ _ _=>False) hr I.env0 (by have:=hb s us I.kIn hl';rwa[bC]at this) rv ⟨by rw[<- r.len];exact hl,μ,ws,st,S,r,by rw[e];exact h⟩) fun r s' hq=>?_)
  cases r with
  |error e=>obtain⟨_,_,_,_,_,_,z,_⟩:=hq;exact z.elim
  |ok fl=>
   cases fl with
   |ret u=>exact I.after hq
   |next=>exact False.elim hq
   |brk=>exact False.elim hq
   |cont=>exact False.elim hq
 |ex c bz=>
  rw[e]at h
  refine qV (im (Fn.run X.A X.stack s H ⟨us,[]⟩ us vs (fun _ _=>False) (fun C _ H'=>X.mg c=some C/\∃μ',μ <+: μ'/\eS X.K H H'/\iN X.K X.mg μ' bz H') hr I.env0 (by have:=hb s us I.kIn hl';rwa[bC]at this) rv
   ⟨by rw[<- r.len];exact hl,μ,ws,st,S,r,by rw[e];exact fun C μ' H' hC p x S'=>⟨hC,μ',p,x,S'⟩⟩) fun r s' hq=>?_)
  cases r with
  |ok fl=>
   cases fl with
   |ret u=>obtain⟨_,_,_,_,_,_,_,z⟩:=hq;exact z.elim
   |next=>exact False.elim hq
   |brk=>exact False.elim hq
   |cont=>exact False.elim hq
  |error ev=>
   obtain⟨x,C,t,B,H',rfl,⟨hC,μ',p,xx,S'⟩,os,bare,un,hok,hx,fl,cov⟩:=hq
   have I':bK X ah σ H' s':=I.call' os un hok bare fun b hb=>absurd hb #[9]
   refine h ah μ' H' (.ref x) s' p xx S' ⟨I',x,C,t,B,rfl,hC,hx,fl.1,fl.2.1,fl.2.2.1,.inl fl.2.2.2,fun b o ho hrel=>?_⟩
   refine cov b o ho ?_
   rcases hrel with q|⟨⟨o0,h0⟩,hb,hbx⟩|⟨⟨y,hy⟩,hb⟩|⟨pp,hp,rfl⟩
   ·exact .inl q
   ·refine .inr ⟨?_,fun z=>?_⟩
    ·obtain⟨o',q1⟩:=I.base.there b o0 h0 hbx
     exact⟨o',q1⟩
    ·rcases aM.mp (I.stkSub b z)with z|z
     ·rw[z]at h0
      exact absurd (aL (aD h0) I.ok.above) (cr _)
     ·exact hb z
   ·obtain⟨v,ov,hov,_⟩:=I.cell y b hy
    exact .inr ⟨⟨_,hov⟩,hb⟩
   ·obtain⟨g1,g2,g3,g4,_⟩:=I.pin pp hp
    refine .inr ⟨⟨_,g1⟩,fun z=>?_⟩
    rcases aM.mp (I.stkSub _ z)with z|z
    ·exact g3 z
    ·exact g4 z
variable{x:Str}{fs:FA}
theorem T6{k k':Nat}(Fn:dB X.prog X.w X.K X.mg X.base k x n F)(hr:h_ k' X.A)(hk:k<=k')(ha:SA X (e::es) fs)(hg:Gl X x:=by rfl)(J7:(x==("__debug__":Str))=false:=by decide)
  (he:starEach (e::es) X.env=(false,eval e X.env)::starEach es X.env:=by rfl) (qY:(backTo pos (starEach es X.env)).any (·.1)=false:=by rfl):SE X (.Call (.Name x p) (e::es) [] pos) (cz n F fs):=⟨by
 intro ah s σ H Q I h
 obtain⟨f,fd,ps,hm,hkp,hn,hb,Fo⟩:=(Fn.mono hk).ex
 refine fK (uN I hg hm ?_ J7)
 walk_at "2"
 have h':Tp X fs σ H fun vs H1=>∃μ1 st1 ws,Rl X μ1 ρ st1 σ H1/\RelWs X.K μ1 H1 ws vs/\RK X (sQ X) μ1 σ H1 Q (if ws.length=n then F ws st1 else .bad):=
  ⟨μ,ρ,st,l,RK.bind h l fun μ1 st1 x v H1 p1 x1 l1 q1 h1=>⟨μ1,st1,x,l1,q1,h1⟩⟩
 refine PySem.W.callWith_K (h₀:=X.base) I.ok.mod.kin hkp (gG (ha.h pos ah s σ H _ I h') fun us s1 zq=>?_) he qY
 obtain⟨vs,H1,I1,r,μ1,st1,ws,l1,r1,q⟩:=zq
 refine⟨I1.kIn,?_⟩
 by_cases c:ws.length=n
 ·rw[au c]at q
  exact G4 Fo hn hr hb I1 l1.sto r1 r c q
 ·rw[ay c]at q;exact q.elim⟩
end
theorem Ls{w:World}{x gn:Str}{st:Stmt}{f:Addr}{N:List Str}{k:Nat}{g:FS}(F:iZ K x gn st f fd)(S:bh N ps (aK st))(hn:ps.length=n)
  (Bj:∀(fO:Value) (A:Around) (outer:List Env) (s:Shared) (H:Hp) (E:XK),fd.code=fO->h_ k (A.deeper (envOfC gn (aK st) s.heap.objs.size f fO)) ->
   SB (BK (iE P w) P w K mg base N gn (aK st) f fO A outer s H E) (gs st) g):c_ P w K mg base (iE P w) (k+1) f fd ps (i8 K mg n (dm N.length g)):=by
 obtain⟨oc,od,kV,sK,pm,an,fO,ct,N8,rfl,lk,FP⟩:=F.ex
 refine SM lk FP S (fun vs H Q E h=>by rw[hn];exact h.1) fun A outer s H vs Q E hr N_=>?_
 obtain⟨hl,μ,ws,V5,Sr,r,h⟩:=N_
 refine⟨_,(Bj fO A outer s H E rfl hr).h,μ,ws.map some++List.replicate (N.length-ws.length) none,V5,⟨?_,Sr⟩,?_⟩
 ·unfold tQ
  rw[<- r.len]
  have base:∀(ws:List W) (vs:List V) (m:Nat),RelWs K μ H ws vs->Paired (fun(o:Option W) (s:Option V)=>∀w,o=some w->∃v,s=some v/\bD K μ H w v) (ws.map some++List.replicate m none) (vs.map some++List.replicate m none):=by
   intro ws
   induction ws with
   |nil=>
    intro vs m r
    rw[r.nilE]
    induction m with
    |zero=>exact .nil
    |succ m ih=>exact .cons (fun w z=>nomatch z) ih
   |cons w ws ih=>
    intro vs m r
    obtain⟨y,ys,rfl,ry,rys⟩:=r.consE
    exact .cons (fun w' z=>⟨y,rfl,by cases z;exact ry⟩) (ih ys m rys)
  exact base ws vs _ r
 ·unfold dm at h
  cases e:g (ws.map some++List.replicate (N.length-ws.length) none) V5 with
  |rt w bz=>
   rw[e]at h
   intro μ' v H' p x S' qS
   obtain⟨μ2,p2,S2,r2⟩:=vp Sr S' p (.consI qS .nilI)
   obtain⟨_,e2,r3⟩:=r2.one
   cases e2
   exact h μ2 v H' p2 x S2 r3
  |nx ρ' bz=>
   rw[e]at h
   intro μ' σ' H' p x l'
   obtain⟨μ2,p2,S2,_⟩:=vp (ws:=[]) (vs:=[]) Sr l'.sto p .nilI
   exact h μ2 .non H' p2 x S2 .non
  |ex c ρ' bz=>
   rw[e]at h
   intro ah μ' σ' H' ev s' p x l' fl
   obtain⟨μ2,p2,S2,_⟩:=vp (ws:=[]) (vs:=[]) Sr l'.sto p .nilI
   exact fl.leaves rfl rfl fl.inv.ok.frames rfl fun C hC=>h C μ2 H' hC p2 x S2
  |bk ρ' bz=>rw[e]at h;exact h.elim
  |ct ρ' bz=>rw[e]at h;exact h.elim
  |bad=>rw[e]at h;exact h.elim
theorem bT{w:World}{x gn:Str}{st:Stmt}{f:Addr}{N:List Str}{k:Nat}{g:FS}(F:iZ K x gn st f fd)(S:bh N ps (aK st))(hn:ps.length=n)
  (Bj:∀(fO:Value) (A:Around) (outer:List Env) (s:Shared) (H:Hp) (E:XK),h_ k (A.deeper (envOfC gn (aK st) s.heap.objs.size f fO)) ->
   SB (BK (iE P w) P w K mg base N gn (aK st) f fO A outer s H E) (gs st) g):c_ P w K mg base (iE P w) (k+1) f fd ps (i8 K mg n (dm N.length g)):=Ls F S hn fun fO A outer s H E _ hr=>Bj fO A outer s H E hr
theorem yo{w:World}{k:Nat}{x:Str}{st:Stmt}{f:Addr}{ps:List Str}
  (F:iZ K x x st f fd) (hm:mg x=some (.ref f)) (hn:ps.length=n)
  (hb:∀(kV sK pm:Value) (an:Option Addr) (fO ct:Value) (us:List Value),us.length=ps.length->bindArgs (fnOf x x (ic st) (gs st) (aK st) .none kV sK pm an fO ct) ⟨us,[]⟩=pure (ps.zip us))
  (ok:c_ P w K mg base (iE P w) k f fd ps (i8 K mg n G)):dB P w K mg base k x n G:=⟨f,fd,ps,hm,F.kp,hn,F.binds hb,ok⟩
theorem RelWs.split:∀{as bs:List W} {vs:List V},RelWs K μ H (as++bs) vs->∃xs ys,vs=xs++ys/\RelWs K μ H as xs/\RelWs K μ H bs ys
 |[],_,vs,r=>⟨[],vs,rfl,.nilI,r⟩
 |w::as,bs,vs,r=>by
  obtain⟨x,xs,rfl,rx,rs⟩:=r.consE
  obtain⟨ys,zs,rfl,r1,r2⟩:=RelWs.split rs
  exact⟨x::ys,zs,rfl,.consI rx r1,r2⟩
section
variable{a b c:Expr}{x:Str}{fa fb fe fo:FE}{fs:FA}{id:String}
structure R6(X:Cx)(id:String)(F:W->List W->List am->R W):Prop where
 h:EI X id (fun x vs H Q=>∃μ st wx ws,iN X.K X.mg μ st H/\bD X.K μ H wx x/\RelWs X.K μ H ws vs/\FQ X μ H Q (F wx ws st))
 n:∀x ws st,uo (F x ws st)
noncomputable def pj(st:List am):W->Bool
 |.loc n=>(match st[n]? with|some (.lst _)=>true|_=>false)
 |_=>false
noncomputable def G5:W->Bool
 |.str _=>true
 |_=>false
theorem As{w:W}{v:V}(S:iN X.K X.mg μ st H)(r:bD X.K μ H w v)(h:pj st w=true):∃l ys,v=.ref l/\H l=some (.lst ys):=by
 cases w with
 |loc n=>
  obtain⟨a,ha,rfl⟩:=r.locE
  simp only[pj]at h
  cases e1:st[n]? with
  |none=>rw[e1]at h;cases h
  |some cc=>
   rw[e1]at h
   cases cc with
   |lst ws=>obtain⟨a1,g1,vs,k1,_⟩:=S.get e1;rw[ha]at g1;cases g1;exact⟨_,vs,rfl,k1⟩
   |_=>cases h
 |_=>cases h
def n9(F:W->List W->List am->R W)(fo:FE)(fs:FA):FE:=fun ρ st=>(fo ρ st).bind fun x st=>if pj st x then(fs ρ st).bind fun ws st=>F x ws st else .bad
def B8(F:W->List W->List am->R W)(fo:FE)(fs:FA):FE:=fun ρ st=>(fo ρ st).bind fun x st=>if G5 x then(fs ρ st).bind fun ws st=>F x ws st else .bad
theorem WO{F:W->List W->List am->R W}(slot:Slot "list" name id)(Bx:typeOf (.builtin id)=pure (.type "method_descriptor"))(hm:R6 X id F)(ho:SE X o fo)(ha:SA X (e::es) fs)
  (kE:attributeBase o name X.env (eval o X.env)=eval o X.env:=by rfl)
  (wm:((backTo dM (starEach (e::es) X.env)).all (fun x=>!x.1)&&(backToKw dM (keywordEach [] X.env)).all (fun x=>x.1.isSome)
   && decide ((e::es).length+([]:List Keyword).length+(if ([]:List Keyword).isEmpty then 0 else 1)<30))=true:=by rfl)
  (kG:(fI.endLine==dM.line)=true:=by rfl) (hs:starEach (e::es) X.env=(false,eval e X.env)::starEach es X.env:=by rfl) (nK:(backTo dM (starEach es X.env)).any (·.1)=false:=by rfl) :
  SE X (.Call (.Attribute o name fI) (e::es) [] dM) (n9 F fo fs):=⟨(Tb slot Bx hm.h ho.h ha.h kE wm kG hs nK).imp fun σ H Q h=>by
 walk_at "2"
 walk_at "1"
 by_cases c:pj st1 x=true
 ·rw[au c]at h1
  refine⟨As l1.sto q1 c,μ1,ρ,st1,l1,RK.bind h1 l1 fun μ2 db ws vs H2 p2 x2 l2 q2 h2=>?_⟩
  exact⟨μ2,db,x,ws,l2.sto,q1.mono p2 x2,q2,sR h2 (hm.n _ _ _)⟩
 ·rw[ay c]at h1;exact h1.elim⟩
theorem T7{F:W->List W->List am->R W}(slot:Slot "list" name id)(Bx:typeOf (.builtin id)=pure (.type "method_descriptor"))(hm:R6 X id F)(ho:SE X o fo)
  (kE:attributeBase o name X.env (eval o X.env)=eval o X.env:=by rfl) (kG:(fI.endLine==dM.line)=true:=by rfl):SE X (.Call (.Attribute o name fI) [] [] dM) (n9 F fo aA):=⟨(Pw slot Bx hm.h ho.h kE kG).imp fun σ H Q h=>by
 walk_at "2"
 walk_at "1"
 by_cases c:pj st1 x=true
 ·rw[au c]at h1
  exact⟨As l1.sto q1 c,μ1,st1,x,[],l1.sto,q1,.nilI,sR h1 (hm.n _ _ _)⟩
 ·rw[ay c]at h1;exact h1.elim⟩
theorem T8{F:W->List W->List am->R W}(slot:Slot "str" name id)(Bx:typeOf (.builtin id)=pure (.type "method_descriptor"))(hm:R6 X id F)(ho:SE X o fo)(ha:SA X (e::es) fs)
  (kE:attributeBase o name X.env (eval o X.env)=eval o X.env:=by rfl)
  (wm:((backTo dM (starEach (e::es) X.env)).all (fun x=>!x.1)&&(backToKw dM (keywordEach [] X.env)).all (fun x=>x.1.isSome)
   && decide ((e::es).length+([]:List Keyword).length+(if ([]:List Keyword).isEmpty then 0 else 1)<30))=true:=by rfl)
  (kG:(fI.endLine==dM.line)=true:=by rfl) (hs:starEach (e::es) X.env=(false,eval e X.env)::starEach es X.env:=by rfl) (nK:(backTo dM (starEach es X.env)).any (·.1)=false:=by rfl) :
  SE X (.Call (.Attribute o name fI) (e::es) [] dM) (B8 F fo fs):=⟨(Tc slot Bx hm.h ho.h ha.h kE wm kG hs nK).imp fun σ H Q h=>by
 walk_at "2"
 walk_at "1"
 cases x with
 |str z=>
  rw[au (show G5 (W.str z)=true from rfl)]at h1
  refine⟨⟨z,q1.strE⟩,μ1,ρ,st1,l1,RK.bind h1 l1 fun μ2 db ws vs H2 p2 x2 l2 q2 h2=>?_⟩
  exact⟨μ2,db,_,ws,l2.sto,q1.mono p2 x2,q2,sR h2 (hm.n _ _ _)⟩
 |_=>exact h1.elim⟩
def bW(x:W)(ws:List W)(st:List am):R W:=match x,ws with
 |.loc n,[y]=>(match st[n]? with
  |some (.lst zs)=>if zs.length<ny then .ok .non (st.set n (.lst (zs++[y])))else .bad
  |_=>.bad)
 |_,_=>.bad
theorem E9:R6 X "list.append" bW:=⟨fun ah s σ H x vs v us Q I rv rus zq=>by
 obtain⟨μ,st,wx,ws,S,rx,rs,q⟩:=zq
 unfold bW at q
 split at q
 ·rename_i n y
  obtain⟨y1,rfl,ry⟩:=rs.one
  split at q
  ·rename_i zs e1
   split at q
   ·rename_i c
    obtain⟨a1,g1,vs,k1,r⟩:=S.get e1
    obtain⟨b1,f1,rfl⟩:=rx.locE
    rw[g1]at f1;cases f1
    refine BS ah s σ H _ _ v us Q I rv rus ⟨a1,vs,y1,rfl,rfl,k1,by rw[<- r.len];exact PD (gC c),fun H2 e=>?_⟩
    subst e
    exact q μ _ _ (aj _) (gp.but iS k1) (S.set e1 g1 k1 (r.app (.consI ry .nilI))) .non
   ·exact q.elim
  ·exact q.elim
 ·exact q.elim,fun x ws st=>by
 unfold bW
 repeat' split
 all_goals trivial⟩
def rE(x:W)(ws:List W)(st:List am):R W:=match x,ws with
 |.loc n,[]=>(match st[n]? with
  |some (.lst zs)=>sV zs.getLast? fun w=>.ok w (st.set n (.lst zs.dropLast))
  |_=>.bad)
 |_,_=>.bad
theorem P2:R6 X "list.pop" rE:=⟨fun ah s σ H x vs v us Q I rv rus zq=>by
 obtain⟨μ,st,wx,ws,S,rx,rs,q⟩:=zq
 unfold rE at q
 split at q
 ·rename_i n
  have e0:=rs.nilE
  subst e0
  split at q
  ·rename_i zs e1
   obtain⟨a1,g1,vs,k1,r⟩:=S.get e1
   obtain⟨b1,f1,rfl⟩:=rx.locE
   rw[g1]at f1;cases f1
   cases hl:zs.getLast? with
   |none=>rw[hl]at q;exact q.elim
   |some w=>
    rw[hl]at q
    have hz:zs=zs.dropLast++[w]:=by
     obtain⟨ys,rfl⟩:=List.getLast?_eq_some_iff.mp hl
     simp
    rw[hz]at r
    obtain⟨xs',R_,hx,r1,r3⟩:=r.split
    obtain⟨y',rfl,r2⟩:=r3.one
    refine K9 ah s σ H _ _ v us Q I rv rus ⟨a1,xs',y',rfl,rfl,by rw[<- hx];exact k1,fun H2 e=>?_⟩
    subst e
    have xx:eS X.K H (e_ H a1 (.lst xs')):=gp.but iS k1
    exact q μ _ _ (aj _) xx (S.set e1 g1 k1 r1) (r2.mono (aj _) xx)
  ·exact q.elim
 ·exact q.elim,fun x ws st=>by
 unfold rE sV
 repeat' split
 all_goals trivial⟩
noncomputable def n_:List W->Option (List (List Nat))
 |[]=>some []
 |.str l::ws=>(n_ ws).map (l :: ·)
 |_=>none
theorem vq:∀{ws:List W} {ls:List (List Nat)} {vs:List V},n_ ws=some ls->RelWs K μ H ws vs->vs=ls.map fun l=>V.str (tx l)
 |[],ls,vs,h,r=>by simp only[n_]at h;cases h;exact r.nilE
 |w::ws,ls,vs,h,r=>by
  obtain⟨x,xs,rfl,rx,rs⟩:=r.consE
  cases w with
  |str l=>
   simp only[n_]at h
   cases e:n_ ws with
   |none=>rw[e]at h;cases h
   |some ls'=>rw[e]at h;cases h;rw[rx.strE,vq e rs];rfl
  |_=>simp only[n_]at h;cases h
theorem xG(ls:List (List Nat)):n_ (ls.map W.str)=some ls:=by
 induction ls with
 |nil=>rfl
 |cons a r ih=>show(n_ (r.map W.str)).map (a :: ·)=_;rw[ih];rfl
def kr(x:W)(ws:List W)(st:List am):R W:=match x,ws with
 |.str sep,[.loc n]=>sV (lstOf st n) fun zs=>sV (n_ zs) fun ls=>if (ls.map List.length).sum+ls.length*sep.length<=ny then .ok (.str (oZ sep ls)) st else .bad
 |_,_=>.bad
theorem De:R6 X "str.join" kr:=⟨fun ah s σ H x vs v us Q I rv rus zq=>by
 obtain⟨μ,st,wx,ws,S,rx,rs,q⟩:=zq
 unfold kr at q
 split at q
 ·rename_i sep n
  obtain⟨y1,rfl,ry⟩:=rs.one
  cases e1:lstOf st n with
  |none=>rw[e1]at q;exact q.elim
  |some zs=>
   rw[e1,dH]at q
   cases e2:n_ zs with
   |none=>rw[e2]at q;exact q.elim
   |some ls=>
    rw[e2,dH]at q
    split at q
    ·rename_i c
     obtain⟨a,vs,g,hS,r⟩:=S.lstOf e1
     obtain⟨b1,f1,rfl⟩:=ry.locE
     rw[g]at f1;cases f1
     have:=vq e2 r
     subst this
     exact K5 ah s σ H _ _ v us Q I rv rus ⟨sep,_,ls,rx.strE,rfl,hS,aR c #[1],rA S q⟩
    ·exact q.elim
 ·exact q.elim,fun x ws st=>by
 unfold kr
 split
 ·exact qe fun _=>qe fun _=>by split<;>trivial
 ·trivial⟩
end
def oJ(cap:List (Option Nat))(ρ:cy):cy:=cap.map fun o=>o.bind fun j=>(ρ[j]?).join
theorem T9{ρ:cy}(r:Paired (fun(o:Option W) (s:Option V)=>∀w,o=some w->∃v,s=some v/\bD X.K μ H w v) ρ σ):∀cap:List (Option Nat),
  Paired (fun(o:Option W) (s:Option V)=>∀w,o=some w->∃v,s=some v/\bD X.K μ H w v) (oJ cap ρ) (p_ cap σ)
 |[]=>.nil
 |o::cap=>by
  refine .cons (fun w e=>?_) (T9 r cap)
  cases o with
  |none=>cases e
  |some j=>
   have e':(ρ[j]?).join=some w:=e
   have e2:ρ[j]?=some (some w):=by
    cases h:ρ[j]? with
    |none=>rw[h]at e';cases e'
    |some ow=>rw[h]at e';simp at e';rw[e']
   obtain⟨v,g1,g2⟩:=vg r e2
   exact⟨v,by show(σ[j]?).join=some v;rw[g1];rfl,g2⟩
open Classical in
def jS(f:FG)(t:FT)(el:FE)(ck:Option (Nat×List W))(ρ0:cy):List W->List W->List am->R (List W)
 |[],fZ,st=>if hG st ck then .ok fZ st else .bad
 |w::ws,fZ,st=>if hG st ck then(match f w ρ0 with
  |none=>.bad
  |some ρ'=>(match t ρ' st with
   |.ok true st1=>(match el ρ' st1 with
    |.ok y db=>jS f t el ck ρ0 ws (fZ++[y]) db
    |_=>.bad)
   |.ok false st1=>jS f t el ck ρ0 ws fZ st1
   |_=>.bad))else .bad
def cV(cap:List (Option Nat))(fi:FI)(f:FG)(t:FT)(el:FE):FE:=fun ρ st=>(fi ρ st).bind fun k st=>if k.1.length<=ny then(jS f t el k.2 (oJ cap ρ) k.1 [] st).bind fun ys st=>kZ ys st else .bad
def VH(X:Cx)(rel:List Addr->Hp->α->β->Prop)(f:cy->List am->R α)(σ:St)(H:Hp)(Q:β->Hp->Prop):Prop:=
 ∃μ ρ st a bz,Rl X μ ρ st σ H/\f ρ st=.ok a bz/\∀μ' b H',μ <+: μ'->eS X.K H H'->iN X.K X.mg μ' bz H'->rel μ' H' a b->Q b H'
def g8:FT:=fun _ st=>.ok true st
structure P3(X:Cx)(es:List Expr)(f:FT):Prop where
 h:Gk X es (tT X f)
theorem Gk.imp{e:List Expr}{t t':TT}(h:Gk X e t)(i:∀σ H Q,t' σ H Q->t σ H Q):Gk X e t':=fun ah s σ H Q I q=>h ah s σ H Q I (i _ _ _ q)
theorem Lu:P3 X [] g8:=⟨KY.imp fun σ H Q h=>by
 walk_at "2"
 exact h μ true H (aj _) eS.refl l.sto rfl⟩
theorem Lv{c:Expr}{t:FT}(hc:ST X c t):P3 X [c] t:=⟨KZ hc.h⟩
theorem G6{fi:FI}{f:FG}{t:FT}{el:FE}{Q:VK}(h:tE X (cV cap fi f t el) σ H Q) :
  u8 cap (fun σ H R=>tG X (T5 X) fi σ H R) (VF X f) (VH X PF t) (VH X (sQ X) el) σ H Q:=by
 walk_at "2"
 refine⟨μ,ρ,st,l,RK.bind h l fun μ1 st1 k J H1 p1 x1 l1 wk h1=>?_⟩
 by_cases hz:k.1.length<=ny
 ·rw[au hz]at h1
  refine⟨fun i m ys H'=>i<=k.1.length/\m=k.1.length-i/\ys.length<=i/\∃μ' fZ bz,μ1 <+: μ'/\eS X.K H1 H'/\Rl X μ' ρ bz σ H'/\RelWs X.K μ' H' fZ ys/\RK X (sQ X) μ' σ H' Q ((jS f t el k.2 (oJ cap ρ) (k.1.drop i) fZ bz).bind fun ys st=>kZ ys st),
   ⟨_,cM _,rfl,ax _,μ1,[],st1,aj _,eS.refl,l1,.nilI,h1⟩,?_⟩
  rintro i m ys H' ⟨hi,rfl,hy,μ',fZ,bz,pm,xm,lm,ra,hm⟩
  by_cases hlt:i<k.1.length
  ·rw[bj hlt]at hm
   unfold jS at hm
   by_cases ck:hG bz k.2
   ·rw[au ck]at hm
    obtain⟨go,yld⟩:=(wk i μ' bz H' pm xm lm.sto ck).1 _ (ae hlt)
    refine .inr ⟨go,fun x H2 hy2=>?_⟩
    obtain⟨y1,y2,y3⟩:=yld x H2 hy2
    cases hf:f k.1[i] (oJ cap ρ)with
    |none=>rw[hf]at hm;exact hm.elim
    |some ρ2=>
     rw[hf]at hm
     simp only at hm
     have lb:Rl X μ' (oJ cap ρ) bz (p_ cap σ) H2:=⟨T9 (lm.to (aj _) y1 y2).env cap,y2⟩
     refine⟨μ',oJ cap ρ,bz,k.1[i],ρ2,lb,y3,hf,fun σ2 l2=>?_⟩
     cases ht:t ρ2 bz with
     |bad=>rw[ht]at hm;exact hm.elim
     |ex c s=>rw[ht]at hm;exact hm.elim
     |ok kk db=>
      rw[ht]at hm
      refine⟨μ',ρ2,bz,kk,db,l2,ht,fun μ3 b3 H3 p3 x3 S3 q3=>?_⟩
      cases q3
      cases kk with
      |false=>
       exact⟨_,by omega,hlt,rfl,by omega,μ3,fZ,db,pm.trans p3,xm.trans (y1.trans x3),lm.to p3 (y1.trans x3) S3,ra.mono p3 (y1.trans x3),RK.mono hm p3 (y1.trans x3)⟩
      |true=>
       rw[au rfl]
       simp only at hm
       cases he:el ρ2 db with
       |bad=>rw[he]at hm;exact hm.elim
       |ex c s=>rw[he]at hm;exact hm.elim
       |ok w mD=>
        rw[he]at hm
        refine⟨μ3,ρ2,db,w,mD,l2.to p3 x3 S3,he,fun μ4 b4 H4 p4 x4 S4 q4=>?_⟩
        have pp:=p3.trans p4
        have xx:=y1.trans (x3.trans x4)
        exact⟨jc hy (aL hlt (nD hz)),_,by omega,hlt,rfl,by simp;omega,μ4,fZ++[w],mD,pm.trans pp,xm.trans xx,lm.to pp xx S4,(ra.mono pp xx).app (.consI q4 .nilI),RK.mono hm pp xx⟩
   ·rw[ay ck]at hm;exact hm.elim
  ·have hi':i=k.1.length:=by omega
   subst hi'
   rw[dU (ax _)]at hm
   unfold jS at hm
   by_cases ck:hG bz k.2
   ·rw[au ck]at hm
    obtain⟨z1,z2⟩:=rq lm.sto ra hm
    exact .inl ⟨(wk _ μ' bz H' pm xm lm.sto ck).2 (ax _),z1,fun p hp=>z2 p _ hp rfl⟩
   ·rw[ay ck]at hm;exact hm.elim
 ·rw[ay hz]at h1;exact h1.elim
section
variable{nm:List Str}{fi:FI}{f:FG}{t:FT}{el:FE}
theorem Xk{X X':Cx}{f:FE}(hK:X'.K=X.K)(hm:X'.mg=X.mg)(h:SE X' e f):QE X' e (VH X (sQ X) f):=⟨h.h.imp fun σ H Q zq=>by obtain⟨μ,ρ,st,a,bz,l,e,q⟩:=zq;exact ⟨μ,ρ,st,⟨by rw[hK];exact l.env,by rw[hK,hm];exact l.sto⟩,by rw[e];exact fun μ' b H' p x S r=>q μ' b H' p (by rw[<- hK];exact x) (by rw[<- hK,<- hm];exact S) (by show bD X.K μ' H' a b;rw[<- hK];exact r)⟩⟩
theorem Xl{X X':Cx}{e:List Expr}{f:FT}(hK:X'.K=X.K)(hm:X'.mg=X.mg)(h:P3 X' e f):Ww X' e (VH X PF f):=⟨h.h.imp fun σ H Q zq=>by obtain⟨μ,ρ,st,a,bz,l,e,q⟩:=zq;exact ⟨μ,ρ,st,⟨by rw[hK];exact l.env,by rw[hK,hm];exact l.sto⟩,by rw[e];exact fun μ' b H' p x S r=>q μ' b H' p (by rw[<- hK];exact x) (by rw[<- hK,<- hm];exact S) r⟩⟩
theorem Xm{X X':Cx}(hK:X'.K=X.K)(hm:X'.mg=X.mg)(h:SG X' e f):QG X' e (VF X f):=⟨h.h.imp fun v σ H Q zq=>by obtain⟨μ,ρ,st,w,ρ',l,r,e,q⟩:=zq;exact ⟨μ,ρ,st,w,ρ',⟨by rw[hK];exact l.env,by rw[hK,hm];exact l.sto⟩,by rw[hK];exact r,e,fun σ' l'=>q σ' ⟨by rw[<- hK];exact l'.env,by rw[<- hK,<- hm];exact l'.sto⟩⟩⟩
theorem P4(hB:zO X.env.scope.names scope.names nm cap X.N=true)(lV:X.env.cells=cellsFrom m X.env.scope.names [])(hi:SI X tg dw fi)(hg:∀cl C s0 H0 fp,SG #[7] tg f)(ht:∀cl C s0 H0 fp,P3 #[7] lg t)
  (he:∀cl C s0 H0 fp,SE #[7] oq el) (iB:X.calm=true:=by rfl) (iA:scope.kind=.function:=by rfl) (hs:∀x,foldedSetIterable dw X.env x=pure x:=by intro _;rfl) :
  SE X #[6] (cV cap fi f t el):=
 ⟨(Py iB lV iA hB ⟨hi.h⟩ (fun cl C s0 H0 fp=>Xm (X:=X) rfl rfl (hg cl C s0 H0 fp)) (fun cl C s0 H0 fp=>Xl (X:=X) rfl rfl (ht cl C s0 H0 fp)) (fun cl C s0 H0 fp=>Xk (X:=X) rfl rfl (he cl C s0 H0 fp)) hs).h.imp fun _ _ _ h=>G6 h⟩
theorem B9{x0:Str}{p0 p1:Pos}(R3:SG X (.Name x0 p0) (dZ i))(hB:zO X.env.scope.names scope.names nm cap X.N=true)(lV:X.env.cells=cellsFrom m X.env.scope.names [])(hi:SI X tg dw fi)(hg:∀cl C s0 H0 fp,SG #[7] tg f)(ht:∀cl C s0 H0 fp,P3 #[7] lg t)
  (he:∀cl C s0 H0 fp,SE #[7] oq el) (iB:X.calm=true:=by rfl) (iA:scope.kind=.function:=by rfl) (hs:∀x,foldedSetIterable dw X.env x=pure x:=by intro _;rfl)
  (R0:swapsWith #[6] (some (.Name x0 p0)) p1.line X.env=pure true:=by first|rfl|kernel_rfl) :
  SS X (.Assign [.Name x0 p0] #[6] p1) (Aq (cV cap fi f t el) (dZ i)):=
 ⟨(B0 ⟨R3.h⟩ iB lV iA hB ⟨hi.h⟩ (fun cl C s0 H0 fp=>Xm (X:=X) rfl rfl (hg cl C s0 H0 fp)) (fun cl C s0 H0 fp=>Xl (X:=X) rfl rfl (ht cl C s0 H0 fp)) (fun cl C s0 H0 fp=>Xk (X:=X) rfl rfl (he cl C s0 H0 fp)) hs R0).h.imp fun D σ H h=>by
  walk_at "2"
  have h':tE X (cV cap fi f t el) σ H fun x H1=>VF X (dZ i) x σ H1 D.nx:=⟨μ,ρ,st,l,RK.stmt h l fun μ1 st1 x v H1 p1 x1 l1 q1 h1=>⟨μ1,ρ,st1,x,ρ.set i (some x),l1,q1,rfl,fun σ' l'=>h1 μ1 σ' H1 (aj _) eS.refl l'⟩⟩
  exact G6 h'⟩
end
section
variable{a b c:Expr}{x:Str}{fa fb fc fe fo:FE}{fs:FA}
theorem sX{nM:List V}(hr:∀μ H,RelWs X.K μ H ws nM):yn X (S8 nM) (ws,none) μ H:=fun i μ' bz H' pp xx S _=>by
 have hl:ws.length=nM.length:=(hr μ H).len
 refine⟨fun w hw=>?_,fun h=>by show nM.length<=i;rw[<- hl];exact h⟩
 obtain⟨v,g1,g2⟩:=(hr μ' H').get hw
 refine⟨(ac.mp g1).1,fun y H'' hy=>?_⟩
 obtain⟨rfl,hy⟩:=hy
 rw[g1]at hy;cases hy
 exact⟨eS.refl,S,g2⟩
noncomputable def eW(l:List Nat):List W:=l.map fun c=>.str [c]
theorem sY(l:List Nat)(μ:List Addr)(H:Hp):RelWs X.K μ H (eW l) (g_ l):=by
 induction l with
 |nil=>exact .nilI
 |cons a r ih=>exact .consI .str ih
def MK(fe:FE):FI:=fun ρ st=>(fe ρ st).bind fun x st=>match x with
 |.str l=>.ok (eW l,none) st
 |_=>.bad
theorem P5(he:SE X e fe):SI X tg e (MK fe):=⟨(Pt he.h).imp fun σ H R h=>by
 walk_at "2"
 walk_at "1"
 cases x with
 |str z=>exact⟨z,q1.strE,h1 μ1 _ H1 (aj _) eS.refl l1.sto (sX (sY z))⟩
 |_=>exact h1.elim⟩
def cX(fe:FE):FI:=fun ρ st=>(fe ρ st).bind fun x st=>match x with
 |.tup ws=>.ok (ws,none) st
 |.loc n=>(match lstOf st n with
  |some ws=>.ok (ws,some (n,ws)) st
  |none=>.bad)
 |.str l=>.ok (eW l,none) st
 |_=>.bad
theorem P6(he:SE X e fe):SI X tg e (cX fe):=⟨fun ah s σ H Rr I h=>by
 walk_at "2"
 cases e1:fe ρ st with
 |bad=>simp only[cX,e1,R.bind_bad]at h;exact h.elim
 |ex c st1=>
  refine(G3 (tg:=tg) he).h ah s σ H Rr I ⟨μ,ρ,st,l,?_⟩
  simp only[cX,G1,e1,R.bind_ex]at h ⊢;exact h
 |ok w st1=>
  cases w with
  |tup ws=>
   refine(G3 (tg:=tg) he).h ah s σ H Rr I ⟨μ,ρ,st,l,?_⟩
   simp only[cX,G1,e1,R.bind_ok]at h ⊢;exact h
  |loc n=>
   refine(P1 (tg:=tg) he).h ah s σ H Rr I ⟨μ,ρ,st,l,?_⟩
   simp only[cX,MI,e1,R.bind_ok]at h ⊢;exact h
  |str z=>
   refine(P5 (tg:=tg) he).h ah s σ H Rr I ⟨μ,ρ,st,l,?_⟩
   simp only[cX,MK,e1,R.bind_ok]at h ⊢;exact h
  |_=>simp only[cX,e1,R.bind_ok]at h;exact h.elim⟩
noncomputable def jv(ws:List W):List W:=(List.range ws.length).map fun(i:Nat)=>W.tup [.int i,ws.getD i .non]
theorem lI{w:W}(h:(jv ws)[i]?=some w):∃y,ws[i]?=some y/\w=.tup [.int i,y]:=by
 unfold jv at h
 rw[ag]at h
 by_cases hi:i<ws.length
 ·rw[aF hi]at h
  refine⟨ws[i],ae hi,?_⟩
  have:=(aG h).symm
  rw[this]
  show W.tup [W.int i,ws.getD i W.non]=_
  rw[ao,ae hi];rfl
 ·rw[az (by simpa using hi)]at h;cases h
theorem ji(ws:List W):(jv ws).length=ws.length:=by simp[jv]
def qH(fs:FA):FI:=fun ρ st=>(fs ρ st).bind fun ws st=>match ws with
 |[.tup zs]=>.ok (jv zs,none) st
 |_=>.bad
theorem yp{kD:List Expr}{kk:Nat}{tp:Pos}(hm:X.mg "enumerate"=none)(ha:SA X [a] fs)(hg:Gl X "enumerate":=by rfl)(hs:starEach [a] X.env=[(false,eval a X.env)]:=by rfl) :
  SI X (.Tuple kD kk tp) (.Call (.Name "enumerate" p) [a] [] pos) (qH fs):=⟨(Gz hm ⟨ha.h⟩ hg hs).h.imp fun σ H R h=>by
 walk_at "2"
 walk_at "1"
 split at h1
 ·rename_i zs
  obtain⟨y,rfl,ry⟩:=q1.one
  obtain⟨p,vs,rfl,hS,r⟩:=ry.tupE
  refine⟨p,rfl,⟨vs,hS⟩,h1 μ1 _ H1 (aj _) eS.refl l1.sto fun i μ' bz H' pp xx S _=>⟨fun w hw=>?_,fun hl=>⟨vs,xx _ _ hS,by rw[ji]at hl;rw[<- r.len];exact hl⟩⟩⟩
  obtain⟨y,hy,rfl⟩:=lI hw
  have r':=r.mono pp xx
  obtain⟨v,g1,g2⟩:=r'.get hy
  refine⟨⟨vs,v,xx _ _ hS,g1⟩,fun z H'' hz=>?_⟩
  obtain⟨q,hq,rfl,hH⟩:=hz
  have e:=hH vs v (xx _ _ hS) g1
  subst e
  have ex:=gp.same (K:=X.K) (cQ hq (.tup [.int i,v]))
  exact⟨ex,S.same (cQ hq _),.tupI gp.new (.consI .int (.consI (g2.mono (aj _) ex) .nilI))⟩
 ·exact h1.elim⟩
def yq(fa:FE):FE:=fun ρ st=>(fa ρ st).bind fun x st=>match x with
 |.int i=>.ok (.int (-i)) st
 |_=>.bad
theorem T_(ha:SE X a fa):SE X (.UnaryOp .USub a pos) (yq fa):=⟨(Sz OY ha.h).imp fun σ H Q h=>by
 walk_at "2"
 walk_at "1"
 cases x with
 |int k=>exact⟨k,q1.intE,h1 μ1 _ H1 (aj _) eS.refl l1.sto .int⟩
 |_=>exact h1.elim⟩
noncomputable def WP(x y:W)(st:List am):R W:=match x,y with
 |.int i,.int j=>.ok (.bl (decide (i<=j))) st
 |.str [c],.str [d]=>.ok (.bl (decide (c<=d))) st
 |_,_=>.bad
end
noncomputable def yr(c:Nat):List Nat->List Nat
 |[]=>[c]
 |d::r=>if c<d then c::d::r else if c=d then d::r else d::yr c r
def gH(l:List Nat):List Nat:=l.foldr yr []
theorem vt{x:Nat}:∀{l:List Nat},x∈yr c l↔x=c\/x∈l
 |[]=>by simp[yr]
 |d::r=>by
  unfold yr
  split
  ·simp
  ·split
   ·rename_i h;subst h;simp
   ·simp only[aM,vt]
    constructor
    ·rintro(h|h|h)<;>simp[h]
    ·rintro(h|h|h)<;>simp[h]
theorem Df:∀{l:List Nat},l.Pairwise (· < ·)->(yr c l).Pairwise (· < ·)
 |[],_=>by simp[yr]
 |d::r,h=>by
  obtain⟨h1,h2⟩:=bQ.mp h
  unfold yr
  split
  ·rename_i hc
   refine bQ.mpr ⟨fun x hx=>?_,h⟩
   rcases aM.mp hx with rfl|hx
   ·exact hc
   ·exact Nat.lt_trans hc (h1 x hx)
  ·split
   ·exact h
   ·rename_i hc hd
    refine bQ.mpr ⟨fun x hx=>?_,Df h2⟩
    rcases vt.mp hx with rfl|hx
    ·omega
    ·exact h1 x hx
theorem jY{x:Nat}:x∈gH l↔x∈l:=by
 induction l with
 |nil=>simp[gH]
 |cons a r ih=>show x∈yr a (gH r)↔_;rw[vt,ih];simp
theorem iP(l:List Nat):(gH l).Pairwise (· < ·):=by
 induction l with
 |nil=>exact List.Pairwise.nil
 |cons a r ih=>exact Df ih
theorem yt:∀{l m:List Nat},l.Pairwise (· < ·)->m.Pairwise (· < ·)->(∀x,x∈l↔x∈m)->l=m
 |[],[],_,_,_=>rfl
 |[],b::m,_,_,h=>by have:=(h b).mpr (by simp);simp at this
 |a::l,[],_,_,h=>by have:=(h a).mp (by simp);simp at this
 |a::l,b::m,h1,h2,h=>by
  obtain⟨p1,p2⟩:=bQ.mp h1
  obtain⟨q1,q2⟩:=bQ.mp h2
  have e:a=b:=by
   rcases aM.mp ((h a).mp #[9])with z|z
   ·exact z
   ·rcases aM.mp ((h b).mpr #[9])with y|y
    ·exact y.symm
    ·have:=p1 b y;have:=q1 a z;omega
  subst e
  rw[yt p2 q2 fun x=>?_]
  constructor
  ·intro hx
   rcases aM.mp ((h x).mp (aV _ hx))with z|z
   ·subst z;exact absurd (p1 x hx) (cr _)
   ·exact z
  ·intro hx
   rcases aM.mp ((h x).mpr (aV _ hx))with z|z
   ·subst z;exact absurd (q1 x hx) (cr _)
   ·exact z
noncomputable def B_(c:List Nat):List (List Nat)->List (List Nat)
 |[]=>[c]
 |d::r=>if c<d then c::d::r else d::B_ c r
def hJ(l:List (List Nat)):List (List Nat):=l.foldr B_ []
theorem sZ(c:List Nat):∀l:List (List Nat),(B_ c l).Perm (c::l)
 |[]=>h9 _
 |d::r=>by
  unfold B_
  split
  ·exact h9 _
  ·exact((sZ c r).cons d).trans (List.Perm.swap c d r)
theorem gu(l:List (List Nat)):(hJ l).Perm l:=by
 induction l with
 |nil=>exact h9 _
 |cons a r ih=>exact(sZ a _).trans (ih.cons a)
def Lw:List (List Nat)->Prop:=List.Pairwise fun a b=>¬ b<a
theorem Dg(c:List Nat):∀{l:List (List Nat)},Lw l->Lw (B_ c l)
 |[],_=>by simp[B_,Lw]
 |d::r,h=>by
  obtain⟨h1,h2⟩:=bQ.mp h
  unfold B_
  split
  ·rename_i hc
   refine bQ.mpr ⟨fun x hx=>?_,h⟩
   rcases aM.mp hx with rfl|hx
   ·exact fun z=>List.lt_irrefl _ (List.lt_trans z hc)
   ·exact fun z=>h1 x hx (List.lt_trans z hc)
  ·rename_i hc
   refine bQ.mpr ⟨fun x hx=>?_,Dg c h2⟩
   rcases aM.mp ((sZ c r).mem_iff.mp hx)with rfl|hx
   ·exact hc
   ·exact h1 x hx
theorem vw(l:List (List Nat)):Lw (hJ l):=by
 induction l with
 |nil=>exact List.Pairwise.nil
 |cons a r ih=>exact Dg a ih
theorem uQ:∀{l m:List (List Nat)},Lw l->Lw m->l.Perm m->l=m
 |[],m,_,_,h=>(List.Perm.nil_eq h)
 |a::l,[],_,_,h=>(by have:=h.length_eq;simp at this)
 |a::l,b::m,h1,h2,h=>by
  obtain⟨p1,p2⟩:=bQ.mp h1
  obtain⟨q1,q2⟩:=bQ.mp h2
  have e:a=b:=by
   rcases aM.mp (h.mem_iff.mp (by simp:a∈a::l))with z|z
   ·exact z
   ·rcases aM.mp (h.mem_iff.mpr (by simp:b∈b::m))with y|y
    ·exact y.symm
    ·exact List.le_antisymm (show a<=b from p1 b y) (show b<=a from q1 a z)
  subst e
  rw[uQ p2 q2 (List.perm_cons a |>.mp h)]
theorem vy:∀{zs:List (List Nat)},sortedS (zs.map tx)=true->Lw zs:=by
 have key:∀(zs:List (List Nat)) (p:List Nat),risingS (tx p) (zs.map tx)=true->Lw (p::zs):=by
  intro zs
  induction zs with
  |nil=>intro p _;simp[Lw]
  |cons a r ih=>
   intro p h
   have h':(!ltCps a p&&risingS (tx a) (r.map tx))=true:=h
   rw[b_,gZ,ltCps_eq,decide_eq_false_iff_not]at h'
   have u:=ih a h'.2
   refine bQ.mpr ⟨fun x hx=>?_,u⟩
   rcases aM.mp hx with rfl|hx
   ·exact h'.1
   ·have:=(bQ.mp u).1 x hx
    exact List.not_lt.mpr (List.le_trans (List.not_lt.mp h'.1) (List.not_lt.mp this))
 intro zs h
 cases zs with
 |nil=>exact List.Pairwise.nil
 |cons a r=>exact key r a h
section
variable{a b c:Expr}{x:Str}{fa fb fc fe fo:FE}{fs:FA}
def pS(ws:List W)(st:List am):R W:=match ws with
 |[.loc n]=>sV (lstOf st n) fun zs=>sV (n_ zs) fun ls=>if ls.length<64 then .ok (.loc st.length) (st++[.lst ((hJ ls).map W.str)])else .bad
 |_=>.bad
theorem Au(ls:List (List Nat)):RelWs K μ H (ls.map W.str) (ls.map fun l=>V.str (tx l)):=by
 induction ls with
 |nil=>exact .nilI
 |cons a r ih=>exact .consI .str ih
theorem Av:t6 X (.builtin "sorted") pS:=⟨fun ah s σ H vs us Q I rv zq=>by
 obtain⟨μ,st,ws,S,r,q⟩:=zq
 unfold pS at q
 split at q
 ·rename_i n
  obtain⟨y,rfl,ry⟩:=r.one
  cases e1:lstOf st n with
  |none=>rw[e1]at q;exact q.elim
  |some zs=>
   rw[e1,dH]at q
   cases e2:n_ zs with
   |none=>rw[e2]at q;exact q.elim
   |some ls=>
    rw[e2,dH]at q
    split at q
    ·rename_i c
     obtain⟨a,vs,g,hS,rz⟩:=S.lstOf e1
     obtain⟨b1,f1,rfl⟩:=ry.locE
     rw[g]at f1;cases f1
     have:=vq e2 rz
     subst this
     refine wL.h ah s σ H _ us Q I rv ⟨_,ls,rfl,hS,c,fun zs hp hs l H2 hl eH=>?_⟩
     subst eH
     have ez:zs=hJ ls:=uQ (vy hs) (vw ls) (hp.trans (gu ls).symm)
     subst ez
     exact q (μ++[l]) _ _ (bp _ _) (gp.same (cQ hl _)) (S.newLst hl (Au _)) (sT S)
    ·exact q.elim
 ·exact q.elim,fun ws st=>by
 unfold pS
 split
 ·exact qe fun _=>qe fun _=>by split<;>trivial
 ·trivial⟩
noncomputable def lJ:List W->Option (List Nat)
 |[]=>some []
 |.str [c]::ws=>(lJ ws).map (c :: ·)
 |_=>none
theorem rF:∀{ws:List W} {l:List Nat} {vs:List V},lJ ws=some l->RelWs K μ H ws vs->vs=g_ l
 |[],l,vs,h,r=>by simp only[lJ]at h;cases h;exact r.nilE
 |w::ws,l,vs,h,r=>by
  obtain⟨x,xs,rfl,rx,rs⟩:=r.consE
  unfold lJ at h
  split at h
  ·rename_i e;cases e
  ·rename_i c R' e
   cases e
   cases e2:lJ ws with
   |none=>rw[e2]at h;cases h
   |some l'=>rw[e2]at h;cases h;rw[rx.strE,rF e2 rs];rfl
  ·cases h
def vz:W->Option (List Nat)
 |.str l=>some l
 |.tup ws=>lJ ws
 |_=>none
def rG(fe:FE):FE:=fun ρ st=>(fe ρ st).bind fun x st=>sV (vz x) fun l=>if l.length<4000/\(gH l).length<64 then .ok (.loc st.length) (st++[.lst (eW (gH l))])else .bad
theorem qg{m:List Nat}(hm:m.Nodup)(h:∀c∈m,c∈l):m.length<=l.length:=by
 induction m generalizing l with
 |nil=>exact cM _
 |cons a r ih=>
  obtain⟨h1,h2⟩:=eY.mp hm
  have ha:a∈l:=h a #[9]
  have:=ih h2 (l:=l.erase a) fun c hc=>by
   have:c≠a:=fun z=>h1 (z▸hc)
   exact(List.mem_erase_of_ne this).mpr (h c (aV _ hc))
  rw[List.length_erase_of_mem ha]at this
  have:0<l.length:=List.length_pos_of_mem ha
  simp;omega
theorem E_{p1 p2 RU Kd:Pos}(h1:X.mg "sorted"=none)(h3:X.mg "set"=none)(he:SE X e fe)(hc:X.calm=true:=by rfl)
  (W':Gl X "sorted":=by rfl) (W5:Gl X "set":=by rfl) (V4:starEach [e] X.env=(false,eval e X.env)::starEach [] X.env:=by rfl):SE X (.Call (.Name "sorted" p1) [.Call (.Name "set" p2) [e] [] Kd] [] RU) (rG fe):=⟨(EZ h1 h3 ⟨he.h⟩ hc W' W5 V4).h.imp fun σ H Q h=>by
 walk_at "2"
 walk_at "1"
 cases e1:vz x with
 |none=>rw[e1]at h1;exact h1.elim
 |some ll=>
  rw[e1,dH]at h1
  split at h1
  ·rename_i c
   refine⟨ll,?_,c.1,fun m hm hsub=>?_,fun m Vr hup hmem a H2 ha eH=>?_⟩
   ·cases x with
    |str z=>cases e1;exact .inl q1.strE
    |tup ws=>obtain⟨p,vs,rfl,hS,r⟩:=q1.tupE;have:=rF e1 r;subst this;exact .inr ⟨p,rfl,hS⟩
    |_=>cases e1
   ·exact jc (qg hm fun c hc=>jY.mpr (hsub c hc)) c.2
   ·subst eH
    have em:m=gH ll:=by
     refine yt ((List.Pairwise.and hup Vr).imp fun z=>Nat.lt_of_le_of_ne z.1 z.2) (iP ll) fun x=>?_
     rw[hmem,jY]
    subst em
    exact h1 (μ1++[a]) _ _ (bp _ _) (gp.same (cQ ha _)) (l1.sto.newLst ha (sY (X:=X) _ _ _)) (sT l1.sto)
  ·exact h1.elim⟩
end
noncomputable def W.ty:W->Option String
 |.non=>some "NoneType" | .bl _=>some "bool" | .int _=>some "int" | .str _=>some "str" | .tup _=>some "tuple" | .loc _=>none
noncomputable def Lx(t T:String):Bool:=(t==T)||(t == "bool" && T == "int")
theorem T'{K:Frag}{T:String}(h:Gw T){w:W}{t:String}(hw:w.ty=some t):PySem.W.kitOne K (.type t) (.type T)=some (Lx t T):=by
 cases w<;>simp only[W.ty]at hw<;>cases hw<;>(rcases h with rfl|rfl|rfl|rfl<;>rfl)
def pZ(T:String)(fa:FE):FE:=fun ρ st=>(fa ρ st).bind fun x st=>match x.ty with
 |some t=>.ok (.bl (Lx t T)) st
 |none=>.bad
section
variable{a b c:Expr}{x:Str}{fa fb fc fe fo:FE}{fs:FA}
theorem Dh{T:String}{xT:Str}(hm:X.mg "isinstance"=none)(hT:X.mg xT=none)(hv:bootBuiltins xT=some (.type T))(ha:SE X a fa)(hk:Gw T:=by first|exact .inl rfl|exact .inr (.inl rfl)|exact .inr (.inr (.inl rfl))|exact .inr (.inr (.inr rfl)))
  (hg:Gl X "isinstance":=by rfl) (XQ:Gl X xT:=by rfl) (hn:xT ≠ "__name__":=by decide) (hd:(xT==("__debug__":Str))=false:=by decide)
  (he:starEach [a,.Name xT p2] X.env=(false,eval a X.env)::starEach [.Name xT p2] X.env:=by rfl) (Vl:starEach [.Name xT p2] X.env=(false,eval (.Name xT p2) X.env)::starEach [] X.env:=by rfl) (qY:(backTo pos (starEach [.Name xT p2] X.env)).any (·.1)=false:=by rfl) :
  SE X (.Call (.Name "isinstance" p) [a,.Name xT p2] [] pos) (pZ T fa):=by
 have C:lM X (.builtin "isinstance") (fun xs H Q=>∃x μ st w t,xs=[x,.ty T]/\iN X.K X.mg μ st H/\bD X.K μ H w x/\w.ty=some t/\Q (.bl (Lx t T)) H):=by
  intro ah s σ H xs us Q I r h
  obtain⟨x,μ,st,w,t,rfl,S,rx,ht,q⟩:=h
  obtain⟨u,u2,rfl,r1,r2⟩:=cG.two r
  obtain rfl:u2=.type T:=r2
  have e:=T' (K:=X.K) hk ht
  cases w with
  |tup ws=>
   cases ht
   obtain⟨p,vs,rfl,hS,_⟩:=rx.tupE
   cases(show u=Value.ref p from r1)
   obtain⟨bw,_,hp,_⟩:=I.tuple hS
   obtain⟨o,h1,h2,_⟩:=hp
   exact kia_one PySem.W.kitx_tuple I.kIn ⟨o,h1,h2⟩ e (fun z=>nomatch z) fun tk=>⟨.bl _,H,I.tok tk,rfl,q⟩
  |non=>cases ht;cases rx.nonE;exact pP I r1 .non e fun tk=>⟨.bl _,H,I.tok tk,rfl,q⟩
  |bl b=>cases ht;cases rx.blE;exact pP I r1 (.bl _) e fun tk=>⟨.bl _,H,I.tok tk,rfl,q⟩
  |int b=>cases ht;cases rx.intE;exact pP I r1 (.int _) e fun tk=>⟨.bl _,H,I.tok tk,rfl,q⟩
  |str b=>cases ht;cases rx.strE;exact pP I r1 (.str _) e fun tk=>⟨.bl _,H,I.tok tk,rfl,q⟩
  |loc b=>cases ht
 refine⟨(zE C hg hm boot_isinstance (x9 ha.h (x9 (Kq XQ hT hv (v:=.ty T) rfl hn hd) F8 Vl) he) #[1] #[1] he qY).imp fun σ H Q h=>?_⟩
 walk_at "2"
 walk_at "1"
 cases ht:x.ty with
 |none=>rw[ht]at h1;exact h1.elim
 |some t=>
  rw[ht]at h1
  exact⟨v,μ1,st1,x,t,rfl,l1.sto,q1,ht,h1 μ1 _ H1 (aj _) eS.refl l1.sto .bl⟩
theorem G7{w:World}{k:Nat}{st:Stmt}{f:Addr}{ps:List Str}
  (F:iZ K x x st f fd) (hm:mg x=some (.ref f)) (hn:ps.length=n)
  (hb:∀(kV sK pm:Value) (an:Option Addr) (fO ct:Value) (us:List Value),us.length=ps.length->bindArgs (fnOf x x (ic st) (gs st) (aK st) .none kV sK pm an fO ct) ⟨us,[]⟩=pure (ps.zip us)) :
  dB P w K mg base k x n (fun _ _=>.bad):=yo F hm hn hb ⟨fun vs H Q E h=>by rw[hn];exact h.1,fun _ _ _ _ _ _ _ _ _ _ _ _ _ h=>by obtain⟨_,_,_,_,_,_,z⟩:=h;exact z.elim⟩
end
def ML(F:List W->List am->R W):Prop:=∀ns:List Int,ns.length<=63->∃bz,F [.loc 0] [.ro (ns.map W.int)]=.ok (.bl true) bz
theorem walkW{l:PySem.W.OpenLaw}{k:Nat}{q:Program}{xX:List Str}{d:DefRec}{K:Params->Frag}{x:Str}(hn:l.most=some 63)(Vo:d.params.defaults=[])(hr:h_ k callerA)
  (hY:∀(w:World) (h:Heap),YP w h->(K w.params).In h)
  (F:∀(w:World) (mg:Str->Option Value) (fa:Addr) (h:Heap),(K w.params).In h->h.Ns mainGlobals mg->mg d.name=some (.ref fa) ->
   ∃fd:FuncData,(∀(s:Shared) (u:Value),BindsTo s fd ⟨[u],[]⟩ [(x,u)])/\∀base:Heap,(K w.params).In base->base.Ns mainGlobals mg->c_ l.prog w (K w.params) mg base (iE l.prog w) k fa fd [x] (i8 (K w.params) mg 1 G))
  (ok:ML G):PySem.W.WalkO q xX XP YP l.row.toRowW d [] (fun f vs=>PySem.call f vs):=by
 refine L2.walk_of (n:=63) (k:=k) (x:=x) (CX:=fun w=>iE l.prog w)
  (sp:=fun w=>fun vs H Q E=>∃(a:Addr) (ns:List Int),vs=[.ref a]/\p8 (K w.params) H a (ns.map V.int)/\KR H/\ns.length<=63/\∀H',Q (.bl true) H') hn #[1] Vo hr hY (fun w mg fa h h1 h2 h3=>?_)
  (fun w H a ns hl hO hS=>⟨a,ns,rfl,hS,hO,hl,fun _=>rfl⟩) fun w H s e s' z=>?_
 ·obtain⟨fd,hb,ho⟩:=F w mg fa h h1 h2 h3
  refine⟨fd,hb,fun base kb nb=>(ho base kb nb).imp fun vs H Q E hh=>?_⟩
  obtain⟨a,ns,rfl,hS,hO,hl,q⟩:=hh
  obtain⟨bz,e⟩:=ok ns hl
  have u4:VD (K w.params) H a (ns.map V.int):=by
   rcases hS with(z|⟨o,z⟩)|z
   ·rcases hO a with y|⟨o,xs,y⟩
    ·rw[z]at y;cases y
    ·rw[z]at y;cases y
   ·exact .inl ⟨o,z⟩
   ·exact .inr z
  have hr:RelWs (K w.params) [a] H (ns.map W.int) (ns.map V.int):=by
   clear hS u4 e hl
   induction ns with
   |nil=>exact .nilI
   |cons n r ih=>exact .consI .int ih
  refine⟨rfl,[a],[.loc 0],[.ro (ns.map W.int)],⟨fun i j b ci cj c1 c2 r1 r2 m1 m2=>?_,rfl,fun i c b c1 c2=>?_⟩,.consI (.locI rfl) .nilI,?_⟩
  ·cases i with
   |zero=>cases c1;cases r1
   |succ i=>simp at c1
  ·cases i with
   |zero=>cases c1;cases c2;exact⟨_,u4,hr⟩
   |succ i=>simp at c1
  ·rw[e]
   intro μ' v H' _ _ _ rv
   rw[rv.blE];exact q H'
 ·obtain⟨_,_,_,_,_,_,z,_⟩:=z
  exact z
abbrev Ua:List Value:=[.type "ValueError",.type "Exception",.type "BaseException",.type "object"]
abbrev MM:String:="ValueError.__new__"
def P8(K:Frag)(C:Addr):List Value:=match K.lookup C with
 |some ⟨_,_,.cls cd,_⟩=>cd.mro
 |_=>[]
theorem Ly{Xz:List Value}{J_:String}(X:K.In h)(q:excIn K C Xz J_=true) :
  ∃bm N nm qn bs hdct sn sub ab col dd k0 k1 k2 k3 k5 mN,h.get? C=some (excClassObj nm qn C N bs bm hdct sn sub ab col dd k0 k1 k2 k3 k5 J_)/\h.Ns N mN/\mN "__init__"=none/\OwnTail h Xz bm/\P8 K C=.ref C::bm:=by
 have q0:=q
 unfold excIn at q
 split at q
 ·rename_i dd cd sl ho
  split at q
  ·rename_i C' bm k0 k1 k2 k3 n k5 hm hs
   simp only[b_,dz,gZ]at q
   obtain⟨⟨⟨⟨⟨rfl,rfl⟩,hdel⟩,ht⟩,hok⟩,hni⟩:=q
   have hmro:P8 K C'=cd.mro:=by unfold P8;rw[ho]
   obtain⟨nm,bs,mro,ns,qn,hd,sn,sub,ab,col,del⟩:=cd
   dsimp only at hm hdel hok hni hmro
   subst hm hdel
   have Sa:sl=#[k0,k1,k2,k3,some (.builtin n),k5]:=by
    obtain⟨l⟩:=sl
    simp only at hs
    rw[hs]
   subst Sa
   exact⟨bm,ns,nm,qn,bs,hd,sn,sub,ab,col,dd,k0,k1,k2,k3,k5,_,X _ _ ho,.of_isNs (PySem.W.isNs_of_in X hok),PySem.W.nsMap_none_of_in X hok hni,PySem.W.tail_of_in X ht,hmro⟩
  ·cases q
 ·cases q
structure Ub(K:Frag)(mg:Str->Option Value)(x:Str):Prop where
 ex:∃C,mg x=some (.ref C)/\excIn K C Ua MM=true
def G8(c:Str):FS:=fun ρ st=>.ex c ρ st
theorem G9{x:Str}{np dM pos p':Pos}{z:Str}{j:Nat}(hC:Ub X.K X.mg x)(iB:X.calm=true:=by rfl)(hg:Gl X x:=by rfl)(hd:(x==("__debug__":Str))=false:=by decide)
  (he:starEach [.Constant (.str z) j p'] X.env=(false,eval (.Constant (.str z) j p') X.env)::starEach [] X.env:=by rfl):SS X (.Raise (some (.Call (.Name x np) [.Constant (.str z) j p'] [] dM)) none pos) (G8 x):=⟨by
 intro ah s σ H D I h
 walk_at "2"
 obtain⟨C,hm,q⟩:=hC.ex
 have hh:X.A.handled=none:=I.ok.hd iB
 obtain⟨bm,N,nm,qn,bs,hdct,sn,sub,ab,col,dd,k0,k1,k2,k3,k5,mN,g1,g2,g3,g4,g5⟩:=Ly I.kIn q
 refine wpAny_Raise_call_subT (C:=C) (nm:=nm) (q:=qn) (N:=N) (bs:=bs) (bm:=bm) (hdct:=hdct) (sn:=sn) (sub:=sub) (ab:=ab) (col:=col) (dd:=dd) (k0:=k0) (k1:=k1) (k2:=k2) (k3:=k3) (k5:=k5)
  F.excBase_ValueError (mN:=mN) (g4.hasType F.excBase_ValueError.hasBase) hh (by rw[he];rfl) g3 (uN I hg hm ⟨rfl,?_⟩ hd)
 rw[he]
 refine kI ?_
 show wpAny _ _ (spliced ((false,eval (.Constant (.str z) j p') X.env)::[])) _ _ s
 refine fJ (wpAny_Constant_str (gY ?_))
 refine⟨rfl,(by show 1<=sizeLine;decide),g1,g2,g4,fun h' e hx=>?_⟩
 have I2:bK X ah σ H { s with heap:=h',toks:=s.toks+1 }:=I.kept hx.keeps
 have en:H e=none:=by
  cases hu:H e with
  |none=>rfl
  |some u=>
   obtain⟨ob,Bt⟩:=(I.hok e u hu).ex
   have:=hx.new
   rw[show({ s with toks:=s.toks+1 }:Shared).heap=s.heap from rfl]at this
   rw[Bt]at this;cases this
 obtain⟨t,Sc,ht2,ht3⟩:=hx.there
 have hin:∀env∈X.stack,∀b,env.frame=some b->b∈uM X.stack:=fun env he b hb=>lX.mpr ⟨env,he,hb⟩
 refine h ah μ σ H (.ref e) _ (aj _) eS.refl l ⟨I2,e,.ref C,t,hideAll s.heap (uM X.stack),rfl,hm,en,fun b o hb=>hx.keeps b o (PySem.W.of_hideAll _ hb),?_,?_,.inr (.inl ⟨_,_,Sc,rfl,rfl,rfl,rfl,rfl⟩),fun b o hb hr=>?_⟩
 ·cases hq:(hideAll s.heap (uM X.stack)).get? e with
  |none=>rfl
  |some o=>have z:=PySem.W.of_hideAll _ hq;have y:=hx.new;rw[show({ s with toks:=s.toks+1 }:Shared).heap=s.heap from rfl,z]at y;cases y
 ·exact(PySem.W.funFrames_hide I.stack hin).of_keeps fun b o hb _=>⟨o,hx.keeps b o hb,rfl⟩
 ·have old:∀o0,s.heap.get? b=some o0->s.heap.get? b=some o:=fun o0 h0=>by
   have h1:h'.get? b=some o0:=hx.keeps b o0 h0
   have h2:h'.get? b=some o:=hb
   rw[h1]at h2;rw[<- h2];exact h0
  have fin:∀o0,s.heap.get? b=some o0->b∉uM X.stack->(hideAll s.heap (uM X.stack)).get? b=some o:=fun o0 h0 hn=>PySem.W.hideAll_get _ (old o0 h0) hn
  rcases hr with hr|⟨⟨o0,h0⟩,hf,hbx⟩|⟨⟨y,hy⟩,hf⟩|⟨pp,hp,rfl⟩
  ·cases hu:H b with
   |none=>exact absurd hu hr
   |some u=>
    obtain⟨ob,Bt⟩:=(I.hok b u hu).ex
    exact fin ob Bt fun z=>by have:=I.stkFree b z;rw[hu]at this;cases this
  ·obtain⟨o1,h1⟩:=I.base.there b o0 h0 hbx
   refine fin o1 h1 fun z=>?_
   rcases aM.mp (I.stkSub b z)with z|z
   ·rw[z]at h0;exact absurd (aL (aD h0) I.ok.above) (cr _)
   ·exact hf z
  ·obtain⟨v,ov,hov,_⟩:=I.cell y b hy
   exact fin ov hov hf
  ·obtain⟨p1,p2,p3,p4,_⟩:=I.pin pp hp
   refine fin _ p1 fun z=>?_
   rcases aM.mp (I.stkSub _ z)with z|z
   ·exact p3 z
   ·exact p4 z⟩
section
end
open AutoSeq1 (wpAny_loadPart')
section
end
section
variable{a b c:Expr}{fa fb fe fo:FE}{fs:FA}
noncomputable def rH(i:Int)(n:Nat):List W:=(List.range n).map fun k:Nat=>W.int (i-k)
theorem G_(i:Int)(n:Nat)(μ:List Addr)(H:Hp):RelWs X.K μ H (rH i n) (xC i n):=by
 unfold rH xC
 induction (List.range n)with
 |nil=>exact .nilI
 |cons a r ih=>exact .consI .int ih
def yu(fs:FA):FI:=fun ρ st=>(fs ρ st).bind fun ws st=>match ws with
 |[.int i,.int j,.int k]=>if k=-1/\(-(2^60)<=i/\i<2^60/\-(2^60)<=j/\j<2^60)then .ok (rH i (i-j).toNat,none) st else .bad
 |_=>.bad
theorem Lz(hm:X.mg "range"=none)(ha:SA X [a,b,c] fs)(hg:Gl X "range":=by rfl)(hs:starEach [a,b,c] X.env=(false,eval a X.env)::starEach [b,c] X.env:=by rfl)(qY:(backTo pos (starEach [b,c] X.env)).any (·.1)=false:=by rfl) :
  SI X tg (.Call (.Name "range" p) [a,b,c] [] pos) (yu fs):=⟨(yk hm ⟨ha.h⟩ hg hs qY).h.imp fun σ H R h=>by
 walk_at "2"
 walk_at "1"
 split at h1
 ·rename_i i j k
  obtain⟨y,ys,rfl,ry,r1⟩:=q1.consE
  obtain⟨z,zs,rfl,rz,r2⟩:=r1.consE
  obtain⟨w,rfl,qS⟩:=r2.one
  split at h1
  ·rename_i cc
   obtain⟨rfl,cc⟩:=cc
   exact⟨_,_,by rw[ry.intE,rz.intE,qS.intE],cc,h1 μ1 _ H1 (aj _) eS.refl l1.sto (sX (G_ _ _))⟩
  ·exact h1.elim
 ·exact h1.elim⟩
def B'(fs:FA):FI:=fun ρ st=>(fs ρ st).bind fun ws st=>match ws with
 |[.str l]=>if l.length<=1000000 then .ok (eW l.reverse,none) st else .bad
 |_=>.bad
theorem LA(hm:X.mg "reversed"=none)(ha:SA X [a] fs)(hg:Gl X "reversed":=by rfl)(hs:starEach [a] X.env=(false,eval a X.env)::starEach [] X.env:=by rfl) :
  SI X tg (.Call (.Name "reversed" p) [a] [] pos) (B' fs):=⟨(Lh hm ⟨ha.h⟩ hg hs).h.imp fun σ H R h=>by
 walk_at "2"
 walk_at "1"
 split at h1
 ·obtain⟨y,rfl,ry⟩:=q1.one
  split at h1
  ·rename_i cc
   exact⟨_,by rw[ry.strE],cc,h1 μ1 _ H1 (aj _) eS.refl l1.sto (sX (sY _))⟩
  ·exact h1.elim
 ·exact h1.elim⟩
end
section
variable{w:World}{g:Array GenState}{d:Drawn}{t:Nat}{os:OsState}{o:Obj}
 {nm q:Str} {C N:Addr} {bs bm:List Value} {hdct:Bool} {sn:List Str} {sub:List Value} {ab:Bool} {col:Option Bool} {dd:Option Addr} {k0 k1 k2 k3 k5:Option Value} {J_:String} {K:Frag}
end
section
variable{a:Expr}{fa:FE}
end
section
variable{a:Expr}{fa:FE}{k:Nat}
end
section
end
section
theorem vA(l:List α):∀(k:Nat) (fZ:List α),List.foldl (fun x1 x2=>x1++x2) fZ.toArray (List.replicate k l.toArray)=(fZ++(List.replicate k l).flatten).toArray
 |0,fZ=>by simp
 |k+1,fZ=>by
  have e:fZ.toArray++l.toArray=(fZ++l).toArray:=by simp
  rw[cH,eZ,e,vA l k (fZ++l),cH,cZ,aY]
theorem P9(l:List Nat)(n:Int):Txt.mul (tx l) n=tx (List.replicate n.toNat l).flatten:=by
 unfold Txt.mul
 by_cases h:n<1
 ·rw[au h,show n.toNat=0 by omega];rfl
 ·rw[ay h]
  split
  ·rename_i hc
   rw[oA,dz,dz,i7]at hc
   rcases hc with rfl|hc
   ·simp
   ·have:l=[]:=gk.mp hc
    subst this
    simp
  ·have:=vA l n.toNat []
   rw[fS]at this
   show Str.mk _=Str.mk _
   congr 1
theorem LB:n6 X (binaryOp .Mult) (fun x y H Q=>∃(l:List Nat) (k:Int),x=.str (tx l)/\y=.int k/\-(2^62)<=k/\k<2^62/\l.length*k.toNat<=1000000/\Q (.str (tx (List.replicate k.toNat l).flatten)) H):=by
 intro ah s σ H x y v u Q I rx ry h
 obtain⟨l,k,rfl,rfl,h1,h2,h3,q⟩:=h
 obtain⟨t,rfl⟩:=rx
 obtain⟨t',rfl⟩:=ry
 refine SB.mul ⟨?_,?_,?_⟩ fun t2 tk=>⟨.str _,H,I.tok _,⟨t2,?_⟩,q⟩
 ·simp;omega
 ·intro hk hx
  rw[i7]
  intro hg
  have hk1:1<=k:=by omega
  have:k*((2^63-1)/k)<=2^63-1:=Int.mul_ediv_self_le #[0]
  have h4:(2^63-1)<k*(l.length:Int):=by
   have:=Int.lt_mul_of_ediv_lt (a:=2^63-1) (b:=(l.length:Int)) (c:=k) #[0] hg
   rw[nZ];exact this
  have h5:k*(l.length:Int)=((l.length*k.toNat:Nat):Int):=by
   rw[dE,Int.toNat_of_nonneg #[0],nZ]
  rw[h5]at h4
  omega
 ·intro hk hx
  rw[i7]
  unfold Builtin.Str.tooLong
  rw[bc]
  have:(1000000:Nat)<=sizeLine:=by decide
  omega
 ·rw[P9]
def fH:W->W->List am->R W
 |.int i,.int j,st=>if PQ i j then .ok (.int (i*j)) st else .bad
 |.str l,.int k,st=>if -(2^62)<=k/\k<2^62/\l.length*k.toNat<=ny then .ok (.str (List.replicate k.toNat l).flatten) st else .bad
 |_,_,_=>.bad
theorem vB:vi X (binaryOp .Mult) fH:=⟨fun ah s σ H x y v u Q I rv ru zq=>by
 obtain⟨μ,st,wx,wy,S,rx,ry,q⟩:=zq
 cases wx with
 |int i=>
  cases wy with
  |int j=>
   have q':FQ X μ H Q (TH (.int i) (.int j) st):=q
   exact TL.h ah s σ H x y v u Q I rv ru ⟨μ,st,.int i,.int j,S,rx,ry,q'⟩
  |_=>exact q.elim
 |str l=>
  cases wy with
  |int k=>
   simp only[fH]at q
   split at q
   ·rename_i cc
    exact LB ah s σ H x y v u Q I rv ru ⟨l,k,rx.strE,ry.intE,cc.1,cc.2.1,cc.2.2,rA S q⟩
   ·exact q.elim
  |_=>exact q.elim
 |_=>cases wy<;>exact q.elim,fun x y st=>by
 unfold fH
 repeat' split
 all_goals trivial⟩
end
section
variable{x:Str}{fs:FA}
end
section
variable{w:World}
theorem vC:∀(l:List Nat) (vs:List Value),vs.length=l.length->(∀(j:Nat) (v:Value),vs[j]?=some v->∃c u,l[j]?=some c/\v=.str (tx [c]) u)->StrsAre vs (l.map fun c=>tx [c])
 |[],[],_,_=>.nil
 |c::l,v::vs,hl,h=>by
  obtain⟨d,u,e,rfl⟩:=h 0 v rfl
  cases e
  exact .cons _ _ (vC l vs (Nat.succ.inj hl) fun j v hj=>h (j+1) v hj)
 |[],_::_,hl,_=>nomatch hl
 |_::_,[],hl,_=>nomatch hl
theorem Aw{t:Tok}(few:l.length<64)(hh:A.handled=none)
  (q:∀(s1:Shared) (g1:Heap) (out:Array Value) (ss:List Str) (e:Nat),(∀b o,s.heap.get? b=some o->s1.heap.get? b=some o)->s1.gens=s.gens->s1.drawn=s.drawn->s1.os=s.os->(∀b o,s1.heap.get? b=some o->g1.get? b=some o)->g1.get? s1.heap.objs.size=some (seqObj "list" out e) ->
   StrsAre out.toList ss->ss.Perm (l.map fun c=>tx [c])->sortedS ss=true->Q (.ref s1.heap.objs.size) { s1 with heap:=g1 }):wpAny #[5] A (call (.builtin "sorted") [.str (tx l) t]) Q E s:=by
 have hn:(tx l).cps.size=l.length:=by simp[tx]
 apply me kind_sorted plain_sorted entry_sorted (args_sorted1 _)
 show wpAny _ _ (checkCount "sorted" 1 1 _ >>= _) _ _ _
 refine aa (aq (aa (wpAny_collect_str (by simpa using hh) _ _ (fun s1 fZ kp eg ed eo ha=>?_) (by rw[kH];omega))))
 have nA:StrsAre fZ.toList (l.map fun c=>tx [c]):=by
  refine vC l _ (by rw[dX,ha.1,hn]) fun j v hj=>?_
  obtain⟨c,u,hc,e⟩:=ha.2 j v (by simpa using hj)
  exact⟨c,u,by simpa[tx]using hc,e⟩
 have hvl:fZ.toList.length<64:=by rw[dX,ha.1,hn];exact few
 refine aa (wpAny_newList ?_ (by rw[kH];omega))
 have oL:(s1.heap.push (seqObj "list" fZ.toList.toArray 0)).get? s1.heap.objs.size=some (seqObj "list" fZ.toList.toArray 0):=ar _ rfl
 refine aa (dO (br slot_list_sort ⟨_,oL,rfl⟩ entry_list_sort (list_sort_treeK strKind_oneLt oL nA.keysOf (fun a b r e=>keyKind_strs (by rw[<- e];exact nA)) hvl fun st a1 a2=>⟨_,rfl,?_⟩) (args_list_sort _)))
 obtain⟨ss,h1,h2,h3⟩:=sorted_out_str nA a1 a2
 obtain⟨e,he⟩:=sortedHeap_at (out:=(arrOf st).map (·.2)) oL
 refine aq ⟨_,rfl,q s1 _ _ ss e kp eg ed eo (fun b o hb=>?_) he h1 h2 h3⟩
 rw[sortedHeap_old (a8 (aD hb)) (by rw[bA];exact c5 (aD hb))]
 exact al _ hb
end
section
def lQ(ws:List W)(st:List am):R W:=match ws with
 |[.str l]=>if l.length<64 then .ok (.loc st.length) (st++[.lst ((hJ (l.map fun c=>[c])).map W.str)])else .bad
 |[.loc n]=>pS [.loc n] st
 |_=>.bad
theorem LC(hc:X.calm=true:=by rfl):t6 X (.builtin "sorted") lQ:=⟨fun ah s σ H vs us Q I rv zq=>by
 obtain⟨μ,st,ws,S,r,q⟩:=zq
 unfold lQ at q
 split at q
 ·rename_i l
  split at q
  ·rename_i c
   obtain⟨y,rfl,ry⟩:=r.one
   have:=ry.strE;subst this
   obtain⟨u,rfl,ru⟩:=oY rv
   obtain⟨t,rfl⟩:=ru
   refine Aw c (I.ok.hd hc) fun s1 g1 out ss e kp eg ed eo k1 gL nA hp hsr=>?_
   have es:s1={ s with heap:=s1.heap,toks:=s1.toks }:=by cases s1;cases s;cases eg;cases ed;cases eo;rfl
   generalize s1.heap=g0,s1.toks=tk at es kp k1 gL ⊢
   subst es
   have I2:bK X ah σ H { s with heap:=g0,toks:=tk }:=I.kept2 (d':=s.drawn) fun b o e=>kp b o e
   have wG:H g0.objs.size=none:=I2.hok.fresh (ax _)
   have hmap:(ss.map fun z=>z.cps.toList).map tx=ss:=by
    rw[a9]
    have:(tx∘fun z:Str=>z.cps.toList)=id:=funext fun z=>C4 z
    rw[this,jo]
   have hperm:(ss.map fun z=>z.cps.toList).Perm (l.map fun c=>[c]):=by
    have e:=hp.map fun z:Str=>z.cps.toList
    rw[a9]at e
    exact e
   have ez:(ss.map fun z=>z.cps.toList)=hJ (l.map fun c=>[c]):=uQ (vy (by rw[hmap];exact hsr)) (vw _) (hperm.trans (gu _).symm)
   have hvals:cG ((hJ (l.map fun c=>[c])).map fun l=>V.str (tx l)) out.toList:=by
    have e:=nB nA
    rw[<- hmap,ez,a9]at e
    exact e
   refine⟨.ref g0.objs.size,_,I2.laid (o:=.lst ((hJ (l.map fun c=>[c])).map fun l=>V.str (tx l))) (t':=tk) k1 (ax _) ⟨?_,out.toList,e,hvals,gL⟩,rfl,?_⟩
   ·rw[ak,(gu _).length_eq,ak]
    exact aR (gC c) #[1]
   ·exact q (μ++[g0.objs.size]) _ _ (bp _ _) (gp.same (cQ wG _)) (S.newLst wG (Au _)) (sT S)
  ·exact q.elim
 ·exact Av.h ah s σ H _ us Q I rv ⟨μ,st,_,S,r,q⟩
 ·exact q.elim,fun ws st=>by
 unfold lQ
 split
 ·split<;>trivial
 ·exact(Av (X:=X)).n _ _
 ·trivial⟩
end
section
variable{a b c:Expr}{fs:FA}
end
section
variable{nm:List Str}{fi:FI}{f:FG}{t:FT}{el:FE}
end
theorem bK.turnedL{s:Shared}{t':Nat}{ch:List Addr}(I:bK X ah σ H s)(k:∀b o,b∉ch->s.heap.get? b=some o->h'.get? b=some o)
  (f:∀b∈ch,sL X ah H b):bK X ah σ H { s with heap:=h',toks:=t' }:=by
 have nit:∀b u,H b=some u->b∉ch:=fun b u q z=>by rw[(f b z).1]at q;cases q
 refine I.step (g':=s.gens) (d':=s.drawn) (ch:=ch) (fun b hb=>?_) (fun b o _ _ hc q _=>k b o hc q) (fun b o _ _ hc q _=>⟨o.slots,k b o hc q⟩) (fun _ _ _ _ n=>n)
  (fun b o hc q=>⟨o,k b o hc q⟩) (fun _ _ q=>q) (fun _ _ _ q=>q) (fun b ps q=>⟨#[],by rw[q];simp⟩) (fun m hm=>?_) (fun b u q=>?_) I.bare
 ·exact⟨(f b hb).2.2.2.1,(f b hb).2.1,(f b hb).2.2.2.2.1,(f b hb).2.2.2.2.2⟩
 ·obtain⟨o,es,ep,ho,r⟩:=hm
  exact⟨o,es,ep,k _ o (fun z=>(f _ z).2.1 rfl) ho,r⟩
 ·refine(I.hok b u q).stay (fun c v hc z=>?_) (fun _ z=>z) fun _ _ z=>z
  rcases hc with y|y
  ·rw[y]at z ⊢;exact k b v (nit b u q) z
  ·exact k c v (nit c _ y) z
section
variable{w:World}
variable{z P O i j:Addr}{xs ys:Array Value}{x y:Value}
end
open AutoSeq1 (wpAny_loadPart')
section
variable{w:World}
end
noncomputable def jZ:List W->List W->List W
 |x::xs,y::ys=>.tup [x,y]::jZ xs ys
 |_,_=>[]
theorem mT:∀{xs ys:List W} {i:Nat} {w:W},(jZ xs ys)[i]?=some w->∃x y,xs[i]?=some x/\ys[i]?=some y/\w=.tup [x,y]
 |x::xs,y::ys,0,w,h=>by simp[jZ]at h;exact⟨x,y,rfl,rfl,h.symm⟩
 |x::xs,y::ys,i+1,w,h=>by simp[jZ]at h;simpa using mT h
 |[],_,i,w,h=>by simp[jZ]at h
 |_::_,[],i,w,h=>by simp[jZ]at h
theorem mU:∀(xs ys:List W),(jZ xs ys).length=min xs.length ys.length
 |x::xs,y::ys=>by simp[jZ,mU xs ys]
 |[],_=>by simp[jZ]
 |_::_,[]=>by simp[jZ]
section
variable{a b:Expr}{fs:FA}
end
open Builtin.Str (tooLong)
section
variable{w:World}
end
section
end
theorem Ax(zs:List Int):∀n,n<=zs.length->preSum (fun i=>zs.getD i 0) n=(zs.take n).sum
 |0,_=>by simp[preSum]
 |n+1,h=>by
  have ih:=Ax zs n #[0]
  show preSum (fun i=>zs.getD i 0) n+zs.getD n 0=_
  have e:zs[n]?=some (zs.getD n 0):=by rw[ao,ae #[0]];rfl
  rw[ih,List.take_succ,e,List.sum_append]
  simp
def WQ(K:Frag):List V->Hp->VK->Prop:=fun xs H Q=>∃(p:Addr) (zs:List Int),xs=[.ref p]/\p8 K H p (zs.map V.int)/\Q (.int zs.sum) H
theorem Uc(hc:X.calm=true:=by rfl):Mw X (.builtin "sum") (WQ X.K):=⟨by
 intro ah s σ H xs us Q I r h
 obtain⟨p,zs,rfl,hS,q⟩:=h
 obtain⟨u,rfl,ru⟩:=oY r
 cases ru
 obtain⟨bw,rv,pl,hz⟩:=I.list hS
 have hh:=I.ok.hd hc
 have hl:s.heap.IsList p bw.toArray:=pl.isList
 have hlt:p<s.heap.objs.size:=by obtain⟨o,ho,_⟩:=hl;exact aD ho
 have dG:bw.toArray.size=zs.length:=by have:=rv.length;rw[ak]at this;simpa using this.symm
 refine call_sum_walkAnyS (gX hl ?_)
 refine⟨_,_,_,_,_,_,_,fun i=>zs.getD i 0,rfl,(Walks.list (A:=X.A.in1) (by simpa using hh) s.heap.objs.size p (a8 hlt) bw.toArray).toS,⟨⟨_,ar _ rfl,rfl,rfl⟩,hl.at fun o e=>al _ e⟩,fun b hb=>?_,fun i v hP=>?_,fun s1 t' hm=>?_⟩
 ·have z:b=s.heap.objs.size\/b=p:=by simpa using hb
  show b<(s.heap.push _).objs.size
  rw[bA]
  rcases z with rfl|rfl
  ·exact cU _
  ·exact c5 hlt
 ·have hi:bw[i]?=some v:=by simpa using hP
  have hlt:i<zs.length:=by
   have:=(ac.mp hi).1
   rw[<- dG];simpa using this
  have hx:(zs.map V.int)[i]?=some (.int zs[i]):=by rw[ag,ae hlt];rfl
  obtain⟨u,hu,ru⟩:=rv.get hx
  rw[hi]at hu
  obtain⟨t,et⟩:=ru
  refine⟨t,(aG hu).trans ?_⟩
  rw[et];show Value.int zs[i] t=Value.int (zs.getD i 0) t;rw[ao,ae hlt];rfl
 ·have e:preSum (fun i=>zs.getD i 0) bw.toArray.size=zs.sum:=by rw[dG,Ax zs _ (ax _),cu]
  rw[e]
  have eg:s1.gens=s.gens:=hm.gens
  have ed:s1.drawn=s.drawn:=hm.drawn
  have eo:s1.os=s.os:=hm.os
  have kp:∀b o,s.heap.get? b=some o->s1.heap.get? b=some o:=fun b o eb=>hm.heap b o (fun z=>by
   have z:b=s.heap.objs.size:=by simpa using z
   exact absurd (aD eb) (by rw[z];exact cr _)) (al _ eb)
  have es:s1={ s with heap:=s1.heap,toks:=s1.toks }:=by cases s1;cases s;cases eg;cases ed;cases eo;rfl
  generalize s1.heap=g0,s1.toks=tk at es kp
  subst es
  exact⟨.int _,H,I.kept2 (d':=s.drawn) fun b o e=>kp b o e,⟨t',rfl⟩,q⟩⟩
section
noncomputable def rJ:List W->Option (List Int)
 |[]=>some []
 |.int z::ws=>(rJ ws).map (z :: ·)
 |_=>none
theorem Ay:∀{ws:List W} {l:List Int} {vs:List V},rJ ws=some l->RelWs K μ H ws vs->vs=l.map V.int
 |[],l,vs,h,r=>by simp only[rJ]at h;cases h;exact r.nilE
 |w::ws,l,vs,h,r=>by
  obtain⟨x,xs,rfl,rx,rs⟩:=r.consE
  unfold rJ at h
  split at h
  ·rename_i e;cases e
  ·rename_i z R' e
   cases e
   cases e2:rJ ws with
   |none=>rw[e2]at h;cases h
   |some l'=>rw[e2]at h;cases h;rw[rx.intE,Ay e2 rs];rfl
  ·cases h
def Az(ws:List W)(st:List am):R W:=match ws with
 |[.loc n]=>sV (lstOf st n) fun zs=>sV (rJ zs) fun ls=>.ok (.int ls.sum) st
 |_=>.bad
theorem Ud(hc:X.calm=true:=by rfl):t6 X (.builtin "sum") Az:=⟨fun ah s σ H vs us Q I rv zq=>by
 obtain⟨μ,st,ws,S,r,q⟩:=zq
 unfold Az at q
 split at q
 ·rename_i n
  obtain⟨y,rfl,ry⟩:=r.one
  cases e1:lstOf st n with
  |none=>rw[e1]at q;exact q.elim
  |some zs=>
   rw[e1,dH]at q
   cases e2:rJ zs with
   |none=>rw[e2]at q;exact q.elim
   |some ls=>
    rw[e2,dH]at q
    obtain⟨a,vs,g,hS,rz⟩:=S.lstOf e1
    obtain⟨b1,f1,rfl⟩:=ry.locE
    rw[g]at f1;cases f1
    have:=Ay e2 rz
    subst this
    exact(Uc hc).h ah s σ H _ us Q I rv ⟨_,ls,rfl,hS,mj S q⟩
 ·exact q.elim,fun ws st=>by
 unfold Az
 split
 ·exact qe fun _=>qe fun _=>trivial
 ·trivial⟩
end
section
theorem RelWs.rep{a:List W}(r:RelWs K μ H a vs):∀k:Nat,RelWs K μ H (List.replicate k a).flatten (List.replicate k vs).flatten
 |0=>.nilI
 |k+1=>by rw[cH,cH,cZ,cZ];exact r.app (RelWs.rep r k)
def xH:W->W->List am->R W
 |.int i,.int j,st=>fH (.int i) (.int j) st
 |.str l,.int k,st=>fH (.str l) (.int k) st
 |.loc n,.int k,st=>(match st[n]? with
  |some (.lst ws)=>if -(2^63)<=k/\k<2^63/\ws.length*k.toNat<=ny then kZ (List.replicate k.toNat ws).flatten st else .bad
  |_=>.bad)
 |_,_,_=>.bad
theorem P_:vi X (binaryOp .Mult) xH:=⟨fun ah s σ H x y v u Q I rv ru zq=>by
 obtain⟨μ,st,wx,wy,S,rx,ry,q⟩:=zq
 cases wx with
 |int i=>
  cases wy with
  |int j=>exact vB.h ah s σ H x y v u Q I rv ru ⟨μ,st,.int i,.int j,S,rx,ry,q⟩
  |_=>exact q.elim
 |str l=>
  cases wy with
  |int k=>exact vB.h ah s σ H x y v u Q I rv ru ⟨μ,st,.str l,.int k,S,rx,ry,q⟩
  |_=>exact q.elim
 |loc n=>
  cases wy with
  |int k=>
   simp only[xH]at q
   cases e1:st[n]? with
   |none=>rw[e1]at q;exact q.elim
   |some c1=>
    cases c1 with
    |lst a=>
     rw[e1]at q
     dsimp only at q
     split at q
     ·rename_i cc
      obtain⟨a1,g1,vs1,k1,r1⟩:=S.get e1
      obtain⟨b1,f1,rfl⟩:=rx.locE
      rw[g1]at f1;cases f1
      obtain⟨hz,qq⟩:=rq (σ:=σ) S (r1.rep k.toNat) (GO q)
      exact Pj ah s σ H _ _ v u Q I rv ru ⟨a1,k,vs1,rfl,ry.intE,k1,cc.1,cc.2.1,by rw[<- r1.len];exact nD cc.2.2,fun p hp=>qq p _ hp rfl⟩
     ·exact q.elim
    |_=>rw[e1]at q;exact q.elim
  |_=>exact q.elim
 |_=>cases wy<;>exact q.elim,fun x y st=>by
 unfold xH
 split
 ·exact(vB (X:=X)).n _ _ _
 ·exact(vB (X:=X)).n _ _ _
 ·split
  ·split
   ·exact C9 _ _
   ·trivial
  ·trivial
 ·trivial⟩
end
noncomputable abbrev Ue:=List W×List (Nat×List W)
abbrev Xn:=cy->List am->R Ue
section
variable{nm:List Str}{fi:Xn}{f:FG}{t:FT}{el:FE}
end
section
variable{a b:Expr}{fs:FA}
end
section
end
section
variable{nm:List Str}{wi:TI}{g:TG}{te:Cx->TE}
end
section
variable{nm:List Str}{fi:FI}{f:FG}{el:FE}
end
theorem DK.key_inj{a b:DK}:a.key=b.key↔a=b:=by
 cases a<;>cases b<;>simp[DK.key,Gn]
noncomputable def DK.w:DK->W
 |.i z=>.int z
 |.s l=>.str l
noncomputable def qi:W->Option DK
 |.int z=>some (.i z)
 |.str l=>some (.s l)
 |_=>none
theorem yw{w:W}{k:DK}{v:V}(h:qi w=some k)(r:bD K μ H w v):v=kV k.key:=by
 cases w with
 |int z=>cases h;exact r.intE
 |str l=>cases h;exact r.strE
 |_=>cases h
theorem DK.w_rel(k:DK):bD K μ H k.w (kV k.key):=by
 cases k with
 |i z=>exact .int
 |s l=>exact .str
noncomputable def lR(kvs:List (DK×W))(k:DK):Option W:=(kvs.find? fun p=>decide (p.1=k)).map fun p=>p.2
noncomputable def lS(kvs:List (DK×W))(k:DK)(v:W):List (DK×W):=if (kvs.any fun p=>decide (p.1=k))=true then kvs.map fun p=>if p.1=k then(p.1,v)else p else kvs++[(k,v)]
abbrev dV(kvs:List (DK×W))(vs:List V):List (jQ×V):=(kvs.map fun p=>p.1.key).zip vs
section
theorem Ca:∀{kvs:List (DK×W)} {vs:List V} (k:DK),RelWs K μ H (kvs.map fun p=>p.2) vs->(∃w v,lR kvs k=some w/\pY (dV kvs vs) k.key=some v/\bD K μ H w v)\/(lR kvs k=none/\pY (dV kvs vs) k.key=none)
 |[],vs,k,r=>.inr ⟨rfl,rfl⟩
 |p::kvs,vs,k,r=>by
  obtain⟨x,xs,rfl,a,b⟩:=RelWs.consE r
  have ih:=Ca (kvs:=kvs) k b
  by_cases h:p.1=k
  ·refine .inl ⟨p.2,x,?_,?_,a⟩
   ·unfold lR;rw[ca];simp[h]
   ·show pY ((p.1.key,x)::dV kvs xs) k.key=some x
    exact q9 (by rw[h])
  ·have e1:lR (p::kvs) k=lR kvs k:=by unfold lR;rw[ca];simp[h]
   have e2:pY (dV (p::kvs) (x::xs)) k.key=pY (dV kvs xs) k.key:=q_ (p:=(p.1.key,x)) fun z=>h (DK.key_inj.mp z)
   rw[e1,e2];exact ih
theorem G':∀{kvs:List (DK×W)} {vs:List V} (k:DK),RelWs K μ H (kvs.map fun p=>p.2) vs->((dV kvs vs).any fun kv=>decide (kv.1=k.key))=(kvs.any fun p=>decide (p.1=k))
 |[],vs,k,r=>rfl
 |p::kvs,vs,k,r=>by
  obtain⟨x,xs,rfl,a,b⟩:=RelWs.consE r
  show(decide (p.1.key=k.key)||(dV kvs xs).any _)=(decide (p.1=k)||kvs.any _)
  rw[G' k b]
  congr 1
  rw[iy];exact DK.key_inj
theorem Ha{k:DK}{w:W}{v:V}:∀{kvs:List (DK×W)} {vs:List V},RelWs K μ H (kvs.map fun p=>p.2) vs->bD K μ H w v->∃us,(dV kvs vs).map (fun kv=>if kv.1=k.key then(kv.1,v)else kv)=dV (kvs.map fun p=>if p.1=k then(p.1,w)else p) us/\RelWs K μ H ((kvs.map fun p=>if p.1=k then(p.1,w)else p).map fun p=>p.2) us
 |[],vs,r,qS=>⟨[],rfl,.nilI⟩
 |p::kvs,vs,r,qS=>by
  obtain⟨x,xs,rfl,a,b⟩:=RelWs.consE r
  obtain⟨us,e,q⟩:=Ha (k:=k) b qS
  by_cases h:p.1=k
  ·refine⟨v::us,?_,?_⟩
   ·show(if p.1.key=k.key then(p.1.key,v)else(p.1.key,x))::(dV kvs xs).map _=_
    rw[au (by rw[h]),e,aP,au h];rfl
   ·rw[aP,au h];exact .consI qS q
  ·refine⟨x::us,?_,?_⟩
   ·show(if p.1.key=k.key then(p.1.key,v)else(p.1.key,x))::(dV kvs xs).map _=_
    rw[ay (fun z=>h (DK.key_inj.mp z)),e,aP,ay h];rfl
   ·rw[aP,ay h];exact .consI a q
theorem P'{kvs:List (DK×W)}{k:DK}{w:W}{v:V}(r:RelWs K μ H (kvs.map fun p=>p.2) vs)(qS:bD K μ H w v):∃us,sO (dV kvs vs) k.key v=dV (lS kvs k w) us/\RelWs K μ H ((lS kvs k w).map fun p=>p.2) us:=by
 unfold sO lS
 rw[G' k r]
 by_cases h:(kvs.any fun p=>decide (p.1=k))=true
 ·rw[au h,au h]
  exact Ha r qS
 ·rw[ay h,ay h]
  refine⟨vs++[v],?_,?_⟩
  ·unfold dV
   rw[bG,List.zip_append (by rw[ak,<- r.len,ak])];rfl
  ·rw[bG];exact r.app (.consI qS .nilI)
theorem Hb{kvs:List (DK×W)}(r:RelWs K μ H (kvs.map fun p=>p.2) vs):(dV kvs vs).length=kvs.length:=by
 unfold dV;rw[List.length_zip,ak,<- r.len,ak,Nat.min_self]
theorem gp.butD{l:Addr}{xs:List (jQ×V)}(e:VC l H H')(hl:H l=some (.dK xs)):eS K H H':=by
 have wZ:∀{p:Addr} {o:HO},H p=some o->(∀zs,o≠.dK zs)->p≠l:=fun{p o} q hn z=>by subst z;rw[hl]at q;cases q;exact hn _ rfl
 refine⟨fun p ys h=>?_,fun b o u h=>e _ _ (wZ h (fun _ z=>by cases z)) h⟩
 rcases h with(h|⟨o,h⟩)|h
 ·exact .inl (.inl (e _ _ (wZ h (fun _ z=>by cases z)) h))
 ·exact .inl (.inr ⟨o,e _ _ (wZ h (fun _ z=>by cases z)) h⟩)
 ·exact .inr h
end
theorem iN.setD(S:iN K mg μ st H){kvs R1:List (DK×W)}{xs:List (jQ×V)}{us:List V}(hn:st[n]?=some (.dct kvs))(hm:μ[n]?=some a)(ha:H a=some (.dK xs))(hr:RelWs K μ H (R1.map fun p=>p.2) us) :
  iN K mg μ (st.set n (.dct R1)) (e_ H a (.dK (dV R1 us))):=
 S.setG hn rfl hm ha (fun _ _ z=>by cases z) (fun _ z=>by cases z) (gp.butD iS ha) rfl ⟨us,fg,hr.mono (aj _) (gp.butD iS ha)⟩
noncomputable def gq(st:List am):W->Option (Nat×List (DK×W))
 |.loc n=>(match st[n]? with
  |some (.dct kvs)=>some (n,kvs)
  |some (.rod kvs)=>some (n,kvs)
  |_=>none)
 |_=>none
noncomputable def Fa(st:List am):W->Option (Nat×List (DK×W))
 |.loc n=>(match st[n]? with
  |some (.dct kvs)=>some (n,kvs)
  |_=>none)
 |_=>none
theorem rK(S:iN K mg μ st H){x:W}{v:V}{kvs:List (DK×W)}(h:gq st x=some (n,kvs))(r:bD K μ H x v) :
  ∃a vs,(st[n]?=some (.dct kvs)\/st[n]?=some (.rod kvs))/\μ[n]?=some a/\v=.ref a/\Rd H a (.dK (dV kvs vs))/\RelWs K μ H (kvs.map fun p=>p.2) vs:=by
 cases x with
 |loc m=>
  simp only[gq]at h
  cases e:st[m]? with
  |none=>rw[e]at h;cases h
  |some c=>
   rw[e]at h
   cases c with
   |dct z=>
    cases h
    obtain⟨a,g,vs,k,rr⟩:=S.get e
    obtain⟨b,f,rfl⟩:=r.locE
    rw[g]at f;cases f
    exact⟨a,vs,.inl e,g,rfl,.inl k,rr⟩
   |rod z=>
    cases h
    obtain⟨a,g,vs,o,k,rr⟩:=S.get e
    obtain⟨b,f,rfl⟩:=r.locE
    rw[g]at f;cases f
    exact⟨a,vs,.inr e,g,rfl,.inr ⟨o,k⟩,rr⟩
   |_=>cases h
 |_=>cases h
theorem LD(S:iN K mg μ st H){x:W}{v:V}{kvs:List (DK×W)}(h:Fa st x=some (n,kvs))(r:bD K μ H x v) :
  ∃a vs,st[n]?=some (.dct kvs)/\μ[n]?=some a/\v=.ref a/\H a=some (.dK (dV kvs vs))/\RelWs K μ H (kvs.map fun p=>p.2) vs:=by
 cases x with
 |loc m=>
  simp only[Fa]at h
  cases e:st[m]? with
  |none=>rw[e]at h;cases h
  |some c=>
   rw[e]at h
   cases c with
   |dct z=>
    cases h
    obtain⟨a,g,vs,k,rr⟩:=S.get e
    obtain⟨b,f,rfl⟩:=r.locE
    rw[g]at f;cases f
    exact⟨a,vs,e,g,rfl,k,rr⟩
   |_=>cases h
 |_=>cases h
theorem wK.r{k:jQ}(e:Rd H a (.dK kvs)):wK H a (kV k) (pY kvs k):=.inl ⟨kvs,k,e,rfl,rfl⟩
section
variable{a b c d i:Expr}{x:Str}{fa fb fc fe fo fi:FE}{fs:FA}
def yx(x y:W)(st:List am):R W:=match gq st x,qi y with
 |some (_,kvs),some k=>sV (lR kvs k) fun w=>.ok w st
 |_,_=>.bad
theorem Uf(hr:h_ kk X.A)(ha:SE X a fa)(hb:SE X b fb)(hs:Pm b:=by intro _ _;rfl):SE X (.Subscript a b pos) (e2 yx fa fb):=⟨(KW (Gf hr) ha.h hb.h hs).imp fun σ H Q h=>by
 walk_at "2"
 refine⟨μ,ρ,st,l,RK.bind h l fun μ1 st1 x v H1 p1 x1 l1 q1 h1=>⟨μ1,ρ,st1,l1,RK.bind h1 l1 fun μ2 db y u H2 p2 x2 l2 q2 h2=>?_⟩⟩
 unfold yx at h2
 cases e1:gq db x with
 |none=>rw[e1]at h2;exact h2.elim
 |some nk=>
  obtain⟨n,kvs⟩:=nk
  cases e2:qi y with
  |none=>rw[e1,e2]at h2;exact h2.elim
  |some k=>
   rw[e1,e2]at h2
   simp only at h2
   obtain⟨a,vs,_,_,rfl,ha,r⟩:=rK l2.sto e1 (q1.mono p2 x2)
   have:=yw e2 q2
   subst this
   rcases Ca k r with⟨w,z,g1,g2,g3⟩|⟨g1,g2⟩
   ·rw[g1]at h2
    exact⟨a,z,rfl,by rw[<- g2];exact wK.r ha,h2 μ2 z H2 (aj _) eS.refl l2.sto g3⟩
   ·rw[g1]at h2;exact h2.elim⟩
def rL(x i v:W)(st:List am):Option (List am):=match Fa st x,qi i with
 |some (n,kvs),some k=>if kvs.length<ny then some (st.set n (.dct (lS kvs k v)))else none
 |_,_=>none
theorem Qa(hr:h_ kk X.A):Ey X (GY X rL):=fun ah s σ H o i v ov iv u Q I r1 r2 r3 zq=>by
 obtain⟨μ,st,wo,wi,wv,bz,S,ro,ri,rv,e,q⟩:=zq
 unfold rL at e
 cases e1:Fa st wo with
 |none=>rw[e1]at e;cases e
 |some nk=>
  obtain⟨n,kvs⟩:=nk
  cases e2:qi wi with
  |none=>rw[e1,e2]at e;cases e
  |some k=>
   rw[e1,e2]at e
   simp only at e
   split at e
   ·rename_i hl
    cases e
    obtain⟨a,vs,hn,hm,rfl,ha,r⟩:=LD S e1 ro
    have:=yw e2 ri
    subst this
    obtain rfl:ov=Value.ref a:=r1
    obtain⟨us,g1,g2⟩:=P' (k:=k) r rv
    refine EN (Gf hr) I (KS.k ha (by rw[Hb r];exact aL hl #[1])) r2 r3 fun s' I'=>⟨_,I',?_⟩
    rw[g1]
    exact q _ (gp.butD iS ha) (S.setD hn hm ha g2)
   ·cases e
def Hc:FE:=fun _ st=>.ok (.loc st.length) (st++[.dct []])
theorem Qb:SE X (.Dict [] [] pos) Hc:=⟨Gi.imp fun σ H Q h=>by
 walk_at "2"
 intro p hp
 have hs:ul H (e_ H p (.dK [])):=cQ hp _
 exact h (μ++[p]) (.ref p) _ (bp _ _) (gp.same hs) (l.sto.push (c:=.dct []) hp ⟨[],fg,.nilI⟩) (sT l.sto)⟩
end
section
theorem LF{w:World}{k:jQ}(h:(eQ P w).is k v=true):cL (kV k) v:=by
 rcases fC h with⟨i,t,rfl,rfl⟩|⟨x,t,rfl,rfl⟩
 ·exact⟨t,rfl⟩
 ·exact⟨t,rfl⟩
end
section
theorem Hd{l:List α}{x:α}(h:l[i]?=some x):l.set i x=l:=by
 refine bM fun j=>?_
 by_cases e:i=j
 ·subst e;rw[bq (ac.mp h).1,h]
 ·rw[b8 e]
end
section
end
section
variable{en dn q:Str}{pr:Arguments}{p1 p3 p4 W3 W6:Pos}{sc:Scope}{c P:Addr}
end
theorem bK.freeze{o:Obj}(I:bK X ah σ H s)(ha:H a=some (.dK kvs))(ho:s.heap.get? a=some o):bK X ah σ (e_ H a (.frz o (.dK kvs))) s:=by
 have ne:∀b u,H b=some u->(∀z,u≠.dK z)->e_ H a (.frz o (.dK kvs)) b=some u:=fun b u e n=>by rw[cE (fun z=>by rw[z,ha]at e;cases e;exact n _ rfl)];exact e
 have:bK X ah σ (e_ H a (.frz o (.dK kvs))) { s with heap:=s.heap,toks:=s.toks }:=by
  refine I.un ⟨fun b o e n hb hx=>e,fun b o e n hb hx=>⟨o.slots,e⟩,fun b o e n hx=>?_,fun b o e hx=>⟨o,e⟩,fun b xs e=>ne b _ e fun _ z=>(by cases z),fun b o u e=>ne b _ e fun _ z=>(by cases z),fun b ps e=>⟨#[],by rw[ne b _ e fun _ z=>(by cases z)];simp⟩⟩ fun b u e=>?_
  ·rw[cE (fun z=>by rw[z,ha]at n;cases n)];exact n
  ·by_cases hb:b=a
   ·subst hb
    rw[fg]at e;cases e
    exact⟨ho,I.hok b _ ha⟩
   ·rw[cE hb]at e
    exact(I.hok b u e).stay (fun _ _ _ q=>q) (fun c q=>ne c _ q fun _ z=>(by cases z)) fun c xs q=>ne c _ q fun _ z=>(by cases z)
 exact this
noncomputable def Fb(o:Obj):Nat:=match o.data with
 |.dict _ ep=>ep
 |_=>0
theorem Cb{o:Obj}(I:bK X ah σ H s)(ha:H a=some (.frz o (.dK kvs))):∃vs,KV kvs vs/\(a==sysModules)=false/\s.heap.DictAt (eQ X.prog X.w) a vs (Fb o):=by
 obtain⟨e,_,hs,vs,rel,o',es,ep,e',r1,r2,r⟩:=I.hok a _ ha
 rw[e]at e';cases e'
 refine⟨vs,rel,hs,o,es,e,r1,?_,r⟩
 have:Fb o=ep:=by unfold Fb;rw[r2]
 rw[this];exact r2
section
variable{f:Expr}{fo fk fd fe:FE}
def yy(fo fk fd:FE):FE:=fun ρ st=>(fo ρ st).bind fun x st=>match gq st x with
 |some _=>(fk ρ st).bind fun y st=>(fd ρ st).bind fun z st=>(match gq st x,qi y with
  |some (_,kvs),some k=>.ok ((lR kvs k).getD z) st
  |_,_=>.bad)
 |none=>.bad
theorem LG(hr:h_ kk X.A)(ho:SE X o fo)(he:SE X e fe)(hf:SE X f fd)(m:M2 X o "get" fI e f dM:=by exact⟨by rfl,by rfl,by rfl,by rfl⟩):SE X (.Call (.Attribute o "get" fI) [e,f] [] dM) (yy fo fe fd):=⟨(Gj (Gf hr) ho.h he.h hf.h m).imp fun σ H Q h=>by
 walk_at "2"
 walk_at "1"
 cases e0:gq st1 x with
 |none=>rw[e0]at h1;exact h1.elim
 |some nk0=>
  obtain⟨n0,kvs0⟩:=nk0
  rw[e0]at h1
  simp only at h1
  obtain⟨a0,vs0,_,hm0,rfl,ha0,_⟩:=rK l1.sto e0 q1
  refine⟨a0,rfl,.inl ⟨_,ha0⟩,μ1,ρ,st1,l1,RK.bind h1 l1 fun μ2 db y u H2 p2 x2 l2 q2 h2=>⟨μ2,ρ,db,l2,RK.bind h2 l2 fun μ3 mD d t H3 p3 x3 l3 q3 h3=>?_⟩⟩
  cases e1:gq mD x with
  |none=>rw[e1]at h3;exact h3.elim
  |some nk=>
   obtain⟨n,kvs⟩:=nk
   cases e2:qi y with
   |none=>rw[e1,e2]at h3;exact h3.elim
   |some k=>
    rw[e1,e2]at h3
    simp only at h3
    obtain⟨a,vs,_,hm,ea,ha,r⟩:=rK l3.sto e1 ((q1.mono p2 x2).mono p3 x3)
    cases ea
    have:=yw e2 q2
    subst this
    rcases Ca k r with⟨w,z,g1,g2,g3⟩|⟨g1,g2⟩
    ·rw[g1]at h3
     exact⟨some z,by rw[<- g2];exact wK.r ha,h3 μ3 z H3 (aj _) eS.refl l3.sto g3⟩
    ·rw[g1]at h3
     exact⟨none,by rw[<- g2];exact wK.r ha,h3 μ3 t H3 (aj _) eS.refl l3.sto q3⟩⟩
end
section
variable{x y:Str}{a b:Expr}{fs:FA}
end
inductive DefIn(K:Frag)(x:Str)(st:Stmt):Prop
 |mk {ad:Addr} {od an:Option Addr} {sl:Array (Option Value)} {oc kV dc pm cd ct:Value} (a:nsIn K mainGlobals x=some (some (.ref ad)))
   (l:K.lookup ad=some ⟨oc,od,.func (fnOf x x (ic st) (gs st) (aK st) .none kV dc pm an cd ct),sl⟩) (c:codeIn K cd x=true) (k:keepIn K (.ref ad)=true):DefIn K x st
theorem DefIn.fn{x:Str}{st:Stmt}(d:DefIn K x st)(X:K.In h)(G:h.Ns mainGlobals mg):∃f fd,iZ K x x st f fd/\mg x=some (.ref f):=by
 obtain⟨a,l,c,k⟩:=d
 exact⟨_,_,yc (st:=st) l c k,mg_of X G a⟩
theorem Ug{l:List Value}(h:l.length=n+1):∃a t,l=a::t/\t.length=n:=by
 cases l with
 |nil=>cases h
 |cons a t=>exact⟨a,t,rfl,Nat.succ.inj h⟩
section
variable{P:Program}{w:World}{K:Frag}{mg:Str->Option Value}{base:Heap}{k n:Nat}{x:Str}{st:Stmt}{f:Addr}{fd:FuncData}{ps:List Str}{G:List W->List am->R W}
theorem Qc{h:Heap}(d:DefIn K x st)(X:K.In h)(Gs:h.Ns mainGlobals mg)(ok:∀{f:Addr} {fd:FuncData},iZ K x x st f fd->c_ P w K mg base (iE P w) k f fd ps (i8 K mg n G))(hn:ps.length=n:=by rfl)
  (hb:∀(kV sK pm:Value) (an:Option Addr) (fO ct:Value) (us:List Value),us.length=ps.length->bindArgs (fnOf x x (ic st) (gs st) (aK st) .none kV sK pm an fO ct) ⟨us,[]⟩=pure (ps.zip us):=by(intro _ _ _ _ _ _ _ q;(repeat(have k:=Ug q;clear q;obtain⟨_,_,rfl,q⟩:=k));cases List.eq_nil_of_length_eq_zero q;rfl)):dB P w K mg base k x n G:=let ⟨_,_,F,m⟩:=d.fn X Gs;yo F m hn hb (ok F)
end
noncomputable def VO:List Str->Bool
 |[]=>true
 |x::r=>!(r.any fun y=>y==x)&&VO r
theorem He:∀{l:List Str},VO l=true->l.Nodup
 |[],_=>.nil
 |x::r,h=>by
  simp only[VO,b_,gZ,mE,dz]at h
  exact eY.mpr ⟨fun m=>h.1 x m rfl,He h.2⟩
section
variable{x:Str}{fe:FE}{sp:Scope}
theorem kK{N:List Str}(a:sp.kind=.function:=by rfl)(b:sp.isCoroutine=false:=by rfl)(c:sp.isGenerator=false:=by rfl)(d:N.Nodup:=by decide +kernel)(f:N.take ps.length=ps:=by rfl)(g:∀x∈ps,sp.names.lookup x=some .local\/sp.names.lookup x=some .cell:=by decide +kernel)(h:∀y∈sp.names,y.2≠.free:=by decide +kernel):bh N ps sp:=⟨a,b,c,d,f,g,h⟩
theorem sS(i:Nat){ij:Pos}(sc:bh X.N ps sp)(he:SE X e fe)(hi:X.N[i]?=some x:=by rfl)(hx:Km X.env.scope x:=by first|exact .inl rfl|exact .inr rfl)(hs:swapsWith e (some (.Name x ij)) pos.line X.env=pure false:=by rfl)(hf:X.fn x=true\/X.env.scope.names.lookup x=some .local:=by first|exact .inl rfl|exact .inr rfl|assumption) :
  SS X (.Assign [.Name x ij] e pos) (bP i fe):=PY sc.nd hi hx he hs hf
theorem sG(i:Nat)(sc:bh X.N ps sp)(hi:X.N[i]?=some x:=by rfl)(hx:Km X.env.scope x:=by first|exact .inl rfl|exact .inr rfl)(hf:X.fn x=true\/X.env.scope.names.lookup x=some .local:=by first|exact .inl rfl|exact .inr rfl|assumption):SG X (.Name x pos) (dZ i):=Dd sc.nd hi hx hf
theorem XM{nm:List Str}{cl:List (Str×Addr)}{C s0 H0 fp}(i:Nat)(hN:VO nm=true:=by first|rfl|kernel_rfl)(hi:nm[i]?=some x:=by rfl)(hx:Km #[7].env.scope x:=by first|exact .inl rfl|exact .inr rfl)(hf:#[7].fn x=true\/#[7].env.scope.names.lookup x=some .local:=by first|exact .inl rfl|exact .inr rfl|assumption) :
  SG #[7] (.Name x pos) (dZ i):=Dd (X:=de X nm scope cl C s0 H0 fp) (He hN) hi hx hf
end
noncomputable def LH:Expr->List Str
 |.Name x _=>[x]
 |.Tuple es _ _=>es.filterMap fun e=>match e with
  |.Name x _=>some x
  |_=>none
 |_=>[]
noncomputable def Qd(N:List Str):List Str->List (Option Nat)->List Str
 |_,[]=>[]
 |ts,some j::r=>N.getD j "" :: Qd N ts r
 |ts,none::r=>ts.headD "" :: Qd N ts.tail r
abbrev MN(X:Cx)(tg:Expr)(cap:List (Option Nat)):List Str:=Qd X.N (LH tg) cap
section
variable{fi:FI}{f:FG}{t:FT}{el:FE}
theorem Di(lV:X.env.cells=cellsFrom m X.env.scope.names [])(hi:SI X tg dw fi)(hg:∀cl C s0 H0 fp,SG (de X (MN X tg cap) scope cl C s0 H0 fp) tg f)(ht:∀cl C s0 H0 fp,P3 (de X (MN X tg cap) scope cl C s0 H0 fp) lg t)
  (he:∀cl C s0 H0 fp,SE (de X (MN X tg cap) scope cl C s0 H0 fp) oq el) (hB:zO X.env.scope.names scope.names (MN X tg cap) cap X.N=true:=by first|rfl|kernel_rfl) (iB:X.calm=true:=by rfl) (iA:scope.kind=.function:=by rfl) (hs:∀x,foldedSetIterable dw X.env x=pure x:=by intro _;rfl) :
  SE X #[6] (cV cap fi f t el):=P4 hB lV hi hg ht he iB iA hs
theorem t_{x0:Str}{p0 p1:Pos}(R3:SG X (.Name x0 p0) (dZ i))(lV:X.env.cells=cellsFrom m X.env.scope.names [])(hi:SI X tg dw fi)(hg:∀cl C s0 H0 fp,SG (de X (MN X tg cap) scope cl C s0 H0 fp) tg f)(ht:∀cl C s0 H0 fp,P3 (de X (MN X tg cap) scope cl C s0 H0 fp) lg t)
  (he:∀cl C s0 H0 fp,SE (de X (MN X tg cap) scope cl C s0 H0 fp) oq el) (hB:zO X.env.scope.names scope.names (MN X tg cap) cap X.N=true:=by first|rfl|kernel_rfl) (R0:swapsWith #[6] (some (.Name x0 p0)) p1.line X.env=pure true:=by first|rfl|kernel_rfl) (iB:X.calm=true:=by rfl) (iA:scope.kind=.function:=by rfl) (hs:∀x,foldedSetIterable dw X.env x=pure x:=by intro _;rfl) :
  SS X (.Assign [.Name x0 p0] #[6] p1) (Aq (cV cap fi f t el) (dZ i)):=B9 R3 hB lV hi hg ht he iB iA hs R0
end
end L2
variable{t:L2.FT}{ρ:L2.cy}{fa fb fe el:L2.FE}{fi:L2.FI}
namespace HT
open PySem PyProof.Rows
section
open PySem.SeqAt
open PySem.AutoSeq1 (wpAny_loadPart')
open PySem.MeetsSeq PySem.MeetsSeq2 PySem.MeetsSeq3
end
end HT
namespace L2
open PySem PySem.Spec PyProof.Rows
section
end
end L2
namespace PK
open PySem
section
variable{w:World}{K1 K2:Type}[DecidableEq K1][DecidableEq K2](knd:KeyKind prog w K1)(hk:HeapKind prog w K2)
variable{knd hk}
end
section
variable{w:World}{K:Type}[DecidableEq K]{knd:HeapKind prog w K}
end
end PK
namespace L2
open PySem PySem.Spec PyProof.Rows
section
variable{w:World}{es:List DictEntry}
end
section
variable{K:Type}[DecidableEq K]{knd:HeapKind X.prog X.w K}{xs:List (K×Addr×Value)}{k:K}
end
structure HV(X:Cx)(K:Type)[DecidableEq K] where
 knd:HeapKind X.prog X.w K
 em:K->KX
 inj:∀{a b:K},em a=em b->a=b
 hash:∀k,(em k).hash=knd.hash k
 is:∀{ah:List (Addr×Obj)} {σ:St} {H:Hp} {s:Shared} {μ:List Addr} {k:K} {v:V} {u:Value},bK X ah σ H s->bD X.K μ H (em k).w v->cL v u->∃b,u=.ref b/\knd.is s.heap k b
 room:∀{A:Around},A.units+2<cLine->knd.room A.in1
theorem items_int{w:World}:∀{ks:List Int} {bw:List Value},cG (ks.map V.int) bw->ItemsAre (intKind P w) ks bw
 |[],_,r=>by cases r;exact .nil
 |k::ks,_,r=>by
  cases r with
  |cons h t=>
   obtain⟨q,rfl⟩:=h
   exact .cons (by simp[intKind,Value.isInt]) (items_int t)
section
variable{K:Type}[DecidableEq K](G:HV X K)
variable{G}
end
section
end
section
end
end L2
namespace PK
open PySem
section
variable{w:World}
end
end PK
namespace L2
open PySem PySem.Spec PyProof.Rows
section
variable{w:World}{K:Type}[DecidableEq K]{knd:KeyKind prog w K}{es:List DictEntry}{k:K}{key dflt:Value}
end
section
end
section
variable{w:World}{es:List DictEntry}
end
section
end
def Uh(K:Frag)(a:Addr):It:=
 ⟨fun i H=>∃xs x,p8 K H a xs/\xs[i]?=some x,fun i H v H'=>∃p,H p=none/\v=.ref p/\∀xs x,p8 K H a xs->xs[i]?=some x->H'=e_ H p (.tup [.int i,x]),fun i H=>∃xs,p8 K H a xs/\xs.length<=i⟩
theorem Cc{w:World}(a it e:Addr)(RT:e≠it) :
  x5 P w K (.Tuple kD kk pos) (Uh K a) [e,it] e (fun i h=>(∃old,IsEnum h e it i old)/\h.IsListIter it a i) where
 mem:=by simp
 obj:=fun i h st b hb=>by
  have z:b=e\/b=it:=by simpa using hb
  rcases z with rfl|rfl
  ·obtain⟨old,q⟩:=st.1
   exact⟨_,q,fun v z=>by cases z⟩
  ·obtain⟨o,q,c,d⟩:=st.2
   exact⟨o,q,fun v z=>by rw[d]at z;cases z⟩
 keep:=fun i h h' st k=>⟨let ⟨old,q⟩:=st.1;⟨old,k e #[9] _ q⟩,st.2.at fun o q=>k it #[9] o q⟩
 item:=by
  intro X hP hw hK hc i ah s σ H E I hf st hg
  subst hP hw hK
  obtain⟨xs,x,hq,hx⟩:=hg
  obtain⟨bw,rv,p,hz⟩:=I.list hq
  obtain⟨u,hu,ru⟩:=rv.get hx
  obtain⟨⟨old,he⟩,jD⟩:=st
  have hT:s.heap.IsList a bw.toArray:=p.isList
  obtain⟨oa,ha,hca,_⟩:=id hT
  obtain⟨oi,hi,hci,_⟩:=id jD
  have nai:a≠it:=fun z=>by
   rw[z,hi]at ha;cases ha
   rw[hci]at hca;injection hca with z;exact absurd z #[1]
  have nae:a≠e:=fun z=>by
   rw[z,he]at ha;cases ha
   injection hca with z;exact absurd z #[1]
  have hlt:i<bw.toArray.size:=by
   have:=(ac.mp hu).1
   simpa using this
  refine ni (Draws.list (A:=X.A.in1) (I.ok.hd hc) it a nai bw.toArray) he ⟨jD,hT⟩ hlt RT (by simp[RT,Ne.symm nae]) fun x' g tk hx' ho' bz htup hsz hk=>⟨_,rfl,?_⟩
  have ex:x'=u:=by
   have e1:bw[i]?=some x':=by simpa using hx'
   rw[hu]at e1;exact(aG e1).symm
  subst ex
  refine l0 ho' fun g2 Vl Bz=>?_
  have wG:H s.heap.objs.size=none:=I.hok.fresh (ax _)
  have I1:bK X ah σ (e_ H s.heap.objs.size (.tup [.int i,x])) { s with heap:=s.heap.push { cls:=.type "tuple",data:=.seq #[.int i tk,x'] },toks:=tk+1 }:=I.laid (fun b o q=>al _ q) (ax _)
   ⟨by show 2<=sizeLine;decide,[.int i tk,x'],.cons ⟨tk,rfl⟩ (.cons ru .nil),⟨_,ar _ rfl,rfl,_,rfl⟩⟩
  have nf:∀b∈[e,it],b≠s.heap.objs.size:=fun b hb=>by
   have z:b=e\/b=it:=by simpa using hb
   rcases z with rfl|rfl
   ·exact a8 (aD he)
   ·exact a8 (aD hi)
  have fp:∀b∈[e,it],sL X ah (e_ H s.heap.objs.size (.tup [.int i,x])) b:=fun b hb=>by
   obtain⟨f0,f⟩:=hf b hb
   exact⟨by rw[cE (nf b hb)];exact f0,f⟩
  have he2':IsEnum g2 e it ((i:Int)+1) x':=Vl
  have I2:bK X ah σ (e_ H s.heap.objs.size (.tup [.int i,x])) { s with heap:=g2,toks:=tk+1 }:=I1.turned2 (t':=tk+1) (fun b o hbe hbi q=>?_) ⟨_,he2'⟩ (fp e #[9]) (fp it #[9])
  ·refine⟨.ref s.heap.objs.size,_,I2,rfl,⟨_,wG,rfl,fun ys y hy hy'=>?_⟩,⟨⟨x',by simpa using he2'⟩,bz.1.extBut Bz.extBut (Ne.symm RT)⟩,fun b hb=>(fp b hb).1⟩
   have e1:=I.list_inj hy hq
   subst e1
   rw[hx]at hy';cases hy';rfl
  ·have q':(s.heap.push { cls:=.type "tuple",data:=.seq #[.int i tk,x'] }).get? b=some o:=q
   refine Bz.extBut b o hbe ?_
   by_cases hb:b=s.heap.objs.size
   ·subst hb
    have e1:=ar s.heap (o:={ cls:=.type "tuple",data:=.seq #[.int i tk,x'] }) rfl
    rw[e1]at q';cases q'
    exact htup
   ·rw[jH _ _ _ hb]at q'
    exact hk b o hbe hbi q'
 done:=by
  intro X hP hw hK hc i ah s σ H E I hf st hg
  subst hP hw hK
  obtain⟨xs,hq,hx⟩:=hg
  obtain⟨bw,rv,p,hz⟩:=I.list hq
  obtain⟨⟨old,he⟩,jD⟩:=st
  have hT:s.heap.IsList a bw.toArray:=p.isList
  have hl:=rv.length
  have hT':Shared.TypeIs s (.ref e) "enumerate":=⟨_,he,rfl⟩
  unfold pyNext
  refine aa (dP (bn (name:=Str.ofString "__next__") hT' gU (br gU hT' nU ?_ (nj _))))
  show wpAny _ _ (field (.ref e) 2 >>= _) _ _ _
  refine aa (b9 he rfl (x:=.ref it) rfl (aa (oV (show X.A.in1.handled=none from I.ok.hd hc) jD hT (by simp;omega) fun g y hx' hy=>?_)))
  obtain⟨o,ho,qt⟩:=hy
  refine aa (eF (T:="StopIteration") (b:=true) ⟨o,ho,qt⟩ hX (aq ⟨rfl,?_⟩))
  obtain⟨f0,f1,f2,f3,f4,f5⟩:=hf it (by simp)
  exact I.turned (t':=s.toks) (fun b o hb q=>hx' b o hb q) f0 f1 f3 f4 f5
 self:=fun A i s Q E st h=>let ⟨_,q⟩:=st.1;jI q h
open AutoSeq1 (wpAny_loadPart')
noncomputable abbrev rM(t:Addr):Obj:={ cls:=.type "list_iterator",data:=.fields #[.ref t,.int 0 0] }
theorem LI(t:Addr)(bw:Array Value)(n:Nat)(dc:Option Addr)(sl:Array (Option Value)) :
  Meets (Builtin.«enumerate.__new__» ⟨[.type "enumerate",.ref t],[]⟩) (fun _ R s=>s.heap.get? t=some { cls:=.type "list",dict:=dc,data:=.seq bw n,slots:=sl } /\
   R (.ok (.ret (.ref (s.heap.push (rM t)).objs.size))) { s with heap:=(s.heap.push (rM t)).push (sP s.heap.objs.size) }):=
 .of_wp fun prog w A R s h=>by
  obtain⟨hp,g,d,tk,os⟩:=s
  obtain⟨ht,h⟩:=h
  have sb:=sub_enumerate
  have hT:Heap.IsList (Shared.heap ⟨hp,g,d,tk,os⟩) t bw:=⟨_,ht,rfl,n,rfl⟩
  wp_walk using bF ht
  refine wpAny_stack_any fun st=>aq ?_
  split
  ·rename_i c _ _ _ _ _
   cases(c==Value.type "enumerate")<;>(wp_walk using bF ht,gX hT;exact⟨_,rfl,h⟩)
  ·wp_walk using bF ht,gX hT
   exact⟨_,rfl,h⟩
section
variable{w:World}
theorem vD{t:Addr}{bw:Array Value}(hT:s.heap.IsList t bw)
  (q:∀g,IsEnum g #[11] s.heap.objs.size 0 .none->g.IsListIter s.heap.objs.size t 0->(∀b o,s.heap.get? b=some o->g.get? b=some o)->Q (.ref #[11]) { s with heap:=g }) :
  wpAny #[5] A (call (.type "enumerate") [.ref t]) Q E s:=by
 obtain⟨⟨c,dc,dt,sl⟩,ht,hc,n,hd⟩:=hT
 obtain rfl:c=.type "list":=hc
 obtain rfl:dt=.seq bw n:=hd
 refine nV F.called_enumerate #[1] (nX _) (oS _) (fun ob=>F.args_object_init_2 ob _) oT (LI t bw n dc sl) ⟨ht,?_⟩
 have z:(s.heap.push (rM t)).objs.size=s.heap.objs.size+1:=bA ..
 show _/\_
 rw[z]
 have e1:IsEnum ((s.heap.push (rM t)).push (sP s.heap.objs.size)) #[11] s.heap.objs.size 0 .none:=by
  have y:=ar (s.heap.push (rM t)) (o:=sP s.heap.objs.size) rfl
  rw[z]at y;exact y
 exact⟨⟨_,e1,rfl⟩,q _ e1 ⟨_,al _ (ar _ rfl),rfl,rfl⟩ fun b o y=>al _ (al _ y)⟩
end
section
def WS(K:Frag)(ta:TA):TI:=fun σ H R=>ta σ H fun vs H1=>∃a,vs=[.ref a]/\(∃xs,p8 K H1 a xs)/\R (Uh K a) H1
theorem Hf{a:Expr}{ta:TA}{p pos tp:Pos}{kD:List Expr}{kk:Nat}(hm:X.mg "enumerate"=none)(ha:QA X [a] ta)(hg:Gl X "enumerate":=by rfl)(hs:starEach [a] X.env=[(false,eval a X.env)]:=by rfl) :
  QI X (.Tuple kD kk tp) (.Call (.Name "enumerate" p) [a] [] pos) (WS X.K ta):=⟨by
 intro ah s σ H R I h
 refine Call_ (lL I hg hm pM (b6 (gG (ha.h pos ah s σ H _ I h) fun us s1 zq=>?_) hs rfl))
 obtain⟨vs,H1,I1,r1,q1⟩:=zq
 obtain⟨t,e,⟨xs,hq⟩,q⟩:=q1
 subst e
 obtain⟨u,rfl,ru⟩:=oY r1
 cases ru
 obtain⟨bw,rv,pt,hz⟩:=I1.list hq
 refine vD pt.isList fun g e1 e2 kp=>?_
 refine jI e1 ?_
 refine⟨s1.heap.objs.size+1,[s1.heap.objs.size+1,s1.heap.objs.size],_,_,H1,rfl,I1.kept (t':=s1.toks) kp,Cc t _ _ (nn _),⟨⟨_,e1⟩,e2⟩,fun b hb=>?_,q⟩
 have z:b=s1.heap.objs.size+1\/b=s1.heap.objs.size:=by simpa using hb
 rcases z with rfl|rfl
 ·exact I1.fpOk (d9 _) (I1.hok.fresh (d9 _))
 ·exact I1.fpOk (ax _) (I1.hok.fresh (ax _))⟩
end
section
variable{a:Expr}{fs:FA}
def kg(fs:FA):FI:=fun ρ st=>(fs ρ st).bind fun ws st=>match ws with
 |[.tup zs]=>.ok (jv zs,none) st
 |[.loc n]=>(match lstOf st n with
  |some zs=>.ok (jv zs,some (n,zs)) st
  |none=>.bad)
 |_=>.bad
def Dj(fs:FA):FI:=fun ρ st=>(fs ρ st).bind fun ws st=>match ws with
 |[.loc n]=>(match lstOf st n with
  |some zs=>.ok (jv zs,some (n,zs)) st
  |none=>.bad)
 |_=>.bad
theorem Hg{kD:List Expr}{kk:Nat}{tp:Pos}(hm:X.mg "enumerate"=none)(ha:SA X [a] fs)(hg:Gl X "enumerate":=by rfl)(hs:starEach [a] X.env=[(false,eval a X.env)]:=by rfl) :
  SI X (.Tuple kD kk tp) (.Call (.Name "enumerate" p) [a] [] pos) (Dj fs):=⟨(Hf hm ⟨ha.h⟩ hg hs).h.imp fun σ H R h=>by
 walk_at "2"
 walk_at "1"
 split at h1
 ·rename_i n
  obtain⟨y,rfl,ry⟩:=q1.one
  obtain⟨a,ha,rfl⟩:=ry.locE
  cases e1:lstOf st1 n with
  |none=>rw[e1]at h1;exact h1.elim
  |some zs=>
   rw[e1]at h1
   obtain⟨a',vs0,g0,hS0,r0⟩:=l1.sto.lstOf e1
   rw[ha]at g0;cases g0
   refine⟨a,rfl,⟨vs0,hS0⟩,h1 μ1 _ H1 (aj _) eS.refl l1.sto fun i μ' bz H' pp xx S ck=>?_⟩
   obtain⟨a2,vs,g2,hS,r⟩:=S.lstOf (show lstOf bz n=some zs from ck)
   have:μ'[n]?=some a:=pre_get pp ha
   rw[g2]at this;cases this
   refine⟨fun w hw=>?_,fun hl=>⟨vs,hS,by rw[ji]at hl;rw[<- r.len];exact hl⟩⟩
   obtain⟨y,hy,rfl⟩:=lI hw
   obtain⟨v,g1,g3⟩:=r.get hy
   refine⟨⟨vs,v,hS,g1⟩,fun z H'' hz=>?_⟩
   obtain⟨q,hq,rfl,hH⟩:=hz
   have e:=hH vs v hS g1
   subst e
   have ex:=gp.same (K:=X.K) (cQ hq (.tup [.int i,v]))
   exact⟨ex,S.same (cQ hq _),.tupI gp.new (.consI .int (.consI (g3.mono (aj _) ex) .nilI))⟩
 ·exact h1.elim⟩
theorem Hh{kD:List Expr}{kk:Nat}{tp:Pos}(hm:X.mg "enumerate"=none)(ha:SA X [a] fs)(hg:Gl X "enumerate":=by rfl)(hs:starEach [a] X.env=[(false,eval a X.env)]:=by rfl) :
  SI X (.Tuple kD kk tp) (.Call (.Name "enumerate" p) [a] [] pos) (kg fs):=⟨fun ah s σ H Rr I h=>by
 walk_at "2"
 cases e1:fs ρ st with
 |bad=>simp only[kg,e1,R.bind_bad]at h;exact h.elim
 |ex c st1=>
  refine(yp hm ha hg hs).h ah s σ H Rr I ⟨μ,ρ,st,l,?_⟩
  simp only[kg,qH,e1,R.bind_ex]at h ⊢;exact h
 |ok ws st1=>
  simp only[kg,e1,R.bind_ok]at h
  split at h
  ·refine(yp hm ha hg hs).h ah s σ H Rr I ⟨μ,ρ,st,l,?_⟩
   simp only[qH,e1,R.bind_ok];exact h
  ·refine(Hg hm ha hg hs).h ah s σ H Rr I ⟨μ,ρ,st,l,?_⟩
   simp only[Dj,e1,R.bind_ok];exact h
  ·exact h.elim⟩
end
section
end
section
end
section
end
section
end
section
variable{w:World}
end
section
end
section
variable{q:Str}{pr:Arguments}{f':List Stmt}{sc:Scope}{P c:Addr}{xs:List Str}{g:Addr->Obj->FS}
end
section
variable{w:World}
end
section
variable{x:Str}{fs:FA}
end
section
variable{x:Str}{fs:FA}
end
section
variable{q:Str}{st:Stmt}{f':List Stmt}{P c:Addr}{xs:List Str}{g:Addr->Obj->FS}
variable{x:Str}{fs:FA}
end
section
variable{a:Expr}
end
end L2
namespace L2
open PySem PySem.Spec PyProof.Rows PySem.W
section
end
end L2
namespace L2
open PySem PySem.Spec PyProof.Rows
section
end
noncomputable abbrev lO(n:Nat):Option W:=some (.loc n)
noncomputable abbrev iO(z:Int):Option W:=some (.int z)
section
end
section
end
section
variable{q:Str}{pr:Arguments}{sc:Scope}{XW W3:Pos}{P:Addr}{xs:List Str}{X1:Stmt}
end
section
variable{c:Expr}{cs:List Expr}{Kd:Pos}{x y:Str}{fs:FA}{XN:Obj->Prop}{G:List W->List am->R (List W)}
variable{ea eb:Expr}
end
open AutoSeq1 (wpAny_loadPart')
section
variable{w:World}
variable{n c:Addr}{k:Nat}{xs ys zs:Array Value}{x y t:Value}
end
section
variable{w:World}
end
section
variable{a b c:Expr}{fs:FA}
end
section
variable{w:World}{d:Addr}{o:Obj}{es:Array DictEntry}
end
section
end
open AutoSeq1 (wpAny_loadPart')
section
end
section
variable{q:Str}{st:Stmt}{P c:Addr}{xs:List Str}
end
section
variable{w:World}{k:Nat}{x:Str}{st:Stmt}{f:Addr}{XN:Obj->Prop}{G:List W->List am->R (List W)}
end
section
variable{nm:List Str}{fi:Xn}{f:FG}
end
section
end
section
variable{w:World}
end
section
variable{nm:List Str}{f:FG}
end
section
variable{x:Str}
end
section
variable{w:World}{R:Result->Shared->Prop}{K:Type}[DecidableEq K]{knd:KeyKind prog w K}
end
section
variable{w:World}
variable{K:Type}[DecidableEq K]{knd:KeyKind prog w K}
end
theorem AA(kvs:List (DK×W))(k:DK)(v:W):(lS kvs k v).length<=kvs.length+1:=by
 unfold lS
 split
 ·simp
 ·simp
section
end
structure Qe(K:Frag)(mg:Str->Option Value)(c:Str)(fs:List Str):Prop where
 ex:∃C,mg c=some (.ref C)/\Cls K C/\∀f∈fs,qC K C f
noncomputable def og(st:List am):W->Option (Nat×Str×List (Str×W))
 |.loc n=>(match st[n]? with
  |some (.obj c fs)=>some (n,c,fs)
  |_=>none)
 |_=>none
noncomputable def ut(f:Str)(v:W):List (Str×W)->List (Str×W)
 |[]=>[(f,v)]
 |(g,x)::r=>if g=f then(g,v)::r else(g,x)::ut f v r
noncomputable abbrev fV(fs:List (Str×W))(vs:List V):List (Str×V):=(fs.map fun p=>p.1).zip vs
section
theorem rN(S:iN K mg μ st H){x:W}{v:V}{c:Str}{fs:List (Str×W)}(h:og st x=some (n,c,fs))(r:bD K μ H x v) :
  x=.loc n/\st[n]?=some (.obj c fs)/\∃a C dx vs,μ[n]?=some a/\v=.ref a/\mg c=some (.ref C)/\H a=some (.ins C dx (fV fs vs))/\RelWs K μ H (fs.map fun p=>p.2) vs:=by
 cases x with
 |loc m=>
  simp only[og]at h
  cases e:st[m]? with
  |none=>rw[e]at h;cases h
  |some cc=>
   rw[e]at h
   cases cc with
   |obj c' z=>
    cases h
    obtain⟨a,g,C,dx,vs,m1,k,rr⟩:=S.get e
    obtain⟨b,f,rfl⟩:=r.locE
    rw[g]at f;cases f
    exact⟨rfl,e,a,C,dx,vs,g,rfl,m1,k,rr⟩
   |_=>cases h
 |_=>cases h
theorem yz(f:Str):∀{fs:List (Str×W)} {vs:List V},RelWs K μ H (fs.map fun p=>p.2) vs->(∀w,fs.lookup f=some w->∃v,(fV fs vs).lookup f=some v/\bD K μ H w v)/\(fs.lookup f=none->(fV fs vs).lookup f=none)
 |[],vs,r=>⟨fun w h=>(by cases h),fun _=>rfl⟩
 |(g,x)::fs,vs,r=>by
  obtain⟨y,ys,rfl,a,b⟩:=RelWs.consE r
  have ih:=yz f (fs:=fs) b
  have e1:List.lookup f ((g,x)::fs)=(match f==g with|true=>some x|false=>fs.lookup f):=rfl
  have e2:List.lookup f (fV ((g,x)::fs) (y::ys))=(match f==g with|true=>some y|false=>(fV fs ys).lookup f):=rfl
  rw[e1,e2]
  cases f==g with
  |true=>exact⟨fun w h=>(by cases h;exact⟨y,rfl,a⟩),fun h=>(by cases h)⟩
  |false=>exact ih
theorem Hi(f:Str){w:W}{v:V}(qS:bD K μ H w v):∀{fs:List (Str×W)} {vs:List V},RelWs K μ H (fs.map fun p=>p.2) vs->∃us,oH f v (fV fs vs)=fV (ut f w fs) us/\RelWs K μ H ((ut f w fs).map fun p=>p.2) us
 |[],vs,r=>⟨[v],rfl,.consI qS .nilI⟩
 |(g,x)::fs,vs,r=>by
  obtain⟨y,ys,rfl,a,b⟩:=RelWs.consE r
  obtain⟨us,e,q⟩:=Hi f qS (fs:=fs) b
  show ∃us,(if g=f then(g,v)::fV fs ys else(g,y)::oH f v (fV fs ys))=_/\_
  by_cases h:g=f
  ·refine⟨v::ys,?_,?_⟩
   ·rw[au h];show _=fV (if g=f then(g,w)::fs else(g,x)::ut f w fs) _;rw[au h];rfl
   ·show RelWs K μ H ((if g=f then(g,w)::fs else(g,x)::ut f w fs).map fun p=>p.2) _
    rw[au h];exact .consI qS b
  ·refine⟨y::us,?_,?_⟩
   ·rw[ay h];show _=fV (if g=f then(g,w)::fs else(g,x)::ut f w fs) _;rw[ay h,e];rfl
   ·show RelWs K μ H ((if g=f then(g,w)::fs else(g,x)::ut f w fs).map fun p=>p.2) _
    rw[ay h];exact .consI a q
theorem gp.butI{l dx:Addr}{xs:List (Str×V)}(e:VC l H H')(hl:H l=some (.ins C dx xs)):eS K H H':=by
 have wZ:∀{p:Addr} {o:HO},H p=some o->(∀c d zs,o≠.ins c d zs)->p≠l:=fun{p o} q hn z=>by subst z;rw[hl]at q;cases q;exact hn _ _ _ rfl
 refine⟨fun p ys h=>?_,fun b o u h=>e _ _ (wZ h (fun _ _ _ z=>by cases z)) h⟩
 rcases h with(h|⟨o,h⟩)|h
 ·exact .inl (.inl (e _ _ (wZ h (fun _ _ _ z=>by cases z)) h))
 ·exact .inl (.inr ⟨o,e _ _ (wZ h (fun _ _ _ z=>by cases z)) h⟩)
 ·exact .inr h
theorem iN.setI(S:iN K mg μ st H){dx:Addr}{c:Str}{fs U':List (Str×W)}{xs:List (Str×V)}{us:List V}(hn:st[n]?=some (.obj c fs))(hm:μ[n]?=some a)(hc:mg c=some (.ref C))(ha:H a=some (.ins C dx xs))(hr:RelWs K μ H (U'.map fun p=>p.2) us) :
  iN K mg μ (st.set n (.obj c U')) (e_ H a (.ins C dx (fV U' us))):=
 S.setG hn rfl hm ha (fun _ _ z=>by cases z) (fun _ z=>by cases z) (gp.butI iS ha) rfl ⟨C,dx,us,hc,fg,hr.mono (aj _) (gp.butI iS ha)⟩
end
section
variable{a value:Expr}{c f m:Str}{fl:List Str}{fo:FE}{fs:FA}
def d7(c f:Str)(fa:FE):FE:=fun ρ st=>(fa ρ st).bind fun x st=>match og st x with
 |some (_,c',fs)=>if c'=c then sV (fs.lookup f) fun w=>.ok w st else .bad
 |none=>.bad
theorem Ui(hC:Qe X.K X.mg c fl)(ha:SE X a fa)(hf:f∈fl:=by decide)(hb:attributeBase a f X.env (eval a X.env)=eval a X.env:=by rfl):SE X (.Attribute a f pos) (d7 c f fa):=⟨(OZ ha.h hb).imp fun σ H Q h=>by
 walk_at "2"
 walk_at "1"
 cases e0:og st1 x with
 |none=>rw[e0]at h1;exact h1.elim
 |some nk=>
  obtain⟨n,c',fs⟩:=nk
  rw[e0]at h1
  simp only at h1
  obtain⟨rfl,hn,a,C,dx,vs,hm,rfl,hc,hI,rr⟩:=rN l1.sto e0 q1
  by_cases z:c'=c
  ·rw[au z]at h1
   subst z
   obtain⟨C',hc',cl,na⟩:=hC.ex
   rw[hc]at hc';cases hc'
   unfold sV at h1
   split at h1
   ·rename_i w ew
    obtain⟨v,ev,rv⟩:=(yz f rr).1 w ew
    exact⟨a,C,dx,_,v,rfl,hI,cl,na f hf,ev,h1 μ1 v H1 (aj _) eS.refl l1.sto rv⟩
   ·exact h1.elim
  ·rw[ay z]at h1;exact h1.elim⟩
def p5(c f:Str)(fo fe:FE):FS:=fun ρ st=>(fe ρ st).stmt ρ fun y st=>(fo ρ st).stmt ρ fun x st=>match og st x with
 |some (n,c',fs)=>if c'=c/\fs.length<900 then .nx ρ (st.set n (.obj c (ut f y fs)))else .bad
 |none=>.bad
theorem Qf(hC:Qe X.K X.mg c fl)(ho:SE X o fo)(he:SE X value fe)(hf:f∈fl:=by decide)(hs:swapsWith value (some (.Attribute o f ij)) pos.line X.env=pure false:=by rfl):SS X (.Assign [.Attribute o f ij] value pos) (p5 c f fo fe):=⟨(O_ ho.h he.h hs).imp fun D σ H h=>by
 walk_at "2"
 refine⟨μ,ρ,st,l,RK.stmt h l fun μ1 st1 y yv H1 p1 x1 l1 q1 h1=>⟨μ1,ρ,st1,l1,RK.stmt h1 l1 fun μ2 db x xv H2 p2 x2 l2 q2 h2=>?_⟩⟩
 cases e0:og db x with
 |none=>rw[e0]at h2;exact h2.elim
 |some nk=>
  obtain⟨n,c',fs⟩:=nk
  rw[e0]at h2
  simp only at h2
  obtain⟨rfl,hn,a,C,dx,vs,hm,rfl,hc,hI,rr⟩:=rN l2.sto e0 q2
  by_cases z:c'=c/\fs.length<900
  ·rw[au z]at h2
   obtain⟨z,hz⟩:=z
   subst z
   obtain⟨C',hc',cl,na⟩:=hC.ex
   rw[hc]at hc';cases hc'
   obtain⟨us,e1,r1⟩:=Hi f (q1.mono p2 x2) rr
   have dG:(fV fs vs).length<1000:=by
    unfold fV
    rw[List.length_zip,ak]
    omega
   refine⟨a,C,dx,_,rfl,hI,cl,na f hf,dG,?_⟩
   rw[e1]
   exact h2 μ2 σ _ (aj _) (gp.butI iS hI) (l2.to (aj _) (gp.butI iS hI) (l2.sto.setI hn hm hc hI r1))
  ·rw[ay z]at h2;exact h2.elim⟩
structure lu(P:Program)(w:World)(K:Frag)(mg:Str->Option Value)(base:Heap)(k:Nat)(c m:Str)(n:Nat)(F:List W->List am->R W):Prop where
 ex:∃(C g:Addr) (fd:FuncData) (ps:List Str),mg c=some (.ref C)/\Cls K C/\SJ K C m g/\ps.length=n/\p9 K fd ps []/\c_ P w K mg base (iE P w) k g fd ps (i8 K mg n F)
theorem lu.mono{w:World}{k:Nat}(h:lu P w K mg base j c m n F)(hj:j<=k):lu P w K mg base k c m n F:=by
 obtain⟨C,g,fd,ps,a,b,b2,c,d,e⟩:=h.ex
 exact⟨C,g,fd,ps,a,b,b2,c,d,e.mono hj⟩
def kt(c m:Str)(n:Nat)(F:List W->List am->R W)(fo:FE)(fs:FA):FE:=fun ρ st=>(fo ρ st).bind fun x st=>match og st x with
 |some (_,c',fl)=>if c'=c/\fl.lookup m=none then(fs ρ st).bind fun ws st=>if ws.length+1=n then F (x::ws) st else .bad else .bad
 |none=>.bad
theorem Qg{k k':Nat}{pl:Sem Bool}(Fn:lu X.prog X.w X.K X.mg X.base k c m n F)(hr:h_ k' X.A)(hk:k<=k')(ho:SE X o fo)(ha:SA X (e::es) fs)
  (nA:starEach (e::es) X.env=(false,eval e X.env)::starEach es X.env:=by rfl) (qY:(backTo pos (starEach es X.env)).any (·.1)=false:=by rfl)
  (ht:eval (.Call (.Attribute o m fI) (e::es) [] pos) X.env=(do
   let ov <- eval o X.env
   standAt fI.atName
   let (f,fst') <- holding [ov] (getMethod ov m pl)
   callWith pos f fst' (backTo pos (starEach (e::es) X.env)) (backToKw pos (keywordEach [] X.env))):=by rfl):SE X (.Call (.Attribute o m fI) (e::es) [] pos) (kt c m n F fo fs):=⟨by
 intro ah s σ H Q I h
 obtain⟨C,g,fd,ps,hc,cl,hm,hn,hb,Fo⟩:=(Fn.mono hk).ex
 walk_at "2"
 have h':tE X fo σ H fun x H1=>∃(a dx:Addr) (xs:List (Str×V)),x=.ref a/\H1 a=some (.ins C dx xs)/\xs.lookup m=none/\Tp X fs σ H1 fun vs H2=>∃μ2 db ws,Rl X μ2 ρ db σ H2/\RelWs X.K μ2 H2 ws (.ref a::vs)/\ws.length=n/\RK X (sQ X) μ2 σ H2 Q (F ws db):=by
  walk_at "1"
  cases e0:og st1 x with
  |none=>rw[e0]at h1;exact h1.elim
  |some nk=>
   obtain⟨i,c',fl⟩:=nk
   rw[e0]at h1
   simp only at h1
   obtain⟨rfl,hi,a,C',dx,vs,hma,rfl,hc',hI,rr⟩:=rN l1.sto e0 q1
   by_cases z:c'=c/\fl.lookup m=none
   ·rw[au z]at h1
    obtain⟨z,hz⟩:=z
    subst z
    rw[hc]at hc';cases hc'
    refine⟨a,dx,_,rfl,hI,(yz m rr).2 hz,μ1,ρ,st1,l1,RK.bind h1 l1 fun μ2 db ws vs2 H2 p2 x2 l2 q2 h2=>?_⟩
    by_cases y:ws.length+1=n
    ·rw[au y]at h2
     exact⟨μ2,db,.loc i::ws,l2,.consI (q1.mono p2 x2) q2,y,h2⟩
    ·rw[ay y]at h2;exact h2.elim
   ·rw[ay z]at h1;exact h1.elim
 refine PySem.W.methodCall_KW (pl:=pl) (gG (ho.h ah s σ H _ I h') fun u s1 zq=>?_) ht
 obtain⟨x,H1,I1,rx,a,dx,xs,ex,ea,lk,q⟩:=zq
 subst ex
 obtain rfl:u=Value.ref a:=rx
 refine u5 I1 ea cl hm lk ?_
 refine PySem.W.callWith_K (first:=[.ref a]) (h₀:=X.base) I.ok.mod.kin hm.kp (gG (ha.h pos ah s1 σ H1 _ I1 q) fun us s2 zq=>?_) nA qY
 obtain⟨vs,H2,I2,r,μ2,db,ws,l2,r2,y,q2⟩:=zq
 refine⟨I2.kIn,?_⟩
 exact G4 (us:=.ref a::us) (vs:=.ref a::vs) Fo hn hr hb I2 l2.sto r2 (.cons rfl r) y q2⟩
theorem LJ{k k':Nat}(Fn:lu X.prog X.w X.K X.mg X.base k c m 1 F)(hr:h_ k' X.A)(hk:k<=k')(ho:SE X o fo)
  (ht:eval (.Call (.Attribute o m fI) [] [] pos) X.env=(do
   let ov <- eval o X.env
   standAt fI.atName
   let (f,fst') <- holding [ov] (getMethod ov m pl)
   callWith pos f fst' (backTo pos (starEach [] X.env)) (backToKw pos (keywordEach [] X.env))):=by rfl):SE X (.Call (.Attribute o m fI) [] [] pos) (kt c m 1 F fo aA):=⟨by
 intro ah s σ H Q I h
 obtain⟨C,g,fd,ps,hc,cl,hm,hn,hb,Fo⟩:=(Fn.mono hk).ex
 walk_at "2"
 have h':tE X fo σ H fun x H1=>∃(a dx:Addr) (xs:List (Str×V)),x=.ref a/\H1 a=some (.ins C dx xs)/\xs.lookup m=none/\∃μ2 db ws,Rl X μ2 ρ db σ H1/\RelWs X.K μ2 H1 ws [.ref a]/\ws.length=1/\RK X (sQ X) μ2 σ H1 Q (F ws db):=by
  walk_at "1"
  cases e0:og st1 x with
  |none=>rw[e0]at h1;exact h1.elim
  |some nk=>
   obtain⟨i,c',fl⟩:=nk
   rw[e0]at h1
   simp only at h1
   obtain⟨rfl,hi,a,C',dx,vs,hma,rfl,hc',hI,rr⟩:=rN l1.sto e0 q1
   by_cases z:c'=c/\fl.lookup m=none
   ·rw[au z]at h1
    obtain⟨z,hz⟩:=z
    subst z
    rw[hc]at hc';cases hc'
    exact⟨a,dx,_,rfl,hI,(yz m rr).2 hz,μ1,st1,[.loc i],l1,.consI q1 .nilI,rfl,h1⟩
   ·rw[ay z]at h1;exact h1.elim
 refine PySem.W.methodCall_KW (pl:=pl) (gG (ho.h ah s σ H _ I h') fun u s1 zq=>?_) ht
 obtain⟨x,H1,I1,rx,a,dx,xs,ex,ea,lk,μ2,db,ws,l2,r2,y,q2⟩:=zq
 subst ex
 obtain rfl:u=Value.ref a:=rx
 refine u5 I1 ea cl hm lk ?_
 exact PySem.W.callWith_K0 (first:=[.ref a]) I1.kIn hm.kp (G4 (us:=[.ref a]) (vs:=[.ref a]) Fo hn hr hb I1 l2.sto r2 (.cons rfl .nil) y q2)⟩
structure Fc(P:Program)(w:World)(K:Frag)(mg:Str->Option Value)(base:Heap)(k:Nat)(c:Str)(n:Nat)(F:List W->List am->R W):Prop where
 ex:∃(C g:Addr) (fd:FuncData) (ps:List Str),mg c=some (.ref C)/\Mk K C g/\ps.length=n/\p9 K fd ps []/\c_ P w K mg base (iE P w) k g fd ps (i8 K mg n F)
def vE(c:Str)(n:Nat)(F:List W->List am->R W)(fs:FA):FE:=fun ρ st=>(fs ρ st).bind fun ws st=>if ws.length+1=n then(match F (.loc st.length::ws) (st++[.obj c []])with
  |.ok .non bz=>.ok (.loc st.length) bz
  |_=>.bad)else .bad
theorem Qh{k k':Nat}(Fn:Fc X.prog X.w X.K X.mg X.base k c n F)(hr:h_ k' X.A)(hk:k+1<=k')(ha:SA X (e::es) fs)(hg:Gl X c:=by rfl)(J7:(c==("__debug__":Str))=false:=by decide)
  (he:starEach (e::es) X.env=(false,eval e X.env)::starEach es X.env:=by rfl) (qY:(backTo pos (starEach es X.env)).any (·.1)=false:=by rfl):SE X (.Call (.Name c p) (e::es) [] pos) (vE c n F fs):=⟨by
 intro ah s σ H Q I h
 obtain⟨C,g,fd,ps,hc,M,hn,hb,Fo⟩:=Fn.ex
 refine fK (uN I hg hc ?_ J7)
 walk_at "2"
 have h':Tp X fs σ H fun vs H1=>∃μ1 st1 ws db,Rl X μ1 ρ st1 σ H1/\RelWs X.K μ1 H1 ws vs/\ws.length+1=n/\F (.loc st1.length::ws) (st1++[.obj c []])=.ok .non db/\RK X (sQ X) μ1 σ H1 Q (.ok (.loc st1.length) db):=by
  walk_at "1"
  by_cases y:x.length+1=n
  ·rw[au y]at h1
   split at h1
   ·rename_i db e2
    exact⟨μ1,st1,x,db,l1,q1,y,e2,h1⟩
   ·exact h1.elim
  ·rw[ay y]at h1;exact h1.elim
 refine PySem.W.callWith_K (h₀:=X.base) I.ok.mod.kin M.kp (gG (ha.h pos ah s σ H _ I h') fun us s1 zq=>?_) he qY
 obtain⟨vs,H1,I1,r,μ1,st1,ws,db,l1,r1,y,e2,q⟩:=zq
 refine⟨I1.kIn,?_⟩
 refine F9 (dvs:=[]) (ds:=[]) (E:=fun _ _ _=>False) M Fo (hr.mono hk) hb .nil (fun ah σ H s e s' I hq=>by obtain⟨_,_,_,_,_,_,z,_⟩:=hq;exact z.elim) I1 r fun x dx hx hdx wZ=>?_
 have hs1:ul H1 (e_ H1 dx (.own x)):=cQ hdx _
 have hx1:(e_ H1 dx (.own x)) x=none:=by rw[cE (Ne.symm wZ)];exact hx
 have Bz:ul (e_ H1 dx (.own x)) (e_ (e_ H1 dx (.own x)) x (.ins C dx [])):=cQ hx1 _
 have xt:eS X.K H1 (e_ (e_ H1 dx (.own x)) x (.ins C dx [])):=(gp.same hs1).trans (gp.same Bz)
 have S2:iN X.K X.mg (μ1++[x]) (st1++[.obj c []]) (e_ (e_ H1 dx (.own x)) x (.ins C dx [])):=(l1.sto.same hs1).push (c:=.obj c []) hx1 ⟨C,dx,[],hc,fg,.nilI⟩
 have hmx:(μ1++[x])[st1.length]?=some x:=by rw[l1.sto.len];simp
 refine⟨by rw[bC,a_,<- r1.len];exact y,μ1++[x],.loc st1.length::ws,st1++[.obj c []],S2,.consI (.locI hmx) (by rw[bC];exact r1.mono (bp _ _) xt),?_⟩
 rw[e2]
 intro μ' v H' pp xx S' rv
 exact⟨rv.nonE,q μ' (.ref x) H' ((bp _ _).trans pp) (xt.trans xx) S' (.locI (L2.pre_get pp hmx))⟩⟩
end
noncomputable def mq:Stmt->List Stmt
 |.ClassDef _ _ _ b _ _ _ _ _ _ _=>b
 |_=>[]
inductive DefM(K:Frag)(C:Addr)(q m:Str)(st:Stmt):Prop
 |mk {ad:Addr} {od an:Option Addr} {sl:Array (Option Value)} {oc kV dc pm cd ct:Value} (a:findIn K (.ref C) m=some (some (.ref ad))) (i:isFn K (.ref ad)=true)
   (l:K.lookup ad=some ⟨oc,od,.func (fnOf m q (ic st) (gs st) (aK st) .none kV dc pm an cd ct),sl⟩) (c:codeIn K cd q=true) (k:keepIn K (.ref ad)=true):DefM K C q m st
section
variable{w:World}{k:Nat}{c q m:Str}{st:Stmt}
theorem qI(d:DefM K C q m st)(hC:mg c=some (.ref C))(cl:Cls K C)(ok:∀{f:Addr} {fd:FuncData},iZ K m q st f fd->c_ P w K mg base (iE P w) k f fd ps (i8 K mg n G))(hn:ps.length=n:=by rfl)
  (hb:∀(kV sK pm:Value) (an:Option Addr) (fO ct:Value) (us:List Value),us.length=ps.length->bindArgs (fnOf m q (ic st) (gs st) (aK st) .none kV sK pm an fO ct) ⟨us,[]⟩=pure (ps.zip us):=by(intro _ _ _ _ _ _ _ q;(repeat(have k:=Ug q;clear q;obtain⟨_,_,rfl,q⟩:=k));cases List.eq_nil_of_length_eq_zero q;rfl)):lu P w K mg base k c m n G:=by
 obtain⟨a,i,l,cc,kk⟩:=d
 exact⟨C,_,_,ps,hC,cl,⟨a,i,kk⟩,hn,p9.all fun us hl=>hb _ _ _ _ _ _ us hl,ok (yc (st:=st) l cc kk)⟩
theorem Qi(d:DefM K C q "__init__" st)(hC:mg c=some (.ref C))(mk:makesIn K C=true)(kc:keepIn K (.ref C)=true)(ok:∀{f:Addr} {fd:FuncData},iZ K "__init__" q st f fd->c_ P w K mg base (iE P w) k f fd ps (i8 K mg n G))(hn:ps.length=n:=by rfl)
  (hb:∀(kV sK pm:Value) (an:Option Addr) (fO ct:Value) (us:List Value),us.length=ps.length->bindArgs (fnOf "__init__" q (ic st) (gs st) (aK st) .none kV sK pm an fO ct) ⟨us,[]⟩=pure (ps.zip us):=by(intro _ _ _ _ _ _ _ q;(repeat(have k:=Ug q;clear q;obtain⟨_,_,rfl,q⟩:=k));cases List.eq_nil_of_length_eq_zero q;rfl)):Fc P w K mg base k c n G:=by
 obtain⟨a,i,l,cc,kk⟩:=d
 exact⟨C,_,_,ps,hC,⟨mk,a,i,kc⟩,hn,p9.all fun us hl=>hb _ _ _ _ _ _ us hl,ok (yc (st:=st) l cc kk)⟩
end
theorem AB:entryFor table "dict_itemiterator.__iter__"=some Builtin.«dict_keyiterator.__iter__»:=l5 (id':="dict_keyiterator.__iter__") (by kernel_rfl) (by first|rfl|decide +kernel|(unfold String.splitOn;simp +decide [String.splitOnAux])) #[13] (by kernel_rfl)
theorem Hj{w:World}{d:Addr}{ok ov:Value}(jD:IsItemIter s.heap it d i n ep ok ov)(q:Q (.ref it) s):wpAny #[5] A (pyIter (.ref it)) Q E s:=by
 have T:s.TypeIs (.ref it) "dict_itemiterator":=⟨_,jD,rfl⟩
 exact jL T PySem.F.slot_dict_itemiterator_iter (br PySem.F.slot_dict_itemiterator_iter T AB (aq ⟨_,rfl,"dict_itemiterator",_,T,PySem.F.slot_dict_itemiterator_next.lookup,q⟩) (PySem.F.args_dict_itemiterator_iter_1 _))
theorem KV.at_{κ:Type}{kvs:List (κ×V)}{vs:List (κ×Value)}(k:KV kvs vs):∀{i:Nat} {p:κ×V} {q:κ×Value},kvs[i]?=some p->vs[i]?=some q->p.1=q.1/\cL p.2 q.2:=by
 unfold KV at k
 induction k with
 |nil=>intro i p q h;simp at h
 |cons h t ih=>
  intro i p q h1 h2
  cases i with
  |zero=>simp at h1 h2;subst h1 h2;exact h
  |succ i=>exact ih (by simpa using h1) (by simpa using h2)
def R7(a:Addr)(o:Obj)(kvs:List (jQ×V)):It where
 go:=fun i H=>H a=some (.frz o (.dK kvs))/\i<kvs.length
 yld:=fun i H x H'=>∃p q,kvs[i]?=some q/\H p=none/\x=.ref p/\H'=e_ H p (.tup [kV q.1,q.2])
 stop:=fun i H=>H a=some (.frz o (.dK kvs))/\kvs.length<=i
theorem Cd{w:World}(a it:Addr)(o:Obj)(kvs:List (jQ×V)):x5 P w K (.Tuple kD kk pos) (R7 a o kvs) [it] it (fun i h=>∃ok ov,IsItemIter h it a i kvs.length (Fb o) ok ov) where
 mem:=by simp
 obj:=fun i h st b hb=>by
  have e:b=it:=by simpa using hb
  subst e
  obtain⟨_,_,e⟩:=st
  exact⟨_,e,fun v z=>by cases z⟩
 keep:=fun i h h' st k=>let ⟨x,y,e⟩:=st;⟨x,y,k it #[9] _ e⟩
 item:=by
  intro X hP hw hK hc i ah s σ H E I hf st hg
  subst hP hw hK
  obtain⟨ha,hi⟩:=hg
  obtain⟨ok,ov,st⟩:=st
  obtain⟨vs,rel,_,dd⟩:=Cb I ha
  have dG:kvs.length=vs.length:=rel.length
  obtain⟨f0,f1,f2,f3,f4,f5⟩:=hf it (by simp)
  obtain⟨⟨k,y⟩,hy⟩:∃p,vs[i]?=some p:=⟨_,ae #[0]⟩
  obtain⟨⟨k',x⟩,hx⟩:∃p,kvs[i]?=some p:=⟨_,ae hi⟩
  obtain⟨ek,rxy⟩:=rel.at_ hx hy
  have ek:k'=k:=ek
  subst ek
  rw[dG]at st
  refine wpAny_pyNext_items_item st dd hy fun key h' hk out htup hsz kp=>⟨_,rfl,?_⟩
  refine wpAny_letOwnedTupleGo_items out fun g2 db sb=>?_
  have wG:H s.heap.objs.size=none:=I.hok.fresh (ax _)
  have I1:bK X ah σ (e_ H s.heap.objs.size (.tup [kV k',x])) { s with heap:=s.heap.push { cls:=.type "tuple",data:=.seq #[key,y] } }:=I.laid (t':=s.toks) (fun b o q=>al _ q) (ax _)
   ⟨by show 2<=sizeLine;decide,[key,y],.cons (LF hk) (.cons rxy .nil),⟨_,ar _ rfl,rfl,_,rfl⟩⟩
  have nit:it≠s.heap.objs.size:=a8 (aD st)
  have I2:bK X ah σ (e_ H s.heap.objs.size (.tup [kV k',x])) { s with heap:=g2 }:=bK.turned (s:={ s with heap:=s.heap.push { cls:=.type "tuple",data:=.seq #[key,y] } }) (it:=it) (t':=s.toks) I1 (fun b o hb q=>?_) (by rw[cE nit];exact f0) f1 f3 f4 f5
  ·exact⟨.ref s.heap.objs.size,_,I2,rfl,⟨_,(k',x),hx,wG,rfl,rfl⟩,⟨_,_,by rw[dG];exact db⟩,fun b hb=>by
    have e:b=it:=by simpa using hb
    subst e
    rw[cE nit];exact f0⟩
  ·have q':(s.heap.push { cls:=.type "tuple",data:=.seq #[key,y] }).get? b=some o:=q
   refine sb.extBut b o hb ?_
   by_cases hb2:b=s.heap.objs.size
   ·subst hb2
    have e1:=ar s.heap (o:={ cls:=.type "tuple",data:=.seq #[key,y] }) rfl
    rw[e1]at q';cases q'
    exact htup
   ·rw[jH _ _ _ hb2]at q'
    exact kp b o hb q'
 done:=by
  intro X hP hw hK hc i ah s σ H E I hf st hg
  subst hP hw hK
  obtain⟨ha,hi⟩:=hg
  obtain⟨ok,ov,st⟩:=st
  obtain⟨vs,rel,_,dd⟩:=Cb I ha
  have dG:kvs.length=vs.length:=rel.length
  obtain⟨f0,f1,f2,f3,f4,f5⟩:=hf it (by simp)
  rw[dG]at st
  exact wpAny_pyNext_items_end (I.ok.hd hc) st dd (by rw[az];omega) fun h' eb=>⟨rfl,I.turned (t':=s.toks) (fun b o hb e=>eb b o hb e) f0 f1 f3 f4 f5⟩
 self:=fun _ _ _ _ _ st h=>let ⟨_,_,e⟩:=st;Hj e h
def Qj(te:TE):TI:=fun σ H R=>te σ H fun x H1=>∃a kvs,x=.ref a/\((H1 a=some (.dK kvs)/\∀o,R (R7 a o kvs) (e_ H1 a (.frz o (.dK kvs))))\/∃o,H1 a=some (.frz o (.dK kvs))/\R (R7 a o kvs) H1)
theorem Hk{kD:List Expr}{kk:Nat}{tp fI dM:Pos}(he:PE X o te)(kE:attributeBase o "items" X.env (eval o X.env)=eval o X.env:=by rfl)(kG:(fI.endLine==dM.line)=true:=by rfl) :
  PI X (.Tuple kD kk tp) (.Call (.Attribute o "items" fI) [] [] dM) (Qj te):=fun ah s σ H R I h=>by
 refine nh kE kG (gG (he ah s σ H _ I h) fun u s1 hh=>?_)
 obtain⟨x,H1,I1,rx,a,kvs,rfl,hc⟩:=hh
 obtain rfl:u=Value.ref a:=rx
 have walk:∀(o:Obj) (H2:Hp),bK X ah σ H2 s1->H2 a=some (.frz o (.dK kvs))->R (R7 a o kvs) H2->MethodOn X.prog X.w X.A "items" dM (.ref a) [] (fun v s2=>wpAny #[4] X.A (pyIter v) (Vz X ah σ (.Tuple kD kk tp) R) X.xe s2) X.xe s1:=fun o H2 I2 ha q=>by
  obtain⟨vs,rel,hs,dd⟩:=Cb I2 ha
  have dG:kvs.length=vs.length:=rel.length
  obtain⟨ob,es,e1,e2,e3,e4⟩:=id dd
  have hof:s1.heap.DictOf (eQ X.prog X.w) a vs:=⟨ob,es,_,e1,e2,e3,e4⟩
  refine⟨"dict","dict.items",PySem.F.plainAttrs_dict,PySem.F.slot_dict_items,PySem.F.type_dict_items,⟨ob,e1,e2.1⟩,fun b z=>by cases z;exact⟨ob,e1,e2.2.1⟩,gE rfl (PySem.evalArgs_none ?_)⟩
  refine sH PySem.F.slot_dict_items hof.typeIs PySem.F.entry_dict_items (PySem.F.args_dict_items_1 _) (meets_dict_items (eQ X.prog X.w) a hs) ⟨⟨vs,hof⟩,?_⟩
  have k1:∀b o',s1.heap.get? b=some o'->(s1.heap.push { cls:=.type "dict_items",data:=.fields #[.ref a] }).get? b=some o':=fun b o' e=>al _ e
  refine wpAny_pyIter_items (knd:=eQ X.prog X.w) (d:=a) (kvs:=vs) (ep:=Fb o) ⟨_,ar _ rfl,rfl,rfl⟩ ⟨ob,es,k1 _ _ e1,e2,e3,e4⟩ ?_
  have n1:(s1.heap.push { cls:=.type "dict_items",data:=.fields #[.ref a] }).objs.size=s1.heap.objs.size+1:=bA ..
  refine⟨s1.heap.objs.size+1,[s1.heap.objs.size+1],_,R7 a o kvs,H2,by rw[n1],I2.kept (t':=s1.toks) fun b o' e=>al _ (k1 b o' e),Cd a _ o kvs,?_,fun b hb=>?_,q⟩
  ·have:=ar (s1.heap.push { cls:=.type "dict_items",data:=.fields #[.ref a] }) (o:={ cls:=.type "dict_itemiterator",data:=.fields #[.none,.bool false,.ref a,.int 0 0,.int vs.length 0,.int (Fb o) 0,.none,.none] }) rfl
   rw[n1]at this
   exact⟨_,_,by rw[dG];exact this⟩
  ·have e:b=s1.heap.objs.size+1:=by simpa using hb
   subst e
   exact I2.fpOk (d9 _) (I2.hok.fresh (d9 _))
 rcases hc with⟨ha,q⟩|⟨o,ha,q⟩
 ·obtain⟨_,_,vs,_,o,es,ep,ho,_⟩:=Mu I1.hok ha
  exact walk o _ (I1.freeze ha ho) fg (q o)
 ·exact walk o H1 I1 ha q
def rO(fe:FE):FI:=fun ρ st=>(fe ρ st).bind fun x st=>match gq st x with
 |some (n,kvs)=>.ok (kvs.map (fun p=>.tup [p.1.w,p.2]),none) (st.set n (.rod kvs))
 |none=>.bad
theorem Hl{kD:List Expr}{kk:Nat}{tp fI dM:Pos}(he:SE X o fe)(kE:attributeBase o "items" X.env (eval o X.env)=eval o X.env:=by rfl)(kG:(fI.endLine==dM.line)=true:=by rfl) :
  SI X (.Tuple kD kk tp) (.Call (.Attribute o "items" fI) [] [] dM) (rO fe):=⟨(Hk he.h kE kG).imp fun σ H R h=>by
 walk_at "2"
 walk_at "1"
 cases e:gq st1 x with
 |none=>rw[e]at h1;exact h1.elim
 |some nk=>
  obtain⟨n,kvs⟩:=nk
  rw[e]at h1
  simp only at h1
  obtain⟨a,vs,hn,hm,rfl,ha,r⟩:=rK l1.sto e q1
  have wk:∀(o:Obj) (H2:Hp),eS X.K H1 H2->H2 a=some (.frz o (.dK (dV kvs vs)))->yn X (R7 a o (dV kvs vs)) (kvs.map (fun p=>.tup [p.1.w,p.2]),none) μ1 H2:=fun o H2 x2 hz i μ' bz H' pm xm S _=>by
   have hz':=xm.z _ _ _ hz
   have dG:(dV kvs vs).length=kvs.length:=Hb r
   refine⟨fun w hw=>?_,fun hi=>⟨hz',by rw[dG];simpa using hi⟩⟩
   rw[ag]at hw
   obtain⟨p,hp,rfl⟩:=aC.mp hw
   refine⟨⟨hz',by rw[dG];exact(ac.mp hp).1⟩,fun x H'' hy=>?_⟩
   obtain⟨pa,q,hq,wG,rfl,rfl⟩:=hy
   have hq2:=List.getElem?_zip_eq_some.mp (show((kvs.map fun p=>p.1.key).zip vs)[i]?=some (q.1,q.2)from hq)
   have ek:q.1=p.1.key:=by
    have:=hq2.1
    rw[ag,hp]at this
    exact(aG this).symm
   obtain⟨v',V6,rv⟩:=(r.mono pm (x2.trans xm)).get (show(kvs.map fun p=>p.2)[i]?=some p.2 by rw[ag,hp];rfl)
   have ev:v'=q.2:=by rw[hq2.2]at V6;exact(aG V6).symm
   subst ev
   have ex:=gp.same (K:=X.K) (cQ wG (.tup [kV q.1,q.2]))
   refine⟨ex,S.same (cQ wG _),.tupI gp.new (.consI ?_ (.consI (rv.mono (aj _) ex) .nilI))⟩
   rw[ek];exact DK.w_rel _
  refine⟨a,dV kvs vs,rfl,?_⟩
  rcases hn with hn|hn
  ·have hd:H1 a=some (.dK (dV kvs vs)):=by
    obtain⟨a',g,Br,k,_⟩:=l1.sto.get hn
    rw[hm]at g;cases g
    rcases ha with ha|⟨o,ha⟩
    ·exact ha
    ·rw[k]at ha;cases ha
   refine .inl ⟨hd,fun o=>?_⟩
   have hx:eS X.K H1 (e_ H1 a (.frz o (.dK (dV kvs vs)))):=gp.butD iS hd
   have S2:iN X.K X.mg μ1 (st1.set n (.rod kvs)) (e_ H1 a (.frz o (.dK (dV kvs vs)))):=l1.sto.setG hn rfl hm hd (fun _ _ z=>by cases z) (fun _ z=>by cases z) hx rfl ⟨vs,o,fg,r.mono (aj _) hx⟩
   exact h1 μ1 _ _ (aj _) hx S2 (wk o _ hx fg)
  ·have hd:∃o,H1 a=some (.frz o (.dK (dV kvs vs))):=by
    obtain⟨a',g,Br,o,k,_⟩:=l1.sto.get hn
    rw[hm]at g;cases g
    rcases ha with ha|ha
    ·rw[k]at ha;cases ha
    ·exact ha
   obtain⟨o,hd⟩:=hd
   refine .inr ⟨o,hd,?_⟩
   rw[Hd hn]at h1
   exact h1 μ1 _ _ (aj _) eS.refl l1.sto (wk o _ eS.refl hd)⟩
open AutoSeq1 (wpAny_loadPart')
abbrev oh(h:Heap)(T:Addr)(a b:Value):Prop:=h.get? T=some { cls:=.type "tuple",data:=.seq #[a,b] }
def nG(c:Bool)(h:Heap)(n a:Addr)(k:Nat):Prop:=bif c then h.IsListIter n a k else h.IsTupleIter n a k
def ku(c:Bool)(h:Heap)(a:Addr)(xs:Array Value):Prop:=bif c then h.IsList a xs else h.IsTuple a xs
section
variable{c:Bool}{n d:Addr}{k:Nat}{xs:Array Value}
theorem nG.at(q:nG c h n a k)(e:∀o,h.get? n=some o->h'.get? n=some o):nG c h' n a k:=by
 cases c
 ·exact Heap.IsTupleIter.at q e
 ·exact Heap.IsListIter.at q e
theorem ku.at(q:ku c h a xs)(e:∀o,h.get? a=some o->h'.get? a=some o):ku c h' a xs:=by
 cases c
 ·exact Heap.IsTuple.at q e
 ·exact Heap.IsList.at q e
theorem nG.extBut(q:nG c h n a k)(e:Heap.ExtBut d h h')(hn:n≠d):nG c h' n a k:=q.at fun o=>e _ o hn
theorem ku.extBut(q:ku c h a xs)(e:Heap.ExtBut d h h')(hn:a≠d):ku c h' a xs:=q.at fun o=>e _ o hn
theorem nG.ex(q:nG c h n a k):∃o,h.get? n=some o/\∀v,o.data≠.cell v:=by
 cases c
 ·obtain⟨o,e,_,d⟩:h.IsTupleIter n a k:=q
  exact⟨o,e,fun v z=>by rw[d]at z;cases z⟩
 ·obtain⟨o,e,_,d⟩:h.IsListIter n a k:=q
  exact⟨o,e,fun v z=>by rw[d]at z;cases z⟩
noncomputable abbrev rP(c:Bool)(t:Addr):Obj:={ cls:=.type (bif c then "list_iterator" else "tuple_iterator"),data:=.fields #[.ref t,.int 0 0] }
theorem nG.new(e:h.get? n=some (rP c a)):nG c h n a 0:=by
 cases c
 ·exact⟨_,e,rfl,rfl⟩
 ·exact⟨_,e,rfl,rfl⟩
end
section
variable{w:World}{c:Bool}
theorem yA{l:Addr}{xs:Array Value}{x:Value}(h:nG c s.heap it l i)(hs:ku c s.heap l xs)(hx:xs[i]?=some x)
  (hQ:∀g,nG c g it l (i+1)->Heap.SameBut it s.heap g->Q x { s with heap:=g }):wpAny #[5] A (Builtin.SmallTypes.nextOf (.ref it)) Q E s:=by
 cases c
 ·exact qa h hs hx hQ
 ·exact wpAny_nextOf_list_item h hs hx hQ
theorem Hm{l:Addr}{xs:Array Value}(hh:A.handled=none)(h:nG c s.heap it l i)(hs:ku c s.heap l xs)(hx:xs[i]?=none)
  (hQ:∀g e,Heap.ExtBut it s.heap g->(∃o,g.get? e=some o/\o.cls=.type "StopIteration")->E (.ref e) { s with heap:=g }):wpAny #[5] A (Builtin.SmallTypes.nextOf (.ref it)) Q E s:=by
 cases c
 ·exact nC hh h hs hx hQ
 ·exact oV hh h hs hx hQ
theorem Ho{l:Addr}{xs:Array Value}(hs:ku c s.heap l xs)(hQ:Q (.ref s.heap.objs.size) { s with heap:=s.heap.push (rP c l) }):wpAny #[5] A (pyIter (.ref l)) Q E s:=by
 cases c
 ·exact gD hs hQ
 ·exact gX hs hQ
theorem yB{T:Addr}{a b x:Value}{k:Nat}{Q:Unit->Shared->Prop}(hT:oh s.heap T a b)
  (h:∀h',h'.get? T=some { cls:=.type "tuple",data:=.seq ((#[a,b]:Array Value).setIfInBounds k x) }->Heap.SameBut T s.heap h'->Q () { s with heap:=h' }) :
  wpAny #[5] A (updateSeq T (·.setIfInBounds k x)) Q E s:=by
 refine oE hT rfl (h _ ?_ (fj ..))
 rw[cF _ hT rfl]
 simp[Obj.mapSeq]
structure ZM(c1 c2:Bool)(h:Heap)(n a b:Addr)(k:Nat)(f:Value):Prop where
 z:IsZip h (n+4) (n+2) (n+3) f
 P:oh h (n+2) (.ref n) (.ref (n+1))
 O:∃u v,oh h (n+3) u v
 i:nG c1 h n a k
 j:nG c2 h (n+1) b k
variable{c1 c2:Bool}{n:Addr}{k:Nat}{xs ys:Array Value}{x y:Value}
theorem LK(ha:a<n)(hb:b<n)(q:ZM c1 c2 s.heap n a b k .none)(la:ku c1 s.heap a xs)(lb:ku c2 s.heap b ys)
  (hx:xs[k]?=some x) (hy:ys[k]?=some y)
  (hQ:∀g,ZM c1 c2 g n a b (k+1) (rawInt s.heap.objs.size)->oh g s.heap.objs.size x y ->
   (∀d o,d≠n+4->d≠n+3->d≠n->d≠n+1->s.heap.get? d=some o->g.get? d=some o)->Q (.ref s.heap.objs.size) { s with heap:=g }) :
  wpAny #[5] A (Builtin.«zip.__next__» ⟨[.ref (n+4)],[]⟩) (fun fin s'=>∃v,fin=.done (.ret v)/\Q v s') E s:=by
 obtain⟨qz,qP,⟨u0,v0,qO⟩,q1,q2⟩:=q
 have N:∀{p q:Nat},p≠q->n+p≠n+q:=fun h e=>h (fq e)
 have M:∀{d p:Nat},d<n->d≠n+p:=fun h=>a8 (aL h (Nat.le_add_right _ _))
 show wpAny _ _ (field (.ref (n+4)) 2 >>= _) _ _ _
 refine aa (b9 qz rfl (x:=.bool false) rfl ?_)
 show wpAny _ _ (field (.ref (n+4)) 3 >>= _) _ _ _
 refine aa (b9 qz rfl (x:=.ref (n+2)) rfl (aa (dR qP rfl ?_)))
 show wpAny _ _ (Builtin.SmallTypes.ownedTupleIsFree (.ref (n+4)) >>= _) _ _ _
 refine aa ?_;unfold Builtin.SmallTypes.ownedTupleIsFree
 refine aa (b9 qz rfl (x:=.none) rfl (aq ?_));simp only[iU]
 refine aa (jf (aa (b9 qz rfl (x:=.ref (n+3)) rfl ?_)))
 refine aa (cC qz #[9] fun g1 z1 s1=>?_)
 replace z1:IsZip g1 (n+4) (n+2) (n+3) .ellipsis:=z1
 refine aa ?_
 simp only[List.zipIdx_cons,List.zipIdx_nil,oz,List.forIn_nil]
 refine aa (aa (mP ?_))
 show wpAny _ _ (Builtin.SmallTypes.nextOf (.ref n) >>= _) _ _ _
 have n0:∀p,p≠0->n≠n+p:=fun p h e=>h (fq (e.symm.trans (iu n).symm))
 refine aa (yA (q1.extBut s1.extBut (n0 4 #[1])) (la.extBut s1.extBut (M ha)) hx fun g2 k2 s2=>aq ?_)
 have O2:oh g2 (n+3) u0 v0:=s2.extBut _ _ (n0 3 #[1]).symm (s1.extBut _ _ (N #[1]) qO)
 refine aa (dR O2 rfl (aa (yB O2 fun g3 O3 s3=>?_)))
 replace O3:oh g3 (n+3) x v0:=O3
 refine aa (wpAny_letGo (aq (aa (aa (mP ?_)))))
 show wpAny _ _ (Builtin.SmallTypes.nextOf (.ref (n+1)) >>= _) _ _ _
 refine aa (yA (((q2.extBut s1.extBut (N #[1])).extBut s2.extBut (n0 1 #[1]).symm).extBut s3.extBut (N #[1]))
  (((lb.extBut s1.extBut (M hb)).extBut s2.extBut (a8 hb)).extBut s3.extBut (M hb)) hy fun g4 k4 s4=>aq ?_)
 have O4:oh g4 (n+3) x v0:=s4.extBut _ _ (N #[1]) O3
 refine aa (dR O4 rfl (aa (yB O4 fun g5 O5 s5=>?_)))
 replace O5:oh g5 (n+3) x y:=O5
 refine aa (wpAny_letGo (aq (aq (aa (dR O5 rfl (aa (wpAny_newTuple ?_)))))))
 have sz:g5.objs.size=s.heap.objs.size:=by rw[s5.1,s4.1,s3.1,s2.1,s1.1]
 have kp:∀d o,d≠n+3->d≠n->d≠n+1->g1.get? d=some o->g5.get? d=some o:=fun d o c2 c3 c4 e=>
  s5.extBut _ _ c2 (s4.extBut _ _ c4 (s3.extBut _ _ c2 (s2.extBut _ _ c3 e)))
 have z7:IsZip g5 (n+4) (n+2) (n+3) .ellipsis:=kp _ _ (N #[1]) (n0 4 #[1]).symm (N #[1]) z1
 have P7:oh g5 (n+2) (.ref n) (.ref (n+1)):=kp _ _ (N #[1]) (n0 2 #[1]).symm (N #[1]) (s1.extBut _ _ (N #[1]) qP)
 have a7:nG c1 g5 n a (k+1):=((k2.extBut s3.extBut (n0 3 #[1])).extBut s4.extBut (n0 1 #[1])).extBut s5.extBut (n0 3 #[1])
 have b7:nG c2 g5 (n+1) b (k+1):=k4.extBut s5.extBut (N #[1])
 have zlt:n+4<g5.objs.size:=aD z7
 show wpAny _ _ (Builtin.SmallTypes.ownedTupleHandOut (.ref (n+4)) (.ref g5.objs.size) >>= _) _ _ _
 refine aa ?_;unfold Builtin.SmallTypes.ownedTupleHandOut
 have z8:IsZip (g5.push { cls:=.type "tuple",data:=.seq #[x,y] }) (n+4) (n+2) (n+3) .ellipsis:=al _ z7
 refine aa (cC z8 #[9] fun g9 z9 s9=>?_)
 replace z9:IsZip g9 (n+4) (n+2) (n+3) (rawInt g5.objs.size):=z9
 refine cC z9 #[9] fun gA zA sA=>?_
 replace zA:IsZip gA (n+4) (n+2) (n+3) (rawInt g5.objs.size):=zA
 have up:∀d o,d≠n+4->g5.get? d=some o->gA.get? d=some o:=fun d o c1 e=>sA.extBut _ _ c1 (s9.extBut _ _ c1 (al _ e))
 have TA:oh gA g5.objs.size x y:=sA.extBut _ _ (fU zlt) (s9.extBut _ _ (fU zlt) (ar _ rfl))
 rw[sz]at zA TA
 refine aq ⟨_,rfl,?_⟩
 show Q (.ref g5.objs.size) _
 rw[sz]
 exact hQ gA ⟨zA,up _ _ (N #[1]) P7,⟨_,_,up _ _ (N #[1]) O5⟩,a7.at fun o e=>up _ o (n0 4 #[1]) e,b7.at fun o e=>up _ o (N #[1]) e⟩ TA
  fun d o c1 c2 c3 c4 e=>up d o c1 (kp d o c2 c3 c4 (s1.extBut _ _ c1 e))
theorem Ql{Q:Fin->Shared->Prop}(hh:A.handled=none)(ha:a<n)(hb:b<n)(q:ZM c1 c2 s.heap n a b k .none)(la:ku c1 s.heap a xs)(lb:ku c2 s.heap b ys)
  (he:xs[k]?=none\/ys[k]?=none)
  (hE:∀g e,(∀d o,d≠n+4->d≠n+3->d≠n->d≠n+1->s.heap.get? d=some o->g.get? d=some o)->(∃o,g.get? e=some o/\o.cls=.type "StopIteration")->E (.ref e) { s with heap:=g }) :
  wpAny #[5] A (Builtin.«zip.__next__» ⟨[.ref (n+4)],[]⟩) Q E s:=by
 obtain⟨qz,qP,⟨u0,v0,qO⟩,q1,q2⟩:=q
 have N:∀{p q:Nat},p≠q->n+p≠n+q:=fun h e=>h (fq e)
 have M:∀{d p:Nat},d<n->d≠n+p:=fun h=>a8 (aL h (Nat.le_add_right _ _))
 have n0:∀p,p≠0->n≠n+p:=fun p h e=>h (fq (e.symm.trans (iu n).symm))
 show wpAny _ _ (field (.ref (n+4)) 2 >>= _) _ _ _
 refine aa (b9 qz rfl (x:=.bool false) rfl ?_)
 show wpAny _ _ (field (.ref (n+4)) 3 >>= _) _ _ _
 refine aa (b9 qz rfl (x:=.ref (n+2)) rfl (aa (dR qP rfl ?_)))
 show wpAny _ _ (Builtin.SmallTypes.ownedTupleIsFree (.ref (n+4)) >>= _) _ _ _
 refine aa ?_;unfold Builtin.SmallTypes.ownedTupleIsFree
 refine aa (b9 qz rfl (x:=.none) rfl (aq ?_));simp only[iU]
 refine aa (jf (aa (b9 qz rfl (x:=.ref (n+3)) rfl ?_)))
 refine aa (cC qz #[9] fun g1 z1 s1=>?_)
 replace z1:IsZip g1 (n+4) (n+2) (n+3) .ellipsis:=z1
 refine aa ?_
 simp only[List.zipIdx_cons,List.zipIdx_nil,oz,List.forIn_nil]
 refine aa (aa (mP ?_))
 show wpAny _ _ (Builtin.SmallTypes.nextOf (.ref n) >>= _) _ _ _
 have fin:∀(g2:Heap) (e:Addr),(∀d o,d≠n+3->d≠n->d≠n+1->g1.get? d=some o->g2.get? d=some o)->(∃o,g2.get? e=some o/\o.cls=.type "StopIteration")->wpAny #[5] A (setField (.ref (n+4)) 0 .none) (fun _ s'=>E (.ref e) s') E { s with heap:=g2 }:=fun g2 e kp ye=>by
  obtain⟨oe,h1,h2⟩:=ye
  have z2:IsZip g2 (n+4) (n+2) (n+3) .ellipsis:=kp _ _ (N #[1]) (n0 4 #[1]).symm (N #[1]) z1
  have nez:e≠n+4:=fun q=>by subst q;rw[z2]at h1;cases h1;simp at h2
  exact cC z2 #[9] fun g3 _ s3=>hE g3 e (fun d o c1 c2 c3 c4 q=>s3.extBut _ _ c1 (kp d o c2 c3 c4 (s1.extBut _ _ c1 q))) ⟨oe,s3.extBut _ _ nez h1,h2⟩
 cases hx:xs[k]? with
 |none=>
  exact aa (Hm hh (q1.extBut s1.extBut (n0 4 #[1])) (la.extBut s1.extBut (M ha)) hx fun g2 e s2 ye=>fin g2 e (fun d o _ c3 _ q=>s2 _ _ c3 q) ye)
 |some x=>
  have hy:ys[k]?=none:=by rcases he with h|h;rw[hx]at h;cases h;exact h
  refine aa (yA (q1.extBut s1.extBut (n0 4 #[1])) (la.extBut s1.extBut (M ha)) hx fun g2 k2 s2=>aq ?_)
  have O2:oh g2 (n+3) u0 v0:=s2.extBut _ _ (n0 3 #[1]).symm (s1.extBut _ _ (N #[1]) qO)
  refine aa (dR O2 rfl (aa (yB O2 fun g3 O3 s3=>?_)))
  refine aa (wpAny_letGo (aq (aa (aa (mP ?_)))))
  show wpAny _ _ (Builtin.SmallTypes.nextOf (.ref (n+1)) >>= _) _ _ _
  exact aa (Hm hh (((q2.extBut s1.extBut (N #[1])).extBut s2.extBut (n0 1 #[1]).symm).extBut s3.extBut (N #[1]))
   (((lb.extBut s1.extBut (M hb)).extBut s2.extBut (a8 hb)).extBut s3.extBut (M hb)) hy fun g4 e s4 ye=>fin g4 e (fun d o c2 c3 c4 q=>s4 _ _ c4 (s3.extBut _ _ c2 (s2.extBut _ _ c3 q))) ye)
theorem LM{Q:Option Value->Shared->Prop}(ha:a<n)(hb:b<n)(q:ZM c1 c2 s.heap n a b k .none)(la:ku c1 s.heap a xs)(lb:ku c2 s.heap b ys)
  (hx:xs[k]?=some x) (hy:ys[k]?=some y)
  (hQ:∀g,ZM c1 c2 g n a b (k+1) (rawInt s.heap.objs.size)->oh g s.heap.objs.size x y ->
   (∀d o,d≠n+4->d≠n+3->d≠n->d≠n+1->s.heap.get? d=some o->g.get? d=some o)->Q (some (.ref s.heap.objs.size)) { s with heap:=g }) :
  wpAny #[5] A (pyNext (.ref (n+4))) Q E s:=by
 have T:s.TypeIs (.ref (n+4)) "zip":=⟨_,q.z,rfl⟩
 unfold pyNext
 exact aa (dP (bn (name:=Str.ofString "__next__") T kX (br kX T F.entry_zip_next
   (LK ha hb q la lb hx hy fun g a1 a2 a3=>aq (hQ g a1 a2 a3)) (F.args_zip_next_1 _))))
theorem LN{Q:Option Value->Shared->Prop}(hh:A.handled=none)(ha:a<n)(hb:b<n)(q:ZM c1 c2 s.heap n a b k .none)(la:ku c1 s.heap a xs)(lb:ku c2 s.heap b ys)
  (he:xs[k]?=none\/ys[k]?=none)
  (hQ:∀g,(∀d o,d≠n+4->d≠n+3->d≠n->d≠n+1->s.heap.get? d=some o->g.get? d=some o)->Q none { s with heap:=g }):wpAny #[5] A (pyNext (.ref (n+4))) Q E s:=by
 have T:s.TypeIs (.ref (n+4)) "zip":=⟨_,q.z,rfl⟩
 unfold pyNext
 refine aa (dP (bn (name:=Str.ofString "__next__") T kX (br kX T F.entry_zip_next (Ql hh ha hb q la lb he fun g e hk ye=>?_) (F.args_zip_next_1 _))))
 obtain⟨o,ho,qt⟩:=ye
 exact aa (eF (T:="StopIteration") (b:=true) ⟨o,ho,qt⟩ hX (aq (hQ _ hk)))
end
abbrev VP(c1:Bool)(h:Heap)(a:Addr):Heap:=h.push (rP c1 a)
abbrev VQ(c1 c2:Bool)(h:Heap)(a b:Addr):Heap:=(VP c1 h a).push (rP c2 b)
abbrev VR(c1 c2:Bool)(h:Heap)(a b:Addr):Heap:=(VQ c1 c2 h a b).push { cls:=.type "tuple",data:=.seq #[.ref h.objs.size,.ref (VP c1 h a).objs.size] }
abbrev VS(c1 c2:Bool)(h:Heap)(a b:Addr):Heap:=(VR c1 c2 h a b).push { cls:=.type "tuple",data:=.seq #[.none,.none] }
abbrev R8(c1 c2:Bool)(h:Heap)(a b:Addr):Heap:=(VS c1 c2 h a b).push { cls:=.type "zip",data:=.fields #[.none,.bool false,.bool false,.ref (VQ c1 c2 h a b).objs.size,.ref (VR c1 c2 h a b).objs.size] }
theorem Qm     (c1 c2 : Bool) (a b : Addr) (xs ys : Array Value) : Meets (Builtin.«zip.__new__» ⟨[.type "zip", .ref a, .ref b], []⟩) (fun _ R s => ku   c1 s.heap a xs /\ ku   c2 s.heap b ys /\
      R (.ok (.ret (.ref (VS  c1 c2 s.heap a b).objs.size))) { s with heap := R8  c1 c2 s.heap a b }) :=
  .of_wp fun prog w A R s h => by
    obtain ⟨hp, g, d, tk, os⟩ := s
    obtain ⟨ha, hb, h⟩ := h
    have sb := sub_zip
    have hA : ku   c1 (Shared.heap ⟨hp, g, d, tk, os⟩) a xs := ha
    have hB : ku   c2 (Shared.heap ⟨hp.push (rP      c1 a), g, d, tk, os⟩) b ys := hb.at fun o e => al                     _ e
    wp_walk using Ho     hA, Ho     hB
    exact ⟨_, rfl, h⟩
section
variable{w:World}
theorem LO{c1 c2:Bool}{xs ys:Array Value}(ha:ku c1 s.heap a xs)(hb:ku c2 s.heap b ys)
  (q:∀g,ZM c1 c2 g s.heap.objs.size a b 0 .none->(∀d o,s.heap.get? d=some o->g.get? d=some o)->Q (.ref (s.heap.objs.size+4)) { s with heap:=g }) :
  wpAny #[5] A (call (.type "zip") [.ref a,.ref b]) Q E s:=by
 refine nV F.called_zip #[1] (F.typeCall_zip_2 _ _) (F.newCall_zip_2 _ _) (fun ob=>F.args_object_init_3 ob _ _) F.entry_zip_new (Qm c1 c2 a b xs ys) ⟨ha,hb,?_⟩
 have n1:(VP c1 s.heap a).objs.size=s.heap.objs.size+1:=bA ..
 have n2:(VQ c1 c2 s.heap a b).objs.size=s.heap.objs.size+2:=by rw[bA,n1]
 have n3:(VR c1 c2 s.heap a b).objs.size=s.heap.objs.size+3:=by rw[bA,n2]
 have n4:(VS c1 c2 s.heap a b).objs.size=s.heap.objs.size+4:=by rw[bA,n3]
 have p:∀{h:Heap} {c:Addr} {o u:Obj},h.get? c=some o->(h.push u).get? c=some o:=fun e=>al _ e
 have g5:(R8 c1 c2 s.heap a b).get? (VS c1 c2 s.heap a b).objs.size=some _:=ar _ rfl
 have g4:(R8 c1 c2 s.heap a b).get? (VR c1 c2 s.heap a b).objs.size=some _:=p (ar _ rfl)
 have g3:(R8 c1 c2 s.heap a b).get? (VQ c1 c2 s.heap a b).objs.size=some _:=p (p (ar _ rfl))
 have g2:(R8 c1 c2 s.heap a b).get? (VP c1 s.heap a).objs.size=some _:=p (p (p (ar _ rfl)))
 have g1:(R8 c1 c2 s.heap a b).get? s.heap.objs.size=some _:=p (p (p (p (ar _ rfl))))
 show _/\_
 rw[n2,n3,n4]at g5
 rw[n1,n2]at g3
 rw[n3]at g4
 rw[n1]at g2
 rw[n4]
 exact⟨⟨_,g5,rfl⟩,q _ ⟨g5,g3,⟨_,_,g4⟩,nG.new g1,nG.new g2⟩ fun d o e=>p (p (p (p (p e))))⟩
end
def Ce(c:Bool)(K:Frag)(H:Hp)(a:Addr)(xs:List V):Prop:=bif c then p8 K H a xs else gp K H a xs
section
variable{xs ys:List V}{c:Bool}
theorem bK.seq(I:bK X ah σ H s)(h:Ce c X.K H a xs):∃bw,cG xs bw/\ku c s.heap a bw.toArray:=by
 cases c
 ·obtain⟨bw,r,p,_⟩:=I.tuple h
  exact⟨bw,r,p⟩
 ·obtain⟨bw,r,p,_⟩:=I.list h
  exact⟨bw,r,p.isList⟩
theorem bK.seq_inj(I:bK X ah σ H s)(h:Ce c X.K H a xs)(h':Ce c X.K H a ys):xs=ys:=by
 cases c
 ·exact I.tuple_inj h h'
 ·exact I.list_inj h h'
theorem ku.lt{xs:Array Value}(q:ku c h a xs):a<h.objs.size:=by
 cases c
 ·obtain⟨_,e,_⟩:h.IsTuple a xs:=q
  exact aD e
 ·obtain⟨_,e,_⟩:h.IsList a xs:=q
  exact aD e
end
def Uj(c1 c2:Bool)(K:Frag)(a b:Addr):It:=
  ⟨fun i H=>∃xs ys x y,Ce c1 K H a xs/\Ce c2 K H b ys/\xs[i]?=some x/\ys[i]?=some y,
   fun i H v H'=>∃p,H p=none/\v=.ref p/\∀xs ys x y,Ce c1 K H a xs->Ce c2 K H b ys->xs[i]?=some x->ys[i]?=some y->H'=e_ H p (.tup [x,y]),
   fun i H=>∃xs ys,Ce c1 K H a xs/\Ce c2 K H b ys/\(xs.length<=i\/ys.length<=i)⟩
theorem LP{w:World}{c1 c2:Bool}{n:Addr}(ha:a<n)(hb:b<n) :
  x5 P w K (.Tuple kD kk pos) (Uj c1 c2 K a b) [n+4,n+2,n+3,n,n+1] (n+4) (fun k h=>ZM c1 c2 h n a b k .none) where
 mem:=by simp
 obj:=fun k h st d hd=>by
  obtain⟨h1,h2,⟨u,v,h3⟩,h4,h5⟩:=st
  obtain⟨o4,e4,d4⟩:=h4.ex
  obtain⟨o5,e5,d5⟩:=h5.ex
  have q:d=n+4\/d=n+2\/d=n+3\/d=n\/d=n+1:=by simpa using hd
  rcases q with rfl|rfl|rfl|rfl|rfl
  ·exact⟨_,h1,fun v q=>by cases q⟩
  ·exact⟨_,h2,fun v q=>by cases q⟩
  ·exact⟨_,h3,fun v q=>by cases q⟩
  ·exact⟨_,e4,d4⟩
  ·exact⟨_,e5,d5⟩
 keep:=fun k h h' st kp=>by
  obtain⟨h1,h2,⟨u,v,h3⟩,h4,h5⟩:=st
  exact⟨kp (n+4) #[9] _ h1,kp (n+2) #[9] _ h2,⟨u,v,kp (n+3) #[9] _ h3⟩,h4.at fun o e=>kp n #[9] o e,h5.at fun o e=>kp (n+1) #[9] o e⟩
 item:=by
  intro X hP hw hK hc' k ah s σ H E I hf st hg
  subst hP hw hK
  obtain⟨xs,ys,x,y,hq,hr,hx,hy⟩:=hg
  obtain⟨bw,r1,p1⟩:=I.seq hq
  obtain⟨jts,r2,p2⟩:=I.seq hr
  obtain⟨u,hu,ru⟩:=r1.get hx
  obtain⟨v,hv,rv⟩:=r2.get hy
  refine LM ha hb st p1 p2 (x:=u) (y:=v) (by simpa using hu) (by simpa using hv) fun g a1 a5 kp=>⟨_,rfl,?_⟩
  refine wpAny_letOwnedTupleGo_zip a1.z fun g2 b1 s2=>?_
  have wG:H s.heap.objs.size=none:=I.hok.fresh (ax _)
  have I1:bK X ah σ (e_ H s.heap.objs.size (.tup [x,y])) { s with heap:=s.heap.push { cls:=.type "tuple",data:=.seq #[u,v] },toks:=s.toks }:=I.laid (fun c o q=>al _ q) (ax _)
   ⟨by show 2<=sizeLine;decide,[u,v],.cons ru (.cons rv .nil),⟨_,ar _ rfl,rfl,_,rfl⟩⟩
  have lt:∀{c o},s.heap.get? c=some o->c≠s.heap.objs.size:=fun e=>a8 (aD e)
  have nf:∀d∈[n+4,n+2,n+3,n,n+1],d≠s.heap.objs.size:=fun d hd=>by
   obtain⟨h1,h2,⟨u,v,h3⟩,h4,h5⟩:=st
   obtain⟨o4,e4,d4⟩:=h4.ex
   obtain⟨o5,e5,d5⟩:=h5.ex
   have q:d=n+4\/d=n+2\/d=n+3\/d=n\/d=n+1:=by simpa using hd
   rcases q with rfl|rfl|rfl|rfl|rfl
   ·exact lt h1
   ·exact lt h2
   ·exact lt h3
   ·exact lt e4
   ·exact lt e5
  have fp:∀d∈[n+4,n+2,n+3,n,n+1],sL X ah (e_ H s.heap.objs.size (.tup [x,y])) d:=fun d hb=>by
   obtain⟨f0,f⟩:=hf d hb
   exact⟨by rw[cE (nf d hb)];exact f0,f⟩
  have N:∀{p q:Nat},p≠q->n+p≠n+q:=fun h e=>h (fq e)
  have n0:∀p,p≠0->n≠n+p:=fun p h e=>h (fq (e.symm.trans (iu n).symm))
  have I2:bK X ah σ (e_ H s.heap.objs.size (.tup [x,y])) { s with heap:=g2,toks:=s.toks }:=bK.turnedL (s:={ s with heap:=s.heap.push { cls:=.type "tuple",data:=.seq #[u,v] },toks:=s.toks }) (ch:=[n+4,n+3,n,n+1]) (t':=s.toks) I1 (fun d o hb q=>?_) fun d hb=>fp d (by
   have q:d=n+4\/d=n+3\/d=n\/d=n+1:=by simpa using hb
   rcases q with rfl|rfl|rfl|rfl<;>simp)
  ·refine⟨.ref s.heap.objs.size,_,I2,rfl,⟨_,wG,rfl,fun xs' R_ x' y' e1 e2 e4 e5=>?_⟩,⟨b1,s2.extBut _ _ (N #[1]) a1.P,let ⟨_,_,q⟩:=a1.O;⟨_,_,s2.extBut _ _ (N #[1]) q⟩,a1.i.extBut s2.extBut (n0 4 #[1]),a1.j.extBut s2.extBut (N #[1])⟩,fun d hb=>(fp d hb).1⟩
   have q1:=I.seq_inj e1 hq
   have q2:=I.seq_inj e2 hr
   subst q1 q2
   rw[hx]at e4;rw[hy]at e5;cases e4;cases e5;rfl
  ·have q':(s.heap.push { cls:=.type "tuple",data:=.seq #[u,v] }).get? d=some o:=q
   have hn:d≠n+4/\d≠n+3/\d≠n/\d≠n+1:=by simpa using hb
   refine s2.extBut d o hn.1 ?_
   by_cases hb':d=s.heap.objs.size
   ·subst hb'
    have e1:=ar s.heap (o:={ cls:=.type "tuple",data:=.seq #[u,v] }) rfl
    rw[e1]at q';cases q'
    exact a5
   ·rw[jH _ _ _ hb']at q'
    exact kp d o hn.1 hn.2.1 hn.2.2.1 hn.2.2.2 q'
 done:=by
  intro X hP hw hK hc' k ah s σ H E I hf st hg
  subst hP hw hK
  obtain⟨xs,ys,hq,hr,he⟩:=hg
  obtain⟨bw,r1,p1⟩:=I.seq hq
  obtain⟨jts,r2,p2⟩:=I.seq hr
  have l1:=r1.length
  have l2:=r2.length
  refine LN (I.ok.hd hc') ha hb st p1 p2 (by
   rcases he with q|q
   ·exact .inl (by simp;omega)
   ·exact .inr (by simp;omega)) fun g kp=>⟨rfl,?_⟩
  exact I.turnedL (ch:=[n+4,n+3,n,n+1]) (t':=s.toks) (fun d o hb q=>by
   have hn:d≠n+4/\d≠n+3/\d≠n/\d≠n+1:=by simpa using hb
   exact kp d o hn.1 hn.2.1 hn.2.2.1 hn.2.2.2 q) fun d hb=>hf d (by
   have q:d=n+4\/d=n+3\/d=n\/d=n+1:=by simpa using hb
   rcases q with rfl|rfl|rfl|rfl<;>simp)
 self:=fun A k s Q E st h=>wpAny_pyIter_zip st.z h
def WT(K:Frag)(ta:TA):TI:=fun σ H R=>ta σ H fun vs H1=>∃a b c1 c2,vs=[.ref a,.ref b]/\(∃ys,Ce c2 K H1 b ys)/\(∃xs,Ce c1 K H1 a xs)/\R (Uj c1 c2 K a b) H1
theorem LQ{a b:Expr}{ta:TA}{p pos tp:Pos}{kD:List Expr}{kk:Nat}(hm:X.mg "zip"=none)(ha:QA X [a,b] ta)(hg:Gl X "zip":=by rfl)(hs:starEach [a,b] X.env=(false,eval a X.env)::starEach [b] X.env:=by rfl)
  (Bz:(backTo pos (starEach [b] X.env)).any (·.1)=false:=by rfl):QI X (.Tuple kD kk tp) (.Call (.Name "zip" p) [a,b] [] pos) (WT X.K ta):=⟨by
 intro ah s σ H R I h
 refine Call_ (lL I hg hm boot_zip (b6 (gG (ha.h pos ah s σ H _ I h) fun us s1 zq=>?_) hs Bz))
 obtain⟨vs,H1,I1,r1,q1⟩:=zq
 obtain⟨t,t',c1,c2,e,⟨ys,hr⟩,⟨xs,hq⟩,q⟩:=q1
 subst e
 cases r1 with
 |cons x1 r1=>cases r1 with
  |cons x2 r1=>
   cases r1
   cases x1
   cases x2
   obtain⟨jts,qS,p2⟩:=I1.seq hr
   obtain⟨bw,rv,p1⟩:=I1.seq hq
   refine LO p1 p2 fun g e1 kp=>?_
   refine wpAny_pyIter_zip e1.z ?_
   refine⟨s1.heap.objs.size+4,[s1.heap.objs.size+4,s1.heap.objs.size+2,s1.heap.objs.size+3,s1.heap.objs.size,s1.heap.objs.size+1],_,_,H1,rfl,I1.kept (t':=s1.toks) kp,LP p1.lt p2.lt,e1,fun c hb=>?_,q⟩
   have hc:s1.heap.objs.size<=c:=by
    have z:c=s1.heap.objs.size+4\/c=s1.heap.objs.size+2\/c=s1.heap.objs.size+3\/c=s1.heap.objs.size\/c=s1.heap.objs.size+1:=by simpa using hb
    rcases z with rfl|rfl|rfl|rfl|rfl<;>simp
   exact I1.fpOk hc (I1.hok.fresh hc)⟩
section
variable{a b:Expr}{fs:FA}
def Fd(st:List am):W->Option (List W×Option (Nat×List W))
 |.tup xs=>some (xs,none)
 |.loc n=>(lstOf st n).map fun xs=>(xs,some (n,xs))
 |_=>none
def kM(fs:FA):FI:=fun ρ st=>(fs ρ st).bind fun ws st=>match ws with
 |[x,y]=>(match Fd st x,Fd st y with
  |some (xs,none),some (ys,k)=>.ok (jZ xs ys,k) st
  |some (xs,some k),some (ys,none)=>.ok (jZ xs ys,some k) st
  |_,_=>.bad)
 |_=>.bad
theorem uR{x:W}{v:V}{xs:List W}{k:Option (Nat×List W)}(S:iN K mg μ st H)(r:bD K μ H x v)(e:Fd st x=some (xs,k)) :
  ∃a c vs,v=.ref a/\Ce c K H a vs/\∀μ' bz H',μ <+: μ'->eS K H H'->iN K mg μ' bz H'->(∀q,k=some q->hG bz (some q))->∃Br,Ce c K H' a Br/\RelWs K μ' H' xs Br:=by
 cases x with
 |tup ws=>
  cases e
  obtain⟨t,vs,rfl,hS,r⟩:=r.tupE
  exact⟨t,false,vs,rfl,hS,fun μ' bz H' p x _ _=>⟨vs,x _ _ hS,r.mono p x⟩⟩
 |loc n=>
  unfold Fd at e
  obtain⟨ys,e1,e2⟩:=aC.mp e
  cases e2
  obtain⟨t1,ha1,rfl⟩:=r.locE
  obtain⟨a',vs0,g0,hS0,r0⟩:=S.lstOf e1
  rw[ha1]at g0;cases g0
  refine⟨t1,true,vs0,rfl,hS0,fun μ' bz H' p x S' ck=>?_⟩
  obtain⟨a2,vl,g2,hL,rl⟩:=S'.lstOf (show lstOf bz n=some xs from ck _ rfl)
  have:μ'[n]?=some t1:=L2.pre_get p ha1
  rw[g2]at this;cases this
  exact⟨vl,hL,rl⟩
 |_=>cases e
theorem AC{a b:Addr}{c1 c2:Bool}{xs ys:List W}{us:List V}(S:iN K mg μ st H)(h1:Ce c1 K H a vs)(r1:RelWs K μ H xs vs)(h2:Ce c2 K H b us)(r2:RelWs K μ H ys us) :
  (∀w,(jZ xs ys)[i]?=some w->(Uj c1 c2 K a b).go i H/\∀u H',(Uj c1 c2 K a b).yld i H u H'->eS K H H'/\iN K mg μ st H'/\bD K μ H' w u)/\((jZ xs ys).length<=i->(Uj c1 c2 K a b).stop i H):=by
 refine⟨fun w hw=>?_,fun hl=>⟨vs,us,h1,h2,by rw[mU]at hl;rw[<- r1.len,<- r2.len];omega⟩⟩
 obtain⟨x,y,hx,hy,rfl⟩:=mT hw
 obtain⟨v1,g1,g2⟩:=r1.get hx
 obtain⟨v2,g3,g4⟩:=r2.get hy
 refine⟨⟨vs,us,v1,v2,h1,h2,g1,g3⟩,fun u H'' hu=>?_⟩
 obtain⟨q,hq,rfl,hH⟩:=hu
 have e:=hH vs us v1 v2 h1 h2 g1 g3
 subst e
 have ex:=gp.same (K:=K) (cQ hq (.tup [v1,v2]))
 exact⟨ex,S.same (cQ hq _),.tupI gp.new (.consI (g2.mono (aj _) ex) (.consI (g4.mono (aj _) ex) .nilI))⟩
theorem LR{kD:List Expr}{kk:Nat}{tp:Pos}(hm:X.mg "zip"=none)(ha:SA X [a,b] fs)(hg:Gl X "zip":=by rfl)(hs:starEach [a,b] X.env=(false,eval a X.env)::starEach [b] X.env:=by rfl)(qY:(backTo pos (starEach [b] X.env)).any (·.1)=false:=by rfl) :
  SI X (.Tuple kD kk tp) (.Call (.Name "zip" p) [a,b] [] pos) (kM fs):=⟨(LQ hm ⟨ha.h⟩ hg hs qY).h.imp fun σ H R h=>by
 walk_at "2"
 walk_at "1"
 split at h1
 ·rename_i wx wy
  obtain⟨y,ys,rfl,ry,r1⟩:=q1.consE
  obtain⟨y2,rfl,ry2⟩:=r1.one
  split at h1
  ·rename_i xs ys k e1 e2
   obtain⟨t,c1,vs,rfl,hS,f1⟩:=uR l1.sto ry e1
   obtain⟨t',c2,Br,rfl,hS',f2⟩:=uR l1.sto ry2 e2
   refine⟨t,t',c1,c2,rfl,⟨_,hS'⟩,⟨_,hS⟩,h1 μ1 _ H1 (aj _) eS.refl l1.sto fun i μ' bz H' pp xx S ck=>?_⟩
   obtain⟨us,q1,m1⟩:=f1 μ' bz H' pp xx S fun q z=>by cases z
   obtain⟨us',q2,m2⟩:=f2 μ' bz H' pp xx S fun q z=>by rw[<- z];exact ck
   exact AC S q1 m1 q2 m2
  ·rename_i xs k ys e1 e2
   obtain⟨t,c1,vs,rfl,hS,f1⟩:=uR l1.sto ry e1
   obtain⟨t',c2,Br,rfl,hS',f2⟩:=uR l1.sto ry2 e2
   refine⟨t,t',c1,c2,rfl,⟨_,hS'⟩,⟨_,hS⟩,h1 μ1 _ H1 (aj _) eS.refl l1.sto fun i μ' bz H' pp xx S ck=>?_⟩
   obtain⟨us,q1,m1⟩:=f1 μ' bz H' pp xx S fun q z=>by cases z;exact ck
   obtain⟨us',q2,m2⟩:=f2 μ' bz H' pp xx S fun q z=>by cases z
   exact AC S q1 m1 q2 m2
  ·exact h1.elim
 ·exact h1.elim⟩
end
theorem jw(st x:List am)(k:Nat):(st++x)[st.length+k]?=x[k]?:=by rw[dh #[0]];congr 1;omega
theorem gI(st x:List am):(st++x)[st.length]?=x[0]?:=jw st x 0
theorem mV(st x:List am)(k:Nat)(c:am):(st++x).set (st.length+k) c=st++x.set k c:=by rw[List.set_append_right _ _ #[0]];congr 2;omega
theorem fD(st x:List am)(c:am):(st++x).set st.length c=st++x.set 0 c:=mV st x 0 c
theorem aI{x:List am}{c:am}(h:st[n]?=some c):(st++x)[n]?=some c:=by
 rw[aQ (ac.mp h).1];exact h
theorem Cf(st:List am)(ws:List W):trunc st st ws=st:=by unfold trunc;split<;>simp
theorem xI{st x:List am}{ws:List W}(h:undWs st.length ws=true):trunc st (st++x) ws=st:=by
 unfold trunc
 rw[au ⟨h,by simp,fun i hi=>.inl (aQ hi)⟩]
 simp
theorem mW(h:undWs st.length ws=false):trunc st bz ws=bz:=by
 unfold trunc
 rw[ay fun k=>by have:=k.1;rw[h]at this;cases this]
theorem lv{N:Nat}{body:FS}{ws:List W}{w:W}(h:body (ws.map some++List.replicate (N-ws.length) none) st=.rt w bz):dm N body ws st=.ok w (trunc st bz [w]):=by
 unfold dm;rw[h]
theorem pT{N:Nat}{body:FS}{w:W}(h:body (ws.map some++List.replicate (N-ws.length) none) st=.rt w st):dm N body ws st=.ok w st:=by
 rw[lv h,Cf]
theorem AD{N:Nat}{body:FS}{x:List am}{w:W}(h:body (ws.map some++List.replicate (N-ws.length) none) st=.rt w (st++x))(hu:undWs st.length [w]=true):dm N body ws st=.ok w st:=by
 rw[lv h,xI hu]
theorem Hq{N:Nat}{body:FS}{x:List am}{k:Nat}(h:body (ws.map some++List.replicate (N-ws.length) none) st=.rt (.loc (st.length+k)) (st++x)):dm N body ws st=.ok (.loc (st.length+k)) (st++x):=by
 rw[lv h,mW (by simp[undWs,W.und])]
theorem Hr{g g':FS}{ρ':cy}(h:g ρ st=.nx ρ' bz):aX g g' ρ st=g' ρ' bz:=by unfold aX;rw[h]
theorem Dk{f:FG}{body:FS}{k:E6}(h:fi ρ st=.ok k bz):gm fi f body ρ st=vn f body k.2 k.1 ρ bz:=by unfold gm;rw[h];rfl
theorem vF{f:FG}{body:FS}{ck:Option (Nat×List W)}(I:Nat->cy->List am->Prop):∀{ws:List W} {ρ:cy} {st:List am} (i0:Nat),I i0 ρ st->(∀i ρ st,I i ρ st->hG st ck) ->
  (∀i w ρ st,ws[i]?=some w->I (i0+i) ρ st->∃ρ' ρ2 db,f w ρ=some ρ'/\body ρ' st=.nx ρ2 db/\I (i0+i+1) ρ2 db) ->
  ∃ρ2 db,vn f body ck ws ρ st=.nx ρ2 db/\I (i0+ws.length) ρ2 db
 |[],ρ,st,i0,h0,hc,hs=>⟨ρ,st,by unfold vn;rw[au (hc _ _ _ h0)],h0⟩
 |w::ws,ρ,st,i0,h0,hc,hs=>by
  obtain⟨ρ',ρ2,db,e1,e2,h1⟩:=hs 0 w ρ st rfl h0
  obtain⟨ρ3,mD,e3,h3⟩:=vF I (ws:=ws) (ρ:=ρ2) (st:=db) (i0+1) h1 hc fun i w ρ st hw hI=>by
   obtain⟨a,b,c,d,e,g⟩:=hs (i+1) w ρ st (by simpa using hw) (by rw[show i0+(i+1)=i0+1+i by omega];exact hI)
   exact⟨a,b,c,d,e,by rw[show i0+1+i+1=i0+(i+1)+1 by omega];exact g⟩
  refine⟨ρ3,mD,?_,by rw[a_,show i0+(ws.length+1)=i0+1+ws.length by omega];exact h3⟩
  unfold vn
  rw[au (hc _ _ _ h0),e1]
  simp only[e2]
  exact e3
theorem Fe{t:FT}{g:FS}(I:Nat->cy->List am->Prop):∀(n:Nat) {ρ:cy} {st:List am},I n ρ st ->
  (∀n ρ st,I n ρ st->t ρ st=.ok false st\/(t ρ st=.ok true st/\∃ρ2 db m,g ρ st=.nx ρ2 db/\m<n/\I m ρ2 db)) ->
  ∃m ρ2 db,ph t g ρ st=.nx ρ2 db/\I m ρ2 db/\t ρ2 db=.ok false db:=by
 intro n ρ st h hs
 have key:∀(k n:Nat) (ρ:cy) (st:List am),n<k->I n ρ st->∃m ρ2 db,gg t g k ρ st=.nx ρ2 db/\I m ρ2 db/\t ρ2 db=.ok false db:=by
  intro k
  induction k with
  |zero=>intro n _ _ h;exact absurd h (kW _)
  |succ k ih=>
   intro n ρ st hk hI
   rcases hs n ρ st hI with e|⟨e,ρ2,db,m,e2,hm,h2⟩
   ·exact⟨n,ρ,st,by unfold gg;rw[e];rfl,hI,e⟩
   ·obtain⟨m',ρ3,mD,e3,h3⟩:=ih m ρ2 db #[0] h2
    exact⟨m',ρ3,mD,by unfold gg;rw[e];simp only[R.stmt_ok,iU,e2];exact e3,h3⟩
 obtain⟨m,ρ2,db,e,h2⟩:=key (n+1) n ρ st (cU n) h
 exact⟨m,ρ2,db,E7 e #[9],h2⟩
section
variable{ρ':cy}{db mD V2:List am}{fo fi:FE}{fs:FA}{u:FT}{x y z w v:W}{xs zs:List W}{a b k:Bool}{g g':FS}
theorem dN(h:ρ[i]?=some (some w)):af i ρ st=.ok w st:=by unfold af;rw[h]
theorem cD:eC w ρ st=.ok w st:=rfl
theorem bN{f:W->W->List am->R W}(h1:fa ρ st=.ok x st1)(h2:fb ρ st1=.ok y db)(h3:f x y db=.ok z mD):e2 f fa fb ρ st=.ok z mD:=by unfold e2;rw[h1];simp only[R.bind_ok];rw[h2];exact h3
theorem aN:aA ρ st=.ok [] st:=rfl
theorem av(h1:fa ρ st=.ok x st1)(h2:fs ρ st1=.ok xs db):ai fa fs ρ st=.ok (x::xs) db:=by unfold ai;rw[h1];simp only[R.bind_ok];rw[h2];rfl
theorem Qn:TC ls ρ st=.ok (ls.map W.str) st:=rfl
theorem qj(h1:fs ρ st=.ok ws st1)(h2:ws.length<=ny):o_ fs ρ st=.ok (.tup ws) st1:=by unfold o_;rw[h1];simp only[R.bind_ok,rk];rw[au h2]
theorem jk(h1:fs ρ st=.ok ws st1)(h2:ws.length<=ny):ju fs ρ st=.ok (.loc st1.length) (st1++[.lst ws]):=by unfold ju;rw[h1];simp only[R.bind_ok,kZ];rw[au h2]
theorem bX(h1:fs ρ st=.ok ws st1)(h2:F ws st1=.ok w db):bH F fs ρ st=.ok w db:=by unfold bH;rw[h1];exact h2
theorem bY(h1:fs ρ st=.ok ws st1)(h2:F ws st1=.ok w db)(hn:ws.length=n):cz n F fs ρ st=.ok w db:=by unfold cz;rw[h1];simp only[R.bind_ok];rw[au hn];exact h2
theorem bJ(h:fa ρ st=.ok (.bl k) st1):fG fa ρ st=.ok k st1:=by unfold fG;rw[h];rfl
theorem Dl(h1:t ρ st=.ok true st1)(h2:u ρ st1=.ok k db):Tv t u ρ st=.ok k db:=by unfold Tv;rw[h1];exact h2
theorem Dm(h1:t ρ st=.ok false st1):Tv t u ρ st=.ok false st1:=by unfold Tv;rw[h1];rfl
theorem kh(h1:t ρ st=.ok false st1)(h2:u ρ st1=.ok k db):C8 t u ρ st=.ok k db:=by unfold C8;rw[h1];exact h2
theorem Dn(h1:t ρ st=.ok true st1):C8 t u ρ st=.ok true st1:=by unfold C8;rw[h1];rfl
theorem qk(h1:t ρ st=.ok a st1)(h2:(!a)=k):E1 t ρ st=.ok k st1:=by unfold E1;rw[h1,<- h2];rfl
theorem yC(h1:fa ρ st=.ok (.bl true) st1)(h2:fb ρ st1=.ok w db):Ah fa fb ρ st=.ok w db:=by unfold Ah;rw[h1];exact h2
theorem Qo(h1:fa ρ st=.ok (.bl false) st1)(h2:fb ρ st1=.ok w db):PM fa fb ρ st=.ok w db:=by unfold PM;rw[h1];exact h2
theorem Qp(h1:fa ρ st=.ok (.bl true) st1):PM fa fb ρ st=.ok (.bl true) st1:=by unfold PM;rw[h1];rfl
theorem Uk(h1:fa ρ st=.ok (.bl a) st1)(h2:(!a)=k):Li fa ρ st=.ok (.bl k) st1:=by unfold Li;rw[h1,<- h2];rfl
theorem pk(h1:t ρ st=.ok true st1)(h2:fa ρ st1=.ok w db):Ai t fa fb ρ st=.ok w db:=by unfold Ai;rw[h1];exact h2
theorem pq(h1:t ρ st=.ok false st1)(h2:fb ρ st1=.ok w db):Ai t fa fb ρ st=.ok w db:=by unfold Ai;rw[h1];exact h2
theorem i9{F:W->List W->List am->R W}(h1:fo ρ st=.ok x st1)(hl:pj st1 x=true)(h2:fs ρ st1=.ok ws db)(h3:F x ws db=.ok w mD):n9 F fo fs ρ st=.ok w mD:=by unfold n9;rw[h1];simp only[R.bind_ok];rw[au hl,h2];exact h3
theorem Hs{F:W->List W->List am->R W}(h1:fo ρ st=.ok x st1)(hl:G5 x=true)(h2:fs ρ st1=.ok ws db)(h3:F x ws db=.ok w mD):B8 F fo fs ρ st=.ok w mD:=by unfold B8;rw[h1];simp only[R.bind_ok];rw[au hl,h2];exact h3
theorem eJ(h:st[n]?=some (.lst ws)):pj st (.loc n)=true:=by simp only[pj,h]
theorem xJ{q:Int}(h:fa ρ st=.ok (.int q) st1):yq fa ρ st=.ok (.int (-q)) st1:=by unfold yq;rw[h];rfl
theorem xK{T c:String}(h:fa ρ st=.ok x st1)(hx:x.ty=some c)(hk:Lx c T=k):pZ T fa ρ st=.ok (.bl k) st1:=by unfold pZ;rw[h];simp only[R.bind_ok,hx,hk]
theorem uc(h:fa ρ st=.ok x st1)(hk:x.isNon=k):vj fa ρ st=.ok (.bl k) st1:=by unfold vj;rw[h,<- hk];rfl
theorem j0(h:fa ρ st=.ok x st1)(hk:(!x.isNon)=k):mS fa ρ st=.ok (.bl k) st1:=by unfold mS;rw[h,<- hk];rfl
theorem Ff:qf ρ st=.ok none st:=rfl
theorem Fg{q:Int}(h:fa ρ st=.ok (.int q) st1):pd fa ρ st=.ok (some q) st1:=by unfold pd;rw[h];rfl
theorem Fh{fl fh:FO}{l h:Option Int}(h1:fa ρ st=.ok x st1)(h2:fl ρ st1=.ok l db)(h3:fh ρ db=.ok h mD)(h4:E5 x l h mD=.ok w V2):GU fa fl fh ρ st=.ok w V2:=by unfold GU;rw[h1];simp only[R.bind_ok];rw[h2];simp only[R.bind_ok];rw[h3];exact h4
theorem bu(h:fe ρ st=.ok w st1):bP i fe ρ st=.nx (ρ.set i (some w)) st1:=by unfold bP;rw[h];rfl
theorem fP(h:fe ρ st=.ok w st1):eT fe ρ st=.nx ρ st1:=by unfold eT;rw[h];rfl
theorem Ht(h:fe ρ st=.ok w st1):dk fe ρ st=.rt w st1:=by unfold dk;rw[h];rfl
theorem vG{f:W->W->W->List am->Option (List am)}(h1:fe ρ st=.ok v st1)(h2:fo ρ st1=.ok x db)(h3:fi ρ db=.ok y mD)(h4:f x y v mD=some V2):rD fo fi fe f ρ st=.nx ρ V2:=by
 unfold rD;rw[h1];simp only[R.stmt_ok];rw[h2];simp only[R.stmt_ok];rw[h3];simp only[R.stmt_ok];rw[h4]
theorem jx{r:RS}(h1:t ρ st=.ok true st1)(h2:g ρ st1=r):lH t g g' ρ st=r:=by unfold lH;rw[h1];exact h2
theorem vH{r:RS}(h1:t ρ st=.ok false st1)(h2:g' ρ st1=r):lH t g g' ρ st=r:=by unfold lH;rw[h1];exact h2
theorem py:d8 ρ st=.nx ρ st:=rfl
theorem MO{r:RS}(h:g ρ st=.nx ρ' st1)(h2:g' ρ' st1=r):aX g g' ρ st=r:=by rw[Hr h];exact h2
theorem Hu(h:g ρ st=.rt w st1):aX g g' ρ st=.rt w st1:=by unfold aX;rw[h]
theorem f9{p q:Int}:fx (.int p) (.int q) st=.ok (.int (p+q)) st:=rfl
theorem vI{p q:List Nat}(h:p.length+q.length<=ny):fx (.str p) (.str q) st=.ok (.str (p++q)) st:=by simp only[fx];rw[au h]
theorem Qq(h1:st[n]?=some (.lst ws))(h2:st[m]?=some (.lst xs))(h:(ws++xs).length<=ny):fx (.loc n) (.loc m) st=.ok (.loc st.length) (st++[.lst (ws++xs)]):=by
 unfold fx;simp only[h1,h2,kZ];rw[au h]
theorem ga{C:Int->Int->Prop}[∀i j,Decidable (C i j)]{f:Int->Int->Int}{p q:Int}(h:C p q):E2 C f (.int p) (.int q) st=.ok (.int (f p q)) st:=by simp only[E2];rw[au h]
theorem kN{p q:Int}(h:PQ p q):fH (.int p) (.int q) st=.ok (.int (p*q)) st:=by simp only[fH];rw[au h]
theorem jl{f:Int->Int->Bool}{p q:Int}(h:f p q=k):E3 f (.int p) (.int q) st=.ok (.bl k) st:=by rw[<- h];rfl
theorem Ul{p q:Int}(h:decide (p<=q)=k):WP (.int p) (.int q) st=.ok (.bl k) st:=by rw[<- h];rfl
theorem jy{p q:Int}(h:(p==q)=k):qW (.int p) (.int q) st=.ok (.bl k) st:=by rw[<- h];rfl
theorem Do{p q:Int}(h:(!(p==q))=k):FR (.int p) (.int q) st=.ok (.bl k) st:=by rw[<- h];rfl
theorem Um{p q:List Nat}(h:(p==q)=k):qW (.str p) (.str q) st=.ok (.bl k) st:=by rw[<- h];rfl
theorem k_{q:Int}(h:tU ws q=some w):bI (.tup ws) (.int q) st=.ok w st:=by unfold bI;simp only[h,dH]
theorem kv(h:ρ[i]?=some (some w):=by rfl):af i ρ st=.ok w st:=dN h
theorem ox{q:Int}(h:tU ws q=some w:=by rfl):bI (.tup ws) (.int q) st=.ok w st:=k_ h
theorem kn(h:ρ[i]?=some (some w):=by rfl):ai (af i) aA ρ st=.ok [w] st:=av (dN h) aN
theorem kx{q:Int}(h:ρ[i]?=some (some (.tup ws)):=by rfl)(h2:tU ws q=some w:=by rfl):e2 bI (af i) (eC (.int q)) ρ st=.ok w st:=bN (dN h) cD (k_ h2)
theorem MP{q:Int}(hl:l.length<=ny)(h:tU l q=some c):bI (.str l) (.int q) st=.ok (.str [c]) st:=by unfold bI;simp only[h,dH];rw[au hl]
theorem jm{q:Int}(hl:lstOf st n=some ws)(h:tU ws q=some w):bI (.loc n) (.int q) st=.ok w st:=by unfold bI;simp only[hl,h,dH]
theorem vJ:dY [.tup ws] st=.ok (.int ws.length) st:=rfl
theorem nH(h:l.length<=ny):dY [.str l] st=.ok (.int l.length) st:=by unfold dY;simp only;rw[au h]
theorem mK(hl:lstOf st n=some ws):dY [.loc n] st=.ok (.int ws.length) st:=by unfold dY;simp only[hl,dH]
theorem aS(h:st[n]?=some (.lst ws)):lstOf st n=some ws:=by unfold lstOf;rw[h]
theorem uS(h:st[n]?=some (.ro ws)):lstOf st n=some ws:=by unfold lstOf;rw[h]
theorem xL(h:st[n]?=some (.lst ws))(hl:ws.length<ny):bW (.loc n) [y] st=.ok .non (st.set n (.lst (ws++[y]))):=by unfold bW;simp only[h];rw[au hl]
theorem Hv(h:st[n]?=some (.lst (ws++[y]))):rE (.loc n) [] st=.ok y (st.set n (.lst ws)):=by unfold rE;simp only[h];simp
theorem Qr{q:Int}(h:st[n]?=some (.lst ws))(hi:CW ws.length q=some j):pe (.loc n) (.int q) v st=some (st.set n (.lst (ws.set j v))):=by unfold pe;simp only[h,hi];rfl
theorem yD{sep:List Nat}(h:lstOf st n=some (ls.map W.str))(hl:(ls.map List.length).sum+ls.length*sep.length<=ny):kr (.str sep) [.loc n] st=.ok (.str (oZ sep ls)) st:=by
 unfold kr;simp only[h,dH,xG];rw[au hl]
theorem AE{l h:Option Int}{z:List Nat}(hl:z.length<=ny):E5 (.str z) l h st=.ok (.str (oI z l h)) st:=by unfold E5;simp only;rw[au hl]
theorem Uo{l h:Option Int}:E5 (.tup ws) l h st=.ok (.tup (oI ws l h)) st:=rfl
theorem mv(h:fe ρ st=.ok (.tup ws) st1):cX fe ρ st=.ok (ws,none) st1:=by unfold cX;rw[h];rfl
theorem ie(h:fe ρ st=.ok (.loc n) st1)(hl:lstOf st1 n=some ws):cX fe ρ st=.ok (ws,some (n,ws)) st1:=by unfold cX;rw[h];simp only[R.bind_ok,hl]
theorem gi{q:Int}(h:fs ρ st=.ok [.int q] st1)(hq:-(2^62)<=q/\q<2^62):ce fs ρ st=.ok (eM 0 q.toNat,none) st1:=by unfold ce;rw[h];simp only[R.bind_ok];rw[au hq]
theorem yE{l:List W}{q:Nat}(h:l.reverse[q]?=some x):tU l (-((q:Int)+1))=some x:=by
 have hq:q<l.length:=by have:=(ac.mp h).1;simpa using this
 unfold tU CW
 rw[ay #[0],au #[0]]
 rw[ei hq]at h
 simp only[Option.bind_some]
 rw[show((-((q:Int)+1))+(l.length:Int)).toNat=l.length-1-q by omega]
 exact h
theorem dF{l:List α}{x:α}(h:l[q]?=some x):tU l (q:Int)=some x:=by
 have hq:q<l.length:=(ac.mp h).1
 unfold tU CW
 rw[au #[0],au #[0]]
 simpa using h
def iF(P:RS->Prop)(r:RS):Prop:=P r
def Dp(I:cy->List am->Prop):RS->Prop:=fun r=>∃ρ st,r=.nx ρ st/\I ρ st
def uu(I:W->List am->Prop):RS->Prop:=fun r=>∃w st,r=.rt w st/\I w st
variable{P:RS->Prop}{f':FS}
theorem cv{r r':RS}(h:r=r')(h2:P r'):iF P r:=by rw[h];exact h2
theorem aB(h:g ρ st=.nx ρ' st1)(h2:iF P (g' ρ' st1)):iF P (aX g g' ρ st):=by rw[Hr h];exact h2
theorem pz(h1:t ρ st=.ok true st1)(h2:iF P (g ρ st1)):iF P (lH t g g' ρ st):=by rw[jx h1 rfl];exact h2
theorem mw(h1:t ρ st=.ok false st1)(h2:iF P (g' ρ st1)):iF P (lH t g g' ρ st):=by rw[vH h1 rfl];exact h2
theorem lK(h1:t ρ st=.ok true st1)(h2:iF P (aX g f' ρ st1)):iF P (aX (lH t g g') f' ρ st):=by
 unfold aX at h2 ⊢;rw[jx h1 rfl];exact h2
theorem cI(h1:t ρ st=.ok false st1)(h2:iF P (aX g' f' ρ st1)):iF P (aX (lH t g g') f' ρ st):=by
 unfold aX at h2 ⊢;rw[vH h1 rfl];exact h2
theorem xM{h:FS}(h2:iF P (aX g (aX g' h) ρ st)):iF P (aX (aX g g') h ρ st):=by
 unfold aX at h2 ⊢
 cases e:g ρ st<;>simp only[e]at h2 ⊢ <;> exact h2
theorem df(h2:iF P (f' ρ st)):iF P (aX d8 f' ρ st):=h2
theorem bB(h:fe ρ st=.ok w st1)(h2:P (.rt w st1)):iF P (dk fe ρ st):=by rw[Ht h];exact h2
theorem ky(h:fe ρ st=.ok w st1)(h2:P (.rt w st1)):iF P (aX (dk fe) f' ρ st):=by rw[Hu (Ht h)];exact h2
theorem du{fi:FI}{f:FG}{body:FS}{k:E6}(I:Nat->cy->List am->Prop)(h:fi ρ st=.ok k st1)(h0:I 0 ρ st1)(hc:∀i ρ st,I i ρ st->hG st k.2)
  (hs:∀i w ρ st,k.1[i]?=some w->I i ρ st->∃ρ',f w ρ=some ρ'/\iF (Dp (I (i+1))) (body ρ' st)) (he:∀ρ st,I k.1.length ρ st->iF P (f' ρ st)):iF P (aX (gm fi f body) f' ρ st):=by
 obtain⟨ρ2,db,e,h2⟩:=vF (f:=f) (body:=body) (ck:=k.2) I (ws:=k.1) (ρ:=ρ) (st:=st1) 0 h0 hc fun i w ρ st hw hI=>by
  rw[fB]at hI ⊢
  obtain⟨ρ',e1,ρ2,db,e2,h2⟩:=hs i w ρ st hw hI
  exact⟨ρ',ρ2,db,e1,e2,h2⟩
 rw[fB]at h2
 exact aB (by rw[Dk h];exact e) (he _ _ h2)
theorem xN{body:FS}(I:Nat->cy->List am->Prop)(n:Nat)(h0:I n ρ st)
  (hs:∀n ρ st,I n ρ st->t ρ st=.ok false st\/(t ρ st=.ok true st/\iF (Dp fun ρ2 db=>∃m,m<n/\I m ρ2 db) (body ρ st))) (he:∀m ρ st,I m ρ st->t ρ st=.ok false st->iF P (f' ρ st)):iF P (aX (ph t body) f' ρ st):=by
 obtain⟨m,ρ2,db,e,h2,h3⟩:=Fe (t:=t) (g:=body) I n h0 fun n ρ st hI=>by
  rcases hs n ρ st hI with e|⟨e,ρ2,db,e2,m,hm,h2⟩
  ·exact .inl e
  ·exact .inr ⟨e,ρ2,db,m,e2,hm,h2⟩
 exact aB e (he _ _ _ h2 h3)
theorem uT{N:Nat}{body:FS}{Q:W->Prop}(h:iF (uu fun w bz=>(∃x,bz=st++x)/\undWs st.length [w]=true/\Q w) (body (ws.map some++List.replicate (N-ws.length) none) st)):∃w,Q w/\dm N body ws st=.ok w st:=by
 obtain⟨w,bz,e,⟨x,rfl⟩,hu,q⟩:=h
 exact⟨w,q,AD e hu⟩
theorem fz{N:Nat}{body:FS}(h:iF (uu fun w' bz=>w'=w/\∃x,bz=st++x) (body (ws.map some++List.replicate (N-ws.length) none) st))(hu:undWs st.length [w]=true):dm N body ws st=.ok w st:=by
 obtain⟨w,bz,e,rfl,x,rfl⟩:=h
 exact AD e hu
theorem ki{N:Nat}{body:FS}{Q:Nat->List am->Prop}(h:iF (uu fun w bz=>∃j x,w=.loc (st.length+j)/\bz=st++x/\Q j x) (body (ws.map some++List.replicate (N-ws.length) none) st)):∃j x,Q j x/\dm N body ws st=.ok (.loc (st.length+j)) (st++x):=by
 obtain⟨w,bz,e,j,x,rfl,rfl,q⟩:=h
 exact⟨j,x,q,Hq e⟩
theorem gR{lo:Int}(h:(eM lo q)[i]?=some w):i<q/\w=.int (lo+i):=by
 unfold eM at h
 obtain⟨h1,h2⟩:=ac.mp h
 simp only[ak,cb]at h1
 exact⟨h1,by rw[<- h2];simp⟩
theorem yF{l:List α}(h:q<=l.length):oI l none (some (q:Int))=l.take q:=by
 unfold oI;rw[HT.sIx_none,HT.sIx_nat,oF h];simp
theorem yG{l:List α}(h:q<=l.length):oI l (some (q:Int)) none=l.drop q:=by
 unfold oI;rw[HT.sIx_none,HT.sIx_nat,oF h];rw[bS #[9]]
theorem iT{q:Int}{n:Nat}(h:0<n):∃m:Nat,m<n/\q%(n:Int)=m:=by
 have h0:0<=q%(n:Int):=iX _ #[0]
 have h1:q%(n:Int)<n:=l8 _ #[0]
 exact⟨(q%(n:Int)).toNat,by omega,by omega⟩
end
section
variable{u:FT}{a b k:Bool}{P:RS->Prop}{g g' f':FS}{w:W}
theorem Qs(h1:t ρ st=.ok a st)(h2:u ρ st=.ok b st):Tv t u ρ st=.ok (a&&b) st:=by cases a;exact Dm h1;exact Dl h1 h2
theorem Qt(h1:t ρ st=.ok a st)(h2:u ρ st=.ok b st):C8 t u ρ st=.ok (a||b) st:=by cases a;exact kh h1 h2;exact Dn h1
theorem Qu(h1:t ρ st=.ok a st):E1 t ρ st=.ok (!a) st:=qk h1 rfl
theorem j3{N:Nat}{body:FS}(h:iF (uu fun w' bz=>w'=w/\bz=st) (body (ws.map some++List.replicate (N-ws.length) none) st)):dm N body ws st=.ok w st:=by
 obtain⟨w,bz,e,rfl,rfl⟩:=h
 exact pT e
end
end L2
open L2
local macro_rules | `(tactic| walk_at "ev1") => `(tactic| first
 | (with_reducible apply dN) <;> rfl
 | (with_reducible apply k_) <;> rfl
 | with_reducible first
  | exact cD | exact aN | exact Qn | exact Ff | exact f9 | exact vJ | exact py | exact Uo
  | apply bN | apply av | apply qj | apply jk | apply bX | apply bY | apply bJ | apply qk | apply Uk
  | apply i9 | apply Hs | apply xJ | apply xK | apply uc | apply j0 | apply Fg | apply Fh | apply bu | apply fP | apply Ht | apply vG
  | apply ga | apply kN | apply jl | apply Ul | apply jy | apply Do | apply Um | apply vI
 | decide
 | (show List.length _ <= ny; exact aE rfl)
 | (show @Eq Nat _ _; exact rfl)
 | (show @Eq Bool _ _; exact rfl)
 | (show @Eq (Option String) _ _; exact rfl)
 | (show @Eq _ _ _; with_reducible assumption))
local macro_rules | `(tactic| walk_at "evs") => `(tactic| repeat' walk_at "ev1")
namespace L2
open PySem PySem.Spec PyProof.Rows
section
variable{ρ' ρ2:cy}{db:List am}{fs:FA}{g gh f':FS}{w:W}{c:Str}{cs:List Str}{P:RS->Prop}{b:Bool}
theorem Hw{N:Nat}{body:FS}(h:iF (Dp fun _ bz=>∃x,bz=st++x) (body (ws.map some++List.replicate (N-ws.length) none) st)):dm N body ws st=.ok .non st:=by
 obtain⟨ρ,bz,e,x,rfl⟩:=h
 unfold dm
 rw[e]
 simp only[xI (st:=st) (x:=x) (ws:=[]) rfl]
theorem rQ(I:cy->List am->Prop)(h:iF (Dp I) (g ρ st))(h2:∀ρ st,I ρ st->iF P (f' ρ st)):iF P (aX g f' ρ st):=by
 obtain⟨ρ',bz,e,hi⟩:=h
 exact aB e (h2 _ _ hi)
end
section
variable{f:FG}
theorem AF{ρ0:cy}(hc:hG st ck)(T:W->Bool)(Y:W->W):∀(ws fZ:List W),(∀w∈ws,∃ρ',f w ρ0=some ρ'/\t ρ' st=.ok (T w) st/\(T w=true->el ρ' st=.ok (Y w) st)) ->
  jS f t el ck ρ0 ws fZ st=.ok (fZ++(ws.filter T).map Y) st
 |[],fZ,_=>by unfold jS;rw[au hc];simp
 |w::ws,fZ,h=>by
  obtain⟨ρ',e1,e2,e3⟩:=h w #[9]
  have ih:=fun fZ=>AF hc T Y ws fZ fun w' hw'=>h w' (by simp[hw'])
  unfold jS
  rw[au hc,e1]
  simp only[e2]
  cases hT:T w with
  |true=>
   simp only[e3 hT]
   rw[ih]
   simp[eG,hT]
  |false=>
   simp only
   rw[ih]
   simp[eG,hT]
theorem pA(T:W->Bool)(Y:W->W)(h:fi ρ st=.ok (ws,ck) st1)(hl:ws.length<=ny)(hc:hG st1 ck)
  (hs:∀w∈ws,∃ρ',f w (oJ cap ρ)=some ρ'/\t ρ' st1=.ok (T w) st1/\(T w=true->el ρ' st1=.ok (Y w) st1)):cV cap fi f t el ρ st=.ok (.loc st1.length) (st1++[.lst ((ws.filter T).map Y)]):=by
 unfold cV
 rw[h]
 simp only[R.bind_ok]
 rw[au hl,AF hc T Y ws [] hs]
 simp only[R.bind_ok,fS,kZ]
 rw[au]
 rw[ak]
 exact aR (cf _ _) hl
theorem mx(Y:W->W)(h:fi ρ st=.ok (ws,ck) st1)(hl:ws.length<=ny)(hc:hG st1 ck)
  (hs:∀w∈ws,∃ρ',f w (oJ cap ρ)=some ρ'/\el ρ' st1=.ok (Y w) st1):cV cap fi f g8 el ρ st=.ok (.loc st1.length) (st1++[.lst (ws.map Y)]):=by
 have:=pA (fi:=fi) (f:=f) (t:=g8) (el:=el) (cap:=cap) (fun _=>true) Y h hl hc fun w hw=>by
  obtain⟨ρ',e1,e2⟩:=hs w hw
  exact⟨ρ',e1,rfl,fun _=>e2⟩
 rw[List.filter_eq_self.mpr (fun _ _=>rfl)]at this
 exact this
theorem s_{lo:Int}{w:W}(h:w∈eM lo q):∃i:Nat,i<q/\w=.int (lo+i):=by
 unfold eM at h
 obtain⟨i,hi,rfl⟩:=aO.mp h
 exact⟨i,aU.mp hi,rfl⟩
theorem kO(h:lstOf st n=some ws):fy [.loc n] st=.ok (.tup ws) st:=by unfold fy;simp only[h,dH]
end
section
end
end L2
namespace P
open PySem L2
open PyProof.Rows (boot_sorted boot_set boot_ord boot_all boot_enumerate boot_int boot_str boot_bool boot_list boot_tuple boot_isinstance boot_max boot_min boot_zip boot_sum)
noncomputable def i_(i:Nat):Stmt:=PySem.Challenge.pw_trunksay_k62_chances.main.body.getD i (.Pass ⟨0,0,0,0⟩)
abbrev Qw:Stmt:=i_ 4
noncomputable abbrev Fi:List Str:=["many"]
noncomputable abbrev Uq:List Str:=["many"]
theorem MQ:bh Fi Uq (aK Qw):=kK
abbrev Qx:Stmt:=i_ 5
noncomputable abbrev vK:List Str:=["machine"]
noncomputable abbrev Ur:List Str:=["machine"]
theorem MR:bh vK Ur (aK Qx):=kK
abbrev Qy:Stmt:=i_ 6
noncomputable abbrev Cg:List Str:=["machine","many"]
noncomputable abbrev Us:List Str:=["machine","many"]
theorem MS:bh Cg Us (aK Qy):=kK
abbrev Qz:Stmt:=i_ 8
noncomputable abbrev Ch:List Str:=["letters"]
noncomputable abbrev Ut:List Str:=["letters"]
theorem Uu:bh Ch Ut (aK Qz):=kK
abbrev QB:Stmt:=i_ 9
noncomputable abbrev Hy:List Str:=["exponent","power","each"]
noncomputable abbrev Uv:List Str:=["exponent"]
theorem MT:bh Hy Uv (aK QB):=kK
abbrev QC:Stmt:=i_ 10
noncomputable abbrev AG:List Str:=["names","marks","number","name"]
noncomputable abbrev Uw:List Str:=["names","marks"]
theorem MU:bh AG Uw (aK QC):=kK
abbrev QD:Stmt:=i_ 11
noncomputable abbrev Ci:List Str:=["names","number","marks","rest","name"]
noncomputable abbrev Ux:List Str:=["names","number"]
theorem MV:bh Ci Ux (aK QD):=kK
abbrev QF:Stmt:=i_ 13
noncomputable abbrev Cj:List Str:=["place"]
noncomputable abbrev Uy:List Str:=["place"]
theorem MW:bh Cj Uy (aK QF):=kK
abbrev QH:Stmt:=i_ 14
noncomputable abbrev AH:List Str:=["place"]
noncomputable abbrev Uz:List Str:=["place"]
theorem MX:bh AH Uz (aK QH):=kK
abbrev QJ:Stmt:=i_ 15
noncomputable abbrev Ck:List Str:=["tree","links","tops","number","place","right","left"]
noncomputable abbrev UA:List Str:=["tree"]
theorem MY:bh Ck UA (aK QJ):=kK
abbrev Hz:Stmt:=i_ 16
noncomputable abbrev HA:List Str:=["tree","lefts","rights","number","pair"]
noncomputable abbrev MZ:List Str:=["tree"]
theorem HC:bh HA MZ (aK Hz):=kK
abbrev HD:Stmt:=i_ 17
noncomputable abbrev Fj:List Str:=["ups","place"]
noncomputable abbrev M0:List Str:=["ups","place"]
theorem HE:bh Fj M0 (aK HD):=kK
abbrev HF:Stmt:=i_ 18
noncomputable abbrev Cm:List Str:=["tree","sizes","left","right","size"]
noncomputable abbrev M1:List Str:=["tree"]
theorem HG:bh Cm M1 (aK HF):=kK
abbrev HH:Stmt:=i_ 20
noncomputable abbrev yH:List Str:=["rooms","number"]
noncomputable abbrev M3:List Str:=["rooms","number"]
theorem HI:bh yH M3 (aK HH):=kK
abbrev HJ:Stmt:=i_ 22
noncomputable abbrev vL:List Str:=["machine"]
noncomputable abbrev M4:List Str:=["machine"]
theorem HK:bh vL M4 (aK HJ):=kK
abbrev HL:Stmt:=i_ 25
noncomputable abbrev vM:List Str:=["names"]
noncomputable abbrev M5:List Str:=["names"]
theorem QK:bh vM M5 (aK HL):=kK
abbrev HM:Stmt:=i_ 26
noncomputable abbrev Fk:List Str:=["marks","names"]
noncomputable abbrev M6:List Str:=["marks","names"]
theorem HN:bh Fk M6 (aK HM):=kK
abbrev HP:Stmt:=i_ 27
noncomputable abbrev yI:List Str:=["machine","names","marks","bare"]
noncomputable abbrev M7:List Str:=["machine","names","marks"]
theorem HQ:bh yI M7 (aK HP):=kK
abbrev HR:Stmt:=i_ 28
noncomputable abbrev Cn:List Str:=["numbers","times","number"]
noncomputable abbrev M8:List Str:=["numbers"]
theorem HS:bh Cn M8 (aK HR):=kK
abbrev HU:Stmt:=i_ 29
noncomputable abbrev AI:List Str:=["machine","times","lefts","rights","many","left","right","pairs","number","each","room"]
noncomputable abbrev M9:List Str:=["machine","times","lefts","rights"]
theorem HW:bh AI M9 (aK HU):=kK
abbrev HX:Stmt:=i_ 30
noncomputable abbrev wP:List Str:=["machine","times","weights","left","right"]
noncomputable abbrev M_:List Str:=["machine","times","weights","left","right"]
theorem HY:bh wP M_ (aK HX):=kK
abbrev HZ:Stmt:=i_ 31
noncomputable abbrev uv:List Str:=["machine","times","weights","left"]
noncomputable abbrev M':List Str:=["machine","times","weights","left"]
theorem H9:bh uv M' (aK HZ):=kK
abbrev H_:Stmt:=i_ 32
noncomputable abbrev vN:List Str:=["machine","times","weights","rights","rooms","found","left"]
noncomputable abbrev Na:List Str:=["machine","times","weights","rights"]
theorem Ia:bh vN Na (aK H_):=kK
abbrev Ib:Stmt:=i_ 33
noncomputable abbrev wQ:List Str:=["tree","begun","sizes","place"]
noncomputable abbrev Nb:List Str:=["tree"]
theorem Ic:bh wQ Nb (aK Ib):=kK
abbrev jz:Stmt:=(mq (i_ 34)).getD 0 (.Pass ⟨0,0,0,0⟩)
noncomputable abbrev rR:List Str:=["self","machine","tree","names","times","pair"]
noncomputable abbrev my:List Str:=["self","machine","tree","names"]
theorem lT:bh rR my (aK jz):=kK
abbrev gT:Stmt:=(mq (i_ 34)).getD 1 (.Pass ⟨0,0,0,0⟩)
noncomputable abbrev oK:List Str:=["self","place"]
noncomputable abbrev jT:List Str:=["self","place"]
theorem jA:bh oK jT (aK gT):=kK
abbrev j5:Stmt:=(mq (i_ 34)).getD 2 (.Pass ⟨0,0,0,0⟩)
noncomputable abbrev tf:List Str:=["self"]
noncomputable abbrev mX:List Str:=["self"]
theorem mz:bh tf mX (aK j5):=kK
abbrev iG:Stmt:=(mq (i_ 34)).getD 3 (.Pass ⟨0,0,0,0⟩)
noncomputable abbrev p6:List Str:=["self","place","up","rights","left"]
noncomputable abbrev lc:List Str:=["self","place"]
theorem kA:bh p6 lc (aK iG):=kK
abbrev j6:Stmt:=(mq (i_ 34)).getD 4 (.Pass ⟨0,0,0,0⟩)
noncomputable abbrev tj:List Str:=["self","place","choice","leads","pair"]
noncomputable abbrev mY:List Str:=["self","place","choice"]
theorem mB:bh tj mY (aK j6):=kK
abbrev kP:Stmt:=(mq (i_ 34)).getD 5 (.Pass ⟨0,0,0,0⟩)
noncomputable abbrev uw:List Str:=["self","place","part"]
noncomputable abbrev ol:List Str:=["self"]
theorem mZ:bh uw ol (aK kP):=kK
abbrev kQ:Stmt:=(mq (i_ 34)).getD 6 (.Pass ⟨0,0,0,0⟩)
noncomputable abbrev uy:List Str:=["self","choice","place"]
noncomputable abbrev om:List Str:=["self","choice"]
theorem m5:bh uy om (aK kQ):=kK
abbrev hU:Stmt:=(mq (i_ 34)).getD 7 (.Pass ⟨0,0,0,0⟩)
noncomputable abbrev pB:List Str:=["self"]
noncomputable abbrev kB:List Str:=["self"]
theorem jU:bh pB kB (aK hU):=kK
abbrev Ie:Stmt:=i_ 35
noncomputable abbrev qJ:List Str:=["course","number","rest","place","choice","offers"]
noncomputable abbrev Nc:List Str:=["course","number"]
theorem Ig:bh qJ Nc (aK Ie):=kK
abbrev Ih:Stmt:=i_ 36
noncomputable abbrev Co:List Str:=["machine","tree","names"]
noncomputable abbrev Nd:List Str:=["machine","tree","names"]
theorem Ii:bh Co Nd (aK Ih):=kK
abbrev Ij:Stmt:=i_ 37
noncomputable abbrev Ik:List Str:=["machine","tree","names","course"]
noncomputable abbrev Nf:List Str:=["machine","tree","names"]
theorem Il:bh Ik Nf (aK Ij):=kK
abbrev Im:Stmt:=i_ 38
noncomputable abbrev yJ:List Str:=["machine","tree","names"]
noncomputable abbrev Ng:List Str:=["machine","tree","names"]
theorem Io:bh yJ Ng (aK Im):=kK
abbrev Ip:Stmt:=i_ 40
noncomputable abbrev AJ:List Str:=["_law_script","_law_k"]
noncomputable abbrev Nh:List Str:=["_law_script","_law_k"]
theorem Iq:bh AJ Nh (aK Ip):=kK
abbrev Ir:Stmt:=i_ 41
noncomputable abbrev yK:List Str:=["_law_cell_here","_law_k","_law_salt","_law_first"]
noncomputable abbrev Nj:List Str:=["_law_cell_here","_law_k","_law_salt"]
theorem Iu:bh yK Nj (aK Ir):=kK
abbrev Iv:Stmt:=i_ 42
noncomputable abbrev yL:List Str:=["_law_cell_here","_law_many","_law_salt","_law_found","_law_rest","_law_k"]
noncomputable abbrev Nk:List Str:=["_law_cell_here","_law_many","_law_salt"]
theorem Iw:bh yL Nk (aK Iv):=kK
abbrev Iy:Stmt:=i_ 43
noncomputable abbrev AK:List Str:=["_law_found","_law_due","_law_k"]
noncomputable abbrev Iz:List Str:=["_law_found","_law_due"]
theorem IA:bh AK Iz (aK Iy):=kK
abbrev IB:Stmt:=i_ 44
noncomputable abbrev AL:List Str:=["_law_cell_here","_law_many","_law_salt","_law_rest","_law_found","_law_d","_law_at"]
noncomputable abbrev Nl:List Str:=["_law_cell_here","_law_many","_law_salt"]
theorem IC:bh AL Nl (aK IB):=kK
abbrev ID:Stmt:=i_ 45
noncomputable abbrev yM:List Str:=["_law_pool_here","_law_number"]
noncomputable abbrev Nm:List Str:=["_law_pool_here","_law_number"]
theorem IE:bh yM Nm (aK ID):=kK
abbrev IF:Stmt:=i_ 46
noncomputable abbrev AM:List Str:=["_law_draws_here","_law_pool_here","_law_found","_law_high","_law_d","_law_branches"]
noncomputable abbrev Nn:List Str:=["_law_draws_here","_law_pool_here"]
theorem IG:bh AM Nn (aK IF):=kK
abbrev IH:Stmt:=i_ 47
noncomputable abbrev yN:List Str:=["_law_tree_here","_law_heap","_law_found","_law_k","_law_left","_law_right"]
noncomputable abbrev No:List Str:=["_law_tree_here"]
theorem II:bh yN No (aK IH):=kK
abbrev IJ:Stmt:=i_ 48
noncomputable abbrev vO:List Str:=["_law_names","_law_many","_law_top","_law_draws_here","_law_good","_law_table","_law_at","_law_letter_here","_law_rows","_law_l"]
noncomputable abbrev Np:List Str:=["_law_names","_law_many","_law_top","_law_draws_here"]
theorem IK:bh vO Np (aK IJ):=kK
abbrev IL:Stmt:=i_ 49
noncomputable abbrev wR:List Str:=["_law_names","_law_marks_here","_law_found","_law_name"]
noncomputable abbrev Nq:List Str:=["_law_names","_law_marks_here"]
theorem IM:bh wR Nq (aK IL):=kK
abbrev IN:Stmt:=i_ 50
noncomputable abbrev Cp:List Str:=["_law_machine_here","_law_tree_here","_law_heap","_law_found","_law_branches","_law_marks_here","_law_left","_law_right"]
noncomputable abbrev Nr:List Str:=["_law_machine_here","_law_tree_here"]
theorem IP:bh Cp Nr (aK IN):=kK
abbrev IQ:Stmt:=i_ 51
noncomputable abbrev AN:List Str:=["_law_machine_here","_law_tree_here"]
noncomputable abbrev Nt:List Str:=["_law_machine_here","_law_tree_here"]
theorem IR:bh AN Nt (aK IQ):=kK
abbrev IS:Stmt:=i_ 52
noncomputable abbrev vP:List Str:=["_law_machine_here","_law_tree_here","_law_names","_law_links_here","_law_found","_law_k","_law_lows","_law_highs","_law_bare","_law_met","_law_way","_law_table","_law_low","_law_high"]
noncomputable abbrev Nu:List Str:=["_law_machine_here","_law_tree_here","_law_names"]
theorem IT:bh vP Nu (aK IS):=kK
abbrev IU:Stmt:=i_ 53
noncomputable abbrev rS:List Str:=["_law_found","_law_tree_here","_law_names","_law_k","_law_marks_here","_law_others"]
noncomputable abbrev Nv:List Str:=["_law_found","_law_tree_here","_law_names"]
theorem IV:bh rS Nv (aK IU):=kK
abbrev IW:Stmt:=i_ 54
noncomputable abbrev wS:List Str:=["_law_draws_here","_law_pool_here","_law_found","_law_k","_law_d"]
noncomputable abbrev Nw:List Str:=["_law_draws_here","_law_pool_here"]
theorem IX:bh wS Nw (aK IW):=kK
abbrev rT:Stmt:=i_ 55
noncomputable abbrev UB:List Str:=["_law_script","_law_shape","_law_many","_law_rooms","_law_pool_here","_law_draws_here","_law_machine_here","_law_lone","_law_names","_law_most","_law_tree_here","_law_due","_law_some","_law_room","_law_told","_law_first"]
noncomputable abbrev IY:List Str:=["_law_script"]
theorem IZ:bh UB IY (aK rT):=kK
structure Bl(mg:Str->Option Value):Prop where
 bool:mg "bool"=Option.none
 enumerate:mg "enumerate"=Option.none
 int:mg "int"=Option.none
 isinstance:mg "isinstance"=Option.none
 len:mg "len"=Option.none
 range:mg "range"=Option.none
 reversed:mg "reversed"=Option.none
 set:mg "set"=Option.none
 sorted:mg "sorted"=Option.none
 str:mg "str"=Option.none
 sum:mg "sum"=Option.none
 tuple:mg "tuple"=Option.none
 zip:mg "zip"=Option.none
noncomputable def qo:W:=.int 4
structure Gc(K:Frag)(mg:Str->Option Value):Prop where
 MOST_FILLED:∃u v,mg "MOST_FILLED"=some u/\cL v u/\∀μ H,bD K μ H qo v
structure Cls(K:Frag)(mg:Str->Option Value):Prop where
 TooGreat:Ub K mg "TooGreat"
structure Ow(K:Frag)(mg:Str->Option Value):Prop where
 Course:Qe K mg "Course" ["begun","counts","links","machine","marks","names","numbers","rooms","times","tree","ups","weights"]
section
variable{w:World}{f:Addr}
local macro_rules | `(tactic| walk_at "w1") => `(tactic| first | exact GL _ | refine yl ?_ ?_ | exact Tr | exact B1 | refine Lp ?_ ?_ | refine WJ ?_ ?_ | refine ym ?_ | refine sS _ ‹_› ?_ | refine WE (by first | exact TU | exact TK | exact vB | exact P_ | exact TM | exact PR | exact TN | exact TQ | exact TR | exact PU) ?_ ?_ | refine T6 ‹_› ‹_› (by omega) ?_ | refine GW ?_ | refine TD ?_ | exact sG _ ‹_› | refine Ui ‹Ow _ _›.Course ?_ | refine Qf ‹Ow _ _›.Course ?_ ?_ | refine Qg ‹_› ‹_› (by omega) ?_ ?_ | refine LJ ‹_› ‹_› (by omega) ?_ | refine Qh ‹_› ‹_› (by omega) ?_ | refine Hl ?_ | refine LR ‹Bl _›.zip ?_ | refine uP MF ‹Bl _›.len boot_len ?_ | refine uP LC ‹Bl _›.sorted boot_sorted ?_ | refine uP Ud ‹Bl _›.sum boot_sum ?_ | refine GM (by first | exact TX ‹_› | exact TY ‹_› | exact TZ ‹_› | exact ME ‹_› | exact w_lt | exact PV | exact TW) ?_ ?_ | refine Tu (by first | exact TX ‹_› | exact TY ‹_› | exact TZ ‹_› | exact ME ‹_› | exact w_lt | exact PV | exact TW) ?_ ?_ | refine MG ?_ ?_ ?_ | exact GV | refine P0 ?_ ?_ ?_ | refine GX ?_ ?_ | exact Lr | refine PX rfl ?_ | refine Lq ?_ | refine Uf ‹_› ?_ ?_ | refine TF ?_ | exact WC | exact Mz | exact Ts | refine Ao T4 ‹Bl _›.int boot_int ?_ | refine Ao Lo ‹Bl _›.tuple boot_tuple ?_ | refine WO PySem.F.slot_list_append PySem.F.type_list_append E9 ?_ ?_ | refine T7 PySem.F.slot_list_pop PySem.F.type_list_pop P2 ?_ | refine T8 PySem.F.slot_str_join PySem.F.type_str_join De ?_ ?_ | refine E8 ‹Bl _›.range ?_ | refine Lz ‹Bl _›.range ?_ | refine yp ‹Bl _›.enumerate ?_ | refine Hh ‹Bl _›.enumerate ?_ | refine LA ‹Bl _›.reversed ?_ | refine Di rfl ?_ (fun _ _ _ _ _ => ?_) (fun _ _ _ _ _ => ?_) (fun _ _ _ _ _ => ?_) | refine t_ (sG _ ‹_›) rfl ?_ (fun _ _ _ _ _ => ?_) (fun _ _ _ _ _ => ?_) (fun _ _ _ _ _ => ?_) | refine Di (m := 0) rfl ?_ (fun _ _ _ _ _ => ?_) (fun _ _ _ _ _ => ?_) (fun _ _ _ _ _ => ?_) | refine t_ (sG _ ‹_›) (m := 0) rfl ?_ (fun _ _ _ _ _ => ?_) (fun _ _ _ _ _ => ?_) (fun _ _ _ _ _ => ?_) | exact XM _ | exact Lu | refine Lv ?_ | refine P6 ?_ | refine PP ?_ | refine Lj ?_ | refine TB ?_ | refine PL ?_ | refine WF (MA ?_ ?_) | refine MA ?_ ?_ | refine PJ ?_ | refine PH ?_ | refine Tz ?_ | refine T_ ?_ | refine WH ?_ ?_ ?_ | refine Tx ?_ ?_ | refine WG ?_ ?_ | refine Tw ?_ | refine Ln ?_ | exact Lm | refine WM ?_ ?_ ?_ | refine GZ (Qa ‹_›) ?_ ?_ ?_ | refine GZ PZ ?_ ?_ ?_ | refine G0 ?_ ?_ | exact Qb | refine LG ‹_› ?_ ?_ ?_ | exact Tt ‹Gc _ _›.MOST_FILLED | refine Dh ‹Bl _›.isinstance ‹Bl _›.bool boot_bool ?_ | refine Dh ‹Bl _›.isinstance ‹Bl _›.int boot_int ?_ | refine Dh ‹Bl _›.isinstance ‹Bl _›.str boot_str ?_ | refine Dh ‹Bl _›.isinstance ‹Bl _›.tuple boot_tuple ?_)
local macro_rules | `(tactic| walk_at "w") => `(tactic| repeat' walk_at "w1")
def UC:FS:=(dk (cV [none,none] (kg (ai (af 0) aA)) (zu 2 (dq (dZ 0) (dq (dZ 1) kq))) (fG (e2 B3 (af 1) (eI 0))) (af 0)))
def wT:List W->List am->R W:=dm 1 UC
theorem UD(F:iZ K "come_to" "come_to" Qw f fd)(B:Bl mg) :c_ P w K mg base (iE P w) 1 f fd Uq (i8 K mg 1 wT):=
 bT (k:=0) F MQ rfl fun fO A outer s H E hr=>by have sc:=MQ;walk_at "w"
def WU:FS:=(dk (bH fy (ai (cV [none] (ce (ai (bH dY (ai (e2 bI (af 0) (eI 1)) aA)) aA)) (dZ 0) g8 (Ai (fG (e2 qW (af 0) (eI 0))) (eI 1) (eI 0))) aA)))
def LS:List W->List am->R W:=dm 1 WU
theorem UE(F:iZ K "empty_counts" "empty_counts" Qx f fd)(B:Bl mg) :c_ P w K mg base (iE P w) 1 f fd Ur (i8 K mg 1 LS):=
 bT (k:=0) F MR rfl fun fO A outer s H E hr=>by have sc:=MR;walk_at "w"
def WW:FS:=(dk (bH Az (ai (cV [none,none] (kM (ai (af 1) (ai (e2 bI (af 0) (eI 1)) aA))) (zu 2 (dq (dZ 0) (dq (dZ 1) kq))) (fG (af 1)) (af 0)) aA)))
def I0:List W->List am->R W:=dm 2 WW
theorem UF(F:iZ K "let_many" "let_many" Qy f fd)(B:Bl mg) :c_ P w K mg base (iE P w) 1 f fd Us (i8 K mg 2 I0):=
 bT (k:=0) F MS rfl fun fO A outer s H E hr=>by have sc:=MS;walk_at "w"
def WX:FS:=(dk (B8 kr (eC (.str [])) (ai (rG (af 0)) aA)))
def LU:List W->List am->R W:=dm 1 WX
theorem UG(F:iZ K "in_order" "in_order" Qz f fd)(B:Bl mg) :c_ P w K mg base (iE P w) 1 f fd Ut (i8 K mg 1 LU):=
 bT (k:=0) F Uu rfl fun fO A outer s H E hr=>(ym (GW (T8 PySem.F.slot_str_join PySem.F.type_str_join De Mz (yl (E_ B.sorted B.set (GL 0)) B1))))
def UH:FS:=(aX (bP 1 (eI 1)) (aX (gm (ce (ai (af 0) aA)) (dZ 2) (bP 1 (e2 fH (af 1) (eI 2)))) (dk (af 1))))
def I_:List W->List am->R W:=dm 3 UH
theorem UI(F:iZ K "two_to" "two_to" QB f fd)(B:Bl mg) :c_ P w K mg base (iE P w) 1 f fd Uv (i8 K mg 1 I_):=
 bT (k:=0) F MT rfl fun fO A outer s H E hr=>by have sc:=MT;walk_at "w"
def UJ:FS:=(aX (bP 2 (eI 0)) (aX (gm (cX (af 0)) (dZ 3) (aX (bP 2 (e2 fH (af 2) (eI 2))) (lH (fG (e2 (rC false) (af 3) (af 1))) (bP 2 (e2 fx (af 2) (eI 1))) d8))) (dk (af 2))))
def Cq:List W->List am->R W:=dm 4 UJ
theorem UK(F:iZ K "letter_of" "letter_of" QC f fd)  :c_ P w K mg base (iE P w) 1 f fd Uw (i8 K mg 2 Cq):=
 bT (k:=0) F MU rfl fun fO A outer s H E hr=>by have sc:=MU;walk_at "w"
def UL:FS:=(aX (bP 2 (eC (.str []))) (aX (bP 3 (af 1)) (aX (gm (B' (ai (af 0) aA)) (dZ 4) (aX (lH (fG (e2 qW (e2 Ak (af 3) (eI 1)) (eI 1))) (bP 2 (e2 fx (af 4) (af 2))) d8) (bP 3 (e2 B2 (af 3) (eI 1))))) (dk (af 2)))))
def AO:List W->List am->R W:=dm 5 UL
theorem UM(F:iZ K "marks_of" "marks_of" QD f fd)(B:Bl mg) :c_ P w K mg base (iE P w) 1 f fd Ux (i8 K mg 2 AO):=
 bT (k:=0) F MV rfl fun fO A outer s H E hr=>by have sc:=MV;walk_at "w"
def WY:FS:=(dk (e2 (rC false) (e2 bI (af 0) (eI 0)) (o_ (ai (eI 1) (ai (eI 3) aA)))))
def Ja:List W->List am->R W:=dm 1 WY
theorem UN(F:iZ K "has_left" "has_left" QF f fd)  :c_ P w K mg base (iE P w) 1 f fd Uy (i8 K mg 1 Ja):=
 bT (k:=0) F MW rfl fun fO A outer s H E hr=>by have sc:=MW;walk_at "w"
def WZ:FS:=(dk (e2 (rC false) (e2 bI (af 0) (eI 0)) (o_ (ai (eI 2) (ai (eI 3) aA)))))
def Jb:List W->List am->R W:=dm 1 WZ
theorem UO(F:iZ K "has_right" "has_right" QH f fd)  :c_ P w K mg base (iE P w) 1 f fd Uz (i8 K mg 1 Jb):=
 bT (k:=0) F MX rfl fun fO A outer s H E hr=>by have sc:=MX;walk_at "w"
def UP:FS:=(aX (bP 1 (ju aA)) (aX (bP 2 (ju aA)) (aX (gm (qH (ai (af 0) aA)) (zu 2 (dq (dZ 3) (dq (dZ 4) kq))) (aX (bP 5 (Ai (fG (cz 1 Jb (ai (af 4) aA))) (n9 rE (af 2) aA) (eC .non))) (aX (bP 6 (Ai (fG (cz 1 Ja (ai (af 4) aA))) (n9 rE (af 2) aA) (eC .non))) (aX (eT (n9 bW (af 2) (ai (af 3) aA))) (eT (n9 bW (af 1) (ai (o_ (ai (af 6) (ai (af 5) aA))) aA))))))) (dk (bH fy (ai (af 1) aA))))))
def AQ:List W->List am->R W:=dm 7 UP
theorem UQ(F:iZ K "links_of" "links_of" QJ f fd)(B:Bl mg)(Vi:dB P w K mg base 1 "has_left" 1 Ja)(Vt:dB P w K mg base 1 "has_right" 1 Jb):c_ P w K mg base (iE P w) 2 f fd UA (i8 K mg 1 AQ):=
 bT (k:=1) F MY rfl fun fO A outer s H E hr=>by have sc:=MY;walk_at "w"
def Jc:FS:=(aX (Aq (cV [none] (cX (af 0)) (dZ 0) g8 (eC .non)) (dZ 1)) (aX (Aq (cV [none] (cX (af 0)) (dZ 0) g8 (eC .non)) (dZ 2)) (aX (gm (qH (ai (cz 1 AQ (ai (af 0) aA)) aA)) (zu 2 (dq (dZ 3) (dq (dZ 4) kq))) (aX (lH (fG (mS (e2 bI (af 4) (eI 0)))) (rD (af 1) (e2 bI (af 4) (eI 0)) (af 3) pe) d8) (lH (fG (mS (e2 bI (af 4) (eI 1)))) (rD (af 2) (e2 bI (af 4) (eI 1)) (af 3) pe) d8))) (dk (o_ (ai (af 1) (ai (af 2) aA)))))))
def Dq:List W->List am->R W:=dm 5 Jc
theorem QL(F:iZ K "ups_of" "ups_of" Hz f fd)(B:Bl mg)(FK:dB P w K mg base 2 "links_of" 1 AQ):c_ P w K mg base (iE P w) 3 f fd MZ (i8 K mg 1 Dq):=
 bT (k:=2) F HC rfl fun fO A outer s H E hr=>by have sc:=HC;walk_at "w"
def UR:FS:=(dk (Ai (fG (mS (e2 bI (e2 bI (af 0) (eI 0)) (af 1)))) (e2 bI (e2 bI (af 0) (eI 0)) (af 1)) (e2 bI (e2 bI (af 0) (eI 1)) (af 1))))
def Dr:List W->List am->R W:=dm 2 UR
theorem QM(F:iZ K "up_from" "up_from" HD f fd)  :c_ P w K mg base (iE P w) 1 f fd M0 (i8 K mg 2 Dr):=
 bT (k:=0) F HE rfl fun fO A outer s H E hr=>by have sc:=HE;walk_at "w"
def US:FS:=(aX (bP 1 (ju aA)) (aX (gm (cX (cz 1 AQ (ai (af 0) aA))) (zu 2 (dq (dZ 2) (dq (dZ 3) kq))) (aX (bP 4 (eI 1)) (aX (lH (fG (mS (af 2))) (bP 4 (e2 fx (af 4) (e2 bI (af 1) (af 2)))) d8) (aX (lH (fG (mS (af 3))) (bP 4 (e2 fx (af 4) (e2 bI (af 1) (af 3)))) d8) (eT (n9 bW (af 1) (ai (af 4) aA))))))) (dk (bH fy (ai (af 1) aA)))))
def Ds:List W->List am->R W:=dm 5 US
theorem QN(F:iZ K "sizes_of" "sizes_of" HF f fd)(B:Bl mg)(FK:dB P w K mg base 2 "links_of" 1 AQ):c_ P w K mg base (iE P w) 3 f fd M1 (i8 K mg 1 Ds):=
 bT (k:=2) F HG rfl fun fO A outer s H E hr=>by have sc:=HG;walk_at "w"
def UT:FS:=(dk (Ai (fG (vj (af 1))) (eI 0) (e2 bI (af 0) (af 1))))
def vQ:List W->List am->R W:=dm 2 UT
theorem QO(F:iZ K "room_below" "room_below" HH f fd)  :c_ P w K mg base (iE P w) 1 f fd M3 (i8 K mg 2 vQ):=
 bT (k:=0) F HI rfl fun fO A outer s H E hr=>by have sc:=HI;walk_at "w"
def Nx:FS:=(dk (cV [none] (cX (e2 bI (af 0) (eI 1))) (dZ 0) g8 (Ai (fG (af 0)) (eI 1) (eI 0))))
def Dt:List W->List am->R W:=dm 1 Nx
theorem QP(F:iZ K "good_weights" "good_weights" HJ f fd)  :c_ P w K mg base (iE P w) 1 f fd M4 (i8 K mg 1 Dt):=
 bT (k:=0) F HK rfl fun fO A outer s H E hr=>by have sc:=HK;walk_at "w"
def UU:FS:=(lH (fG (e2 B3 (bH dY (ai (af 0) aA)) (eC qo))) (G8 "TooGreat") d8)
def Du:List W->List am->R W:=dm 1 UU
theorem QQ(F:iZ K "check_filled" "check_filled" HL f fd)(B:Bl mg)(G:Gc K mg)(C:Cls K mg) :c_ P w K mg base (iE P w) 1 f fd M5 (i8 K mg 1 Du):=
 bT (k:=0) F QK rfl fun fO A outer s H E hr=>(ym (MG (GM PV (uP MF B.len boot_len (yl (GL 0) B1)) (Tt G.MOST_FILLED)) (ym (G9 C.TooGreat)) GV))
def Ny:FS:=(dk (B8 kr (eC (.str [])) (ai (cV [none,some 1] (cX (af 0)) (dZ 0) (fG (e2 (rC true) (af 0) (af 1))) (af 0)) aA)))
def xO:List W->List am->R W:=dm 2 Ny
theorem QR(F:iZ K "without" "without" HM f fd)  :c_ P w K mg base (iE P w) 1 f fd M6 (i8 K mg 2 xO):=
 bT (k:=0) F HN rfl fun fO A outer s H E hr=>by have sc:=HN;walk_at "w"
def Nz:FS:=(aX (bP 3 (cz 2 Cq (ai (e2 bI (af 0) (eI 0)) (ai (cz 2 xO (ai (af 2) (ai (af 1) aA))) aA)))) (dk (cV [none,some 3,some 0,some 1] (ce (ai (cz 1 I_ (ai (bH dY (ai (af 1) aA)) aA)) aA)) (dZ 0) g8 (e2 fx (af 1) (cz 2 Cq (ai (e2 bI (af 2) (eI 0)) (ai (cz 2 AO (ai (af 3) (ai (af 0) aA))) aA)))))))
def AR:List W->List am->R W:=dm 4 Nz
theorem QT(F:iZ K "numbers_at" "numbers_at" HP f fd)(B:Bl mg)(Vk:dB P w K mg base 1 "letter_of" 2 Cq)(Mo:dB P w K mg base 1 "marks_of" 2 AO)(Vg:dB P w K mg base 1 "two_to" 1 I_)(En:dB P w K mg base 1 "without" 2 xO):c_ P w K mg base (iE P w) 2 f fd M7 (i8 K mg 3 AR):=
 bT (k:=1) F HQ rfl fun fO A outer s H E hr=>by have sc:=HQ;walk_at "w"
def NA:FS:=(aX (bP 1 Hc) (aX (gm (cX (af 0)) (dZ 2) (rD (af 1) (af 2) (e2 fx (yy (af 1) (af 2) (eI 0)) (eI 1)) rL)) (dk (af 1))))
def AS:List W->List am->R W:=dm 3 NA
theorem QU(F:iZ K "times_of" "times_of" HR f fd)  :c_ P w K mg base (iE P w) 1 f fd M8 (i8 K mg 1 AS):=
 bT (k:=0) F HS rfl fun fO A outer s H E hr=>by have sc:=HS;walk_at "w"
def Jd:FS:=(aX (Aq (cV [none] (cX (e2 bI (af 0) (eI 1))) (dZ 0) g8 (eI 0)) (dZ 4)) (aX (gm (cX (cz 1 wT (ai (af 2) aA))) (dZ 5) (gm (cX (cz 1 wT (ai (af 3) aA))) (dZ 6) (aX (bP 7 (e2 fH (e2 bI (af 2) (af 5)) (e2 bI (af 3) (af 6)))) (gm (rO (af 1)) (zu 2 (dq (dZ 8) (dq (dZ 9) kq))) (aX (bP 10 (e2 bI (e2 bI (e2 bI (e2 bI (af 0) (eI 2)) (af 8)) (af 5)) (af 6))) (rD (af 4) (af 10) (e2 fx (e2 bI (af 4) (af 10)) (e2 fH (af 7) (af 9))) pe)))))) (dk (af 4))))
def Dv:List W->List am->R W:=dm 11 Jd
theorem QV(F:iZ K "counts_at" "counts_at" HU f fd) (FC:dB P w K mg base 1 "come_to" 1 wT):c_ P w K mg base (iE P w) 2 f fd M9 (i8 K mg 4 Dv):=
 bT (k:=1) F HW rfl fun fO A outer s H E hr=>by have sc:=HW;walk_at "w"
def UV:FS:=(dk (bH Az (ai (cV [none,none,some 2,some 4,some 3,some 0] (rO (af 1)) (zu 2 (dq (dZ 0) (dq (dZ 1) kq))) g8 (e2 fH (e2 bI (af 2) (e2 bI (e2 bI (e2 bI (e2 bI (af 5) (eI 2)) (af 0)) (af 4)) (af 3))) (af 1))) aA)))
def ud:List W->List am->R W:=dm 5 UV
theorem QW(F:iZ K "pair_weight" "pair_weight" HX f fd)(B:Bl mg) :c_ P w K mg base (iE P w) 1 f fd M_ (i8 K mg 5 ud):=
 bT (k:=0) F HY rfl fun fO A outer s H E hr=>by have sc:=HY;walk_at "w"
def NB:FS:=(dk (cV [none,some 0,some 1,some 2,some 3] (ce (ai (bH dY (ai (af 2) aA)) aA)) (dZ 0) g8 (cz 5 ud (ai (af 1) (ai (af 2) (ai (af 3) (ai (af 4) (ai (af 0) aA))))))))
def Dw:List W->List am->R W:=dm 4 NB
theorem QX(F:iZ K "right_weights" "right_weights" HZ f fd)(B:Bl mg)(Er:dB P w K mg base 1 "pair_weight" 5 ud):c_ P w K mg base (iE P w) 2 f fd M' (i8 K mg 4 Dw):=
 bT (k:=1) F H9 rfl fun fO A outer s H E hr=>by have sc:=H9;walk_at "w"
def NC:FS:=(aX (bP 4 (cz 1 wT (ai (af 3) aA))) (aX (bP 5 (ju aA)) (aX (gm (ce (ai (bH dY (ai (af 2) aA)) aA)) (dZ 6) (eT (n9 bW (af 5) (ai (bH Az (ai (cV [none,some 0,some 1,some 2,some 6,some 3] (cX (af 4)) (dZ 0) g8 (e2 fH (cz 5 ud (ai (af 1) (ai (af 2) (ai (af 3) (ai (af 4) (ai (af 0) aA)))))) (e2 bI (af 5) (af 0)))) aA)) aA)))) (dk (af 5)))))
def Dx:List W->List am->R W:=dm 7 NC
theorem QY(F:iZ K "left_weights" "left_weights" H_ f fd)(B:Bl mg)(FC:dB P w K mg base 1 "come_to" 1 wT)(Er:dB P w K mg base 1 "pair_weight" 5 ud):c_ P w K mg base (iE P w) 2 f fd Na (i8 K mg 4 Dx):=
 bT (k:=1) F Ia rfl fun fO A outer s H E hr=>by have sc:=Ia;walk_at "w"
def ND:FS:=(aX (Aq (cV [none] (cX (af 0)) (dZ 0) g8 (ju aA)) (dZ 1)) (aX (bP 2 (cz 1 Ds (ai (af 0) aA))) (aX (gm (yu (ai (e2 uq (bH dY (ai (af 0) aA)) (eI 1)) (ai (yq (eI 1)) (ai (yq (eI 1)) aA)))) (dZ 3) (eT (n9 bW (e2 bI (af 1) (e2 uq (e2 fx (af 3) (eI 1)) (e2 bI (af 2) (af 3)))) (ai (af 3) aA)))) (dk (af 1)))))
def Dy:List W->List am->R W:=dm 4 ND
theorem QZ(F:iZ K "parts_begun" "parts_begun" Ib f fd)(B:Bl mg)(Om:dB P w K mg base 3 "sizes_of" 1 Ds):c_ P w K mg base (iE P w) 4 f fd Nb (i8 K mg 1 Dy):=
 bT (k:=3) F Ic rfl fun fO A outer s H E hr=>by have sc:=Ic;walk_at "w"
def oM:FS:=(dk (Ai (fG (vj (af 1))) (cz 1 LS (ai (d7 "Course" "machine" (af 0)) aA)) (e2 bI (d7 "Course" "counts" (af 0)) (af 1))))
def bU:List W->List am->R W:=dm 2 oM
theorem nI(F:iZ K "counts_below" "Course.counts_below" gT f fd)(O:Ow K mg)(Vv:dB P w K mg base 1 "empty_counts" 1 LS):c_ P w K mg base (iE P w) 2 f fd jT (i8 K mg 2 bU):=
 bT (k:=1) F jA rfl fun fO A outer s H E hr=>by have sc:=jA;walk_at "w"
def gW:FS:=(aX (eT (cz 1 Du (ai (af 3) aA))) (aX (p5 "Course" "machine" (af 0) (af 1)) (aX (p5 "Course" "tree" (af 0) (af 2)) (aX (p5 "Course" "names" (af 0) (af 3)) (aX (p5 "Course" "links" (af 0) (cz 1 AQ (ai (af 2) aA))) (aX (p5 "Course" "ups" (af 0) (cz 1 Dq (ai (af 2) aA))) (aX (p5 "Course" "begun" (af 0) (cz 1 Dy (ai (af 2) aA))) (aX (p5 "Course" "numbers" (af 0) (cV [none,some 1,some 3] (cX (af 2)) (dZ 0) g8 (cz 3 AR (ai (af 1) (ai (af 2) (ai (e2 bI (af 0) (eI 1)) aA)))))) (aX (p5 "Course" "times" (af 0) (cV [none] (cX (d7 "Course" "numbers" (af 0))) (dZ 0) g8 (cz 1 AS (ai (af 0) aA)))) (aX (p5 "Course" "counts" (af 0) (ju aA)) (aX (gm (kM (ai (d7 "Course" "times" (af 0)) (ai (d7 "Course" "links" (af 0)) aA))) (zu 2 (dq (dZ 4) (dq (dZ 5) kq))) (eT (n9 bW (d7 "Course" "counts" (af 0)) (ai (cz 4 Dv (ai (af 1) (ai (af 4) (ai (kt "Course" "counts_below" 2 bU (af 0) (ai (e2 bI (af 5) (eI 0)) aA)) (ai (kt "Course" "counts_below" 2 bU (af 0) (ai (e2 bI (af 5) (eI 1)) aA)) aA))))) aA)))) (aX (p5 "Course" "weights" (af 0) Hc) (aX (p5 "Course" "rooms" (af 0) (ju aA)) (p5 "Course" "marks" (af 0) (ju aA)))))))))))))))
def cJ:List W->List am->R W:=dm 6 gW
theorem qK(F:iZ K "__init__" "Course.__init__" jz f fd)(B:Bl mg)(O:Ow K mg)(dA:lu P w K mg base 2 "Course" "counts_below" 2 bU)(Oe:dB P w K mg base 1 "check_filled" 1 Du)(On:dB P w K mg base 2 "counts_at" 4 Dv)(FK:dB P w K mg base 2 "links_of" 1 AQ)(Og:dB P w K mg base 2 "numbers_at" 3 AR)(NV:dB P w K mg base 4 "parts_begun" 1 Dy)(NT:dB P w K mg base 1 "times_of" 1 AS)(N3:dB P w K mg base 3 "ups_of" 1 Dq):c_ P w K mg base (iE P w) 5 f fd my (i8 K mg 4 cJ):=
 bT (k:=4) F lT rfl fun fO A outer s H E hr=>by have sc:=lT;walk_at "w"
def tq:FS:=(dk (cz 2 I0 (ai (d7 "Course" "machine" (af 0)) (ai (kt "Course" "counts_below" 2 bU (af 0) (ai (Ai (fG (e2 B3 (bH dY (ai (d7 "Course" "tree" (af 0)) aA)) (eI 0))) (e2 uq (bH dY (ai (d7 "Course" "tree" (af 0)) aA)) (eI 1)) (eC .non)) aA)) aA))))
def eE:List W->List am->R W:=dm 1 tq
theorem rV(F:iZ K "let_all" "Course.let_all" j5 f fd)(B:Bl mg)(O:Ow K mg)(dA:lu P w K mg base 2 "Course" "counts_below" 2 bU)(Vw:dB P w K mg base 1 "let_many" 2 I0):c_ P w K mg base (iE P w) 3 f fd mX (i8 K mg 1 eE):=
 bT (k:=2) F mz rfl fun fO A outer s H E hr=>by have sc:=mz;walk_at "w"
def iH:FS:=(aX (bP 2 (cz 2 Dr (ai (d7 "Course" "ups" (af 0)) (ai (af 1) aA)))) (lH (fG (vj (af 2))) (rD (d7 "Course" "weights" (af 0)) (af 1) (cz 1 Dt (ai (d7 "Course" "machine" (af 0)) aA)) rL) (lH (fG (e2 qW (e2 bI (e2 bI (d7 "Course" "links" (af 0)) (af 2)) (eI 0)) (af 1))) (aX (bP 3 (kt "Course" "counts_below" 2 bU (af 0) (ai (e2 bI (e2 bI (d7 "Course" "links" (af 0)) (af 2)) (eI 1)) aA))) (rD (d7 "Course" "weights" (af 0)) (af 1) (cz 4 Dx (ai (d7 "Course" "machine" (af 0)) (ai (e2 bI (d7 "Course" "times" (af 0)) (af 2)) (ai (e2 yx (d7 "Course" "weights" (af 0)) (af 2)) (ai (af 3) aA))))) rL)) (aX (bP 4 (cz 2 vQ (ai (d7 "Course" "rooms" (af 0)) (ai (e2 bI (e2 bI (d7 "Course" "links" (af 0)) (af 2)) (eI 0)) aA)))) (rD (d7 "Course" "weights" (af 0)) (af 1) (cz 4 Dw (ai (d7 "Course" "machine" (af 0)) (ai (e2 bI (d7 "Course" "times" (af 0)) (af 2)) (ai (e2 yx (d7 "Course" "weights" (af 0)) (af 2)) (ai (af 4) aA))))) rL)))))
def dW:List W->List am->R W:=dm 5 iH
theorem pD(F:iZ K "begin_part" "Course.begin_part" iG f fd)(O:Ow K mg)(dA:lu P w K mg base 2 "Course" "counts_below" 2 bU)(N6:dB P w K mg base 1 "good_weights" 1 Dt)(N9:dB P w K mg base 2 "left_weights" 4 Dx)(Of:dB P w K mg base 2 "right_weights" 4 Dw)(Ep:dB P w K mg base 1 "room_below" 2 vQ)(N4:dB P w K mg base 1 "up_from" 2 Dr):c_ P w K mg base (iE P w) 3 f fd lc (i8 K mg 2 dW):=
 bT (k:=2) F kA rfl fun fO A outer s H E hr=>by have sc:=kA;walk_at "w"
def tt:FS:=(aX (bP 3 (e2 bI (e2 bI (d7 "Course" "machine" (af 0)) (eI 2)) (e2 bI (e2 bI (d7 "Course" "numbers" (af 0)) (af 1)) (af 2)))) (aX (bP 4 (e2 bI (d7 "Course" "links" (af 0)) (af 1))) (dk (e2 bI (e2 bI (af 3) (cz 2 vQ (ai (d7 "Course" "rooms" (af 0)) (ai (e2 bI (af 4) (eI 0)) aA)))) (cz 2 vQ (ai (d7 "Course" "rooms" (af 0)) (ai (e2 bI (af 4) (eI 1)) aA)))))))
def dI:List W->List am->R W:=dm 5 tt
theorem rW(F:iZ K "room_by" "Course.room_by" j6 f fd)(O:Ow K mg)(Ep:dB P w K mg base 1 "room_below" 2 vQ):c_ P w K mg base (iE P w) 2 f fd mY (i8 K mg 3 dI):=
 bT (k:=1) F mB rfl fun fO A outer s H E hr=>by have sc:=mB;walk_at "w"
def kR:FS:=(aX (bP 1 (bH dY (ai (d7 "Course" "rooms" (af 0)) aA))) (aX (gm (cX (e2 bI (d7 "Course" "begun" (af 0)) (af 1))) (dZ 2) (eT (kt "Course" "begin_part" 2 dW (af 0) (ai (af 2) aA)))) (dk (cV [none,some 1,some 0] (ce (ai (bH dY (ai (e2 bI (d7 "Course" "numbers" (af 0)) (af 1)) aA)) aA)) (dZ 0) g8 (e2 bI (e2 yx (d7 "Course" "weights" (af 2)) (af 1)) (kt "Course" "room_by" 3 dI (af 2) (ai (af 1) (ai (af 0) aA))))))))
def gJ:List W->List am->R W:=dm 3 kR
theorem tu(F:iZ K "offers" "Course.offers" kP f fd)(B:Bl mg)(O:Ow K mg)(lh:lu P w K mg base 3 "Course" "begin_part" 2 dW)(ik:lu P w K mg base 2 "Course" "room_by" 3 dI):c_ P w K mg base (iE P w) 4 f fd ol (i8 K mg 1 gJ):=
 bT (k:=3) F mZ rfl fun fO A outer s H E hr=>by have sc:=mZ;walk_at "w"
def kS:FS:=(aX (bP 2 (bH dY (ai (d7 "Course" "rooms" (af 0)) aA))) (aX (eT (n9 bW (d7 "Course" "rooms" (af 0)) (ai (kt "Course" "room_by" 3 dI (af 0) (ai (af 2) (ai (af 1) aA))) aA))) (eT (n9 bW (d7 "Course" "marks" (af 0)) (ai (cz 1 LU (ai (e2 fx (cz 2 xO (ai (e2 bI (e2 bI (d7 "Course" "tree" (af 0)) (af 2)) (eI 1)) (ai (d7 "Course" "names" (af 0)) aA))) (cz 2 AO (ai (d7 "Course" "names" (af 0)) (ai (af 1) aA)))) aA)) aA)))))
def fQ:List W->List am->R W:=dm 3 kS
theorem tz(F:iZ K "choose" "Course.choose" kQ f fd)(B:Bl mg)(O:Ow K mg)(ik:lu P w K mg base 2 "Course" "room_by" 3 dI)(Vm:dB P w K mg base 1 "in_order" 1 LU)(Mo:dB P w K mg base 1 "marks_of" 2 AO)(En:dB P w K mg base 1 "without" 2 xO):c_ P w K mg base (iE P w) 3 f fd om (i8 K mg 2 fQ):=
 bT (k:=2) F m5 rfl fun fO A outer s H E hr=>by have sc:=m5;walk_at "w"
def pE:FS:=(dk (bH fy (ai (cV [none,none] (kM (ai (d7 "Course" "tree" (af 0)) (ai (d7 "Course" "marks" (af 0)) aA))) (zu 2 (dq (dZ 0) (dq (dZ 1) kq))) g8 (o_ (ai (e2 bI (af 0) (eI 0)) (ai (af 1) aA)))) aA)))
def eN:List W->List am->R W:=dm 1 pE
theorem oN(F:iZ K "filled_tree" "Course.filled_tree" hU f fd)(B:Bl mg)(O:Ow K mg) :c_ P w K mg base (iE P w) 1 f fd kB (i8 K mg 1 eN):=
 bT (k:=0) F jU rfl fun fO A outer s H E hr=>by have sc:=jU;walk_at "w"
def Je:FS:=(aX (bP 2 (af 1)) (aX (gm (cX (d7 "Course" "tree" (af 0))) (dZ 3) (aX (bP 4 (eI 0)) (aX (bP 5 (kt "Course" "offers" 1 gJ (af 0) aA)) (aX (ph (fG (e2 MD (af 2) (e2 bI (af 5) (af 4)))) (aX (bP 2 (e2 uq (af 2) (e2 bI (af 5) (af 4)))) (bP 4 (e2 fx (af 4) (eI 1))))) (eT (kt "Course" "choose" 2 fQ (af 0) (ai (af 4) aA))))))) (dk (kt "Course" "filled_tree" 1 eN (af 0) aA))))
def Dz:List W->List am->R W:=dm 6 Je
theorem Q0(F:iZ K "numbered_filling" "numbered_filling" Ie f fd)(O:Ow K mg)(oo:lu P w K mg base 3 "Course" "choose" 2 fQ)(kF:lu P w K mg base 1 "Course" "filled_tree" 1 eN)(ou:lu P w K mg base 4 "Course" "offers" 1 gJ):c_ P w K mg base (iE P w) 5 f fd Nc (i8 K mg 2 Dz):=
 bT (k:=4) F Ig rfl fun fO A outer s H E hr=>by have sc:=Ig;walk_at "w"
def UW:FS:=(dk (kt "Course" "let_all" 1 eE (vE "Course" 4 cJ (ai (af 0) (ai (af 1) (ai (af 2) aA)))) aA))
def DA:List W->List am->R W:=dm 3 UW
theorem Q2(F:iZ K "fillings" "fillings" Ih f fd) (eV:Fc P w K mg base 5 "Course" 4 cJ)(ii:lu P w K mg base 3 "Course" "let_all" 1 eE):c_ P w K mg base (iE P w) 7 f fd Nd (i8 K mg 3 DA):=
 bT (k:=6) F Ii rfl fun fO A outer s H E hr=>by have sc:=Ii;walk_at "w"
def UX:FS:=(aX (bP 3 (vE "Course" 4 cJ (ai (af 0) (ai (af 1) (ai (af 2) aA))))) (dk (Ai (fG (e2 B3 (kt "Course" "let_all" 1 eE (af 3) aA) (eI 0))) (cz 2 Dz (ai (af 3) (ai (eI 0) aA))) (eC .non))))
def AT:List W->List am->R W:=dm 4 UX
theorem Q3(F:iZ K "filled" "filled" Ij f fd) (eV:Fc P w K mg base 5 "Course" 4 cJ)(ii:lu P w K mg base 3 "Course" "let_all" 1 eE)(N':dB P w K mg base 5 "numbered_filling" 2 Dz):c_ P w K mg base (iE P w) 7 f fd Nf (i8 K mg 3 AT):=
 bT (k:=6) F Il rfl fun fO A outer s H E hr=>by have sc:=Il;walk_at "w"
def UY:FS:=(dk (bH fy (ai (cV [none] (cX (d7 "Course" "counts" (vE "Course" 4 cJ (ai (af 0) (ai (af 1) (ai (af 2) aA)))))) (dZ 0) g8 (bH fy (ai (cz 1 wT (ai (af 0) aA)) aA))) aA)))
def DB:List W->List am->R W:=dm 3 UY
theorem Q4(F:iZ K "chances_of" "chances_of" Im f fd)(B:Bl mg)(O:Ow K mg)(eV:Fc P w K mg base 5 "Course" 4 cJ)(FC:dB P w K mg base 1 "come_to" 1 wT):c_ P w K mg base (iE P w) 7 f fd Ng (i8 K mg 3 DB):=
 bT (k:=6) F Io rfl fun fO A outer s H E hr=>by have sc:=Io;walk_at "w"
def UZ:FS:=(aX (lH (fG (e2 qW (bH dY (ai (af 0) aA)) (eI 0))) (dk (eI 0)) d8) (dk (e2 bI (af 0) (e2 jr (af 1) (bH dY (ai (af 0) aA))))))
def ue:List W->List am->R W:=dm 2 UZ
theorem Q5(F:iZ K "_law_cell" "_law_cell" Ip f fd)(B:Bl mg) :c_ P w K mg base (iE P w) 1 f fd Nh (i8 K mg 2 ue):=
 bT (k:=0) F Iq rfl fun fO A outer s H E hr=>by have sc:=Iq;walk_at "w"
def U0:FS:=(aX (bP 3 (e2 jr (e2 fH (e2 fx (e2 fx (e2 fx (af 0) (e2 fH (e2 fH (eI 7) (af 1)) (af 1))) (e2 fH (eI 13) (af 1))) (af 2)) (eI 69621)) (eI 2147483647))) (dk (e2 jr (e2 fH (e2 jr (e2 fx (e2 fx (e2 fH (af 3) (e2 fx (e2 rB (af 3) (eI 1009)) (eI 3))) (e2 fH (eI 31) (af 1))) (af 2)) (eI 2147483629)) (eI 48271)) (eI 1000000007))))
def AU:List W->List am->R W:=dm 4 U0
theorem Q6(F:iZ K "_law_mixed" "_law_mixed" Ir f fd)  :c_ P w K mg base (iE P w) 1 f fd Nj (i8 K mg 3 AU):=
 bT (k:=0) F Iu rfl fun fO A outer s H E hr=>by have sc:=Iu;walk_at "w"
def NE:FS:=(aX (bP 3 (ju aA)) (aX (bP 4 (eI 0)) (aX (lH (fG (e2 MD (af 0) (e2 TJ (eI 10) (eI 18)))) (bP 4 (af 0)) d8) (aX (gm (ce (ai (af 1) aA)) (dZ 5) (lH (fG (e2 B3 (af 4) (eI 0))) (aX (eT (n9 bW (af 3) (ai (e2 jr (af 4) (eI 64)) aA))) (bP 4 (e2 rB (af 4) (eI 64)))) (eT (n9 bW (af 3) (ai (cz 3 AU (ai (af 0) (ai (af 5) (ai (af 2) aA)))) aA))))) (dk (af 3))))))
def qp:List W->List am->R W:=dm 6 NE
theorem Q7(F:iZ K "_law_draws" "_law_draws" Iv f fd)(B:Bl mg)(Ol:dB P w K mg base 1 "_law_mixed" 3 AU):c_ P w K mg base (iE P w) 2 f fd Nk (i8 K mg 3 qp):=
 bT (k:=1) F Iw rfl fun fO A outer s H E hr=>by have sc:=Iw;walk_at "w"
def Jf(Vn:List W->List am->R W):FS:=(aX (lH (fG (pZ "tuple" (af 1))) (aX (lH (C8 (E1 (fG (pZ "tuple" (af 0)))) (fG (e2 FR (bH dY (ai (af 0) aA)) (bH dY (ai (af 1) aA))))) (dk (eC (.bl false))) d8) (aX (gm (ce (ai (bH dY (ai (af 1) aA)) aA)) (dZ 2) (lH (E1 (fG (cz 2 Vn (ai (e2 bI (af 0) (af 2)) (ai (e2 bI (af 1) (af 2)) aA))))) (dk (eC (.bl false))) d8)) (dk (eC (.bl true))))) d8) (aX (lH (fG (vj (af 1))) (dk (vj (af 0))) d8) (aX (lH (fG (pZ "bool" (af 1))) (dk (Ah (pZ "bool" (af 0)) (e2 qW (af 0) (af 1)))) d8) (aX (lH (fG (pZ "int" (af 1))) (dk (Ah (pZ "int" (af 0)) (Ah (Li (pZ "bool" (af 0))) (e2 qW (af 0) (af 1))))) d8) (dk (Ah (pZ "str" (af 0)) (e2 qW (af 0) (af 1))))))))
def on:Nat->List W->List am->R W
 |0=>fun _ _=>.bad
 |k+1=>dm 3 (Jf (on k))
theorem DC{Kb:Addr}{RY:FuncData}(xY:iZ K "_law_same" "_law_same" Iy Kb RY)(Bm:mg "_law_same"=some (.ref Kb))(B:Bl mg) :∀k:Nat,dB P w K mg base (0+k) "_law_same" 2 (on k)
 |0=>G7 (ps:=Iz) xY Bm rfl (by(intro _ _ _ _ _ _ _ q;(repeat(have k:=Ug q;clear q;obtain⟨_,_,rfl,q⟩:=k));cases List.eq_nil_of_length_eq_zero q;rfl))
 |k+1=>by
  have Bv:=DC xY Bm B  k
  exact yo (ps:=Iz) xY Bm rfl (by(intro _ _ _ _ _ _ _ q;(repeat(have k:=Ug q;clear q;obtain⟨_,_,rfl,q⟩:=k));cases List.eq_nil_of_length_eq_zero q;rfl)) (bT (k:=0+k) xY IA rfl fun fO A outer s H E hr=>by have sc:=IA;walk_at "w")
def NF:FS:=(aX (bP 3 (eC (.str [65,66,67,68,69,70,71,72,73,74,75,76,77,78,79,80,81,82,83,84,85,86,87,88,89,90,97,98,99,100,101,102,103,104,105,106,107,108,109,110,111,112,113,114,115,116,117,118,119,120,121,122]))) (aX (bP 4 (eC (.str []))) (aX (gm (cX (cz 3 qp (ai (af 0) (ai (af 1) (ai (af 2) aA))))) (dZ 5) (aX (bP 6 (e2 jr (af 5) (bH dY (ai (af 3) aA)))) (aX (bP 4 (e2 fx (af 4) (e2 bI (af 3) (af 6)))) (bP 3 (e2 fx (GU (af 3) qf (pd (af 6))) (GU (af 3) (pd (e2 fx (af 6) (eI 1))) qf)))))) (dk (af 4)))))
def AV:List W->List am->R W:=dm 7 NF
theorem Q8(F:iZ K "_law_pool" "_law_pool" IB f fd)(B:Bl mg)(Es:dB P w K mg base 2 "_law_draws" 3 qp):c_ P w K mg base (iE P w) 3 f fd Nl (i8 K mg 3 AV):=
 bT (k:=2) F IC rfl fun fO A outer s H E hr=>by have sc:=IC;walk_at "w"
def NG:FS:=(dk (B8 kr (eC (.str [])) (ai (bH lQ (ai (cV [none,some 0,some 1] (ce (ai (bH dY (ai (af 0) aA)) aA)) (dZ 0) (fG (e2 qW (e2 Ak (e2 B2 (af 2) (af 0)) (eI 1)) (eI 1))) (e2 bI (af 1) (af 0))) aA)) aA)))
def pF:List W->List am->R W:=dm 2 NG
theorem Q9(F:iZ K "_law_marks" "_law_marks" ID f fd)(B:Bl mg) :c_ P w K mg base (iE P w) 1 f fd Nm (i8 K mg 2 pF):=
 bT (k:=0) F IE rfl fun fO A outer s H E hr=>by have sc:=IE;walk_at "w"
def NH:FS:=(aX (bP 2 (ju aA)) (aX (bP 3 (eI 0)) (aX (gm (cX (af 0)) (dZ 4) (aX (bP 5 (e2 jr (af 4) (eI 4))) (aX (lH (fG (e2 B3 (e2 rB (e2 fx (af 5) (eI 1)) (eI 2)) (af 3))) (bP 5 (eI 0)) d8) (aX (eT (n9 bW (af 2) (ai (o_ (ai (af 5) (ai (cz 2 pF (ai (af 1) (ai (e2 jr (e2 rB (af 4) (eI 4)) (eI 16)) aA))) aA))) aA))) (bP 3 (e2 uq (e2 fx (af 3) (eI 1)) (e2 rB (e2 fx (af 5) (eI 1)) (eI 2)))))))) (aX (ph (fG (e2 B3 (af 3) (eI 1))) (aX (eT (n9 bW (af 2) (ai (o_ (ai (eI 3) (ai (e2 bI (e2 bI (af 2) (e2 uq (af 3) (eI 1))) (eI 1)) aA))) aA))) (bP 3 (e2 uq (af 3) (eI 1))))) (dk (bH fy (ai (af 2) aA)))))))
def DD:List W->List am->R W:=dm 6 NH
theorem Q_(F:iZ K "_law_tree" "_law_tree" IF f fd)(B:Bl mg)(ui:dB P w K mg base 1 "_law_marks" 2 pF):c_ P w K mg base (iE P w) 2 f fd Nn (i8 K mg 2 DD):=
 bT (k:=1) F IG rfl fun fO A outer s H E hr=>by have sc:=IG;walk_at "w"
def NI:FS:=(aX (bP 1 (ju aA)) (aX (bP 2 (ju aA)) (aX (gm (ce (ai (bH dY (ai (af 0) aA)) aA)) (dZ 3) (aX (bP 4 (eC .non)) (aX (bP 5 (eC .non)) (aX (lH (fG (e2 MD (e2 bI (e2 bI (af 0) (af 3)) (eI 0)) (eI 2))) (bP 5 (n9 rE (af 1) aA)) d8) (aX (lH (fG (e2 qW (e2 jr (e2 bI (e2 bI (af 0) (af 3)) (eI 0)) (eI 2)) (eI 1))) (bP 4 (n9 rE (af 1) aA)) d8) (aX (eT (n9 bW (af 2) (ai (o_ (ai (af 4) (ai (af 5) aA))) aA))) (eT (n9 bW (af 1) (ai (af 3) aA))))))))) (dk (af 2)))))
def DE:List W->List am->R W:=dm 6 NI
theorem Ra(F:iZ K "_law_links" "_law_links" IH f fd)(B:Bl mg) :c_ P w K mg base (iE P w) 1 f fd No (i8 K mg 1 DE):=
 bT (k:=0) F II rfl fun fO A outer s H E hr=>by have sc:=II;walk_at "w"
def NJ:FS:=(aX (bP 4 (bH fy (ai (cV [none,some 3] (ce (ai (af 1) aA)) (dZ 0) g8 (e2 qW (e2 jr (e2 bI (af 1) (af 0)) (eI 2)) (eI 1))) aA))) (aX (bP 5 (ju aA)) (aX (bP 6 (af 1)) (aX (gm (ce (ai (e2 vm (eI 1) (bH dY (ai (af 0) aA))) aA)) (dZ 7) (aX (bP 8 (ju aA)) (aX (gm (ce (ai (af 1) aA)) (dZ 9) (aX (eT (n9 bW (af 8) (ai (bH fy (ai (cV [none,some 2,some 3,some 6] (ce (ai (af 1) aA)) (dZ 0) g8 (e2 jr (e2 bI (af 2) (e2 fx (af 3) (af 0))) (af 1))) aA)) aA))) (bP 6 (e2 fx (af 6) (af 1))))) (eT (n9 bW (af 5) (ai (bH fy (ai (af 8) aA)) aA)))))) (dk (o_ (ai (af 0) (ai (af 4) (ai (bH fy (ai (af 5) aA)) aA)))))))))
def DF:List W->List am->R W:=dm 10 NJ
theorem Rb(F:iZ K "_law_machine" "_law_machine" IJ f fd)(B:Bl mg) :c_ P w K mg base (iE P w) 1 f fd Np (i8 K mg 4 DF):=
 bT (k:=0) F IK rfl fun fO A outer s H E hr=>by have sc:=IK;walk_at "w"
def NK:FS:=(aX (bP 2 (eI 0)) (aX (gm (cX (af 0)) (dZ 3) (bP 2 (e2 fx (e2 fH (eI 2) (af 2)) (bH Ap (ai (e2 (rC false) (af 3) (af 1)) aA))))) (dk (af 2))))
def rX:List W->List am->R W:=dm 4 NK
theorem Rc(F:iZ K "_law_letter" "_law_letter" IL f fd)(B:Bl mg) :c_ P w K mg base (iE P w) 1 f fd Nq (i8 K mg 2 rX):=
 bT (k:=0) F IM rfl fun fO A outer s H E hr=>by have sc:=IM;walk_at "w"
def NL:FS:=(aX (bP 2 (ju aA)) (aX (bP 3 (ju aA)) (aX (gm (cX (af 1)) (zu 2 (dq (dZ 4) (dq (dZ 5) kq))) (aX (bP 6 (eI 0)) (aX (bP 7 (eI 0)) (aX (lH (fG (e2 MD (af 4) (eI 2))) (bP 7 (n9 rE (af 2) aA)) d8) (aX (lH (fG (e2 qW (e2 jr (af 4) (eI 2)) (eI 1))) (bP 6 (n9 rE (af 2) aA)) d8) (aX (eT (n9 bW (af 2) (ai (e2 bI (e2 bI (e2 bI (e2 bI (af 0) (eI 2)) (cz 2 rX (ai (e2 bI (af 0) (eI 0)) (ai (af 5) aA)))) (af 6)) (af 7)) aA))) (eT (n9 bW (af 3) (ai (e2 bI (af 2) (yq (eI 1))) aA))))))))) (dk (af 3)))))
def DG:List W->List am->R W:=dm 8 NL
theorem Re(F:iZ K "_law_run" "_law_run" IN f fd) (Eo:dB P w K mg base 1 "_law_letter" 2 rX):c_ P w K mg base (iE P w) 2 f fd Nr (i8 K mg 2 DG):=
 bT (k:=1) F IP rfl fun fO A outer s H E hr=>by have sc:=IP;walk_at "w"
def Jg:FS:=(aX (lH (fG (e2 qW (bH dY (ai (af 1) aA)) (eI 0))) (dk (e2 bI (e2 bI (af 0) (eI 1)) (eI 0))) d8) (dk (e2 bI (e2 bI (af 0) (eI 1)) (e2 bI (cz 2 DG (ai (af 0) (ai (af 1) aA))) (yq (eI 1))))))
def DH:List W->List am->R W:=dm 2 Jg
theorem Rf(F:iZ K "_law_lets" "_law_lets" IQ f fd)(B:Bl mg)(Od:dB P w K mg base 2 "_law_run" 2 DG):c_ P w K mg base (iE P w) 3 f fd Nt (i8 K mg 2 DH):=
 bT (k:=2) F IR rfl fun fO A outer s H E hr=>by have sc:=IR;walk_at "w"
def Jh:FS:=(aX (bP 3 (cz 1 DE (ai (af 1) aA))) (aX (bP 4 (ju aA)) (aX (gm (ce (ai (bH dY (ai (af 1) aA)) aA)) (dZ 5) (aX (bP 6 (ju (ai (eI 0) aA))) (aX (bP 7 (ju (ai (eI 0) aA))) (aX (lH (fG (mS (e2 bI (e2 bI (af 3) (af 5)) (eI 0)))) (bP 6 (e2 bI (af 4) (e2 bI (e2 bI (af 3) (af 5)) (eI 0)))) d8) (aX (lH (fG (mS (e2 bI (e2 bI (af 3) (af 5)) (eI 1)))) (bP 7 (e2 bI (af 4) (e2 bI (e2 bI (af 3) (af 5)) (eI 1)))) d8) (aX (bP 8 (B8 kr (eC (.str [])) (ai (cV [none,some 2] (cX (e2 bI (e2 bI (af 1) (af 5)) (eI 1))) (dZ 0) (fG (e2 (rC true) (af 0) (af 1))) (af 0)) aA))) (aX (bP 9 (e2 xH (ju (ai (eC (.bl false)) aA)) (bH dY (ai (e2 bI (af 0) (eI 1)) aA)))) (aX (gm (ce (ai (e2 vm (eI 1) (bH dY (ai (af 2) aA))) aA)) (dZ 10) (aX (bP 11 (e2 bI (e2 bI (af 0) (eI 2)) (cz 2 rX (ai (e2 bI (af 0) (eI 0)) (ai (e2 fx (af 8) (cz 2 pF (ai (af 2) (ai (af 10) aA)))) aA))))) (gm (cX (af 6)) (dZ 12) (gm (cX (af 7)) (dZ 13) (rD (af 9) (e2 bI (e2 bI (af 11) (af 12)) (af 13)) (eC (.bl true)) pe))))) (eT (n9 bW (af 4) (ai (cV [none,some 9] (ce (ai (bH dY (ai (af 9) aA)) aA)) (dZ 0) (fG (e2 bI (af 1) (af 0))) (af 0)) aA))))))))))) (dk (af 4)))))
def DI:List W->List am->R W:=dm 14 Jh
theorem Rg(F:iZ K "_law_chances" "_law_chances" IS f fd)(B:Bl mg)(Eo:dB P w K mg base 1 "_law_letter" 2 rX)(N5:dB P w K mg base 1 "_law_links" 1 DE)(ui:dB P w K mg base 1 "_law_marks" 2 pF):c_ P w K mg base (iE P w) 2 f fd Nu (i8 K mg 3 DI):=
 bT (k:=1) F IT rfl fun fO A outer s H E hr=>by have sc:=IT;walk_at "w"
def U1:FS:=(aX (lH (C8 (E1 (fG (pZ "tuple" (af 0)))) (fG (e2 FR (bH dY (ai (af 0) aA)) (bH dY (ai (af 1) aA))))) (dk (eC (.bl false))) d8) (aX (gm (ce (ai (bH dY (ai (af 1) aA)) aA)) (dZ 3) (aX (lH (C8 (E1 (fG (pZ "tuple" (e2 bI (af 0) (af 3))))) (C8 (fG (e2 FR (bH dY (ai (e2 bI (af 0) (af 3)) aA)) (eI 2))) (E1 (fG (cz 2 (on 40) (ai (e2 bI (e2 bI (af 0) (af 3)) (eI 0)) (ai (e2 bI (e2 bI (af 1) (af 3)) (eI 0)) aA))))))) (dk (eC (.bl false))) d8) (aX (bP 4 (e2 bI (e2 bI (af 0) (af 3)) (eI 1))) (aX (lH (C8 (E1 (fG (pZ "str" (af 4)))) (fG (e2 FR (af 4) (B8 kr (eC (.str [])) (ai (bH lQ (ai (af 4) aA)) aA))))) (dk (eC (.bl false))) d8) (aX (bP 5 (B8 kr (eC (.str [])) (ai (cV [none,some 2] (cX (af 4)) (dZ 0) (fG (e2 (rC true) (af 0) (af 1))) (af 0)) aA))) (aX (lH (fG (e2 FR (af 5) (B8 kr (eC (.str [])) (ai (cV [none,some 2] (cX (e2 bI (e2 bI (af 1) (af 3)) (eI 1))) (dZ 0) (fG (e2 (rC true) (af 0) (af 1))) (af 0)) aA)))) (dk (eC (.bl false))) d8) (lH (fG (e2 FR (e2 uq (bH dY (ai (af 4) aA)) (bH dY (ai (af 5) aA))) (bH dY (ai (cV [none,some 4] (cX (af 2)) (dZ 0) (fG (e2 (rC false) (af 0) (af 1))) (af 0)) aA)))) (dk (eC (.bl false))) d8))))))) (dk (eC (.bl true)))))
def DJ:List W->List am->R W:=dm 6 U1
theorem Rh(F:iZ K "_law_is_filling" "_law_is_filling" IU f fd)(B:Bl mg)(Bv:dB P w K mg base 40 "_law_same" 2 (on 40)):c_ P w K mg base (iE P w) 41 f fd Nv (i8 K mg 3 DJ):=
 bT (k:=40) F IV rfl fun fO A outer s H E hr=>by have sc:=IV;walk_at "w"
def NM:FS:=(aX (bP 2 (ju aA)) (aX (gm (kg (ai (af 0) aA)) (zu 2 (dq (dZ 3) (dq (dZ 4) kq))) (eT (n9 bW (af 2) (ai (o_ (ai (e2 fH (bH Ap (ai (e2 B3 (af 3) (eI 0)) aA)) (e2 fx (eI 1) (e2 jr (af 4) (eI 2)))) (ai (cz 2 pF (ai (af 1) (ai (e2 jr (e2 rB (af 4) (eI 2)) (eI 16)) aA))) aA))) aA)))) (dk (bH fy (ai (af 2) aA)))))
def DL:List W->List am->R W:=dm 5 NM
theorem Ri(F:iZ K "_law_row_of" "_law_row_of" IW f fd)(B:Bl mg)(ui:dB P w K mg base 1 "_law_marks" 2 pF):c_ P w K mg base (iE P w) 2 f fd Nw (i8 K mg 2 DL):=
 bT (k:=1) F IX rfl fun fO A outer s H E hr=>by have sc:=IX;walk_at "w"
def NN:FS:=(aX (bP 1 (cz 3 qp (ai (cz 2 ue (ai (af 0) (ai (eI 0) aA))) (ai (eI 7) (ai (eI 50021) aA))))) (aX (bP 2 (e2 jr (e2 bI (af 1) (eI 0)) (eI 3))) (aX (bP 3 (e2 fx (eI 1) (e2 jr (e2 bI (af 1) (eI 1)) (e2 uq (eI 7) (e2 fH (eI 2) (af 2)))))) (aX (bP 4 (cz 3 AV (ai (cz 2 ue (ai (af 0) (ai (eI 1) aA))) (ai (eI 6) (ai (eI 100003) aA))))) (aX (bP 5 (cz 3 qp (ai (cz 2 ue (ai (af 0) (ai (eI 2) aA))) (ai (e2 fx (af 3) (e2 vm (e2 fH (af 3) (af 3)) (af 2))) (ai (eI 200017) aA))))) (aX (bP 6 (cz 4 DF (ai (B8 kr (eC (.str [])) (ai (bH lQ (ai (GU (af 4) qf (pd (af 2))) aA)) aA)) (ai (af 3) (ai (af 3) (ai (af 5) aA)))))) (aX (lH (fG (e2 qW (e2 jr (e2 bI (af 1) (eI 5)) (eI 3)) (eI 1))) (aX (bP 7 (e2 fH (e2 uq (af 3) (eI 1)) (e2 jr (e2 rB (e2 bI (af 1) (eI 5)) (eI 3)) (eI 2)))) (bP 6 (o_ (ai (e2 bI (af 6) (eI 0)) (ai (bH fy (ai (cV [none,some 7] (ce (ai (af 3) aA)) (dZ 0) g8 (e2 qW (af 0) (af 1))) aA)) (ai (e2 bI (af 6) (eI 2)) aA)))))) d8) (aX (bP 8 (GU (cz 2 pF (ai (af 4) (ai (e2 bI (af 1) (eI 3)) aA))) qf (pd (e2 jr (e2 bI (af 1) (eI 4)) (eI 5))))) (aX (bP 9 (e2 bI (ju (ai (eI 32) (ai (eI 20) (ai (eI 12) (ai (eI 8) (ai (eI 6) aA)))))) (bH dY (ai (af 8) aA)))) (aX (bP 10 (cz 2 DD (ai (cz 3 qp (ai (cz 2 ue (ai (af 0) (ai (eI 3) aA))) (ai (e2 jr (e2 bI (af 1) (eI 2)) (e2 fx (af 9) (eI 1))) (ai (eI 300007) aA)))) (ai (GU (af 4) qf (pd (eI 4))) aA)))) (aX (lH (fG (e2 qW (e2 jr (e2 bI (af 1) (eI 6)) (eI 8)) (eI 3))) (aX (bP 8 (GU (af 8) qf (pd (e2 fx (eI 1) (e2 jr (e2 bI (af 1) (eI 4)) (eI 2)))))) (bP 10 (cz 2 DL (ai (cz 3 qp (ai (cz 2 ue (ai (af 0) (ai (eI 3) aA))) (ai (e2 fx (eI 80) (e2 jr (e2 bI (af 1) (eI 2)) (eI 21))) (ai (eI 300007) aA)))) (ai (GU (af 4) qf (pd (eI 4))) aA))))) d8) (aX (bP 11 (cz 3 DI (ai (af 6) (ai (af 10) (ai (af 8) aA))))) (aX (lH (E1 (fG (cz 2 (on 40) (ai (cz 3 DB (ai (af 6) (ai (af 10) (ai (af 8) aA)))) (ai (bH fy (ai (cV [none] (cX (af 11)) (dZ 0) g8 (bH fy (ai (af 0) aA))) aA)) aA))))) (dk (eC (.bl false))) d8) (aX (bP 12 (eC (.bl false))) (aX (gm (cX (e2 bI (e2 fx (ju (ai (ju (ai (eI 0) aA)) aA)) (af 11)) (yq (eI 1)))) (dZ 13) (bP 12 (PM (af 12) (e2 bI (e2 bI (af 6) (eI 1)) (af 13))))) (aX (bP 14 (cz 3 DA (ai (af 6) (ai (af 10) (ai (af 8) aA))))) (aX (lH (C8 (E1 (fG (pZ "int" (af 14)))) (C8 (fG (pZ "bool" (af 14))) (C8 (fG (e2 FR (e2 B3 (af 14) (eI 0)) (af 12))) (fG (e2 TV (af 14) (eI 0)))))) (dk (eC (.bl false))) d8) (aX (bP 15 (cz 3 AT (ai (af 6) (ai (af 10) (ai (af 8) aA))))) (aX (lH (E1 (fG (af 12))) (dk (vj (af 15))) d8) (dk (Ah (cz 3 DJ (ai (af 15) (ai (af 10) (ai (af 8) aA)))) (cz 2 DH (ai (af 6) (ai (af 15) aA))))))))))))))))))))))))
def f_q43:List W->List am->R W:=dm 16 NN
theorem Rj(F:iZ K "law" "law" rT f fd)(B:Bl mg)(Oi:dB P w K mg base 1 "_law_cell" 2 ue)(NZ:dB P w K mg base 2 "_law_chances" 3 DI)(Es:dB P w K mg base 2 "_law_draws" 3 qp)(Oc:dB P w K mg base 41 "_law_is_filling" 3 DJ)(NU:dB P w K mg base 3 "_law_lets" 2 DH)(N0:dB P w K mg base 1 "_law_machine" 4 DF)(ui:dB P w K mg base 1 "_law_marks" 2 pF)(Ob:dB P w K mg base 3 "_law_pool" 3 AV)(Oa:dB P w K mg base 2 "_law_row_of" 2 DL)(Bv:dB P w K mg base 40 "_law_same" 2 (on 40))(NW:dB P w K mg base 2 "_law_tree" 2 DD)(Oj:dB P w K mg base 7 "chances_of" 3 DB)(NX:dB P w K mg base 7 "filled" 3 AT)(Oh:dB P w K mg base 7 "fillings" 3 DA):c_ P w K mg base (iE P w) 42 f fd IY (i8 K mg 1 f_q43):=
 bT (k:=41) F IZ rfl fun fO A outer s H E hr=>by have sc:=IZ;walk_at "w"
end
theorem Rk(ns:List α)(hl:0<ns.length)(k:Int):∃c∈ns,tU ns (k%((ns.length:Nat):Int))=some c:=by
 have h0:0<=k%((ns.length:Nat):Int):=iX _ #[0]
 have h1:k%((ns.length:Nat):Int)<ns.length:=l8 _ #[0]
 obtain⟨m,hm⟩:=Int.eq_ofNat_of_zero_le h0
 rw[hm]at h1 ⊢
 have h2:m<ns.length:=by omega
 exact⟨ns[m],dJ _,dF (by simp[h2])⟩
theorem rY{ns:List Int}(h:st[n]?=some (.ro (ns.map W.int)))(k:Int):∃c,ue [.loc n,.int k] st=.ok (.int c) st:=by
 by_cases hn:ns=[]
 ·subst hn
  refine⟨0,?_⟩
  apply pT;apply Hu;apply jx
  ·(repeat' (first|with_reducible exact mK (uS h)|walk_at "ev1"))
  ·(walk_at "evs")
 ·have hl:0<ns.length:=lj.mpr hn
  obtain⟨c,hc,e⟩:=Rk (ns.map W.int) (by simpa using hl) k
  obtain⟨c,_,rfl⟩:=aO.mp hc
  refine⟨c,?_⟩
  apply pT;apply MO
  ·apply vH
   ·(repeat' (first|with_reducible exact mK (uS h)|walk_at "ev1"))
    rw[bR,ak];omega
   ·(walk_at "evs")
  ·(repeat' (first|with_reducible exact mK (uS h)|with_reducible exact jm (uS h) e|walk_at "ev1"))
   rw[ak];omega
theorem Ji(c k s:Int)(hk:-(2^64)<k/\k<2^64)(st:List am):∃r,0<=r/\AU [.int c,.int k,.int s] st=.ok (.int r) st:=by
 have big:∀q:Int,0<=q%2147483647/\q%2147483647<2147483647:=fun q=>⟨iX _ #[1],l8 _ #[1]⟩
 refine⟨(((c+7*k*k+13*k+s)*69621%2147483647*((c+7*k*k+13*k+s)*69621%2147483647/1009+3)+31*k+s)%2147483629*48271)%1000000007,iX _ #[1],?_⟩
 apply pT;apply MO
 ·(walk_at "evs")<;>first|exact .inl #[1]|exact .inr #[1]|exact .inr hk
 ·(walk_at "evs")<;>first|exact .inl #[1]|exact .inr #[1]|exact .inl (by have:=big ((c+7*k*k+13*k+s)*69621);omega)
theorem pG(c s:Int)(m:Nat)(hm:m<=1000)(st:List am):∃ds:List Int,ds.length=m/\(∀d∈ds,0<=d)/\qp [.int c,.int m,.int s] st=.ok (.loc st.length) (st++[.lst (ds.map W.int)]):=by
 suffices hh:iF (uu fun w bz=>∃j x,w=.loc (st.length+j)/\bz=st++x/\j=0/\∃ds:List Int,x=[.lst (ds.map W.int)]/\ds.length=m/\∀d∈ds,0<=d) (NE ([W.int c,.int m,.int s].map some++List.replicate (6-3) none) st) by
  obtain⟨j,x,⟨rfl,ds,rfl,h1,h2⟩,e⟩:=ki hh
  exact⟨ds,h1,h2,e⟩
 apply aB
 ·(walk_at "evs")
 apply aB
 ·(walk_at "evs")
 have main:∀r0:Int,iF (uu fun w bz=>∃j x,w=.loc (st.length+j)/\bz=st++x/\j=0/\∃ds:List Int,x=[.lst (ds.map W.int)]/\ds.length=m/\∀d∈ds,0<=d)
   (aX (gm (ce (ai (af 1) aA)) (dZ 5) (lH (fG (e2 B3 (af 4) (eI 0))) (aX (eT (n9 bW (af 3) (ai (e2 jr (af 4) (eI 64)) aA))) (bP 4 (e2 rB (af 4) (eI 64)))) (eT (n9 bW (af 3) (ai (cz 3 AU (ai (af 0) (ai (af 5) (ai (af 2) aA)))) aA))))) (dk (af 3))
   [iO c,iO m,iO s,lO st.length,iO r0,none] (st++[.lst []])):=by
  intro r0
  refine du (fun i ρ bz=>∃(r:Int) (o:Option W) (ds:List Int),ρ=[iO c,iO m,iO s,lO st.length,iO r,o]/\bz=st++[.lst (ds.map W.int)]/\ds.length=i/\∀d∈ds,0<=d) (gi (by(walk_at "evs");rfl) #[0])
   ⟨r0,none,[],rfl,rfl,rfl,by simp⟩ (fun _ _ _ _=>trivial) ?_ ?_
  ·rintro i w ρ bz hw ⟨r,o,ds,rfl,rfl,hd,h⟩
   obtain⟨hi,rfl⟩:=gR hw
   refine⟨_,rfl,?_⟩
   have gj:(st++[am.lst (ds.map W.int)])[st.length]?=some (.lst (ds.map W.int)):=by rw[gI];rfl
   have hsh:(ds.map W.int).length<ny:=by rw[ak,hd];show i<1000000;omega
   by_cases hr:0<r
   ·apply pz
    ·(walk_at "evs");simpa using hr
    apply aB
    ·(repeat' (first|with_reducible exact eJ gj|with_reducible exact xL gj hsh|walk_at "ev1"))
    rw[fD]
    apply cv
    ·(walk_at "evs")
    ·refine⟨_,_,rfl,r/64,_,ds++[r%64],rfl,by simp,by simp[hd],fun d hd'=>?_⟩
     rcases aZ.mp hd' with hd'|hd'
     ·exact h d hd'
     ·rw[bv.mp hd'];exact iX _ #[1]
   ·obtain⟨q,hq,e⟩:=Ji c (0+i) s #[0] (st++[am.lst (ds.map W.int)])
    apply mw
    ·(walk_at "evs");simpa using hr
    apply cv
    ·(repeat' (first|with_reducible exact eJ gj|with_reducible exact xL gj hsh|with_reducible exact e|walk_at "ev1"))
    ·refine⟨_,_,rfl,r,_,ds++[q],rfl,by rw[fD];simp,by simp[hd],fun d hd'=>?_⟩
     rcases aZ.mp hd' with hd'|hd'
     ·exact h d hd'
     ·rw[bv.mp hd'];exact hq
  ·rintro ρ bz ⟨r,o,ds,rfl,rfl,hd,h⟩
   apply bB
   ·(walk_at "evs")
   ·exact⟨_,_,rfl,0,_,rfl,rfl,rfl,ds,rfl,by rw[hd];simpa using dy 0 m,h⟩
 by_cases hc:(10:Int)^18<=c
 ·apply aB
  ·apply jx
   ·(walk_at "evs")<;>simpa using hc
   ·(walk_at "evs")
  ·exact main c
 ·apply aB
  ·apply vH
   ·(walk_at "evs")<;>simpa using hc
   ·(walk_at "evs")
  ·exact main 0
noncomputable abbrev LL:List Nat:=[65,66,67,68,69,70,71,72,73,74,75,76,77,78,79,80,81,82,83,84,85,86,87,88,89,90,97,98,99,100,101,102,103,104,105,106,107,108,109,110,111,112,113,114,115,116,117,118,119,120,121,122]
theorem LV(c s:Int)(m:Nat)(hm:m<=52)(st:List am):∃l:List Nat,l.length=m/\l.Nodup/\(∀d∈l,d∈LL)/\AV [.int c,.int m,.int s] st=.ok (.str l) st:=by
 suffices hh:iF (uu fun w bz=>(∃x,bz=st++x)/\undWs st.length [w]=true/\∃l:List Nat,w=.str l/\l.length=m/\l.Nodup/\∀d∈l,d∈LL) (NF ([W.int c,.int m,.int s].map some++List.replicate (7-3) none) st) by
  obtain⟨w,⟨l,rfl,h1,h2,h3⟩,e⟩:=uT hh
  exact⟨l,h1,h2,h3,e⟩
 obtain⟨ds,h1,h2,e⟩:=pG c s m #[0] st
 apply aB
 ·(walk_at "evs")
 apply aB
 ·(walk_at "evs")
 have gj:lstOf (st++[am.lst (ds.map W.int)]) st.length=some (ds.map W.int):=aS (by rw[gI];rfl)
 refine du (fun i ρ bz=>∃(r f:List Nat) (o o2:Option W),ρ=[iO c,iO m,iO s,some (.str r),some (.str f),o,o2]/\bz=st++[.lst (ds.map W.int)]/\f.length=i/\r.length+i=52/\(f++r).Perm LL) (ie (by(repeat' (first|with_reducible exact e|walk_at "ev1"))) gj)
  ⟨LL,[],none,none,rfl,rfl,rfl,rfl,.refl _⟩ (fun i ρ bz h=>?_) ?_ ?_
 ·obtain⟨r,f,o,o2,rfl,rfl,_⟩:=h
  exact gj
 ·rintro i w ρ bz hw ⟨r,f,o,o2,rfl,rfl,hf,hr,hfl⟩
  obtain⟨d,hd,rfl⟩:∃d,ds[i]?=some d/\w=.int d:=by
   simp only[ag,aC]at hw
   obtain⟨d,h1,rfl⟩:=hw
   exact⟨d,h1,rfl⟩
  have hi:i<m:=by rw[<- h1];exact(ac.mp hd).1
  obtain⟨q,hq,eq⟩:=iT (q:=d) (n:=r.length) #[0]
  have hL:r.length<=ny:=by show _<=1000000;omega
  have hLf:f.length<=ny:=by show _<=1000000;omega
  have hat:tU r (d%(r.length:Int))=some r[q]:=by rw[eq];exact dF (by simp[hq])
  refine⟨_,rfl,?_⟩
  apply aB
  ·(repeat' (first|with_reducible exact nH hL|walk_at "ev1"))
   show 0<(r.length:Int);omega
  apply aB
  ·have ha:f.length+[r[q]].length<=ny:=by show _+1<=1000000;omega
   (repeat' (first|with_reducible exact MP hL hat|with_reducible exact vI ha|walk_at "ev1"))
  apply cv
  ·(repeat' (first|with_reducible exact AE hL|walk_at "ev1"))
   rw[eq,yF #[0],show((q:Int)+1)=((q+1:Nat):Int)from rfl,yG #[0],be,io]
   show _<=1000000;omega
  ·refine⟨_,_,rfl,_,_,_,_,rfl,rfl,by simp[hf],?_,?_⟩
   ·rw[eq,yF #[0],show((q:Int)+1)=((q+1:Nat):Int)from rfl,yG #[0],aT,be,io]
    omega
   ·rw[eq,yF #[0],show((q:Int)+1)=((q+1:Nat):Int)from rfl,yG #[0]]
    refine List.Perm.trans ?_ hfl
    rw[aY]
    refine oU f ?_
    have e:r=r.take q++r[q]::r.drop (q+1):=by rw[<- bj hq,jW]
    have e2:(r[q]::(r.take q++r.drop (q+1))).Perm r:=(List.perm_middle.symm).trans (by rw[<- e])
    exact e2
 ·rintro ρ bz ⟨r,f,o,o2,rfl,rfl,hf,hr,hfl⟩
  apply bB
  ·(walk_at "evs")
  ·exact⟨_,_,rfl,⟨_,rfl⟩,rfl,f,rfl,by rw[hf];simpa using h1,(jK.mp (hfl.nodup_iff.mpr #[1])).1,fun d hd=>hfl.mem_iff.mp (cw _ hd)⟩
theorem pU{s:List am}{p:Nat}{c:am}(h:st <+: s)(hp:st.length<=p):st <+: s.set p c:=by
 obtain⟨x,rfl⟩:=h
 rw[show p=st.length+(p-st.length) by omega,mV]
 exact bp _ _
theorem mC{s y:List am}(h:st <+: s):st <+: s++y:=h.trans (bp _ _)
theorem pre_get{s:List am}{c:am}(h:st <+: s)(e:st[i]?=some c):s[i]?=some c:=by
 obtain⟨x,rfl⟩:=h
 exact aI e
theorem iI{s:List am}{p:Nat}{c d:am}(h:s[p]?=some d):(s.set p c)[p]?=some c:=by
 rw[bq (ac.mp h).1]
theorem eO{s:List am}{p:Nat}{c:am}(h:p≠q):(s.set p c)[q]?=s[q]?:=b8 h
theorem cO{s:List am}{p:Nat}{c:am}(h:s[p]?=some c):p<s.length:=(ac.mp h).1
theorem bd{s:List am}{c:am}:(s++[c])[s.length]?=some c:=by rw[gI];rfl
noncomputable def p7(l:List Int):List W:=l.map W.int
theorem yO{s:List am}{p:Nat}{ds:List Int}{d:Int}(h:s[p]?=some (.lst (p7 ds)))(e:ds[i]?=some d):bI (.loc p) (.int i) s=.ok (.int d) s:=jm (aS h) (dF (by rw[p7,ag,e];rfl))
theorem Jj(h:lstOf st n=some (ls.map W.str))(hl:ls.length<64):lQ [.loc n] st=.ok (.loc st.length) (st++[.lst ((hJ ls).map W.str)]):=by
 show pS [.loc n] st=_
 unfold pS
 simp only[h,dH,xG]
 rw[au hl]
theorem vR{a b:List (List Nat)}(h:a.Perm b):(a.map List.length).sum=(b.map List.length).sum:=by
 induction h with
 |nil=>rfl
 |cons x _ ih=>simp only[aP,km,ih]
 |swap x y l=>simp only[aP,km];omega
 |trans _ _ ih1 ih2=>rw[ih1,ih2]
theorem rZ(l:List Nat):(((l.map fun c=>[c])).map List.length).sum=l.length:=by
 induction l with
 |nil=>rfl
 |cons a r ih=>simp only[aP,km,a_,ih,gK];omega
def wF(l:List Nat):List Nat:=oZ [] (hJ (l.map fun c=>[c]))
theorem yP(l:List Nat):(wF l).length=l.length:=by
 unfold wF;rw[pQ,List.length_flatten,vR (gu _),rZ]
theorem vS(l:List Nat):(wF l).Perm l:=by
 unfold wF;rw[pQ]
 have h:(hJ (l.map fun c=>[c])).flatten.Perm (l.map fun c=>[c]).flatten:=(gu _).flatten
 refine h.trans (.of_eq ?_)
 induction l with
 |nil=>rfl
 |cons a r ih=>
  have ih':=ih ((gu _).flatten)
  simp only[aP,cZ,ih',List.cons_append,fS]
theorem LW(h:fe ρ st=.ok (.loc n) s1)(hc:lstOf s1 n=some ((l.map fun c=>[c]).map W.str))(hl:l.length<64) :
  B8 kr (eC (.str [])) (ai (bH lQ (ai fe aA)) aA) ρ st=.ok (.str (wF l)) (s1++[.lst ((hJ (l.map fun c=>[c])).map W.str)]):=by
 have hs:=Jj hc (by simpa using hl)
 have hcell2:lstOf (s1++[am.lst ((hJ (l.map fun c=>[c])).map W.str)]) s1.length=some ((hJ (l.map fun c=>[c])).map W.str):=aS bd
 have hj:=yD (sep:=[]) hcell2 (by rw[vR (gu _),rZ];show _<=1000000;simp;omega)
 exact Hs cD rfl (av (bX (av h aN) hs) aN) hj
theorem DM{fe:FE}(h:fe ρ st=.ok (.str l) s1)(hl:l.length<64) :
  B8 kr (eC (.str [])) (ai (bH lQ (ai fe aA)) aA) ρ st=.ok (.str (wF l)) (s1++[.lst ((hJ (l.map fun c=>[c])).map W.str)]):=by
 have hs:lQ [.str l] s1=.ok (.loc s1.length) (s1++[.lst ((hJ (l.map fun c=>[c])).map W.str)]):=by unfold lQ;simp only;rw[au hl]
 have hcell2:lstOf (s1++[am.lst ((hJ (l.map fun c=>[c])).map W.str)]) s1.length=some ((hJ (l.map fun c=>[c])).map W.str):=aS bd
 have hj:=yD (sep:=[]) hcell2 (by rw[vR (gu _),rZ];show _<=1000000;simp;omega)
 exact Hs cD rfl (av (bX (av h aN) hs) aN) hj
section
variable{fs:FA}
theorem uU(V:β->W)(Pb:Nat->β->Prop)(hr:fs ρ st=.ok [.int n] st)(hn:n<=100000)(h:∀i:Nat,i<n->∃b,Pb i b/\el ((oJ cap ρ).set 0 (iO i)) st=.ok (V b) st) :
  ∃r:List β,r.length=n/\(∀i b,r[i]?=some b->Pb i b)/\cV cap (ce fs) (dZ 0) g8 el ρ st=.ok (.loc st.length) (st++[.lst (r.map V)]):=by
 let f:Fin n->β:=fun i=>Classical.choose (h i i.2)
 have hf:∀i:Fin n,Pb i (f i)/\el ((oJ cap ρ).set 0 (iO (i:Nat))) st=.ok (V (f i)) st:=fun i=>Classical.choose_spec (h i i.2)
 let Y:W->W:=fun w=>match w with
  |.int z=>if hz:z.toNat<n then V (f ⟨z.toNat,hz⟩)else .non
  |_=>.non
 have ir:ce fs ρ st=.ok (eM 0 n,none) st:=by
  have:=gi hr #[0]
  rw[aJ]at this
  exact this
 have hc:=mx (fi:=ce fs) (f:=dZ 0) (el:=el) (cap:=cap) (ρ:=ρ) Y ir (by rw[dy];show _<=1000000;omega) trivial fun w hw=>by
  obtain⟨i,hi,rfl⟩:=s_ hw
  refine⟨_,rfl,?_⟩
  rw[show((0:Int)+(i:Int))=(i:Int) by omega]
  show _=R.ok (if hz:(i:Int).toNat<n then V (f ⟨(i:Int).toNat,hz⟩)else .non) st
  rw[dif_pos (show(i:Int).toNat<n by omega)]
  exact(hf ⟨i,hi⟩).2
 refine⟨List.ofFn f,by simp,fun i b hb=>?_,?_⟩
 ·obtain⟨h1,h2⟩:=ac.mp hb
  rw[List.getElem_ofFn]at h2
  rw[<- h2]
  exact(hf ⟨i,by simpa using h1⟩).1
 ·rw[hc]
  have e:(eM 0 n).map Y=(List.ofFn f).map V:=by
   refine List.ext_getElem (by simp[dy]) fun i h1 h2=>?_
   have hi:i<n:=by simpa[dy]using h1
   rw[nq,nq,List.getElem_ofFn]
   unfold eM
   rw[nq,List.getElem_range,show((0:Int)+(i:Int))=(i:Int) by omega]
   show(if hz:(i:Int).toNat<n then V (f ⟨(i:Int).toNat,hz⟩)else .non)=_
   rw[dif_pos (show(i:Int).toNat<n by omega)]
  rw[e]
theorem yQ(V:β->W)(Pb:Nat->β->Prop)(hr:fs ρ st=.ok [.int n] st)(hn:n<=100000)(h:∀i:Nat,i<n->∃b,Pb i b/\el ((oJ cap ρ).set 0 (iO i)) st=.ok (V b) st) :
  ∃r:List β,r.length=n/\(∀i b,r[i]?=some b->Pb i b)/\bH fy (ai (cV cap (ce fs) (dZ 0) g8 el) aA) ρ st=.ok (.tup (r.map V)) (st++[.lst (r.map V)]):=by
 obtain⟨r,h1,h2,e⟩:=uU (cap:=cap) (el:=el) V Pb hr hn h
 exact⟨r,h1,h2,bX (av e aN) (kO (aS bd))⟩
end
structure Mc where
 nm:List Nat
 gd:List Bool
 tb:List (List (List Nat))
noncomputable def kC(r:List Nat):W:=.tup (r.map fun k=>W.int (k:Nat))
def m6(t:List (List Nat)):W:=.tup (t.map kC)
def Mc.w(M:Mc):W:=.tup [.str M.nm,.tup (M.gd.map W.bl),.tup (M.tb.map m6)]
def Xo(n:Nat)(t:List (List Nat)):Prop:=t.length=n/\∀r∈t,r.length=n/\∀k∈r,k<n
structure uV(M:Mc)(n:Nat):Prop where
 gd:M.gd.length=n
 tb:M.tb.length=2^M.nm.length
 t:∀t∈M.tb,Xo n t
theorem r4(r:List Nat)(n:Nat):(kC r).und n=true:=by
 unfold kC W.und
 induction r with
 |nil=>rfl
 |cons x r ih=>simp only[aP,undWs,ih,cK];rfl
theorem LX(t:List (List Nat))(n:Nat):(m6 t).und n=true:=by
 unfold m6 W.und
 induction t with
 |nil=>rfl
 |cons x r ih=>simp only[aP,undWs,ih,cK];exact r4 x n
theorem Jk(t:List (List (List Nat)))(n:Nat):undWs n (t.map m6)=true:=by
 induction t with
 |nil=>rfl
 |cons x r ih=>simp only[aP,undWs,ih,cK];exact LX x n
theorem LY(t:List Bool)(n:Nat):undWs n (t.map W.bl)=true:=by
 induction t with
 |nil=>rfl
 |cons x r ih=>simp only[aP,undWs,ih,cK];rfl
theorem Rm(M:Mc)(n:Nat):M.w.und n=true:=by
 unfold Mc.w
 simp[W.und,undWs,Jk,LY]
theorem Gx(h:c<=100):vm (.int 1) (.int c) st=.ok (.int ((2^c:Nat):Int)) st:=by
 have:=ga (C:=fun i j=>0<=j/\j<=1000000/\i.natAbs<2^64) (f:=fun i j=>i*2^j.toNat) (p:=1) (q:=(c:Int)) (st:=st) ⟨by omega,by omega,by decide⟩
 rw[show vm (.int 1) (.int c) st=_ from this]
 simp
theorem ja{s:List am}{p:Nat}{y:W}(h:s[p]?=some (.lst ws))(hl:ws.length<1000000):bW (.loc p) [y] s=.ok .non (s.set p (.lst (ws++[y]))):=xL h hl
theorem Rn(h:q<n):CW n (q:Int)=some q:=by
 unfold CW
 rw[au #[0],au #[0]];simp
theorem yR{s:List am}{p q:Nat}{v:W}(h:s[p]?=some (.lst ws))(hq:q<ws.length):pe (.loc p) (.int q) v s=some (s.set p (.lst (ws.set q v))):=Qr h (Rn hq)
noncomputable def nW(l:List Nat):List W:=l.map fun k=>W.int (k:Nat)
theorem uf{s:List am}{p:Nat}{k:Nat}(h:s[p]?=some (.lst (nW l)))(e:l[i]?=some k):bI (.loc p) (.int i) s=.ok (.int k) s:=jm (aS h) (dF (by rw[nW,ag,e];rfl))
theorem tF{s:List am}{k:Nat}(e:l[i]?=some k):bI (kC l) (.int i) s=.ok (.int k) s:=k_ (dF (by rw[ag,e];rfl))
theorem vT{s:List am}{t:List (List Nat)}{r:List Nat}(e:t[i]?=some r):bI (m6 t) (.int i) s=.ok (kC r) s:=k_ (dF (by rw[ag,e];rfl))
theorem DN{f:FG}{ρ':cy}{w:W}(h:fe ρ st=.ok w st1)(h2:f w ρ=some ρ'):Aq fe f ρ st=.nx ρ' st1:=by
 unfold Aq;rw[h];simp only[R.stmt_ok];rw[h2]
theorem Cr(nm:List Nat)(n i_ dl:Nat)(ds:List Int)(st:List am)(N2:nm.length<=6)(hn:1<=n)(X2:n<=9)(Sc:1<=i_)(X0:i_<=n)(hd:st[dl]?=some (.lst (p7 ds)))(N7:n+2^nm.length*(n*n)<=ds.length) :
  ∃M:Mc,M.nm=nm/\uV M n/\DF [.str nm,.int n,.int i_,.loc dl] st=.ok M.w st:=by
 suffices hh:iF (uu fun w bz=>(∃x,bz=st++x)/\undWs st.length [w]=true/\∃M:Mc,w=M.w/\M.nm=nm/\uV M n) (NJ ([W.str nm,.int n,.int i_,.loc dl].map some++List.replicate (10-4) none) st) by
  obtain⟨w,⟨M,rfl,h1,h2⟩,e⟩:=uT hh
  exact⟨M,h1,h2,e⟩
 have dG:∀s:List am,dY [.str nm] s=.ok (.int nm.length) s:=fun s=>nH (by show _<=1000000;omega)
 have p2:2^nm.length<=64:=eP #[0] N2
 obtain⟨N,hN⟩:∃N,N=2^nm.length:=⟨_,rfl⟩
 have sh:∀s:List am,vm (.int 1) (.int nm.length) s=.ok (.int N) s:=fun s=>by rw[hN];exact Gx #[0]
 rw[<- hN]at p2 N7
 have hdn:n<=ds.length:=by omega
 obtain⟨gd,hgl,_,eg⟩:=yQ (cap:=[none,some 3]) (ρ:=[some (.str nm),iO n,iO i_,lO dl,none,none,none,none,none,none]) (st:=st) (fs:=ai (af 1) aA) (n:=n)
  (el:=e2 qW (e2 jr (e2 bI (af 1) (af 0)) (eI 2)) (eI 1)) W.bl (fun _ _=>True) kn #[0] fun q hq=>by
   obtain⟨d,hdd⟩:∃d,ds[q]?=some d:=⟨_,ae #[0]⟩
   exact⟨_,trivial,bN (bN (bN kv kv (yO hd hdd)) cD (ga #[1])) cD (jy rfl)⟩
 apply aB
 ·exact bu eg
 generalize hs0:st++[am.lst (gd.map W.bl)]=s0
 have hst0:st <+: s0:=by rw[<- hs0];exact bp _ _
 apply aB
 ·(walk_at "evs")
 apply aB
 ·(walk_at "evs")
 refine du (fun i ρ s=>∃(tb:List (List (List Nat))) (a:Nat) (o7 o8 o9:Option W),ρ=[some (.str nm),iO n,iO i_,lO dl,some (.tup (gd.map W.bl)),lO s0.length,iO a,o7,o8,o9]/\s0 <+: s/\s[s0.length]?=some (.lst (tb.map m6))/\tb.length=i/\(∀t∈tb,Xo n t)/\a+(N-i)*(n*n)<=ds.length)
  (gi (q:=(N:Int)) (st1:=s0++[am.lst []]) (av (bN cD (bX kn (dG _)) (sh _)) aN) #[0])
  ⟨[],n,none,none,none,rfl,bp _ _,bd,rfl,by simp,by simpa using N7⟩ (fun _ _ _ _=>trivial) ?_ ?_
 ·rintro i w ρ s hw ⟨tb,a,o7,o8,o9,rfl,hp,hc,hl,ht,hal⟩
  obtain⟨hi,rfl⟩:=gR hw
  rw[aJ]at hi
  refine⟨_,rfl,?_⟩
  rw[show N-i=(N-(i+1))+1 by omega,ly]at hal
  apply aB
  ·(walk_at "evs")
  refine du (fun j ρ z=>∃(zn:List (List Nat)) (a:Nat) (o9:Option W),ρ=[some (.str nm),iO n,iO i_,lO dl,some (.tup (gd.map W.bl)),lO s0.length,iO a,iO (0+(i:Int)),lO s.length,o9]/\s <+: z/\z[s.length]?=some (.lst (zn.map kC))/\zn.length=j/\(∀r∈zn,r.length=n/\∀k∈r,k<n)/\a+((N-(i+1))*(n*n)+(n-j)*n)<=ds.length)
   (gi (q:=(n:Int)) (st1:=s++[am.lst []]) (by(walk_at "evs")) #[0]) ⟨[],a,_,rfl,bp _ _,bd,rfl,by simp,by simpa using hal⟩ (fun _ _ _ _=>trivial) ?_ ?_
  ·rintro j w ρ z hw ⟨zn,a,o9,rfl,hz,hcz,hrl,hr,hal⟩
   obtain⟨hj,rfl⟩:=gR hw
   rw[aJ]at hj
   refine⟨_,rfl,?_⟩
   rw[show n-j=(n-(j+1))+1 by omega,ly]at hal
   have pt:(0:Int)<(i_:Int):=by omega
   obtain⟨r,uF,hrb,er⟩:=yQ (cap:=[none,some 2,some 3,some 6]) (ρ:=[some (.str nm),iO n,iO i_,lO dl,some (.tup (gd.map W.bl)),lO s0.length,iO a,iO (0+(i:Int)),lO s.length,iO (0+(j:Int))]) (st:=z) (fs:=ai (af 1) aA) (n:=n)
    (el:=e2 jr (e2 bI (af 2) (e2 fx (af 3) (af 0))) (af 1)) (fun k:Nat=>W.int (k:Nat)) (fun _ k=>k<n) kn #[0] fun q hq=>by
     obtain⟨d,hdd⟩:∃d,ds[a+q]?=some d:=⟨_,ae #[0]⟩
     obtain⟨k,hk,ek⟩:=iT (q:=d) (n:=i_) #[0]
     refine⟨k,by omega,?_⟩
     rw[<- ek]
     exact bN (bN kv (bN kv kv f9) (yO (pre_get (hst0.trans (hp.trans hz)) hd) hdd)) kv (ga pt)
   have ap:=ja (y:=kC r) (pre_get (s:=z++[.lst (r.map fun k:Nat=>W.int k)]) (bp _ _) hcz) (by rw[ak];omega)
   apply aB
   ·exact fP (i9 kv (eJ hcz) (av er aN) ap)
   apply cv
   ·exact bu (bN kv kv f9)
   ·refine⟨_,_,rfl,zn++[r],a+n,_,rfl,pU (mC hz) (ax _),?_,by simp[hrl],?_,by omega⟩
    ·rw[iI (pre_get (bp _ _) hcz)];simp
    ·intro x hx
     rcases aZ.mp hx with y|y
     ·exact hr x y
     ·simp at y;subst y
      refine⟨uF,fun k hk=>?_⟩
      obtain⟨q,hq⟩:=dL hk
      exact hrb q k hq
  ·rintro ρ z ⟨zn,a,o9,rfl,hz,hcz,hrl,hr,hal⟩
   have hrl:zn.length=n:=by rw[hrl];simp[dy]
   have hcp:=pre_get hz hc
   have ap:=ja (y:=m6 zn) hcp (by rw[ak,hl];omega)
   apply cv
   ·exact fP (i9 kv (eJ hcp) (av (bX kn (kO (aS hcz))) aN) ap)
   ·refine⟨_,_,rfl,tb++[zn],a,_,_,_,rfl,pU (hp.trans hz) (ax _),?_,by simp[hl],?_,by omega⟩
    ·rw[iI hcp];simp
    ·intro x hx
     rcases aZ.mp hx with y|y
     ·exact ht x y
     ·simp at y;subst y
      exact⟨hrl,hr⟩
 ·rintro ρ s ⟨tb,a,o7,o8,o9,rfl,hp,hc,hl,ht,hal⟩
  have hl:tb.length=N:=by rw[hl];simp[dy]
  obtain⟨x,rfl⟩:=hst0.trans hp
  apply bB
  ·exact qj (av kv (av kv (av (bX kn (kO (aS hc))) aN))) (aE rfl)
  ·exact⟨_,_,rfl,⟨_,rfl⟩,by simp only[undWs,cK];exact Rm ⟨nm,gd,tb⟩ _,⟨nm,gd,tb⟩,rfl,rfl,hgl,by rw[hl,hN],ht⟩
theorem AW{k:Nat}(hl:ws.length<=1000)(h:∀w∈ws,on k [w,w] st=.ok (.bl true) st):on (k+1) [.tup ws,.tup ws] st=.ok (.bl true) st:=by
 refine fz (N:=3) (ws:=[.tup ws,.tup ws]) (body:=Jf (on k)) ?_ rfl
 apply lK
 ·(walk_at "evs")
 apply xM
 apply cI
 ·apply kh
  ·(walk_at "evs")
  ·(walk_at "evs")
   simp
 apply df
 apply xM
 refine du (fun i ρ bz=>∃o,ρ=[some (.tup ws),some (.tup ws),o]/\bz=st) (gi (by(walk_at "evs")) #[0]) ⟨none,rfl,rfl⟩ (fun _ _ _ _=>trivial) ?_ ?_
 ·rintro i w ρ bz hw ⟨o,rfl,rfl⟩
  obtain⟨hi,rfl⟩:=gR hw
  refine⟨_,rfl,?_⟩
  have hi':i<ws.length:=by simpa using hi
  have hat:bI (.tup ws) (.int (0+(i:Int))) bz=.ok ws[i] bz:=k_ (by rw[jO];exact dF (by simp[hi']))
  have hs:=h ws[i] (dJ _)
  apply mw
  ·(walk_at "evs")
  apply cv
  ·(walk_at "evs")
  ·exact⟨_,_,rfl,_,rfl,rfl⟩
 ·rintro ρ bz ⟨o,rfl,rfl⟩
  apply ky
  ·(walk_at "evs")
  ·exact⟨_,_,rfl,rfl,[],by simp⟩
theorem AX(z:Int)(k:Nat)(st:List am):on (k+1) [.int z,.int z] st=.ok (.bl true) st:=by
 have hb:qW (.int z) (.int z) st=.ok (.bl true) st:=jy #[9]
 refine fz (N:=3) (ws:=[.int z,.int z]) (body:=Jf (on k)) ?_ rfl
 apply cI
 ·(walk_at "evs")
 apply df
 apply cI
 ·(walk_at "evs")
 apply df
 apply cI
 ·(walk_at "evs")
 apply df
 apply lK
 ·(walk_at "evs")
 apply ky
 ·apply yC
  ·(walk_at "evs")
  ·apply yC
   ·(walk_at "evs")
   ·(walk_at "evs")
 ·exact⟨_,_,rfl,by simp,[],by simp⟩
noncomputable def sm(L:List α)(f:α->Nat):Nat:=(L.map f).sum
section
theorem yS(f:α->Nat):sm [] f=0:=rfl
theorem eU(x:α)(L:List α)(f:α->Nat):sm (x::L) f=f x+sm L f:=by simp[sm]
theorem qL(L K:List α)(f:α->Nat):sm (L++K) f=sm L f+sm K f:=by simp[sm]
theorem vU(L:List α)(g:α->β)(f:β->Nat):sm (L.map g) f=sm L fun x=>f (g x):=by simp[sm,dS]
theorem dg{L:List α}{f g:α->Nat}(h:∀x∈L,f x=g x):sm L f=sm L g:=by
 unfold sm;rw[bZ h]
theorem DO(L:List α)(g:α->List β)(f:β->Nat):sm (L.flatMap g) f=sm L fun x=>sm (g x) f:=by
 induction L with
 |nil=>rfl
 |cons x L ih=>rw[List.flatMap_cons,qL,eU,ih]
theorem Ro(L:List α)(f g:α->Nat):sm L (fun x=>f x+g x)=sm L f+sm L g:=by
 induction L with
 |nil=>rfl
 |cons x L ih=>rw[eU,eU,eU,ih];omega
theorem uW(L:List α):sm L (fun _=>0)=0:=by
 induction L with
 |nil=>rfl
 |cons x L ih=>rw[eU,ih]
theorem r6(L:List α)(f:α->Nat)(c:Nat):sm L (fun x=>f x*c)=sm L f*c:=by
 induction L with
 |nil=>simp[sm]
 |cons x L ih=>rw[eU,eU,ih,Nat.add_mul]
theorem yT(L:List α)(f:α->Nat)(c:Nat):sm L (fun x=>c*f x)=c*sm L f:=by
 rw[jF,<- r6];exact dg fun x _=>jF _ _
theorem yU(L:List α)(K:List β)(f:α->β->Nat):sm L (fun x=>sm K fun y=>f x y)=sm K fun y=>sm L fun x=>f x y:=by
 induction L with
 |nil=>simp only[yS];rw[uW]
 |cons x L ih=>rw[eU,ih,<- Ro];exact dg fun y _=>(eU x L fun x=>f x y).symm
theorem wU(n:Nat)(f:Nat->Nat):sm (List.range (n+1)) f=sm (List.range n) f+f n:=by
 rw[kY,qL,eU,yS];rfl
theorem DP{x:Nat}(h:x<n)(g:Nat->Nat):sm (List.range n) (fun a=>(if x=a then 1 else 0)*g a)=g x:=by
 induction n with
 |zero=>omega
 |succ n ih=>
  rw[wU]
  by_cases e:x=n
  ·subst e
   rw[au rfl,Nat.one_mul,dg (g:=fun _=>0) (fun a ha=>?_),uW,fB]
   rw[aU]at ha
   rw[ay #[0],lF]
  ·rw[ih #[0],ay e,lF];rfl
end
def ct(q:Nat)(L:List Nat):Nat:=sm L fun x=>if x=q then 1 else 0
theorem U2{n:Nat}{L:List Nat}(h:∀x∈L,x<n)(g:Nat->Nat):sm L g=sm (List.range n) fun a=>ct a L*g a:=by
 unfold ct
 rw[dg (L:=List.range n) (g:=fun a=>sm L fun x=>(if x=a then 1 else 0)*g a) (fun a _=>(r6 ..).symm),yU]
 exact dg fun x hx=>(DP (h x hx) g).symm
section
variable(T:Nat->Nat->Nat->Nat)
noncomputable def pop(b:Bool)(st:List Nat):Nat×List Nat:=if b then(st.headD 0,st.tail)else(0,st)
def wV(b x:Nat)(st:List Nat):List Nat:=
 T x (pop (b%2==1) (pop (decide (2<=b)) st).2).1 (pop (decide (2<=b)) st).1::(pop (b%2==1) (pop (decide (2<=b)) st).2).2
end
noncomputable def Tm(tb:List (List (List Nat)))(t a b:Nat):Nat:=((tb.getD t []).getD a []).getD b 0
theorem jB(l:List α)(i:Nat)(d:α):l.getD i d=d\/l.getD i d∈l:=by
 rw[ao]
 cases h:l[i]? with
 |none=>exact .inl rfl
 |some x=>exact .inr (aw h)
theorem ug{M:Mc}(hM:uV M n)(hn:1<=n)(t a b:Nat):Tm M.tb t a b<n:=by
 unfold Tm
 rcases jB ((M.tb.getD t []).getD a []) b 0 with h|h
 ·omega
 ·rcases jB (M.tb.getD t []) a []with h1|h1
  ·rw[h1]at h;simp at h
  ·rcases jB M.tb t []with h2|h2
   ·rw[h2]at h1;simp at h1
   ·exact((hM.t _ h2).2 _ h1).2 _ h
theorem hW(f:α->β){l:List α}{d:β}{x:α}(h:l[i]?=some x):(l.map f).getD i d=f x:=by
 rw[ao,ag,h];rfl
section
def wt(n:Nat)(P:List (Nat×Nat)):List Nat:=(List.range n).map fun q=>sm P fun p=>if p.1=q then p.2 else 0
theorem vV(P:List (Nat×Nat)):(wt n P).length=n:=by simp[wt]
theorem DQ{P:List (Nat×Nat)}(h:q<n):(wt n P)[q]?=some (sm P fun p=>if p.1=q then p.2 else 0):=by
 unfold wt;rw[ag,aF h];rfl
theorem LZ{P:List (Nat×Nat)}{r w:Nat}(h:r<n):(wt n P).set r ((sm P fun p=>if p.1=r then p.2 else 0)+w)=wt n (P++[(r,w)]):=by
 refine bM fun q=>?_
 by_cases hq:q<n
 ·rw[DQ hq,qL,eU,yS]
  by_cases e:r=q
  ·subst e
   rw[bq (by rw[vV];exact hq)]
   simp
  ·rw[b8 e,DQ hq]
   simp[e]
 ·rw[az (by rw[iV,vV];omega),az (by rw[vV];omega)]
end
theorem xP(l:List α)(d:α)(f:α->β):(List.range l.length).map (fun i=>f (l.getD i d))=l.map f:=by
 refine bM fun i=>?_
 rw[ag,ag]
 by_cases h:i<l.length
 ·rw[aF h,ae h]
  show some (f (l.getD i d))=_
  rw[ao,ae h];rfl
 ·rw[az (by simpa using h),az #[0]];rfl
section
variable{ρ1:cy}{f:FG}
theorem Rp{fs:FA}{xs ys:List W}(h:fs ρ st=.ok [.tup xs,.tup ys] st1):kM fs ρ st=.ok (jZ xs ys,none) st1:=by
 unfold kM;rw[h];rfl
theorem Jl{fs:FA}{xs ys:List W}(h:fs ρ st=.ok [.loc n,.tup ys] st1)(hn:lstOf st1 n=some xs):kM fs ρ st=.ok (jZ xs ys,some (n,xs)) st1:=by
 unfold kM;rw[h];simp only[R.bind_ok,Fd,hn,Option.map_some]
theorem Rq{fs:FA}{xs ys:List W}(h:fs ρ st=.ok [.tup xs,.loc n] st1)(hn:lstOf st1 n=some ys):kM fs ρ st=.ok (jZ xs ys,some (n,ys)) st1:=by
 unfold kM;rw[h];simp only[R.bind_ok,Fd,hn,Option.map_some]
theorem Jm(ls:List Int):rJ (ls.map W.int)=some ls:=by
 induction ls with
 |nil=>rfl
 |cons x r ih=>simp only[aP,rJ,ih];rfl
theorem DR{ls:List Int}(h:lstOf st n=some (ls.map W.int)):Az [.loc n] st=.ok (.int ls.sum) st:=by
 unfold Az;simp only[h,dH,Jm]
theorem r9{body:FS}{k:E6}{P:RS->Prop}(I:Nat->cy->List am->Prop)(h:fi ρ st=.ok k st1)(h0:I 0 ρ st1)(hc:∀i ρ st,I i ρ st->hG st k.2)
  (hs:∀i w ρ st,k.1[i]?=some w->I i ρ st->∃ρ',f w ρ=some ρ'/\iF (Dp (I (i+1))) (body ρ' st)) (he:∀ρ st,I k.1.length ρ st->P (.nx ρ st)):iF P (gm fi f body ρ st):=by
 obtain⟨ρ2,db,e,h2⟩:=vF (f:=f) (body:=body) (ck:=k.2) I (ws:=k.1) (ρ:=ρ) (st:=st1) 0 h0 hc fun i w ρ st hw hI=>by
  rw[fB]at hI ⊢
  obtain⟨ρ',e1,ρ2,db,e2,h2⟩:=hs i w ρ st hw hI
  exact⟨ρ',ρ2,db,e1,e2,h2⟩
 rw[fB]at h2
 exact cv (by rw[Dk h];exact e) (he _ _ h2)
theorem vW(l:List Nat):(l.map fun(k:Nat)=>(k:Int)).sum=(l.sum:Nat):=by
 induction l with
 |nil=>rfl
 |cons x r ih=>simp only[aP,km,ih];omega
theorem Jn(L:List α)(f:α->Nat):(L.map fun x=>((f x:Nat):Int)).sum=(sm L f:Nat):=by
 unfold sm
 rw[<- vW,a9];rfl
end
theorem bb{l:List α}(d:α)(h:i<l.length):l[i]?=some (l.getD i d):=by
 rw[ao,ae h];rfl
theorem Rs(l:List Nat)(i k:Nat):(nW l).set i (.int (k:Nat))=nW (l.set i k):=by
 unfold nW;rw[n5]
theorem yV{l:List α}(d:α)(h:l.length<=i):l.getD i d=d:=by
 rw[ao,az h];rfl
noncomputable def zf:List Nat->List Bool->List Nat
 |x::xs,b::bs=>if b then x::zf xs bs else zf xs bs
 |_,_=>[]
noncomputable def gf(n:Nat)(gd:List Bool)(l:List Nat):List Nat:=((List.range n).filter fun q=>gd.getD q false).map fun q=>l.getD q 0
theorem Jo:∀{n:Nat} {l:List Nat} {gd:List Bool},l.length=n->gd.length=n->zf l gd=gf n gd l
 |0,[],[],_,_=>rfl
 |n+1,x::xs,b::bs,h1,h2=>by
  have ih:=Jo (n:=n) (l:=xs) (gd:=bs) (by simpa using h1) (by simpa using h2)
  unfold zf gf
  rw[dv,eG,gP,ih]
  unfold gf
  cases b<;>simp[dS]
 |0,_::_,_,h1,_=>by simp at h1
 |0,[],_::_,_,h2=>by simp at h2
 |n+1,[],_,h1,_=>by simp at h1
 |n+1,_::_,[],_,h2=>by simp at h2
noncomputable def zT:W->Bool
 |.tup [_,.bl b]=>b
 |_=>false
noncomputable def zY:W->W
 |.tup [x,_]=>x
 |_=>.non
theorem Cs:∀(l:List Nat) (gd:List Bool),((jZ (nW l) (gd.map W.bl)).filter zT).map zY=nW (zf l gd)
 |x::xs,b::bs=>by
  have ih:=Cs xs bs
  show(((W.tup [.int x,.bl b])::jZ (nW xs) (bs.map W.bl)).filter zT).map zY=_
  rw[eG]
  unfold zf
  cases b
  ·rw[ay (by simp[zT]),ay #[9]];exact ih
  ·rw[au (by simp[zT]),au rfl,aP,ih];rfl
 |[],_=>by simp[nW,jZ,zf]
 |_::_,[]=>by simp[nW,jZ,zf]
theorem Jp(l:List Nat):nW l=(l.map fun(k:Nat)=>(k:Int)).map W.int:=by unfold nW;rw[a9];rfl
theorem AY{M:Mc}(hM:uV M n)(hn:n<=1000)(hl:l.length=n)(st:List am):I0 [M.w,kC l] st=.ok (.int ((gf n M.gd l).sum:Nat)) st:=by
 refine fz (w:=.int ((gf n M.gd l).sum:Nat)) ?_ rfl
 have hcm:=pA (cap:=[none,none]) (f:=zu 2 (dq (dZ 0) (dq (dZ 1) kq))) (t:=fG (af 1)) (el:=af 0) (ρ:=[some M.w,some (kC l)]) (st:=st) (fi:=kM (ai (af 1) (ai (e2 bI (af 0) (eI 1)) aA))) zT zY
  (Rp (xs:=nW l) (ys:=M.gd.map W.bl) (st1:=st) (av kv (av kx aN))) (by rw[mU];simp[nW,hl];have:=hM.gd;show _<=1000000;omega) trivial fun w hw=>by
   obtain⟨k,hk⟩:=dL hw
   obtain⟨x,y,hx,hy,rfl⟩:=mT hk
   rw[ag]at hy
   obtain⟨b,_,rfl⟩:=aC.mp hy
   exact⟨_,rfl,bJ kv,fun _=>dN rfl⟩
 rw[Cs,Jo hl hM.gd,Jp]at hcm
 apply bB
 ·exact bX (av hcm aN) (DR (aS bd))
 ·exact⟨_,_,rfl,by rw[vW],_,rfl⟩
noncomputable def ez(n:Nat):List Nat:=(List.range n).map fun q=>if 0=q then 1 else 0
def yW(n:Nat)(T:Nat->Nat->Nat->Nat)(ns va vb:List Nat):List Nat:=(List.range n).map fun q=>sm (List.range n) fun a=>sm (List.range n) fun b=>va.getD a 0*vb.getD b 0*ct q (ns.map fun t=>T t a b)
def pH(n:Nat)(v:List Nat)(g:Nat->Nat):Nat:=sm (List.range n) fun q=>v.getD q 0*g q
section
theorem iJ:(ez n).length=n:=by simp[ez]
theorem DS(ns va vb:List Nat):(yW n T ns va vb).length=n:=by simp[yW]
theorem DT(h:q<n):(ez n).getD q 0=if 0=q then 1 else 0:=hW (fun q=>if 0=q then 1 else 0) (aF h)
theorem qM(hn:1<=n)(g:Nat->Nat):pH n (ez n) g=g 0:=by
 unfold pH
 rw[dg (g:=fun a=>(if 0=a then 1 else 0)*g a) fun q hq=>by rw[DT (aU.mp hq)]]
 exact DP #[0] g
theorem pI{v:List Nat}{f g:Nat->Nat}(h:∀q,f q=g q):pH n v f=pH n v g:=by rw[show f=g from funext h]
theorem DU(hT:∀t a b,T t a b<n)(ns va vb:List Nat)(g:Nat->Nat):pH n (yW n T ns va vb) g=pH n va fun a=>pH n vb fun b=>sm ns fun t=>g (T t a b):=by
 have e1:pH n (yW n T ns va vb) g=sm (List.range n) fun q=>sm (List.range n) fun a=>sm (List.range n) fun b=>va.getD a 0*vb.getD b 0*(ct q (ns.map fun t=>T t a b)*g q):=by
  unfold pH
  refine dg fun q hq=>?_
  rw[show(yW n T ns va vb).getD q 0=_ from hW _ (aF (aU.mp hq)),<- r6]
  refine dg fun a _=>?_
  rw[<- r6]
  exact dg fun b _=>Nat.mul_assoc ..
 rw[e1,yU]
 unfold pH
 refine dg fun a _=>?_
 rw[yU,<- yT]
 refine dg fun b _=>?_
 rw[yT,<- U2 (n:=n) (fun x hx=>by obtain⟨t,_,rfl⟩:=aO.mp hx;exact hT ..),vU,Nat.mul_assoc]
theorem Rt{gd:List Bool}(v:List Nat):(gf n gd v).sum=pH n v fun q=>if gd.getD q false then 1 else 0:=by
 unfold gf pH
 show sm ((List.range n).filter _) (fun q=>v.getD q 0)=_
 generalize List.range n=L
 induction L with
 |nil=>rfl
 |cons q L ih=>
  rw[eU,<- ih,eG]
  cases h:gd.getD q false
  ·simp only[h,Bool.false_eq_true,sE,sJ,fB]
  ·simp only[h,iU,pO,eU]
end
theorem uz{M:Mc}(hM:uV M n)(hn:n<=1000)(st:List am):LS [M.w] st=.ok (kC (ez n)) st:=by
 obtain⟨r,hl,hr,e⟩:=yQ (cap:=[none]) (ρ:=[some M.w]) (st:=st) (fs:=ai (bH dY (ai (e2 bI (af 0) (eI 1)) aA)) aA) (n:=n)
  (el:=Ai (fG (e2 qW (af 0) (eI 0))) (eI 1) (eI 0)) (fun k:Nat=>W.int (k:Nat)) (fun i k=>k=if i=0 then 1 else 0)
  (by
   have:dY [.tup (M.gd.map W.bl)] st=.ok (.int n) st:=by rw[vJ,ak,hM.gd]
   exact av (bX (av kx aN) this) aN) #[0] fun i hi=>by
   refine⟨_,rfl,?_⟩
   by_cases h:i=0
   ·subst h;exact pk (bJ (bN kv cD (jy rfl))) cD
   ·rw[ay h]
    exact pq (bJ (bN kv cD (jy (by simpa using h)))) cD
 have er:r=ez n:=by
  refine bM fun i=>?_
  by_cases h:i<n
  ·obtain⟨x,hx⟩:∃x,r[i]?=some x:=⟨_,ae #[0]⟩
   rw[hx,hr i x hx]
   unfold ez
   rw[ag,aF h]
   show _=some (if 0=i then 1 else 0)
   by_cases e:i=0
   ·subst e;rfl
   ·rw[ay e,ay (Ne.symm e)]
  ·rw[az #[0],az (by rw[iJ];omega)]
 subst er
 refine fz (w:=kC (ez n)) ?_ (by simp only[undWs,r4,cK])
 apply bB
 ·exact e
 ·exact⟨_,_,rfl,rfl,_,rfl⟩
structure Pl where
 b:Nat
 m:List Nat
noncomputable def Pl.w(p:Pl):W:=.tup [.int p.b,.str p.m]
def fE(t:List Pl):W:=.tup (t.map Pl.w)
inductive St(n:Nat):List Nat->Nat->List Nat->Nat->Option Nat×Option Nat->Prop
 |z {S:List Nat}:St n S 0 (1::S) 1 (none,none)
 |l {a:Nat} {S:List Nat}:St n (a::S) 1 ((1+a)::S) (1+a) (some (n-1),none)
 |r {a:Nat} {S:List Nat}:St n (a::S) 2 ((1+a)::S) (1+a) (none,some (n-1))
 |b {c a:Nat} {S:List Nat}:St n (c::a::S) 3 ((1+c+a)::S) (1+c+a) (some (n-1-c),some (n-1))
inductive Gr:List Pl->List Nat->List Nat->List #[3]->Prop
 |nil:Gr [] [] [] []
 |snoc {ps:List Pl} {S S' sz:List Nat} {lk:List (Option Nat×Option Nat)} {b k:Nat} {m:List Nat} {x:Option Nat×Option Nat}:Gr ps S sz lk->St ps.length S b S' k x->Gr (ps++[⟨b,m⟩]) S' (sz++[k]) (lk++[x])
def At(sz:List Nat):List Nat->Nat->Prop
 |[],n=>n=0
 |a::S,n=>sz[n-1]?=some a/\a<=n/\1<=a/\At sz S (n-a)
theorem At.app{sz x:List Nat}:∀{S:List Nat} {n:Nat},n<=sz.length->At sz S n->At (sz++x) S n
 |[],_,_,h=>h
 |a::S,n,hn,⟨h1,h2,h3,h4⟩=>⟨by rw[aQ (by omega)];exact h1,h2,h3,At.app (by omega) h4⟩
theorem St.at'{sz S':List Nat}{b k:Nat}(h:St n S b S' k x)(hn:sz.length=n)(ha:At sz S n):At (sz++[k]) S' (n+1):=by
 have hk:(sz++[k])[n+1-1]?=some k:=by rw[l9,<- hn];simp
 cases h with
 |z=>exact⟨hk,by omega,by omega,by rw[l9];exact ha.app (by omega)⟩
 |@l a S=>exact⟨hk,by have:=ha.2.1;omega,by omega,by rw[show n+1-(1+a)=n-a by omega];exact ha.2.2.2.app (by omega)⟩
 |@r a S=>exact⟨hk,by have:=ha.2.1;omega,by omega,by rw[show n+1-(1+a)=n-a by omega];exact ha.2.2.2.app (by omega)⟩
 |@b c a S=>exact⟨hk,by have:=ha.2.1;have:=ha.2.2.2.2.1;omega,by omega,by rw[show n+1-(1+c+a)=n-c-a by omega];exact ha.2.2.2.2.2.2.app (by omega)⟩
theorem Gr.ok{ps:List Pl}{sz:List Nat}{lk:List #[3]}(h:Gr ps S sz lk):sz.length=ps.length/\lk.length=ps.length/\At sz S ps.length:=by
 induction h with
 |nil=>exact⟨rfl,rfl,rfl⟩
 |snoc _ hs ih=>
  obtain⟨h1,h2,h3⟩:=ih
  exact⟨by simp[h1],by simp[h2],by rw[aT];exact hs.at' h1 h3⟩
theorem Gr.step{ps:List Pl}{sz:List Nat}{lk:List #[3]}(h:Gr ps S sz lk):∀i,i<ps.length->∃S1 S2 p k x,Gr (ps.take i) S1 (sz.take i) (lk.take i)/\ps[i]?=some p/\sz[i]?=some k/\lk[i]?=some x/\St i S1 p.b S2 k x/\Gr (ps.take (i+1)) S2 (sz.take (i+1)) (lk.take (i+1)):=by
 induction h with
 |nil=>intro i hi;simp at hi
 |@snoc ps S S' sz lk b k m x hg hs ih=>
  intro i hi
  obtain⟨l1,l2,_⟩:=hg.ok
  by_cases e:i=ps.length
  ·subst e
   refine⟨S,S',⟨b,m⟩,k,x,?_,by simp,by rw[<- l1];simp,by rw[<- l2];simp,hs,?_⟩
   ·rw[l7,<- l1,l7]
    rw[l1,<- l2,l7];exact hg
   ·rw[bS #[9],bS (by simp[l1]),bS (by simp[l2])]
    exact .snoc hg hs
  ·have hi':i<ps.length:=by simp at hi;omega
   obtain⟨S1,S2,p,k1,x1,g1,q1,q2,q3,hs1,g2⟩:=ih i hi'
   refine⟨S1,S2,p,k1,x1,?_,by rw[aQ hi'];exact q1,by rw[aQ #[0]];exact q2,by rw[aQ #[0]];exact q3,hs1,?_⟩
   ·rw[cN #[0],cN #[0],cN #[0]];exact g1
   ·rw[cN #[0],cN #[0],cN #[0]];exact g2
theorem U3{b:Nat}(h:b<=3)(st:List am):rC false (.int b) (.tup [.int 1,.int 3]) st=.ok (.bl (decide (b%2=1))) st:=by
 obtain rfl|rfl|rfl|rfl:b=0\/b=1\/b=2\/b=3:=by omega
 all_goals rfl
theorem U4{b:Nat}(h:b<=3)(st:List am):rC false (.int b) (.tup [.int 2,.int 3]) st=.ok (.bl (decide (2<=b))) st:=by
 obtain rfl|rfl|rfl|rfl:b=0\/b=1\/b=2\/b=3:=by omega
 all_goals rfl
theorem L0{p:Pl}(h:p.b<=3)(st:List am):Ja [p.w] st=.ok (.bl (decide (p.b%2=1))) st:=by
 have:=U3 h st
 have i0:bI p.w (.int 0) st=.ok (.int p.b) st:=rfl
 apply j3
 apply bB
 ·(walk_at "evs")
 ·exact⟨_,_,rfl,rfl,rfl⟩
theorem Jq{p:Pl}(h:p.b<=3)(st:List am):Jb [p.w] st=.ok (.bl (decide (2<=p.b))) st:=by
 have:=U4 h st
 have i0:bI p.w (.int 0) st=.ok (.int p.b) st:=rfl
 apply j3
 apply bB
 ·(walk_at "evs")
 ·exact⟨_,_,rfl,rfl,rfl⟩
noncomputable def oW:Option Nat->W
 |none=>.non
 |some k=>.int k
def m7(x:Option Nat×Option Nat):W:=.tup [oW x.1,oW x.2]
noncomputable def VT:List Nat->Nat->List Nat
 |[],_=>[]
 |a::S,n=>(n-1)::VT S (n-a)
theorem At.le{sz:List Nat}:∀{S:List Nat} {n:Nat},At sz S n->S.length<=n
 |[],_,_=>cM _
 |a::S,n,⟨_,h2,h3,h4⟩=>by have:=At.le h4;simp;omega
section
variable{ps:List Pl}{sz:List Nat}{lk:List #[3]}
end
theorem yX(t:List Pl)(n:Nat):(fE t).und n=true:=by
 unfold fE W.und
 induction t with
 |nil=>rfl
 |cons x r ih=>simp only[aP,undWs,ih,cK];simp[Pl.w,W.und,undWs]
theorem mM(a:List Pl)(st:List am):dY [fE a] st=.ok (.int a.length) st:=by
 unfold fE
 rw[vJ,ak]
theorem AZ{a:List Pl}{p:Pl}(h:a[q]?=some p)(st:List am):bI (fE a) (.int q) st=.ok p.w st:=k_ (dF (by simp[h]))
theorem Fl(p:Pl)(st:List am):bI p.w (.int 1) st=.ok (.str p.m) st:=rfl
section
variable{ps:List Pl}{sz:List Nat}{lk:List #[3]}
end
theorem DV:rC false (.str [c]) (.str l) st=.ok (.bl (decide (c∈l))) st:=rfl
theorem uX{fe:FE}{st1:List am}{l:List Nat}(h:fe ρ st=.ok (.str l) st1):cX fe ρ st=.ok (eW l,none) st1:=by unfold cX;rw[h];rfl
theorem A1{w:W}(h:(eW l)[i]?=some w):∃c,l[i]?=some c/\w=.str [c]:=by
 simp only[eW,ag,aC]at h
 obtain⟨c,h1,rfl⟩:=h
 exact⟨c,h1,rfl⟩
theorem pV(l:List Nat):(eW l).length=l.length:=by simp[eW]
theorem da{l:List α}{c:α}(h:l[i]?=some c):l.take (i+1)=l.take i++[c]:=by
 rw[List.take_succ,h];rfl
noncomputable def fA(m:List Nat)(l:List Nat):Nat:=l.foldl (fun a c=>2*a+if c∈m then 1 else 0) 0
theorem m8(m l:List Nat)(c:Nat):fA m (l++[c])=2*fA m l+if c∈m then 1 else 0:=by unfold fA;rw[List.foldl_append];rfl
theorem r_(m:List Nat)(l:List Nat):fA m l<2^l.length:=by
 have key:∀(l:List Nat) (a k:Nat),a<2^k->l.foldl (fun a c=>2*a+if c∈m then 1 else 0) a<2^(k+l.length):=by
  intro l
  induction l with
  |nil=>intro a k h;simpa using h
  |cons c r ih=>
   intro a k h
   have:=ih (2*a+if c∈m then 1 else 0) (k+1) (by rw[lG];split<;>omega)
   rw[eZ,a_,show k+(r.length+1)=k+1+r.length by omega];exact this
 have:=key l 0 0 #[9]
 simpa[fA]using this
theorem xQ(names m:List Nat)(st:List am):Cq [.str names,.str m] st=.ok (.int (fA m names:Nat)) st:=by
 refine fz (N:=4) (ws:=[.str names,.str m]) (body:=UJ) ?_ rfl
 apply aB
 ·(walk_at "evs")
 refine du (fun i ρ s=>∃o3:Option W,ρ=[some (.str names),some (.str m),iO (fA m (names.take i):Nat),o3]/\s=st) (uX (st1:=st) kv) ⟨none,rfl,rfl⟩ (fun _ _ _ _=>trivial) ?_ ?_
 ·rintro i w ρ s hw ⟨o3,rfl,rfl⟩
  obtain⟨c,hc,rfl⟩:=A1 hw
  refine⟨_,rfl,?_⟩
  have e:=m8 m (names.take i) c
  rw[<- da hc]at e
  apply aB
  ·exact bu (bN kv cD (kN (.inr #[1])))
  by_cases h:c∈m
  ·have t1:decide (c∈m)=true:=ba h
   rw[au h]at e
   apply pz
   ·exact bJ (bN kv kv (by rw[DV,t1]))
   apply cv
   ·exact bu (bN kv cD f9)
   ·exact⟨_,_,rfl,_,by rw[e,gQ,dE,nZ];rfl,rfl⟩
  ·have t1:decide (c∈m)=false:=bc h
   rw[ay h]at e
   apply mw
   ·exact bJ (bN kv kv (by rw[DV,t1]))
   apply cv
   ·exact py
   ·exact⟨_,_,rfl,_,by rw[e,gQ,dE,nZ];rfl,rfl⟩
 ·rintro ρ s ⟨o3,rfl,rfl⟩
  apply bB
  ·(walk_at "evs")
  ·exact⟨_,_,rfl,by rw[show(eW names,(none:Option (Nat×List W))).fst.length=names.length from pV names,cu],[],by simp⟩
theorem tH(l:List Nat):oZ [] (l.map fun c=>[c])=l:=by
 rw[pQ]
 induction l with
 |nil=>rfl
 |cons a r ih=>simp only[aP,cZ,ih];rfl
theorem Jr(l:List Nat):(((l.map fun c=>[c])).map List.length).sum=l.length:=by
 induction l with
 |nil=>rfl
 |cons a r ih=>simp only[aP,km,a_,ih,gK];omega
theorem yY{fe:FE}(T:Nat->Bool)(h:fe ρ st=.ok (.str l) st1)(hl:l.length<=10000)(h0:0<cap.length)
  (ht:∀c∈l,t ((oJ cap ρ).set 0 (some (.str [c]))) st1=.ok (T c) st1) :
  ∃x,B8 kr (eC (.str [])) (ai (cV cap (cX fe) (dZ 0) t (af 0)) aA) ρ st=.ok (.str (l.filter T)) (st1++x):=by
 have cg:=pA (cap:=cap) (ρ:=ρ) (st:=st) (st1:=st1) (f:=dZ 0) (t:=t) (el:=af 0) (fun w=>match w with|.str [c]=>T c|_=>false) id (uX h) (by rw[pV];show _<=1000000;omega) trivial fun w hw=>by
  obtain⟨c,hc,rfl⟩:=aO.mp hw
  exact⟨_,rfl,ht c hc,fun _=>dN (by rw[bq (by simp[oJ];exact h0)];rfl)⟩
 have e:((eW l).filter (fun w=>match w with|.str [c]=>T c|_=>false)).map id=((l.filter T).map fun c=>[c]).map W.str:=by
  rw[jo]
  unfold eW
  rw[gP,a9];rfl
 rw[e]at cg
 have hj:=yD (sep:=[]) (st:=st1++[.lst (((l.filter T).map fun c=>[c]).map W.str)]) (n:=st1.length) (aS bd) (by
  rw[Jr]
  have:=cf T l
  show _<=1000000;simp;omega)
 rw[tH]at hj
 exact⟨_,Hs cD rfl (av cg aN) hj⟩
theorem Ru(k:Nat)(hk:k<=1000)(st:List am):I_ [.int k] st=.ok (.int (2^k:Nat)) st:=by
 refine fz (N:=3) (ws:=[.int k]) (body:=UH) ?_ rfl
 apply aB
 ·(walk_at "evs")
 refine du (fun i ρ s=>∃o2:Option W,ρ=[iO k,iO (2^i:Nat),o2]/\s=st) (gi (q:=(k:Int)) (st1:=st) kn #[0]) ⟨none,rfl,rfl⟩ (fun _ _ _ _=>trivial) ?_ ?_
 ·rintro i w ρ s hw ⟨o4,rfl,rfl⟩
  obtain⟨hi,rfl⟩:=gR hw
  refine⟨_,rfl,?_⟩
  apply cv
  ·exact bu (bN kv cD (kN (.inr #[1])))
  ·exact⟨_,_,rfl,_,by rw[show((2^i:Nat):Int)*2=((2^(i+1):Nat):Int) by rw[lG,dE];rfl];rfl,rfl⟩
 ·rintro ρ s ⟨o2,rfl,rfl⟩
  apply bB
  ·(walk_at "evs")
  ·refine⟨_,_,rfl,?_,[],by simp⟩
   rw[show(eM 0 (k:Int).toNat,(none:Option (Nat×List W))).fst.length=k by simp[dy]]
noncomputable def wW(n a k:Nat):Bool:=decide (a/2^(n-1-k)%2=1)
def pJ(nm:List Nat)(a:Nat):List Nat:=((List.range nm.length).filter (wW nm.length a)).map fun k=>nm.getD k 0
def Ki(nm:List Nat)(a i:Nat):List Nat:=((List.range' (nm.length-i) i).filter (wW nm.length a)).map fun k=>nm.getD k 0
theorem DW(m:Nat):Builtin.bitAnd (m:Int) 1=((m%2:Nat):Int):=by
 unfold Builtin.bitAnd
 rw[ba #[0],ba #[0]]
 show((((m:Int).toNat &&& 1:Nat)):Int)=_
 rw[aJ,Nat.and_one_is_mod]
theorem DY:Ak (.int (m:Nat)) (.int 1) st=.ok (.int ((m%2:Nat):Int)) st:=by
 rw[<- DW];exact ga trivial
theorem Rv{a c:Nat}:B2 (.int (a:Nat)) (.int (c:Nat)) st=.ok (.int ((a/2^c:Nat):Int)) st:=by
 have:=ga (C:=fun(_ j:Int)=>0<=j) (f:=fun i j=>i/2^j.toNat) (p:=(a:Int)) (q:=(c:Int)) (st:=st) #[0]
 rw[show B2 (.int (a:Nat)) (.int (c:Nat)) st=_ from this,aJ]
 simp
theorem Js(nm:List Nat)(a i:Nat)(hi:i<nm.length):Ki nm a (i+1)=(if a/2^i%2=1 then[nm.getD (nm.length-1-i) 0]else[])++Ki nm a i:=by
 unfold Ki
 rw[List.range'_succ,show nm.length-(i+1)+1=nm.length-i by omega,eG]
 have e:wW nm.length a (nm.length-(i+1))=decide (a/2^i%2=1):=by unfold wW;rw[show nm.length-1-(nm.length-(i+1))=i by omega]
 rw[e,show nm.length-(i+1)=nm.length-1-i by omega]
 by_cases h:a/2^i%2=1
 ·simp[h]
 ·simp[h]
theorem DZ(nm:List Nat)(a:Nat):Ki nm a nm.length=pJ nm a:=by
 unfold Ki pJ;rw[Nat.sub_self,List.range_eq_range']
theorem D0(nm:List Nat)(a i:Nat):(Ki nm a i).length<=i:=by
 unfold Ki
 rw[ak]
 exact aR (cf _ _) #[9]
theorem L1(nm:List Nat)(a:Nat):(pJ nm a).length<=nm.length:=by rw[<- DZ];exact D0 nm a _
theorem A2(nm:List Nat)(a:Nat)(hn:nm.length<=60)(st:List am):AO [.str nm,.int (a:Nat)] st=.ok (.str (pJ nm a)) st:=by
 refine fz (N:=5) (ws:=[.str nm,.int (a:Nat)]) (body:=UL) ?_ rfl
 apply aB
 ·(walk_at "evs")
 apply aB
 ·(walk_at "evs")
 refine du (fun i ρ s=>∃o:Option W,ρ=[some (.str nm),iO (a:Nat),some (.str (Ki nm a i)),iO ((a/2^i:Nat):Int),o]/\s=st) (k:=(eW nm.reverse,none)) (st1:=st)
  (by unfold B';rw[show ai (af 0) aA _ st=.ok [.str nm] st from rfl];simp only[R.bind_ok];rw[au #[0]]) ⟨none,by rw[Nat.pow_zero,Nat.div_one];rfl,rfl⟩ (fun _ _ _ _=>trivial) ?_ ?_
 ·rintro i w ρ s hw ⟨o,rfl,rfl⟩
  unfold eW at hw
  rw[ag]at hw
  have hi:i<nm.length:=by
   rcases jJ i nm.length with z|z
   ·exact z
   ·rw[az (by simpa using z)]at hw;cases hw
  rw[ei hi,ae #[0]]at hw
  have hw:some (W.str [nm[nm.length-1-i]])=some w:=hw
  cases hw
  have hg:nm[nm.length-1-i]'#[0]=nm.getD (nm.length-1-i) 0:=by rw[ao,ae #[0]];rfl
  have hl:=D0 nm a i
  have hnext:∀m:List Nat,m=Ki nm a (i+1)->iF (Dp fun ρ s'=>∃o:Option W,ρ=[some (.str nm),iO (a:Nat),some (.str (Ki nm a (i+1))),iO ((a/2^(i+1):Nat):Int),o]/\s'=s) (bP 3 (e2 B2 (af 3) (eI 1)) [some (.str nm),iO (a:Nat),some (.str m),iO ((a/2^i:Nat):Int),some (.str [nm[nm.length-1-i]])] s):=fun m hm=>by
   subst hm
   refine⟨_,_,bu (bN kv cD (Rv (c:=1))),some (.str [nm[nm.length-1-i]]),?_,rfl⟩
   rw[jP,<- Nat.pow_add];rfl
  refine⟨_,rfl,?_⟩
  have nA:=Js nm a i hi
  by_cases hb:a/2^i%2=1
  ·rw[au hb]at nA
   apply lK
   ·exact bJ (bN (bN kv cD DY) cD (jy (by rw[hb];rfl)))
   apply aB
   ·exact bu (bN kv kv (vI (by simp only[a_,gK];show _<=1000000;omega)))
   exact hnext _ (by rw[nA,hg])
  ·rw[ay hb]at nA
   apply cI
   ·exact bJ (bN (bN kv cD DY) cD (jy (by rw[bR];omega)))
   apply df
   exact hnext _ (by rw[nA];rfl)
 ·rintro ρ s ⟨o,rfl,rfl⟩
  refine bB kv ⟨_,_,rfl,?_,[],by simp⟩
  rw[show(eW nm.reverse).length=nm.length by simp[eW],DZ]
section
variable{kvs:List (DK×W)}
theorem D3(h:st[n]?=some (.dct kvs)):gq st (.loc n)=some (n,kvs):=by simp only[gq,h]
theorem Rw(h:st[n]?=some (.dct kvs)):Fa st (.loc n)=some (n,kvs):=by simp only[Fa,h]
theorem Jt{v:W}(h:st[n]?=some (.dct kvs))(hl:kvs.length<ny):rL (.loc n) (.int q) v st=some (st.set n (.dct (lS kvs (.i q) v))):=by
 simp only[rL,Rw h,qi];rw[au hl]
theorem NO{w:W}(h:gq st (.loc n)=some (n,kvs))(hb:lR kvs (.i q)=some w):yx (.loc n) (.int q) st=.ok w st:=by
 simp only[yx,h,qi,hb,dH]
end
theorem Ju(hl:l.length<4000)(h:∀c∈l,c∈LL)(st:List am):LU [.str l] st=.ok (.str (gH l)) st:=by
 have hs:(gH l).length<64:=by
  have:(gH l).length<=LL.length:=qg ((iP l).imp fun h=>a8 h) fun c hc=>h c (jY.mp hc)
  have e:LL.length=52:=by decide
  omega
 have e1:rG (af 0) [some (.str l)] st=.ok (.loc st.length) (st++[.lst (eW (gH l))]):=by
  unfold rG
  rw[dN (w:=.str l) rfl]
  simp only[R.bind_ok,vz,dH]
  rw[au ⟨hl,hs⟩]
 have hj:=yD (sep:=[]) (ls:=(gH l).map fun c=>[c]) (st:=st++[.lst (eW (gH l))]) (n:=st.length) (aS (by rw[bd];unfold eW;rw[a9];rfl)) (by
  rw[rZ];show _<=1000000;simp;omega)
 rw[tH]at hj
 refine fz ?_ rfl
 apply bB
 ·exact Hs cD rfl (av e1 aN) hj
 ·exact⟨_,_,rfl,rfl,_,rfl⟩
section
variable{a:Nat}
theorem L3(hd:nm.Nodup){k:Nat}(hk:nm[k]?=some c):c∈pJ nm a↔wW nm.length a k=true:=by
 have hl:=(ac.mp hk).1
 unfold pJ
 constructor
 ·intro h
  obtain⟨j,hj,e⟩:=aO.mp h
  obtain⟨h1,h2⟩:=bE.mp hj
  have h1:=aU.mp h1
  have ej:nm[j]?=some c:=by rw[ao,ae h1]at e;rw[ae h1];exact iQ some e
  have:j=k:=by
   obtain⟨q1,e1⟩:=ac.mp ej
   obtain⟨q2,e2⟩:=ac.mp hk
   rcases Nat.lt_trichotomy j k with z|z|z
   ·exact(iD.mp hd j k q1 q2 z (e1.trans e2.symm)).elim
   ·exact z
   ·exact(iD.mp hd k j q2 q1 z (e2.trans e1.symm)).elim
  rw[<- this];exact h2
 ·intro h
  exact aO.mpr ⟨k,bE.mpr ⟨aU.mpr hl,h⟩,by rw[ao,hk];rfl⟩
theorem Fm(hd:nm.Nodup)(ha:a<2^nm.length):∀j,j<=nm.length->fA (pJ nm a) (nm.take j)=a/2^(nm.length-j)
 |0,_=>by
  rw[nY,Nat.div_eq_of_lt ha];rfl
 |j+1,h=>by
  have hj:nm[j]?=some nm[j]:=ae #[0]
  rw[da hj,m8,Fm hd ha j #[0]]
  have e:2^(nm.length-j)=2^(nm.length-(j+1))*2:=by rw[<- lG];congr 1;omega
  rw[e,<- jP]
  have hm:=L3 (a:=a) hd hj
  unfold wW at hm
  rw[show nm.length-1-j=nm.length-(j+1) by omega,bf]at hm
  generalize a/2^(nm.length-(j+1))=q at hm ⊢
  by_cases z:nm[j]∈pJ nm a
  ·rw[au z];have:=hm.mp z;omega
  ·rw[ay z];have:¬ q%2=1:=fun y=>z (hm.mpr y);omega
end
theorem vX{m m':List Nat}(h:∀c∈l,c∈m↔c∈m'):fA m l=fA m' l:=by
 have key:∀(l:List Nat) (a:Nat),(∀c∈l,c∈m↔c∈m')->l.foldl (fun a c=>2*a+if c∈m then 1 else 0) a=l.foldl (fun a c=>2*a+if c∈m' then 1 else 0) a:=by
  intro l
  induction l with
  |nil=>intro a _;rfl
  |cons c r ih=>
   intro a h
   rw[eZ,eZ,ih _ fun c hc=>h c (by simp[hc])]
   congr 2
   by_cases hc:c∈m
   ·rw[au hc,au ((h c #[9]).mp hc)]
   ·rw[ay hc,ay fun z=>hc ((h c #[9]).mpr z)]
 exact key l 0 h
theorem vY(names m:List Nat)(st:List am):rX [.str names,.str m] st=.ok (.int (fA m names:Nat)) st:=by
 refine fz (N:=4) (ws:=[.str names,.str m]) (body:=NK) ?_ rfl
 apply aB
 ·(walk_at "evs")
 refine du (fun i ρ s=>∃o3:Option W,ρ=[some (.str names),some (.str m),iO (fA m (names.take i):Nat),o3]/\s=st) (uX (st1:=st) kv) ⟨none,rfl,rfl⟩ (fun _ _ _ _=>trivial) ?_ ?_
 ·rintro i w ρ s hw ⟨o3,rfl,rfl⟩
  obtain⟨c,hc,rfl⟩:=A1 hw
  refine⟨_,rfl,?_⟩
  have e:=m8 m (names.take i) c
  rw[<- da hc]at e
  have bi:Ap [.bl (decide (c∈m))] s=.ok (.int ((if c∈m then 1 else 0:Nat):Int)) s:=by
   by_cases h:c∈m
   ·rw[ba h,au h];rfl
   ·rw[bc h,ay h];rfl
  apply cv
  ·exact bu (bN (bN cD kv (kN (.inl #[1]))) (bX (av (bN kv kv DV) aN) bi) f9)
  ·exact⟨_,_,rfl,_,by rw[e,gQ,dE];rfl,rfl⟩
 ·rintro ρ s ⟨o3,rfl,rfl⟩
  apply bB
  ·(walk_at "evs")
  ·exact⟨_,_,rfl,by rw[show(eW names,(none:Option (Nat×List W))).fst.length=names.length from pV names,cu],[],by simp⟩
def U5(n:Nat)(x:Option Nat×Option Nat):Prop:=(∀k,x.1=some k->k<n)/\∀k,x.2=some k->k<n
theorem Gr.lk{ps:List Pl}{sz:List Nat}{lk:List #[3]}(h:Gr ps S sz lk)(hx:lk[i]?=some x):U5 i x:=by
 obtain⟨_,l2,_⟩:=h.ok
 have hi:i<ps.length:=by have:=(ac.mp hx).1;omega
 obtain⟨S1,S2,p,k,x',g1,q1,q2,q3,hs,g2⟩:=h.step i hi
 rw[hx]at q3;cases q3
 obtain⟨_,_,ha⟩:=g1.ok
 rw[show(ps.take i).length=i by rw[be];omega]at ha
 obtain⟨b,m⟩:=p
 cases hs with
 |z=>exact⟨fun k e=>by simp at e,fun k e=>by simp at e⟩
 |@l a S=>have:=ha.2.1;have:=ha.2.2.1;exact⟨fun k e=>by simp at e;omega,fun k e=>by simp at e⟩
 |@r a S=>have:=ha.2.1;have:=ha.2.2.1;exact⟨fun k e=>by simp at e,fun k e=>by simp at e;omega⟩
 |@b c a S=>have:=ha.2.1;have:=ha.2.2.1;exact⟨fun k e=>by simp at e;omega,fun k e=>by simp at e;omega⟩
theorem St.ex{n b:Nat}{S:List Nat}(hb:b<=3)(h:(b+1)/2<=S.length):∃S' k x,St n S b S' k x/\S'.length+(b+1)/2=S.length+1:=by
 obtain rfl|rfl|rfl|rfl:b=0\/b=1\/b=2\/b=3:=by omega
 ·exact⟨_,_,_,.z,by simp⟩
 ·match S,h with
  |a::S,_=>exact⟨_,_,_,.l,by simp⟩
 ·match S,h with
  |a::S,_=>exact⟨_,_,_,.r,by simp⟩
 ·match S,h with
  |c::a::S,_=>exact⟨_,_,_,.b,by simp⟩
  |[_],hz=>simp at hz
  |[],hz=>simp at hz
section
variable(n:Nat)(T:Nat->Nat->Nat->Nat)
def mQ(r:List (List Nat)):Option Nat->List Nat
 |none=>ez n
 |some k=>r.getD k (ez n)
def js:List (List Nat)->List #[3]->List (List Nat)->List (List Nat)
 |x::ns,y::lk,r=>js ns lk (r++[yW n T x (mQ n r y.1) (mQ n r y.2)])
 |_,_,r=>r
theorem vZ(x:List Nat)(y:Option Nat×Option Nat):∀(ns:List (List Nat)) (lk:List #[3]) (r:List (List Nat)),ns.length=lk.length->js n T (ns++[x]) (lk++[y]) r=js n T ns lk r++[yW n T x (mQ n (js n T ns lk r) y.1) (mQ n (js n T ns lk r) y.2)]
 |[],[],r,_=>rfl
 |a::ns,b::lk,r,h=>vZ x y ns lk _ (by simpa using h)
 |[],_::_,_,h=>by simp at h
 |_::_,[],_,h=>by simp at h
theorem yZ:∀(ns:List (List Nat)) (lk:List #[3]) (r:List (List Nat)),ns.length=lk.length->(js n T ns lk r).length=r.length+ns.length
 |[],[],r,_=>rfl
 |a::ns,b::lk,r,h=>by
  show(js n T ns lk _).length=_
  rw[yZ ns lk _ (by simpa using h)];simp;omega
 |[],_::_,_,h=>by simp at h
 |_::_,[],_,h=>by simp at h
theorem pW:∀(ns:List (List Nat)) (lk:List #[3]) (r:List (List Nat)),(∀v∈r,v.length=n)->∀v∈js n T ns lk r,v.length=n
 |x::ns,y::lk,r,h=>pW ns lk _ fun v hv=>by
  rcases aZ.mp hv with z|z
  ·exact h v z
  ·rw[bv.mp z,DS]
 |[],[],r,h=>h
 |[],_::_,_,h=>h
 |_::_,[],_,h=>h
end
theorem y0:rC true (.str [c]) (.str l) st=.ok (.bl (!decide (c∈l))) st:=rfl
theorem v3(m nm:List Nat)(hm:m.length<=10000)(st:List am):xO [.str m,.str nm] st=.ok (.str (m.filter fun c=>!decide (c∈nm))) st:=by
 obtain⟨x,e⟩:=yY (fe:=af 0) (t:=fG (e2 (rC true) (af 0) (af 1))) (cap:=[none,some 1]) (ρ:=[some (.str m),some (.str nm)]) (st:=st) (l:=m) (fun c=>!decide (c∈nm)) kv hm #[1] fun c _=>bJ (bN kv kv y0)
 refine fz (N:=2) (ws:=[.str m,.str nm]) (body:=Ny) ?_ rfl
 apply bB
 ·exact e
 ·exact⟨_,_,rfl,rfl,_,rfl⟩
def lU(nm wH m:List Nat):List Nat:=(List.range (2^wH.length)).map fun c=>fA (m.filter fun d=>!decide (d∈wH)) nm+fA (pJ wH c) nm
theorem Ct(M:Mc)(wH m:List Nat)(hn:wH.length<=4)(hm:m.length<=10000)(st:List am):AR [M.w,.str wH,.str m] st=.ok (.loc st.length) (st++[.lst (nW (lU M.nm wH m))]):=by
 have hp:2^wH.length<=16:=aR (eP #[1] hn) #[1]
 suffices hh:iF (uu fun w bz=>∃j x,w=.loc (st.length+j)/\bz=st++x/\j=0/\x=[.lst (nW (lU M.nm wH m))]) (Nz ([M.w,.str wH,.str m].map some++List.replicate (4-3) none) st) by
  obtain⟨j,x,⟨rfl,rfl⟩,e⟩:=ki hh
  exact e
 apply aB
 ·exact bu (bY (av kx (av (bY (av kv kn) (v3 m wH hm st) rfl) aN)) (xQ M.nm _ st) rfl)
 generalize hA:fA (m.filter fun d=>!decide (d∈wH)) M.nm=A
 obtain⟨r,hr1,hr2,hr3⟩:=uU (cap:=[none,some 3,some 0,some 1]) (ρ:=[some M.w,some (.str wH),some (.str m),iO (A:Nat)]) (st:=st) (n:=2^wH.length)
  (el:=e2 fx (af 1) (cz 2 Cq (ai (e2 bI (af 2) (eI 0)) (ai (cz 2 AO (ai (af 3) (ai (af 0) aA))) aA))))
  (fs:=ai (cz 1 I_ (ai (bH dY (ai (af 1) aA)) aA)) aA) (fun k:Nat=>W.int k) (fun i b=>b=A+fA (pJ wH i) M.nm)
  (av (bY (av (bX kn (nH (by show _<=1000000;omega))) aN) (Ru _ #[0] st) rfl) aN) #[0] fun i hi=>by
   refine⟨_,rfl,?_⟩
   have:=bN (f:=fx) (ρ:=[iO (i:Nat),iO (A:Nat),some M.w,some (.str wH)]) (st:=st) (fa:=af 1) (fb:=cz 2 Cq (ai (e2 bI (af 2) (eI 0)) (ai (cz 2 AO (ai (af 3) (ai (af 0) aA))) aA))) kv
    (bY (av kx (av (bY (av kv kn) (A2 wH i #[0] st) rfl) aN)) (xQ M.nm (pJ wH i) st) rfl) f9
   rw[<- gQ]at this
   exact this
 have er:r=lU M.nm wH m:=by
  unfold lU
  rw[hA]
  refine bM fun i=>?_
  rw[ag]
  by_cases hi:i<2^wH.length
  ·rw[aF hi,ae #[0]]
   rw[hr2 i _ (ae #[0])];rfl
  ·rw[az #[0],az (by simpa using hi)];rfl
 subst er
 apply bB
 ·exact hr3
 ·exact⟨_,_,rfl,0,_,rfl,rfl,rfl,rfl⟩
def qr(st:List am)(x:W)(v:List Nat):Prop:=x=kC v\/∃p,x=.loc p/\st[p]?=some (.lst (nW v))
noncomputable def nz(v:List Nat):List Nat:=(List.range v.length).filter fun i=>decide (0<v.getD i 0)
theorem D4(v:List Nat):jv (nW v)=(List.range v.length).map fun i=>W.tup [.int (i:Nat),.int (v.getD i 0:Nat)]:=by
 refine bM fun i=>?_
 rw[ag]
 by_cases hi:i<v.length
 ·obtain⟨w,hw⟩:∃w,(jv (nW v))[i]?=some w:=⟨_,ae (by rw[ji];unfold nW;simpa using hi)⟩
  obtain⟨y,hy,rfl⟩:=lI hw
  unfold nW at hy
  rw[ag,bb 0 hi]at hy
  cases hy
  rw[hw,aF hi];rfl
 ·rw[az (by rw[ji];unfold nW;simpa using hi),az (by simpa using hi)];rfl
noncomputable def cT:W->Bool
 |.tup [_,.int z]=>decide (z>0)
 |_=>false
noncomputable def cY:W->W
 |.tup [x,_]=>x
 |w=>w
theorem uY{v:List Nat}{x:W}(h:qr st x v)(hl:v.length<=1000):wT [x] st=.ok (.loc st.length) (st++[.lst (nW (nz v))]):=by
 have hi:∃ck,hG st ck/\kg (ai (af 0) aA) [some x] st=.ok (jv (nW v),ck) st:=by
  rcases h with rfl|⟨p,rfl,hp⟩
  ·exact⟨none,trivial,rfl⟩
  ·refine⟨some (p,nW v),aS hp,?_⟩
   unfold kg
   rw[show ai (af 0) aA [lO p] st=.ok [.loc p] st from rfl]
   simp only[R.bind_ok,aS hp]
 obtain⟨ck,hck,hi⟩:=hi
 have hc:=pA (cap:=[none,none]) (f:=zu 2 (dq (dZ 0) (dq (dZ 1) kq))) (t:=fG (e2 B3 (af 1) (eI 0))) (el:=af 0) cT cY hi (by rw[ji];unfold nW;rw[ak];show _<=1000000;omega) hck fun w hw=>by
  rw[D4]at hw
  obtain⟨i,_,rfl⟩:=aO.mp hw
  exact⟨_,rfl,bJ (bN kv cD (jl rfl)),fun _=>dN rfl⟩
 have e:((jv (nW v)).filter cT).map cY=nW (nz v):=by
  rw[D4,gP,a9]
  unfold nW nz
  have:(cT∘fun i:Nat=>W.tup [.int (i:Nat),.int (v.getD i 0:Nat)])=fun i=>decide (0<v.getD i 0):=by
   funext i
   show decide (((v.getD i 0:Nat):Int)>0)=_
   rw[iY,bf,bf];omega
  rw[this];rfl
 rw[e]at hc
 suffices hh:iF (uu fun w bz=>∃j y,w=.loc (st.length+j)/\bz=st++y/\j=0/\y=[.lst (nW (nz v))]) (UC ([x].map some++List.replicate (1-1) none) st) by
  obtain⟨j,y,⟨rfl,rfl⟩,e⟩:=ki hh
  exact e
 apply bB
 ·exact hc
 ·exact⟨_,_,rfl,0,_,rfl,rfl,rfl,rfl⟩
def Kp(a b:Nat)(s0 s:List am):Prop:=∀(i:Nat) (c:am),s0[i]?=some c->i≠a->i≠b->s[i]?=some c
section
variable{a b:Nat}{s0 s s2:List am}
theorem Kp.refl:Kp a b s s:=fun _ _ h _ _=>h
theorem Kp.trans(h:Kp a b s0 s1)(h2:Kp a b s1 s2):Kp a b s0 s2:=fun i c e x y=>h2 i c (h i c e x y) x y
theorem Kp.app{x:List am}(h:Kp a b s0 s):Kp a b s0 (s++x):=fun i c e x y=>aI (h i c e x y)
theorem Kp.of_app{x:List am}(h:Kp a b (s0++x) s):Kp a b s0 s:=fun i c e x y=>h i c (aI e) x y
theorem Kp.setA{c:am}(h:Kp a b s0 s):Kp a b s0 (s.set a c):=fun i d e x y=>by rw[eO (Ne.symm x)];exact h i d e x y
theorem Kp.setB{c:am}(h:Kp a b s0 s):Kp a b s0 (s.set b c):=fun i d e x y=>by rw[eO (Ne.symm y)];exact h i d e x y
end
theorem tI(L:List α)(t:α->Bool)(g:α->Nat)(h:∀x,t x=false->g x=0):sm (L.filter t) g=sm L g:=by
 induction L with
 |nil=>rfl
 |cons x L ih=>
  rw[eG,eU]
  cases e:t x
  ·rw[h x e,fB,ay #[9]];exact ih
  ·rw[au rfl,eU,ih]
theorem Jv{v:List Nat}{a:Nat}(h:(nz v)[i]?=some a):a<v.length:=by
 have:=aw h
 exact aU.mp (bE.mp this).1
theorem Cu{x:W}{v:List Nat}{a:Nat}(h:qr st x v)(ha:a<v.length):bI x (.int (a:Nat)) st=.ok (.int (v.getD a 0:Nat)) st:=by
 rcases h with rfl|⟨p,rfl,hp⟩
 ·exact tF (bb 0 ha)
 ·exact uf hp (bb 0 ha)
theorem D5{fe:FE}{kvs:List (DK×W)}(h:fe ρ st=.ok (.loc n) st1)(hd:gq st1 (.loc n)=some (n,kvs)):rO fe ρ st=.ok (kvs.map (fun p=>.tup [p.1.w,p.2]),none) (st1.set n (.rod kvs)):=by
 unfold rO;rw[h];simp only[R.bind_ok,hd]
theorem xR{f:FG}{ρ0:cy}:∀(ws fZ:List W) (C:Nat->am) (s:List am),(∀x,hG (s++x) ck)->(∀i w,ws[i]?=some w->∀x,∃ρ',f w ρ0=some ρ'/\el ρ' (s++x)=.ok (.loc (s++x).length) (s++x++[C i])) ->
  jS f g8 el ck ρ0 ws fZ s=.ok (fZ++(List.range ws.length).map fun i=>W.loc (s.length+i)) (s++(List.range ws.length).map C)
 |[],fZ,C,s,hc,_=>by
  have:=hc [];rw[bC]at this
  unfold jS;rw[au this];simp
 |w::ws,fZ,C,s,hc,h=>by
  obtain⟨ρ',e1,e3⟩:=h 0 w rfl []
  rw[bC]at e3
  have hc0:=hc []
  rw[bC]at hc0
  unfold jS
  rw[au hc0,e1]
  simp only[show g8 ρ' s=.ok true s from rfl,e3]
  rw[xR ws _ (fun i=>C (i+1)) (s++[C 0]) (fun x=>by rw[aY];exact hc _) fun i v hv x=>by
   have:=h (i+1) v (by simpa using hv) ([C 0]++x)
   rw[<- aY]at this
   exact this]
  rw[a_,dv,aT]
  simp[dS,qA,nR 1]
theorem D6{f:FG}{cap:List (Option Nat)}(C:Nat->am)(h:fi ρ st=.ok (ws,ck) s1)(hl:ws.length<=100000)(hc:∀x,hG (s1++x) ck)
  (hs:∀i w,ws[i]?=some w->∀x,∃ρ',f w (oJ cap ρ)=some ρ'/\el ρ' (s1++x)=.ok (.loc (s1++x).length) (s1++x++[C i])) :
  cV cap fi f g8 el ρ st=.ok (.loc (s1.length+ws.length)) (s1++(List.range ws.length).map C++[.lst ((List.range ws.length).map fun i=>W.loc (s1.length+i))]):=by
 unfold cV
 rw[h]
 simp only[R.bind_ok]
 rw[au (show ws.length<=1000000 by omega),xR ws [] C s1 hc hs]
 simp only[R.bind_ok,fS,kZ]
 rw[au (by rw[ak,cb];show ws.length<=1000000;omega)]
 simp
theorem Rx{fs:FA}(h:fs ρ st=.ok [.tup ws] st1):qH fs ρ st=.ok (jv ws,none) st1:=by unfold qH;rw[h];rfl
theorem Ry{fs:FA}{i j:Int}(h:fs ρ st=.ok [.int i,.int j,.int (-1)] st1)(hq:-(2^60)<=i/\i<2^60/\-(2^60)<=j/\j<2^60):yu fs ρ st=.ok (rH i (i-j).toNat,none) st1:=by
 unfold yu;rw[h];simp only[R.bind_ok];rw[au ⟨trivial,hq⟩]
section
variable{c f m:Str}{fo:FE}{fs:FA}{z1 z2 z3:List am}{k L:Nat}{fl fl':List (Str×W)}{y w:W}{P:RS->Prop}{f':FS}
theorem Jw(h1:fe ρ z=.ok y z1)(h2:fo ρ z1=.ok (.loc n) z2)(h3:z2[n]?=some (.obj c fl))(hl:fl.length<900):p5 c f fo fe ρ z=.nx ρ (z2.set n (.obj c (ut f y fl))):=by
 unfold p5
 rw[h1];simp only[R.stmt_ok];rw[h2];simp only[R.stmt_ok,og,h3]
 rw[au ⟨trivial,hl⟩]
theorem pK(h:fa ρ z=.ok (.loc n) z1)(h3:z1[n]?=some (.obj c fl))(hk:fl.lookup f=some w):d7 c f fa ρ z=.ok w z1:=by
 unfold d7
 rw[h];simp only[R.bind_ok,og,h3,iU,hk,dH]
theorem j7(h:fo ρ z=.ok (.loc n) z1)(h3:z1[n]?=some (.obj c fl))(hm:fl.lookup m=none)(ha:fs ρ z1=.ok ws z2)(hn:ws.length+1=k)(hF:F (.loc n::ws) z2=.ok w z3):kt c m k F fo fs ρ z=.ok w z3:=by
 unfold kt
 rw[h];simp only[R.bind_ok,og,h3]
 rw[au ⟨trivial,hm⟩,ha];simp only[R.bind_ok]
 rw[au hn,hF]
theorem y4(ha:fs ρ z=.ok ws z1)(hn:ws.length+1=k)(hF:F (.loc z1.length::ws) (z1++[.obj c []])=.ok .non z2):vE c k F fs ρ z=.ok (.loc z1.length) z2:=by
 unfold vE
 rw[ha];simp only[R.bind_ok]
 rw[au hn,hF]
theorem jC(hρ:ρ[0]?=some (lO L))(h1:fe ρ z=.ok y z1)(h3:z1[L]?=some (.obj c fl))(hl:fl.length<900)(hf:ut f y fl=fl')(next:∀z',z'[L]?=some (.obj c fl')->Kp L L z1 z'->iF P (f' ρ z')):iF P (aX (p5 c f (af 0) fe) f' ρ z):=by
 refine aB (Jw h1 (dN hρ) h3 hl) (next _ (by rw[iI h3,hf]) Kp.refl.setA)
end
def qX(st z:List am):Prop:=∀(i:Nat) (c:am),st[i]?=some c->z[i]?=some c
theorem qX.pre(h:qX st z):∃x,z=st++x:=by
 have:st <+: z:=List.prefix_iff_getElem?.mpr fun i hi=>h i _ (ae hi)
 exact this.imp fun x e=>e.symm
theorem qX.kp{a b:Nat}{z':List am}(h:qX st z)(k:Kp a b z z')(ha:st.length<=a)(hb:st.length<=b):qX st z':=fun i c e=>by
 have:=cO e
 exact k i c (h i c e) #[0] #[0]
theorem uC(h:nm.length<=4)(st:List am):Du [.str nm] st=.ok .non st:=by
 refine Hw ?_
 apply mw
 ·exact bJ (bN (bX kn (nH (by show _<=1000000;omega))) cD (jl (by simp;omega)))
 ·exact⟨_,_,rfl,[],by simp⟩
theorem Cv{M:Mc}{x:W}(hM:uV M n)(hn:n<=1000)(hl:l.length=n)(hx:qr st x l):I0 [M.w,x] st=.ok (.int ((gf n M.gd l).sum:Nat)) st:=by
 rcases hx with rfl|⟨p,rfl,hp⟩
 ·exact AY hM hn hl st
 refine fz (w:=.int ((gf n M.gd l).sum:Nat)) ?_ rfl
 have hcm:=pA (cap:=[none,none]) (f:=zu 2 (dq (dZ 0) (dq (dZ 1) kq))) (t:=fG (af 1)) (el:=af 0) (ρ:=[some M.w,lO p]) (st:=st) (st1:=st) (ws:=jZ (nW l) (M.gd.map W.bl)) (ck:=some (p,nW l)) (fi:=kM (ai (af 1) (ai (e2 bI (af 0) (eI 1)) aA))) zT zY
  (Jl (av kv (av kx aN)) (aS hp)) (by rw[mU];simp[nW,hl];have:=hM.gd;show _<=1000000;omega) (aS hp) fun w hw=>by
   obtain⟨k,hk⟩:=dL hw
   obtain⟨x,y,hx,hy,rfl⟩:=mT hk
   rw[ag]at hy
   obtain⟨b,_,rfl⟩:=aC.mp hy
   exact⟨_,rfl,bJ kv,fun _=>dN rfl⟩
 rw[Cs,Jo hl hM.gd,Jp]at hcm
 apply bB
 ·exact bX (av hcm aN) (DR (aS bd))
 ·exact⟨_,_,rfl,by rw[vW],_,rfl⟩
theorem sd{M:Mc}{n L pc:Nat}{fl:List (Str×W)}{qs:List Nat}{V:List (List Nat)}(hM:uV M n)(hn:n<=1000)(ho:z[L]?=some (.obj "Course" fl))(hm:fl.lookup ("machine":Str)=some M.w)(hc:fl.lookup ("counts":Str)=some (.loc pc))(FH:z[pc]?=some (.lst (qs.map W.loc)))
  (hq:∀j q:Nat,qs[j]?=some q->z[q]?=some (.lst (nW (V.getD j (ez n))))) (o:Option Nat) (hk:∀k,o=some k->k<qs.length):∃x,bU [.loc L,oW o] z=.ok x z/\qr z x (mQ n V o):=by
 cases o with
 |none=>
  refine⟨kC (ez n),?_,.inl rfl⟩
  refine fz (w:=kC (ez n)) ?_ (by simp only[undWs,r4,cK])
  apply bB
  ·exact pk (bJ (uc kv rfl)) (bY (av (pK kv ho hm) aN) (uz hM hn z) rfl)
  ·exact⟨_,_,rfl,rfl,[],by simp⟩
 |some k=>
  obtain⟨q,e⟩:∃q,qs[k]?=some q:=⟨_,ae (hk k rfl)⟩
  refine⟨.loc q,?_,.inr ⟨q,rfl,hq k q e⟩⟩
  refine j3 ?_
  apply bB
  ·exact pq (bJ (uc kv rfl)) (bN (pK kv ho hc) kv (jm (aS FH) (dF (by rw[ag,e];rfl))))
  ·exact⟨_,_,rfl,rfl,rfl⟩
section
variable{ps:List Pl}{sz:List Nat}{lk:List #[3]}
theorem Gr.pf(h:Gr ps S sz lk)(hi:i<ps.length):∃(p:Pl) (L R:Nat),ps[i]?=some p/\sz[i]?=some (1+L+R)/\L+R<=i/\lk[i]?=some (if 0<L then some (i-1-R)else none,if 0<R then some (i-1)else none) /\
  p.b=(if 0<L then 1 else 0)+(if 0<R then 2 else 0)/\(0<R->sz[i-1]?=some R)/\(0<L->sz[i-1-R]?=some L):=by
 obtain⟨S1,S2,p,k,x,g1,q1,q2,q3,hs,_⟩:=h.step i hi
 obtain⟨l1,l2,ha⟩:=g1.ok
 have dG:(ps.take i).length=i:=by rw[be];omega
 rw[dG]at ha
 obtain⟨b,m⟩:=p
 have get:∀j a,1<=i->j<i->(sz.take i)[j]?=some a->sz[j]?=some a:=fun j a hi1 hj e=>by
  rw[dC hj]at e;exact e
 cases hs with
 |z=>exact⟨⟨0,m⟩,0,0,q1,q2,by omega,q3,rfl,fun z=>absurd z (by omega),fun z=>absurd z (by omega)⟩
 |@l a S=>
  obtain⟨a1,a2,a3,_⟩:=ha
  refine⟨⟨1,m⟩,a,0,q1,q2,by omega,?_,?_,fun z=>absurd z #[0],fun _=>get _ _ #[0] #[0] a1⟩
  ·rw[q3,au #[0],ay #[0],nY]
  ·rw[au #[0],ay #[0]]
 |@r a S=>
  obtain⟨a1,a2,a3,_⟩:=ha
  refine⟨⟨2,m⟩,0,a,q1,by rw[q2],by omega,?_,?_,fun _=>get _ _ #[0] #[0] a1,fun z=>absurd z #[0]⟩
  ·rw[q3,ay #[0],au #[0]]
  ·rw[ay #[0],au #[0]]
 |@b c a S=>
  obtain⟨a1,a2,a3,b1,b2,b3,_⟩:=ha
  refine⟨⟨3,m⟩,a,c,q1,by rw[q2];congr 1;omega,by omega,?_,?_,fun _=>get _ _ #[0] #[0] a1,fun _=>get _ _ #[0] #[0] (by rw[show i-1-c=i-c-1 by omega];exact b1)⟩
  ·rw[q3,au #[0],au #[0]]
  ·rw[au #[0],au #[0]]
end
section
variable(n:Nat)(T:Nat->Nat->Nat->Nat)
theorem D7:∀(ns:List (List Nat)) (lk:List #[3]) (r:List (List Nat)),r <+: js n T ns lk r
 |x::ns,y::lk,r=>(bp _ _).trans (D7 ns lk _)
 |[],[],r=>aj _
 |[],_::_,r=>aj _
 |_::_,[],r=>aj _
theorem D8:∀(a b:List (List Nat)) (c d:List #[3]) (r:List (List Nat)),a.length=c.length->js n T (a++b) (c++d) r=js n T b d (js n T a c r)
 |[],b,[],d,r,_=>rfl
 |x::a,b,y::c,d,r,h=>D8 a b c d _ (by simpa using h)
 |[],_,_::_,_,_,h=>by simp at h
 |_::_,_,[],_,_,h=>by simp at h
theorem v5(N:List (List Nat))(lk:List #[3])(hl:N.length=lk.length)(i:Nat):js n T (N.take i) (lk.take i) [] <+: js n T N lk []:=by
 have:=D8 n T (N.take i) (N.drop i) (lk.take i) (lk.drop i) [] (by simp[hl])
 rw[jW,jW]at this
 rw[this]
 exact D7 n T _ _ _
end
theorem A3{a b:List α}(h:a <+: b)(hi:i<a.length)(d:α):b.getD i d=a.getD i d:=by
 obtain⟨x,rfl⟩:=h
 rw[ao,ao,aQ hi]
theorem y6{a b:List (List Nat)}(h:a <+: b){o:Option Nat}(ho:∀k,o=some k->k<a.length):mQ n b o=mQ n a o:=by
 cases o with
 |none=>rfl
 |some k=>exact A3 h (ho k rfl) _
theorem Cw{n:Nat}{T:Nat->Nat->Nat->Nat}{N:List (List Nat)}{lk:List #[3]}(hl:N.length=lk.length)(hx:lk[i]?=some x)(hk:U5 i x) :
  (js n T N lk []).getD i (ez n)=yW n T (N.getD i []) (mQ n (js n T N lk []) x.1) (mQ n (js n T N lk []) x.2):=by
 have hi:i<N.length:=by have:=(ac.mp hx).1;omega
 have p1:=v5 n T N lk hl i
 have p2:=v5 n T N lk hl (i+1)
 have l1:(js n T (N.take i) (lk.take i) []).length=i:=by rw[yZ n T _ _ _ (by simp[hl])];simp;omega
 have e:js n T (N.take (i+1)) (lk.take (i+1)) []=js n T (N.take i) (lk.take i) []++[yW n T (N.getD i []) (mQ n (js n T (N.take i) (lk.take i) []) x.1) (mQ n (js n T (N.take i) (lk.take i) []) x.2)]:=by
  rw[da (bb [] hi),da hx]
  exact vZ n T _ _ _ _ _ (by simp[hl])
 rw[y6 p1 (fun k e=>by rw[l1];exact hk.1 k e),y6 p1 (fun k e=>by rw[l1];exact hk.2 k e)]
 rw[e]at p2
 rw[A3 p2 (by simp[l1]),ao,dh #[0],l1];simp
section
variable(T:Nat->Nat->Nat->Nat)(g:Nat->Nat)
def oO:List Nat->List (List Nat)->List Nat->Nat
 |b::bs,x::ns,σ=>sm x fun t=>oO bs ns (wV T b t σ)
 |_,_,σ=>g (σ.headD 0)
def cs(bs:List Nat)(N:List (List Nat))(j:Nat)(σ:List Nat):Nat:=oO T g (bs.drop j) (N.drop j) σ
theorem y7{bs:List Nat}(hl:N.length=bs.length){b:Nat}(hj:bs[j]?=some b)(σ:List Nat):cs T g bs N j σ=sm (N.getD j []) fun t=>cs T g bs N (j+1) (wV T b t σ):=by
 obtain⟨h1,h2⟩:=ac.mp hj
 unfold cs
 rw[bj h1,bj (show j<N.length by omega),h2]
 show sm N[j] _=_
 rw[ao,ae #[0]];rfl
theorem Jx{bs:List Nat}(hj:bs.length<=j)(σ:List Nat):cs T g bs N j σ=g (σ.headD 0):=by
 unfold cs
 rw[dU hj];rfl
end
noncomputable def sk(sz rs:List Nat):Nat->List Nat
 |0=>[]
 |j+1=>rs.getD j 0::sk sz rs (j+1-max 1 (sz.getD j 0))
termination_by j=>j
decreasing_by omega
theorem ig{sz rs:List Nat}{k:Nat}(h:sz[j]?=some k)(hk:1<=k):sk sz rs (j+1)=rs.getD j 0::sk sz rs (j+1-k):=by
 rw[sk,ao (l:=sz),h,show max 1 ((some k).getD 0)=k by show max 1 k=k;omega]
theorem A4{sz rs rs':List Nat}:∀j,(∀k,k<j->rs.getD k 0=rs'.getD k 0)->sk sz rs j=sk sz rs' j:=by
 intro j
 induction j using Nat.strongRecOn with
 |_ j ih=>
  intro h
  cases j with
  |zero=>rw[sk,sk]
  |succ j=>rw[sk,sk,h j (by omega),ih _ (by omega) fun k hk=>h k (by omega)]
noncomputable def kL(rs:List Nat):Option Nat->Nat
 |none=>0
 |some k=>rs.getD k 0
section
variable{ps:List Pl}{sz:List Nat}{lk:List #[3]}{g:Nat->Nat}
theorem Jy(h:Gr ps S sz lk)(hN:N.length=ps.length)(hT:∀t a b,T t a b<n)(hn:1<=n):∀(r k:Nat),sz[r]?=some k->∀τ,cs T g (ps.map Pl.b) N (r+1-k) τ=pH n ((js n T N lk []).getD r (ez n)) fun q=>cs T g (ps.map Pl.b) N (r+1) (q::τ):=by
 obtain⟨l1,l2,_⟩:=h.ok
 intro r
 induction r using Nat.strongRecOn with
 |_ r ih=>
  intro k hk τ
  have hr:r<ps.length:=by have:=(ac.mp hk).1;omega
  obtain⟨p,L,R,q1,q2,q3,q4,q5,q6,q7⟩:=h.pf hr
  rw[hk]at q2
  have hkk:k=1+L+R:=aG q2
  have hb:(ps.map Pl.b)[r]?=some p.b:=by rw[ag,q1];rfl
  have st:=y7 T g (bs:=ps.map Pl.b) (N:=N) (by simpa using hN) hb
  rw[Cw #[0] q4 (h.lk q4),DU hT]
  by_cases hL:0<L
  ·by_cases hR:0<R
   ·rw[au hL,au hR]at q5 ⊢
    rw[show(1+2:Nat)=3 from rfl]at q5
    have i1:=ih (r-1-R) #[0] L (q7 hL) τ
    rw[show r-1-R+1-L=r+1-k by omega]at i1
    rw[i1]
    refine pI fun a=>?_
    have i2:=ih (r-1) #[0] R (q6 hR) (a::τ)
    rw[show r-1+1-R=r-1-R+1 by omega]at i2
    rw[i2,show r-1+1=r by omega]
    refine pI fun b=>?_
    rw[st,q5];rfl
   ·rw[au hL,ay hR]at q5 ⊢
    rw[show(1+0:Nat)=1 from rfl]at q5
    have i1:=ih (r-1-R) #[0] L (q7 hL) τ
    rw[show r-1-R+1-L=r+1-k by omega]at i1
    rw[i1]
    refine pI fun a=>?_
    show _=pH n (ez n) _
    rw[qM hn,show r-1-R+1=r by omega,st,q5];rfl
  ·by_cases hR:0<R
   ·rw[ay hL,au hR]at q5 ⊢
    rw[show(0+2:Nat)=2 from rfl]at q5
    show _=pH n (ez n) _
    rw[qM hn]
    have i2:=ih (r-1) #[0] R (q6 hR) τ
    rw[show r-1+1-R=r+1-k by omega]at i2
    rw[i2,show r-1+1=r by omega]
    refine pI fun b=>?_
    rw[st,q5];rfl
   ·rw[ay hL,ay hR]at q5 ⊢
    rw[show(0+0:Nat)=0 from rfl]at q5
    show _=pH n (ez n) fun a=>pH n (ez n) _
    rw[qM hn,qM hn,show r+1-k=r by omega,st,q5];rfl
theorem D9(h:Gr ps S sz lk)(rs:List Nat){k:Nat}{p:Pl}(hp:ps[i]?=some p)(hx:lk[i]?=some x)(hk:sz[i]?=some k)(t:Nat):wV T p.b t (sk sz rs i)=T t (kL rs x.1) (kL rs x.2)::sk sz rs (i+1-k):=by
 have hi:i<ps.length:=(ac.mp hp).1
 obtain⟨p',L,R,q1,q2,q3,q4,q5,q6,q7⟩:=h.pf hi
 rw[hp]at q1;cases q1
 rw[hx]at q4
 have q4:=aG q4
 rw[hk]at q2
 have hkk:k=1+L+R:=aG q2
 subst q4
 by_cases hL:0<L
 ·by_cases hR:0<R
  ·rw[au hL,au hR]at q5 ⊢
   have e1:=ig (rs:=rs) (q6 hR) hR
   rw[show i-1+1=i by omega]at e1
   have e2:=ig (rs:=rs) (q7 hL) hL
   rw[show i-1-R+1=i-R by omega]at e2
   rw[e1,e2,q5,show i-R-L=i+1-k by omega];rfl
  ·rw[au hL,ay hR]at q5 ⊢
   have e2:=ig (rs:=rs) (q7 hL) hL
   rw[show i-1-R+1=i by omega]at e2
   rw[e2,q5,show i-L=i+1-k by omega];rfl
 ·by_cases hR:0<R
  ·rw[ay hL,au hR]at q5 ⊢
   have e1:=ig (rs:=rs) (q6 hR) hR
   rw[show i-1+1=i by omega]at e1
   rw[e1,q5,show i-R=i+1-k by omega];rfl
  ·rw[ay hL,ay hR]at q5 ⊢
   rw[q5,show i+1-k=i by omega];rfl
theorem Rz(h:Gr ps S sz lk)(rs:List Nat){k:Nat}{p:Pl}(hp:ps[i]?=some p)(hx:lk[i]?=some x)(hk:sz[i]?=some k) :
  (p.b=0/\x=(none,none)/\sk sz rs i=sk sz rs (i+1-k))\/(p.b=1/\(∃l,x=(some l,none))/\sk sz rs i=kL rs x.1::sk sz rs (i+1-k)) \/
  (p.b=2/\(∃r,x=(none,some r))/\sk sz rs i=kL rs x.2::sk sz rs (i+1-k))\/(p.b=3/\x.1≠none/\x.2≠none/\sk sz rs i=kL rs x.2::kL rs x.1::sk sz rs (i+1-k)):=by
 have hi:i<ps.length:=(ac.mp hp).1
 obtain⟨p',L,R,q1,q2,q3,q4,q5,q6,q7⟩:=h.pf hi
 rw[hp]at q1;cases q1
 rw[hx]at q4
 have q4:=aG q4
 rw[hk]at q2
 have hkk:k=1+L+R:=aG q2
 subst q4
 by_cases hL:0<L
 ·by_cases hR:0<R
  ·rw[au hL,au hR]at q5 ⊢
   have e1:=ig (rs:=rs) (q6 hR) hR
   rw[show i-1+1=i by omega]at e1
   have e2:=ig (rs:=rs) (q7 hL) hL
   rw[show i-1-R+1=i-R by omega]at e2
   exact .inr (.inr (.inr ⟨q5,by simp,by simp,by rw[e1,e2,show i-R-L=i+1-k by omega];rfl⟩))
  ·rw[au hL,ay hR]at q5 ⊢
   have e2:=ig (rs:=rs) (q7 hL) hL
   rw[show i-1-R+1=i by omega]at e2
   exact .inr (.inl ⟨q5,⟨_,rfl⟩,by rw[e2,show i-L=i+1-k by omega];rfl⟩)
 ·by_cases hR:0<R
  ·rw[ay hL,au hR]at q5 ⊢
   have e1:=ig (rs:=rs) (q6 hR) hR
   rw[show i-1+1=i by omega]at e1
   exact .inr (.inr (.inl ⟨q5,⟨_,rfl⟩,by rw[e1,show i-R=i+1-k by omega];rfl⟩))
  ·rw[ay hL,ay hR]at q5 ⊢
   exact .inl ⟨q5,rfl,by rw[show i+1-k=i by omega]⟩
theorem y8(h:Gr ps S sz lk)(ro:Nat){k:Nat}(hk:sz[rs.length]?=some k)(h1:1<=k):sk sz (rs++[ro]) (rs.length+1)=ro::sk sz rs (rs.length+1-k):=by
 rw[ig hk h1]
 congr 1
 ·rw[ao];simp
 ·exact A4 _ fun j hj=>by rw[ao,ao,aQ #[0]]
theorem Cy(rs:List Nat):∀j,(sk sz rs j).length<=j:=by
 intro j
 induction j using Nat.strongRecOn with
 |_ j ih=>
  cases j with
  |zero=>rw[sk];exact ax _
  |succ j=>
   rw[sk,a_]
   have:=ih (j+1-max 1 (sz.getD j 0)) #[0]
   omega
theorem RA(l:List #[3])(n:Nat):undWs n (l.map m7)=true:=by
 induction l with
 |nil=>rfl
 |cons x r ih=>
  obtain⟨a,b⟩:=x
  simp only[aP,undWs,ih,cK,m7,W.und]
  cases a<;>cases b<;>rfl
theorem v6(h:Gr ps S sz lk)(hn:ps.length<=1000)(st:List am):AQ [fE ps] st=.ok (.tup (lk.map m7)) st:=by
 obtain⟨l1,l2,_⟩:=h.ok
 refine fz (N:=7) (ws:=[fE ps]) (body:=UP) ?_ (by simp[undWs,W.und,RA])
 have rg:∀k,k<ps.length->#[12].getD k 0=k:=fun k hk=>by rw[ao,aF hk];rfl
 generalize hR:List.range ps.length=R at rg
 apply aB
 ·exact bu (jk aN (aE rfl))
 apply aB
 ·exact bu (jk aN (aE rfl))
 rw[show(st++[am.lst []]).length=st.length+1 by simp]
 refine du (fun i ρ s=>∃(o3 o4 o5 o6:Option W),ρ=[some (fE ps),some (.loc st.length),some (.loc (st.length+1)),o3,o4,o5,o6]/\s=st++[.lst ((lk.take i).map m7),.lst (nW (sk sz R i).reverse)]) (k:=(jv (ps.map Pl.w),none)) (st1:=st++[am.lst []]++[am.lst []])
  rfl ⟨none,none,none,none,rfl,by rw[aY,sk];rfl⟩ (fun _ _ _ _=>trivial) ?_ ?_
 ·rintro i w ρ s hw ⟨o3,o4,o5,o6,rfl,rfl⟩
  obtain⟨y,hy,rfl⟩:=lI hw
  rw[ag]at hy
  obtain⟨p,hp,rfl⟩:=aC.mp hy
  have hi:i<ps.length:=(ac.mp hp).1
  obtain⟨x,hx⟩:∃x,lk[i]?=some x:=⟨_,ae #[0]⟩
  obtain⟨p',L,Q,q1,q2,q3,q4,q5,_⟩:=h.pf hi
  rw[hp]at q1;cases q1
  have hb3:p.b<=3:=by rw[q5];split<;>split<;>omega
  obtain⟨u1,u2⟩:=h.lk hx
  have ob:∀o,(∀k,o=some k->k<i)->o≠none->W.int (kL R o:Nat)=oW o:=fun o ho wZ=>by
   cases o with
   |none=>exact absurd rfl wZ
   |some k=>show W.int ((R.getD k 0:Nat):Int)=W.int (k:Nat);rw[rg k (by have:=ho k rfl;omega)]
  refine⟨_,rfl,?_⟩
  have tl:=Cy (sz:=sz) R (i+1-(1+L+Q))
  have isl:∀A B:List W,pj (st++[.lst A,.lst B]) (.loc (st.length+1))=true:=fun A B=>eJ (by rw[jw];rfl)
  have pop:∀(q:Nat) (B:List Nat) (A:List W),rE (.loc (st.length+1)) [] (st++[.lst A,.lst (nW (q::B).reverse)])=.ok (.int (q:Nat)) (st++[.lst A,.lst (nW B.reverse)]):=fun q B A=>by
   have hc:(st++[am.lst A,.lst (nW (q::B).reverse)])[st.length+1]?=some (.lst (nW B.reverse++[.int (q:Nat)])):=by rw[jw];unfold nW;simp
   rw[Hv hc,mV];rfl
  have put:iF (Dp fun ρ s=>∃(o3 o4 o5 o6:Option W),ρ=[some (fE ps),some (.loc st.length),some (.loc (st.length+1)),o3,o4,o5,o6]/\s=st++[.lst ((lk.take (i+1)).map m7),.lst (nW (sk sz R (i+1)).reverse)])
    (aX (eT (n9 bW (af 2) (ai (af 3) aA))) (eT (n9 bW (af 1) (ai (o_ (ai (af 6) (ai (af 5) aA))) aA))) [some (fE ps),some (.loc st.length),some (.loc (st.length+1)),some (.int (i:Nat)),some p.w,some (oW x.2),some (oW x.1)] (st++[.lst ((lk.take i).map m7),.lst (nW (sk sz R (i+1-(1+L+Q))).reverse)])):=by
   rw[ig (rs:=R) q2 #[0],rg i hi]
   generalize sk sz R (i+1-(1+L+Q))=B at tl
   generalize hA:(lk.take i).map m7=A
   have ap:=ja (s:=st++[am.lst A,.lst (nW B.reverse)]) (p:=st.length+1) (y:=.int (i:Nat)) (by rw[jw];rfl) (by unfold nW;rw[ak,iL];omega)
   rw[mV,show nW B.reverse++[W.int (i:Nat)]=nW (i::B).reverse by unfold nW;simp]at ap
   have hc:(st++[am.lst A,.lst (nW (i::B).reverse)])[st.length]?=some (.lst A):=by rw[gI];rfl
   apply aB
   ·exact fP (i9 kv (isl _ _) kn ap)
   apply cv
   ·exact fP (i9 kv (eJ hc) (av (qj (av kv kn) (aE rfl)) aN) (ja hc (by rw[<- hA,ak,be];omega)))
   ·refine⟨_,_,rfl,_,_,_,_,rfl,?_⟩
    rw[fD,da hx,bG,hA];rfl
  have T1:∀(k:Bool) (ρ:cy) (s:List am),decide (2<=p.b)=k->ρ[4]?=some (some p.w)->fG (cz 1 Jb (ai (af 4) aA)) ρ s=.ok k s:=fun k ρ s e h4=>by rw[<- e];exact bJ (bY (av (dN h4) aN) (Jq hb3 s) rfl)
  have T2:∀(k:Bool) (ρ:cy) (s:List am),decide (p.b%2=1)=k->ρ[4]?=some (some p.w)->fG (cz 1 Ja (ai (af 4) aA)) ρ s=.ok k s:=fun k ρ s e h4=>by rw[<- e];exact bJ (bY (av (dN h4) aN) (L0 hb3 s) rfl)
  rcases Rz h R hp hx q2 with⟨hb,hxx,hs⟩|⟨hb,⟨l,hxx⟩,hs⟩|⟨hb,⟨r,hxx⟩,hs⟩|⟨hb,n1,n2,hs⟩
  ·rw[hs]
   apply aB
   ·exact bu (pq (T1 _ _ _ (by rw[hb];rfl) rfl) cD)
   apply aB
   ·exact bu (pq (T2 _ _ _ (by rw[hb];rfl) rfl) cD)
   rw[hxx]at put;exact put
  ·rw[hs,<- ob x.1 u1 (by rw[hxx];simp)]at *
   apply aB
   ·exact bu (pq (T1 _ _ _ (by rw[hb];rfl) rfl) cD)
   apply aB
   ·exact bu (pk (T2 _ _ _ (by rw[hb];rfl) rfl) (i9 kv (isl _ _) aN (pop _ _ _)))
   rw[show oW x.2=.non by rw[hxx];rfl]at put;exact put
  ·rw[hs,<- ob x.2 u2 (by rw[hxx];simp)]at *
   apply aB
   ·exact bu (pk (T1 _ _ _ (by rw[hb];rfl) rfl) (i9 kv (isl _ _) aN (pop _ _ _)))
   apply aB
   ·exact bu (pq (T2 _ _ _ (by rw[hb];rfl) rfl) cD)
   rw[show oW x.1=.non by rw[hxx];rfl]at put;exact put
  ·rw[hs,<- ob x.1 u1 n1,<- ob x.2 u2 n2]at *
   apply aB
   ·exact bu (pk (T1 _ _ _ (by rw[hb];rfl) rfl) (i9 kv (isl _ _) aN (pop _ _ _)))
   apply aB
   ·exact bu (pk (T2 _ _ _ (by rw[hb];rfl) rfl) (i9 kv (isl _ _) aN (pop _ _ _)))
   exact put
 ·rintro ρ s ⟨o3,o4,o5,o6,rfl,rfl⟩
  rw[show(jv (ps.map Pl.w),(none:Option (Nat×List W))).fst.length=ps.length by rw[ji];simp]
  apply bB
  ·exact bX kn (kO (aS (by rw[gI];rfl)))
  ·exact⟨_,_,rfl,by rw[bS #[0]],_,rfl⟩
theorem Jz(h:Gr ps S sz lk)(hn:ps.length<=900)(st:List am):Ds [fE ps] st=.ok (kC sz) st:=by
 obtain⟨l1,l2,_⟩:=h.ok
 refine fz (w:=kC sz) ?_ (by simp only[undWs,r4,cK])
 apply aB
 ·exact bu (jk aN (aE rfl))
 refine du (fun i ρ s=>∃(o2 o3 o4:Option W),ρ=[some (fE ps),some (.loc st.length),o2,o3,o4]/\s=st++[.lst (nW (sz.take i))]) (k:=(lk.map m7,none))
  (mv (st1:=st++[am.lst []]) (bY kn (v6 h #[0] _) rfl)) ⟨none,none,none,rfl,rfl⟩ (fun _ _ _ _=>trivial) ?_ ?_
 ·rintro i w ρ s hw ⟨o2,o3,o4,rfl,rfl⟩
  rw[ag]at hw
  obtain⟨x,hx,rfl⟩:=aC.mp hw
  have hi:i<ps.length:=by have:=(ac.mp hx).1;omega
  obtain⟨p,L,R,q1,q2,q3,q4,q5,q6,q7⟩:=h.pf hi
  rw[hx]at q4
  have q4:=aG q4
  have hc:(st++[am.lst (nW (sz.take i))])[st.length]?=some (.lst (nW (sz.take i))):=bd
  have lg:∀(j:Nat) (o:Option Nat) (a c:Nat) (y:W) (ρ:cy),ρ[1]?=some (some (.loc st.length))->ρ[j]?=some (some (oW o))->ρ[4]?=some (some (.int (c:Nat)))->(o=none->a=0)->(∀k,o=some k->(sz.take i)[k]?=some a)->lH (fG (mS (af j))) (bP 4 (e2 fx (af 4) (e2 bI (af 1) (af j)))) d8 ρ (st++[am.lst (nW (sz.take i))])=.nx (ρ.set 4 (some (.int ((c+a:Nat):Int)))) (st++[am.lst (nW (sz.take i))]):=fun j o a c y ρ h1 hj h4 hn hs=>by
   cases o with
   |none=>
    rw[hn rfl]
    refine vH (bJ (j0 (dN hj) rfl)) ?_
    obtain⟨e1,e2⟩:=ac.mp h4
    rw[iu,<- e2,oX];rfl
   |some k=>
    rw[gQ]
    exact jx (bJ (j0 (dN hj) rfl)) (bu (bN (dN h4) (bN (dN h1) (dN hj) (uf hc (hs k rfl))) f9))
  refine⟨_,rfl,?_⟩
  apply aB
  ·exact bu cD
  have tk:∀(k a:Nat),k<i->sz[k]?=some a->(sz.take i)[k]?=some a:=fun k a hk e=>by rw[l_,au hk];exact e
  apply aB
  ·exact lg 2 x.1 L 1 .non _ rfl rfl rfl (fun e=>by rw[q4]at e;by_cases hL:0<L;(rw[au hL]at e;cases e);omega) fun k e=>by
    rw[q4]at e
    by_cases hL:0<L
    ·rw[au hL]at e;cases e;exact tk _ _ #[0] (q7 hL)
    ·rw[ay hL]at e;cases e
  apply aB
  ·exact lg 3 x.2 R (1+L) .non _ rfl rfl rfl (fun e=>by rw[q4]at e;by_cases hR:0<R;(rw[au hR]at e;cases e);omega) fun k e=>by
    rw[q4]at e
    by_cases hR:0<R
    ·rw[au hR]at e;cases e;exact tk _ _ #[0] (q6 hR)
    ·rw[ay hR]at e;cases e
  apply cv
  ·exact fP (i9 kv (eJ hc) kn (ja hc (by unfold nW;rw[ak,be];omega)))
  ·refine⟨_,_,rfl,_,_,_,rfl,?_⟩
   rw[fD,da q2,show nW (sz.take i++[1+L+R])=nW (sz.take i)++[W.int ((1+L+R:Nat):Int)] by unfold nW;simp];rfl
 ·rintro ρ s ⟨o2,o3,o4,rfl,rfl⟩
  rw[show(lk.map m7,(none:Option (Nat×List W))).fst.length=ps.length by rw[ak,l2],bS #[0]]
  apply bB
  ·exact bX kn (kO (aS bd))
  ·exact⟨_,_,rfl,rfl,_,rfl⟩
def D_(n:Nat)(T:Nat->Nat->Nat->Nat)(g:Nat->Nat)(bs:List Nat)(N:List (List Nat))(sz rs:List Nat)(p:Nat):List Nat:=(List.range n).map fun q=>cs T g bs N (p+1) (q::sk sz rs (p+1-sz.getD p 0))
theorem se{bs:List Nat}(p:Nat):(D_ n T g bs N sz rs p).length=n:=by simp[D_]
theorem tJ{bs:List Nat}(p:Nat)(h:q<n):(D_ n T g bs N sz rs p).getD q 0=cs T g bs N (p+1) (q::sk sz rs (p+1-sz.getD p 0)):=hW (fun q=>cs T g bs N (p+1) (q::sk sz rs (p+1-sz.getD p 0))) (aF h)
theorem RB(rs:List Nat)(p:Nat)(hp:p+1=ps.length)(hq:q<n):(D_ n T g (ps.map Pl.b) N sz rs p).getD q 0=g q:=by
 rw[tJ p hq,Jx T g (by simp;omega)];rfl
theorem RC(h:Gr ps S sz lk)(hN:N.length=ps.length)(hT:∀t a b,T t a b<n)(hn:1<=n)(rs:List Nat){u p:Nat}(hx:lk[u]?=some x)(hp:x.1=some p)(hq:q<n) :
  (D_ n T g (ps.map Pl.b) N sz rs p).getD q 0=pH n (mQ n (js n T N lk []) x.2) fun r=>sm (N.getD u []) fun t=>(D_ n T g (ps.map Pl.b) N sz rs u).getD (T t q r) 0:=by
 obtain⟨l1,l2,_⟩:=h.ok
 have hu:u<ps.length:=by have:=(ac.mp hx).1;omega
 obtain⟨pl,L,R,q1,q2,q3,q4,q5,q6,q7⟩:=h.pf hu
 rw[hx]at q4
 have q4:=aG q4
 subst q4
 have hL:0<L:=by
  rcases gF L with z|z
  ·rw[ay #[0]]at hp;cases hp
  ·exact z
 rw[au hL]at hp
 have hp:u-1-R=p:=aG hp
 have sp:=q7 hL
 rw[hp]at sp
 have hb:(ps.map Pl.b)[u]?=some pl.b:=by rw[ag,q1];rfl
 have st:=y7 T g (bs:=ps.map Pl.b) (N:=N) (by simpa using hN) hb
 have wu:∀r t,(D_ n T g (ps.map Pl.b) N sz rs u).getD (T t q r) 0=cs T g (ps.map Pl.b) N (u+1) (T t q r::sk sz rs (u-L-R)):=fun r t=>by
  rw[tJ u (hT ..),ao (l:=sz),q2,show u+1-(some (1+L+R)).getD 0=u-L-R by show u+1-(1+L+R)=_;omega]
 rw[tJ p hq,ao (l:=sz),sp,show p+1-(some L).getD 0=u-L-R by show p+1-L=_;omega]
 by_cases hR:0<R
 ·rw[au hL,au hR]at q5
  show _=pH n (mQ n _ (if 0<R then some (u-1)else none)) _
  rw[au hR]
  have i2:=Jy (g:=g) h hN hT hn (u-1) R (q6 hR) (q::sk sz rs (u-L-R))
  rw[show u-1+1-R=p+1 by omega]at i2
  rw[i2,show u-1+1=u by omega]
  refine pI fun r=>?_
  rw[st,q5]
  exact dg fun t _=>(wu r t).symm
 ·rw[au hL,ay hR]at q5
  show _=pH n (mQ n _ (if 0<R then some (u-1)else none)) _
  rw[ay hR]
  show _=pH n (ez n) _
  rw[qM hn,show p+1=u by omega,st,q5]
  exact dg fun t _=>(wu 0 t).symm
theorem L9(h:Gr ps S sz lk)(hN:N.length=ps.length)(hT:∀t a b,T t a b<n)(rs:List Nat){u p:Nat}(hx:lk[u]?=some x)(hp:x.2=some p)(hq:q<n) :
  (D_ n T g (ps.map Pl.b) N sz rs p).getD q 0=sm (N.getD u []) fun t=>(D_ n T g (ps.map Pl.b) N sz rs u).getD (T t (kL rs x.1) q) 0:=by
 obtain⟨l1,l2,_⟩:=h.ok
 have hu:u<ps.length:=by have:=(ac.mp hx).1;omega
 obtain⟨pl,L,R,q1,q2,q3,q4,q5,q6,q7⟩:=h.pf hu
 rw[hx]at q4
 have q4:=aG q4
 subst q4
 have hR:0<R:=by
  rcases gF R with z|z
  ·rw[ay (show ¬ 0<R by omega)]at hp;cases hp
  ·exact z
 rw[au hR]at hp
 have hp:u-1=p:=aG hp
 have sp:=q6 hR
 rw[hp]at sp
 have hb:(ps.map Pl.b)[u]?=some pl.b:=by rw[ag,q1];rfl
 have st:=y7 T g (bs:=ps.map Pl.b) (N:=N) (by simpa using hN) hb
 have wu:∀r t,(D_ n T g (ps.map Pl.b) N sz rs u).getD (T t r q) 0=cs T g (ps.map Pl.b) N (u+1) (T t r q::sk sz rs (u-L-R)):=fun r t=>by
  rw[tJ u (hT ..),ao (l:=sz),q2,show u+1-(some (1+L+R)).getD 0=u-L-R by show u+1-(1+L+R)=_;omega]
 rw[tJ p hq,ao (l:=sz),sp,show p+1-(some R).getD 0=u-R by show p+1-R=_;omega,show p+1=u by omega,st]
 by_cases hL:0<L
 ·rw[au hL,au hR]at q5
  show _=sm _ fun t=>(D_ n T g (ps.map Pl.b) N sz rs u).getD (T t (kL rs (if 0<L then some (u-1-R)else none)) q) 0
  rw[au hL]
  have e2:=ig (rs:=rs) (q7 hL) hL
  rw[show u-1-R+1=u-R by omega]at e2
  rw[e2,q5]
  refine dg fun t _=>?_
  rw[wu,show u-L-R=u-R-L by omega];rfl
 ·rw[ay hL,au hR]at q5
  show _=sm _ fun t=>(D_ n T g (ps.map Pl.b) N sz rs u).getD (T t (kL rs (if 0<L then some (u-1-R)else none)) q) 0
  rw[ay hL,q5]
  refine dg fun t _=>?_
  rw[wu,show u-L-R=u-R by omega];rfl
end
section
variable(T:Nat->Nat->Nat->Nat)(g:Nat->Nat)
def fin:List Nat->List (List Nat)->List Nat->List Nat->Nat
 |b::bs,x::ns,c::ch,σ=>fin bs ns ch (wV T b (x.getD c 0) σ)
 |_,_,_,σ=>g (σ.headD 0)
end
noncomputable def tD(D:List (Nat×Nat)):List (DK×W):=D.map fun p=>(DK.i (p.1:Nat),W.int (p.2:Nat))
structure oP(D:List (Nat×Nat))(ns:List Nat):Prop where
 nd:(D.map Prod.fst).Nodup
 mem:∀p∈D,p.1∈ns
 sum:∀F:Nat->Nat,sm D (fun p=>p.2*F p.1)=sm ns F
 len:D.length<=ns.length
 le:∀p∈D,p.2<=ns.length
theorem JA(q k:Nat):decide (DK.i (q:Nat)=DK.i (k:Nat))=decide (q=k):=by
 rw[iY,bf,bf]
 constructor
 ·intro h;injection h with h;omega
 ·intro h;rw[h]
theorem JB(D:List (Nat×Nat))(t:Nat):lR (tD D) (.i t)=(D.find? fun p=>decide (p.1=t)).map fun p=>W.int (p.2:Nat):=by
 unfold lR tD
 rw[List.find?_map]
 simp only[dS,JA,Option.map_map]
theorem Ea{D:List (Nat×Nat)}{t:Nat}(h:t∉D.map Prod.fst):D.find? (fun p=>decide (p.1=t))=none:=by
 rw[List.find?_eq_none]
 intro p hp z
 exact h (aO.mpr ⟨p,hp,g7 z⟩)
theorem Eb{D:List (Nat×Nat)}{t:Nat}{v:W}(h:t∉D.map Prod.fst):(tD D).map (fun p=>if p.1=DK.i (t:Nat)then(p.1,v)else p)=tD D:=by
 unfold tD
 rw[a9]
 refine bZ fun p hp=>?_
 show(if DK.i (p.1:Nat)=DK.i (t:Nat)then _ else _)=_
 rw[ay]
 intro z
 injection z with z
 exact h (aO.mpr ⟨p,hp,by omega⟩)
theorem JC(D:List (Nat×Nat))(t:Nat):((tD D).any fun p=>decide (p.1=DK.i (t:Nat)))=decide (t∈D.map Prod.fst):=by
 unfold tD
 rw[List.any_map,iY,j',bf,aO]
 simp only[dS,JA,bf]
theorem oP.step{D:List (Nat×Nat)}(h:oP D ns)(t:Nat):∃(e:Nat) (D':List (Nat×Nat)),(lR (tD D) (.i t)).getD (.int 0)=.int (e:Nat)/\lS (tD D) (.i t) (.int ((e+1:Nat):Int))=tD D'/\oP D' (ns++[t]):=by
 have s1:∀F:Nat->Nat,sm (ns++[t]) F=sm ns F+F t:=fun F=>by rw[qL];simp[sm]
 by_cases ht:t∈D.map Prod.fst
 ·obtain⟨⟨t',e⟩,hp,rfl⟩:=aO.mp ht
  obtain⟨D1,D2,rfl⟩:=List.append_of_mem hp
  have nd:=h.nd
  rw[bG,aP,jK]at nd
  obtain⟨n1,n2,n3⟩:=nd
  have t1:t'∉D1.map Prod.fst:=fun z=>n3 t' z t' bV rfl
  have t2:t'∉D2.map Prod.fst:=(eY.mp n2).1
  refine⟨e,D1++(t',e+1)::D2,?_,?_,?_⟩
  ·rw[JB,mG,Ea t1]
   show((List.find? _ _).map _).getD _=_
   rw[ca,show decide (((t',e):Nat×Nat).1=t')=true from ba rfl];rfl
  ·unfold lS
   rw[JC,au (ba ht)]
   show(tD (D1++(t',e)::D2)).map (fun p=>if p.1=DK.i (t':Nat)then(p.1,W.int ((e+1:Nat):Int))else p)=_
   have:=Eb (D:=D1) (v:=W.int ((e+1:Nat):Int)) t1
   have h2:=Eb (D:=D2) (v:=W.int ((e+1:Nat):Int)) t2
   unfold tD at this h2 ⊢
   rw[bG,aP,bG,aP,this,h2,bG,aP]
   congr 2
   exact au rfl
  ·refine⟨?_,fun p hp=>?_,fun F=>?_,?_,fun p hp=>?_⟩
   ·have:=h.nd
    rw[bG,aP]at this ⊢
    exact this
   ·rcases aZ.mp hp with z|z
    ·exact cw _ (h.mem p (cw _ z))
    ·rcases aM.mp z with rfl|z
     ·exact aH _ bV
     ·exact cw _ (h.mem p (aH _ (aV _ z)))
   ·rw[s1,<- h.sum F,qL,qL,eU,eU]
    show _+((e+1)*F t'+_)=_+(e*F t'+_)+F t'
    rw[ly];omega
   ·have:=h.len
    simp only[aT,a_,gK]at this ⊢;omega
   ·rw[aT,cW]
    rcases aZ.mp hp with z|z
    ·have:=h.le p (cw _ z);omega
    ·rcases aM.mp z with rfl|z
     ·have:=h.le (t',e) (aH _ bV)
      show e+1<=_
      have:e<=ns.length:=this
      omega
     ·have:=h.le p (aH _ (aV _ z));omega
 ·refine⟨0,D++[(t,1)],?_,?_,?_⟩
  ·rw[JB,Ea ht];rfl
  ·unfold lS
   rw[JC,ay (by rw[bf];exact ht)]
   unfold tD
   rw[bG];rfl
  ·refine⟨?_,fun p hp=>?_,fun F=>?_,?_,fun p hp=>?_⟩
   ·rw[bG,jK]
    refine⟨h.nd,by simp,fun a ha b hb=>?_⟩
    have:b=t:=by simpa using hb
    subst this
    intro z;subst z;exact ht ha
   ·rcases aZ.mp hp with z|z
    ·exact cw _ (h.mem p z)
    ·rw[bv.mp z];exact aH _ bV
   ·rw[s1,<- h.sum F,qL];simp[sm]
   ·have:=h.len
    simp only[aT,cW]at this ⊢;omega
   ·rw[aT,cW]
    rcases aZ.mp hp with z|z
    ·have:=h.le p z;omega
    ·rw[bv.mp z];show 1<=_;omega
theorem JD(hl:ns.length<=1000){p:Nat}(hp:st[p]?=some (.lst (nW ns))):∃D,oP D ns/\AS [.loc p] st=.ok (.loc st.length) (st++[.dct (tD D)]):=by
 suffices hh:iF (uu fun w bz=>∃j x,w=.loc (st.length+j)/\bz=st++x/\∃D,oP D ns/\j=0/\x=[.dct (tD D)]) (NA ([W.loc p].map some++List.replicate (3-1) none) st) by
  obtain⟨j,x,⟨D,hD,rfl,rfl⟩,e⟩:=ki hh
  exact⟨D,hD,e⟩
 apply aB
 ·exact bu rfl
 refine du (fun i ρ s=>∃(o:Option W) (D:List (Nat×Nat)),ρ=[lO p,lO st.length,o]/\s=st++[.dct (tD D)]/\oP D (ns.take i)) (ie kv (aS (aI hp))) ⟨none,[],rfl,rfl,⟨by simp,by simp,fun _=>rfl,by simp,by simp⟩⟩ (fun i ρ s h=>by obtain⟨_,_,_,rfl,_⟩:=h;exact aS (aI hp)) ?_ ?_
 ·rintro i w ρ s hw ⟨o,D,rfl,rfl,hD⟩
  unfold nW at hw
  rw[ag]at hw
  obtain⟨t,ht,rfl⟩:=aC.mp hw
  refine⟨_,rfl,?_⟩
  obtain⟨e,D',h1,h2,h3⟩:=hD.step t
  rw[<- da ht]at h3
  have hc:(st++[am.dct (tD D)])[st.length]?=some (.dct (tD D)):=bd
  have hg:yy (af 1) (af 2) (eI 0) [lO p,lO st.length,iO (t:Nat)] (st++[am.dct (tD D)])=.ok (.int (e:Nat)) (st++[am.dct (tD D)]):=by
   have ev1:af 1 [lO p,lO st.length,iO (t:Nat)] (st++[am.dct (tD D)])=.ok (.loc st.length) (st++[am.dct (tD D)]):=dN rfl
   have hdc:gq (st++[am.dct (tD D)]) (.loc st.length)=some (st.length,tD D):=by simp only[gq,hc]
   unfold yy
   rw[ev1]
   simp only[R.bind_ok,hdc]
   rw[show af 2 [lO p,lO st.length,iO (t:Nat)] (st++[am.dct (tD D)])=.ok (.int (t:Nat)) (st++[am.dct (tD D)])from dN rfl]
   simp only[R.bind_ok,cD,hdc,qi,h1]
  have hlD:=hD.len
  rw[be]at hlD
  apply cv
  ·exact vG (bN hg cD f9) kv kv (Jt hc (by unfold tD;rw[ak];show _<1000000;omega))
  ·refine⟨_,_,rfl,_,D',rfl,?_,h3⟩
   rw[fD,show((e:Int)+1)=((e+1:Nat):Int) by omega,h2];rfl
 ·rintro ρ s ⟨o,D,rfl,rfl,hD⟩
  apply bB
  ·exact dN rfl
  ·refine⟨_,_,rfl,0,_,rfl,rfl,D,?_,rfl,rfl⟩
   unfold nW at hD
   rw[ak,cu]at hD
   exact hD
def W0(tbl:List (List (List Nat)))(D:List (Nat×Nat))(vl vr:List Nat):List (Nat×Nat):=(nz vl).flatMap fun a=>(nz vr).flatMap fun b=>D.map fun p=>(Tm tbl p.1 a b,vl.getD a 0*vr.getD b 0*p.2)
theorem RD{tbl:List (List (List Nat))}{D:List (Nat×Nat)}{vl vr:List Nat}(hD:oP D ns)(hl:vl.length=n)(hr:vr.length=n):wt n (W0 tbl D vl vr)=yW n (Tm tbl) ns vl vr:=by
 unfold wt yW W0
 refine bZ fun q _=>?_
 rw[DO]
 unfold nz
 have key:∀a,sm ((List.filter (fun i=>decide (0<vr.getD i 0)) (List.range vr.length)).flatMap fun b=>D.map fun p=>(Tm tbl p.1 a b,vl.getD a 0*vr.getD b 0*p.2)) (fun p:Nat×Nat=>if p.1=q then p.2 else 0)=sm (List.range n) fun b=>vl.getD a 0*vr.getD b 0*ct q (ns.map fun t=>Tm tbl t a b):=by
  intro a
  have e:∀b,sm (D.map fun p=>(Tm tbl p.1 a b,vl.getD a 0*vr.getD b 0*p.2)) (fun p:Nat×Nat=>if p.1=q then p.2 else 0)=vl.getD a 0*vr.getD b 0*ct q (ns.map fun t=>Tm tbl t a b):=fun b=>by
   unfold ct
   rw[vU,vU,<- hD.sum,<- yT]
   refine dg fun t _=>?_
   show(if Tm tbl t.1 a b=q then _ else _)=_
   split<;>simp
  rw[DO,tI _ _ _ fun b hb=>?_,hr]
  ·exact dg fun b _=>e b
  ·rw[e]
   have:vr.getD b 0=0:=by have:=jg hb;omega
   rw[this,sJ,lF]
 rw[tI _ _ _ fun a ha=>?_,hl]
 ·exact dg fun a _=>key a
 ·rw[key]
  have:vl.getD a 0=0:=by have:=jg ha;omega
  rw[dg (g:=fun _=>0) fun b _=>by rw[this,lF,lF],uW]
theorem y9{M:Mc}{tp:Nat}{D:List (Nat×Nat)}{vl vr:List Nat}{xl xr:W}(hM:uV M n)(hn:n<=1000)(FF:∀t∈ns,t<M.tb.length)(hD:oP D ns)(Ke:ns.length<=1000)(ht:st[tp]?=some (.dct (tD D)))(hl:qr st xl vl)(hr:qr st xr vr)(ll:vl.length=n)(lr:vr.length=n)(hb:(∀a,vl.getD a 0<2^64)\/∀a,vr.getD a 0<2^64)(nl:nz vl≠[])(nr:nz vr≠[]) :
  ∃s',Dv [M.w,.loc tp,xl,xr] st=.ok (.loc st.length) s'/\Kp tp st.length st s'/\s'[tp]?=some (.rod (tD D))/\s'[st.length]?=some (.lst (nW (yW n (Tm M.tb) ns vl vr))):=by
 suffices hh:iF (uu fun w s'=>w=.loc st.length/\Kp tp st.length st s'/\s'[tp]?=some (.rod (tD D))/\s'[st.length]?=some (.lst (nW (yW n (Tm M.tb) ns vl vr)))) (Jd ([M.w,.loc tp,xl,xr].map some++List.replicate (11-4) none) st) by
  obtain⟨w,s',e,rfl,h1,h2,h3⟩:=hh
  refine⟨s',?_,h1,h2,h3⟩
  have:=lv (N:=11) (body:=Jd) (ws:=[M.w,.loc tp,xl,xr]) e
  rw[mW (by simp[undWs,W.und])]at this
  exact this
 have ltp:tp<st.length:=cO ht
 have e0:cV [none] (cX (e2 bI (af 0) (eI 1))) (dZ 0) g8 (eI 0) [some M.w,lO tp,some xl,some xr,none,none,none,none,none,none,none] st=.ok (.loc st.length) (st++[.lst (nW (wt n []))]):=by
  have:=mx (cap:=[none]) (f:=dZ 0) (el:=eC (.int 0)) (ρ:=[some M.w,lO tp,some xl,some xr,none,none,none,none,none,none,none]) (st:=st) (fun _=>.int 0) (mv (fe:=e2 bI (af 0) (eI 1)) (ws:=M.gd.map W.bl) (st1:=st) kx)
   (by rw[ak,hM.gd];show _<=1000000;omega) trivial fun w _=>⟨_,rfl,cD⟩
  rw[this]
  congr 4
  refine bM fun i=>?_
  rw[ag,ag,nW,ag]
  by_cases h:i<n
  ·rw[ae (by rw[hM.gd];exact h),DQ h];rfl
  ·rw[az (by rw[hM.gd];omega),az (by rw[vV];omega)];rfl
 apply aB
 ·exact DN e0 rfl
 generalize hs1:st++[am.lst (nW (wt n []))]=s1
 generalize hml:st.length=ml at *
 have vk:∀(x:W) (v:List Nat) (s:List am),qr st x v->Kp tp ml st s->qr s x v:=fun x v s h k=>by
  rcases h with rfl|⟨p,rfl,hp⟩
  ·exact .inl rfl
  ·refine .inr ⟨p,rfl,k p _ hp (fun z=>?_) (fun z=>?_)⟩
   ·subst z;rw[ht]at hp;cases hp
   ·have:=cO hp;omega
 let St:List am->List (Nat×Nat)->Prop:=fun s P=>Kp tp ml st s/\gq s (.loc tp)=some (tp,tD D)/\s[ml]?=some (.lst (nW (wt n P)))
 have dct_app:∀(s x:List am),gq s (.loc tp)=some (tp,tD D)->gq (s++x) (.loc tp)=some (tp,tD D):=fun s x h=>by
  have hlt:tp<s.length:=by
   rcases jJ tp s.length with z|z
   ·exact z
   ·simp only[gq,az z]at h;cases h
  simp only[gq,aQ hlt]at h ⊢;exact h
 have st_app:∀(s x:List am) (P:List (Nat×Nat)),St s P->St (s++x) P:=fun s x P ⟨h1,h2,h3⟩=>⟨h1.app,dct_app s x h2,aI h3⟩
 have h0:St s1 []:=by
  rw[<- hs1]
  refine⟨Kp.refl.app,?_,by rw[<- hml];exact bd⟩
  simp only[gq,aI ht]
 let G:Nat->List (Nat×Nat):=fun i=>((nz vl).take i).flatMap fun a=>(nz vr).flatMap fun b=>D.map fun p=>(Tm M.tb p.1 a b,vl.getD a 0*vr.getD b 0*p.2)
 let K:Nat->Nat->List (Nat×Nat):=fun a j=>((nz vr).take j).flatMap fun b=>D.map fun p=>(Tm M.tb p.1 a b,vl.getD a 0*vr.getD b 0*p.2)
 have hc1:=uY (vk xl vl s1 hl h0.1) #[0]
 have hp1:s1.length≠tp/\s1.length≠ml:=by rw[<- hs1];simp;omega
 refine du (fun i ρ s=>∃(o5 o6 o7 o8 o9 tL:Option W),ρ=[some M.w,lO tp,some xl,some xr,lO ml,o5,o6,o7,o8,o9,tL]/\St s (G i)/\Kp tp ml (s1++[.lst (nW (nz vl))]) s/\(0<i->s[tp]?=some (.rod (tD D))))
  (ie (bY kn hc1 rfl) (aS bd)) ⟨none,none,none,none,none,none,rfl,st_app _ _ _ h0,Kp.refl,fun z=>absurd z #[0]⟩ (fun i ρ s h=>by
   obtain⟨_,_,_,_,_,_,_,_,k,_⟩:=h
   exact aS (k _ _ bd hp1.1 hp1.2)) ?_ ?_
 ·rintro i w ρ s hw ⟨o5,o6,o7,o8,o9,tL,rfl,hS,hk,hrd⟩
  unfold nW at hw
  rw[ag]at hw
  obtain⟨a,ha,rfl⟩:=aC.mp hw
  have han:=Jv ha
  refine⟨_,rfl,?_⟩
  have hc2:=uY (vk xr vr s hr hS.1) #[0]
  have lms:ml<s.length:=cO hS.2.2
  have hp2:s.length≠tp/\s.length≠ml:=by omega
  refine r9 (fun j ρ z=>∃(o6 o7 o8 o9 tL:Option W),ρ=[some M.w,lO tp,some xl,some xr,lO ml,iO (a:Nat),o6,o7,o8,o9,tL]/\St z (G i++K a j)/\Kp tp ml (s++[.lst (nW (nz vr))]) z/\(0<j->z[tp]?=some (.rod (tD D))))
   (ie (bY kn hc2 rfl) (aS bd)) ⟨_,_,_,_,_,rfl,by simpa[K]using st_app _ [.lst (nW (nz vr))] _ hS,Kp.refl,fun z=>absurd z #[0]⟩ (fun i ρ s h=>by
    obtain⟨_,_,_,_,_,_,_,k,_⟩:=h
    exact aS (k _ _ bd hp2.1 hp2.2)) ?_ ?_
  ·rintro j w ρ z hw ⟨o6,o7,o8,o9,tL,rfl,hZ,hkz,_⟩
   unfold nW at hw
   rw[ag]at hw
   obtain⟨b,hbj,rfl⟩:=aC.mp hw
   have hbn:=Jv hbj
   refine⟨_,rfl,?_⟩
   apply aB
   ·exact bu (bN (bN kv kv (Cu (vk xl vl z hl hZ.1) han)) (bN kv kv (Cu (vk xr vr z hr hZ.1) hbn)) (kN (by rcases hb with h|h;exact .inl ⟨by omega,by have:=h a;omega⟩;exact .inr ⟨by omega,by have:=h b;omega⟩)))
   rw[<- dE]
   have ltz:tp<z.length:=by have:=cO hZ.2.2;omega
   have Ks:K a (j+1)=K a j++D.map fun p=>(Tm M.tb p.1 a b,vl.getD a 0*vr.getD b 0*p.2):=by
    show((nz vr).take (j+1)).flatMap _=_
    rw[da hbj,iM];simp[K]
   refine r9 (fun k ρ z'=>∃(o8 o9 tL:Option W),ρ=[some M.w,lO tp,some xl,some xr,lO ml,iO (a:Nat),iO (b:Nat),iO ((vl.getD a 0*vr.getD b 0:Nat):Int),o8,o9,tL]/\St z' (G i++K a j++(D.take k).map fun p=>(Tm M.tb p.1 a b,vl.getD a 0*vr.getD b 0*p.2))/\Kp tp ml z z'/\z'[tp]?=some (.rod (tD D)))
    (D5 kv hZ.2.1) ⟨_,_,_,rfl,⟨hZ.1.setA,by simp only[gq,bq ltz],by rw[eO #[0]];simpa using hZ.2.2⟩,Kp.refl.setA,bq ltz⟩ (fun _ _ _ _=>trivial) ?_ ?_
   ·rintro k w ρ z' hw ⟨o8,o9,tL,rfl,hZ',hkz',hr'⟩
    unfold tD at hw
    rw[a9,ag]at hw
    obtain⟨⟨t,e⟩,ht',rfl⟩:=aC.mp hw
    have hpm:=aw ht'
    have he:e<=ns.length:=hD.le _ hpm
    refine⟨_,rfl,?_⟩
    have htb:M.tb[t]?=some (M.tb.getD t []):=bb [] (FF t (hD.mem _ hpm))
    obtain⟨t1,t2⟩:=hM.t _ (aw htb)
    have g1:(M.tb.getD t [])[a]?=some ((M.tb.getD t []).getD a []):=bb [] #[0]
    obtain⟨r1,r2⟩:=t2 _ (aw g1)
    have g2:((M.tb.getD t []).getD a [])[b]?=some (((M.tb.getD t []).getD a []).getD b 0):=bb 0 #[0]
    have hq:Tm M.tb t a b<n:=r2 _ (aw g2)
    have ix:bI (.tup (M.tb.map m6)) (.int (t:Nat)) z'=.ok (m6 (M.tb.getD t [])) z':=k_ (dF (by rw[ag,htb];rfl))
    apply aB
    ·exact bu (w:=.int (Tm M.tb t a b:Nat)) (bN (bN (bN kx kv ix) kv (vT g1)) kv (tF g2))
    apply cv
    ·exact vG (bN (bN kv kv (uf hZ'.2.2 (DQ hq))) (bN kv kv (kN (.inr ⟨by omega,by omega⟩))) f9) kv kv (yR hZ'.2.2 (by unfold nW;rw[ak,vV];exact hq))
    ·refine⟨_,_,rfl,_,_,_,rfl,⟨hZ'.1.setB,?_,?_⟩,hkz'.setB,by rw[eO #[0]];exact hr'⟩
     ·have:=hZ'.2.1
      simp only[gq,eO (show ml≠tp by omega)]at this ⊢;exact this
     ·rw[iI hZ'.2.2,<- dE,<- gQ,Rs,LZ hq,da ht']
      simp[aY]
   ·rintro ρ z' ⟨o8,o9,tL,rfl,hZ',hkz',hr'⟩
    refine⟨_,_,rfl,_,_,_,_,_,rfl,?_,hkz.trans hkz',fun _=>hr'⟩
    rw[show(List.map (fun p:DK×W=>W.tup [p.1.w,p.2]) (tD D),(none:Option (Nat×List W))).fst.length=D.length by unfold tD;rw[ak,ak],cu]at hZ'
    rw[Ks,<- aY];exact hZ'
  ·rintro ρ z ⟨o6,o7,o8,o9,tL,rfl,hZ,hkz,hr'⟩
   refine⟨_,_,rfl,_,_,_,_,_,_,rfl,?_,hk.trans hkz.of_app,fun _=>hr' (by unfold nW;rw[ak];exact lj.mpr nr)⟩
   have e:G (i+1)=G i++K a (nW (nz vr)).length:=by
    show((nz vl).take (i+1)).flatMap _=_
    rw[da ha,iM]
    unfold nW
    simp[G,K]
   rw[e];exact hZ
 ·rintro ρ s ⟨o5,o6,o7,o8,o9,tL,rfl,hS,hk,hr'⟩
  apply bB
  ·exact dN rfl
  ·refine⟨_,_,rfl,rfl,hS.1,hr' (by unfold nW;rw[ak];exact lj.mpr nl),?_⟩
   rw[hS.2.2,<- RD hD ll lr]
   unfold nW W0
   rw[ak]
   simp only[G,cu]
theorem Ec(ps:List Pl)(hn:ps.length<=1000)(hρ:ρ[0]?=some (some (fE ps)))(st:List am):cV [none] (cX (af 0)) (dZ 0) g8 (eC .non) ρ st=.ok (.loc st.length) (st++[.lst ((List.replicate ps.length none).map oW)]):=by
 have:=mx (cap:=[none]) (f:=dZ 0) (el:=eC .non) (ρ:=ρ) (st:=st) (fun _=>.non) (mv (fe:=af 0) (ws:=ps.map Pl.w) (st1:=st) (dN hρ)) (by rw[ak];show _<=1000000;omega) trivial fun w _=>⟨_,rfl,cD⟩
 rw[this,List.map_replicate,a9]
 congr 4
 exact List.map_const' ..
def Up(lk:List #[3])(f:Option Nat×Option Nat->Option Nat)(i:Nat)(l:List (Option Nat)):Prop:=
 (∀p u:Nat,l[p]?=some (some u)->∃x,lk[u]?=some x/\f x=some p)/\∀u x p,u<i->lk[u]?=some x->f x=some p->∃v,l[p]?=some (some v)
theorem Up.zero{lk:List #[3]}{k:Nat}:Up lk f 0 (List.replicate k none):=⟨fun p u e=>by
 rw[jn]at e
 split at e<;>simp at e,fun u x p h=>absurd h #[0]⟩
theorem Up.skip{lk:List #[3]}{l:List (Option Nat)}(h:Up lk f i l)(hx:lk[i]?=some x)(hf:f x=none):Up lk f (i+1) l:=⟨h.1,fun u y p hu hy hp=>by
 by_cases e:u=i
 ·subst e;rw[hx]at hy;cases hy;rw[hf]at hp;cases hp
 ·exact h.2 u y p #[0] hy hp⟩
theorem Up.put{lk:List #[3]}{l:List (Option Nat)}(h:Up lk f i l)(hx:lk[i]?=some x)(hf:f x=some q)(hq:q<l.length):Up lk f (i+1) (l.set q (some i)):=⟨fun p u e=>by
 by_cases z:q=p
 ·subst z
  rw[bq hq]at e
  cases e;exact⟨x,hx,hf⟩
 ·rw[b8 z]at e;exact h.1 p u e,fun u y p hu hy hp=>by
 by_cases z:q=p
 ·subst z;exact⟨i,bq hq⟩
 ·rw[b8 z]
  by_cases e:u=i
  ·subst e;rw[hx]at hy;cases hy;rw[hf]at hp;exact absurd (aG hp) z
  ·exact h.2 u y p #[0] hy hp⟩
noncomputable def xS(sz:List Nat)(N k j:Nat):List Nat:=((List.range k).map fun e=>N-1-e).filter fun p=>decide (p+1-sz.getD p 0=j)
theorem A7(sz:List Nat)(N k j:Nat):xS sz N (k+1) j=xS sz N k j++if N-1-k+1-sz.getD (N-1-k) 0=j then[N-1-k]else[]:=by
 unfold xS
 rw[kY,bG,List.filter_append]
 congr 1
 rw[List.map_singleton,eG]
 by_cases h:N-1-k+1-sz.getD (N-1-k) 0=j
 ·rw[au h,au (ba h)];rfl
 ·rw[ay h,ay (by rw[bf];exact h)];rfl
theorem Ed(sz:List Nat)(N k j:Nat):(xS sz N k j).length<=k:=by
 unfold xS
 exact aR (cf _ _) #[9]
theorem y_{sz:List Nat}{N p:Nat}:p∈xS sz N N j↔p<N/\p+1-sz.getD p 0=j:=by
 unfold xS
 rw[bE,aO,bf]
 constructor
 ·rintro⟨⟨e,he,rfl⟩,h⟩
  rw[aU]at he
  exact⟨by omega,h⟩
 ·rintro⟨h1,h2⟩
  exact⟨⟨N-1-p,aU.mpr #[0],by omega⟩,h2⟩
theorem JE(sz:List Nat)(N j:Nat):(xS sz N N j).Pairwise fun a b=>b<a:=by
 unfold xS
 refine List.Pairwise.filter _ ?_
 rw[List.pairwise_map]
 refine List.Pairwise.imp_of_mem ?_ (List.pairwise_lt_range (n:=N))
 intro a b ha hb h
 rw[aU]at ha hb
 omega
theorem JF{sz:List Nat}{N p u:Nat}(hp:(xS sz N N j)[i]?=some p)(hu:u∈xS sz N N j)(h:p<u):u∈(xS sz N N j).take i:=by
 obtain⟨k,hk⟩:=dL hu
 obtain⟨i1,i2⟩:=ac.mp hp
 obtain⟨k1,k2⟩:=ac.mp hk
 have hki:k<i:=by
  rcases Nat.lt_trichotomy k i with z|z|z
  ·exact z
  ·subst z;rw[i2]at k2;omega
  ·have:=iD.mp (JE sz N j) i k i1 k1 z
   rw[i2,k2]at this;omega
 exact aw (i:=k) (by rw[l_,au hki];exact hk)
section
variable{ps:List Pl}{sz:List Nat}{lk:List #[3]}
theorem Gr.par(h:Gr ps S sz lk):∀p,p<ps.length->p∈VT S ps.length\/∃(u:Nat) (x:Option Nat×Option Nat),lk[u]?=some x/\(x.1=some p\/x.2=some p):=by
 induction h with
 |nil=>intro p hp;simp at hp
 |@snoc ps S S' sz lk b k m y hg hs ih=>
  intro p hp
  obtain⟨l1,l2,ha⟩:=hg.ok
  rw[aT,cW]at hp ⊢
  have hy:(lk++[y])[ps.length]?=some y:=by rw[<- l2];simp
  by_cases e:p=ps.length
  ·refine .inl ?_
   subst e
   cases hs<;>simp[VT]
  ·rcases ih p #[0]with z|⟨u,x,hx,z⟩
   ·cases hs with
    |z=>exact .inl (aV _ (by rw[l9];exact z))
    |@l a S=>
     obtain⟨_,a2,a3,_⟩:=ha
     rcases aM.mp z with z|z
     ·exact .inr ⟨_,_,hy,.inl (by rw[z])⟩
     ·exact .inl (aV _ (by rw[show ps.length+1-(1+a)=ps.length-a by omega];exact z))
    |@r a S=>
     obtain⟨_,a2,a3,_⟩:=ha
     rcases aM.mp z with z|z
     ·exact .inr ⟨_,_,hy,.inr (by rw[z])⟩
     ·exact .inl (aV _ (by rw[show ps.length+1-(1+a)=ps.length-a by omega];exact z))
    |@b c a S=>
     obtain⟨_,a2,a3,_,b2,b3,_⟩:=ha
     rcases aM.mp z with z|z
     ·exact .inr ⟨_,_,hy,.inr (by rw[z])⟩
     ·rcases aM.mp z with z|z
      ·exact .inr ⟨_,_,hy,.inl (by rw[z];show some (ps.length-1-c)=some (ps.length-c-1);congr 1;omega)⟩
      ·exact .inl (aV _ (by rw[show ps.length+1-(1+c+a)=ps.length-c-a by omega];exact z))
   ·exact .inr ⟨u,x,by rw[aQ (ac.mp hx).1];exact hx,z⟩
theorem RE(h:Gr ps S sz lk)(hn:ps.length<=900)(st:List am):∃(A B:List (Option Nat)) (x:List am),A.length=ps.length/\B.length=ps.length/\Up lk Prod.fst ps.length A/\Up lk Prod.snd ps.length B/\(st++x)[st.length]?=some (.lst (A.map oW))/\(st++x)[st.length+1]?=some (.lst (B.map oW))/\Dq [fE ps] st=.ok (.tup [.loc st.length,.loc (st.length+1)]) (st++x):=by
 obtain⟨l1,l2,_⟩:=h.ok
 suffices hh:iF (uu fun w bz=>w=.tup [.loc st.length,.loc (st.length+1)]/\st <+: bz/\∃(A B:List (Option Nat)),A.length=ps.length/\B.length=ps.length/\Up lk Prod.fst ps.length A/\Up lk Prod.snd ps.length B/\bz[st.length]?=some (.lst (A.map oW))/\bz[st.length+1]?=some (.lst (B.map oW))) (Jc ([fE ps].map some++List.replicate (5-1) none) st) by
  obtain⟨w,s',e,rfl,⟨x,rfl⟩,A,B,a1,a2,a3,a4,a5,a6⟩:=hh
  refine⟨A,B,x,a1,a2,a3,a4,a5,a6,?_⟩
  have:=lv (N:=5) (body:=Jc) (ws:=[fE ps]) e
  rw[mW (by simp[undWs,W.und])]at this
  exact this
 have eA:=Ec ps #[0] (ρ:=[some (fE ps),none,none,none,none]) rfl st
 apply aB
 ·exact DN eA rfl
 generalize hA0:List.replicate ps.length (none:Option Nat)=A0 at *
 have eB:=Ec ps #[0] (ρ:=[some (fE ps),lO st.length,none,none,none]) rfl (st++[.lst (A0.map oW)])
 rw[hA0]at eB
 apply aB
 ·exact DN eB rfl
 rw[show(st++[am.lst (A0.map oW)]).length=st.length+1 by simp]
 have lA0:A0.length=ps.length:=by rw[<- hA0];simp
 have uA:∀f,Up lk f 0 A0:=fun f=>by rw[<- hA0];exact Up.zero
 have hlk:=v6 h #[0] (st++[am.lst (A0.map oW)]++[.lst (A0.map oW)])
 refine du (fun i ρ s=>∃(o3 o4:Option W) (A B:List (Option Nat)),ρ=[some (fE ps),lO st.length,lO (st.length+1),o3,o4]/\st <+: s/\A.length=ps.length/\B.length=ps.length/\s[st.length]?=some (.lst (A.map oW))/\s[st.length+1]?=some (.lst (B.map oW))/\Up lk Prod.fst i A/\Up lk Prod.snd i B) (k:=(jv (lk.map m7),none))
  (st1:=st++[am.lst (A0.map oW)]++[.lst (A0.map oW)]) (Rx (av (bY kn hlk rfl) aN)) ⟨none,none,A0,A0,rfl,mC (mC (aj _)),lA0,lA0,aI bd,by rw[show st.length+1=(st++[am.lst (A0.map oW)]).length by simp];exact bd,uA _,uA _⟩ (fun _ _ _ _=>trivial) ?_ ?_
 ·rintro i w ρ s hw ⟨o3,o4,A,B,rfl,hp,hA,hB,cA,cB,uA,uB⟩
  obtain⟨y,hy,rfl⟩:=lI hw
  rw[ag]at hy
  obtain⟨x,hx,rfl⟩:=aC.mp hy
  obtain⟨k1,k2⟩:=h.lk hx
  have hi:i<ps.length:=by have:=(ac.mp hx).1;omega
  refine⟨_,rfl,?_⟩
  obtain⟨a,b⟩:=x
  have last:∀(s:List am) (A:List (Option Nat)),st <+: s->A.length=ps.length->s[st.length]?=some (.lst (A.map oW))->s[st.length+1]?=some (.lst (B.map oW))->Up lk Prod.fst (i+1) A->iF (Dp fun ρ s=>∃(o3 o4:Option W) (A B:List (Option Nat)),ρ=[some (fE ps),lO st.length,lO (st.length+1),o3,o4]/\st <+: s/\A.length=ps.length/\B.length=ps.length/\s[st.length]?=some (.lst (A.map oW))/\s[st.length+1]?=some (.lst (B.map oW))/\Up lk Prod.fst (i+1) A/\Up lk Prod.snd (i+1) B)
    (lH (fG (mS (e2 bI (af 4) (eI 1)))) (rD (af 2) (e2 bI (af 4) (eI 1)) (af 3) pe) d8 [some (fE ps),lO st.length,lO (st.length+1),iO (i:Nat),some (m7 (a,b))] s):=by
   intro s A hp hA cA cB uA
   cases b with
   |none=>
    apply mw
    ·exact bJ (j0 kx rfl)
    ·exact⟨_,_,rfl,_,_,A,B,rfl,hp,hA,hB,cA,cB,uA,uB.skip hx rfl⟩
   |some q=>
    have:=k2 q rfl
    apply pz
    ·exact bJ (j0 kx rfl)
    apply cv
    ·exact vG kv kv kx (yR (q:=q) cB (by rw[ak];omega))
    ·exact⟨_,_,rfl,_,_,A,B.set q (some i),rfl,pU hp #[0],hA,by rw[iV];exact hB,by rw[eO #[0]];exact cA,by rw[iI cB,n5];rfl,uA,uB.put hx rfl #[0]⟩
  cases a with
  |none=>
   apply cI
   ·exact bJ (j0 kx rfl)
   apply df
   exact last s A hp hA cA cB (uA.skip hx rfl)
  |some q=>
   have:=k1 q rfl
   apply aB
   ·exact jx (bJ (j0 kx rfl)) (vG kv kv kx (yR (q:=q) cA (by rw[ak];omega)))
   exact last _ (A.set q (some i)) (pU hp (ax _)) (by rw[iV];exact hA) (by rw[iI cA,n5];rfl) (by rw[eO #[0]];exact cB) (uA.put hx rfl #[0])
 ·rintro ρ s ⟨o3,o4,A,B,rfl,hp,hA,hB,cA,cB,uA,uB⟩
  rw[show(jv (lk.map m7),(none:Option (Nat×List W))).fst.length=ps.length by rw[ji,ak,l2]]at uA uB
  apply bB
  ·exact qj (av kv kn) (aE rfl)
  ·exact⟨_,_,rfl,rfl,hp,A,B,hA,hB,uA,uB,cA,cB⟩
theorem JG(h:Gr ps S sz lk)(hn:ps.length<=900)(st:List am):∃x:List am,(st++x)[st.length+ps.length]?=some (.lst (#[12].map fun i=>W.loc (st.length+i)))/\(∀j,j<ps.length->(st++x)[st.length+j]?=some (.lst (nW (xS sz ps.length ps.length j))))/\Dy [fE ps] st=.ok (.loc (st.length+ps.length)) (st++x):=by
 obtain⟨l1,l2,_⟩:=h.ok
 suffices hh:iF (uu fun w bz=>∃j x,w=.loc (st.length+j)/\bz=st++x/\j=ps.length/\(st++x)[st.length+ps.length]?=some (.lst (#[12].map fun i=>W.loc (st.length+i)))/\∀j,j<ps.length->(st++x)[st.length+j]?=some (.lst (nW (xS sz ps.length ps.length j)))) (ND ([fE ps].map some++List.replicate (4-1) none) st) by
  obtain⟨j,x,⟨rfl,h1,h2⟩,e⟩:=ki hh
  exact⟨x,h1,h2,e⟩
 have e0:=D6 (cap:=[none]) (ρ:=[some (fE ps),none,none,none]) (f:=dZ 0) (el:=ju aA) (fun _=>am.lst []) (mv (fe:=af 0) (ws:=ps.map Pl.w) (st1:=st) kv) (by rw[ak];omega) (fun _=>trivial) fun i w _ x=>⟨_,rfl,jk aN (aE rfl)⟩
 rw[ak]at e0
 apply aB
 ·exact DN e0 rfl
 generalize hs0:st++#[12].map (fun _=>am.lst [])++[.lst (#[12].map fun i=>W.loc (st.length+i))]=s0
 have p0:st <+: s0:=by rw[<- hs0];exact mC (mC (aj _))
 have c0:s0[st.length+ps.length]?=some (.lst (#[12].map fun i=>W.loc (st.length+i))):=by
  rw[<- hs0,show st.length+ps.length=(st++#[12].map fun _=>am.lst []).length by simp];exact bd
 have c1:∀j,j<ps.length->s0[st.length+j]?=some (.lst []):=fun j hj=>by
  rw[<- hs0]
  refine aI ?_
  rw[jw,ag,aF hj];rfl
 apply aB
 ·exact bu (bY kn (Jz h hn s0) rfl)
 refine du (fun i ρ s=>∃o:Option W,ρ=[some (fE ps),lO (st.length+ps.length),some (.tup (nW sz)),o]/\st <+: s/\s[st.length+ps.length]?=some (.lst (#[12].map fun i=>W.loc (st.length+i)))/\∀j,j<ps.length->s[st.length+j]?=some (.lst (nW (xS sz ps.length i j)))) (k:=(rH ((ps.length:Int)-1) (((ps.length:Int)-1)-(-1)).toNat,none)) (st1:=s0)
  (Ry (i:=(ps.length:Int)-1) (j:=-1) (av (bN (bX kn (mM ps s0)) cD (ga trivial)) (av (xJ cD) (av (xJ cD) aN))) #[0]) ⟨none,rfl,p0,c0,fun j hj=>c1 j hj⟩ (fun _ _ _ _=>trivial) ?_ ?_
 ·rintro i w ρ s hw ⟨o,rfl,hp,hc,hj⟩
  unfold rH at hw
  rw[ag]at hw
  obtain⟨i',hi',rfl⟩:=aC.mp hw
  have hi:i<ps.length:=by have:=(ac.mp hi').1;rw[cb]at this;omega
  rw[aF #[0]]at hi'
  cases hi'
  obtain⟨t,ht⟩:∃t:Nat,t=ps.length-1-i:=⟨_,rfl⟩
  rw[show((ps.length:Int)-1-(i:Int))=(t:Nat) by omega]
  refine⟨_,rfl,?_⟩
  obtain⟨p,L,R,q1,q2,q3,_⟩:=h.pf (show t<ps.length by omega)
  have hws:=hj (t-(L+R)) #[0]
  have hl:=Ed sz ps.length i (t-(L+R))
  have ix:bI (.loc (st.length+ps.length)) (.int (((t:Int)+1)-((1+L+R:Nat):Int))) s=.ok (.loc (st.length+(t-(L+R)))) s:=by
   rw[show((t:Int)+1)-((1+L+R:Nat):Int)=((t-(L+R):Nat):Int) by omega]
   exact jm (aS hc) (dF (by rw[ag,aF #[0]];rfl))
  have iz:bI (.tup (nW sz)) (.int (t:Nat)) s=.ok (.int (1+L+R:Nat)) s:=k_ (dF (by unfold nW;rw[ag,q2];rfl))
  apply cv
  ·exact fP (i9 (bN kv (bN (bN kv cD f9) (bN kv kv iz) (ga trivial)) ix) (eJ hws) kn (ja hws (by unfold nW;rw[ak];omega)))
  ·refine⟨_,_,rfl,_,rfl,pU hp #[0],by rw[eO #[0]];exact hc,fun j hj'=>?_⟩
   have hbt:t+1-sz.getD t 0=t-(L+R):=by rw[ao,q2];show t+1-(1+L+R)=_;omega
   by_cases e:j=t-(L+R)
   ·subst e
    rw[iI hws,A7,<- ht,au hbt]
    unfold nW
    rw[bG];rfl
   ·rw[eO #[0],hj j hj',A7,<- ht,ay #[0],bC]
 ·rintro ρ s ⟨o,rfl,hp,hc,hj⟩
  obtain⟨x,rfl⟩:=hp
  apply bB
  ·exact dN rfl
  ·rw[show(rH ((ps.length:Int)-1) (((ps.length:Int)-1)-(-1)).toNat,(none:Option (Nat×List W))).fst.length=ps.length by show(rH _ _).length=_;unfold rH;rw[ak,cb];omega]at hj
   exact⟨_,_,rfl,_,x,rfl,rfl,rfl,hc,hj⟩
end
def uD(n:Nat)(v:List Nat):Nat:=pH n v fun _=>1
section
theorem xU(v:List Nat)(c:Nat):pH n v (fun _=>c)=uD n v*c:=by
 unfold uD pH
 rw[<- r6]
 exact dg fun q _=>by rw[pO]
theorem v7(hn:1<=n):uD n (ez n)=1:=qM hn _
theorem RF(L:List α):sm L (fun _=>1)=L.length:=by
 induction L with
 |nil=>rfl
 |cons x L ih=>rw[eU,ih,a_];omega
theorem Ee(hT:∀t a b,T t a b<n)(ns va vb:List Nat):uD n (yW n T ns va vb)=uD n va*(uD n vb*ns.length):=by
 rw[show uD n (yW n T ns va vb)=_ from DU hT ns va vb _]
 rw[pI (g:=fun _=>uD n vb*ns.length) fun a=>by rw[pI (g:=fun _=>ns.length) fun b=>RF ns,xU],xU]
theorem A8{L:List α}{f:α->Nat}{x:α}(h:x∈L):f x<=sm L f:=by
 induction L with
 |nil=>cases h
 |cons y L ih=>
  rw[eU]
  rcases aM.mp h with rfl|h
  ·omega
  ·have:=ih h;omega
theorem RG{v:List Nat}{a:Nat}(hl:v.length=n):v.getD a 0<=uD n v:=by
 by_cases ha:a<n
 ·have:=A8 (f:=fun q=>v.getD q 0*1) (aU.mpr ha)
  rw[pO]at this
  exact this
 ·rw[yV 0 #[0]];exact cM _
end
theorem JH{v:List Nat}(hl:v.length=n)(h:0<uD n v):nz v≠[]:=by
 intro e
 have:uD n v=0:=by
  unfold uD pH
  rw[dg (g:=fun _=>0) fun q hq=>?_,uW]
  rw[pO]
  rcases gF (v.getD q 0)with z|z
  ·exact z
  ·have:q∈nz v:=bE.mpr ⟨by rw[hl];exact hq,ba z⟩
   rw[e]at this;cases this
 omega
theorem sf(hn:1<=n){r:List (List Nat)}(h:∀v∈r,0<uD n v)(o:Option Nat):0<uD n (mQ n r o):=by
 cases o with
 |none=>show 0<uD n (ez n);rw[v7 hn];omega
 |some k=>
  show 0<uD n (r.getD k (ez n))
  rcases jB r k (ez n)with e|e
  ·rw[e,v7 hn];omega
  ·exact h _ e
theorem Ef(hT:∀t a b,T t a b<n)(hn:1<=n):∀(ns:List (List Nat)) (lk:List #[3]) (r:List (List Nat)),(∀x∈ns,0<x.length)->(∀v∈r,0<uD n v)->∀v∈js n T ns lk r,0<uD n v
 |x::ns,y::lk,r,h4,h,v,hv=>Ef hT hn ns lk (r++[yW n T x (mQ n r y.1) (mQ n r y.2)]) (fun x hx=>h4 x (aV _ hx)) (fun v hv=>by
   rcases aZ.mp hv with z|z
   ·exact h v z
   ·rw[bv.mp z,Ee hT]
    exact mH (sf hn h y.1) (mH (sf hn h y.2) (h4 x bV))) v hv
 |[],[],r,_,h,v,hv=>h v hv
 |[],_::_,r,_,h,v,hv=>h v hv
 |x::ns,[],r,_,h,v,hv=>h v hv
theorem v8{f:FG}{el:FE}{ck:Option (Nat×List W)}{ρ0:cy}(Pc:Nat->am->Prop):∀(ws fZ:List W) (k:Nat) (s:List am),(∀x,hG (s++x) ck)->(∀i w,ws[i]?=some w->∀x,∃ρ' c,f w ρ0=some ρ'/\Pc (k+i) c/\el ρ' (s++x)=.ok (.loc (s++x).length) (s++x++[c])) ->
  ∃cs:List am,cs.length=ws.length/\(∀i c,cs[i]?=some c->Pc (k+i) c)/\jS f g8 el ck ρ0 ws fZ s=.ok (fZ++(List.range ws.length).map fun i=>W.loc (s.length+i)) (s++cs)
 |[],fZ,k,s,hc,_=>⟨[],rfl,by simp,by
  have:=hc [];rw[bC]at this
  unfold jS;rw[au this];simp⟩
 |w::ws,fZ,k,s,hc,h=>by
  obtain⟨ρ',c,e1,hp,e3⟩:=h 0 w rfl []
  rw[bC]at e3
  have hc0:=hc []
  rw[bC]at hc0
  obtain⟨cs,l1,l2,l3⟩:=v8 Pc ws (fZ++[.loc s.length]) (k+1) (s++[c]) (fun x=>by rw[aY];exact hc _) fun i v hv x=>by
   obtain⟨ρ',c',a1,a2,a3⟩:=h (i+1) v (by simpa using hv) ([c]++x)
   rw[<- aY]at a3
   exact⟨ρ',c',a1,by rw[show k+1+i=k+(i+1) by omega];exact a2,a3⟩
  refine⟨c::cs,by simp[l1],fun i d hd=>?_,?_⟩
  ·cases i with
   |zero=>simp at hd;subst hd;exact hp
   |succ i=>rw[show k+(i+1)=k+1+i by omega];exact l2 i d (by simpa using hd)
  ·unfold jS
   rw[au hc0,e1]
   simp only[show g8 ρ' s=.ok true s from rfl,e3]
   rw[l3,a_,dv,aT]
   simp[dS,qA,nR 1]
theorem L_{f:FG}{cap:List (Option Nat)}(Pc:Nat->am->Prop)(h:fi ρ st=.ok (ws,ck) s1)(hl:ws.length<=100000)(hc:∀x,hG (s1++x) ck)
  (hs:∀i w,ws[i]?=some w->∀x,∃ρ' c,f w (oJ cap ρ)=some ρ'/\Pc i c/\el ρ' (s1++x)=.ok (.loc (s1++x).length) (s1++x++[c])) :
  ∃cs:List am,cs.length=ws.length/\(∀i c,cs[i]?=some c->Pc i c)/\cV cap fi f g8 el ρ st=.ok (.loc (s1.length+ws.length)) (s1++cs++[.lst ((List.range ws.length).map fun i=>W.loc (s1.length+i))]):=by
 obtain⟨cs,l1,l2,l3⟩:=v8 (f:=f) (el:=el) (ck:=ck) (ρ0:=oJ cap ρ) Pc ws [] 0 s1 hc fun i w hw x=>by
  obtain⟨ρ',c,a1,a2,a3⟩:=hs i w hw x
  exact⟨ρ',c,a1,by rw[fB];exact a2,a3⟩
 refine⟨cs,l1,fun i c e=>by have:=l2 i c e;rw[fB]at this;exact this,?_⟩
 unfold cV
 rw[h]
 simp only[R.bind_ok]
 rw[au (show ws.length<=1000000 by omega),l3]
 simp only[R.bind_ok,fS,kZ]
 rw[au (by rw[ak,cb];show ws.length<=1000000;omega)]
 simp[l1]
structure Ad where
 (L ua ub bg nu tm pc wp rp mp:Nat)
 (b0 n0 t0:Nat)
 (cq:List Nat)
 (A B:List (Option Nat))
abbrev gy(M:Mc)(nm:List Nat)(ps:List Pl):List (List Nat):=ps.map fun p=>lU M.nm nm p.m
def U6(a:Ad)(M:Mc)(nm:List Nat)(ps:List Pl)(lk:List #[3]):List (Str×W):=[("machine",M.w),("tree",fE ps),("names",.str nm),("links",.tup (lk.map m7)),("ups",.tup [.loc a.ua,.loc a.ub]),("begun",.loc a.bg),("numbers",.loc a.nu),("times",.loc a.tm),("counts",.loc a.pc),("weights",.loc a.wp),("rooms",.loc a.rp),("marks",.loc a.mp)]
structure v9(a:Ad)(M:Mc)(n:Nat)(nm:List Nat)(ps:List Pl)(sz:List Nat)(lk:List #[3])(z:List am):Prop where
 ob:z[a.L]?=some (.obj "Course" (U6 a M nm ps lk))
 cA:z[a.ua]?=some (.lst (a.A.map oW))
 cB:z[a.ub]?=some (.lst (a.B.map oW))
 lA:a.A.length=ps.length
 lB:a.B.length=ps.length
 uA:Up lk Prod.fst ps.length a.A
 uB:Up lk Prod.snd ps.length a.B
 bg:z[a.bg]?=some (.lst (#[12].map fun i=>W.loc (a.b0+i)))
 bgs:∀j,j<ps.length->z[a.b0+j]?=some (.lst (nW (xS sz ps.length ps.length j)))
 nu:z[a.nu]?=some (.lst (#[12].map fun i=>W.loc (a.n0+i)))
 nus:∀j,j<ps.length->z[a.n0+j]?=some (.lst (nW (#[8].getD j [])))
 tm:z[a.tm]?=some (.lst (#[12].map fun i=>W.loc (a.t0+i)))
 tms:∀j,j<ps.length->∃D,oP D (#[8].getD j [])/\z[a.t0+j]?=some (.rod (tD D))
 pc:z[a.pc]?=some (.lst (a.cq.map W.loc))
 lq:a.cq.length=ps.length
 pcs:∀j q:Nat,a.cq[j]?=some q->z[q]?=some (.lst (nW ((js n (Tm M.tb) #[8] lk []).getD j (ez n))))
 lt:a.L<a.wp/\a.ua<a.wp/\a.ub<a.wp/\a.bg<a.wp/\a.nu<a.wp/\a.tm<a.wp/\a.pc<a.wp/\a.b0+ps.length<=a.wp/\a.n0+ps.length<=a.wp/\a.t0+ps.length<=a.wp/\a.wp<a.rp/\a.rp<a.mp
 ltq:∀q∈a.cq,q<a.wp
section
variable{ps:List Pl}{sz:List Nat}{lk:List #[3]}{M:Mc}
def HB(n:Nat)(V:List (List Nat))(lk:List #[3]):Prop:=∀(i:Nat) (u:Option Nat×Option Nat),lk[i]?=some u->u.1≠none->∀a,(mQ n V u.2).getD a 0<2^64
theorem zc(h:Gr ps S sz lk)(hl:ps.length<=250)(hM:uV M n)(u3:1<=n)(hn:n<=1000)(N2:nm.length<=4)(hm:∀p∈ps,p.m.length<=1000)(Vr:∀p∈ps,∀t∈lU M.nm nm p.m,t<M.tb.length)(hB:HB n (js n (Tm M.tb) #[8] lk []) lk)(st:List am) :
  ∃(z:List am) (a:Ad),cJ [.loc st.length,M.w,fE ps,.str nm] (st++[.obj "Course" []])=.ok .non z/\qX st z/\v9 a M n nm ps sz lk z/\a.L=st.length/\z[a.wp]?=some (.dct [])/\z[a.rp]?=some (.lst [])/\z[a.mp]?=some (.lst []):=by
 obtain⟨l1,l2,_⟩:=h.ok
 generalize hL:st.length=L
 have hT:∀t a b,Tm M.tb t a b<n:=ug hM u3
 have len4:∀m,(lU M.nm nm m).length<=16/\0<(lU M.nm nm m).length:=fun m=>by
  unfold lU
  rw[ak,cb]
  exact⟨aR (eP #[1] N2) #[1],Nat.pow_pos #[1]⟩
 suffices hh:iF (Dp fun _ z=>∃a:Ad,qX st z/\v9 a M n nm ps sz lk z/\a.L=L/\z[a.wp]?=some (.dct [])/\z[a.rp]?=some (.lst [])/\z[a.mp]?=some (.lst [])) (gW ([.loc L,M.w,fE ps,.str nm].map some++List.replicate (6-4) none) (st++[.obj "Course" []])) by
  obtain⟨ρ,z,e,a,hO,hS,hLa,h3⟩:=hh
  refine⟨z,a,?_,hO,hS,hLa,h3⟩
  show dm 6 gW _ _=_
  unfold dm
  rw[show gW (List.map some [W.loc L,M.w,fE ps,W.str nm]++List.replicate (6-[W.loc L,M.w,fE ps,W.str nm].length) none) (st++[.obj "Course" []])=_ from e]
  show R.ok W.non (trunc (st++[.obj "Course" []]) z [])=_
  unfold trunc
  rw[ay]
  rintro⟨_,_,k⟩
  have z0:(st++[am.obj "Course" []])[L]?=some (.obj "Course" []):=by rw[<- hL];exact bd
  have hf:=hS.ob
  rw[hLa]at hf
  rcases k L (by simp;omega)with k|⟨c,k,hu⟩
  ·rw[hf,z0]at k
   simp[U6]at k
  ·rw[hf]at k
   cases k
   have hu:undWs (st++[am.obj "Course" []]).length ((U6 a M nm ps lk).map fun p=>p.2)=true:=hu
   have:=hS.lt
   simp only[U6,aP,nS,undWs,W.und,cK,b_,bf,aT,cW]at hu
   omega
 have o0:(st++[am.obj "Course" []])[L]?=some (.obj "Course" []):=by rw[<- hL];exact bd
 have O0:qX st (st++[am.obj "Course" []]):=fun i c e=>aI e
 apply aB
 ·exact fP (bY kn (uC #[0] _) rfl)
 refine jC (L:=L) (fl':=[("machine",M.w)]) rfl kv o0 #[1] rfl fun z1 o1 k1=>?_
 refine jC (L:=L) (fl':=[("machine",M.w),("tree",fE ps)]) rfl kv o1 #[9] rfl fun z2 o2 k2=>?_
 refine jC (L:=L) (fl':=[("machine",M.w),("tree",fE ps),("names",.str nm)]) rfl kv o2 #[9] rfl fun z3 o3 k3=>?_
 refine jC (L:=L) (fl':=[("machine",M.w),("tree",fE ps),("names",.str nm),("links",.tup (lk.map m7))]) rfl (bY kn (v6 h #[0] z3) rfl) o3 #[9] rfl fun z4 o4 k4=>?_
 obtain⟨A,B,ux,lA,lB,uA,uB,cA,cB,eu⟩:=RE h #[0] z4
 refine jC (L:=L) (fl':=[("machine",M.w),("tree",fE ps),("names",.str nm),("links",.tup (lk.map m7)),("ups",.tup [.loc z4.length,.loc (z4.length+1)])]) rfl (bY kn eu rfl) (aI o4) #[9] rfl fun z5 o5 k5=>?_
 obtain⟨bx,bg1,bg2,eb⟩:=JG h #[0] z5
 refine jC (L:=L) (fl':=[("machine",M.w),("tree",fE ps),("names",.str nm),("links",.tup (lk.map m7)),("ups",.tup [.loc z4.length,.loc (z4.length+1)]),("begun",.loc (z5.length+ps.length))]) rfl (bY kn eb rfl) (aI o5) #[9] rfl fun z6 o6 k6=>?_
 have hLs:st.length<=L:=by omega
 have L4:L<z4.length:=cO o4
 have L5:L<z5.length:=cO o5
 have L6:L<z6.length:=cO o6
 have O6:qX st z6:=(((((O0.kp k1 hLs hLs).kp k2 hLs hLs).kp k3 hLs hLs).kp k4 hLs hLs).kp k5.of_app hLs hLs).kp k6.of_app hLs hLs
 have A5:=k5 _ _ cA #[0] #[0]
 have B5:=k5 _ _ cB #[0] #[0]
 have A6:=k6 _ _ (aI A5) #[0] #[0]
 have B6:=k6 _ _ (aI B5) #[0] #[0]
 have g6:=k6 _ _ bg1 #[0] #[0]
 have gs6:∀j,j<ps.length->z6[z5.length+j]?=some (.lst (nW (xS sz ps.length ps.length j))):=fun j hj=>k6 _ _ (bg2 j hj) #[0] #[0]
 have lt6:z5.length+ps.length<z6.length:=cO g6
 have ltB:z4.length+1<z6.length:=cO B6
 have e7:=D6 (cap:=[none,some 1,some 3]) (ρ:=[lO L,some M.w,some (fE ps),some (.str nm),none,none]) (f:=dZ 0) (el:=cz 3 AR (ai (af 1) (ai (af 2) (ai (e2 bI (af 0) (eI 1)) aA)))) (fun i=>am.lst (nW (#[8].getD i [])))
  (mv (fe:=af 2) (ws:=ps.map Pl.w) (st1:=z6) kv) (by rw[ak];omega) (fun _=>trivial) fun i w hw x=>by
   rw[ag]at hw
   obtain⟨p,hp,rfl⟩:=aC.mp hw
   refine⟨_,rfl,?_⟩
   have:=Ct M nm p.m #[0] (by have:=hm p (aw hp);omega) (z6++x)
   rw[show#[8].getD i []=lU M.nm nm p.m from hW _ hp]
   exact bY (av kv (av kv (av (bN kv cD (Fl p _)) aN))) this rfl
 rw[ak]at e7
 refine jC (L:=L) (fl':=[("machine",M.w),("tree",fE ps),("names",.str nm),("links",.tup (lk.map m7)),("ups",.tup [.loc z4.length,.loc (z4.length+1)]),("begun",.loc (z5.length+ps.length)),("numbers",.loc (z6.length+ps.length))]) rfl e7 (by rw[aY];exact aI o6) #[9] rfl fun z7 o7 k7=>?_
 have K67:Kp L L z6 z7:=k7.of_app.of_app
 have c7:∀i,i<ps.length->z7[z6.length+i]?=some (.lst (nW (#[8].getD i []))):=fun i hi=>by
  refine k7 _ _ (aI ?_) #[0] #[0]
  rw[jw,ag,aF hi];rfl
 have t7:z7[z6.length+ps.length]?=some (.lst (#[12].map fun i=>W.loc (z6.length+i))):=by
  refine k7 _ _ ?_ #[0] #[0]
  rw[show z6.length+ps.length=(z6++#[12].map fun i=>am.lst (nW (#[8].getD i []))).length by simp];exact bd
 have O7:qX st z7:=O6.kp K67 hLs hLs
 have L7:L<z7.length:=cO o7
 have lt7:z6.length+ps.length<z7.length:=cO t7
 obtain⟨dc,dl,dp,e8⟩:=L_ (cap:=[none]) (ρ:=[lO L,some M.w,some (fE ps),some (.str nm),none,none]) (f:=dZ 0) (el:=cz 1 AS (ai (af 0) aA)) (fun i c=>∃D,oP D (#[8].getD i [])/\c=am.dct (tD D))
  (ie (pK (f:="numbers") (fa:=af 0) kv o7 rfl) (aS t7)) (by rw[ak,cb];omega) (fun x=>aS (aI t7)) fun i w hw x=>by
   rw[ag]at hw
   obtain⟨i',hi',rfl⟩:=aC.mp hw
   have hi:i<ps.length:=by have:=(ac.mp hi').1;simpa using this
   rw[aF hi]at hi'
   cases hi'
   have hp:ps[i]?=some ps[i]:=ae hi
   have eg:#[8].getD i []=lU M.nm nm ps[i].m:=hW _ hp
   obtain⟨D,hD,eD⟩:=JD (ns:=#[8].getD i []) (st:=z7++x) (by rw[eg];have:=(len4 ps[i].m).1;omega) (aI (c7 i hi))
   exact⟨_,_,rfl,⟨D,hD,rfl⟩,bY kn eD rfl⟩
 rw[ak,cb]at e8 dl
 refine jC (L:=L) (fl':=[("machine",M.w),("tree",fE ps),("names",.str nm),("links",.tup (lk.map m7)),("ups",.tup [.loc z4.length,.loc (z4.length+1)]),("begun",.loc (z5.length+ps.length)),("numbers",.loc (z6.length+ps.length)),("times",.loc (z7.length+ps.length))]) rfl e8 (by rw[aY];exact aI o7) #[9] rfl fun z8 o8 k8=>?_
 have K78:Kp L L z7 z8:=k8.of_app.of_app
 have c8:∀i,i<ps.length->∃D,oP D (#[8].getD i [])/\z8[z7.length+i]?=some (.dct (tD D)):=fun i hi=>by
  have hd:dc[i]?=some dc[i]:=ae #[0]
  obtain⟨D,hD,e⟩:=dp i _ hd
  refine⟨D,hD,k8 _ _ (aI ?_) #[0] #[0]⟩
  rw[jw,hd,e]
 have t8:z8[z7.length+ps.length]?=some (.lst (#[12].map fun i=>W.loc (z7.length+i))):=by
  refine k8 _ _ ?_ #[0] #[0]
  rw[show z7.length+ps.length=(z7++dc).length by simp[dl]];exact bd
 have O8:qX st z8:=O7.kp K78 hLs hLs
 have L8:z7.length+ps.length<z8.length:=cO t8
 generalize hfl:([("machine",M.w),("tree",fE ps),("names",.str nm),("links",.tup (lk.map m7)),("ups",.tup [.loc z4.length,.loc (z4.length+1)]),("begun",.loc (z5.length+ps.length)),("numbers",.loc (z6.length+ps.length)),("times",.loc (z7.length+ps.length)),("counts",.loc z8.length)]:List (Str×W))=fl
 refine jC (L:=L) (fl':=fl) rfl (jk aN (aE rfl)) (aI o8) #[9] (by rw[<- hfl];rfl) fun z9 o9 k9=>?_
 have K89:Kp L L z8 z9:=k9.of_app
 have pc9:z9[z8.length]?=some (.lst []):=k9 _ _ bd #[0] #[0]
 have O9:qX st z9:=O8.kp K89 hLs hLs
 have f1:fl.lookup ("machine":Str)=some M.w:=by rw[<- hfl];rfl
 have f3:fl.lookup ("counts":Str)=some (.loc z8.length):=by rw[<- hfl];rfl
 have f4:fl.lookup ("counts_below":Str)=none:=by rw[<- hfl];rfl
 have f6:fl.lookup ("times":Str)=some (.loc (z7.length+ps.length)):=by rw[<- hfl];rfl
 have f7:fl.lookup ("links":Str)=some (.tup (lk.map m7)):=by rw[<- hfl];rfl
 have t9:z9[z7.length+ps.length]?=some (.lst (#[12].map fun i=>W.loc (z7.length+i))):=K89 _ _ t8 #[0] #[0]
 have c9:∀i,i<ps.length->∃D,oP D (#[8].getD i [])/\z9[z7.length+i]?=some (.dct (tD D)):=fun i hi=>by
  obtain⟨D,hD,e⟩:=c8 i hi
  exact⟨D,hD,K89 _ _ e #[0] #[0]⟩
 have K69:Kp L L z6 z9:=(K67.trans K78).trans K89
 generalize hN:gy M nm ps=N at *
 have lN:N.length=ps.length:=by rw[<- hN];simp
 have hN16:∀x∈N,x.length<=16/\0<x.length:=fun x hx=>by
  rw[<- hN]at hx
  obtain⟨p,_,rfl⟩:=aO.mp hx
  exact len4 _
 let V:Nat->List (List Nat):=fun i=>js n (Tm M.tb) (N.take i) (lk.take i) []
 have vlen:∀i,i<=ps.length->(V i).length=i:=fun i hi=>by
  show(js n (Tm M.tb) (N.take i) (lk.take i) []).length=i
  rw[yZ n _ _ _ _ (by simp;omega)];simp;omega
 refine du (fun i ρ z=>∃(o4 o5:Option W) (qs:List Nat),ρ=[lO L,some M.w,some (fE ps),some (.str nm),o4,o5]/\qX st z/\z[L]?=some (.obj "Course" fl)/\z[z8.length]?=some (.lst (qs.map W.loc))/\qs.length=i/\i<=ps.length/\(∀j q:Nat,qs[j]?=some q->z8.length<q/\z[q]?=some (.lst (nW ((V i).getD j (ez n))))) /\
   (∀(k:Nat) (c:am),z9[k]?=some c->k≠z8.length->(k<z7.length\/z7.length+ps.length<=k)->z[k]?=some c)/\(∀j,i<=j->j<ps.length->∃D,oP D (N.getD j [])/\z[z7.length+j]?=some (.dct (tD D)))/\∀j,j<i->∃D,oP D (N.getD j [])/\z[z7.length+j]?=some (.rod (tD D)))
  (k:=(jZ (#[12].map fun i=>W.loc (z7.length+i)) (lk.map m7),some (z7.length+ps.length,#[12].map fun i=>W.loc (z7.length+i)))) (st1:=z9)
  (Jl (av (pK kv o9 f6) (av (pK kv o9 f7) aN)) (aS t9)) ⟨none,none,[],rfl,O9,o9,pc9,rfl,cM _,fun j q e=>by simp at e,fun k c e _ _=>e,fun j _ hj=>c9 j hj,fun j hj=>absurd hj #[0]⟩ (fun i ρ z hI=>by
   obtain⟨_,_,_,_,_,_,_,_,_,_,t,_⟩:=hI
   exact aS (t _ _ t9 #[0] (.inr (ax _)))) ?_ ?_
 ·rintro i w ρ z hw ⟨o4,o5,qs,rfl,hO,ho,FH,CI,hile,hq,nA,hd,hr⟩
  obtain⟨x,y,hx,hy,rfl⟩:=mT hw
  rw[ag]at hx hy
  obtain⟨i',hi',rfl⟩:=aC.mp hx
  have hi:i<ps.length:=by have:=(ac.mp hi').1;simpa using this
  rw[aF hi]at hi'
  cases hi'
  obtain⟨u,hu,rfl⟩:=aC.mp hy
  obtain⟨u1,u2⟩:=h.lk hu
  refine⟨_,rfl,?_⟩
  have hq':∀j q:Nat,qs[j]?=some q->z[q]?=some (.lst (nW ((V i).getD j (ez n)))):=fun j q e=>(hq j q e).2
  obtain⟨xl,el,vl⟩:=sd (n:=n) (V:=V i) hM hn ho f1 f3 FH hq' u.1 (fun k e=>by rw[CI];exact u1 k e)
  obtain⟨xr,er,vr⟩:=sd (n:=n) (V:=V i) hM hn ho f1 f3 FH hq' u.2 (fun k e=>by rw[CI];exact u2 k e)
  have hVr:∀v∈V i,v.length=n:=pW n _ _ _ _ #[9]
  have bl:∀o,(mQ n (V i) o).length=n:=fun o=>by
   cases o with
   |none=>exact iJ
   |some k=>
    show((V i).getD k (ez n)).length=n
    rcases jB (V i) k (ez n)with e|e
    ·rw[e];exact iJ
    ·exact hVr _ e
  have hVp:∀v∈V i,0<uD n v:=Ef hT u3 (N.take i) (lk.take i) [] (fun x hx=>(hN16 x (kJ hx)).2) #[9]
  have hg:N[i]?=some (N.getD i []):=bb [] #[0]
  have hNi:N.getD i []∈N:=aw hg
  have hNi2:(∀t∈N.getD i [],t<M.tb.length)/\(N.getD i []).length<=1000:=by
   refine⟨?_,by have:=(hN16 _ hNi).1;omega⟩
   rw[<- hN]at hNi ⊢
   obtain⟨p,hp,e⟩:=aO.mp hNi
   rw[<- e]
   exact Vr p hp
  obtain⟨D,hD,hDc⟩:=hd i (ax _) hi
  obtain⟨z',ec,kc,rc,cc⟩:=y9 (tp:=z7.length+i) hM hn hNi2.1 hD hNi2.2 hDc vl vr (bl _) (bl _) (by
   by_cases e:u.1=none
   ·refine .inl ?_
    intro a
    rw[e]
    show(ez n).getD a 0<2^64
    by_cases ha:a<n
    ·rw[DT ha];split<;>decide
    ·rw[yV 0 (by rw[iJ];omega)];decide
   ·refine .inr ?_
    intro a
    have:=hB i u hu e a
    rw[y6 (v5 n (Tm M.tb) N lk #[0] i) (fun k e=>by rw[show(js n (Tm M.tb) (N.take i) (lk.take i) []).length=i from vlen i hile];exact u2 k e)]at this
    exact this) (JH (bl _) (sf u3 hVp _)) (JH (bl _) (sf u3 hVp _))
  have lz:z8.length<z.length:=cO FH
  have hpc':z'[z8.length]?=some (.lst (qs.map W.loc)):=kc _ _ FH #[0] #[0]
  apply cv
  ·exact fP (i9 (pK kv ho f3) (eJ FH) (av (bY (av kv (av kv (av (j7 kv ho f4 (av kx aN) rfl el) (av (j7 kv ho f4 (av kx aN) rfl er) aN)))) ec rfl) aN) (ja hpc' (by rw[ak];omega)))
  ·have Vs:V (i+1)=V i++[yW n (Tm M.tb) (N.getD i []) (mQ n (V i) u.1) (mQ n (V i) u.2)]:=by
    show js n (Tm M.tb) (N.take (i+1)) (lk.take (i+1)) []=_
    rw[da hg,da hu]
    exact vZ n _ _ _ _ _ _ (by simp;omega)
   refine⟨_,_,rfl,_,_,qs++[z.length],rfl,(hO.kp kc #[0] #[0]).kp (Kp.refl.setA (a:=z8.length) (b:=z8.length)) #[0] #[0],?_,by rw[iI hpc'];simp,by simp[CI],hi,fun j q e=>?_,fun k c e h1 h2=>?_,fun j h1 h2=>?_,fun j h1=>?_⟩
   ·rw[eO #[0]];exact kc _ _ ho #[0] #[0]
   ·by_cases hj:j<qs.length
    ·rw[aQ hj]at e
     obtain⟨q1,q2⟩:=hq j q e
     refine⟨q1,?_⟩
     have:=cO q2
     rw[eO #[0],kc _ _ q2 #[0] #[0],Vs,ao,ao,aQ (by rw[vlen i hile];omega)]
    ·rw[dh #[0]]at e
     have hj0:j-qs.length=0:=by
      have:=(ac.mp e).1
      simp at this;omega
     rw[hj0]at e
     have e:z.length=q:=by simpa using e
     subst e
     refine⟨lz,?_⟩
     have hj':j=(V i).length:=by rw[vlen i hile];omega
     rw[eO #[0],cc,Vs,hj',ao]
     simp
   ·have:=nA k c e h1 h2
    rw[eO (Ne.symm h1)];exact kc _ _ this #[0] (by have:=cO this;omega)
   ·obtain⟨D,hD,e⟩:=hd j #[0] h2
    exact⟨D,hD,by rw[eO #[0]];exact kc _ _ e #[0] (by have:=cO e;omega)⟩
   ·by_cases e:j=i
    ·subst e;exact⟨D,hD,by rw[eO #[0]];exact rc⟩
    ·obtain⟨D',hD',e'⟩:=hr j #[0]
     exact⟨D',hD',by rw[eO #[0]];exact kc _ _ e' #[0] (by have:=cO e';omega)⟩
 ·rintro ρ z ⟨o4,o5,qs,rfl,hO,ho,FH,CI,hile,hq,nA,hd,hr⟩
  rw[show(jZ (#[12].map fun i=>W.loc (z7.length+i)) (lk.map m7),some (z7.length+ps.length,#[12].map fun i=>W.loc (z7.length+i))).fst.length=ps.length by show(jZ _ _).length=_;rw[mU];simp;omega]at CI hq hr
  have VE:V ps.length=js n (Tm M.tb) N lk []:=by
   show js n (Tm M.tb) (N.take ps.length) (lk.take ps.length) []=_
   rw[bS #[0],bS #[0]]
  have lz:z8.length<z.length:=cO FH
  obtain⟨gl,hgl⟩:∃gl:List (Str×W),gl=fl++[(("weights":Str),W.loc z.length)]:=⟨_,rfl⟩
  refine jC (L:=L) (z1:=z++[.dct []]) (y:=.loc z.length) (fl':=gl) rfl rfl (aI ho) (by rw[<- hfl];simp) (by rw[hgl,<- hfl];rfl) fun za oa ka=>?_
  obtain⟨hl',hhl⟩:∃hl':List (Str×W),hl'=gl++[(("rooms":Str),W.loc za.length)]:=⟨_,rfl⟩
  refine jC (L:=L) (fl':=hl') rfl (jk aN (aE rfl)) (aI oa) (by rw[hgl,<- hfl];simp) (by rw[hhl,hgl,<- hfl];rfl) fun zb ob kb=>?_
  have olb:(zb++[am.lst []])[L]?=some (.obj "Course" hl'):=aI ob
  have hw:za[z.length]?=some (.dct []):=ka _ _ bd #[0] #[0]
  have hwb:=kb _ _ (aI hw) #[0] #[0]
  have lza:z.length<za.length:=cO hw
  have hrb:zb[za.length]?=some (.lst []):=kb _ _ bd #[0] #[0]
  have lzb:za.length<zb.length:=cO hrb
  apply cv
  ·exact Jw (jk aN (aE rfl)) kv olb (by rw[hhl,hgl,<- hfl];simp)
  ·have kz:Kp L L z ((zb++[am.lst []]).set L (.obj "Course" (ut "marks" (.loc zb.length) hl'))):=(ka.of_app.trans kb.of_app).app.setA
   have ef:ut "marks" (.loc zb.length) hl'=hl'++[(("marks":Str),W.loc zb.length)]:=by rw[hhl,hgl,<- hfl];rfl
   have kb':Kp L L (zb++[am.lst []]) ((zb++[am.lst []]).set L (.obj "Course" (hl'++[(("marks":Str),W.loc zb.length)]))):=Kp.refl.setA
   rw[ef]at kz ⊢
   generalize hzz:(zb++[am.lst []]).set L (.obj "Course" (hl'++[(("marks":Str),W.loc zb.length)]))=zz at *
   have fin9:∀(k:Nat) (c:am),z9[k]?=some c->k≠z8.length->(k<z7.length\/z7.length+ps.length<=k)->k≠L->zz[k]?=some c:=fun k c e h1 h2 h3=>kz _ _ (nA k c e h1 h2) h3 h3
   have fin6:∀(k:Nat) (c:am),z6[k]?=some c->k≠L->zz[k]?=some c:=fun k c e h3=>by
    have:=cO e
    exact fin9 k c (K69 _ _ e h3 h3) #[0] (.inl #[0]) h3
   have nuF:zz[z6.length+ps.length]?=some (.lst (#[12].map fun i=>W.loc (z6.length+i))):=fin9 _ _ (K89 _ _ (K78 _ _ t7 #[0] #[0]) #[0] #[0]) #[0] (.inl #[0]) #[0]
   have nusF:∀j,j<ps.length->zz[z6.length+j]?=some (.lst (nW (N.getD j []))):=fun j hj=>fin9 _ _ (K89 _ _ (K78 _ _ (c7 j hj) #[0] #[0]) #[0] #[0]) #[0] (.inl #[0]) #[0]
   have tmF:zz[z7.length+ps.length]?=some (.lst (#[12].map fun i=>W.loc (z7.length+i))):=fin9 _ _ t9 #[0] (.inr (ax _)) #[0]
   have tmsF:∀j,j<ps.length->∃D,oP D (N.getD j [])/\zz[z7.length+j]?=some (.rod (tD D)):=fun j hj=>by
    obtain⟨D,hD,e⟩:=hr j hj
    exact⟨D,hD,kz _ _ e #[0] #[0]⟩
   have w1:zz[z.length]?=some (.dct []):=kb' _ _ (aI hwb) #[0] #[0]
   have w2:zz[za.length]?=some (.lst []):=kb' _ _ (aI hrb) #[0] #[0]
   have w3:zz[zb.length]?=some (.lst []):=kb' _ _ bd #[0] #[0]
   refine⟨_,_,rfl,⟨L,z4.length,z4.length+1,z5.length+ps.length,z6.length+ps.length,z7.length+ps.length,z8.length,z.length,za.length,zb.length,z5.length,z6.length,z7.length,qs,A,B⟩,hO.kp kz hLs hLs,?_,rfl,w1,w2,w3⟩
   refine{ ob:=?_,cA:=fin6 _ _ A6 (by show z4.length≠L;omega),cB:=fin6 _ _ B6 (by show z4.length+1≠L;omega),lA:=lA,lB:=lB,uA:=uA,uB:=uB,bg:=fin6 _ _ g6 (by show z5.length+ps.length≠L;omega),bgs:=fun j hj=>fin6 _ _ (gs6 j hj) (by show z5.length+j≠L;omega),nu:=?_,nus:=?_,tm:=?_,tms:=?_,pc:=kz _ _ FH (by show z8.length≠L;omega) (by show z8.length≠L;omega),lq:=CI,pcs:=?_,lt:=?_,ltq:=?_ }
   ·rw[<- hzz,iI olb,hhl,hgl,<- hfl];rfl
   ·exact nuF
   ·intro j hj;rw[hN];exact nusF j hj
   ·exact tmF
   ·intro j hj;rw[hN];exact tmsF j hj
   ·intro j q e
    obtain⟨q1,q2⟩:=hq j q e
    rw[VE]at q2
    rw[hN]
    exact kz _ _ q2 #[0] #[0]
   ·show L<z.length/\z4.length<z.length/\z4.length+1<z.length/\z5.length+ps.length<z.length/\z6.length+ps.length<z.length/\z7.length+ps.length<z.length/\z8.length<z.length/\z5.length+ps.length<=z.length/\z6.length+ps.length<=z.length/\z7.length+ps.length<=z.length/\z.length<za.length/\za.length<zb.length
    have a7:=Nat.lt_trans L8 lz
    have p7:=Nat.lt_of_le_of_lt (Nat.le_add_right _ _) a7
    have a6:=Nat.lt_trans lt7 p7
    have p6:=Nat.lt_of_le_of_lt (Nat.le_add_right _ _) a6
    have a5:=Nat.lt_trans lt6 p6
    have aB:=Nat.lt_trans ltB p6
    exact⟨Nat.lt_trans L7 p7,Nat.lt_of_succ_lt aB,aB,a5,a6,a7,lz,Nat.le_of_lt a5,Nat.le_of_lt a6,Nat.le_of_lt a7,lza,lzb⟩
   ·intro q hq'
    obtain⟨j,e⟩:=dL hq'
    exact cO (hq j q e).2
end
theorem JI{s:List am}{p:Nat}{c:am}(h:s[p]?=some c):s.set p c=s:=by
 obtain⟨h1,h2⟩:=ac.mp h
 rw[<- h2];exact oX h1
section
variable{M:Mc}{D:List (Nat×Nat)}{wv:List Nat}
def Xp(M:Mc)(wv:List Nat)(l r:Nat):W->W
 |.tup [.int t,.int e]=>.int (((wv.getD (Tm M.tb t.toNat l r) 0*e.toNat:Nat)):Int)
 |_=>.non
def pw(M:Mc)(ns wv:List Nat)(l r:Nat):Nat:=sm ns fun t=>wv.getD (Tm M.tb t l r) 0
theorem Eg{t w l r:Nat}(hM:uV M n)(hD:oP D ns)(FF:∀t∈ns,t<M.tb.length)(Ke:ns.length<=1000)(ht:st[t]?=some (.rod (tD D)))(hw:st[w]?=some (.lst (nW wv)))(lw:wv.length=n)(hl:l<n)(hr:r<n) :
  ud [M.w,.loc t,.loc w,.int (l:Nat),.int (r:Nat)] st=.ok (.int (pw M ns wv l r:Nat)) st:=by
 have hdc:gq st (.loc t)=some (t,tD D):=by simp only[gq,ht]
 have jD:=D5 (fe:=af 1) (ρ:=[some M.w,lO t,lO w,iO (l:Nat),iO (r:Nat)]) (st:=st) kv hdc
 rw[JI ht]at jD
 have hcm:=mx (cap:=[none,none,some 2,some 4,some 3,some 0]) (f:=zu 2 (dq (dZ 0) (dq (dZ 1) kq))) (el:=e2 fH (e2 bI (af 2) (e2 bI (e2 bI (e2 bI (e2 bI (af 5) (eI 2)) (af 0)) (af 4)) (af 3))) (af 1)) (Xp M wv l r) jD
  (by unfold tD;rw[ak,ak];have:=hD.len;show _<=1000000;omega) trivial fun x hx=>by
   unfold tD at hx
   rw[a9]at hx
   obtain⟨⟨t',e⟩,hp,rfl⟩:=aO.mp hx
   have htl:=FF t' (hD.mem _ hp)
   have hel:e<=ns.length:=hD.le _ hp
   have htb:M.tb[t']?=some (M.tb.getD t' []):=bb [] htl
   obtain⟨t1,t2⟩:=hM.t _ (aw htb)
   have g1:(M.tb.getD t' [])[l]?=some ((M.tb.getD t' []).getD l []):=bb [] #[0]
   obtain⟨r1,r2⟩:=t2 _ (aw g1)
   have g2:((M.tb.getD t' []).getD l [])[r]?=some (((M.tb.getD t' []).getD l []).getD r 0):=bb 0 #[0]
   have hq:Tm M.tb t' l r<n:=r2 _ (aw g2)
   have ix:bI (.tup (M.tb.map m6)) (.int (t':Nat)) st=.ok (m6 (M.tb.getD t' [])) st:=k_ (dF (by rw[ag,htb];rfl))
   refine⟨_,rfl,?_⟩
   show _=R.ok (W.int ((wv.getD (Tm M.tb ((t':Nat):Int).toNat l r) 0*((e:Nat):Int).toNat:Nat):Int)) st
   rw[aJ,aJ,dE]
   exact bN (bN kv (bN (bN (bN kx kv ix) kv (vT g1)) kv (tF g2)) (uf hw (bb 0 (by rw[lw];exact hq)))) kv (kN (.inr ⟨by omega,by omega⟩))
 have em:((tD D).map fun p=>W.tup [p.1.w,p.2]).map (Xp M wv l r)=(D.map fun p=>(((wv.getD (Tm M.tb p.1 l r) 0*p.2:Nat)):Int)).map W.int:=by
  unfold tD
  rw[a9,a9,a9]
  refine bZ fun p _=>?_
  show W.int ((wv.getD (Tm M.tb ((p.1:Nat):Int).toNat l r) 0*((p.2:Nat):Int).toNat:Nat):Int)=_
  rw[aJ,aJ];rfl
 rw[em]at hcm
 have hs:=DR (aS (bd (s:=st) (c:=.lst ((D.map fun p=>(((wv.getD (Tm M.tb p.1 l r) 0*p.2:Nat)):Int)).map W.int))))
 have es:sm D (fun p=>wv.getD (Tm M.tb p.1 l r) 0*p.2)=pw M ns wv l r:=by
  have:=hD.sum fun t=>wv.getD (Tm M.tb t l r) 0
  unfold pw
  rw[<- this]
  exact dg fun p _=>jF ..
 rw[Jn D fun p=>wv.getD (Tm M.tb p.1 l r) 0*p.2,es]at hs
 refine fz (w:=.int (pw M ns wv l r:Nat)) ?_ rfl
 apply bB
 ·exact bX (av hcm aN) hs
 ·exact⟨_,_,rfl,rfl,_,rfl⟩
theorem Fp{t w l:Nat}(hM:uV M n)(hn:n<=1000)(hD:oP D ns)(FF:∀t∈ns,t<M.tb.length)(Ke:ns.length<=1000)(ht:st[t]?=some (.rod (tD D)))(hw:st[w]?=some (.lst (nW wv)))(lw:wv.length=n)(hl:l<n) :
  Dw [M.w,.loc t,.loc w,.int (l:Nat)] st=.ok (.loc st.length) (st++[.lst (nW ((List.range n).map fun r=>pw M ns wv l r))]):=by
 obtain⟨r,hr1,hr2,hr3⟩:=uU (cap:=[none,some 0,some 1,some 2,some 3]) (ρ:=[some M.w,lO t,lO w,iO (l:Nat)]) (st:=st) (n:=n) (el:=cz 5 ud (ai (af 1) (ai (af 2) (ai (af 3) (ai (af 4) (ai (af 0) aA))))))
  (fs:=ai (bH dY (ai (af 2) aA)) aA) (fun k:Nat=>W.int k) (fun i b=>b=pw M ns wv l i)
  (av (bX kn (by have:=mK (aS hw);rw[show(nW wv).length=n by unfold nW;rw[ak];exact lw]at this;exact this)) aN) #[0] fun i hi=>⟨_,rfl,bY (av kv (av kv (av kv (av kv kn)))) (Eg hM hD FF Ke ht hw lw hl hi) rfl⟩
 have er:r=(List.range n).map fun r=>pw M ns wv l r:=by
  refine bM fun i=>?_
  rw[ag]
  by_cases hi:i<n
  ·rw[aF hi,ae #[0],hr2 i _ (ae #[0])];rfl
  ·rw[az #[0],az (by simpa using hi)];rfl
 subst er
 suffices hh:iF (uu fun w' bz=>∃j x,w'=.loc (st.length+j)/\bz=st++x/\j=0/\x=[.lst (nW ((List.range n).map fun r=>pw M ns wv l r))]) (NB ([M.w,.loc t,.loc w,.int (l:Nat)].map some++List.replicate (4-4) none) st) by
  obtain⟨j,x,⟨rfl,rfl⟩,e⟩:=ki hh
  exact e
 apply bB
 ·exact hr3
 ·exact⟨_,_,rfl,0,_,rfl,rfl,rfl,rfl⟩
def Xq(M:Mc)(ns wv vr:List Nat)(l:Nat):W->W
 |.int r=>.int ((pw M ns wv l r.toNat*vr.getD r.toNat 0:Nat):Int)
 |_=>.non
theorem JJ{t w:Nat}{vr:List Nat}{xr:W}(hM:uV M n)(hn:n<=1000)(hD:oP D ns)(FF:∀t∈ns,t<M.tb.length)(Ke:ns.length<=1000)(ht:st[t]?=some (.rod (tD D)))(hw:st[w]?=some (.lst (nW wv)))(lw:wv.length=n)(hx:qr st xr vr)(lr:vr.length=n)(hb:∀a,vr.getD a 0<2^64) :
  ∃x,(st++x)[st.length+1]?=some (.lst (nW ((List.range n).map fun l=>pH n vr fun r=>pw M ns wv l r)))/\Dx [M.w,.loc t,.loc w,xr] st=.ok (.loc (st.length+1)) (st++x):=by
 suffices hh:iF (uu fun w' bz=>∃j x,w'=.loc (st.length+j)/\bz=st++x/\j=1/\(st++x)[st.length+1]?=some (.lst (nW ((List.range n).map fun l=>pH n vr fun r=>pw M ns wv l r)))) (NC ([M.w,.loc t,.loc w,xr].map some++List.replicate (7-4) none) st) by
  obtain⟨j,x,⟨rfl,h1⟩,e⟩:=ki hh
  exact⟨x,h1,e⟩
 apply aB
 ·exact bu (bY kn (uY hx #[0]) rfl)
 apply aB
 ·exact bu (jk aN (aE rfl))
 rw[show(st++[am.lst (nW (nz vr))]).length=st.length+1 by simp]
 generalize hs0:st++[am.lst (nW (nz vr))]++[.lst []]=s0
 have p0:st <+: s0:=by rw[<- hs0];exact mC (mC (aj _))
 have c0:s0[st.length]?=some (.lst (nW (nz vr))):=by rw[<- hs0];exact aI bd
 have c1:s0[st.length+1]?=some (.lst (nW [])):=by rw[<- hs0,show st.length+1=(st++[am.lst (nW (nz vr))]).length by simp];exact bd
 have dG:∀s,st <+: s->dY [.loc w] s=.ok (.int n) s:=fun s hp=>by
  have:=mK (aS (pre_get hp hw))
  rw[show(nW wv).length=n by unfold nW;rw[ak];exact lw]at this;exact this
 refine du (fun i ρ s=>∃o:Option W,ρ=[some M.w,lO t,lO w,some xr,lO st.length,lO (st.length+1),o]/\st <+: s/\s[st.length]?=some (.lst (nW (nz vr)))/\s[st.length+1]?=some (.lst (nW ((List.range i).map fun l=>pH n vr fun r=>pw M ns wv l r))))
  (gi (q:=(n:Int)) (st1:=s0) (av (bX kn (dG s0 p0)) aN) #[0]) ⟨none,rfl,p0,c0,c1⟩ (fun _ _ _ _=>trivial) ?_ ?_
 ·rintro i w' ρ s hw' ⟨o,rfl,hp,hc0,hc1⟩
  obtain⟨hi,rfl⟩:=gR hw'
  rw[aJ]at hi
  rw[show((0:Int)+(i:Int))=(i:Int) by omega]
  refine⟨_,rfl,?_⟩
  have vx:qr s xr vr:=by
   rcases hx with rfl|⟨p,rfl,hp'⟩
   ·exact .inl rfl
   ·exact .inr ⟨p,rfl,pre_get hp hp'⟩
  have hcm:=mx (cap:=[none,some 0,some 1,some 2,some 6,some 3]) (f:=dZ 0) (ρ:=[some M.w,lO t,lO w,some xr,lO st.length,lO (st.length+1),iO (i:Nat)]) (el:=e2 fH (cz 5 ud (ai (af 1) (ai (af 2) (ai (af 3) (ai (af 4) (ai (af 0) aA)))))) (e2 bI (af 5) (af 0))) (Xq M ns wv vr i)
   (ie (fe:=af 4) kv (aS hc0)) (by unfold nW nz;rw[ak];exact aR (cf _ _) (by rw[cb];show _<=1000000;omega)) (aS hc0) fun x hx'=>by
    obtain⟨r,hr,rfl⟩:=aO.mp hx'
    have uF:r<n:=by have:=aU.mp (bE.mp hr).1;omega
    refine⟨_,rfl,?_⟩
    show _=R.ok (W.int ((pw M ns wv i ((r:Nat):Int).toNat*vr.getD ((r:Nat):Int).toNat 0:Nat):Int)) s
    rw[aJ,dE]
    exact bN (bY (av kv (av kv (av kv (av kv kn)))) (Eg hM hD FF Ke (pre_get hp ht) (pre_get hp hw) lw hi uF) rfl) (bN kv kv (Cu vx #[0])) (kN (.inr ⟨by omega,by have:=hb r;omega⟩))
  have em:(nW (nz vr)).map (Xq M ns wv vr i)=((nz vr).map fun r=>((pw M ns wv i r*vr.getD r 0:Nat):Int)).map W.int:=by
   unfold nW
   rw[a9,a9]
   refine bZ fun r _=>?_
   show W.int ((pw M ns wv i ((r:Nat):Int).toNat*vr.getD ((r:Nat):Int).toNat 0:Nat):Int)=_
   rw[aJ];rfl
  rw[em]at hcm
  have hs:=DR (aS (bd (s:=s) (c:=.lst (((nz vr).map fun r=>((pw M ns wv i r*vr.getD r 0:Nat):Int)).map W.int))))
  have ev:sm (nz vr) (fun r=>pw M ns wv i r*vr.getD r 0)=pH n vr fun r=>pw M ns wv i r:=by
   unfold nz pH
   rw[tI _ _ _ fun r hr=>by have:=jg hr;rw[show vr.getD r 0=0 by omega,sJ],lr]
   exact dg fun r _=>jF ..
  rw[Jn (nz vr) fun r=>pw M ns wv i r*vr.getD r 0,ev]at hs
  generalize hs1:s++[am.lst (((nz vr).map fun r=>((pw M ns wv i r*vr.getD r 0:Nat):Int)).map W.int)]=s1 at *
  have hc1':s1[st.length+1]?=some (.lst (nW ((List.range i).map fun l=>pH n vr fun r=>pw M ns wv l r))):=by rw[<- hs1];exact aI hc1
  apply cv
  ·exact fP (i9 kv (eJ hc1) (av (bX (av hcm aN) hs) aN) (ja hc1' (by unfold nW;rw[ak,ak,cb];omega)))
  ·refine⟨_,_,rfl,_,rfl,pU (by rw[<- hs1];exact mC hp) #[0],by rw[eO #[0],<- hs1];exact aI hc0,?_⟩
   rw[iI hc1',kY,bG]
   unfold nW
   rw[bG];rfl
 ·rintro ρ s ⟨o,rfl,hp,hc0,hc1⟩
  rw[show(eM 0 (n:Int).toNat,(none:Option (Nat×List W))).fst.length=n by simp[dy]]at hc1
  obtain⟨x,rfl⟩:=hp
  apply bB
  ·exact dN rfl
  ·exact⟨_,_,rfl,1,x,rfl,rfl,rfl,hc1⟩
noncomputable def gM(M:Mc)(q:Nat):Nat:=if M.gd.getD q false then 1 else 0
noncomputable def Xr:W->W
 |.bl b=>.int ((if b then 1 else 0:Nat):Int)
 |_=>.non
theorem L'(hM:uV M n)(hn:n<=1000)(st:List am):Dt [M.w] st=.ok (.loc st.length) (st++[.lst (nW ((List.range n).map (gM M)))]):=by
 have:=mx (cap:=[none]) (f:=dZ 0) (el:=Ai (fG (af 0)) (eI 1) (eI 0)) (ρ:=[some M.w]) (st:=st) Xr (mv (fe:=e2 bI (af 0) (eI 1)) (ws:=M.gd.map W.bl) (st1:=st) kx)
  (by rw[ak,hM.gd];show _<=1000000;omega) trivial fun w hw=>by
   obtain⟨b,_,rfl⟩:=aO.mp hw
   refine⟨_,rfl,?_⟩
   cases b
   ·exact pq (bJ kv) cD
   ·exact pk (bJ kv) cD
 have e:(M.gd.map W.bl).map Xr=nW ((List.range n).map (gM M)):=by
  have:=xP M.gd false fun b=>(if b then 1 else 0:Nat)
  rw[hM.gd]at this
  unfold nW
  rw[show(List.range n).map (gM M)=_ from this,a9,a9];rfl
 rw[e]at this
 suffices hh:iF (uu fun w' bz=>∃j x,w'=.loc (st.length+j)/\bz=st++x/\j=0/\x=[.lst (nW ((List.range n).map (gM M)))]) (Nx ([M.w].map some++List.replicate (1-1) none) st) by
  obtain⟨j,x,⟨rfl,rfl⟩,e⟩:=ki hh
  exact e
 apply bB
 ·exact this
 ·exact⟨_,_,rfl,0,_,rfl,rfl,rfl,rfl⟩
end
theorem v_(rs:List Nat)(o:Option Nat)(p:Nat)(st:List am)(hc:st[p]?=some (.lst (nW rs)))(ho:∀k,o=some k->k<rs.length):vQ [.loc p,oW o] st=.ok (.int (kL rs o:Nat)) st:=by
 refine j3 ?_
 cases o with
 |none=>
  apply bB
  ·exact pk (bJ (uc kv rfl)) cD
  ·exact⟨_,_,rfl,rfl,rfl⟩
 |some k=>
  apply bB
  ·exact pq (bJ (uc kv rfl)) (bN kv kv (uf hc (bb 0 (ho k rfl))))
  ·exact⟨_,_,rfl,rfl,rfl⟩
noncomputable def U7(A B:List (Option Nat))(p:Nat):Option Nat:=match A.getD p none with
 |some u=>some u
 |none=>B.getD p none
theorem U8{A B:List (Option Nat)}{ua ub p:Nat}(hA:st[ua]?=some (.lst (A.map oW)))(hB:st[ub]?=some (.lst (B.map oW)))(lA:p<A.length)(lB:p<B.length):Dr [.tup [.loc ua,.loc ub],.int (p:Nat)] st=.ok (oW (U7 A B p)) st:=by
 have ia:bI (.loc ua) (.int (p:Nat)) st=.ok (oW (A.getD p none)) st:=jm (aS hA) (dF (by rw[ag,bb none lA];rfl))
 have ib:bI (.loc ub) (.int (p:Nat)) st=.ok (oW (B.getD p none)) st:=jm (aS hB) (dF (by rw[ag,bb none lB];rfl))
 refine j3 ?_
 unfold U7
 cases h:A.getD p none with
 |none=>
  rw[h]at ia
  apply bB
  ·exact pq (bJ (j0 (bN kx kv ia) rfl)) (bN kx kv ib)
  ·exact⟨_,_,rfl,rfl,rfl⟩
 |some u=>
  rw[h]at ia
  apply bB
  ·exact pk (bJ (j0 (bN kx kv ia) rfl)) (bN kx kv ia)
  ·exact⟨_,_,rfl,rfl,rfl⟩
theorem si(kvs:List (DK×W))(k:DK)(v:W):lR (lS kvs k v) k=some v:=by
 unfold lS
 by_cases h:(kvs.any fun p=>decide (p.1=k))=true
 ·rw[au h]
  unfold lR
  induction kvs with
  |nil=>simp at h
  |cons p r ih=>
   rw[aP,ca]
   by_cases e:p.1=k
   ·rw[au e,ba e];rfl
   ·rw[ay e,bc e]
    rw[mO,bc e,Bool.false_or]at h
    exact ih h
 ·rw[ay h]
  unfold lR
  rw[mG]
  have:kvs.find? (fun p=>decide (p.1=k))=none:=by
   rw[List.find?_eq_none]
   intro p hp z
   exact h (j'.mpr ⟨p,hp,z⟩)
  rw[this,Option.none_or,ca,show decide ((k,v).1=k)=true from ba rfl];rfl
theorem Eh{kvs:List (DK×W)}{k k':DK}{v:W}(hk:k'≠k):lR (lS kvs k v) k'=lR kvs k':=by
 unfold lS
 by_cases h:(kvs.any fun p=>decide (p.1=k))=true
 ·rw[au h]
  clear h
  unfold lR
  induction kvs with
  |nil=>rfl
  |cons p r ih=>
   rw[aP,ca,ca]
   by_cases e:p.1=k
   ·rw[au e]
    have:decide (p.1=k')=false:=bc (by rw[e];exact Ne.symm hk)
    rw[this];exact ih
   ·rw[ay e]
    cases hd:decide (p.1=k')
    ·exact ih
    ·rfl
 ·rw[ay h]
  unfold lR
  rw[mG]
  have:List.find? (fun p:DK×W=>decide (p.1=k')) [(k,v)]=none:=by
   rw[ca,show decide ((k,v).1=k')=false from bc (Ne.symm hk)];rfl
  rw[this,Option.or_none]
theorem AA(kvs:List (DK×W))(k:DK)(v:W):(lS kvs k v).length<=kvs.length+1:=by
 unfold lS
 split
 ·rw[ak];omega
 ·rw[aT];simp
theorem Ma{kvs:List (DK×W)}{k:DK}{v:W}(h:lR kvs k=some v)(hu:undWs n (kvs.map fun p=>p.2)=true):v.und n=true:=by
 unfold lR at h
 induction kvs with
 |nil=>cases h
 |cons p r ih=>
  rw[aP,undWs,b_]at hu
  rw[ca]at h
  cases e:decide (p.1=k)
  ·rw[e]at h;exact ih h hu.2
  ·rw[e]at h
   have:p.2=v:=by simpa using h
   rw[<- this];exact hu.1
theorem RH{a b:Nat}(h:a≠b):(DK.i (a:Nat))≠DK.i (b:Nat):=by
 intro z;injection z with z;omega
section
variable{ps:List Pl}{sz:List Nat}{lk:List #[3]}{M:Mc}{a:Ad}
theorem v9.keep{z':List am}(h:v9 a M n nm ps sz lk z)(k:∀(i:Nat) (c:am),z[i]?=some c->i<a.wp->z'[i]?=some c):v9 a M n nm ps sz lk z':=by
 have lt:=h.lt
 exact⟨k _ _ h.ob #[0],k _ _ h.cA #[0],k _ _ h.cB #[0],h.lA,h.lB,h.uA,h.uB,k _ _ h.bg #[0],fun j hj=>k _ _ (h.bgs j hj) #[0],k _ _ h.nu #[0],fun j hj=>k _ _ (h.nus j hj) #[0],k _ _ h.tm #[0],
  fun j hj=>(h.tms j hj).imp fun D hD=>⟨hD.1,k _ _ hD.2 #[0]⟩,k _ _ h.pc #[0],h.lq,fun j q e=>k _ _ (h.pcs j q e) (h.ltq q (aw e)),lt,h.ltq⟩
abbrev WV(M:Mc)(n:Nat)(nm:List Nat)(ps:List Pl)(sz rs:List Nat)(u:Nat):List Nat:=D_ n (Tm M.tb) (gM M) (ps.map Pl.b) #[8] sz rs u
structure Fq(a:Ad)(M:Mc)(n:Nat)(nm:List Nat)(ps:List Pl)(sz rs:List Nat)(K:Nat)(Kn:Nat->Prop)(z:List am):Prop where
 r:z[a.rp]?=some (.lst (nW rs))
 m:∃ms,z[a.mp]?=some (.lst ms)/\ms.length=rs.length
 w:∃kvs,z[a.wp]?=some (.dct kvs)/\kvs.length<=K/\(∀k q,lR kvs k=some (.loc q)->q<z.length)/\∀u,Kn u->∃q,lR kvs (.i (u:Nat))=some (.loc q)/\a.mp<q/\z[q]?=some (.lst (nW (WV M n nm ps sz rs u)))
theorem qN{f:Str}{w:W}{i:Nat}(h:v9 a M n nm ps sz lk z)(hi:ρ[i]?=some (lO a.L))(hf:(U6 a M nm ps lk).lookup f=some w):d7 "Course" f (af i) ρ z=.ok w z:=pK (dN hi) h.ob hf
theorem U9(h:Gr ps S sz lk)(hS:S.length<=1)(hz:v9 a M n nm ps sz lk z){p:Nat}(hp:p<ps.length) :
  (U7 a.A a.B p=none/\p+1=ps.length)\/∃(u:Nat) (x:Option Nat×Option Nat),U7 a.A a.B p=some u/\lk[u]?=some x/\(x.1=some p\/x.1≠some p/\x.2=some p):=by
 obtain⟨l1,l2,_⟩:=h.ok
 have gA:a.A[p]?=some (a.A.getD p none):=bb none (by rw[hz.lA];exact hp)
 have gB:a.B[p]?=some (a.B.getD p none):=bb none (by rw[hz.lB];exact hp)
 unfold U7
 cases hA:a.A.getD p none with
 |some u=>
  rw[hA]at gA
  obtain⟨x,hx,e⟩:=hz.uA.1 p u gA
  exact .inr ⟨u,x,rfl,hx,.inl e⟩
 |none=>
  rw[hA]at gA
  have noA:∀(u:Nat) (x:Option Nat×Option Nat),lk[u]?=some x->x.1≠some p:=fun u x hx e=>by
   obtain⟨v,hv⟩:=hz.uA.2 u x p (by have:=(ac.mp hx).1;omega) hx e
   rw[gA]at hv;cases hv
  cases hB:a.B.getD p none with
  |some u=>
   rw[hB]at gB
   obtain⟨x,hx,e⟩:=hz.uB.1 p u gB
   exact .inr ⟨u,x,rfl,hx,.inr ⟨noA u x hx,e⟩⟩
  |none=>
   rw[hB]at gB
   refine .inl ⟨rfl,?_⟩
   rcases h.par p hp with m|⟨u,x,hx,e|e⟩
   ·match S,hS,m with
    |[],_,m=>cases m
    |[s],_,m=>
     have:p=ps.length-1:=by simpa[VT]using m
     omega
   ·exact(noA u x hx e).elim
   ·obtain⟨v,hv⟩:=hz.uB.2 u x p (by have:=(ac.mp hx).1;omega) hx e
    rw[gB]at hv;cases hv
theorem NP(h:Gr ps S sz lk){u p:Nat}(hx:lk[u]?=some x)(hp:x.1=some p\/x.2=some p):p<u/\u+1-sz.getD u 0<=p+1-sz.getD p 0/\(x.2=some p->∀l,x.1=some l->l+1=p+1-sz.getD p 0):=by
 obtain⟨l1,l2,_⟩:=h.ok
 have hu:u<ps.length:=by have:=(ac.mp hx).1;omega
 obtain⟨pl,L,R,q1,q2,q3,q4,q5,q6,q7⟩:=h.pf hu
 rw[hx]at q4
 have q4:=aG q4
 subst q4
 have su:sz.getD u 0=1+L+R:=by rw[ao,q2];rfl
 rw[su]
 have hR:(if 0<R then some (u-1)else none)=some p->0<R/\u-1=p/\sz.getD p 0=R:=fun e=>by
  by_cases hR:0<R
  ·rw[au hR]at e
   have e:u-1=p:=aG e
   have:=q6 hR
   rw[e]at this
   exact⟨hR,e,by rw[ao,this];rfl⟩
  ·rw[ay hR]at e;cases e
 have hL:∀l,(if 0<L then some (u-1-R)else none)=some l->0<L/\u-1-R=l/\sz.getD l 0=L:=fun l e=>by
  by_cases hL:0<L
  ·rw[au hL]at e
   have e:u-1-R=l:=aG e
   have:=q7 hL
   rw[e]at this
   exact⟨hL,e,by rw[ao,this];rfl⟩
  ·rw[ay hL]at e;cases e
 refine⟨?_,?_,fun e2 l e1=>?_⟩
 ·rcases hp with e|e
  ·obtain⟨a1,a2,a3⟩:=hL p e;omega
  ·obtain⟨a1,a2,a3⟩:=hR e;omega
 ·rcases hp with e|e
  ·obtain⟨a1,a2,a3⟩:=hL p e;omega
  ·obtain⟨a1,a2,a3⟩:=hR e;omega
 ·obtain⟨a1,a2,a3⟩:=hL l e1
  obtain⟨b1,b2,b3⟩:=hR e2
  omega
theorem JK{rs:List Nat}{p:Nat}(hl:l.length=n)(h:∀q,q<n->(WV M n nm ps sz rs p).getD q 0=l.getD q 0):WV M n nm ps sz rs p=l:=by
 refine bM fun i=>?_
 by_cases hi:i<n
 ·rw[bb 0 (by rw[se];exact hi),bb 0 #[0],h i hi]
 ·rw[az (by rw[se];omega),az #[0]]
theorem Cz{f:Nat->Nat}(h:q<n):((List.range n).map f).getD q 0=f q:=hW f (aF h)
structure Ei(M:Mc)(n:Nat)(nm:List Nat)(ps:List Pl)(S sz:List Nat)(lk:List #[3]):Prop where
 g:Gr ps S sz lk
 s1:S.length<=1
 l:ps.length<=250
 mo:uV M n
 n1:1<=n
 n2:n<=1000
 nl:nm.length<=4
 m:∀p∈ps,p.m.length<=1000
 t:∀p∈ps,∀t∈lU M.nm nm p.m,t<M.tb.length
 hb:HB n (js n (Tm M.tb) #[8] lk []) lk
theorem Ei.num(G:Ei M n nm ps S sz lk)(hj:j<ps.length):(∀t∈#[8].getD j [],t<M.tb.length)/\(#[8].getD j []).length=2^nm.length/\2^nm.length<=16:=by
 have e:#[8].getD j []=lU M.nm nm ps[j].m:=hW _ (ae hj)
 rw[e]
 refine⟨G.t _ (dJ hj),by unfold lU;simp,aR (eP #[1] G.nl) #[1]⟩
theorem JL(G:Ei M n nm ps S sz lk){K p:Nat}{Kn:Nat->Prop}(hz:v9 a M n nm ps sz lk z)(hd:Fq a M n nm ps sz rs K Kn z)(hK:K<=900000)(hp:p<ps.length)(XY:rs.length=p+1-sz.getD p 0)(uF:∀r∈rs,r<n)(hu:∀(u:Nat) (x:Option Nat×Option Nat),lk[u]?=some x->(x.1=some p\/x.2=some p)->Kn u) :
  ∃z',dW [.loc a.L,.int (p:Nat)] z=.ok .non z'/\Kp a.wp a.wp z z'/\v9 a M n nm ps sz lk z'/\Fq a M n nm ps sz rs (K+1) (fun u=>Kn u\/u=p) z':=by
 obtain⟨l1,l2,_⟩:=G.g.ok
 obtain⟨kvs,hw,NS,hkl,hkn⟩:=hd.w
 obtain⟨ms,hms,hml⟩:=hd.m
 have lt:=hz.lt
 have lw:=cO hw
 have lr:=cO hd.r
 have lm:=cO hms
 have hT:∀t a b,Tm M.tb t a b<n:=ug G.mo G.n1
 have hNl:#[8].length=ps.length:=by simp
 suffices hh:iF (Dp fun _ z'=>∃q x,z.length<=q/\(z++x)[q]?=some (.lst (nW (WV M n nm ps sz rs p)))/\z'=(z++x).set a.wp (.dct (lS kvs (.i (p:Nat)) (.loc q)))) (iH ([.loc a.L,.int (p:Nat)].map some++List.replicate (5-2) none) z) by
  obtain⟨ρ,z',e,q,x,hq,hqc,rfl⟩:=hh
  have hwx:(z++x)[a.wp]?=some (.dct kvs):=aI hw
  have kp:Kp a.wp a.wp z ((z++x).set a.wp (.dct (lS kvs (.i (p:Nat)) (.loc q)))):=Kp.refl.app.setA
  refine⟨_,?_,kp,hz.keep fun i c e h=>kp i c e #[0] #[0],⟨kp _ _ hd.r #[0] #[0],⟨ms,kp _ _ hms #[0] #[0],hml⟩,_,iI hwx,aR (AA _ _ _) #[0],fun k q' e=>?_,fun u hu=>?_⟩⟩
  ·unfold dW dm
   rw[show iH (List.map some [W.loc a.L,.int (p:Nat)]++List.replicate (5-[W.loc a.L,.int (p:Nat)].length) none) z=_ from e]
   show R.ok W.non (trunc z _ [])=_
   unfold trunc
   rw[ay]
   rintro⟨_,_,k⟩
   have hnew:((z++x).set a.wp (.dct (lS kvs (.i (p:Nat)) (.loc q))))[a.wp]?=some (.dct (lS kvs (.i (p:Nat)) (.loc q))):=iI hwx
   have bad:undWs z.length ((lS kvs (.i (p:Nat)) (.loc q)).map fun p=>p.2)=true->False:=fun hu=>by
    have:=Ma (si kvs (.i (p:Nat)) (.loc q)) hu
    simp only[W.und,bf]at this
    omega
   rcases k a.wp lw with k|⟨c,k,hu⟩
   ·rw[hnew,hw]at k
    have k:lS kvs (.i (p:Nat)) (.loc q)=kvs:=by injection k with k;injection k
    have h1:=si kvs (.i (p:Nat)) (.loc q)
    rw[k]at h1
    have:=hkl _ _ h1
    omega
   ·rw[hnew]at k
    cases k
    exact bad hu
  ·have lq:=cO hqc
   rw[iV]
   by_cases hk:k=.i (p:Nat)
   ·subst hk
    rw[si]at e
    injection e with e;injection e with e;omega
   ·rw[Eh hk]at e
    have:=hkl _ _ e
    rw[aT];omega
  ·by_cases hup:u=p
   ·subst hup
    exact⟨q,si _ _ _,by omega,by rw[eO #[0]];exact hqc⟩
   ·obtain⟨q',e1,e2,e3⟩:=hkn u (hu.resolve_right hup)
    exact⟨q',by rw[Eh (RH hup)];exact e1,e2,kp _ _ e3 #[0] #[0]⟩
 have hup:=U8 hz.cA hz.cB (p:=p) (by rw[hz.lA];exact hp) (by rw[hz.lB];exact hp)
 apply aB
 ·exact bu (bY (av (qN hz rfl rfl) kn) hup rfl)
 have lt1:kvs.length<1000000:=by omega
 have put:∀(fe:FE) (ρ:cy) (q:Nat) (x:List am),ρ[0]?=some (lO a.L)->ρ[1]?=some (iO (p:Nat))->fe ρ z=.ok (.loc q) (z++x)->z.length<=q->(z++x)[q]?=some (.lst (nW (WV M n nm ps sz rs p))) ->
   iF (Dp fun _ z'=>∃q x,z.length<=q/\(z++x)[q]?=some (.lst (nW (WV M n nm ps sz rs p)))/\z'=(z++x).set a.wp (.dct (lS kvs (.i (p:Nat)) (.loc q)))) (rD (d7 "Course" "weights" (af 0)) (af 1) fe rL ρ z):=fun fe ρ q x h0 h1 he hq hqc=>by
  have hzx:v9 a M n nm ps sz lk (z++x):=hz.keep fun i c e _=>aI e
  apply cv
  ·exact vG he (qN hzx h0 rfl) (dN h1) (Jt (aI hw) lt1)
  ·exact⟨_,_,rfl,q,x,hq,hqc,rfl⟩
 have sp:∀u,u<ps.length->sz[u]?=some (sz.getD u 0):=fun u h=>bb 0 #[0]
 rcases U9 G.g G.s1 hz hp with⟨e,hpe⟩|⟨u,x,e,hx,hxp⟩
 ·rw[e]
  apply pz
  ·exact bJ (uc kv rfl)
  refine put _ _ z.length _ rfl rfl (bY (av (qN hz rfl rfl) aN) (L' G.mo G.n2 z) rfl) (ax _) ?_
  rw[bd,JK (M:=M) (nm:=nm) (ps:=ps) (sz:=sz) (rs:=rs) (p:=p) (l:=(List.range n).map (gM M)) #[9] fun q hq=>by rw[RB rs p hpe hq,Cz hq]]
 ·have hul:u<ps.length:=by have:=(ac.mp hx).1;omega
  obtain⟨D,hD,hDc⟩:=hz.tms u hul
  obtain⟨nt,nl,n16⟩:=G.num hul
  obtain⟨q,hg,hqm,hqc⟩:=hkn u (hu u x hx (hxp.imp (fun h=>h) fun h=>h.2))
  have itm:∀ρ:cy,ρ[0]?=some (lO a.L)->ρ[2]?=some (iO (u:Nat))->e2 bI (d7 "Course" "times" (af 0)) (af 2) ρ z=.ok (.loc (a.t0+u)) z:=fun ρ h0 h2=>bN (qN hz h0 rfl) (dN h2) (jm (aS hz.tm) (dF (by rw[ag,aF hul];rfl)))
  have iwt:∀ρ:cy,ρ[0]?=some (lO a.L)->ρ[2]?=some (iO (u:Nat))->e2 yx (d7 "Course" "weights" (af 0)) (af 2) ρ z=.ok (.loc q) z:=fun ρ h0 h2=>bN (qN hz h0 rfl) (dN h2) (NO (D3 hw) hg)
  have ilk:∀ρ:cy,ρ[0]?=some (lO a.L)->ρ[2]?=some (iO (u:Nat))->e2 bI (d7 "Course" "links" (af 0)) (af 2) ρ z=.ok (m7 x) z:=fun ρ h0 h2=>bN (qN hz h0 rfl) (dN h2) (k_ (dF (by rw[ag,hx];rfl)))
  rw[e]
  apply mw
  ·exact bJ (uc kv rfl)
  rcases hxp with h1|⟨h1,h2⟩
  ·have heq:qW (oW x.1) (.int (p:Nat)) z=.ok (.bl true) z:=by rw[h1];exact jy #[9]
   apply pz
   ·exact bJ (bN (bN (ilk _ rfl rfl) cD ox) kv heq)
   obtain⟨xr,er,vr⟩:=sd (n:=n) (V:=js n (Tm M.tb) #[8] lk []) G.mo G.n2 hz.ob rfl rfl hz.pc hz.pcs x.2 (fun k e=>by rw[hz.lq];have:=(G.g.lk hx).2 k e;omega)
   apply aB
   ·exact bu (j7 kv hz.ob rfl (av (bN (ilk _ rfl rfl) cD ox) aN) rfl er)
   have vrl:(mQ n (js n (Tm M.tb) #[8] lk []) x.2).length=n:=by
    cases x.2 with
    |none=>exact iJ
    |some k=>
     rcases jB (js n (Tm M.tb) #[8] lk []) k (ez n)with e|e
     ·show((js n (Tm M.tb) #[8] lk []).getD k (ez n)).length=n;rw[e];exact iJ
     ·exact pW n _ _ _ _ #[9] _ e
   obtain⟨y,hy,ey⟩:=JJ G.mo G.n2 hD nt #[0] hDc hqc (se u) vr vrl (G.hb u x hx (by rw[h1];simp))
   refine put _ _ (z.length+1) y rfl rfl (bY (av (qN hz rfl rfl) (av (itm _ rfl rfl) (av (iwt _ rfl rfl) kn))) ey rfl) #[0] ?_
   rw[hy,JK (M:=M) (nm:=nm) (ps:=ps) (sz:=sz) (rs:=rs) (p:=p) (l:=(List.range n).map fun l=>pH n (mQ n (js n (Tm M.tb) #[8] lk []) x.2) fun r=>pw M (#[8].getD u []) (WV M n nm ps sz rs u) l r) #[9] fun q hq=>by rw[RC G.g hNl hT G.n1 rs hx h1 hq,Cz hq];rfl]
  ·have heq:qW (oW x.1) (.int (p:Nat)) z=.ok (.bl false) z:=by
    cases hx1:x.1 with
    |none=>rfl
    |some k=>exact jy (by rw[bR];intro e;exact h1 (by rw[hx1];congr 1;omega))
   apply mw
   ·exact bJ (bN (bN (ilk _ rfl rfl) cD ox) kv heq)
   have hlt:∀k,x.1=some k->k<rs.length:=fun k e=>by
    have:=(NP G.g hx (.inr h2)).2.2 h2 k e
    omega
   have hrm:=v_ rs x.1 a.rp z hd.r hlt
   apply aB
   ·exact bu (bY (av (qN hz rfl rfl) (av (bN (ilk _ rfl rfl) cD ox) aN)) hrm rfl)
   have hbl:kL rs x.1<n:=by
    cases hx1:x.1 with
    |none=>show 0<n;have:=G.n1;omega
    |some k=>exact uF _ (aw (bb 0 (hlt k hx1)))
   refine put _ _ z.length _ rfl rfl (bY (av (qN hz rfl rfl) (av (itm _ rfl rfl) (av (iwt _ rfl rfl) kn))) (Fp G.mo G.n2 hD nt #[0] hDc hqc (se u) hbl) rfl) (ax _) ?_
   rw[bd,JK (M:=M) (nm:=nm) (ps:=ps) (sz:=sz) (rs:=rs) (p:=p) (l:=(List.range n).map fun r=>pw M (#[8].getD u []) (WV M n nm ps sz rs u) (kL rs x.1) r) #[9] fun q hq=>by rw[L9 G.g hNl hT rs hx h2 hq,Cz hq];rfl]
end
theorem Fs(h:bz.length=st.length):trunc st bz ws=bz:=by
 unfold trunc
 split
 ·rw[<- h,cu]
 ·rfl
section
variable{ps:List Pl}{sz:List Nat}{lk:List #[3]}{M:Mc}{a:Ad}
theorem NQ(G:Ei M n nm ps S sz lk){o:Option Nat}(ho:∀k,o=some k->k<rs.length)(uF:∀r∈rs,r<n):kL rs o<n:=by
 cases o with
 |none=>show 0<n;have:=G.n1;omega
 |some k=>exact uF _ (aw (bb 0 (ho k rfl)))
theorem wa(G:Ei M n nm ps S sz lk)(hz:v9 a M n nm ps sz lk z)(hr:z[a.rp]?=some (.lst (nW rs)))(hx:lk[rs.length]?=some x)(uF:∀r∈rs,r<n)(hc:c<2^nm.length) :
  dI [.loc a.L,.int (rs.length:Nat),.int (c:Nat)] z=.ok (.int (Tm M.tb ((#[8].getD rs.length []).getD c 0) (kL rs x.1) (kL rs x.2):Nat)) z:=by
 obtain⟨l1,l2,_⟩:=G.g.ok
 have hi:rs.length<ps.length:=by have:=(ac.mp hx).1;omega
 obtain⟨nt,nl,n16⟩:=G.num hi
 obtain⟨u1,u2⟩:=G.g.lk hx
 generalize hN:#[8].getD rs.length []=Ni at *
 have hg:Ni[c]?=some (Ni.getD c 0):=bb 0 #[0]
 have htl:=nt _ (aw hg)
 have htb:M.tb[Ni.getD c 0]?=some (M.tb.getD (Ni.getD c 0) []):=bb [] htl
 obtain⟨t1,t2⟩:=G.mo.t _ (aw htb)
 have b1:=NQ G u1 uF
 have b2:=NQ G u2 uF
 have g1:(M.tb.getD (Ni.getD c 0) [])[kL rs x.1]?=some ((M.tb.getD (Ni.getD c 0) []).getD (kL rs x.1) []):=bb [] #[0]
 obtain⟨r1,r2⟩:=t2 _ (aw g1)
 have g2:((M.tb.getD (Ni.getD c 0) []).getD (kL rs x.1) [])[kL rs x.2]?=some (((M.tb.getD (Ni.getD c 0) []).getD (kL rs x.1) []).getD (kL rs x.2) 0):=bb 0 #[0]
 have i1:bI (.loc a.nu) (.int (rs.length:Nat)) z=.ok (.loc (a.n0+rs.length)) z:=jm (aS hz.nu) (dF (by rw[ag,aF hi];rfl))
 have cn:=hz.nus rs.length hi
 rw[hN]at cn
 have ix:bI (.tup (M.tb.map m6)) (.int (Ni.getD c 0:Nat)) z=.ok (m6 (M.tb.getD (Ni.getD c 0) [])) z:=k_ (dF (by rw[ag,htb];rfl))
 refine j3 ?_
 apply aB
 ·exact bu (bN (bN (qN hz rfl rfl) cD ox) (bN (bN (qN hz rfl rfl) kv i1) kv (uf cn hg)) ix)
 apply aB
 ·exact bu (bN (qN hz rfl rfl) kv (k_ (w:=m7 x) (dF (by rw[ag,hx];rfl))))
 apply bB
 ·exact bN (bN kv (bY (av (qN hz rfl rfl) (av kx aN)) (v_ rs x.1 a.rp z hr u1) rfl) (vT g1)) (bY (av (qN hz rfl rfl) (av kx aN)) (v_ rs x.2 a.rp z hr u2) rfl) (tF g2)
 ·exact⟨_,_,rfl,rfl,rfl⟩
def VU(ps:List Pl)(sz:List Nat)(i u:Nat):Prop:=u<ps.length/\u+1-sz.getD u 0<i/\i<=u
def VV(ps:List Pl)(sz:List Nat)(i u:Nat):Prop:=u<ps.length/\u+1-sz.getD u 0<=i/\i<=u
theorem Gr.sz1(h:Gr ps S sz lk){u:Nat}(hu:u<ps.length):1<=sz.getD u 0/\sz.getD u 0<=u+1:=by
 obtain⟨p,L,R,q1,q2,q3,_⟩:=h.pf hu
 rw[ao,q2]
 show 1<=1+L+R/\1+L+R<=u+1
 omega
theorem Fq.imp{K K':Nat}{P Q:Nat->Prop}(h:Fq a M n nm ps sz rs K P z)(hK:K<=K')(XV:∀u,Q u->P u):Fq a M n nm ps sz rs K' Q z:=by
 obtain⟨kvs,h1,h2,h3,h4⟩:=h.w
 exact⟨h.r,h.m,kvs,h1,by omega,h3,fun u hu=>h4 u (XV u hu)⟩
theorem Ft(G:Ei M n nm ps S sz lk){K:Nat}(hz:v9 a M n nm ps sz lk z)(hd:Fq a M n nm ps sz rs K (VU ps sz rs.length) z)(hK:K+250<=900000)(hx:lk[rs.length]?=some x)(uF:∀r∈rs,r<n) :
  ∃q z',gJ [.loc a.L] z=.ok (.loc q) z'/\z.length<=q/\z'[q]?=some (.lst (nW ((#[8].getD rs.length []).map fun t=>(WV M n nm ps sz rs rs.length).getD (Tm M.tb t (kL rs x.1) (kL rs x.2)) 0)))/\Kp a.wp a.wp z z'/\v9 a M n nm ps sz lk z'/\Fq a M n nm ps sz rs (K+250) (VV ps sz rs.length) z':=by
 obtain⟨l1,l2,_⟩:=G.g.ok
 have hi:rs.length<ps.length:=by have:=(ac.mp hx).1;omega
 obtain⟨nt,nl,n16⟩:=G.num hi
 have hT:∀t a b,Tm M.tb t a b<n:=ug G.mo G.n1
 generalize hof:((#[8].getD rs.length []).map fun t=>(WV M n nm ps sz rs rs.length).getD (Tm M.tb t (kL rs x.1) (kL rs x.2)) 0)=of
 have lt:=hz.lt
 suffices hh:iF (uu fun w z'=>∃q,w=.loc q/\z.length<=q/\z'[q]?=some (.lst (nW of))/\Kp a.wp a.wp z z'/\v9 a M n nm ps sz lk z'/\Fq a M n nm ps sz rs (K+250) (VV ps sz rs.length) z') (kR ([W.loc a.L].map some++List.replicate (3-1) none) z) by
  obtain⟨w,z',e,q,rfl,h1,h2⟩:=hh
  refine⟨q,z',?_,h1,h2⟩
  have:=lv (N:=3) (body:=kR) (ws:=[.loc a.L]) e
  rw[mW (by simp[undWs,W.und];omega)]at this
  exact this
 have dG:=mK (aS hd.r)
 rw[show(nW rs).length=rs.length by unfold nW;simp]at dG
 apply aB
 ·exact bu (bX (av (qN hz rfl rfl) aN) dG)
 have ib:∀{z:List am},v9 a M n nm ps sz lk z->bI (.loc a.bg) (.int (rs.length:Nat)) z=.ok (.loc (a.b0+rs.length)) z:=fun hz=>jm (aS hz.bg) (dF (by rw[ag,aF hi];rfl))
 have bl:=Ed sz ps.length ps.length rs.length
 refine du (fun j ρ z'=>∃o:Option W,ρ=[lO a.L,iO (rs.length:Nat),o]/\Kp a.wp a.wp z z'/\z.length<=z'.length/\v9 a M n nm ps sz lk z'/\Fq a M n nm ps sz rs (K+j) (fun u=>VU ps sz rs.length u\/u∈(xS sz ps.length ps.length rs.length).take j) z')
  (ie (bN (qN hz rfl rfl) kv (ib hz)) (aS (hz.bgs _ hi))) ⟨none,rfl,Kp.refl,ax _,hz,hd.imp (ax _) fun u h=>h.resolve_right #[9]⟩ (fun j ρ z' h=>by
   obtain⟨_,_,_,_,h,_⟩:=h
   exact aS (h.bgs _ hi)) ?_ ?_
 ·rintro j w ρ z' hw ⟨o,rfl,kp,hzl,hz',hd'⟩
  unfold nW at hw
  rw[ag]at hw
  obtain⟨p,hp,rfl⟩:=aC.mp hw
  have hj:j<ps.length:=by have:=(ac.mp hp).1;omega
  obtain⟨pl,pb⟩:=y_.mp (aw hp)
  refine⟨_,rfl,?_⟩
  have hl:=G.l
  obtain⟨z2,e2,k2,s2,d2⟩:=JL G hz' hd' #[0] pl pb.symm uF fun u y hy hyp=>by
   obtain⟨q1,q2,_⟩:=NP G.g hy hyp
   have hul:u<ps.length:=by have:=(ac.mp hy).1;omega
   by_cases e:u+1-sz.getD u 0=rs.length
   ·exact .inr (JF hp (y_.mpr ⟨hul,e⟩) q1)
   ·exact .inl ⟨hul,by omega,by have:=(G.g.sz1 pl).1;omega⟩
  apply cv
  ·exact fP (j7 kv hz'.ob rfl kn rfl e2)
  ·refine⟨_,_,rfl,_,rfl,kp.trans k2,?_,s2,d2.imp #[0] fun u h=>?_⟩
   ·rcases jJ z2.length z'.length with g|g
    ·have hw':=hz'.lt
     obtain⟨kv,hkv,_⟩:=hd'.w
     have lwp:=cO hkv
     obtain⟨ms,hms,_⟩:=hd'.m
     have lmp:=cO hms
     have:z'[z'.length-1]?=some (z'[z'.length-1]'#[0]):=ae #[0]
     by_cases e:z'.length-1=a.wp
     ·omega
     ·have:=cO (k2 _ _ this e e);omega
    ·omega
   ·rw[da hp,aZ]at h
    rcases h with h|h|h
    ·exact .inl (.inl h)
    ·exact .inl (.inr h)
    ·exact .inr (bv.mp h)
 ·rintro ρ z' ⟨o,rfl,kp,hzl,hz',hd'⟩
  rw[show(nW (xS sz ps.length ps.length rs.length)).length=(xS sz ps.length ps.length rs.length).length by unfold nW;simp,cu]at hd'
  have hl:=G.l
  have hd2:Fq a M n nm ps sz rs (K+250) (VV ps sz rs.length) z':=hd'.imp #[0] fun u h=>by
   by_cases e:u+1-sz.getD u 0=rs.length
   ·exact .inr (y_.mpr ⟨h.1,e⟩)
   ·exact .inl ⟨h.1,by have:=h.2.1;omega,h.2.2⟩
  obtain⟨kvs,hw,NS,hkl,hkn⟩:=hd2.w
  obtain⟨q,hg,hqm,hqc⟩:=hkn rs.length ⟨hi,by have:=(G.g.sz1 hi).1;omega,ax _⟩
  have i1:bI (.loc a.nu) (.int (rs.length:Nat)) z'=.ok (.loc (a.n0+rs.length)) z':=jm (aS hz'.nu) (dF (by rw[ag,aF hi];rfl))
  have hln:=mK (aS (hz'.nus rs.length hi))
  rw[show(nW (#[8].getD rs.length [])).length=2^nm.length by unfold nW;rw[ak];exact nl]at hln
  obtain⟨r,hr1,hr2,hr3⟩:=uU (cap:=[none,some 1,some 0]) (ρ:=[lO a.L,iO (rs.length:Nat),o]) (st:=z') (n:=2^nm.length)
   (el:=e2 bI (e2 yx (d7 "Course" "weights" (af 2)) (af 1)) (kt "Course" "room_by" 3 dI (af 2) (ai (af 1) (ai (af 0) aA))))
   (fs:=ai (bH dY (ai (e2 bI (d7 "Course" "numbers" (af 0)) (af 1)) aA)) aA) (fun k:Nat=>W.int k) (fun i b=>b=(WV M n nm ps sz rs rs.length).getD (Tm M.tb ((#[8].getD rs.length []).getD i 0) (kL rs x.1) (kL rs x.2)) 0)
   (av (bX (av (bN (qN hz' rfl rfl) kv i1) aN) hln) aN) #[0] fun i hi2=>⟨_,rfl,bN (bN (qN hz' rfl rfl) kv (NO (D3 hw) hg)) (j7 kv hz'.ob rfl (av kv kn) rfl (wa G hz' hd2.r hx uF hi2)) (uf hqc (bb 0 (by rw[se];exact hT ..)))⟩
  have er:r=of:=by
   rw[<- hof]
   refine bM fun i=>?_
   rw[ag]
   by_cases hi2:i<2^nm.length
   ·rw[bb 0 (show i<(#[8].getD rs.length []).length by omega),ae #[0],hr2 i _ (ae #[0])];rfl
   ·rw[az #[0],az #[0]];rfl
  subst er
  apply bB
  ·exact hr3
  ·obtain⟨ms,hms,hml⟩:=hd2.m
   exact⟨_,_,rfl,_,rfl,hzl,bd,kp.app,hz'.keep fun i c e _=>aI e,⟨aI hd2.r,⟨ms,aI hms,hml⟩,kvs,aI hw,NS,fun k q e=>by have:=hkl k q e;rw[aT];omega,fun u hu=>(hkn u hu).imp fun q hq=>⟨hq.1,hq.2.1,aI hq.2.2⟩⟩⟩
structure VW(nm:List Nat)(ps:List Pl):Prop where
 n:∀d∈nm,d∈LL
 p:∀p∈ps,∀d∈p.m,d∈LL
theorem Fu(G:Ei M n nm ps S sz lk)(Sb:VW nm ps){K:Nat}(hz:v9 a M n nm ps sz lk z)(hd:Fq a M n nm ps sz rs K (VV ps sz rs.length) z)(hx:lk[rs.length]?=some x)(uF:∀r∈rs,r<n)(hc:c<2^nm.length) :
  ∃z',fQ [.loc a.L,.int (c:Nat)] z=.ok .non z'/\(∀(i:Nat) (e:am),z[i]?=some e->i<a.wp->z'[i]?=some e)/\v9 a M n nm ps sz lk z'/\Fq a M n nm ps sz (rs++[Tm M.tb ((#[8].getD rs.length []).getD c 0) (kL rs x.1) (kL rs x.2)]) K (VU ps sz (rs.length+1)) z'/\∀ms,z[a.mp]?=some (.lst ms)->z'[a.mp]?=some (.lst (ms++[.str (gH (((ps.getD rs.length ⟨0,[]⟩).m.filter fun d=>!decide (d∈nm))++pJ nm c))])):=by
 obtain⟨l1,l2,_⟩:=G.g.ok
 have hi:rs.length<ps.length:=by have:=(ac.mp hx).1;omega
 rw[show ps.getD rs.length ⟨0,[]⟩=ps[rs.length] by rw[ao,ae hi];rfl]
 generalize u4:Tm M.tb ((#[8].getD rs.length []).getD c 0) (kL rs x.1) (kL rs x.2)=ro
 have lt:=hz.lt
 obtain⟨ms,hms,hml⟩:=hd.m
 have hl:=G.l
 have hp:ps[rs.length]?=some ps[rs.length]:=ae hi
 have hpm:=aw hp
 have lmp:=cO hms
 have lrp:=cO hd.r
 have dG:=mK (aS hd.r)
 rw[show(nW rs).length=rs.length by unfold nW;simp]at dG
 obtain⟨z1,hz1⟩:∃z1,z1=z.set a.rp (.lst (nW (rs++[ro]))):=⟨_,rfl⟩
 have s1:v9 a M n nm ps sz lk z1:=hz.keep fun i e h hi=>by rw[hz1,eO #[0]];exact h
 have hms1:z1[a.mp]?=some (.lst ms):=by rw[hz1,eO #[0]];exact hms
 have wl:(ps[rs.length].m.filter fun d=>!decide (d∈nm)).length<=1000:=aR (cf _ _) (G.m _ hpm)
 have ml:=L1 nm c
 have mn:=G.nl
 have ho:=Ju (l:=(ps[rs.length].m.filter fun d=>!decide (d∈nm))++pJ nm c) (by rw[aT];omega) (fun d hd=>by
  rcases aZ.mp hd with z|z
  ·exact Sb.p _ hpm d (bE.mp z).1
  ·refine Sb.n d ?_
   unfold pJ at z
   obtain⟨k,hk,rfl⟩:=aO.mp z
   have hkl:=aU.mp (bE.mp hk).1
   exact aw (bb 0 hkl)) z1
 have ap:bW (.loc a.rp) [.int (ro:Nat)] z=.ok .non z1:=by
  rw[ja hd.r (by unfold nW;rw[ak];omega),hz1]
  unfold nW
  rw[bG];rfl
 suffices hh:iF (Dp fun _ z'=>z'=z1.set a.mp (.lst (ms++[.str (gH ((ps[rs.length].m.filter fun d=>!decide (d∈nm))++pJ nm c))]))) (kS ([W.loc a.L,.int (c:Nat)].map some++List.replicate (3-2) none) z) by
  obtain⟨ρ,z',e,rfl⟩:=hh
  generalize W.str (gH ((ps[rs.length].m.filter fun d=>!decide (d∈nm))++pJ nm c))=v at e ⊢
  have kz:∀(i:Nat) (e:am),z[i]?=some e->i≠a.rp->i≠a.mp->(z1.set a.mp (.lst (ms++[v])))[i]?=some e:=fun i e h h1 h2=>by
   rw[eO (Ne.symm h2),hz1,eO (Ne.symm h1)];exact h
  refine⟨_,?_,fun i e h h1=>kz i e h #[0] #[0],hz.keep fun i e h h1=>kz i e h #[0] #[0],⟨?_,⟨_,iI hms1,by simp[hml]⟩,?_⟩,fun ms' h'=>by rw[hms]at h';cases h';exact iI hms1⟩
  ·unfold fQ dm
   rw[show kS (List.map some [W.loc a.L,.int (c:Nat)]++List.replicate (3-[W.loc a.L,.int (c:Nat)].length) none) z=_ from e]
   show R.ok W.non (trunc z _ [])=_
   rw[Fs (by rw[hz1];simp)]
  ·rw[eO #[0],hz1,iI hd.r]
  ·obtain⟨kvs,hw,NS,hkl,hkn⟩:=hd.w
   refine⟨kvs,kz _ _ hw #[0] #[0],NS,fun k q e=>by have:=hkl k q e;rw[hz1];simpa using this,fun u hu=>?_⟩
   obtain⟨q,q1,q2,q3⟩:=hkn u ⟨hu.1,by have:=hu.2.1;omega,by have:=hu.2.2;omega⟩
   refine⟨q,q1,q2,?_⟩
   have ew:WV M n nm ps sz (rs++[ro]) u=WV M n nm ps sz rs u:=by
    unfold WV D_
    refine bZ fun q _=>?_
    rw[A4 (rs:=rs++[ro]) (rs':=rs) _ fun k hk=>?_]
    rw[ao,ao,aQ (by have:=hu.2.1;omega)]
   rw[ew]
   exact kz _ _ q3 #[0] #[0]
 apply aB
 ·exact bu (bX (av (qN hz rfl rfl) aN) dG)
 have rb:=wa G hz hd.r hx uF hc
 rw[u4]at rb
 apply aB
 ·exact fP (i9 (qN hz rfl rfl) (eJ hd.r) (av (j7 kv hz.ob rfl (av kv kn) rfl rb) aN) ap)
 have itr:bI (fE ps) (.int (rs.length:Nat)) z1=.ok ps[rs.length].w z1:=AZ hp z1
 apply cv
 ·exact fP (i9 (qN s1 rfl rfl) (eJ hms1) (av (bY (av (bN (bY (av (bN (bN (qN s1 rfl rfl) kv itr) cD (Fl _ _)) (av (qN s1 rfl rfl) aN)) (v3 _ nm (by have:=G.m _ hpm;omega) z1) rfl) (bY (av (qN s1 rfl rfl) kn) (A2 nm c #[0] z1) rfl) (vI (by show _<=1000000;omega))) aN) ho rfl) aN) (ja hms1 #[0]))
 ·exact⟨_,_,rfl,rfl⟩
end
section
variable{ps:List Pl}{sz:List Nat}{lk:List #[3]}{M:Mc}{a:Ad}
theorem xV(G:Ei M n nm ps S sz lk):pH n (mQ n (js n (Tm M.tb) #[8] lk []) (if 0<ps.length then some (ps.length-1)else none)) (gM M)=oO (Tm M.tb) (gM M) (ps.map Pl.b) #[8] []:=by
 obtain⟨l1,l2,hat⟩:=G.g.ok
 have hT:∀t a b,Tm M.tb t a b<n:=ug G.mo G.n1
 by_cases h0:0<ps.length
 ·rw[au h0]
  have hk:sz[ps.length-1]?=some ps.length:=by
   have hs1:=G.s1
   match S,hat,hs1 with
   |[],hat,_=>exact absurd hat (by show ps.length≠0;omega)
   |[s],⟨h1,h2,h3,h4⟩,_=>
    have h4:ps.length-s=0:=h4
    rw[h1];congr 1;omega
  have sg:=Jy (g:=gM M) G.g (N:=gy M nm ps) #[9] hT G.n1 (ps.length-1) ps.length hk []
  rw[show ps.length-1+1-ps.length=0 by omega,show ps.length-1+1=ps.length by omega]at sg
  have e0:cs (Tm M.tb) (gM M) (ps.map Pl.b) #[8] 0 []=oO (Tm M.tb) (gM M) (ps.map Pl.b) #[8] []:=by unfold cs;rw[dD,dD]
  rw[<- e0,sg]
  exact(pI fun q=>Jx (Tm M.tb) (gM M) #[9] [q]).symm
 ·have hps:ps=[]:=gk.mp #[0]
  rw[ay h0]
  show pH n (ez n) _=_
  rw[qM G.n1,hps];rfl
theorem wb(G:Ei M n nm ps S sz lk)(hz:v9 a M n nm ps sz lk z):eE [.loc a.L] z=.ok (.int (oO (Tm M.tb) (gM M) (ps.map Pl.b) #[8] []:Nat)) z:=by
 obtain⟨l1,l2,hat⟩:=G.g.ok
 have hT:∀t a b,Tm M.tb t a b<n:=ug G.mo G.n1
 have hl:=G.l
 generalize hV:js n (Tm M.tb) #[8] lk []=V
 have hVr:∀v∈V,v.length=n:=by rw[<- hV];exact pW n _ _ _ _ #[9]
 have hgM:(fun q=>if M.gd.getD q false then 1 else 0)=gM M:=rfl
 have key:∃o:Option Nat,(∀k,o=some k->k<a.cq.length)/\pH n (mQ n V o) (gM M)=oO (Tm M.tb) (gM M) (ps.map Pl.b) #[8] [] /\
   Ai (fG (e2 B3 (bH dY (ai (d7 "Course" "tree" (af 0)) aA)) (eI 0))) (e2 uq (bH dY (ai (d7 "Course" "tree" (af 0)) aA)) (eI 1)) (eC .non) [lO a.L] z=.ok (oW o) z:=by
  have hr:=xV G
  rw[hV]at hr
  refine⟨_,?_,hr,?_⟩
  ·intro k e
   split at e
   ·cases e;rw[hz.lq];omega
   ·cases e
  ·by_cases h0:0<ps.length
   ·rw[au h0]
    have:=pk (fb:=eC .non) (ρ:=[lO a.L]) (st:=z) (bJ (bN (bX (av (qN (i:=0) (f:="tree") hz rfl rfl) aN) (mM ps _)) (cD (w:=.int 0)) (jl (f:=fun a b=>decide (a>b)) (k:=true) (ba #[0])))) (bN (bX (av (qN (i:=0) (f:="tree") hz rfl rfl) aN) (mM ps _)) (cD (w:=.int 1)) (ga (C:=fun _ _=>True) (f:=fun a b=>a-b) trivial))
    rw[show((ps.length:Int)-1)=((ps.length-1:Nat):Int) by omega]at this
    exact this
   ·rw[ay h0]
    exact pq (bJ (bN (bX (av (qN (i:=0) (f:="tree") hz rfl rfl) aN) (mM ps _)) (cD (w:=.int 0)) (jl (f:=fun a b=>decide (a>b)) (k:=false) (bc #[0])))) cD
 obtain⟨o,ho1,ho2,ho3⟩:=key
 obtain⟨xv,e2,e3⟩:=sd (n:=n) (V:=V) G.mo G.n2 hz.ob rfl rfl hz.pc (by rw[<- hV];exact hz.pcs) o ho1
 have vl:(mQ n V o).length=n:=by
  cases o with
  |none=>exact iJ
  |some k=>
   show(V.getD k (ez n)).length=n
   rcases jB V k (ez n)with e|e
   ·rw[e];exact iJ
   ·exact hVr _ e
 have e4:=Cv G.mo G.n2 vl e3
 rw[Rt,hgM,ho2]at e4
 refine j3 ?_
 apply bB
 ·exact bY (av (qN hz rfl rfl) (av (j7 kv hz.ob rfl (av ho3 aN) rfl e2) aN)) e4 rfl
 ·exact⟨_,_,rfl,rfl,rfl⟩
theorem A9(G:Ei M n nm ps S sz lk)(st:List am):DA [M.w,fE ps,.str nm] st=.ok (.int (oO (Tm M.tb) (gM M) (ps.map Pl.b) #[8] []:Nat)) st:=by
 obtain⟨z0,a,e0,O0,hz,hL,w0,r0,m0⟩:=zc G.g G.l G.mo G.n1 G.n2 G.nl G.m G.t G.hb st
 obtain⟨x,rfl⟩:=O0.pre
 have la:=wb G hz
 have Bt:=hz.ob
 rw[hL]at Bt la
 refine fz ?_ rfl
 apply bB
 ·exact j7 (y4 (av kv (av kv kn)) rfl e0) Bt rfl aN rfl la
 ·exact⟨_,_,rfl,rfl,_,rfl⟩
def JM(nm:List Nat):List Pl->List Nat->List W
 |p::ps,c::ch=>.str (gH ((p.m.filter fun d=>!decide (d∈nm))++pJ nm c))::JM nm ps ch
 |_,_=>[]
theorem A_:∀{ps:List Pl} {ch:List Nat} {p:Pl},ps[ch.length]?=some p->JM nm ps (ch++[c])=JM nm ps ch++[.str (gH ((p.m.filter fun d=>!decide (d∈nm))++pJ nm c))]
 |[],[],_,h=>by simp at h
 |q::ps,[],p,h=>by
  have:q=p:=by simpa using h
  subst this
  cases ps<;>rfl
 |[],_::_,_,h=>by simp at h
 |q::ps,d::ch,p,h=>by
  show _::JM nm ps (ch++[c])=_
  rw[A_ (p:=p) (by simpa using h)];rfl
theorem Ej:∀{ps:List Pl} {ch:List Nat},ch.length=ps.length->(JM nm ps ch).length=ps.length
 |[],[],_=>rfl
 |p::ps,c::ch,h=>by show(JM nm ps ch).length+1=_;rw[Ej (by simpa using h)];rfl
 |[],_::_,h=>by simp at h
 |_::_,[],h=>by simp at h
theorem sj{L:List α}{f:α->Nat}(h:0<sm L f):∃(i:Nat) (x:α),L[i]?=some x/\0<f x:=by
 induction L with
 |nil=>rw[yS]at h;exact absurd h (cr 0)
 |cons y r ih=>
  rw[eU]at h
  by_cases hy:0<f y
  ·exact⟨0,y,rfl,hy⟩
  ·obtain⟨i,x,h1,h2⟩:=ih #[0]
   exact⟨i+1,x,by simpa using h1,h2⟩
end
theorem wc{m1 m2:List Nat}(l:List Nat)(h:∀d∈m1,d∉m2):fA m1 l+fA m2 l=fA (m1++m2) l:=by
 unfold fA
 have key:∀(l:List Nat) (a b:Nat),l.foldl (fun a c=>2*a+if c∈m1 then 1 else 0) a+l.foldl (fun a c=>2*a+if c∈m2 then 1 else 0) b=l.foldl (fun a c=>2*a+if c∈m1++m2 then 1 else 0) (a+b):=by
  intro l
  induction l with
  |nil=>intro a b;rfl
  |cons c r ih=>
   intro a b
   rw[eZ,eZ,eZ,ih]
   congr 1
   by_cases h1:c∈m1
   ·rw[au h1,ay (h c h1),au (cw _ h1)];omega
   ·by_cases h2:c∈m2
    ·rw[ay h1,au h2,au (aH _ h2)];omega
    ·rw[ay h1,ay h2,ay (by rw[aZ];exact fun z=>z.elim h1 h2)];omega
 exact key l 0 0
theorem uZ{d:Nat}(h:d∈pJ nm c):d∈nm:=by
 unfold pJ at h
 obtain⟨k,hk,rfl⟩:=aO.mp h
 exact aw (bb 0 (aU.mp (bE.mp hk).1))
noncomputable abbrev bare(nm m:List Nat):List Nat:=m.filter fun d=>!decide (d∈nm)
theorem m9{m:List Nat}{d:Nat}:d∈bare nm m↔d∈m/\d∉nm:=by
 rw[bE];simp
def pL(nm:List Nat)(p:Pl)(c:Nat):Pl:=⟨p.b,gH (bare nm p.m++pJ nm c)⟩
def nJ(nm:List Nat):List Pl->List Nat->List Pl
 |p::ps,c::ch=>pL nm p c::nJ nm ps ch
 |_,_=>[]
theorem JN{p:Pl}{d:Nat}:d∈(pL nm p c).m↔(d∈p.m/\d∉nm)\/d∈pJ nm c:=by
 show d∈gH _↔_
 rw[jY,aZ,m9]
theorem Fv{p:Pl}{d:Nat}:d∈bare nm (pL nm p c).m↔d∈bare nm p.m:=by
 rw[m9,m9,JN]
 constructor
 ·rintro⟨h|h,h2⟩
  ·exact h
  ·exact(h2 (uZ h)).elim
 ·intro h;exact⟨.inl h,h.2⟩
section
theorem we:∀{ps:List Pl} {ch:List Nat},ch.length=ps.length->(nJ nm ps ch).length=ps.length
 |[],[],_=>rfl
 |p::ps,c::ch,h=>by show(nJ nm ps ch).length+1=_;rw[we (by simpa using h)];rfl
 |[],_::_,h=>by simp at h
 |_::_,[],h=>by simp at h
theorem CA:∀{ps:List Pl} {ch:List Nat},ch.length=ps.length->(nJ nm ps ch).map Pl.b=ps.map Pl.b
 |[],[],_=>rfl
 |p::ps,c::ch,h=>by show p.b::(nJ nm ps ch).map Pl.b=_;rw[CA (by simpa using h)];rfl
 |[],_::_,h=>by simp at h
 |_::_,[],h=>by simp at h
theorem zd:∀{ps:List Pl} {ch:List Nat} {i:Nat} {p:Pl} {c:Nat},ps[i]?=some p->ch[i]?=some c->(nJ nm ps ch)[i]?=some (pL nm p c)
 |q::ps,d::ch,0,p,c,h1,h2=>by
  have e1:q=p:=by simpa using h1
  have e2:d=c:=by simpa using h2
  subst e1 e2;rfl
 |q::ps,d::ch,i+1,p,c,h1,h2=>by
  show(nJ nm ps ch)[i]?=_
  exact zd (by simpa using h1) (by simpa using h2)
 |[],_,_,_,_,h1,_=>by simp at h1
 |_::_,[],_,_,_,_,h2=>by simp at h2
theorem JO{M:Mc}(p:Pl)(hc:c<2^nm.length):fA (pL nm p c).m M.nm=(lU M.nm nm p.m).getD c 0:=by
 have e:(lU M.nm nm p.m).getD c 0=fA (bare nm p.m) M.nm+fA (pJ nm c) M.nm:=hW (fun c=>fA (bare nm p.m) M.nm+fA (pJ nm c) M.nm) (aF hc)
 rw[e,wc _ fun d h1 h2=>(m9.mp h1).2 (uZ h2)]
 exact vX fun d _=>jY
theorem Mb{M:Mc}(hM:uV M n)(m:List Nat):∀t∈lU M.nm nm m,t<M.tb.length:=fun t ht=>by
 unfold lU at ht
 obtain⟨c,_,rfl⟩:=aO.mp ht
 have e:=wc (m1:=bare nm m) (m2:=pJ nm c) M.nm fun d h1 h2=>(m9.mp h1).2 (uZ h2)
 show fA (bare nm m) M.nm+fA (pJ nm c) M.nm<_
 rw[e,hM.tb];exact r_ _ _
end
theorem Gr.bs {ps:List Pl} {sz:List Nat} {lk:List (Option Nat × Option Nat)} (h : Gr ps S sz lk) : ∀ {qs : List Pl}, qs.map Pl.b = ps.map Pl.b -> Gr qs S sz lk := by
  induction h with
  | nil => intro qs hq; have : qs = [] := by simpa using hq
           subst this; exact .nil
  | @snoc ps S S' sz lk b k m x hg hs ih =>
    intro qs hq
    rw [bG             ] at hq
    obtain ⟨q1, q2, rfl, h1, h2⟩ := List.map_eq_append_iff.mp hq
    obtain ⟨q, rfl⟩ : ∃ q, q2 = [q] := by
      match q2, h2 with
      | [q], _ => exact ⟨q, rfl⟩
      | [], h2 => simp at h2
      | _ :: _ :: _, h2 => simp at h2
    have hb : q.b = b := by simpa using h2
    obtain ⟨qb, qm⟩ := q
    have hb : qb = b := hb
    subst hb
    have hl : q1.length = ps.length := by have := iQ       List.length h1; simpa using this
    exact .snoc (ih h1) (by rw [hl]; exact hs)
structure JP(M:Mc)(n:Nat)(nm:List Nat)(ps:List Pl)(S sz:List Nat)(lk:List #[3]):Prop where
 g:Gr ps S sz lk
 s1:S.length<=1
 l:ps.length<=200
 mo:uV M n
 n1:1<=n
 n2:n<=1000
 nl:nm.length<=4
 nd:nm.Nodup
 nL:∀d∈nm,d∈LL
 m:∀p∈ps,p.m.length<=900
 mL:∀p∈ps,∀d∈p.m,d∈LL
 hb:HB n (js n (Tm M.tb) #[8] lk []) lk
section
variable{ps:List Pl}{sz:List Nat}{lk:List #[3]}{M:Mc}{ch:List Nat}
theorem JP.gd(B:JP M n nm ps S sz lk):Ei M n nm ps S sz lk:=
 ⟨B.g,B.s1,by have:=B.l;omega,B.mo,B.n1,B.n2,B.nl,fun p hp=>by have:=B.m p hp;omega,fun p _=>Mb B.mo p.m,B.hb⟩
theorem JP.lt(B:JP M n nm ps S sz lk):VW nm ps:=⟨B.nL,B.mL⟩
end
section
variable{ps:List Pl}{sz:List Nat}{lk:List #[3]}{M:Mc}{a:Ad}
theorem qX.trunc{z0 z':List am}(h:qX st z')(hl:st.length<=z0.length):qX st (trunc z0 z' ws):=fun i c e=>by
 unfold L2.trunc
 split
 ·rw[l_,au (by have:=cO e;omega)];exact h i c e
 ·exact h i c e
noncomputable def VX:W->W
 |.tup [.tup [b,_],m]=>.tup [b,m]
 |w=>w
theorem Ek:∀{ps:List Pl} {ch:List Nat},ch.length=ps.length->(jZ (ps.map Pl.w) (JM nm ps ch)).map VX=(nJ nm ps ch).map Pl.w
 |[],[],_=>rfl
 |p::ps,c::ch,h=>by
  show VX (.tup [p.w,_])::(jZ (ps.map Pl.w) (JM nm ps ch)).map VX=(pL nm p c).w::_
  rw[Ek (by simpa using h)];rfl
 |[],_::_,h=>by simp at h
 |_::_,[],h=>by simp at h
theorem wf{ch:List Nat}(hl:ps.length<=1000)(hz:v9 a M n nm ps sz lk z)(hm:z[a.mp]?=some (.lst (JM nm ps ch)))(hc:ch.length=ps.length):eN [.loc a.L] z=.ok (fE (nJ nm ps ch)) z:=by
 have hcm:=mx (cap:=[none,none]) (f:=zu 2 (dq (dZ 0) (dq (dZ 1) kq))) (el:=o_ (ai (e2 bI (af 0) (eI 0)) (ai (af 1) aA))) (ρ:=[lO a.L]) (st:=z) VX
  (Rq (fs:=ai (d7 "Course" "tree" (af 0)) (ai (d7 "Course" "marks" (af 0)) aA)) (st1:=z) (av (qN hz rfl rfl) (av (qN hz rfl rfl) aN)) (aS hm)) (by rw[mU,Ej hc,ak];show _<=1000000;omega) (aS hm) fun w hw=>by
   obtain⟨k,hk⟩:=dL hw
   obtain⟨x,y,hx,hy,rfl⟩:=mT hk
   rw[ag]at hx
   obtain⟨p,_,rfl⟩:=aC.mp hx
   exact⟨_,rfl,qj (av kx kn) (aE rfl)⟩
 rw[Ek hc]at hcm
 refine fz ?_ (by simp only[undWs,yX,cK])
 apply bB
 ·exact bX (av hcm aN) (kO (aS bd))
 ·exact⟨_,_,rfl,rfl,_,rfl⟩
theorem A'(G:Ei M n nm ps S sz lk)(Sb:VW nm ps){z0:List am}(O0:qX st z0)(s0:v9 a M n nm ps sz lk z0)(w0:z0[a.wp]?=some (.dct []))(r0:z0[a.rp]?=some (.lst (nW [])))(m0:z0[a.mp]?=some (.lst []))(Sa:st.length<=a.wp)
  (W1:0<oO (Tm M.tb) (gM M) (ps.map Pl.b) #[8] []) :
  ∃ch z',ch.length=ps.length/\(∀c∈ch,c<2^nm.length)/\0<fin (Tm M.tb) (gM M) (ps.map Pl.b) #[8] ch []/\Dz [.loc a.L,.int 0] z0=.ok (fE (nJ nm ps ch)) z'/\qX st z':=by
 obtain⟨l1,l2,_⟩:=G.g.ok
 have hT:∀t a b,Tm M.tb t a b<n:=ug G.mo G.n1
 have hl:=G.l
 have lz:=cO w0
 suffices hh:iF (uu fun w z'=>∃ch,ch.length=ps.length/\(∀c∈ch,c<2^nm.length)/\0<fin (Tm M.tb) (gM M) (ps.map Pl.b) #[8] ch []/\w=fE (nJ nm ps ch)/\qX st z') (Je ([W.loc a.L,.int 0].map some++List.replicate (6-2) none) z0) by
  obtain⟨w,z',e,ch,h1,h2,h3,rfl,h4⟩:=hh
  exact⟨ch,_,h1,h2,h3,lv (N:=6) (body:=Je) (ws:=[.loc a.L,.int 0]) e,h4.trunc #[0]⟩
 apply aB
 ·exact bu kv
 refine du (fun i ρ z=>∃(rs ch:List Nat) (o3 o4 o5:Option W),rs.length=i/\ch.length=i/\ρ=[lO a.L,iO 0,iO 0,o3,o4,o5]/\qX st z/\v9 a M n nm ps sz lk z/\Fq a M n nm ps sz rs (i*250) (VU ps sz i) z/\(∀r∈rs,r<n)/\(∀c∈ch,c<2^nm.length)/\z[a.mp]?=some (.lst (JM nm ps ch)) /\
   0<oO (Tm M.tb) (gM M) ((ps.map Pl.b).drop i) (#[8].drop i) (sk sz rs i)/\∀ch',fin (Tm M.tb) (gM M) (ps.map Pl.b) #[8] (ch++ch') []=fin (Tm M.tb) (gM M) ((ps.map Pl.b).drop i) (#[8].drop i) ch' (sk sz rs i))
  (mv (ws:=ps.map Pl.w) (st1:=z0) (qN s0 rfl rfl)) ⟨[],[],none,none,none,rfl,rfl,rfl,O0,s0,⟨r0,⟨[],m0,rfl⟩,[],w0,by simp,fun k q e=>(by cases e),fun u hu=>absurd hu.2.1 #[0]⟩,by simp,by simp,by rw[m0];cases ps<;>rfl,by rw[dD,dD,sk];exact W1,fun ch'=>by rw[dD,dD,sk];rfl⟩ (fun _ _ _ _=>trivial) ?_ ?_
 ·rintro i w ρ z hw ⟨rs,ch,o3,o4,o5,rfl,qt,rfl,hO,hz,hd,uF,hcK,hms,hps,hfin⟩
  rw[ag]at hw
  obtain⟨p,hp,rfl⟩:=aC.mp hw
  have hi:rs.length<ps.length:=(ac.mp hp).1
  obtain⟨x,hx⟩:∃x,lk[rs.length]?=some x:=⟨_,ae #[0]⟩
  obtain⟨nt,nl,n16⟩:=G.num hi
  have lt:=hz.lt
  refine⟨_,rfl,?_⟩
  apply aB
  ·exact bu cD
  obtain⟨q,z',e1,hq,hqc,kp,s1,d1⟩:=Ft G hz hd (by have:=ma (show rs.length<=250 by omega) (ax 250);omega) hx uF
  have hms':z'[a.mp]?=some (.lst (JM nm ps ch)):=kp _ _ hms #[0] #[0]
  apply aB
  ·exact bu (j7 kv hz.ob rfl aN rfl e1)
  have hb:(ps.map Pl.b)[rs.length]?=some p.b:=by rw[ag,hp];rfl
  have hN:#[8][rs.length]?=some (#[8].getD rs.length []):=bb [] (by simpa using hi)
  obtain⟨b1,b2⟩:=ac.mp hb
  obtain⟨m1,m2⟩:=ac.mp hN
  have hsz:sz[rs.length]?=some (sz.getD rs.length 0):=bb 0 #[0]
  have run:∀t,wV (Tm M.tb) p.b t (sk sz rs rs.length)=Tm M.tb t (kL rs x.1) (kL rs x.2)::sk sz rs (rs.length+1-sz.getD rs.length 0):=fun t=>D9 G.g rs hp hx hsz t
  have hof:((#[8].getD rs.length []).map fun t=>(WV M n nm ps sz rs rs.length).getD (Tm M.tb t (kL rs x.1) (kL rs x.2)) 0)=(#[8].getD rs.length []).map fun t=>oO (Tm M.tb) (gM M) ((ps.map Pl.b).drop (rs.length+1)) (#[8].drop (rs.length+1)) (wV (Tm M.tb) p.b t (sk sz rs rs.length)):=
   bZ fun t _=>by rw[run];exact tJ rs.length (hT _ _ _)
  rw[hof]at hqc
  rw[bj b1,bj m1,b2,m2]at hps
  have hps:0<sm (#[8].getD rs.length []) fun t=>oO (Tm M.tb) (gM M) ((ps.map Pl.b).drop (rs.length+1)) (#[8].drop (rs.length+1)) (wV (Tm M.tb) p.b t (sk sz rs rs.length)):=hps
  generalize hF:(fun t=>oO (Tm M.tb) (gM M) ((ps.map Pl.b).drop (rs.length+1)) (#[8].drop (rs.length+1)) (wV (Tm M.tb) p.b t (sk sz rs rs.length)))=F at hqc hps
  obtain⟨i0,t0,ht0,hp0⟩:=sj hps
  have hi0:i0<2^nm.length:=by have:=(ac.mp ht0).1;omega
  generalize FF:#[8].getD rs.length []=ns at hqc ht0 nl
  have off:∀k,k<2^nm.length->bI (.loc q) (.int (k:Nat)) z'=.ok (.int (F (ns.getD k 0):Nat)) z':=fun k hk=>uf hqc (by rw[ag,bb 0 (show k<ns.length by omega)];rfl)
  have t00:F (ns.getD i0 0)=F t0:=by rw[ao,ht0];rfl
  refine xN (fun m ρ s=>∃k,s=z'/\ρ=[lO a.L,iO 0,iO 0,some p.w,iO (k:Nat),lO q]/\k<=i0/\m=i0-k) i0 ⟨0,rfl,rfl,cM _,rfl⟩ ?_ ?_
  ·rintro m ρ s ⟨k,rfl,rfl,hk,rfl⟩
   by_cases h0:F (ns.getD k 0)=0
   ·refine .inr ⟨bJ (bN kv (bN kv kv (off k #[0])) (jl (ba (by show((F (ns.getD k 0):Nat):Int)<=0;omega)))),?_⟩
    apply aB
    ·exact bu (bN kv (bN kv kv (off k #[0])) (ga trivial))
    apply cv
    ·exact bu (bN kv cD f9)
    ·have wZ:k≠i0:=fun e=>by subst e;omega
     refine⟨_,_,rfl,i0-(k+1),by omega,k+1,rfl,?_,by omega,rfl⟩
     show[_,_,iO ((0:Int)-((F (ns.getD k 0):Nat):Int)),_,iO ((k:Int)+1),_]=_
     rw[h0];rfl
   ·exact .inl (bJ (bN kv (bN kv kv (off k #[0])) (jl (bc (by show ¬ ((F (ns.getD k 0):Nat):Int)<=0;omega)))))
  ·rintro m ρ s ⟨c,rfl,rfl,hk,rfl⟩ hno
   have hc:c<2^nm.length:=by omega
   have hFc:0<F (ns.getD c 0):=by
    rcases gF (F (ns.getD c 0))with h0|h0
    ·have:fG (e2 MD (af 2) (e2 bI (af 5) (af 4))) [lO a.L,iO 0,iO 0,some p.w,iO (c:Nat),lO q] s=.ok true s:=bJ (bN kv (bN kv kv (off c hc)) (jl (ba (by show((F (ns.getD c 0):Nat):Int)<=0;omega))))
     rw[hno]at this;cases this
    ·exact h0
   obtain⟨z3,e3,k3,s3,d3,m3⟩:=Fu G Sb s1 d1 hx uF hc
   have O3:qX st z3:=fun i c e=>by
    have h1:=cO e
    exact k3 i c (kp i c (hO i c e) #[0] #[0]) #[0]
   rw[FF]at d3
   generalize u4:Tm M.tb (ns.getD c 0) (kL rs x.1) (kL rs x.2)=ro at d3
   apply cv
   ·exact fP (j7 kv s1.ob rfl kn rfl e3)
   ·have z1':=(G.g.sz1 hi).1
    have esk:sk sz (rs++[ro]) (rs.length+1)=wV (Tm M.tb) p.b (ns.getD c 0) (sk sz rs rs.length):=by
     rw[run,y8 G.g ro hsz z1',u4]
    refine⟨_,_,rfl,rs++[ro],ch++[c],_,_,_,by simp,by simp[qt],rfl,O3,s3,d3.imp (by rw[ly];exact ax _) fun u h=>h,fun r hr=>?_,fun d hd=>?_,?_,?_,fun ch'=>?_⟩
    ·rcases aZ.mp hr with h|h
     ·exact uF r h
     ·rw[bv.mp h,<- u4];exact hT ..
    ·rcases aZ.mp hd with h|h
     ·exact hcK d h
     ·rw[bv.mp h];exact hc
    ·have:=m3 _ hms'
     rw[show ps.getD rs.length ⟨0,[]⟩=p by rw[ao,hp];rfl]at this
     rw[this,A_ (p:=p) (by rw[qt];exact hp)]
    ·rw[esk];rw[<- hF]at hFc;exact hFc
    ·rw[aY,List.singleton_append,hfin,bj b1,bj m1,b2,m2,esk,<- FF];rfl
 ·rintro ρ z ⟨rs,ch,o3,o4,o5,hrl,qt,rfl,hO,hz,hd,uF,hcK,hms,hps,hfin⟩
  rw[show(ps.map Pl.w,(none:Option (Nat×List W))).fst.length=ps.length by simp]at qt hps hfin
  have hf:=hfin []
  rw[bC,dU (l:=ps.map Pl.b) #[9]]at hf
  rw[dU (l:=ps.map Pl.b) #[9]]at hps
  apply bB
  ·exact j7 kv hz.ob rfl aN rfl (wf #[0] hz hms qt)
  ·refine⟨_,_,rfl,ch,qt,hcK,?_,rfl,hO⟩
   rw[hf]
   have e1:∀N σ,fin (Tm M.tb) (gM M) [] N [] σ=gM M (σ.headD 0):=fun N σ=>by unfold fin;rfl
   have e2:∀N σ,oO (Tm M.tb) (gM M) [] N σ=gM M (σ.headD 0):=fun N σ=>by unfold oO;rfl
   rw[e2]at hps
   rw[e1];exact hps
theorem Fw(G:Ei M n nm ps S sz lk)(Sb:VW nm ps)(st:List am) :
  (oO (Tm M.tb) (gM M) (ps.map Pl.b) #[8] []=0/\AT [M.w,fE ps,.str nm] st=.ok .non st) \/
  (0<oO (Tm M.tb) (gM M) (ps.map Pl.b) #[8] []/\∃ch,ch.length=ps.length/\(∀c∈ch,c<2^nm.length)/\0<fin (Tm M.tb) (gM M) (ps.map Pl.b) #[8] ch []/\AT [M.w,fE ps,.str nm] st=.ok (fE (nJ nm ps ch)) st):=by
 obtain⟨z0,a,e0,O0,s0,hL,w0,r0,m0⟩:=zc G.g G.l G.mo G.n1 G.n2 G.nl G.m G.t G.hb st
 have la:=wb G s0
 have lt:=s0.lt
 rcases gF (oO (Tm M.tb) (gM M) (ps.map Pl.b) #[8] [])with h0|h0
 ·refine .inl ⟨h0,fz ?_ rfl⟩
  rw[h0]at la
  apply aB
  ·exact bu (y4 (av kv (av kv kn)) rfl e0)
  rw[<- hL]
  obtain⟨x,rfl⟩:=O0.pre
  apply bB
  ·exact pq (bJ (bN (j7 kv s0.ob rfl aN rfl la) cD (jl rfl))) cD
  ·exact⟨_,_,rfl,rfl,_,rfl⟩
 ·obtain⟨ch,z',h1,h2,h3,e1,O1⟩:=A' G Sb O0 s0 w0 r0 m0 #[0] h0
  refine .inr ⟨h0,ch,h1,h2,h3,fz ?_ (by simp only[undWs,yX,cK])⟩
  apply aB
  ·exact bu (y4 (av kv (av kv kn)) rfl e0)
  rw[<- hL]
  obtain⟨x,rfl⟩:=O1.pre
  apply bB
  ·exact pk (bJ (bN (j7 kv s0.ob rfl aN rfl la) cD (jl (ba (by show(0:Int)<_;omega))))) (bY (av kv (av cD aN)) e1 rfl)
  ·exact⟨_,_,rfl,rfl,_,rfl⟩
end
noncomputable def uh(d:Int)(i:Nat):Bool:=Builtin.bitAnd (d/2^i) 1==1
def gz(pool:List Nat)(d:Int):List Nat:=((List.range pool.length).filter (uh d)).map fun i=>pool.getD i 0
theorem j8(pool:List Nat)(d:Int):(gz pool d).Sublist pool:=by
 unfold gz
 have:((List.range pool.length).map fun i=>pool.getD i 0)=pool:=by
  have:=xP pool 0 (fun x=>x)
  rw[List.map_id']at this;exact this
 conv=>rhs;rw[<- this]
 exact List.Sublist.map _ List.filter_sublist
noncomputable def wg:W->Nat
 |.int i=>i.toNat
 |_=>0
theorem pX(pool:List Nat)(hp:pool.length<=50)(d:Int)(st:List am):pF [.str pool,.int d] st=.ok (.str (wF (gz pool d))) st:=by
 have hL:pool.length<=ny:=by show _<=1000000;omega
 have hc:=pA (fi:=ce (ai (bH dY (ai (af 0) aA)) aA)) (f:=dZ 0) (t:=fG (e2 qW (e2 Ak (e2 B2 (af 2) (af 0)) (eI 1)) (eI 1))) (el:=e2 bI (af 1) (af 0)) (cap:=[none,some 0,some 1]) (ρ:=[some (.str pool),iO d]) (st:=st) (st1:=st) (ws:=eM 0 pool.length) (ck:=none) (fun w=>uh d (wg w)) (fun w=>.str [pool.getD (wg w) 0])
   (by
    have:=gi (fs:=ai (bH dY (ai (af 0) aA)) aA) (ρ:=[some (.str pool),iO d]) (st:=st) (st1:=st) (q:=(pool.length:Int)) (av (bX kn (nH hL)) aN) #[0]
    rw[aJ]at this
    exact this) (by rw[dy];show _<=1000000;omega) trivial fun w hw=>by
   obtain⟨i,hi,rfl⟩:=s_ hw
   refine⟨[iO (0+(i:Int)),some (.str pool),iO d],rfl,?_,fun _=>?_⟩
   ·have h0:(0:Int)<=0+(i:Int):=by omega
    have hk:(Builtin.bitAnd (d/2^(0+(i:Int)).toNat) 1==1)=uh d (wg (.int (0+(i:Int)))):=rfl
    exact bJ (bN (bN (bN kv kv (ga h0)) cD (ga trivial)) cD (jy hk))
   ·refine bN kv kv ?_
    rw[show((0:Int)+(i:Int))=(i:Int) by omega]
    have e2:tU pool (i:Int)=some (pool.getD i 0):=dF (bb 0 hi)
    rw[MP hL e2]
    simp[wg]
 have e:((eM 0 pool.length).filter fun w=>uh d (wg w)).map (fun w=>W.str [pool.getD (wg w) 0])=((gz pool d).map fun c=>[c]).map W.str:=by
  unfold eM gz
  rw[gP,a9,a9,a9]
  have e1:((fun w=>uh d (wg w))∘fun k:Nat=>W.int (0+(k:Int)))=uh d:=by funext k;simp[wg]
  rw[e1]
  refine bZ fun k _=>?_
  simp[wg]
 rw[e]at hc
 have hl:(gz pool d).length<=50:=aR (j8 pool d).length_le hp
 refine fz (N:=2) (ws:=[.str pool,.int d]) (body:=NG) ?_ rfl
 apply bB
 ·exact LW hc (aS bd) #[0]
 ·exact⟨_,_,rfl,rfl,_,by rw[aY]⟩
theorem xW(h:l.Nodup):wF l=gH l:=by
 have hp:(gH l).Perm l:=(md ((iP l).imp fun h=>a8 h) h).mpr fun d=>jY
 have e:hJ (l.map fun c=>[c])=(gH l).map fun c=>[c]:=by
  refine uQ (vw _) ?_ ((gu _).trans (hp.map _).symm)
  refine List.pairwise_map.mpr ((iP l).imp fun{a b} h=>?_)
  intro z
  rcases List.cons_lt_cons_iff.mp z with y|⟨y,_⟩<;>omega
 unfold wF
 rw[e,tH]
def ze(pool m:List Nat):Prop:=m.length<=50/\(∀d∈m,d∈pool)/\(pool.Nodup->m.Pairwise (· < ·))
theorem JQ{pool:List Nat}(hp:pool.length<=50)(d:Int):ze pool (wF (gz pool d)):=
 ⟨by rw[yP];exact aR (j8 pool d).length_le hp,fun c hc=>(j8 pool d).subset ((vS _).mem_iff.mp hc),fun h=>by rw[xW ((j8 pool d).nodup h)];exact iP _⟩
theorem RI{f:cy->List am->R Bool}{a b:List am}(h1:f ρ st=.ok false a)(h2:f ρ st=.ok true b):False:=by
 rw[h1]at h2;cases h2
theorem Md{nd:Nat}{ds:List Int}{pool:List Nat}(hd:st[nd]?=some (.lst (p7 ds)))(Xs:ds.length<=100)(hp:pool.length<=50) :
  ∃ps S sz lk,Gr ps S sz lk/\S.length<=1/\ps.length<=2*ds.length/\(∀p∈ps,ze pool p.m)/\DD [.loc nd,.str pool] st=.ok (fE ps) st:=by
 suffices hh:iF (uu fun w bz=>(∃x,bz=st++x)/\undWs st.length [w]=true/\∃ps S sz lk,w=fE ps/\Gr ps S sz lk/\S.length<=1/\ps.length<=2*ds.length/\∀p∈ps,ze pool p.m) (NH ([W.loc nd,.str pool].map some++List.replicate (6-2) none) st) by
  obtain⟨w,⟨ps,S,sz,lk,rfl,h1,h2,h3,h4⟩,e⟩:=uT hh
  exact⟨ps,S,sz,lk,h1,h2,h3,h4,e⟩
 apply aB
 ·(walk_at "evs")
 apply aB
 ·(walk_at "evs")
 have gj:∀A:List W,lstOf (st++[am.lst A]) nd=some (p7 ds):=fun A=>aS (aI hd)
 refine du (fun i ρ bz=>∃(ps:List Pl) (S sz:List Nat) (lk:List #[3]) (o5 o6:Option W),ρ=[lO nd,some (.str pool),lO st.length,iO S.length,o5,o6]/\bz=st++[.lst (ps.map Pl.w)]/\Gr ps S sz lk/\ps.length=i/\∀p∈ps,ze pool p.m) (ie (st1:=st++[am.lst []]) (by(walk_at "evs")) (gj []))
  ⟨[],[],[],[],none,none,rfl,rfl,.nil,rfl,by simp⟩ (fun i ρ bz h=>?_) ?_ ?_
 ·obtain⟨ps,S,sz,lk,o5,o6,rfl,rfl,_⟩:=h
  exact gj _
 ·rintro i w ρ bz hw ⟨ps,S,sz,lk,o5,o6,rfl,rfl,hg,hle,hpm⟩
  obtain⟨d,hdd,rfl⟩:∃d,ds[i]?=some d/\w=.int d:=by
   simp only[p7,ag,aC]at hw
   obtain⟨d,h1,rfl⟩:=hw
   exact⟨d,h1,rfl⟩
  have hi:i<ds.length:=(ac.mp hdd).1
  refine⟨_,rfl,?_⟩
  have hc:(st++[am.lst (ps.map Pl.w)])[st.length]?=some (.lst (ps.map Pl.w)):=bd
  obtain⟨b0,hb0,eb0⟩:=iT (q:=d) (n:=4) #[0]
  have eb0:d%4=(b0:Int):=eb0
  apply aB
  ·exact bu (bN kv cD (ga #[1]))
  rw[eb0]
  refine rQ (fun ρ bz=>∃b:Nat,b<=3/\(b+1)/2<=S.length/\ρ=[lO nd,some (.str pool),lO st.length,iO S.length,iO d,iO b]/\bz=st++[.lst (ps.map Pl.w)]) ?_ ?_
  ·by_cases h1:S.length<(b0+1)/2
   ·have t1:decide ((S.length:Int)<((b0:Int)+1)/2)=true:=ba #[0]
    apply pz
    ·exact bJ (bN (bN (bN kv cD f9) cD (ga #[1])) kv (jl t1))
    apply cv
    ·(walk_at "evs")
    ·exact⟨_,_,rfl,0,by omega,by omega,rfl,rfl⟩
   ·have t1:decide ((S.length:Int)<((b0:Int)+1)/2)=false:=bc #[0]
    apply mw
    ·exact bJ (bN (bN (bN kv cD f9) cD (ga #[1])) kv (jl t1))
    apply cv
    ·exact py
    ·exact⟨_,_,rfl,b0,by omega,by omega,rfl,rfl⟩
  rintro ρ bz ⟨b2,hb2,Bz,rfl,rfl⟩
  obtain⟨S',k,x,nA,hlen'⟩:=St.ex (n:=ps.length) hb2 Bz
  have em:=pX pool hp (d/4%16) (st++[am.lst (ps.map Pl.w)])
  have hmk:=JQ hp (d/4%16)
  generalize wF (gz pool (d/4%16))=m at em hmk
  have ap:=xL (y:=(Pl.mk b2 m).w) hc (by rw[ak];show _<1000000;omega)
  rw[fD]at ap
  have ap:bW (.loc st.length) [.tup [.int b2,.str m]] (st++[am.lst (ps.map Pl.w)])=_:=ap
  apply aB
  ·exact fP (i9 kv (eJ hc) (av (qj (av kv (av (bY (av kv (av (bN (bN kv cD (ga #[1])) cD (ga #[1])) aN)) em rfl) aN)) (aE rfl)) aN) ap)
  apply cv
  ·exact bu (bN (bN kv cD f9) (bN (bN kv cD f9) cD (ga #[1])) (ga trivial))
  ·refine⟨_,_,rfl,ps++[⟨b2,m⟩],S',sz++[k],lk++[x],iO d,iO b2,?_,by simp,.snoc hg nA,by simp[hle],?_⟩
   ·show[_,_,_,iO ((S.length:Int)+1-((b2:Int)+1)/2),_,_]=_
    rw[show(S.length:Int)+1-((b2:Int)+1)/2=(S'.length:Int) by omega]
   ·intro p hp'
    rcases aZ.mp hp' with z|z
    ·exact hpm p z
    ·simp at z;subst z;exact hmk
 ·rintro ρ bz ⟨ps,S,sz,lk,o5,o6,rfl,rfl,hg,hle,hpm⟩
  rw[show(p7 ds,some (nd,p7 ds)).fst.length=ds.length by simp[p7]]at hle
  have hSle:=hg.ok.2.2.le
  refine xN (fun n ρ bz=>∃(ps:List Pl) (S sz:List Nat) (lk:List #[3]),ρ=[lO nd,some (.str pool),lO st.length,iO S.length,o5,o6]/\bz=st++[.lst (ps.map Pl.w)]/\Gr ps S sz lk/\ps.length+S.length<=2*ds.length/\(∀p∈ps,ze pool p.m)/\S.length=n) S.length ⟨ps,S,sz,lk,rfl,rfl,hg,by omega,hpm,rfl⟩ ?_ ?_
  ·rintro n ρ bz ⟨ps,S,sz,lk,rfl,rfl,hg,hle,hpm,rfl⟩
   by_cases h1:1<S.length
   ·refine .inr ?_
    have t1:decide ((1:Int)<(S.length:Int))=true:=ba #[0]
    constructor
    ·exact bJ (bN kv cD (jl t1))
    obtain⟨S',k,x,nA,hlen'⟩:=St.ex (n:=ps.length) (b:=3) (S:=S) #[0] #[0]
    have hc:(st++[am.lst (ps.map Pl.w)])[st.length]?=some (.lst (ps.map Pl.w)):=bd
    have hS2:=hg.ok.2.2.le
    obtain⟨p,hpp⟩:∃p,ps[S.length-1]?=some p:=⟨_,ae #[0]⟩
    have ix:bI (.loc st.length) (.int ((S.length:Int)-1)) (st++[am.lst (ps.map Pl.w)])=.ok p.w (st++[am.lst (ps.map Pl.w)]):=by
     rw[show(S.length:Int)-1=((S.length-1:Nat):Int) by omega]
     exact jm (aS hc) (dF (by rw[ag,hpp];rfl))
    have hmk:=hpm p (aw hpp)
    have ap:=xL (y:=(Pl.mk 3 p.m).w) hc (by rw[ak];show _<1000000;omega)
    rw[fD]at ap
    have ap:bW (.loc st.length) [.tup [.int 3,.str p.m]] (st++[am.lst (ps.map Pl.w)])=_:=ap
    apply aB
    ·exact fP (i9 kv (eJ hc) (av (qj (av cD (av (bN (bN kv (bN kv cD (ga trivial)) ix) cD (Fl p _)) aN)) (aE rfl)) aN) ap)
    apply cv
    ·exact bu (bN kv cD (ga trivial))
    ·refine⟨_,_,rfl,S'.length,by omega,ps++[⟨3,p.m⟩],S',sz++[k],lk++[x],?_,by simp,.snoc hg nA,by simp;omega,?_,rfl⟩
     ·show[_,_,_,iO ((S.length:Int)-1),_,_]=_
      rw[show(S.length:Int)-1=(S'.length:Int) by omega]
     ·intro q hq
      rcases aZ.mp hq with z|z
      ·exact hpm q z
      ·simp at z;subst z;exact hmk
   ·refine .inl ?_
    have t1:decide ((1:Int)<(S.length:Int))=false:=bc #[0]
    exact bJ (bN kv cD (jl t1))
  ·rintro n ρ bz ⟨ps,S,sz,lk,rfl,rfl,hg,hle,hpm,rfl⟩ hno
   have hc:(st++[am.lst (ps.map Pl.w)])[st.length]?=some (.lst (ps.map Pl.w)):=bd
   have hS1:S.length<=1:=by
    rcases jJ 1 S.length with h1|h1
    ·have t1:decide ((1:Int)<(S.length:Int))=true:=ba #[0]
     exact(RI hno (bJ (bN kv cD (jl t1)))).elim
    ·exact h1
   apply bB
   ·exact bX kn (kO (aS hc))
   ·exact⟨_,_,rfl,⟨_,rfl⟩,by simp only[undWs,cK];exact yX ps _,ps,S,sz,lk,rfl,hg,hS1,by omega,hpm⟩
theorem RJ{nd:Nat}{ds:List Int}{pool:List Nat}(hd:st[nd]?=some (.lst (p7 ds)))(Xs:ds.length<=200)(hp:pool.length<=50) :
  ∃ps S sz lk,Gr ps S sz lk/\S.length<=1/\ps.length=ds.length/\(∀p∈ps,ze pool p.m)/\(∀x∈lk,x.1≠none->x.2=none)/\DL [.loc nd,.str pool] st=.ok (fE ps) st:=by
 suffices hh:iF (uu fun w bz=>(∃x,bz=st++x)/\undWs st.length [w]=true/\∃ps S sz lk,w=fE ps/\Gr ps S sz lk/\S.length<=1/\ps.length=ds.length/\(∀p∈ps,ze pool p.m)/\∀x∈lk,x.1≠none->x.2=none) (NM ([W.loc nd,.str pool].map some++List.replicate (5-2) none) st) by
  obtain⟨w,⟨ps,S,sz,lk,rfl,h1,h2,h3,h4,h5⟩,e⟩:=uT hh
  exact⟨ps,S,sz,lk,h1,h2,h3,h4,h5,e⟩
 apply aB
 ·(walk_at "evs")
 have gj:∀A:List W,lstOf (st++[am.lst A]) nd=some (p7 ds):=fun A=>aS (aI hd)
 have hen:kg (ai (af 0) aA) [lO nd,some (.str pool),lO st.length,none,none] (st++[am.lst []])=.ok (jv (p7 ds),some (nd,p7 ds)) (st++[am.lst []]):=by
  unfold kg
  rw[show ai (af 0) aA [lO nd,some (.str pool),lO st.length,none,none] (st++[am.lst []])=.ok [.loc nd] (st++[am.lst []])from rfl]
  simp only[R.bind_ok,gj]
 refine du (fun i ρ bz=>∃(ps:List Pl) (S sz:List Nat) (lk:List #[3]) (o3 o4:Option W),ρ=[lO nd,some (.str pool),lO st.length,o3,o4]/\bz=st++[.lst (ps.map Pl.w)]/\Gr ps S sz lk/\ps.length=i/\(if i=0 then S=[]else ∃s,S=[s])/\(∀p∈ps,ze pool p.m)/\∀x∈lk,x.1≠none->x.2=none) hen
  ⟨[],[],[],[],none,none,rfl,rfl,.nil,rfl,rfl,by simp,by simp⟩ (fun i ρ bz h=>?_) ?_ ?_
 ·obtain⟨ps,S,sz,lk,o3,o4,rfl,rfl,_⟩:=h
  exact gj _
 ·rintro i w ρ bz hw ⟨ps,S,sz,lk,o3,o4,rfl,rfl,hg,hle,hS,hpm,hlk⟩
  obtain⟨y,hy,rfl⟩:=lI hw
  unfold p7 at hy
  rw[ag]at hy
  obtain⟨d,hdd,rfl⟩:=aC.mp hy
  have hi:i<ds.length:=(ac.mp hdd).1
  refine⟨_,rfl,?_⟩
  have hc:(st++[am.lst (ps.map Pl.w)])[st.length]?=some (.lst (ps.map Pl.w)):=bd
  obtain⟨b0,hb0,eb0⟩:=iT (q:=d) (n:=2) #[0]
  have eb0:d%2=(b0:Int):=eb0
  obtain⟨b,S',k,x,hb,nA,hS',hx⟩:∃(b:Nat) (S':List Nat) (k:Nat) (x:Option Nat×Option Nat),(if i=0 then 0 else 1)*(1+(b0:Int))=(b:Int)/\St ps.length S b S' k x/\(∃s,S'=[s])/\(x.1≠none->x.2=none):=by
   by_cases h0:i=0
   ·rw[au h0]at hS ⊢
    subst hS
    exact⟨0,_,_,_,by omega,.z,⟨_,rfl⟩,fun _=>rfl⟩
   ·rw[ay h0]at hS ⊢
    obtain⟨s,rfl⟩:=hS
    by_cases hb1:b0=0
    ·exact⟨1,_,_,_,by omega,.l,⟨_,rfl⟩,fun _=>rfl⟩
    ·exact⟨2,_,_,_,by omega,.r,⟨_,rfl⟩,fun h=>absurd rfl h⟩
  have em:=pX pool hp (d/2%16) (st++[am.lst (ps.map Pl.w)])
  have hmk:=JQ hp (d/2%16)
  generalize wF (gz pool (d/2%16))=m at em hmk
  have ap:=xL (y:=(Pl.mk b m).w) hc (by rw[ak];show _<1000000;omega)
  rw[fD]at ap
  have ap:bW (.loc st.length) [.tup [.int b,.str m]] (st++[am.lst (ps.map Pl.w)])=_:=ap
  have hint:∀s:List am,bH Ap (ai (e2 B3 (af 3) (eI 0)) aA) [lO nd,some (.str pool),lO st.length,iO (i:Nat),iO d] s=.ok (.int (if i=0 then 0 else 1)) s:=fun s=>by
   by_cases h0:i=0
   ·subst h0;rfl
   ·rw[ay h0]
    have t1:decide (((i:Nat):Int)>0)=true:=ba #[0]
    exact bX (av (bN kv cD (jl t1)) aN) rfl
  have hbw:∀s:List am,e2 fH (bH Ap (ai (e2 B3 (af 3) (eI 0)) aA)) (e2 fx (eI 1) (e2 jr (af 4) (eI 2))) [lO nd,some (.str pool),lO st.length,iO (i:Nat),iO d] s=.ok (.int (b:Nat)) s:=fun s=>by
   have:=bN (hint s) (bN (cD (w:=.int 1)) (bN (fa:=af 4) kv (cD (w:=.int 2)) (ga (C:=fun _ j=>0<j) (f:=fun i j=>i%j) #[1])) f9) (kN (st:=s) (.inl (by split<;>decide)))
   rw[show((if i=0 then(0:Int)else 1)*(1+d%2))=(b:Int) by rw[eb0];exact hb]at this
   exact this
  apply cv
  ·exact fP (i9 kv (eJ hc) (av (qj (av (hbw _) (av (bY (av kv (av (bN (bN kv cD (ga #[1])) cD (ga #[1])) aN)) em rfl) aN)) (aE rfl)) aN) ap)
  ·refine⟨_,_,rfl,ps++[⟨b,m⟩],S',sz++[k],lk++[x],_,_,rfl,by simp,.snoc hg nA,by simp[hle],by rw[ay #[0]];exact hS',?_,?_⟩
   ·intro p hp'
    rcases aZ.mp hp' with z|z
    ·exact hpm p z
    ·simp at z;subst z;exact hmk
   ·intro y hy
    rcases aZ.mp hy with z|z
    ·exact hlk y z
    ·rw[bv.mp z];exact hx
 ·rintro ρ bz ⟨ps,S,sz,lk,o3,o4,rfl,rfl,hg,hle,hS,hpm,hlk⟩
  rw[show(jv (p7 ds),some (nd,p7 ds)).fst.length=ds.length by rw[ji];simp[p7]]at hle hS
  have hc:(st++[am.lst (ps.map Pl.w)])[st.length]?=some (.lst (ps.map Pl.w)):=bd
  have hS1:S.length<=1:=by
   split at hS
   ·rw[hS];simp
   ·obtain⟨s,rfl⟩:=hS;simp
  apply bB
  ·exact bX kn (kO (aS hc))
  ·exact⟨_,_,rfl,⟨_,rfl⟩,by simp only[undWs,cK];exact yX ps _,ps,S,sz,lk,rfl,hg,hS1,hle,hpm,hlk⟩
theorem Ba(w:W):∀k:Nat,(List.replicate k [w]).flatten=List.replicate k w
 |0=>rfl
 |k+1=>by rw[cH,cZ,Ba w k];rfl
section
variable{ps:List Pl}{sz:List Nat}{lk:List #[3]}{M:Mc}{ch:List Nat}
theorem Me(h:Gr ps S sz lk)(hl:ps.length<=900)(hM:uV M n)(hn:1<=n)(hN:N.length=ps.length)(Bo:ch.length=ps.length)(RR:∀i p,ps[i]?=some p->(N.getD i []).getD (ch.getD i 0) 0=fA p.m M.nm)(st:List am) :
  ∃rs x,rs.length=ps.length/\(∀r∈rs,r<n)/\(st++x)[st.length+1]?=some (.lst (nW rs))/\fin (Tm M.tb) (gM M) (ps.map Pl.b) N ch []=gM M ((sk sz rs ps.length).headD 0)/\DG [M.w,fE ps] st=.ok (.loc (st.length+1)) (st++x):=by
 obtain⟨l1,l2,_⟩:=h.ok
 suffices hh:iF (uu fun w bz=>∃j x,w=.loc (st.length+j)/\bz=st++x/\j=1/\∃rs,rs.length=ps.length/\(∀r∈rs,r<n)/\(st++x)[st.length+1]?=some (.lst (nW rs))/\fin (Tm M.tb) (gM M) (ps.map Pl.b) N ch []=gM M ((sk sz rs ps.length).headD 0)) (NL ([M.w,fE ps].map some++List.replicate (8-2) none) st) by
  obtain⟨j,x,⟨rfl,rs,h1,h2,h3,h4⟩,e⟩:=ki hh
  exact⟨rs,x,h1,h2,h3,h4,e⟩
 generalize hff:fin (Tm M.tb) (gM M) (ps.map Pl.b) N ch []=ff
 apply aB
 ·exact bu (jk aN (aE rfl))
 apply aB
 ·exact bu (jk aN (aE rfl))
 rw[show(st++[am.lst []]).length=st.length+1 by simp]
 refine du (fun i ρ s=>∃(rs:List Nat) (o4 o5 o6 o7:Option W),rs.length=i/\ρ=[some M.w,some (fE ps),lO st.length,lO (st.length+1),o4,o5,o6,o7]/\s=st++[.lst (nW (sk sz rs i).reverse),.lst (nW rs)]/\(∀r∈rs,r<n)/\fin (Tm M.tb) (gM M) ((ps.map Pl.b).drop i) (N.drop i) (ch.drop i) (sk sz rs i)=ff)
  (k:=(ps.map Pl.w,none)) (st1:=(st++[am.lst []])++[am.lst []]) (mv kv) ⟨[],none,none,none,none,rfl,rfl,by rw[aY,sk];rfl,by simp,by rw[dD,dD,dD,sk];exact hff⟩ (fun _ _ _ _=>trivial) ?_ ?_
 ·rintro i w ρ s hw ⟨rs,o4,o5,o6,o7,rfl,rfl,rfl,uF,hfin⟩
  rw[ag]at hw
  obtain⟨p,hp,rfl⟩:=aC.mp hw
  have hi:rs.length<ps.length:=(ac.mp hp).1
  obtain⟨x,hx⟩:∃x,lk[rs.length]?=some x:=⟨_,ae #[0]⟩
  have hk:sz[rs.length]?=some (sz.getD rs.length 0):=bb 0 #[0]
  have hk1:=(h.sz1 hi).1
  obtain⟨u1,u2⟩:=h.lk hx
  have bl:∀o,(∀k,o=some k->k<rs.length)->kL rs o<n:=fun o ho=>by
   cases o with
   |none=>show 0<n;omega
   |some k=>exact uF _ (aw (bb 0 (ho k rfl)))
  have b1:=bl x.1 u1
  have b2:=bl x.2 u2
  refine⟨_,rfl,?_⟩
  generalize hkk:sz.getD rs.length 0=k at hk hk1
  have tl:=Cy (sz:=sz) rs (rs.length+1-k)
  have htb:M.tb[fA p.m M.nm]?=some (M.tb.getD (fA p.m M.nm) []):=bb [] (by rw[hM.tb];exact r_ _ _)
  obtain⟨t1,t2⟩:=hM.t _ (aw htb)
  have g1:(M.tb.getD (fA p.m M.nm) [])[kL rs x.1]?=some ((M.tb.getD (fA p.m M.nm) []).getD (kL rs x.1) []):=bb [] #[0]
  obtain⟨r1,r2⟩:=t2 _ (aw g1)
  have g2:((M.tb.getD (fA p.m M.nm) []).getD (kL rs x.1) [])[kL rs x.2]?=some (Tm M.tb (fA p.m M.nm) (kL rs x.1) (kL rs x.2)):=bb 0 #[0]
  have hrow:Tm M.tb (fA p.m M.nm) (kL rs x.1) (kL rs x.2)<n:=r2 _ (aw g2)
  generalize u4:Tm M.tb (fA p.m M.nm) (kL rs x.1) (kL rs x.2)=ro at g2 hrow
  have ix:∀s:List am,bI (.tup (M.tb.map m6)) (.int (fA p.m M.nm:Nat)) s=.ok (m6 (M.tb.getD (fA p.m M.nm) [])) s:=fun s=>k_ (dF (by rw[ag,htb];rfl))
  have isl:∀A B:List W,pj (st++[.lst A,.lst B]) (.loc st.length)=true:=fun A B=>eJ (by rw[gI];rfl)
  have put:iF (Dp fun ρ s=>∃(rs':List Nat) (o4 o5 o6 o7:Option W),rs'.length=rs.length+1/\ρ=[some M.w,some (fE ps),lO st.length,lO (st.length+1),o4,o5,o6,o7]/\s=st++[.lst (nW (sk sz rs' (rs.length+1)).reverse),.lst (nW rs')]/\(∀r∈rs',r<n)/\fin (Tm M.tb) (gM M) ((ps.map Pl.b).drop (rs.length+1)) (N.drop (rs.length+1)) (ch.drop (rs.length+1)) (sk sz rs' (rs.length+1))=ff)
    (aX (eT (n9 bW (af 2) (ai (e2 bI (e2 bI (e2 bI (e2 bI (af 0) (eI 2)) (cz 2 rX (ai (e2 bI (af 0) (eI 0)) (ai (af 5) aA)))) (af 6)) (af 7)) aA))) (eT (n9 bW (af 3) (ai (e2 bI (af 2) (yq (eI 1))) aA)))
     [some M.w,some (fE ps),lO st.length,lO (st.length+1),iO p.b,some (.str p.m),iO (kL rs x.1:Nat),iO (kL rs x.2:Nat)] (st++[.lst (nW (sk sz rs (rs.length+1-k)).reverse),.lst (nW rs)])):=by
   generalize hB:sk sz rs (rs.length+1-k)=B at tl
   have hc:(st++[am.lst (nW B.reverse),.lst (nW rs)])[st.length]?=some (.lst (nW B.reverse)):=by rw[gI];rfl
   have ap1:=ja (y:=.int (ro:Nat)) hc (by unfold nW;rw[ak,iL];omega)
   rw[fD,show nW B.reverse++[W.int (ro:Nat)]=nW (ro::B).reverse by unfold nW;simp]at ap1
   have ap1:bW (.loc st.length) [.int (ro:Nat)] (st++[am.lst (nW B.reverse),.lst (nW rs)])=.ok .non (st++[am.lst (nW (ro::B).reverse),.lst (nW rs)]):=ap1
   apply aB
   ·exact fP (i9 kv (isl _ _) (av (bN (bN (bN kx (bY (av kx kn) (vY M.nm p.m _) rfl) (ix _)) kv (vT g1)) kv (tF g2)) aN) ap1)
   have hc2:(st++[am.lst (nW (ro::B).reverse),.lst (nW rs)])[st.length]?=some (.lst (nW (ro::B).reverse)):=by rw[gI];rfl
   have hc3:(st++[am.lst (nW (ro::B).reverse),.lst (nW rs)])[st.length+1]?=some (.lst (nW rs)):=by rw[jw];rfl
   have il:bI (.loc st.length) (.int (-1)) (st++[am.lst (nW (ro::B).reverse),.lst (nW rs)])=.ok (.int (ro:Nat)) (st++[am.lst (nW (ro::B).reverse),.lst (nW rs)]):=jm (aS hc2) (yE (q:=0) (by unfold nW;rw[<- List.map_reverse,List.reverse_reverse];rfl))
   apply cv
   ·exact fP (i9 kv (eJ hc3) (av (bN kv (xJ cD) il) aN) (ja hc3 (by unfold nW;rw[ak];omega)))
   ·refine⟨_,_,rfl,rs++[ro],_,_,_,_,by simp,rfl,?_,fun r hr=>?_,?_⟩
    ·rw[mV,y8 h ro hk hk1,hB,show nW rs++[W.int (ro:Nat)]=nW (rs++[ro]) by unfold nW;simp];rfl
    ·rcases aZ.mp hr with z|z
     ·exact uF r z
     ·rw[bv.mp z];exact hrow
    ·have hb:(ps.map Pl.b)[rs.length]?=some p.b:=by rw[ag,hp];rfl
     have hNg:N[rs.length]?=some (N.getD rs.length []):=bb [] #[0]
     have hcg:ch[rs.length]?=some (ch.getD rs.length 0):=bb 0 #[0]
     obtain⟨a1,a2⟩:=ac.mp hb
     obtain⟨m1,m2⟩:=ac.mp hNg
     obtain⟨c1,c2⟩:=ac.mp hcg
     rw[bj a1,bj m1,bj c1,a2,m2,c2]at hfin
     have hfin:fin (Tm M.tb) (gM M) ((ps.map Pl.b).drop (rs.length+1)) (N.drop (rs.length+1)) (ch.drop (rs.length+1)) (wV (Tm M.tb) p.b ((N.getD rs.length []).getD (ch.getD rs.length 0) 0) (sk sz rs rs.length))=ff:=hfin
     rw[RR rs.length p hp,D9 h rs hp hx hk,u4]at hfin
     rw[y8 h ro hk hk1];exact hfin
  have pop:∀(q:Nat) (B:List Nat) (A:List W),rE (.loc st.length) [] (st++[.lst (nW (q::B).reverse),.lst A])=.ok (.int (q:Nat)) (st++[.lst (nW B.reverse),.lst A]):=fun q B A=>by
   have hc:(st++[am.lst (nW (q::B).reverse),.lst A])[st.length]?=some (.lst (nW B.reverse++[.int (q:Nat)])):=by rw[gI];unfold nW;simp
   rw[Hv hc,fD];rfl
  have T1:∀(k:Bool) (ρ:cy) (s:List am),decide ((p.b:Int)≥2)=k->ρ[4]?=some (iO p.b)->fG (e2 MD (af 4) (eI 2)) ρ s=.ok k s:=fun k ρ s e h4=>bJ (bN (dN h4) cD (jl e))
  have T2:∀(k:Bool) (ρ:cy) (s:List am),(((p.b:Int)%2)==1)=k->ρ[4]?=some (iO p.b)->fG (e2 qW (e2 jr (af 4) (eI 2)) (eI 1)) ρ s=.ok k s:=fun k ρ s e h4=>bJ (bN (bN (dN h4) cD (ga #[1])) cD (jy e))
  apply aB
  ·exact bu cD
  apply aB
  ·exact bu cD
  rcases Rz h rs hp hx hk with⟨hb,hxx,hs⟩|⟨hb,⟨l,hxx⟩,hs⟩|⟨hb,⟨r,hxx⟩,hs⟩|⟨hb,_,_,hs⟩
  ·rw[hs]
   apply cI
   ·exact T1 _ _ _ (by rw[hb];rfl) rfl
   apply df
   apply cI
   ·exact T2 _ _ _ (by rw[hb];rfl) rfl
   apply df
   rw[hxx]at put;exact put
  ·rw[hs]
   apply cI
   ·exact T1 _ _ _ (by rw[hb];rfl) rfl
   apply df
   apply aB
   ·exact jx (T2 _ _ _ (by rw[hb];rfl) rfl) (bu (i9 kv (isl _ _) aN (pop _ _ _)))
   rw[hxx]at put ⊢;exact put
  ·rw[hs]
   apply aB
   ·exact jx (T1 _ _ _ (by rw[hb];rfl) rfl) (bu (i9 kv (isl _ _) aN (pop _ _ _)))
   apply cI
   ·exact T2 _ _ _ (by rw[hb];rfl) rfl
   apply df
   rw[hxx]at put ⊢;exact put
  ·rw[hs]
   apply aB
   ·exact jx (T1 _ _ _ (by rw[hb];rfl) rfl) (bu (i9 kv (isl _ _) aN (pop _ _ _)))
   apply aB
   ·exact jx (T2 _ _ _ (by rw[hb];rfl) rfl) (bu (i9 kv (isl _ _) aN (pop _ _ _)))
   exact put
 ·rintro ρ s ⟨rs,o4,o5,o6,o7,hrl,rfl,rfl,uF,hfin⟩
  rw[show(ps.map Pl.w,(none:Option (Nat×List W))).fst.length=ps.length by simp]at hrl hfin ⊢
  rw[dU (l:=ps.map Pl.b) #[9]]at hfin
  have e:∀N ch σ,fin (Tm M.tb) (gM M) [] N ch σ=gM M (σ.headD 0):=fun N ch σ=>by unfold fin;rfl
  rw[e]at hfin
  apply bB
  ·exact dN rfl
  ·exact⟨_,_,rfl,1,_,rfl,rfl,rfl,rs,hrl,uF,by rw[jw];rfl,hfin.symm⟩
theorem JR(hM:uV M n){k:Nat}(hk:k<n)(st:List am):bI (.tup (M.gd.map W.bl)) (.int k) st=.ok (.bl (M.gd.getD k false)) st:=
 k_ (dF (by rw[ag,bb false (by rw[hM.gd];exact hk)];rfl))
theorem JS(h:Gr ps S sz lk)(hl:ps.length<=900)(hM:uV M n)(hn:1<=n)(hN:N.length=ps.length)(Bo:ch.length=ps.length)(RR:∀i p,ps[i]?=some p->(N.getD i []).getD (ch.getD i 0) 0=fA p.m M.nm)(st:List am) :
  ∃b:Bool,(if b then 1 else 0)=fin (Tm M.tb) (gM M) (ps.map Pl.b) N ch []/\DH [M.w,fE ps] st=.ok (.bl b) st:=by
 obtain⟨l1,l2,_⟩:=h.ok
 have ll:=mM ps st
 by_cases z:0<ps.length
 ·obtain⟨rs,x,h1,h2,h3,h4,e⟩:=Me h hl hM hn hN Bo RR st
  have hk:sz[ps.length-1]?=some (sz.getD (ps.length-1) 0):=bb 0 #[0]
  have e1:=ig (rs:=rs) hk (h.sz1 (show ps.length-1<ps.length by omega)).1
  rw[show ps.length-1+1=ps.length by omega]at e1
  rw[e1]at h4
  refine⟨M.gd.getD (rs.getD (ps.length-1) 0) false,h4.symm,?_⟩
  refine fz (N:=2) (ws:=[M.w,fE ps]) (body:=Jg) ?_ rfl
  refine cI (bJ (bN (bX kn ll) cD (jy (by rw[bR];omega)))) ?_
  refine df ?_
  have hg:rs[ps.length-1]?=some (rs.getD (ps.length-1) 0):=bb 0 #[0]
  refine bB (bN kx (bN (bY (av kv kn) e rfl) (xJ cD) (jm (aS h3) (yE (q:=0) (x:=.int (rs.getD (ps.length-1) 0:Nat)) ?_))) (JR hM (h2 _ (aw hg)) _)) ⟨_,_,rfl,rfl,_,rfl⟩
  unfold nW
  rw[ei (by rw[ak];omega),ak,ag,h1,show ps.length-1-0=ps.length-1 by omega,hg];rfl
 ·have hps:ps=[]:=gk.mp #[0]
  refine⟨M.gd.getD 0 false,?_,?_⟩
  ·subst hps;unfold fin;rfl
  ·refine fz (N:=2) (ws:=[M.w,fE ps]) (body:=Jg) ?_ rfl
   refine lK (bJ (bN (bX kn ll) cD (jy (by rw[dz];omega)))) ?_
   exact ky (bN kx cD (JR (k:=0) hM hn st)) ⟨_,_,rfl,rfl,[],by simp⟩
end
section
variable{ps:List Pl}{sz:List Nat}{lk:List #[3]}
theorem JT{K:Nat}(h:Gr ps S sz lk)(hN:N.length=ps.length)(hK:∀x∈N,x.length=K)(hT:∀t a b,T t a b<n)(hn:1<=n):∀(r k:Nat),sz[r]?=some k->uD n ((js n T N lk []).getD r (ez n))=K^k:=by
 obtain⟨l1,l2,_⟩:=h.ok
 intro r
 induction r using Nat.strongRecOn with
 |_ r ih=>
  intro k hk
  have hr:r<ps.length:=by have:=(ac.mp hk).1;omega
  obtain⟨p,L,R,q1,q2,q3,q4,q5,q6,q7⟩:=h.pf hr
  rw[hk]at q2
  have hkk:k=1+L+R:=aG q2
  have dG:(N.getD r []).length=K:=hK _ (aw (bb [] #[0]))
  rw[Cw #[0] q4 (h.lk q4),Ee hT,dG]
  have eL:uD n (mQ n (js n T N lk []) (if 0<L then some (r-1-R)else none))=K^L:=by
   by_cases hL:0<L
   ·rw[au hL];exact ih _ #[0] L (q7 hL)
   ·rw[ay hL,show L=0 by omega];exact v7 hn
  have eR:uD n (mQ n (js n T N lk []) (if 0<R then some (r-1)else none))=K^R:=by
   by_cases hR:0<R
   ·rw[au hR];exact ih _ #[0] R (q6 hR)
   ·rw[ay hR,show R=0 by omega];exact v7 hn
  rw[eL,eR,hkk,<- lG,<- Nat.pow_add]
  congr 1;omega
theorem Mf(o:Option Nat):(mQ n (js n T N lk []) o).length=n:=by
 cases o with
 |none=>exact iJ
 |some k=>
  show((js n T N lk []).getD k (ez n)).length=n
  rcases jB (js n T N lk []) k (ez n)with e|e
  ·rw[e];exact iJ
  ·exact pW n _ _ _ _ #[9] _ e
theorem Mg{K:Nat}(h:Gr ps S sz lk)(hN:N.length=ps.length)(hK:∀x∈N,x.length=K)(Xx:1<=K)(hT:∀t a b,T t a b<n)(hn:1<=n)(hp:K^ps.length<2^64):HB n (js n T N lk []) lk:=by
 obtain⟨l1,l2,_⟩:=h.ok
 intro i u hu _ a
 have hi:i<ps.length:=by have:=(ac.mp hu).1;omega
 have h1:=RG (a:=a) (Mf (n:=n) (T:=T) (N:=N) (lk:=lk) u.2)
 have h2:uD n (mQ n (js n T N lk []) u.2)<=K^ps.length:=by
  cases e:u.2 with
  |none=>
   show uD n (ez n)<=_
   rw[v7 hn];exact Nat.pow_pos Xx
  |some k=>
   have hk:=(h.lk hu).2 k e
   have hs:sz[k]?=some (sz.getD k 0):=bb 0 #[0]
   have:=JT h hN hK hT hn k _ hs
   show uD n ((js n T N lk []).getD k (ez n))<=_
   rw[this]
   exact eP Xx (by have:=(h.sz1 (show k<ps.length by omega)).2;omega)
 omega
theorem RL(hr:∀x∈lk,x.1≠none->x.2=none)(V:List (List Nat)):HB n V lk:=by
 intro i u hu h1 a
 rw[hr u (aw hu) h1]
 show(ez n).getD a 0<2^64
 by_cases ha:a<n
 ·rw[DT ha];split<;>decide
 ·rw[yV 0 (by rw[iJ];omega)];decide
end
theorem zg{l:List α}:oI l none (some (q:Int))=l.take q:=by
 unfold oI
 rw[HT.sIx_none,HT.sIx_nat]
 rcases Nat.le_total q l.length with h|h
 ·rw[oF h];simp
 ·rw[Nat.min_eq_right h,bS h];simp
theorem JU(wH nm m:List Nat):(lU wH nm m).length=2^nm.length:=by unfold lU;simp
noncomputable def JV:List W:=[.int 32,.int 20,.int 12,.int 8,.int 6]
noncomputable def most(c:Nat):Nat:=[32,20,12,8,6].getD c 0
theorem Mh(h:c<=4):JV[c]?=some (.int (most c:Nat))/\most c<=40/\c*(2*most c)<64:=by
 obtain rfl|rfl|rfl|rfl|rfl:c=0\/c=1\/c=2\/c=3\/c=4:=by omega
 all_goals exact⟨rfl,by decide,by decide⟩
section
variable{ps:List Pl}{sz:List Nat}{lk:List #[3]}
theorem Fx(h:Gr ps S sz lk)(hl:ps.length<=900)(st:List am):∃c,DE [fE ps] st=.ok (.loc (st.length+1)) (st++[c,.lst (lk.map m7)]):=by
 obtain⟨l1,l2,_⟩:=h.ok
 suffices hh:iF (uu fun w bz=>∃j x,w=.loc (st.length+j)/\bz=st++x/\j=1/\∃c,x=[c,.lst (lk.map m7)]) (NI ([fE ps].map some++List.replicate (6-1) none) st) by
  obtain⟨j,x,⟨rfl,c,rfl⟩,e⟩:=ki hh
  exact⟨c,e⟩
 apply aB
 ·exact bu (jk aN (aE rfl))
 apply aB
 ·exact bu (jk aN (aE rfl))
 rw[show(st++[am.lst []]).length=st.length+1 by simp]
 have hR:∀j,j<ps.length->#[12].getD j 0=j:=fun j hj=>by rw[ao,aF hj];rfl
 generalize hRR:List.range ps.length=R at hR
 refine du (fun i ρ s=>∃(o3 o4 o5:Option W),ρ=[some (fE ps),lO st.length,lO (st.length+1),o3,o4,o5]/\s=st++[.lst (nW (sk sz R i).reverse),.lst ((lk.take i).map m7)])
  (gi (q:=(ps.length:Int)) (st1:=(st++[am.lst []])++[am.lst []]) (av (bX kn (mM ps _)) aN) #[0]) ⟨none,none,none,rfl,by rw[aY,sk];rfl⟩ (fun _ _ _ _=>trivial) ?_ ?_
 ·rintro i w ρ s hw ⟨o3,o4,o5,rfl,rfl⟩
  obtain⟨hi,rfl⟩:=gR hw
  rw[aJ]at hi
  refine⟨_,rfl,?_⟩
  rw[jO]
  obtain⟨p,hp⟩:∃p,ps[i]?=some p:=⟨_,ae hi⟩
  obtain⟨x,hx⟩:∃x,lk[i]?=some x:=⟨_,ae #[0]⟩
  have hk:sz[i]?=some (sz.getD i 0):=bb 0 #[0]
  have hk1:=(h.sz1 hi).1
  obtain⟨u1,u2⟩:=h.lk hx
  generalize hkk:sz.getD i 0=k at hk hk1
  have tl:=Cy (sz:=sz) R (i+1-k)
  have bl:∀o:Option Nat,(∀q,o=some q->q<i)->o≠none->oW o=.int (kL R o:Nat):=fun o ho hn=>by
   cases o with
   |none=>exact absurd rfl hn
   |some q=>show W.int (q:Nat)=.int (R.getD q 0:Nat);rw[hR q (by have:=ho q rfl;omega)]
  have isl:∀A B:List W,pj (st++[.lst A,.lst B]) (.loc st.length)=true:=fun A B=>eJ (by rw[gI];rfl)
  have pop:∀(q:Nat) (B:List Nat) (A:List W),rE (.loc st.length) [] (st++[.lst (nW (q::B).reverse),.lst A])=.ok (.int (q:Nat)) (st++[.lst (nW B.reverse),.lst A]):=fun q B A=>by
   have hc:(st++[am.lst (nW (q::B).reverse),.lst A])[st.length]?=some (.lst (nW B.reverse++[.int (q:Nat)])):=by rw[gI];unfold nW;simp
   rw[Hv hc,fD];rfl
  have put:iF (Dp fun ρ s=>∃(o3 o4 o5:Option W),ρ=[some (fE ps),lO st.length,lO (st.length+1),o3,o4,o5]/\s=st++[.lst (nW (sk sz R (i+1)).reverse),.lst ((lk.take (i+1)).map m7)])
    (aX (eT (n9 bW (af 2) (ai (o_ (ai (af 4) (ai (af 5) aA))) aA))) (eT (n9 bW (af 1) (ai (af 3) aA)))
     [some (fE ps),lO st.length,lO (st.length+1),iO (i:Nat),some (oW x.1),some (oW x.2)] (st++[.lst (nW (sk sz R (i+1-k)).reverse),.lst ((lk.take i).map m7)])):=by
   generalize hB:sk sz R (i+1-k)=B at tl
   have hc3:(st++[am.lst (nW B.reverse),.lst ((lk.take i).map m7)])[st.length+1]?=some (.lst ((lk.take i).map m7)):=by rw[jw];rfl
   have ap1:=ja (y:=m7 x) hc3 (by rw[ak,be];omega)
   rw[mV,show(lk.take i).map m7++[m7 x]=(lk.take (i+1)).map m7 by rw[da hx,bG];rfl]at ap1
   have ap1:bW (.loc (st.length+1)) [.tup [oW x.1,oW x.2]] (st++[am.lst (nW B.reverse),.lst ((lk.take i).map m7)])=.ok .non (st++[am.lst (nW B.reverse),.lst ((lk.take (i+1)).map m7)]):=ap1
   apply aB
   ·exact fP (i9 kv (eJ hc3) (av (qj (av kv kn) (aE rfl)) aN) ap1)
   have hc:(st++[am.lst (nW B.reverse),.lst ((lk.take (i+1)).map m7)])[st.length]?=some (.lst (nW B.reverse)):=by rw[gI];rfl
   have ap2:=ja (y:=.int (i:Nat)) hc (by unfold nW;rw[ak,iL];omega)
   rw[fD,show nW B.reverse++[W.int (i:Nat)]=nW (i::B).reverse by unfold nW;simp]at ap2
   apply cv
   ·exact fP (i9 kv (eJ hc) kn ap2)
   ·refine⟨_,_,rfl,_,_,_,rfl,?_⟩
    rw[ig hk hk1,hR i hi,hB];rfl
  have it:∀s:List am,bI (fE ps) (.int (i:Nat)) s=.ok p.w s:=fun s=>AZ hp s
  have T1:∀(b:Bool) (ρ:cy) (s:List am),decide ((p.b:Int)≥2)=b->ρ[0]?=some (some (fE ps))->ρ[3]?=some (iO (i:Nat))->fG (e2 MD (e2 bI (e2 bI (af 0) (af 3)) (eI 0)) (eI 2)) ρ s=.ok b s:=fun b ρ s e h0 h3=>bJ (bN (bN (bN (dN h0) (dN h3) (it s)) cD ox) cD (jl e))
  have T2:∀(b:Bool) (ρ:cy) (s:List am),(((p.b:Int)%2)==1)=b->ρ[0]?=some (some (fE ps))->ρ[3]?=some (iO (i:Nat))->fG (e2 qW (e2 jr (e2 bI (e2 bI (af 0) (af 3)) (eI 0)) (eI 2)) (eI 1)) ρ s=.ok b s:=fun b ρ s e h0 h3=>bJ (bN (bN (bN (bN (dN h0) (dN h3) (it s)) cD ox) cD (ga #[1])) cD (jy e))
  apply aB
  ·exact bu cD
  apply aB
  ·exact bu cD
  rcases Rz h R hp hx hk with⟨hb,hxx,hs⟩|⟨hb,⟨l,hxx⟩,hs⟩|⟨hb,⟨r,hxx⟩,hs⟩|⟨hb,n1,n2,hs⟩
  ·rw[hs]
   apply cI
   ·exact T1 _ _ _ (by rw[hb];rfl) rfl rfl
   apply df
   apply cI
   ·exact T2 _ _ _ (by rw[hb];rfl) rfl rfl
   apply df
   rw[hxx]at put;exact put
  ·rw[hs]
   apply cI
   ·exact T1 _ _ _ (by rw[hb];rfl) rfl rfl
   apply df
   apply aB
   ·exact jx (T2 _ _ _ (by rw[hb];rfl) rfl rfl) (bu (i9 kv (isl _ _) aN (pop _ _ _)))
   rw[bl x.1 u1 (by rw[hxx];exact fun e=>(by cases e))]at put
   rw[hxx]at put ⊢;exact put
  ·rw[hs]
   apply aB
   ·exact jx (T1 _ _ _ (by rw[hb];rfl) rfl rfl) (bu (i9 kv (isl _ _) aN (pop _ _ _)))
   apply cI
   ·exact T2 _ _ _ (by rw[hb];rfl) rfl rfl
   apply df
   rw[bl x.2 u2 (by rw[hxx];exact fun e=>(by cases e))]at put
   rw[hxx]at put ⊢;exact put
  ·rw[hs]
   apply aB
   ·exact jx (T1 _ _ _ (by rw[hb];rfl) rfl rfl) (bu (i9 kv (isl _ _) aN (pop _ _ _)))
   apply aB
   ·exact jx (T2 _ _ _ (by rw[hb];rfl) rfl rfl) (bu (i9 kv (isl _ _) aN (pop _ _ _)))
   rw[bl x.2 u2 n2,bl x.1 u1 n1]at put
   exact put
 ·rintro ρ s ⟨o3,o4,o5,rfl,rfl⟩
  rw[show(eM 0 (ps.length:Int).toNat,(none:Option (Nat×List W))).fst.length=ps.length by rw[dy];simp]
  apply bB
  ·exact dN rfl
  ·exact⟨_,_,rfl,1,_,rfl,rfl,rfl,_,by rw[bS #[0]]⟩
end
theorem Bb(m nm:List Nat):∀d,d<=nm.length->fA m (nm.take (nm.length-d))=fA m nm/2^d
 |0,_=>by rw[nY,cu];simp
 |d+1,h=>by
  have ih:=Bb m nm d #[0]
  have hc:nm[nm.length-(d+1)]?=some (nm[nm.length-(d+1)]'#[0]):=ae #[0]
  rw[show nm.length-d=nm.length-(d+1)+1 by omega,da hc,m8]at ih
  rw[lG,<- jP,<- ih]
  split<;>omega
theorem zh{m:List Nat}{k d:Nat}(h:nm[k]?=some d):wW nm.length (fA m nm) k=decide (d∈m):=by
 have hk:=(ac.mp h).1
 unfold wW
 have e:=Bb m nm (nm.length-1-k) #[0]
 rw[<- e,show nm.length-(nm.length-1-k)=k+1 by omega,da h,m8]
 by_cases hd:d∈m
 ·rw[au hd,ba hd,ba #[0]]
 ·rw[ay hd,bc hd,bc #[0]]
theorem Bc(w k:Nat):uh (w:Int) k=decide (w/2^k%2=1):=by
 unfold uh
 rw[show((w:Int)/2^k)=((w/2^k:Nat):Int) by simp,DW,iY,dz,bf]
 omega
theorem JW{w d:Nat}:d∈gz nm (w:Int)↔∃k,nm[k]?=some d/\w/2^k%2=1:=by
 unfold gz
 constructor
 ·intro h
  obtain⟨k,hk,rfl⟩:=aO.mp h
  obtain⟨h1,h2⟩:=bE.mp hk
  rw[Bc]at h2
  exact⟨k,bb 0 (aU.mp h1),g7 h2⟩
 ·rintro⟨k,hk,h2⟩
  obtain⟨a,b⟩:=ac.mp hk
  exact aO.mpr ⟨k,bE.mpr ⟨aU.mpr a,by rw[Bc];exact ba h2⟩,by rw[ao,hk];rfl⟩
theorem JX{d:Nat}:d∈pJ nm c↔∃k,nm[k]?=some d/\wW nm.length c k=true:=by
 unfold pJ
 constructor
 ·intro h
  obtain⟨k,hk,rfl⟩:=aO.mp h
  obtain⟨h1,h2⟩:=bE.mp hk
  exact⟨k,bb 0 (aU.mp h1),h2⟩
 ·rintro⟨k,hk,h2⟩
  obtain⟨a,b⟩:=ac.mp hk
  exact aO.mpr ⟨k,bE.mpr ⟨aU.mpr a,h2⟩,by rw[ao,hk];rfl⟩
def tw(M:Mc)(nm m:List Nat)(w:Nat):Nat:=fA (bare nm m++wF (gz nm (w:Int))) M.nm
theorem El(M:Mc)(nm m:List Nat)(t:Nat):(∃w,w<2^nm.length/\tw M nm m w=t)↔t∈lU M.nm nm m:=by
 have cg:∀{w c:Nat},(∀d,d∈gz nm (w:Int)↔d∈pJ nm c)->tw M nm m w=fA (bare nm m) M.nm+fA (pJ nm c) M.nm:=fun{w c} h=>by
  rw[wc _ fun d h1 h2=>(m9.mp h1).2 (uZ h2)]
  exact vX fun d _=>by rw[aZ,aZ,(vS _).mem_iff,h]
 constructor
 ·rintro⟨w,hw,rfl⟩
  refine aO.mpr ⟨fA (gz nm (w:Int)) nm,aU.mpr (r_ _ _),(cg fun d=>?_).symm⟩
  rw[JX]
  constructor
  ·intro h
   obtain⟨k,hk,_⟩:=JW.mp h
   exact⟨k,hk,by rw[zh hk];exact ba h⟩
  ·rintro⟨k,hk,hb⟩
   rw[zh hk]at hb;exact g7 hb
 ·intro h
  obtain⟨c,hc,rfl⟩:=aO.mp h
  have hl:nm.reverse.length=nm.length:=iL
  refine⟨fA (pJ nm c) nm.reverse,by rw[<- hl];exact r_ _ _,cg fun d=>?_⟩
  have bt:∀{k d:Nat},nm[k]?=some d->(fA (pJ nm c) nm.reverse/2^k%2=1↔d∈pJ nm c):=fun{k d} hk=>by
   have hkl:=(ac.mp hk).1
   have hr:nm.reverse[nm.length-1-k]?=some d:=by rw[ei #[0],show nm.length-1-(nm.length-1-k)=k by omega];exact hk
   have:=zh (m:=pJ nm c) hr
   unfold wW at this
   rw[hl,show nm.length-1-(nm.length-1-k)=k by omega]at this
   rw[<- bf (p:=fA (pJ nm c) nm.reverse/2^k%2=1),this,bf]
  rw[JW]
  constructor
  ·rintro⟨k,hk,hb⟩
   exact(bt hk).mp hb
  ·intro hd
   obtain⟨k,hk,_⟩:=JX.mp hd
   exact⟨k,hk,(bt hk).mpr hd⟩
theorem wj{f:FG}{el:FE}{ck:Option (Nat×List W)}{ρ0:cy}(Y:Nat->W):∀(ws fZ:List W) (k:Nat) (s:List am),(∀x,hG (s++x) ck)->(∀i w,ws[i]?=some w->∀x,∃ρ' y,f w ρ0=some ρ'/\el ρ' (s++x)=.ok (Y (k+i)) (s++x++y)) ->
  ∃y,jS f g8 el ck ρ0 ws fZ s=.ok (fZ++(List.range ws.length).map fun i=>Y (k+i)) (s++y)
 |[],fZ,k,s,hc,_=>⟨[],by
  have:=hc [];rw[bC]at this
  unfold jS;rw[au this];simp⟩
 |w::ws,fZ,k,s,hc,h=>by
  obtain⟨ρ',c,e1,e3⟩:=h 0 w rfl []
  rw[bC]at e3
  have hc0:=hc []
  rw[bC]at hc0
  obtain⟨y,l3⟩:=wj Y ws (fZ++[Y k]) (k+1) (s++c) (fun x=>by rw[aY];exact hc _) fun i v hv x=>by
   obtain⟨ρ',c',a1,a3⟩:=h (i+1) v (by simpa using hv) (c++x)
   rw[<- aY]at a3
   exact⟨ρ',c',a1,by rw[show k+1+i=k+(i+1) by omega];exact a3⟩
  refine⟨c++y,?_⟩
  unfold jS
  rw[au hc0,e1]
  simp only[show g8 ρ' s=.ok true s from rfl,e3]
  rw[iu,l3,a_,dv]
  simp[dS,qA,nR 1]
theorem Mi{f:FG}{cap:List (Option Nat)}(Y:Nat->W)(h:fi ρ st=.ok (ws,ck) s1)(hl:ws.length<=100000)(hc:∀x,hG (s1++x) ck)
  (hs:∀i w,ws[i]?=some w->∀x,∃ρ' y,f w (oJ cap ρ)=some ρ'/\el ρ' (s1++x)=.ok (Y i) (s1++x++y)) :
  ∃y,cV cap fi f g8 el ρ st=.ok (.loc (s1++y).length) (s1++y++[.lst ((List.range ws.length).map Y)]):=by
 obtain⟨y,l3⟩:=wj (f:=f) (el:=el) (ck:=ck) (ρ0:=oJ cap ρ) Y ws [] 0 s1 hc fun i w hw x=>by
  obtain⟨ρ',c,a1,a3⟩:=hs i w hw x
  exact⟨ρ',c,a1,by rw[fB];exact a3⟩
 refine⟨y,?_⟩
 unfold cV
 rw[h]
 simp only[R.bind_ok]
 rw[au (show ws.length<=1000000 by omega),l3]
 simp only[R.bind_ok,fS,kZ]
 rw[au (by rw[ak,cb];show ws.length<=1000000;omega)]
 simp
section
variable{ps:List Pl}{sz:List Nat}{lk:List #[3]}{M:Mc}
def zi(M:Mc)(n:Nat)(nm:List Nat)(ps:List Pl)(lk:List #[3])(j:Nat):List Nat:=nz ((js n (Tm M.tb) #[8] lk []).getD j (ez n))
theorem Bd(j:Nat):((js n (Tm M.tb) #[8] lk []).getD j (ez n)).length=n:=by
 rcases jB (js n (Tm M.tb) #[8] lk []) j (ez n)with e|e
 ·rw[e];exact iJ
 ·exact pW n _ _ _ _ #[9] _ e
theorem CB(G:Ei M n nm ps S sz lk)(st:List am):DB [M.w,fE ps,.str nm] st=.ok (.tup (#[12].map fun j=>kC (zi M n nm ps lk j))) st:=by
 obtain⟨z0,a,e0,O0,hz,hL,w0,r0,m0⟩:=zc G.g G.l G.mo G.n1 G.n2 G.nl G.m G.t G.hb st
 have Bt:=hz.ob
 have hl:=G.l
 have hn:=G.n2
 rw[hL]at Bt
 obtain⟨y,hy⟩:=Mi (cap:=[none]) (ρ:=[some M.w,some (fE ps),some (.str nm)]) (st:=st) (s1:=z0) (fi:=cX (d7 "Course" "counts" (vE "Course" 4 cJ (ai (af 0) (ai (af 1) (ai (af 2) aA)))))) (f:=dZ 0) (el:=bH fy (ai (cz 1 wT (ai (af 0) aA)) aA)) (ws:=a.cq.map W.loc) (ck:=some (a.pc,a.cq.map W.loc)) (fun j=>kC (zi M n nm ps lk j))
  (ie (pK (y4 (av kv (av kv kn)) rfl e0) Bt rfl) (aS hz.pc)) (by rw[ak,hz.lq];omega) (fun x=>aS (aI hz.pc)) fun i w hw x=>by
   rw[ag]at hw
   obtain⟨q,hq,rfl⟩:=aC.mp hw
   have hc:=uY (v:=(js n (Tm M.tb) #[8] lk []).getD i (ez n)) (x:=.loc q) (st:=z0++x) (.inr ⟨q,rfl,aI (hz.pcs i q hq)⟩) (by rw[Bd];omega)
   exact⟨_,_,rfl,bX (av (bY kn hc rfl) aN) (kO (aS bd))⟩
 rw[ak,hz.lq]at hy
 obtain⟨x,rfl⟩:=O0.pre
 refine fz ?_ ?_
 ·apply bB
  ·exact bX (av hy aN) (kO (aS bd))
  ·exact⟨_,_,rfl,rfl,_,by rw[aY,aY]⟩
 ·have und:∀(l:List Nat) k,undWs k (l.map fun j=>kC (zi M n nm ps lk j))=true:=fun l k=>by
   induction l with
   |nil=>rfl
   |cons x r ih=>show((kC _).und k&&undWs k _)=true;rw[r4,ih];rfl
  show(undWs _ _&&true)=true
  rw[und];rfl
theorem qQ{v:List Nat}{r:Nat}(hl:v.length=n):r∈nz v↔r<n/\0<v.getD r 0:=by
 unfold nz
 rw[bE,aU,hl,bf]
theorem Mj{va vb:List Nat}(la:va.length=n)(lb:vb.length=n){r:Nat}(hr:r<n):0<(yW n T ns va vb).getD r 0↔∃t∈ns,∃a∈nz va,∃b∈nz vb,T t a b=r:=by
 unfold yW
 rw[hW (fun q=>sm (List.range n) fun a=>sm (List.range n) fun b=>va.getD a 0*vb.getD b 0*ct q (ns.map fun t=>T t a b)) (aF hr)]
 constructor
 ·intro h
  obtain⟨i,a,h1,h2⟩:=sj h
  obtain⟨j,b,h3,h4⟩:=sj h2
  have h5:=iR h4
  have h6:=jp h4
  have ha:=aU.mp (aw h1)
  have hb:=aU.mp (aw h3)
  unfold ct at h6
  rw[vU]at h6
  obtain⟨k,t,h7,h8⟩:=sj h6
  refine⟨t,aw h7,a,(qQ la).mpr ⟨ha,iR h5⟩,b,(qQ lb).mpr ⟨hb,jp h5⟩,?_⟩
  by_cases e:T t a b=r
  ·exact e
  ·rw[ay e]at h8;exact absurd h8 (cr 0)
 ·rintro⟨t,ht,a,ha,b,hb,e⟩
  obtain⟨a1,a2⟩:=(qQ la).mp ha
  obtain⟨b1,b2⟩:=(qQ lb).mp hb
  refine aL ?_ (A8 (f:=fun a=>sm (List.range n) fun b=>va.getD a 0*vb.getD b 0*ct r (ns.map fun t=>T t a b)) (aU.mpr a1))
  refine aL ?_ (A8 (f:=fun b=>va.getD a 0*vb.getD b 0*ct r (ns.map fun t=>T t a b)) (aU.mpr b1))
  refine mH (mH a2 b2) ?_
  unfold ct
  rw[vU]
  refine aL ?_ (A8 (f:=fun t=>if T t a b=r then 1 else 0) ht)
  show 0<if T t a b=r then 1 else 0
  rw[au e];decide
noncomputable def met(n:Nat)(P:List Nat):List Bool:=(List.range n).map fun r=>decide (r∈P)
theorem Ml{P:List Nat}{r:Nat}(h:r<n):(met n P).set r true=met n (P++[r]):=by
 refine bM fun i=>?_
 unfold met
 rw[List.getElem?_set,ag,ag]
 by_cases hi:i<n
 ·rw[aF hi]
  by_cases e:r=i
  ·subst e
   rw[au rfl,au (by simpa using h)];simp
  ·rw[ay e]
   show some _=some _
   congr 1
   rw[iy,aZ,bv]
   exact⟨.inl,fun z=>z.resolve_right fun y=>e y.symm⟩
 ·by_cases e:r=i
  ·omega
  ·rw[ay e,az (by simpa using hi)];rfl
end
theorem RM{st:List am}{p k:Nat}{v:W}(h:st[p]?=some (.lst [v]))(hk:k<=1000):xH (.loc p) (.int (k:Nat)) st=.ok (.loc st.length) (st++[.lst (List.replicate k v)]):=by
 unfold xH
 simp only[h]
 rw[au ⟨by omega,by omega,by rw[aJ];show 1*k<=1000000;omega⟩,aJ,Ba]
 unfold kZ
 rw[au (by rw[oR];show _<=1000000;omega)]
section
variable{ps:List Pl}{sz:List Nat}{lk:List #[3]}{M:Mc}
theorem JY(hn:1<=n):nz (ez n)=[0]:=by
 unfold nz
 rw[iJ,List.filter_congr (q:=fun i=>decide (i=0)) fun i hi=>by
  rw[DT (aU.mp hi),iy]
  by_cases e:0=i
  ·rw[au e];omega
  ·rw[ay e];omega]
 obtain⟨m,rfl⟩:∃m,n=m+1:=⟨n-1,by omega⟩
 rw[dv,jq (by rfl),List.filter_eq_nil_iff.mpr]
 intro i hi
 obtain⟨j,_,rfl⟩:=aO.mp hi
 simp
noncomputable def wX(T:Nat->Nat->Nat->Nat)(A B:List Nat)(t:Nat):List Nat:=A.flatMap fun a=>B.map fun b=>T t a b
theorem JZ(hM:uV M n){t a b:Nat}(ht:t<M.tb.length)(ha:a<n)(hb:b<n)(s:List am) :
  bI (.tup (M.tb.map m6)) (.int (t:Nat)) s=.ok (m6 (M.tb.getD t [])) s/\bI (m6 (M.tb.getD t [])) (.int (a:Nat)) s=.ok (kC ((M.tb.getD t []).getD a [])) s/\bI (kC ((M.tb.getD t []).getD a [])) (.int (b:Nat)) s=.ok (.int (Tm M.tb t a b:Nat)) s:=by
 have htb:M.tb[t]?=some (M.tb.getD t []):=bb [] ht
 obtain⟨t1,t2⟩:=hM.t _ (aw htb)
 have g1:(M.tb.getD t [])[a]?=some ((M.tb.getD t []).getD a []):=bb [] #[0]
 obtain⟨r1,r2⟩:=t2 _ (aw g1)
 exact⟨k_ (dF (by rw[ag,htb];rfl)),vT g1,tF (bb 0 #[0])⟩
theorem Em(P:List Nat):(met n P).length=n:=by simp[met]
theorem J0(hM:uV M n)(u3:1<=n)(hn:n<=1000)(N2:nm.length<=4){m:List Nat}(hm:m.length<=1000){A B:List Nat}(hA:∀a∈A,a<n)(hB:∀b∈B,b<n){ql qh:Nat}(CI:z[ql]?=some (.lst (nW A)))(XU:z[qh]?=some (.lst (nW B)))
  {w1 w3 w4 w5:Option W} (tL CG zp tK:Option W) {P:RS->Prop} {f':FS} (hr:∀tL CG zp tK,iF P (f' [some M.w,w1,some (.str nm),w3,w4,w5,lO ql,lO qh,some (.str (bare nm m)),lO z.length,tL,CG,zp,tK] (z++[.lst ((met n ((List.range (2^nm.length)).flatMap fun i=>wX (Tm M.tb) A B (tw M nm m i))).map W.bl)]))) :
  iF P (aX (gm (ce (ai (e2 vm (eI 1) (bH dY (ai (af 2) aA))) aA)) (dZ 10) (aX (bP 11 (e2 bI (e2 bI (af 0) (eI 2)) (cz 2 rX (ai (e2 bI (af 0) (eI 0)) (ai (e2 fx (af 8) (cz 2 pF (ai (af 2) (ai (af 10) aA)))) aA))))) (gm (cX (af 6)) (dZ 12) (gm (cX (af 7)) (dZ 13) (rD (af 9) (e2 bI (e2 bI (af 11) (af 12)) (af 13)) (eC (.bl true)) pe))))) f'
   [some M.w,w1,some (.str nm),w3,w4,w5,lO ql,lO qh,some (.str (bare nm m)),lO z.length,tL,CG,zp,tK] (z++[.lst ((met n []).map W.bl)])):=by
 have hT:∀t a b,Tm M.tb t a b<n:=ug hM u3
 have bl:(bare nm m).length<=1000:=aR (cf _ _) hm
 have hK:2^nm.length<=16:=aR (eP #[1] N2) #[1]
 have lA:∀Q,lstOf (z++[.lst ((met n Q).map W.bl)]) ql=some (nW A):=fun Q=>aS (aI CI)
 have lB:∀Q,lstOf (z++[.lst ((met n Q).map W.bl)]) qh=some (nW B):=fun Q=>aS (aI XU)
 refine du (fun i ρ s=>∃tL CG zp tK,ρ=[some M.w,w1,some (.str nm),w3,w4,w5,lO ql,lO qh,some (.str (bare nm m)),lO z.length,tL,CG,zp,tK]/\s=z++[.lst ((met n ((List.range i).flatMap fun i=>wX (Tm M.tb) A B (tw M nm m i))).map W.bl)])
  (gi (q:=((2^nm.length:Nat):Int)) (st1:=z++[.lst ((met n []).map W.bl)]) (av (bN cD (bX kn (nH (by show _<=1000000;omega))) (Gx #[0])) aN) (by generalize 2^nm.length=K at hK;omega)) ⟨_,_,_,_,rfl,rfl⟩ (fun _ _ _ _=>trivial) ?_ ?_
 ·rintro i w ρ s hw ⟨tL,CG,zp,tK,rfl,rfl⟩
  obtain⟨hi,rfl⟩:=gR hw
  rw[aJ]at hi
  refine⟨_,rfl,?_⟩
  rw[jO]
  have ht:tw M nm m i<M.tb.length:=by rw[hM.tb];exact r_ _ _
  have lm:=pX nm #[0] (i:Int) (z++[.lst ((met n ((List.range i).flatMap fun i=>wX (Tm M.tb) A B (tw M nm m i))).map W.bl)])
  have ls:(wF (gz nm (i:Int))).length<=4:=by rw[yP];exact aR (j8 nm _).length_le N2
  rw[show(List.range (i+1)).flatMap (fun i=>wX (Tm M.tb) A B (tw M nm m i))=(List.range i).flatMap (fun i=>wX (Tm M.tb) A B (tw M nm m i))++wX (Tm M.tb) A B (tw M nm m i) by rw[kY,iM];simp]
  generalize (List.range i).flatMap (fun i=>wX (Tm M.tb) A B (tw M nm m i))=Q at lm ⊢
  have le:=vY M.nm (bare nm m++wF (gz nm (i:Int))) (z++[.lst ((met n Q).map W.bl)])
  have le:rX [.str M.nm,.str (bare nm m++wF (gz nm (i:Int)))] (z++[.lst ((met n Q).map W.bl)])=.ok (.int (tw M nm m i:Nat)) _:=le
  generalize tw M nm m i=t at ht le
  apply aB
  ·exact bu (bN kx (bY (av kx (av (bN kv (bY (av kv kn) lm rfl) (vI (by show _<=1000000;omega))) aN)) le rfl) (JZ hM ht u3 u3 _).1)
  refine r9 (fun j ρ s=>∃zp tK,ρ=[some M.w,w1,some (.str nm),w3,w4,w5,lO ql,lO qh,some (.str (bare nm m)),lO z.length,iO (i:Nat),some (m6 (M.tb.getD t [])),zp,tK]/\s=z++[.lst ((met n (Q++(A.take j).flatMap fun a=>B.map fun b=>Tm M.tb t a b)).map W.bl)])
   (ie kv (lA Q)) ⟨_,_,rfl,by rw[pN,List.flatMap_nil,bC]⟩ (fun j ρ s h=>by obtain⟨_,_,_,rfl⟩:=h;exact lA _) ?_ ?_
  ·rintro j w ρ s hw ⟨zp,tK,rfl,rfl⟩
   unfold nW at hw
   rw[ag]at hw
   obtain⟨a,ha,rfl⟩:=aC.mp hw
   have haN:=hA a (aw ha)
   refine⟨_,rfl,?_⟩
   rw[da ha,iM,<- aY,show[a].flatMap (fun a=>B.map fun b=>Tm M.tb t a b)=B.map fun b=>Tm M.tb t a b by simp]
   generalize Q++(A.take j).flatMap (fun a=>B.map fun b=>Tm M.tb t a b)=Q1
   refine r9 (fun k ρ s=>∃tK,ρ=[some M.w,w1,some (.str nm),w3,w4,w5,lO ql,lO qh,some (.str (bare nm m)),lO z.length,iO (i:Nat),some (m6 (M.tb.getD t [])),iO (a:Nat),tK]/\s=z++[.lst ((met n (Q1++(B.take k).map fun b=>Tm M.tb t a b)).map W.bl)])
    (ie kv (lB Q1)) ⟨_,rfl,by rw[pN,nS,bC]⟩ (fun j ρ s h=>by obtain⟨_,_,rfl⟩:=h;exact lB _) ?_ ?_
   ·rintro k w ρ s hw ⟨tK,rfl,rfl⟩
    unfold nW at hw
    rw[ag]at hw
    obtain⟨b,hb,rfl⟩:=aC.mp hw
    have hbN:=hB b (aw hb)
    refine⟨_,rfl,?_⟩
    generalize hs:z++[am.lst ((met n (Q1++(B.take k).map fun b=>Tm M.tb t a b)).map W.bl)]=s
    have hc:s[z.length]?=some (.lst ((met n (Q1++(B.take k).map fun b=>Tm M.tb t a b)).map W.bl)):=by rw[<- hs];exact bd
    obtain⟨x1,x2,x3⟩:=JZ hM ht haN hbN s
    apply cv
    ·exact vG cD kv (bN (bN kv kv x2) kv x3) (yR hc (by rw[ak,Em];exact hT ..))
    ·refine⟨_,_,rfl,_,rfl,?_⟩
     rw[<- hs,fD,da hb,bG,<- aY]
     show z++[am.lst _]=_
     rw[show W.bl true=W.bl true from rfl,<- n5,Ml (hT ..)];rfl
   ·rintro ρ s ⟨tK,rfl,rfl⟩
    refine⟨_,_,rfl,_,_,rfl,?_⟩
    rw[show(nW B,some (qh,nW B)).fst.length=B.length by unfold nW;simp,cu]
  ·rintro ρ s ⟨zp,tK,rfl,rfl⟩
   refine⟨_,_,rfl,_,_,_,_,rfl,?_⟩
   rw[show(nW A,some (ql,nW A)).fst.length=A.length by unfold nW;simp,cu];rfl
 ·rintro ρ s ⟨tL,CG,zp,tK,rfl,rfl⟩
  rw[show(eM 0 ((2^nm.length:Nat):Int).toNat,(none:Option (Nat×List W))).fst.length=2^nm.length by rw[dy,aJ]]
  exact hr _ _ _ _
end
section
variable{ps:List Pl}{sz:List Nat}{lk:List #[3]}{M:Mc}
theorem J1{v:List Nat}(hl:v.length=n):∀a∈nz v,a<n:=fun a ha=>((qQ hl).mp ha).1
theorem RN(h:Gr ps S sz lk)(hM:uV M n)(u3:1<=n){p:Pl}(hp:ps[i]?=some p)(hx:lk[i]?=some x) :
  zi M n nm ps lk i=(List.range n).filter fun r=>decide (r∈(List.range (2^nm.length)).flatMap fun w=>wX (Tm M.tb) (nz (mQ n (js n (Tm M.tb) #[8] lk []) x.1)) (nz (mQ n (js n (Tm M.tb) #[8] lk []) x.2)) (tw M nm p.m w)):=by
 obtain⟨l1,l2,_⟩:=h.ok
 have hv:=Cw (n:=n) (T:=Tm M.tb) (N:=gy M nm ps) (by simp[l2]) hx (h.lk hx)
 rw[show#[8].getD i []=lU M.nm nm p.m from hW _ hp]at hv
 generalize hV:js n (Tm M.tb) #[8] lk []=V at hv ⊢
 have bl:∀o,(mQ n V o).length=n:=fun o=>by
  cases o with
  |none=>exact iJ
  |some k=>rw[<- hV];exact Bd k
 unfold zi
 rw[hV,hv]
 unfold nz
 rw[DS]
 refine List.filter_congr fun r hr=>?_
 rw[iy,Mj (bl _) (bl _) (aU.mp hr),nv]
 unfold wX
 constructor
 ·rintro⟨t,ht,a,ha,b,hb,e⟩
  obtain⟨w,hw,rfl⟩:=(El M nm p.m t).mpr ht
  exact⟨w,aU.mpr hw,nv.mpr ⟨a,ha,aO.mpr ⟨b,hb,e⟩⟩⟩
 ·rintro⟨w,hw,hq⟩
  obtain⟨a,ha,hq⟩:=nv.mp hq
  obtain⟨b,hb,e⟩:=aO.mp hq
  exact⟨_,(El M nm p.m _).mp ⟨w,aU.mp hw,rfl⟩,a,ha,b,hb,e⟩
theorem Be(h:Gr ps S sz lk)(hl:ps.length<=250)(hM:uV M n)(u3:1<=n)(hn:n<=1000)(N2:nm.length<=4)(hm:∀p∈ps,p.m.length<=1000)(st:List am) :
  ∃(fl:Nat) (qs:List Nat) (z:List am),DI [M.w,fE ps,.str nm] st=.ok (.loc fl) z/\qX st z/\z[fl]?=some (.lst (qs.map W.loc))/\qs.length=ps.length/\∀j q:Nat,qs[j]?=some q->z[q]?=some (.lst (nW (zi M n nm ps lk j))):=by
 obtain⟨l1,l2,_⟩:=h.ok
 suffices hh:iF (uu fun w z=>∃(fl:Nat) (qs:List Nat),w=.loc fl/\st.length<=fl/\qX st z/\z[fl]?=some (.lst (qs.map W.loc))/\qs.length=ps.length/\∀j q:Nat,qs[j]?=some q->z[q]?=some (.lst (nW (zi M n nm ps lk j)))) (Jh ([M.w,fE ps,.str nm].map some++List.replicate (14-3) none) st) by
  obtain⟨w,z,e,fl,qs,rfl,h1,h2,h3,h4,h5⟩:=hh
  refine⟨fl,qs,z,?_,h2,h3,h4,h5⟩
  have:=lv (N:=14) (body:=Jh) (ws:=[M.w,fE ps,.str nm]) e
  rw[mW (by simp[undWs,W.und];omega)]at this
  exact this
 obtain⟨c0,el⟩:=Fx h #[0] st
 apply aB
 ·exact bu (bY kn el rfl)
 generalize hz0:st++[c0,.lst (lk.map m7)]=z0
 have O0:qX st z0:=fun i c e=>by rw[<- hz0];exact aI e
 have hlk:z0[st.length+1]?=some (.lst (lk.map m7)):=by rw[<- hz0,jw];rfl
 have lz0:st.length+2=z0.length:=by rw[<- hz0];simp
 apply aB
 ·exact bu (jk aN (aE rfl))
 refine du (fun i ρ z=>∃(qs:List Nat) (o5 o6 o7 o8 o9 tL CG zp tK:Option W),ρ=[some M.w,some (fE ps),some (.str nm),lO (st.length+1),lO z0.length,o5,o6,o7,o8,o9,tL,CG,zp,tK]/\qX z0 z/\z[z0.length]?=some (.lst (qs.map W.loc))/\qs.length=i/\∀j q:Nat,qs[j]?=some q->z0.length<q/\z[q]?=some (.lst (nW (zi M n nm ps lk j))))
  (gi (q:=(ps.length:Int)) (st1:=z0++[am.lst []]) (av (bX kn (mM ps _)) aN) #[0]) ⟨[],none,none,none,none,none,none,none,none,none,rfl,fun i c e=>aI e,bd,rfl,by simp⟩ (fun _ _ _ _=>trivial) ?_ ?_
 ·rintro i w ρ z hw ⟨qs,o5,o6,o7,o8,o9,tL,CG,zp,tK,rfl,hO,hf,CI,hq⟩
  obtain⟨hi,rfl⟩:=gR hw
  rw[aJ]at hi
  refine⟨_,rfl,?_⟩
  rw[jO]
  obtain⟨p,hp⟩:∃p,ps[i]?=some p:=⟨_,ae hi⟩
  obtain⟨x,hx⟩:∃x,lk[i]?=some x:=⟨_,ae #[0]⟩
  obtain⟨u1,u2⟩:=h.lk hx
  have hpm:=hm p (aw hp)
  have Bo:=RN (nm:=nm) h hM u3 hp hx
  generalize hV:js n (Tm M.tb) #[8] lk []=V at Bo
  have bl:∀o,(mQ n V o).length=n:=fun o=>by
   cases o with
   |none=>exact iJ
   |some k=>rw[<- hV];exact Bd k
  have lz:=cO hf
  apply aB
  ·exact bu (jk (av cD aN) (aE rfl))
  apply aB
  ·exact bu (jk (av cD aN) (aE rfl))
  rw[show(z++[am.lst [.int 0]]).length=z.length+1 by simp]
  generalize hz2:z++[am.lst [W.int 0]]++[am.lst [.int 0]]=z2
  have O2:qX z z2:=fun i c e=>by rw[<- hz2];exact aI (aI e)
  have c6:z2[z.length]?=some (.lst (nW [0])):=by rw[<- hz2];exact aI bd
  have c7:z2[z.length+1]?=some (.lst (nW [0])):=by
   have:(z++[am.lst [W.int 0]]++[am.lst [.int 0]])[(z++[am.lst [W.int 0]]).length]?=some (.lst (nW [0])):=bd
   rw[show(z++[am.lst [W.int 0]]).length=z.length+1 by simp,hz2]at this;exact this
  have hlk2:bI (.loc (st.length+1)) (.int (i:Nat)) z2=.ok (m7 x) z2:=jm (aS (O2 _ _ (hO _ _ hlk))) (dF (by rw[ag,hx];rfl))
  have hf2:=O2 _ _ hf
  have fnd:∀k,k<i->∃q,bI (.loc z0.length) (.int (k:Nat)) z2=.ok (.loc q) z2/\z2[q]?=some (.lst (nW (nz (mQ n V (some k))))):=fun k hk=>by
   have e:qs[k]?=some qs[k]:=ae #[0]
   refine⟨qs[k],jm (aS hf2) (dF (by rw[ag,e];rfl)),?_⟩
   have:=O2 _ _ (hq k _ e).2
   unfold zi at this
   rw[hV]at this
   exact this
  refine rQ (fun ρ s=>∃ql,s=z2/\ρ=[some M.w,some (fE ps),some (.str nm),lO (st.length+1),lO z0.length,iO (i:Nat),lO ql,lO (z.length+1),o8,o9,tL,CG,zp,tK]/\z2[ql]?=some (.lst (nW (nz (mQ n V x.1))))) ?_ ?_
  ·cases e1:x.1 with
   |none=>
    apply mw
    ·exact bJ (j0 (bN (bN kv kv hlk2) cD ox) (by rw[e1];rfl))
    apply cv
    ·exact py
    ·exact⟨_,_,rfl,z.length,rfl,rfl,by show _=some (am.lst (nW (nz (ez n))));rw[JY u3];exact c6⟩
   |some k=>
    obtain⟨q,f1,f2⟩:=fnd k (u1 k e1)
    apply pz
    ·exact bJ (j0 (bN (bN kv kv hlk2) cD ox) (by rw[e1];rfl))
    apply cv
    ·exact bu (bN kv (bN (bN kv kv hlk2) cD ox) (by rw[e1];exact f1))
    ·exact⟨_,_,rfl,q,rfl,rfl,f2⟩
  rintro ρ s ⟨ql,rfl,rfl,hA⟩
  refine rQ (fun ρ s'=>∃qh,s'=s/\ρ=[some M.w,some (fE ps),some (.str nm),lO (st.length+1),lO z0.length,iO (i:Nat),lO ql,lO qh,o8,o9,tL,CG,zp,tK]/\s[qh]?=some (.lst (nW (nz (mQ n V x.2))))) ?_ ?_
  ·cases e1:x.2 with
   |none=>
    apply mw
    ·exact bJ (j0 (bN (bN kv kv hlk2) cD ox) (by rw[e1];rfl))
    apply cv
    ·exact py
    ·exact⟨_,_,rfl,z.length+1,rfl,rfl,by show _=some (am.lst (nW (nz (ez n))));rw[JY u3];exact c7⟩
   |some k=>
    obtain⟨q,f1,f2⟩:=fnd k (u2 k e1)
    apply pz
    ·exact bJ (j0 (bN (bN kv kv hlk2) cD ox) (by rw[e1];rfl))
    apply cv
    ·exact bu (bN kv (bN (bN kv kv hlk2) cD ox) (by rw[e1];exact f1))
    ·exact⟨_,_,rfl,q,rfl,rfl,f2⟩
  rintro ρ s' ⟨qh,rfl,rfl,hB⟩
  obtain⟨y,eb⟩:=yY (fe:=e2 bI (e2 bI (af 1) (af 5)) (eI 1)) (t:=fG (e2 (rC true) (af 0) (af 1))) (cap:=[none,some 2]) (ρ:=[some M.w,some (fE ps),some (.str nm),lO (st.length+1),lO z0.length,iO (i:Nat),lO ql,lO qh,o8,o9,tL,CG,zp,tK]) (st:=s') (l:=p.m) (fun c=>!decide (c∈nm)) (bN (bN kv kv (AZ hp _)) cD (Fl p _)) #[0] #[1] fun c _=>bJ (bN kv kv y0)
  apply aB
  ·exact bu eb
  generalize hz3:s'++y++[am.lst [W.bl false]]=z3
  have O3:qX s' z3:=fun i c e=>by rw[<- hz3];exact aI (aI e)
  have erp:=RM (st:=z3) (p:=(s'++y).length) (k:=n) (v:=.bl false) (by rw[<- hz3];exact bd) hn
  rw[show List.replicate n (W.bl false)=(met n []).map W.bl by unfold met;rw[a9];exact(List.eq_replicate_iff.mpr ⟨by simp,fun b hb=>by obtain⟨_,_,rfl⟩:=aO.mp hb;rfl⟩).symm]at erp
  have gl:∀s:List am,dY [.tup (M.gd.map W.bl)] s=.ok (.int (n:Nat)) s:=fun s=>by
   rw[vJ,ak,hM.gd]
  apply aB
  ·exact bu (bN (jk (av cD aN) (aE rfl)) (bX (av kx aN) (gl _)) (by rw[hz3];exact erp))
  refine J0 hM u3 hn N2 hpm (A:=nz (mQ n V x.1)) (B:=nz (mQ n V x.2)) (J1 (bl _)) (J1 (bl _)) (O3 _ _ hA) (O3 _ _ hB) tL CG zp tK fun p10 p11 p12 p13=>?_
  generalize hP:(List.range (2^nm.length)).flatMap (fun i=>wX (Tm M.tb) (nz (mQ n V x.1)) (nz (mQ n V x.2)) (tw M nm p.m i))=P at Bo
  generalize hz4:z3++[am.lst ((met n P).map W.bl)]=z4
  have cm:z4[z3.length]?=some (.lst ((met n P).map W.bl)):=by rw[<- hz4];exact bd
  have O4:qX s' z4:=fun i c e=>by rw[<- hz4];exact aI (O3 i c e)
  have hln:=mK (aS cm)
  rw[ak,Em]at hln
  have hcm:=pA (cap:=[none,some 9]) (f:=dZ 0) (t:=fG (e2 bI (af 1) (af 0))) (el:=af 0) (ρ:=[some M.w,some (fE ps),some (.str nm),lO (st.length+1),lO z0.length,iO (i:Nat),lO ql,lO qh,some (.str (bare nm p.m)),lO z3.length,p10,p11,p12,p13]) (st:=z4) (st1:=z4) (ws:=eM 0 n) (ck:=none) (fi:=ce (ai (bH dY (ai (af 9) aA)) aA)) (fun w=>decide (wg w∈P)) id
   (by
    have:=gi (fs:=ai (bH dY (ai (af 9) aA)) aA) (ρ:=[some M.w,some (fE ps),some (.str nm),lO (st.length+1),lO z0.length,iO (i:Nat),lO ql,lO qh,some (.str (bare nm p.m)),lO z3.length,p10,p11,p12,p13]) (st:=z4) (st1:=z4) (q:=(n:Int)) (av (bX kn hln) aN) #[0]
    rw[aJ]at this;exact this) (by rw[dy];show _<=1000000;omega) trivial fun w hw=>by
    obtain⟨r,hr,rfl⟩:=s_ hw
    refine⟨_,rfl,bJ (bN kv kv (jm (aS cm) ?_)),fun _=>dN rfl⟩
    rw[show(0:Int)+(r:Int)=((r:Nat):Int) by omega]
    refine dF ?_
    unfold met
    rw[ag,ag,aF hr];rfl
  have ef:((eM 0 n).filter fun w=>decide (wg w∈P)).map id=nW (zi M n nm ps lk i):=by
   rw[Bo,jo]
   have:eM 0 n=(List.range n).map fun r=>W.int ((r:Nat):Int):=by
    refine bM fun j=>?_
    rw[ag]
    by_cases hj:j<n
    ·rw[show(eM 0 n)[j]?=some (.int (0+(j:Int))) by unfold eM;simp[hj],aF hj]
     show some (W.int (0+(j:Int)))=some (W.int (j:Int))
     rw[jO]
    ·rw[az (by rw[dy];omega),az (by simpa using hj)];rfl
   rw[this,gP]
   unfold nW
   congr 1
  rw[ef]at hcm
  have hf4:(z4++[am.lst (nW (zi M n nm ps lk i))])[z0.length]?=some (.lst (qs.map W.loc)):=aI (O4 _ _ hf2)
  apply cv
  ·exact fP (i9 kv (eJ (O4 _ _ hf2)) (av hcm aN) (ja hf4 (by rw[ak];omega)))
  ·have l4:=cO (O4 _ _ hf2)
   have lz2:=cO cm
   refine⟨_,_,rfl,qs++[z4.length],_,_,_,_,_,_,_,_,_,rfl,fun k c e=>?_,?_,by simp[CI],fun j q e=>?_⟩
   ·rw[eO (by have:=cO e;omega)]
    exact aI (O4 _ _ (O2 _ _ (hO _ _ e)))
   ·rw[iI hf4];simp
   ·rcases jJ j qs.length with hj|hj
    ·rw[aQ hj]at e
     obtain⟨a1,a2⟩:=hq j q e
     exact⟨a1,by rw[eO #[0]];exact aI (O4 _ _ (O2 _ _ a2))⟩
    ·have hjl:j=qs.length:=by have:=(ac.mp e).1;simp at this;omega
     subst hjl
     have:q=z4.length:=by simpa using e.symm
     subst this
     exact⟨by omega,by rw[eO #[0],CI];exact bd⟩
 ·rintro ρ z ⟨qs,o5,o6,o7,o8,o9,tL,CG,zp,tK,rfl,hO,hf,CI,hq⟩
  rw[show(eM 0 (ps.length:Int).toNat,(none:Option (Nat×List W))).fst.length=ps.length by rw[dy];simp]at CI
  apply bB
  ·exact dN rfl
  ·exact⟨_,_,rfl,z0.length,qs,rfl,by omega,fun i c e=>hO _ _ (O0 _ _ e),hf,CI,fun j q e=>(hq j q e).2⟩
end
theorem NR{p q:List Nat}{k:Bool}(h:(!(p==q))=k):FR (.str p) (.str q) st=.ok (.bl k) st:=by rw[<- h];rfl
noncomputable def VY(m:List Nat):W->Bool
 |.str [c]=>decide (c∈m)
 |_=>false
section
variable{ps:List Pl}{ch:List Nat}
theorem Bf(h:l.Pairwise (· < ·)):l.Nodup:=h.imp fun h=>a8 h
theorem J2{p:Pl}{c:Nat}(h:p.m.Pairwise (· < ·)):bare nm (pL nm p c).m=bare nm p.m:=
 yt ((iP _).filter _) (h.filter _) fun d=>Fv
theorem Fy{p:Pl}{c:Nat}(hd:nm.Nodup)(h:p.m.Pairwise (· < ·)):(pL nm p c).m.length=(bare nm (pL nm p c).m).length+(nm.filter fun d=>decide (d∈(pL nm p c).m)).length:=by
 have hm:(pL nm p c).m.Nodup:=Bf (iP _)
 generalize (pL nm p c).m=m at hm
 have e:(m.filter fun d=>decide (d∈nm)).Perm (nm.filter fun d=>decide (d∈m)):=
  (md (hm.filter _) (hd.filter _)).mpr fun d=>by rw[bE,bE,bf,bf];exact And.comm
 rw[<- e.length_eq]
 clear e
 induction m with
 |nil=>rfl
 |cons x r ih=>
  have ih:=ih (eY.mp hm).2
  unfold bare at ih ⊢
  by_cases hx:x∈nm
  ·rw[nw (by simp[hx]),jq (by simp[hx]),a_,a_,ih];rfl
  ·rw[jq (by simp[hx]),nw (by simp[hx]),a_,a_,ih];omega
theorem wY(hc:ch.length=ps.length)(hl:ps.length<=250)(V3:nm.length<=4)(hd:nm.Nodup)(hm:∀p∈ps,p.m.length<=50/\p.m.Pairwise (· < ·))(st:List am):DJ [fE (nJ nm ps ch),fE ps,.str nm] st=.ok (.bl true) st:=by
 refine fz ?_ rfl
 have lq:=we (nm:=nm) hc
 apply cI
 ·exact kh (qk (bJ (xK kv rfl rfl)) rfl) (bJ (bN (bX kn (mM _ _)) (bX kn (mM _ _)) (Do (k:=false) (by rw[lq];simp))))
 apply df
 refine du (fun i ρ s=>∃(o3 o4 o5:Option W) (x:List am),ρ=[some (fE (nJ nm ps ch)),some (fE ps),some (.str nm),o3,o4,o5]/\s=st++x)
  (gi (q:=(ps.length:Int)) (st1:=st) (av (bX kn (mM ps _)) aN) #[0]) ⟨none,none,none,[],rfl,by simp⟩ (fun _ _ _ _=>trivial) ?_ ?_
 ·rintro i w ρ s hw ⟨o3,o4,o5,x,rfl,rfl⟩
  obtain⟨hi,rfl⟩:=gR hw
  rw[aJ]at hi
  refine⟨_,rfl,?_⟩
  rw[jO]
  obtain⟨p,hp⟩:∃p,ps[i]?=some p:=⟨_,ae hi⟩
  obtain⟨c,hci⟩:∃c,ch[i]?=some c:=⟨_,ae #[0]⟩
  have hq:=zd (nm:=nm) hp hci
  obtain⟨m1,m2⟩:=hm p (aw hp)
  have eb:=J2 (nm:=nm) (c:=c) m2
  have ec:=Fy (c:=c) hd m2
  have es:wF (pL nm p c).m=(pL nm p c).m:=by
   show wF (gH _)=gH _
   rw[xW (Bf (iP _))]
   exact yt (iP _) (iP _) fun d=>jY
  have lb:(bare nm p.m).length<=50:=aR (cf _ _) m1
  have lf:(nm.filter fun d=>decide (d∈(pL nm p c).m)).length<=4:=aR (cf _ _) V3
  have VZ:(pL nm p c).b=p.b:=rfl
  generalize hQ:pL nm p c=q at hq eb ec es lf VZ
  have lqm:q.m.length<=54:=by rw[ec,eb];omega
  have iq:∀s,bI (fE (nJ nm ps ch)) (.int (i:Nat)) s=.ok q.w s:=fun s=>AZ hq s
  have ip:∀s,bI (fE ps) (.int (i:Nat)) s=.ok p.w s:=fun s=>AZ hp s
  have sm:=AX (p.b:Int) 39 (st++x)
  apply cI
  ·exact kh (qk (bJ (xK (bN kv kv (iq _)) rfl rfl)) rfl) (kh (bJ (bN (bX (av (bN kv kv (iq _)) aN) vJ) cD (Do rfl))) (qk (bJ (bY (av (bN (bN kv kv (iq _)) cD ox) (av (bN (bN kv kv (ip _)) cD ox) aN)) (by rw[VZ];exact sm) rfl)) rfl))
  apply df
  apply aB
  ·exact bu (bN (bN kv kv (iq _)) cD (Fl q _))
  have esr:=DM (fe:=af 4) (ρ:=[some (fE (nJ nm ps ch)),some (fE ps),some (.str nm),iO (i:Nat),some (.str q.m),o5]) (st:=st++x) (l:=q.m) kv #[0]
  rw[es]at esr
  apply cI
  ·exact kh (qk (bJ (xK kv rfl rfl)) rfl) (bJ (bN kv esr (NR (k:=false) #[9])))
  apply df
  obtain⟨y1,e1⟩:=yY (fe:=af 4) (t:=fG (e2 (rC true) (af 0) (af 1))) (cap:=[none,some 2]) (ρ:=[some (fE (nJ nm ps ch)),some (fE ps),some (.str nm),iO (i:Nat),some (.str q.m),o5]) (st:=st++x++[am.lst ((hJ (q.m.map fun c=>[c])).map W.str)]) (l:=q.m) (fun c=>!decide (c∈nm)) kv #[0] #[1] fun c _=>bJ (bN kv kv y0)
  have e1:B8 kr (eC (.str [])) (ai (cV [none,some 2] (cX (af 4)) (dZ 0) (fG (e2 (rC true) (af 0) (af 1))) (af 0)) aA) _ _=R.ok (W.str (bare nm q.m)) _:=e1
  rw[eb]at e1
  apply aB
  ·exact bu e1
  generalize hs1:st++x++[am.lst ((hJ (q.m.map fun c=>[c])).map W.str)]++y1=s1
  obtain⟨y2,e2'⟩:=yY (fe:=e2 bI (e2 bI (af 1) (af 3)) (eI 1)) (t:=fG (e2 (rC true) (af 0) (af 1))) (cap:=[none,some 2]) (ρ:=[some (fE (nJ nm ps ch)),some (fE ps),some (.str nm),iO (i:Nat),some (.str q.m),some (.str (bare nm p.m))]) (st:=s1) (l:=p.m) (fun c=>!decide (c∈nm)) (bN (bN kv kv (ip _)) cD (Fl p _)) #[0] #[1] fun c _=>bJ (bN kv kv y0)
  apply cI
  ·exact bJ (bN kv e2' (NR (k:=false) #[9]))
  apply df
  have hcm:=pA (cap:=[none,some 4]) (f:=dZ 0) (t:=fG (e2 (rC false) (af 0) (af 1))) (el:=af 0) (ρ:=[some (fE (nJ nm ps ch)),some (fE ps),some (.str nm),iO (i:Nat),some (.str q.m),some (.str (bare nm p.m))]) (st:=s1++y2) (VY q.m) id (uX (fe:=af 2) (l:=nm) (st1:=s1++y2) kv) (by rw[pV];show _<=1000000;omega) trivial fun w hw=>by
   obtain⟨d,_,rfl⟩:=aO.mp hw
   exact⟨_,rfl,bJ (bN kv kv DV),fun _=>dN rfl⟩
  have hll:=mK (aS (bd (s:=s1++y2) (c:=.lst (((eW nm).filter (VY q.m)).map id))))
  have ell:(((eW nm).filter (VY q.m)).map id).length=(nm.filter fun d=>decide (d∈q.m)).length:=by
   rw[ak]
   unfold eW
   rw[gP,ak];rfl
  rw[ell]at hll
  rw[eb]at ec
  apply mw
  ·exact bJ (bN (bN (bX kn (nH (by show _<=1000000;omega))) (bX kn (nH (by show _<=1000000;omega))) (ga trivial)) (bX (av hcm aN) hll) (Do (k:=false) (by rw[Bool.not_eq_false',dz];show((q.m.length:Int)-((bare nm p.m).length:Int))=_;omega)))
  apply cv
  ·exact py
  ·exact⟨_,_,rfl,_,_,_,x++([am.lst ((hJ (q.m.map fun c=>[c])).map W.str)]++(y1++(y2++[am.lst (((eW nm).filter (VY q.m)).map id)]))),rfl,by rw[<- hs1];simp only[aY]⟩
 ·rintro ρ s ⟨o3,o4,o5,x,rfl,rfl⟩
  apply bB
  ·exact cD
  ·exact⟨_,_,rfl,rfl,_,rfl⟩
end
theorem RO{a b:Nat}(h:a<1000000):fH (.int (a:Nat)) (.int (b:Nat)) st=.ok (.int ((a*b:Nat):Int)) st:=by
 rw[kN (.inl ⟨by omega,by omega⟩),dE]
theorem RP{a:Nat}(ha:a<2^64)(hc:c<=1000):vm (.int (a:Nat)) (.int (c:Nat)) st=.ok (.int ((a*2^c:Nat):Int)) st:=by
 have:=ga (C:=fun i j=>0<=j/\j<=1000000/\i.natAbs<2^64) (f:=fun i j=>i*2^j.toNat) (p:=(a:Int)) (q:=(c:Int)) (st:=st) ⟨by omega,by omega,by omega⟩
 rw[show vm (.int (a:Nat)) (.int (c:Nat)) st=_ from this,aJ]
 simp
def U_(z:List am):W->W
 |.loc q=>.tup ((lstOf z q).getD [])
 |w=>w
theorem law_ok:ML f_q43:=by
 intro ns hn
 suffices hh:iF (uu fun w bz=>w=.bl true) (NN ([W.loc 0].map some++List.replicate (16-1) none) [.ro (ns.map W.int)]) by
  obtain⟨w,bz,e,rfl⟩:=hh
  exact⟨_,lv e⟩
 have h0:([am.ro (ns.map W.int)]:List am)[0]?=some (.ro (ns.map W.int)):=rfl
 generalize hs0:([am.ro (ns.map W.int)]:List am)=s0 at h0
 obtain⟨c0,e0⟩:=rY h0 0
 obtain⟨ds,Xs,hdp,e1⟩:=pG c0 50021 7 #[0] s0
 have e1:qp [.int c0,.int 7,.int 50021] s0=_:=e1
 apply aB
 ·exact bu (bY (av (bY (av kv (av cD aN)) e0 rfl) (av cD (av cD aN))) e1 rfl)
 generalize Sa:s0.length=sl
 generalize hs1:s0++[am.lst (ds.map W.int)]=s
 have hsh:s[sl]?=some (.lst (p7 ds)):=by rw[<- hs1,<- Sa];exact bd
 have h1:s[0]?=some (.ro (ns.map W.int)):=by rw[<- hs1];exact aI h0
 have ish:∀(i:Nat),i<7->∃d:Int,∀z:List am,z[sl]?=some (.lst (p7 ds))->bI (.loc sl) (.int (i:Nat)) z=.ok (.int d) z:=fun i hi=>by
  obtain⟨d,hd⟩:∃d,ds[i]?=some d:=⟨_,ae #[0]⟩
  exact⟨d,fun z hz=>yO hz hd⟩
 obtain⟨d0,i0⟩:=ish 0 #[0]
 obtain⟨d1,i1⟩:=ish 1 #[0]
 obtain⟨d2,i2⟩:=ish 2 #[0]
 obtain⟨d3,i3⟩:=ish 3 #[0]
 obtain⟨d4,i4⟩:=ish 4 #[0]
 obtain⟨d5,i5⟩:=ish 5 #[0]
 obtain⟨d6,i6⟩:=ish 6 #[0]
 have i0:∀z:List am,z[sl]?=some (.lst (p7 ds))->bI (.loc sl) (.int 0) z=.ok (.int d0) z:=i0
 have i1:∀z:List am,z[sl]?=some (.lst (p7 ds))->bI (.loc sl) (.int 1) z=.ok (.int d1) z:=i1
 have i2:∀z:List am,z[sl]?=some (.lst (p7 ds))->bI (.loc sl) (.int 2) z=.ok (.int d2) z:=i2
 have i3:∀z:List am,z[sl]?=some (.lst (p7 ds))->bI (.loc sl) (.int 3) z=.ok (.int d3) z:=i3
 have i4:∀z:List am,z[sl]?=some (.lst (p7 ds))->bI (.loc sl) (.int 4) z=.ok (.int d4) z:=i4
 have i5:∀z:List am,z[sl]?=some (.lst (p7 ds))->bI (.loc sl) (.int 5) z=.ok (.int d5) z:=i5
 have i6:∀z:List am,z[sl]?=some (.lst (p7 ds))->bI (.loc sl) (.int 6) z=.ok (.int d6) z:=i6
 obtain⟨c,hc,ec⟩:=iT (q:=d0) (n:=3) #[0]
 have ec:d0%3=(c:Int):=ec
 apply aB
 ·exact bu (bN (bN kv cD (i0 s hsh)) cD (ga #[1]))
 rw[ec]
 obtain⟨n',hn',en⟩:=iT (q:=d1) (n:=7-2*c) #[0]
 have en:d1%(7-2*(c:Int))=(n':Int):=by rw[<- en];congr 1;omega
 have p1:(0:Int)<7-2*(c:Int):=by omega
 apply aB
 ·exact bu (bN cD (bN (bN kv cD (i1 s hsh)) (bN cD (bN cD kv (kN (.inl ⟨by decide,by decide⟩))) (ga trivial)) (ga p1)) f9)
 rw[en]
 obtain⟨n,hnn'⟩:∃n,n=1+n':=⟨_,rfl⟩
 rw[show(1:Int)+(n':Int)=(n:Int) by omega]
 have u3:1<=n:=by omega
 have hn5:n<=7:=by omega
 obtain⟨c1,e1⟩:=rY h1 1
 obtain⟨pool,qY,hpn,hpp,e2'⟩:=LV c1 100003 6 #[0] s
 have e2':AV [.int c1,.int 6,.int 100003] s=_:=e2'
 apply aB
 ·exact bu (bY (av (bY (av kv (av cD aN)) e1 rfl) (av cD (av cD aN))) e2' rfl)
 have hnn:n+n*n*2^c<=1000:=by
  have x2:n*n<=7*7:=ma #[0] #[0]
  have x1:c=0\/c=1\/c=2:=by omega
  rcases x1 with rfl|rfl|rfl<;>omega
 obtain⟨c2,e3⟩:=rY h1 2
 obtain⟨dr,hdrl,hdrp,e4⟩:=pG c2 200017 (n+n*n*2^c) hnn s
 have e5:e2 fx (af 3) (e2 vm (e2 fH (af 3) (af 3)) (af 2)) [lO 0,lO sl,iO c,iO n,some (.str pool),none,none,none,none,none,none,none,none,none,none,none] s=.ok (.int ((n+n*n*2^c:Nat):Int)) s:=by
  rw[show((n+n*n*2^c:Nat):Int)=(n:Int)+((n*n*2^c:Nat):Int) by omega]
  have x2:n*n<=7*7:=ma hn5 hn5
  exact bN kv (bN (bN kv kv (RO #[0])) kv (RP #[0] #[0])) f9
 apply aB
 ·exact bu (bY (av (bY (av kv (av cD aN)) e3 rfl) (av e5 (av cD aN))) e4 rfl)
 generalize hs3:s++[am.lst (dr.map W.int)]=s3
 have hd3:s3[s.length]?=some (.lst (p7 dr)):=by rw[<- hs3];exact bd
 have hsh3:s3[sl]?=some (.lst (p7 ds)):=by rw[<- hs3];exact aI hsh
 have h3:s3[0]?=some (.ro (ns.map W.int)):=by rw[<- hs3];exact aI h1
 have hpL:pool.length<=ny:=by rw[qY];show 6<=1000000;decide
 have esrt:=DM (fe:=GU (af 4) qf (pd (af 2))) (ρ:=[lO 0,lO sl,iO c,iO n,some (.str pool),lO s.length,none,none,none,none,none,none,none,none,none,none]) (st:=s3) (s1:=s3) (l:=pool.take c) (by
  have:=AE (l:=none) (h:=some (c:Int)) (st:=s3) hpL
  rw[zg]at this
  exact Fh kv Ff (Fg kv) this) (by rw[be];omega)
 generalize hs4:s3++[am.lst ((hJ ((pool.take c).map fun c=>[c])).map W.str)]=s4 at esrt
 have hd4:s4[s.length]?=some (.lst (p7 dr)):=by rw[<- hs4];exact aI hd3
 have hsh4:s4[sl]?=some (.lst (p7 ds)):=by rw[<- hs4];exact aI hsh3
 have h4:s4[0]?=some (.ro (ns.map W.int)):=by rw[<- hs4];exact aI h3
 have Sa:(wF (pool.take c)).length=c:=by rw[yP,be];omega
 obtain⟨M,hMn,hM,e6⟩:=Cr (wF (pool.take c)) n n s.length dr s4 #[0] u3 #[0] u3 (ax _) hd4 (by rw[Sa,hdrl,jF (2^c)];exact ax _)
 apply aB
 ·exact bu (bY (av esrt (av kv (av kv kn))) e6 rfl)
 refine rQ (fun ρ z=>∃(M:Mc) (o7:Option W),uV M n/\z[sl]?=some (.lst (p7 ds))/\z[0]?=some (.ro (ns.map W.int))/\ρ=[lO 0,lO sl,iO c,iO n,some (.str pool),lO s.length,some M.w,o7,none,none,none,none,none,none,none,none]) ?_ ?_
 ·obtain⟨k5,hk5,ek5⟩:=iT (q:=d5) (n:=3) #[0]
  have ek5:d5%3=(k5:Int):=ek5
  by_cases h5':k5=1
  ·have te:(d5%3==1)=true:=by rw[ek5,h5'];rfl
   apply pz
   ·exact bJ (bN (bN (bN kv cD (i5 s4 hsh4)) cD (ga #[1])) cD (jy te))
   have lm:fH (.int ((n:Int)-1)) (.int (d5/3%2)) s4=.ok (.int (((n:Int)-1)*(d5/3%2))) s4:=kN (.inl ⟨by omega,by omega⟩)
   apply aB
   ·exact bu (bN (bN kv cD (ga trivial)) (bN (bN (bN kv cD (i5 s4 hsh4)) cD (ga #[1])) cD (ga #[1])) lm)
   generalize ((n:Int)-1)*(d5/3%2)=q
   obtain⟨gd,g1,g2⟩:∃gd:List Bool,gd.length=n/\bH fy (ai (cV [none,some 7] (ce (ai (af 3) aA)) (dZ 0) g8 (e2 qW (af 0) (af 1))) aA) [lO 0,lO sl,iO c,iO n,some (.str pool),lO s.length,some M.w,iO q,none,none,none,none,none,none,none,none] s4=.ok (.tup (gd.map W.bl)) (s4++[.lst (gd.map W.bl)]):=by
    obtain⟨r,h1,h2,h3⟩:=yQ (cap:=[none,some 7]) (ρ:=[lO 0,lO sl,iO c,iO n,some (.str pool),lO s.length,some M.w,iO q,none,none,none,none,none,none,none,none]) (st:=s4) (n:=n) (el:=e2 qW (af 0) (af 1)) (fs:=ai (af 3) aA) W.bl (fun _ _=>True) kn #[0] fun i _=>⟨_,trivial,bN kv kv (jy rfl)⟩
    exact⟨r,h1,h3⟩
   apply cv
   ·exact bu (qj (av kx (av g2 (av kx aN))) (aE rfl))
   ·exact⟨_,_,rfl,⟨M.nm,gd,M.tb⟩,_,⟨g1,hM.tb,hM.t⟩,aI hsh4,aI h4,rfl⟩
  ·have te:(d5%3==1)=false:=by rw[ek5,bR];omega
   apply mw
   ·exact bJ (bN (bN (bN kv cD (i5 s4 hsh4)) cD (ga #[1])) cD (jy te))
   apply cv
   ·exact py
   ·exact⟨_,_,rfl,M,none,hM,hsh4,h4,rfl⟩
 clear hM e6 hMn M
 clear hsh4 h4
 rintro ρ s4 ⟨M,o7,hM,hsh4,h4,rfl⟩
 obtain⟨k4,hk4,ek4⟩:=iT (q:=d4) (n:=5) #[0]
 have ek4:d4%5=(k4:Int):=ek4
 have hmk:=JQ (pool:=pool) #[0] d3
 have emk:=pX pool #[0] d3 s4
 have hpk:(wF (gz pool d3)).Nodup:=(vS _).nodup_iff.mpr ((j8 pool d3).nodup hpn)
 generalize hm0:wF (gz pool d3)=m0 at emk hmk hpk
 have esl:E5 (.str m0) none (some (k4:Int)) s4=.ok (.str (m0.take k4)) s4:=by
  rw[AE (by have:=hmk.1;show _<=1000000;omega),zg]
 apply aB
 ·exact bu (Fh (bY (av kv (av (bN kv cD (i3 s4 hsh4)) aN)) emk rfl) Ff (Fg (by rw[<- ek4];exact bN (bN kv cD (i4 s4 hsh4)) cD (ga #[1]))) esl)
 have nmk:∀j,(m0.take j).Nodup/\(∀d∈m0.take j,d∈LL):=fun j=>⟨(mF _ _).nodup hpk,fun d hd=>hpp d (hmk.2.1 d (kJ hd))⟩
 have nml:(m0.take k4).length<=4:=by rw[be];omega
 obtain⟨q1,q2,q3⟩:=Mh nml
 have hms:e2 bI (ju (ai (eI 32) (ai (eI 20) (ai (eI 12) (ai (eI 8) (ai (eI 6) aA)))))) (bH dY (ai (af 8) aA)) [lO 0,lO sl,iO c,iO n,some (.str pool),lO s.length,some M.w,o7,some (.str (m0.take k4)),none,none,none,none,none,none,none] s4=.ok (.int (most (m0.take k4).length:Nat)) (s4++[.lst JV]):=
  bN (jk (av cD (av cD (av cD (av cD (av cD aN))))) (aE rfl)) (bX kn (nH (by show _<=1000000;omega))) (jm (aS bd) (dF q1))
 apply aB
 ·exact bu hms
 generalize hs5:s4++[am.lst JV]=s5
 have hsh5:s5[sl]?=some (.lst (p7 ds)):=by rw[<- hs5];exact aI hsh4
 have h5:s5[0]?=some (.ro (ns.map W.int)):=by rw[<- hs5];exact aI h4
 obtain⟨c3,e7⟩:=rY h5 3
 obtain⟨k2,hk2,ek2⟩:=iT (q:=d2) (n:=most (m0.take k4).length+1) #[0]
 have ek2:d2%((most (m0.take k4).length:Int)+1)=(k2:Int):=by rw[<- ek2];congr 1
 obtain⟨dt,hdtl,hdtp,e8⟩:=pG c3 300007 k2 #[0] s5
 have hpt:(pool.take 4).length<=50:=by rw[be];omega
 have hpt2:∀d∈pool.take 4,d∈LL:=fun d hd=>hpp d (kJ hd)
 have esl4:∀z:List am,E5 (.str pool) none (some 4) z=.ok (.str (pool.take 4)) z:=fun z=>by
  rw[AE hpL,show(some (4:Int))=some ((4:Nat):Int)from rfl,zg]
 obtain⟨ps0,S0,sz0,lk0,g0,g1,g2,g3,e9⟩:=Md (st:=s5++[.lst (dt.map W.int)]) (nd:=s5.length) (ds:=dt) (pool:=pool.take 4) bd #[0] hpt
 have pm:(0:Int)<(most (m0.take k4).length:Int)+1:=by omega
 apply aB
 ·exact bu (bY (av (bY (av (bY (av kv (av cD aN)) e7 rfl) (av (by rw[<- ek2];exact bN (bN kv cD (i2 s5 hsh5)) (bN kv cD f9) (ga pm)) (av cD aN))) e8 rfl) (av (Fh kv Ff (Fg cD) (esl4 _)) aN)) e9 rfl)
 generalize hs6:s5++[am.lst (dt.map W.int)]=s6
 have hsh6:s6[sl]?=some (.lst (p7 ds)):=by rw[<- hs6];exact aI hsh5
 have h6:s6[0]?=some (.ro (ns.map W.int)):=by rw[<- hs6];exact aI h5
 have hT:∀t a b,Tm M.tb t a b<n:=ug hM u3
 have hptn:(pool.take 4).Nodup:=(mF _ _).nodup hpn
 have mkl:∀(ps:List Pl),(∀p∈ps,ze (pool.take 4) p.m)->(∀p∈ps,p.m.length<=50/\p.m.Pairwise (· < ·))/\∀p∈ps,∀d∈p.m,d∈LL:=fun ps h=>⟨fun p hp=>⟨(h p hp).1,(h p hp).2.2 hptn⟩,fun p hp d hd=>hpt2 d ((h p hp).2.1 d hd)⟩
 refine rQ (fun ρ z=>∃(nm:List Nat) (ps:List Pl) (S sz:List Nat) (lk:List #[3]) (o9:Option W),JP M n nm ps S sz lk/\(∀p∈ps,p.m.length<=50/\p.m.Pairwise (· < ·))/\ρ=[lO 0,lO sl,iO c,iO n,some (.str pool),lO s.length,some M.w,o7,some (.str nm),o9,some (fE ps),none,none,none,none,none]) ?_ ?_
 ·obtain⟨k7,hk7,ek7⟩:=iT (q:=d6) (n:=8) #[0]
  have ek7:d6%8=(k7:Int):=ek7
  by_cases h3':k7=3
  ·have te:(d6%8==3)=true:=by rw[ek7,h3'];rfl
   apply pz
   ·exact bJ (bN (bN (bN kv cD (i6 s6 hsh6)) cD (ga #[1])) cD (jy te))
   obtain⟨j4,hj4,ej4⟩:=iT (q:=d4) (n:=2) #[0]
   have ej4:d4%2=(j4:Int):=ej4
   have esl2:E5 (.str (m0.take k4)) none (some (1+d4%2)) s6=.ok (.str (m0.take (min (1+j4) k4))) s6:=by
    rw[AE (by show _<=1000000;omega),ej4,show(1:Int)+(j4:Int)=((1+j4:Nat):Int) by omega,zg,List.take_take]
   apply aB
   ·exact bu (Fh kv Ff (Fg (bN cD (bN (bN kv cD (i4 s6 hsh6)) cD (ga #[1])) f9)) esl2)
   obtain⟨c4,e10⟩:=rY h6 3
   obtain⟨k3,hk3,ek3⟩:=iT (q:=d2) (n:=21) #[0]
   have ek3:d2%21=(k3:Int):=ek3
   obtain⟨dt2,hdtl2,hdtp2,e11⟩:=pG c4 300007 (80+k3) #[0] s6
   obtain⟨ps1,S1,sz1,lk1,f0,f1,f2,f3,f4,e12⟩:=RJ (st:=s6++[.lst (dt2.map W.int)]) (nd:=s6.length) (ds:=dt2) (pool:=pool.take 4) bd #[0] hpt
   obtain⟨m1,m2⟩:=mkl ps1 f3
   apply cv
   ·exact bu (bY (av (bY (av (bY (av kv (av cD aN)) e10 rfl) (av (by rw[show((80+k3:Nat):Int)=80+d2%21 by rw[ek3];omega];exact bN cD (bN (bN kv cD (i2 s6 hsh6)) cD (ga #[1])) f9) (av cD aN))) e11 rfl) (av (Fh kv Ff (Fg cD) (esl4 _)) aN)) e12 rfl)
   ·refine⟨_,_,rfl,m0.take (min (1+j4) k4),ps1,S1,sz1,lk1,_,⟨f0,f1,by omega,hM,u3,by omega,by rw[be];omega,(nmk _).1,(nmk _).2,fun p hp=>by have:=(m1 p hp).1;omega,m2,RL f4 _⟩,m1,rfl⟩
  ·have te:(d6%8==3)=false:=by rw[ek7,bR];omega
   apply mw
   ·exact bJ (bN (bN (bN kv cD (i6 s6 hsh6)) cD (ga #[1])) cD (jy te))
   obtain⟨m1,m2⟩:=mkl ps0 g3
   apply cv
   ·exact py
   ·refine⟨_,_,rfl,m0.take k4,ps0,S0,sz0,lk0,_,⟨g0,g1,by omega,hM,u3,by omega,nml,(nmk _).1,(nmk _).2,fun p hp=>by have:=(m1 p hp).1;omega,m2,?_⟩,m1,rfl⟩
    refine Mg (K:=2^(m0.take k4).length) g0 #[9] (fun x hx=>by obtain⟨p,_,rfl⟩:=aO.mp hx;exact JU _ _ _) (Nat.pow_pos #[1]) hT u3 ?_
    rw[<- Nat.pow_mul]
    refine Nat.pow_lt_pow_right #[1] ?_
    have:=ma (ax (m0.take k4).length) (show ps0.length<=2*most (m0.take k4).length by omega)
    omega
 rintro ρ z ⟨nm,ps,S,sz,lk,o9,B,hm50,rfl⟩
 have hps:=B.l
 have V3:=B.nl
 have G:=B.gd
 obtain⟨fl,qs,z1,e10,O1,hf,CI,hq⟩:=Be B.g #[0] hM u3 #[0] V3 (fun p hp=>by have:=(hm50 p hp).1;omega) z
 apply aB
 ·exact bu (bY (av kv (av kv kn)) e10 rfl)
 have hcm:=mx (cap:=[none]) (f:=dZ 0) (el:=bH fy (ai (af 0) aA)) (ρ:=[lO 0,lO sl,iO c,iO n,some (.str pool),lO s.length,some M.w,o7,some (.str nm),o9,some (fE ps),lO fl,none,none,none,none]) (st:=z1) (U_ z1) (ie (fe:=af 11) (st1:=z1) kv (aS hf)) (by rw[ak];show _<=1000000;omega) (aS hf) fun w hw=>by
  obtain⟨q,hq',rfl⟩:=aO.mp hw
  obtain⟨j,hj⟩:=dL hq'
  exact⟨_,rfl,bX kn (kO (by show lstOf z1 q=some ((lstOf z1 q).getD []);rw[aS (hq j q hj)];rfl))⟩
 have etp:(qs.map W.loc).map (U_ z1)=#[12].map fun j=>kC (zi M n nm ps lk j):=by
  refine bM fun j=>?_
  rw[ag,ag,ag]
  by_cases hj:j<ps.length
  ·rw[aF hj,ae (show j<qs.length by omega)]
   show some (W.tup ((lstOf z1 qs[j]).getD []))=some (W.tup _)
   rw[aS (hq j _ (ae #[0]))];rfl
  ·rw[az #[0],az (by simpa using hj)];rfl
 rw[etp]at hcm
 have esm:∀st,on 40 [.tup (#[12].map fun j=>kC (zi M n nm ps lk j)),.tup (#[12].map fun j=>kC (zi M n nm ps lk j))] st=.ok (.bl true) st:=fun st=>
  AW (by simp;omega) fun w hw=>by
   obtain⟨j,_,rfl⟩:=aO.mp hw
   have qt:(zi M n nm ps lk j).length<=n:=by
    unfold zi nz
    exact aR (cf _ _) (by rw[cb,Bd];exact ax _)
   exact AW (by rw[ak];omega) fun w hw=>by
    obtain⟨k,_,rfl⟩:=aO.mp hw
    exact AX _ 37 st
 apply cI
 ·exact qk (bJ (bY (av (bY (av kv (av kv kn)) (CB G z1) rfl) (av (bX (av hcm aN) (kO (aS bd))) aN)) (esm _) rfl)) rfl
 apply df
 generalize hz2:z1++[am.lst (#[12].map fun j=>kC (zi M n nm ps lk j))]=z2
 have hf2:z2[fl]?=some (.lst (qs.map W.loc)):=by rw[<- hz2];exact aI hf
 have hq2:∀j q:Nat,qs[j]?=some q->z2[q]?=some (.lst (nW (zi M n nm ps lk j))):=fun j q e=>by rw[<- hz2];exact aI (hq j q e)
 apply aB
 ·exact bu cD
 have hroot:=xV G
 obtain⟨v,hv⟩:∃v,v=mQ n (js n (Tm M.tb) #[8] lk []) (if 0<ps.length then some (ps.length-1)else none):=⟨_,rfl⟩
 rw[<- hv]at hroot
 have vl:v.length=n:=by
  rw[hv]
  split
  ·exact Bd _
  ·exact iJ
 generalize hz3:z2++[am.lst [W.int 0]]++[am.lst [W.loc z2.length]]=z3
 have l3:(z2++[am.lst [W.int 0]]).length=z2.length+1:=by simp
 have O3:qX z2 z3:=fun i c e=>by rw[<- hz3];exact aI (aI e)
 have c3:z3[z2.length+1]?=some (.lst [.loc z2.length]):=by rw[<- hz3,<- l3];exact bd
 have c4:z3[z2.length]?=some (.lst [.int 0]):=by rw[<- hz3];exact aI bd
 have ead:=Qq (st:=z3) c3 (O3 _ _ hf2) (by simp;show _<=1000000;omega)
 generalize hz4:z3++[am.lst ([W.loc z2.length]++qs.map W.loc)]=z4 at ead
 have O4:qX z2 z4:=fun i c e=>by rw[<- hz4];exact aI (O3 i c e)
 have hlast:∃q,bI (.loc z3.length) (.int (-1)) z4=.ok (.loc q) z4/\z4[q]?=some (.lst (nW (nz v))):=by
  have hc:z4[z3.length]?=some (.lst ([W.loc z2.length]++qs.map W.loc)):=by rw[<- hz4];exact bd
  by_cases h0:0<ps.length
  ·have e:qs[ps.length-1]?=some (qs[ps.length-1]'#[0]):=ae #[0]
   refine⟨qs[ps.length-1]'#[0],jm (aS hc) (yE (q:=0) ?_),?_⟩
   ·rw[ei #[9],dh (by simp;omega),ag]
    simp only[aT,ak,cW]
    rw[show 1+qs.length-1-0-1=ps.length-1 by omega,e];rfl
   ·have:=O4 _ _ (hq2 _ _ e)
    unfold zi at this
    rw[hv,au h0];exact this
  ·have hqn:qs=[]:=gk.mp (by omega)
   refine⟨z2.length,jm (aS hc) (yE (q:=0) (by rw[hqn];rfl)),?_⟩
   rw[hv,ay h0]
   show z4[z2.length]?=some (.lst (nW (nz (ez n))))
   rw[JY u3,<- hz4];exact aI c4
 obtain⟨q,hq1,hqc⟩:=hlast
 have hnzl:∀i r,(nz v)[i]?=some r->r<n:=fun i r e=>by have:=Jv e;omega
 refine du (fun i ρ bz=>∃tK,bz=z4/\ρ=[lO 0,lO sl,iO c,iO n,some (.str pool),lO s.length,some M.w,o7,some (.str nm),o9,some (fE ps),lO fl,some (.bl (((nz v).take i).any fun r=>M.gd.getD r false)),tK,none,none])
  (ie (st1:=z4) (bN (bN (jk (av (jk (av cD aN) (aE rfl)) aN) (aE rfl)) kv (by rw[l3,hz3];exact ead)) (xJ cD) hq1) (aS hqc)) ⟨none,rfl,rfl⟩ (fun i ρ bz h=>by obtain⟨_,rfl,_⟩:=h;exact aS hqc) ?_ ?_
 ·rintro i w ρ bz hw ⟨tK,rfl,rfl⟩
  unfold nW at hw
  rw[ag]at hw
  obtain⟨r,hr,rfl⟩:=aC.mp hw
  refine⟨_,rfl,?_⟩
  rw[da hr,List.any_append]
  apply cv
  ·exact(show bP 12 (PM (af 12) (e2 bI (e2 bI (af 6) (eI 1)) (af 13))) _ bz=.nx _ bz from bu (w:=.bl (((nz v).take i).any (fun r=>M.gd.getD r false)||[r].any fun r=>M.gd.getD r false)) (by
    cases hb:((nz v).take i).any fun r=>M.gd.getD r false with
    |true=>exact Qp kv
    |false=>
     refine Qo kv ?_
     have:=JR hM (hnzl i r hr) bz
     rw[show(false||[r].any fun r=>M.gd.getD r false)=M.gd.getD r false by simp]
     exact bN kx kv this))
  ·exact⟨_,_,rfl,_,rfl,rfl⟩
 rintro ρ bz ⟨tK,rfl,rfl⟩
 rw[show(nW (nz v),some (q,nW (nz v))).fst.length=(nz v).length by unfold nW;simp,cu]
 generalize hcs:oO (Tm M.tb) (gM M) (ps.map Pl.b) #[8] []=cs at hroot
 obtain⟨b,hb⟩:∃b,b=(nz v).any fun r=>M.gd.getD r false:=⟨_,rfl⟩
 rw[<- hb]
 have hbc:decide (0<cs)=b:=by
  rw[hb,iY,bf,j',<- hroot]
  constructor
  ·intro h
   obtain⟨i,r,h1,h2⟩:=sj h
   have hr:=aU.mp (aw h1)
   refine⟨r,(qQ vl).mpr ⟨hr,iR h2⟩,?_⟩
   have:=jp h2
   unfold gM at this
   by_cases e:M.gd.getD r false=true
   ·exact e
   ·rw[ay e]at this;exact absurd this (cr 0)
  ·rintro⟨r,h1,h2⟩
   obtain⟨a1,a2⟩:=(qQ vl).mp h1
   refine aL ?_ (A8 (f:=fun q=>v.getD q 0*gM M q) (aU.mpr a1))
   refine mH a2 ?_
   unfold gM
   rw[au h2];decide
 have efl:=A9 G bz
 rw[hcs]at efl
 apply aB
 ·exact bu (bY (av kv (av kv kn)) efl rfl)
 have tgt:decide ((cs:Int)>0)=b:=by rw[<- hbc,iy];omega
 have tlt:decide ((cs:Int)<0)=false:=bc #[0]
 apply cI
 ·exact kh (qk (bJ (xK kv rfl rfl)) rfl) (kh (bJ (xK kv rfl rfl)) (kh (bJ (bN (bN kv cD (jl tgt)) kv (by cases b<;>rfl))) (bJ (bN kv cD (jl tlt)))))
 apply df
 rcases Fw G B.lt bz with⟨h0,e11⟩|⟨h0,ch,h1,h2,h3,e11⟩
 ·rw[hcs]at h0
  have hbf:b=false:=by rw[<- hbc,h0];rfl
  apply aB
  ·exact bu (bY (av kv (av kv kn)) e11 rfl)
  apply lK
  ·exact qk (bJ kv) (by rw[hbf];rfl)
  apply ky
  ·exact uc kv rfl
  ·exact⟨_,_,rfl,rfl⟩
 ·rw[hcs]at h0
  have hbt:b=true:=by rw[<- hbc];exact ba h0
  apply aB
  ·exact bu (bY (av kv (av kv kn)) e11 rfl)
  apply cI
  ·exact qk (bJ kv) (by rw[hbt];rfl)
  apply df
  have hlp:=we (nm:=nm) h1
  obtain⟨b',f1,f2⟩:=JS (B.g.bs (CA (nm:=nm) h1)) (by rw[hlp];omega) hM u3 (N:=gy M nm ps) (ch:=ch) (by rw[hlp];simp) (by rw[hlp];exact h1) (fun i p hp=>by
   have hi:i<ps.length:=by have:=(ac.mp hp).1;omega
   have e1:ps[i]?=some ps[i]:=ae hi
   have e2:ch[i]?=some (ch.getD i 0):=bb 0 #[0]
   have:=zd (nm:=nm) e1 e2
   rw[this]at hp
   cases hp
   rw[JO ps[i] (h2 _ (aw e2)),show#[8].getD i []=lU M.nm nm ps[i].m from hW _ e1]) bz
  rw[CA h1]at f1
  have hb':b'=true:=by
   cases b' with
   |true=>rfl
   |false=>rw[<- f1]at h3;exact absurd h3 (cr 0)
  rw[hb']at f2
  apply bB
  ·exact yC (bY (av kv (av kv kn)) (wY h1 #[0] V3 B.nd hm50 bz) rfl) (bY (av kv kn) f2 rfl)
  ·exact⟨_,_,rfl,rfl⟩
theorem all_mk{l:PySem.W.OpenLaw}{w:World}{fa:Addr}(X:K.In h)(G:h.Ns mainGlobals mg)(XR:mg "law"=some (.ref fa))
  {CD:Addr} {RQ J8:Option Addr} {RW:Array (Option Value)} {RV J' Ka J3 CJ Kf:Value} {cR:Addr} {qR:Addr} {w6:Tok}
  (FD:DefIn K "come_to" Qw)
  (ww:DefIn K "empty_counts" Qx)
  (CF:DefIn K "let_many" Qy)
  (CS:DefIn K "in_order" Qz)
  (Kc:DefIn K "two_to" QB)
  (Bw:DefIn K "letter_of" QC)
  (CO:DefIn K "marks_of" QD)
  (CH:DefIn K "has_left" QF)
  (By:DefIn K "has_right" QH)
  (CK:DefIn K "links_of" QJ)
  (J5:DefIn K "ups_of" Hz)
  (FJ:DefIn K "up_from" HD)
  (CN:DefIn K "sizes_of" HF)
  (zl:DefIn K "room_below" HH)
  (wE:DefIn K "good_weights" HJ)
  (wz:DefIn K "check_filled" HL)
  (FL:DefIn K "without" HM)
  (zm:DefIn K "numbers_at" HP)
  (CC:DefIn K "times_of" HR)
  (Bq:DefIn K "counts_at" HU)
  (xc:DefIn K "pair_weight" HX)
  (uE:DefIn K "right_weights" HZ)
  (wq:DefIn K "left_weights" H_)
  (xa:DefIn K "parts_begun" Ib)
  (qU:DefIn K "numbered_filling" Ie)
  (CT:DefIn K "fillings" Ih)
  (J6:DefIn K "filled" Ij)
  (zj:DefIn K "chances_of" Im)
  (Bs:DefIn K "_law_cell" Ip)
  (zt:DefIn K "_law_mixed" Ir)
  (zq:DefIn K "_law_draws" Iv)
  (Bn:DefIn K "_law_same" Iy)
  (Bp:DefIn K "_law_pool" IB)
  (zk:DefIn K "_law_marks" ID)
  (Bg:DefIn K "_law_tree" IF)
  (zo:DefIn K "_law_links" IH)
  (wD:DefIn K "_law_machine" IJ)
  (xb:DefIn K "_law_letter" IL)
  (CP:DefIn K "_law_run" IN)
  (Bu:DefIn K "_law_lets" IQ)
  (wA:DefIn K "_law_chances" IS)
  (sw:DefIn K "_law_is_filling" IU)
  (w9:DefIn K "_law_row_of" IW)
  (NY:nsIn K mainGlobals "law"=some (some (.ref CD)))
  (Vf:K.lookup CD=some ⟨RV,RQ,.func (fnOf "law" "law" (ic rT) (gs rT) (aK rT) .none J' Ka J3 J8 CJ Kf),RW⟩)
  (FB:codeIn K CJ "law"=true)
  (Vc:keepIn K (.ref CD)=true)
  (jE:nsIn K mainGlobals "Course"=some (some (.ref cR)))
  (cl_Course:L2.Cls K cR)
  (uL:findIn K (.ref cR) "begun"=some none)
  (tM:findIn K (.ref cR) "counts"=some none)
  (uH:findIn K (.ref cR) "links"=some none)
  (sv:findIn K (.ref cR) "machine"=some none)
  (uG:findIn K (.ref cR) "marks"=some none)
  (uI:findIn K (.ref cR) "names"=some none)
  (sy:findIn K (.ref cR) "numbers"=some none)
  (uJ:findIn K (.ref cR) "rooms"=some none)
  (uK:findIn K (.ref cR) "times"=some none)
  (wn:findIn K (.ref cR) "tree"=some none)
  (xf:findIn K (.ref cR) "ups"=some none)
  (sC:findIn K (.ref cR) "weights"=some none)
  (Fz:makesIn K cR=true)
  (FM:keepIn K (.ref cR)=true)
  (dm_Course___init__:DefM K cR "Course.__init__" "__init__" jz)
  (dm_Course_counts_below:DefM K cR "Course.counts_below" "counts_below" gT)
  (dm_Course_let_all:DefM K cR "Course.let_all" "let_all" j5)
  (dm_Course_begin_part:DefM K cR "Course.begin_part" "begin_part" iG)
  (dm_Course_room_by:DefM K cR "Course.room_by" "room_by" j6)
  (dm_Course_offers:DefM K cR "Course.offers" "offers" kP)
  (dm_Course_choose:DefM K cR "Course.choose" "choose" kQ)
  (dm_Course_filled_tree:DefM K cR "Course.filled_tree" "filled_tree" hU)
  (CL:nsIn K mainGlobals "TooGreat"=some (some (.ref qR)))
  (x_TooGreat:excIn K qR Ua MM=true)
  (RZ:nsIn K mainGlobals "bool"=some none)
  (Bh:nsIn K mainGlobals "enumerate"=some none)
  (Vx:nsIn K mainGlobals "int"=some none)
  (zr:nsIn K mainGlobals "isinstance"=some none)
  (Vd:nsIn K mainGlobals "len"=some none)
  (Mn:nsIn K mainGlobals "range"=some none)
  (CM:nsIn K mainGlobals "reversed"=some none)
  (Vb:nsIn K mainGlobals "set"=some none)
  (J9:nsIn K mainGlobals "sorted"=some none)
  (Vp:nsIn K mainGlobals "str"=some none)
  (Vq:nsIn K mainGlobals "sum"=some none)
  (Mm:nsIn K mainGlobals "tuple"=some none)
  (Ve:nsIn K mainGlobals "zip"=some none)
  (w_:nsIn K mainGlobals "MOST_FILLED"=some (some (.int 4 w6))) :
  ∃fd:FuncData,(∀(s:Shared) (v:Value),BindsTo s fd ⟨[v],[]⟩ [("_law_script",v)])/\∀base:Heap,K.In base->base.Ns mainGlobals mg->c_ l.prog w K mg base (iE l.prog w) 42 fa fd IY (i8 K mg 1 f_q43):=by
 have e:=XR.symm.trans (mg_of X G NY)
 cases e
 obtain⟨_,_,xY,Bm⟩:=Bn.fn X G
 have F_q43:=yc (st:=rT) Vf FB Vc
 have m_q43:=mg_of X G NY
 have B:Bl mg:=⟨mg_none_of X G RZ,mg_none_of X G Bh,mg_none_of X G Vx,mg_none_of X G zr,mg_none_of X G Vd,mg_none_of X G Mn,mg_none_of X G CM,mg_none_of X G Vb,mg_none_of X G J9,mg_none_of X G Vp,mg_none_of X G Vq,mg_none_of X G Mm,mg_none_of X G Ve⟩
 have C:Cls K mg:=⟨⟨qR,mg_of X G CL,x_TooGreat⟩⟩
 have O:Ow K mg:=⟨⟨cR,mg_of X G jE,cl_Course,fun f hf=>by simp only[aM,iw,sI]at hf;rcases hf with rfl|rfl|rfl|rfl|rfl|rfl|rfl|rfl|rfl|rfl|rfl|rfl;(· exact uL);(· exact tM);(· exact uH);(· exact sv);(· exact uG);(· exact uI);(· exact sy);(· exact uJ);(· exact uK);(· exact wn);(· exact xf);(· exact sC)⟩⟩
 have Gg:Gc K mg:=⟨⟨_,.int 4,mg_of X G w_,⟨_,rfl⟩,fun μ H=>.int⟩⟩
 refine⟨fnOf "law" "law" (ic rT) (gs rT) (aK rT) .none J' Ka J3 J8 CJ Kf,fun s v=>.of_eq rfl,fun base _ _=>?_⟩
 have qd:=@Qc l.prog w K mg base
 have FC:=qd FD X G fun F=>UD F B  
 have Vv:=qd ww X G fun F=>UE F B  
 have Vw:=qd CF X G fun F=>UF F B  
 have Vm:=qd CS X G fun F=>UG F B  
 have Vg:=qd Kc X G fun F=>UI F B  
 have Vk:=qd Bw X G fun F=>UK F   
 have Mo:=qd CO X G fun F=>UM F B  
 have Vi:=qd CH X G fun F=>UN F   
 have Vt:=qd By X G fun F=>UO F   
 have FK:=qd CK X G fun F=>UQ F B  Vi Vt
 have N3:=qd J5 X G fun F=>QL F B  FK
 have N4:=qd FJ X G fun F=>QM F   
 have Om:=qd CN X G fun F=>QN F B  FK
 have Ep:=qd zl X G fun F=>QO F   
 have N6:=qd wE X G fun F=>QP F   
 have Oe:=qd wz X G fun F=>QQ F B Gg C  
 have En:=qd FL X G fun F=>QR F   
 have Og:=qd zm X G fun F=>QT F B  Vk Mo Vg En
 have NT:=qd CC X G fun F=>QU F   
 have On:=qd Bq X G fun F=>QV F   FC
 have Er:=qd xc X G fun F=>QW F B  
 have Of:=qd uE X G fun F=>QX F B  Er
 have N9:=qd wq X G fun F=>QY F B  FC Er
 have NV:=qd xa X G fun F=>QZ F B  Om
 have dA:lu l.prog w K mg base 2 "Course" "counts_below" 2 bU:=qI dm_Course_counts_below (mg_of X G jE) cl_Course (fun F=>nI F O Vv)
 have eV:Fc l.prog w K mg base 5 "Course" 4 cJ:=Qi dm_Course___init__ (mg_of X G jE) Fz FM (fun F=>qK F B O dA Oe On FK Og NV NT N3)
 have ii:lu l.prog w K mg base 3 "Course" "let_all" 1 eE:=qI dm_Course_let_all (mg_of X G jE) cl_Course (fun F=>rV F B O dA Vw)
 have lh:lu l.prog w K mg base 3 "Course" "begin_part" 2 dW:=qI dm_Course_begin_part (mg_of X G jE) cl_Course (fun F=>pD F O dA N6 N9 Of Ep N4)
 have ik:lu l.prog w K mg base 2 "Course" "room_by" 3 dI:=qI dm_Course_room_by (mg_of X G jE) cl_Course (fun F=>rW F O Ep)
 have ou:lu l.prog w K mg base 4 "Course" "offers" 1 gJ:=qI dm_Course_offers (mg_of X G jE) cl_Course (fun F=>tu F B O lh ik)
 have oo:lu l.prog w K mg base 3 "Course" "choose" 2 fQ:=qI dm_Course_choose (mg_of X G jE) cl_Course (fun F=>tz F B O ik Vm Mo En)
 have kF:lu l.prog w K mg base 1 "Course" "filled_tree" 1 eN:=qI dm_Course_filled_tree (mg_of X G jE) cl_Course (fun F=>oN F B O)
 have N':=qd qU X G fun F=>Q0 F O  oo kF ou
 have Oh:=qd CT X G fun F=>Q2 F   eV ii
 have NX:=qd J6 X G fun F=>Q3 F   eV ii N'
 have Oj:=qd zj X G fun F=>Q4 F B O  eV FC
 have Oi:=qd Bs X G fun F=>Q5 F B  
 have Ol:=qd zt X G fun F=>Q6 F   
 have Es:=qd zq X G fun F=>Q7 F B  Ol
 have Bv:=DC (P:=l.prog) (w:=w) (base:=base) xY Bm B  40
 have Ob:=qd Bp X G fun F=>Q8 F B  Es
 have ui:=qd zk X G fun F=>Q9 F B  
 have NW:=qd Bg X G fun F=>Q_ F B  ui
 have N5:=qd zo X G fun F=>Ra F B  
 have N0:=qd wD X G fun F=>Rb F B  
 have Eo:=qd xb X G fun F=>Rc F B  
 have Od:=qd CP X G fun F=>Re F   Eo
 have NU:=qd Bu X G fun F=>Rf F B  Od
 have NZ:=qd wA X G fun F=>Rg F B  Eo N5 ui
 have Oc:=qd sw X G fun F=>Rh F B  Bv
 have Oa:=qd w9 X G fun F=>Ri F B  ui
 exact Rj F_q43 B  Oi NZ Es Oc NU N0 ui Ob Oa Bv NW Oj NX Oh
end P
end
namespace PySem.W.Fast
def tw8179123749031451581:=tv0
def tw16139437090555388157:=tv0
def tw17049937954513681052:=tv0
def tw14352230639970304858:=tv0
def tw14703312792888260760:=tv0
def tw3458629915438129271:=tv0
def tw13482701889868340597:=tv0
def tw2929346107377108052:=tv0
def tw5614940537216840081:=tv0
def tw4981042924091302000:=tv0
def tw2399056182258068494:=tv0
def tw5339733772836211757:=tv0
def tw5996339897573710316:=tv0
def tw14729757741438275242:=tv0
def tw2621205175809934378:=tv0
def tw10947491151355573672:=tv0
def tw16800894789249941479:=tv0
def tw2807799835844427171:=tv0
def tw4171288345065940354:=tv0
def tw10246986967730107892:=tv0
def tw94072836138384648:=tv0
def tw7903765783508310688:=tv0
def tw12996704066872939015:=tv0
def tw5713018787846166489:=tv0
def tw17455920332603892429:=tv0
def tw17361193201192796758:=tv0
def tw187058549294191551:=tv0
def tw2276698663850694610:=tv0
def tw7593438462359345432:=tv0
def tw13571794488497934727:=tv0
def tw1130053506241564466:=tv0
def tw12423823509031939836:=tv0
def tw8722010691016660738:=tv0
def tw13485889226428481801:=tv0
def tw10500970098910298744:=tv0
def tw14859218897686243535:=tv0
def tw14398748005908099192:=tv0
def tw6509427303890913219:=tv0
def tw13177927839010036967:=tv0
def tw16885356050181395210:=tv0
def tw13550538257316299034:=tv0
def tw12998343840189225366:=tv0
def tw17634712314011884145:=tv0
def tw8271880859523163052:=tv0
def tw16354404905597037709:=tv0
def tw8349647080857961209:=tv0
def tw9881871436908621657:=tv0
def tw14046147025595195144:=tv0
def tw2711312212174442602:=tv0
def tw6440838100454800167:=tv0
def tw14863555396900045057:=tv0
def tw18435265012908824427:=tv0
def tw11320392563793801968:=tv0
def tw17476004893672254477:=tv0
def tw12020008017678883795:=tv0
def tw11774754008714324613:=tv0
def tw14629469070023400802:=tv0
def tw7663132396310314381:=tv0
def tw6103365071776676597:=tv0
def tw14068053432131410793:=tv0
def tw1280265456404666601:=tv0
def tw14073927423815007314:=tv0
def tw10046376506367860921:=tv0
def tw15490088682284779953:=tv0
def tw4010996269928678421:=tv0
def tw2710917328097896071:=tv0
def tw2673820558875620652:=tv0
def tw10161554177551558705:=tv0
def tw9656425895986227885:=tv0
def tw13644609991372349719:=tv0
def tw6174877014717721120:=tv0
def tw14231859007131150689:=tv0
def tw8000744339258321682:=tv0
def tw18251963303900053382:=tv0
def tw5623285478527286689:=tv0
def tw17881610816603773763:=tv0
def tw16616896074475035768:=tv0
def tw1892402317684092699:=tv0
def tw18307800406133360822:=tv0
def tw16516493481412259339:=tv0
def tw13074184847629625105:=tv0
def tw2831151005850065766:=tv0
def tw13177538536678016665:=tv0
def tw12583937475471713057:=tv0
def tw13374597579226599916:=tv0
def tw6074135210980564422:=tv0
def tw1463782225596488107:=tv0
def tw6032884863320622518:=tv0
def tw12279325058309455604:=tv0
def tw1250893374268297957:=tv0
def tw4681609679088751513:=tv0
def tw1597942925926793944:=tv0
def tw15880478727797124427:=tv0
def tw16765442134092095478:=tv0
def tw6379970378772252152:=tv0
def tw12207280760808469569:=tv0
def tw15709850714487040278:=tv0
def tw8684178286667669150:=tv0
def tw1089905728540080051:=tv0
def tw15872212602422961690:=tv0
def tw3838541270030410875:=tv0
def tw15009165298027027633:=tv0
def tw10549942205843244175:=tv0
def tw7510666461215097132:=tv0
def tw4509746121536695935:=tv0
def tw18180430727899433119:=tv0
def tw6872736943797588970:=tv0
def tw13641071584243138096:=tv0
def tw16748612488587579580:=tv0
def tw6094227646024708916:=tv0
def tw1215106405165959328:=tv0
def tw17058652221257095021:=tv0
def tw12495203667824432329:=tv0
def tw14243100750695819711:=tv0
def tw15194326281031357708:=tv0
def tw15929677274242402921:=tv0
def tw11735977372203210879:=tv0
def tw9654678461539478042:=tv0
def tw10909534439585690342:=tv0
def tw14325936311124615349:=tv0
def tw5193599102010378385:=tv0
def tw15134272485438585125:=tv0
def tw6576884801247760896:=tv0
def tw3997762455966499910:=tv0
def tw5995040189830967838:=tv0
def tw13756804327764407329:=tv0
def tw2749259062695679138:=tv0
def tw6776677090040797973:=tv0
def tw13745282133149317311:=tv0
def tw8419669495080209584:=tv0
def tw17230570992577980143:=tv0
def tw9392873015805596673:=tv0
def tw17399775435518090739:=tv0
def tw914795644501884038:=tv0
def tw960417074567501547:=tv0
def tw17535804699394685880:=tv0
def tw15591093513466302736:=tv0
def tw17918398728124515489:=tv0
def tw16056145661446955270:=tv0
def tw17505171347922949460:=tv0
def tw13681805643986510334:=tv0
def tw12409992473803542260:=tv0
def tw7357567352448309576:=tv0
def tw4930356158250557084:=tv0
def tw2105492430188265558:=tv0
def tw11343048484140520575:=tv0
def tw15870568993405962942:=tv0
def tw1062952994821751801:=tv0
def tw884365931259687147:=tv0
def tw5317324798098743153:=tv0
def tw6991493785905876843:=tv0
def tw3657129255180475494:=tv0
def tw9430216176167694668:=tv0
def tw4529408053766414954:=tv0
def tw3137171016771398968:=tv0
def tw7887525243713860935:=tv0
def tw8854002929662592317:=tv0
def tw10122931701284443216:=tv0
def tw6197037549737357719:=tv0
def tw4223205975685891285:=tv0
def tw18439586160107436736:=tv0
def tw11518689707386752591:=tv0
def tw11572138433196403751:=tv0
def tw7108411456314281245:=tv0
def tw6242860827008609091:=tv0
def tw6127673278904050762:=tv0
def tw3578248662991740210:=tv0
def tw17383651576253146829:=tv0
def tw10290684505406248671:=tv0
def tw8567526169397664144:=tv0
def tw6977927073421755005:=tv0
def tw5638818910708366016:=tv0
def tw9399295377360018954:=tv0
def tw8101672956199391350:=tv0
def tw6732677653120278930:=tv0
def tw1838026305951217720:=tv0
def tw1454029396543274685:=tv0
def tw10566370696255116756:=tv0
def tw7684344875101418295:=tv0
def tw15890144456121675115:=tv0
def tw15508714883308958476:=tv0
def tw10711030038601018411:=tv0
def tw227423733273149462:=tv0
def tw2232382535225925151:=tv0
def tw11740582004280644524:=tv0
def tw6253445773373134920:=tv0
def tw6244922111707737761:=tv0
def tw4032833678594090128:=tv0
def tw4986132473912545236:=tv0
def tw11136571948817543073:=tv0
def tw3769454675294259072:=tv0
def tw1289272206141637329:=tv0
def tw3816982536660499177:=tv0
def tw2515653839286140812:=tv0
def tw11995218611130597363:=tv0
def tw10438814601654648107:=tv0
def tw13168659756337184430:=tv0
def tw12170796565118191197:=tv0
def tw13478612124663994906:=tv0
def tw15524274036321986379:=tv0
def tw865062396072071785:=tv0
def tw14202754684022061234:=tv0
def tw5430757136444478264:=tv0
def tw11958907178406855305:=tv0
def tw19987892235472331:=tv0
def tw18268795834883548473:=tv0
def tw17806709177406942326:=tv0
def tw16678377117392594858:=tv0
def tw7499916518137521066:=tv0
def tw6002689655215649326:=tv0
def tw1337523621386911802:=tv0
def tw17922499447190358691:=tv0
def tw8028558438788951888:=tv0
def tw3964702785216190081:=tv0
def tw12077373886914461638:=tv0
def tw1497406324353178654:=tv0
def tw7527667177132930485:=tv0
def tw14138855860993780963:=tv0
def tw15126938589656220858:=tv0
def tw1928662259251527492:=tv0
def tw17429224567459946769:=tv0
def tw16066957462820083021:=tv0
def tw13033429560278967442:=tv0
def tw7876392108676603496:=tv0
def tw7269047392586781935:=tv0
def tw2173095906784420960:=tv0
def tw17439935331556157594:=tv0
def tw5862963625894480699:=tv0
def tw13337800845120025837:=tv0
def tw5040477264538883317:=tv0
def tw4975995776002399469:=tv0
def tw6251169466671808045:=tv0
def tw1989056483127026372:=tv0
def tw8271141500234626054:=tv0
def tw5691661732880035843:=tv0
def tw13325072511549554686:=tv0
def tw2220583294285646355:=tv0
def tw8268347970548961635:=tv0
def tw9570473936780817352:=tv0
def tw6677417473927946941:=tv0
def tw12189276249454956419:=tv0
def tw16634655587330568350:=tv0
def tw16090653639447424967:=tv0
def tw14156007793952947373:=tv0
def tw11143112110636708581:=tv0
def tw2392361279198966945:=tv0
def tw16460340079612333947:=tv0
def tw16377037859716728143:=tv0
def tw14324289428063565492:=tv0
def tw9805103516406470824:=tv0
def tw9189023484850876521:=tv0
def tw9161347717205084124:=tv0
def tw9076628763728961359:=tv0
def tw8870569558044709221:=tv0
def tw8861626782355218584:=tv0
def tw8283949587309999594:=tv0
def tw8128523628857328920:=tv0
def tw8036484408842274239:=tv0
def tw8033645354047894155:=tv0
def tw7883464950984271840:=tv0
def tw7700655134725833795:=tv0
def tw7490615083773663358:=tv0
def tw7228264146039316721:=tv0
def tw7087222808191656137:=tv0
def tw7054981036136521220:=tv0
def tw690865568974146624:=tv0
def tw6851441065953121343:=tv0
def tw6574774530732242177:=tv0
def tw6453844787029307609:=tv0
def tw5965524701747454891:=tv0
def tw5379238575693304913:=tv0
def tw5269113428207574714:=tv0
def tw5206962823033958317:=tv0
def tw5031308650877144514:=tv0
def tw4938318943143272675:=tv0
def tw4539759577088117145:=tv0
def tw4486396902791181216:=tv0
def tw4186012946986926670:=tv0
def tw3868644563800090962:=tv0
def tw3693218398603687913:=tv0
def tw357032127669977438:=tv0
def tw351428067466411056:=tv0
def tw3443603531284296048:=tv0
def tw3096798211384655148:=tv0
def tw302179112800244321:=tv0
def tw3000822799308801024:=tv0
def tw2715142739312297508:=tv0
def tw2442650624015638540:=tv0
def tw2376030954026532016:=tv0
def tw2217051919097987371:=tv0
def tw2131763570566692206:=tv0
def tw2129357001721409885:=tv0
def tw18204330179612738296:=tv0
def tw18201172876959691555:=tv0
def tw17801916693543264203:=tv0
def tw17037461473776282482:=tv0
def tw16865393002565880841:=tv0
def tw16671343604877642269:=tv0
def tw16444908588592874605:=tv0
def tw15796386038982518278:=tv0
end PySem.W.Fast
open PySem PySem.W PyProof.Rows
set_option maxRecDepth 100000 in
set_option maxHeartbeats 0 in
theorem PySem.Challenge.cw_trunksay_k62_chances_holds : PySem.Challenge.rw_trunksay_k62_chances.Holds := by
 w_on; o_law; k_head; (case hw => w_witness2)
 k_fill
 refine L2.walkW (l := PySem.Challenge.rw_trunksay_k62_chances) (k := 42) (x := "_law_script") (G := P.f_q43) rfl rfl ⟨rfl, by decide, by decide⟩ (fun w h Y => PySem.W.kIn_of Y) ?F P.law_ok
 case F =>
  intro w mg fa h KX G hmg
  refine' P.all_mk KX G hmg ?_ ?_ ?_ ?_ ?_ ?_ ?_ ?_ ?_ ?_ ?_ ?_ ?_ ?_ ?_ ?_ ?_ ?_ ?_ ?_ ?_ ?_ ?_ ?_ ?_ ?_ ?_ ?_ ?_ ?_ ?_ ?_ ?_ ?_ ?_ ?_ ?_ ?_ ?_ ?_ ?_ ?_ ?_ ?_ ?_ ?_ ?_ ?_ ?cl_Course ?_ ?_ ?_ ?_ ?_ ?_ ?_ ?_ ?_ ?_ ?_ ?_ ?_ ?_ ?dm_Course___init__ ?dm_Course_counts_below ?dm_Course_let_all ?dm_Course_begin_part ?dm_Course_room_by ?dm_Course_offers ?dm_Course_choose ?dm_Course_filled_tree ?_ ?x_TooGreat ?_ ?_ ?_ ?_ ?_ ?_ ?_ ?_ ?_ ?_ ?_ ?_ ?_ ?_
  any_goals (refine' L2.DefIn.mk ?a ?l ?c ?k; (case a => k_is); (case l => k_is); (case c => k_is); (case k => k_is))
  any_goals k_is
  (case cl_Course => exact ⟨by kernel_rfl, by kernel_rfl, by kernel_rfl, by first | k_is | kernel_rfl⟩)
  (case dm_Course___init__ => (refine' L2.DefM.mk ?a ?i ?l ?c ?k; (case a => k_is); (case i => first | k_is | kernel_rfl); (case l => k_is); (case c => k_is); (case k => k_is)))
  (case dm_Course_counts_below => (refine' L2.DefM.mk ?a ?i ?l ?c ?k; (case a => k_is); (case i => first | k_is | kernel_rfl); (case l => k_is); (case c => k_is); (case k => k_is)))
  (case dm_Course_let_all => (refine' L2.DefM.mk ?a ?i ?l ?c ?k; (case a => k_is); (case i => first | k_is | kernel_rfl); (case l => k_is); (case c => k_is); (case k => k_is)))
  (case dm_Course_begin_part => (refine' L2.DefM.mk ?a ?i ?l ?c ?k; (case a => k_is); (case i => first | k_is | kernel_rfl); (case l => k_is); (case c => k_is); (case k => k_is)))
  (case dm_Course_room_by => (refine' L2.DefM.mk ?a ?i ?l ?c ?k; (case a => k_is); (case i => first | k_is | kernel_rfl); (case l => k_is); (case c => k_is); (case k => k_is)))
  (case dm_Course_offers => (refine' L2.DefM.mk ?a ?i ?l ?c ?k; (case a => k_is); (case i => first | k_is | kernel_rfl); (case l => k_is); (case c => k_is); (case k => k_is)))
  (case dm_Course_choose => (refine' L2.DefM.mk ?a ?i ?l ?c ?k; (case a => k_is); (case i => first | k_is | kernel_rfl); (case l => k_is); (case c => k_is); (case k => k_is)))
  (case dm_Course_filled_tree => (refine' L2.DefM.mk ?a ?i ?l ?c ?k; (case a => k_is); (case i => first | k_is | kernel_rfl); (case l => k_is); (case c => k_is); (case k => k_is)))
  (case x_TooGreat => k_exc)
