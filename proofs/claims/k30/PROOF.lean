import PyProof.Rows.All
import Wide.All
import OpenK.AllK
import Wide.FinOn
import Lean
import PyProof.EqAt
import PyProof.EqKinds
import PyProof.TupleCall
import PyProof.StrLawsIn
import PyProof.StationsW
import PyProof.NeData
import OpenK.KOwn
import PyProof.NsDelKeeps
import PyProof.ExcArgsOwn
import PyProof.ExcAttrAll.ValueError
import PyProof.IsiH_tuple
import KE.KIsAll
import PyProof.CollectStr
import PyProof.ZipIter
import PyProof.Rows.ZipGen
import PyProof.JoinWalk
import PyProof.CollectIter
import PyProof.EnumMake
import PyProof.SumAny
import PyProof.DictTruth
import KE.KDictList
import KE.KNest
import KE.KEqDict
import PyProof.ListRange
import KE.KEqSeq
import PyProof.Rows.SetFrom
import PyProof.ListMulRoad
import PyProof.Rows.SortShell
import PyProof.AttrMissHeap
import PyProof.ListNew
import PySem.Challenge.RW_trunksay_k30_not_paper
set_option Elab.async false
set_option linter.all false
set_option genSizeOf false
set_option maxRecDepth 100000

def tv0:=trivial
set_option hygiene false
local macro_rules|`(tactic|walk_at "1")=>`(tactic|refine⟨μ,ρ,st,l,RK.bind h l fun μ1 st1 x v H1 p1 x1 l1 q1 h1=>?_⟩)
local macro_rules|`(tactic|walk_at "2")=>`(tactic|obtain⟨μ,ρ,st,l,h⟩:=h)
local macro_rules|`(tactic|walk_at "3")=>`(tactic|obtain⟨μ,st,wx,wy,S,rx,ry,q⟩:=zq)
local macro_rules|`(#[0])=>`(by omega)
local macro_rules|`(#[1])=>`(cG X nm scope (cellsFrom (G2.objs.size+1) scope.names []++cl) G2.objs.size s2 H1 fp)
local macro_rules|`(#[2])=>`(model X.prog X.w)
local macro_rules|`(#[3])=>`(bY X nm scope cl C s0 H0 fp)
local macro_rules|`(#[4])=>`(.ListComp jV [⟨tg,iter,iU,0⟩] scope pos)
local macro_rules|`(#[5])=>`(.loc st.length)
local macro_rules|`(#[6])=>`((relabel scope X.env).names.lookup x=some .cell\/(relabel scope X.env).names.lookup x=some .free)
local macro_rules|`(#[7])=>`(by simp)
local macro_rules|`(#[8])=>`(by decide)
local macro_rules|`(#[9])=>`(fun _ _ _ _=>trivial)
local macro_rules|`(#[10])=>`(rs.map fun a=>W.tup [.int (a:Nat),.int (B a:Nat)])
local macro_rules|`(#[11])=>`(cO (eC (.bl false)))
local macro_rules|`(#[12])=>`(ws.map some++List.replicate (N-ws.length) none)
local macro_rules|`(#[13])=>`(fun _ z=>by cases z)
local macro_rules|`(#[14])=>`(.Subscript (.Name dn p2) (.Name en p3) p4)
local macro_rules|`(#[15])=>`(fun a=>.tup ((yV M rs B a).map W.int))
local macro_rules|`(#[16])=>`((e::es).length+([]:List Keyword).length+(if ([]:List Keyword).isEmpty then 0 else 1)<30)
local macro_rules|`(#[17])=>`(model prog w)
set_option hygiene true
open Array renaming length_toList→eQ,forIn_toList→kt,getElem?_eq_getElem→kH,getElem?_toList→mY
open Bool renaming and_eq_true→bA,false_ne_true→bC,false_eq_true→bV,not_true→eB,and_true→eV,or_eq_true→ie,eq_iff_iff→ij,not_eq_true'→iR,not_false→ko,true_and→oF
open Function renaming comp_def→dJ
open Int renaming toNat_natCast→aG,zero_add→fM,natCast_mul→ig,emod_nonneg→ii,natCast_add→ik,fdiv_eq_ediv_of_nonneg→kh,emod_lt_of_pos→ky
open LawfulBEq renaming eq_of_beq→jf
open List renaming getElem?_eq_some_iff→aa,getElem?_eq_getElem→ae,prefix_refl→af,length_map→ai,getElem?_map→ak,mem_map→al,mem_of_getElem?→ao,getElem?_append_left→av,mem_cons_of_mem→ay,append_assoc→az,getD_eq_getElem?_getD→aD,map_cons→aF,map_map→aH,prefix_append→aJ,mem_cons→aK,mem_cons_self→aM,length_append→aN,size_toArray→aO,mem_range→aT,mem_append_right→aW,getElem?_take_of_lt→aX,mem_append→a6,getElem?_of_mem→a9,map_congr_left→bb,length_take→bf,mem_singleton→bj,getElem?_range→bn,length_cons→bz,getElem?_set_self→bB,nodup_cons→bG,find?_cons→bH,append_nil→bO,getElem?_concat_length→bR,getElem?_set_ne→bS,pairwise_cons→cf,length_range→cB,map_append→cF,mem_append_left→cP,getElem?_append_right→cQ,filter_cons→cS,take_of_length_le→cU,nodup_append→c_,getElem?_eq_none→de,getElem_map→dw,map_nil→dH,length_nil→dM,lookup_cons→d8,all_eq_true→d9,pairwise_map→eL,take_length→eY,drop_eq_getElem_cons→fE,any_eq_false→fK,filterMap_cons→fV,length_drop→f7,mem_filter→gn,set_append_right→gv,take_sublist→gA,ext_getElem?→gD,take_add_one→gF,getElem_mem→gY,getElem?_zip_eq_some→g_,pairwise_iff_getElem→hG,lookup_append→iw,find?_eq_none→iA,getElem?_replicate→iG,range_succ_eq_map→iQ,length_singleton→i4,length_filter_le→i5,of_mem_zip→jE,idxOf_lt_length_of_mem→jR,nodup_nil→ku,nodup_iff_pairwise_ne→kB,findIdx?_eq_none_iff→kI,getElem?_eq_none_iff→kJ,map_id→kS,idxOf_append→kX,all_cons→lj,sum_cons→lu,any_eq_true→lQ,length_eq_zero_iff→lR,getElem?_cons_succ→lS,nodup_range→lU,not_mem_nil→lX,drop_eq_nil_of_le→mw,drop_of_length_le→mx,pairwise_lt_range→mE,nil_append→mM,length_replicate→mU,findIdx?_toArray→mX,any_cons→oE,all_map→qc
open List.Perm renaming refl→kq
open Nat renaming le_refl→au,lt_of_lt_of_le→aV,le_trans→a8,ne_of_lt→bq,lt_irrefl→bx,lt_or_ge→ca,not_lt_zero→cE,zero_le→cJ,le_of_lt→dh,le_of_not_lt→dq,le_of_ble_eq_true→fw,zero_add→fN,eq_zero_or_pos→gj,le_antisymm→gp,lt_succ_of_lt→gC,mul_le_mul→gO,lt_of_le_of_lt→iu,le_succ→iH,lt_of_succ_lt_succ→iS,lt_trichotomy→iT,lt_succ_self→jg,not_lt→jh,add_zero→jP,eq_or_lt_of_le→kA,lt_succ_iff_lt_or_eq→lw,mod_eq_of_lt→lW,ne_of_gt→mn,lt_trans→p_,sub_self→qf
open Option renaming map_eq_some_iff→a_,map_some→fI,isSome_map→iO,getD_some→lV,map_eq_none_iff→mD
open Option.some renaming inj→aU
open Prod.mk renaming inj→nL
open PyProof.Rows renaming slot_tuple_getitem→dN,boot_tuple→d_,callWith_type1→gz,wpS_bind→kw,boot_sorted→kW,subscriptTail_builtinR→mo,get?_update_seq→mO,wpS_pure→qe,boot_list→qN
open PySem renaming wpAny_bind→ac,wpAny_pure→am,wpAny_loadPart'→bv,wpAny_holding→bZ,wpAny_call_entry→cA,wpAny_newObj_type→cM,wpAny_callSpecial?_slot→cN,wpAny_truthy_bool→cZ,wpAny_mono→dG,wpAny_Call_Name_kw→fm,wpAny_passesOwn→fG,wpAny_specialOf→fH,wpAny_seqItems→f_,wpAny_typeNameOfWhole_keyiter→gb,wpAny_callSpecialIfBoundUnlessNone?_slot→gu,wpAny_dictEntries→gE,wpAny_field→gJ,wpAny_tryCatch→gK,wpAny_forIn_list→gW,wpAny_isInstance→gX,boot_len→ia,wpAny_rule→iz,sizeLine_eq→iF,codeAny_mono→iN,isSubtype_tuple_tuple→i6,wpAny_notOrdered_dict→i7,wpAny_execs_nil→jD,wpAny_updateSeq→jG,wpAny_pyIter_tuple→kg,tupleKind_room_in1→ki,wpAny_setField→kj,wpAny_tupleItemsOf→kr,wpAny_letGo→kU,wpAny_standAt→lf,wpAny_newList→ll,plainId_quiet→lq,noFill_tuple_add→lO,wpAny_getItem_of→lP,wpAny_Name→ml,call_meetsIn→mv,wpAny_call→mz,wpAny_pyNext_dict_item→mC,codeAny_builtin→mN,wpAny_ret_mkInt→mP,wpAny_isTrue_Compare1→mT,wpAny_isOneOf_keyiter→mZ,seq_tuple_add→oD,call_meets→pb,concat_meets→p8,wpAny_typeOf→p9
open PySem.Around renaming under_plainId→jt
open PySem.AutoSeq1 renaming sub_tuple_tuple→lh
open PySem.Calls renaming call_function_entry→gZ,spliced_cons→iq,callWith_builtin→iP,evalArgs_plain→jr,Name_function_global→kc,spliced_nil→kR
open PySem.F renaming slot_tuple_iterator_next→fq,args_tuple_iterator_next_1→jF,slot_dict_keyiterator_next→jH,entry_tuple_iterator_next→jQ,slot_enumerate_next→mW
open PySem.Heap renaming get?_push_of_some→ar,lt_size→aE,get?_push_size→aL,size_push→f9,get?_update_self→gr,get?_push_ne→kT,size_update→lT,get?_update_other→mq
open PySem.Heap.SameBut renaming update→b8
open PySem.Obj renaming data_mapDictKeys→gN,data_mapFields→iy,isFreed_of_fields→mV
open PySem.SeqAt renaming str_beq→oG
def aw:=@if_pos
def aC:=@if_neg
def aZ:=@decide_eq_false
def br:=@decide_eq_true
def bP:=@beq_eq_false_iff_ne
def bX:=@decide_eq_true_iff
def cL:=@congrArg
def du:=@beq_self_eq_true
def dS:=@if_true
def eN:=@beq_iff_eq
def eR:=@if_false
def fL:=@of_decide_eq_true
def my:=@dif_pos
set_option compiler.extract_closed false
noncomputable section
variable{us:List PySem.Value}{a b it f cd:PySem.Addr}{o:PySem.Obj}{P prog:PySem.Program}{h h' base:PySem.Heap}{α β:Type}{pins:List (PySem.Addr×PySem.Obj)}{s:PySem.Shared}{g':Array PySem.GenState}{t' N i j n m kk L:Nat}{ch fp μ μ':List PySem.Addr}{x name qual q:PySem.Str}{M:PySem.Model}{A:PySem.Around}{E Q Qv:PySem.Value->PySem.Shared->Prop}{v u:PySem.Value}{e c tg iter jV:PySem.Expr}{pos jp p gi p2 dF:PySem.Pos}{op:PySem.CmpOp}{K:PySem.W.Frag}{es iU GP:List PySem.Expr}{g:PySem.Value->PySem.Value->PySem.Sem PySem.Value}{body:List PySem.Stmt}{C cl:List (PySem.Str×PySem.Addr)}{mA mg:PySem.Str->Option PySem.Value}{fd:PySem.FuncData}{ps nm:List PySem.Str}{kindOf:PySem.Str->Option PySem.NameKind}{sc scope:PySem.Scope}{T:Nat->Nat->Nat->Nat}{l rs mt:List Nat}{items bJ:Array PySem.Value}{ns:List Int}{XP:(PySem.Str->Option PySem.Value)->PySem.Heap->Prop}{YP:PySem.World->PySem.Heap->Prop}{env:PySem.Env}{ks:List (Option PySem.Expr)}{cap:List (Option Nat)}{use:Option (PySem.Value->PySem.Sem Unit)}{φ:PySem.Heap->Prop}{ls:List (List Nat)}{B B':Nat->Nat}
open PySem.W (Frag)
open PySem.W (kia_one fnOf codeIn keepIn codeHdIn kla_obj nsIn mg_of fnMade sortI mg_none_of)
namespace L2
open PySem PySem.Spec PyProof.Rows
noncomputable abbrev f':=Sum Int Str
def uL:f'->Value->Bool
 |.inl k,v=>Value.isInt k v
 |.inr x,v=>Value.isStrOf x v
def R_(w:World):f'->Int
 |.inl k=>hashInt k
 |.inr x=>hashStr w x
theorem eU:∀{k:f'} {v:Value},uL k v=true->(∃i t,k=Sum.inl i/\v=Value.int i t)\/(∃x t,k=Sum.inr x/\v=Value.str x t)
 |.inl i,v,h=>by
  obtain⟨t,e⟩:=Value.isInt_shape (k:=i) (v:=v) h
  exact .inl ⟨i,t,rfl,e⟩
 |.inr x,v,h=>by
  obtain⟨t,e⟩:=Value.isStrOf_shape (x:=x) (v:=v) h
  exact .inr ⟨x,t,rfl,e⟩
theorem BZ(i:Int)(t:Tok):uL (.inl i) (.int i t)=true:=by simp[uL,Value.isInt]
theorem B5(x:Str)(t:Tok):uL (.inr x) (.str x t)=true:=by simp[uL,Value.isStrOf]
theorem La(a b:Int):decide ((Sum.inl a:f')=Sum.inl b)=(a==b):=by
 by_cases e:a=b
 ·subst e;simp
 ·have h:¬ (Sum.inl a:f')=Sum.inl b:=fun q=>e (Sum.inl.inj q)
  rw[aZ h]
  exact(bP.mpr e).symm
theorem Lb(a b:Str):decide ((Sum.inr a:f')=Sum.inr b)=decide (a=b):=by
 by_cases e:a=b
 ·subst e;simp
 ·have h:¬ (Sum.inr a:f')=Sum.inr b:=fun q=>e (Sum.inr.inj q)
  rw[aZ h,aZ e]
theorem Lc(a:Int)(b:Str):decide ((Sum.inl a:f')=Sum.inr b)=false:=aZ (fun q=>nomatch q)
theorem Ld(a:Str)(b:Int):decide ((Sum.inr a:f')=Sum.inl b)=false:=aZ (fun q=>nomatch q)
def eF(prog:Program)(w:World):PySem.KeyKind prog w f' where
 is:=uL
 hash:=R_ w
 inj:=fun v a b ha hb=>by
  rcases eU ha with⟨i,t,rfl,rfl⟩|⟨x,t,rfl,rfl⟩
  ·rcases eU hb with⟨j,u,rfl,e⟩|⟨y,u,rfl,e⟩
   ·injection e with e1 _;rw[e1]
   ·exact nomatch e
  ·rcases eU hb with⟨j,u,rfl,e⟩|⟨y,u,rfl,e⟩
   ·exact nomatch e
   ·injection e with e1 _;rw[e1]
 byValue:=fun k v h=>by
  rcases eU h with⟨i,t,rfl,rfl⟩|⟨x,t,rfl,rfl⟩<;>rfl
 pyHash:=fun hv h=>by
  rcases eU hv with⟨i,t,rfl,rfl⟩|⟨x,t,rfl,rfl⟩
  ·exact wpAny_pyHash_int h
  ·exact wpAny_pyHash_str h
 eqBool:=fun hu hv h=>by
  rcases eU hu with⟨i,t,rfl,rfl⟩|⟨x,t,rfl,rfl⟩
  ·rcases eU hv with⟨j,u,rfl,rfl⟩|⟨y,u,rfl,rfl⟩
   ·rw[La]at h;exact wpAny_eqBool_int h
   ·rw[Lc]at h;exact SeqAt.EqAt.int_str i t y u _ _ _ _ h
  ·rcases eU hv with⟨j,u,rfl,rfl⟩|⟨y,u,rfl,rfl⟩
   ·rw[Ld]at h;exact SeqAt.EqAt.str_int x t j u _ _ _ _ h
   ·rw[Lb]at h;exact wpAny_eqBool_str h
 «strs»:=fun k x t v h=>by
  rcases eU h with⟨i,u,rfl,e⟩|⟨y,u,rfl,e⟩
  ·exact nomatch e
  ·injection e with e1 _
   subst e1
   cases v<;>rfl
theorem xy(prog:Program)(w:World)(i:Int)(t:Tok):(eF prog w).is (.inl i) (.int i t)=true:=BZ i t
theorem xz(prog:Program)(w:World)(x:Str)(t:Tok):(eF prog w).is (.inr x) (.str x t)=true:=B5 x t
inductive V where
 |non|bl (b:Bool)|int (i:Int)|str (x:Str)|byt (b:Array UInt8)|flt (b:UInt64)|ref (a:Addr)|ty (n:String)
 deriving DecidableEq
def bN:V->Value->Prop
 |.non,u=>u=Value.none
 |.bl b,u=>u=Value.bool b
 |.int i,u=>∃t,u=Value.int i t
 |.str x,u=>∃t,u=Value.str x t
 |.byt b,u=>∃t,u=Value.bytes b t
 |.flt b,u=>∃t,u=Value.float b t
 |.ref a,u=>u=Value.ref a
 |.ty n,u=>u=Value.type n
abbrev cH:List V->List Value->Prop:=Paired bN
theorem cH.length{xs:List V}(r:cH xs us):xs.length=us.length:=Paired.length r
theorem cH.get:∀{xs:List V} {us:List Value} {i:Nat} {x:V},cH xs us->xs[i]?=some x->∃u,us[i]?=some u/\bN x u
 |_,_,_,_,.nil,e=>by simp at e
 |_,_,0,_,.cons r _,e=>by simp at e;subst e;exact⟨_,rfl,r⟩
 |_,_,i+1,x,.cons _ t,e=>by
  obtain⟨u,h1,h2⟩:=cH.get (i:=i) (x:=x) t (by simpa using e)
  exact⟨u,by simpa using h1,h2⟩
theorem cH.append:∀{xs ys:List V} {us ws:List Value},cH xs us->cH ys ws->cH (xs++ys) (us++ws)
 |_,_,_,_,.nil,s=>s
 |_,_,_,_,.cons r t,s=>.cons r (cH.append t s)
theorem cH.take:∀{xs:List V} {us:List Value} (n:Nat),cH xs us->cH (xs.take n) (us.take n)
 |_,_,0,_=>.nil
 |_,_,_+1,.nil=>.nil
 |_,_,n+1,.cons r t=>.cons r (cH.take n t)
theorem cH.drop:∀{xs:List V} {us:List Value} (n:Nat),cH xs us->cH (xs.drop n) (us.drop n)
 |_,_,0,r=>r
 |_,_,_+1,.nil=>.nil
 |_,_,n+1,.cons _ t=>cH.drop n t
def pe:Option V->Option Value->Prop
 |some v,some u=>bN v u
 |none,none=>True
 |_,_=>False
def KV{κ:Type}:List (κ×V)->List (κ×Value)->Prop:=Paired fun(p:κ×V) (q:κ×Value)=>p.1=q.1/\bN p.2 q.2
def kV:f'->V
 |.inl i=>.int i
 |.inr x=>.str x
inductive HO where
 /-- a list -/
 |lst (xs:List V)
 /-- a tuple (never changes) -/
 |tup (xs:List V)
 /-- a dict whose keys are ints and texts;one whose keys are tuples of ints and texts (the empty one is both) -/
 |dK (kvs:List (f'×V))|dT (kvs:List (List f'×V))
 /-- a set of ints: bJ members,bJ size -/
 |set (S:Int->Bool) (n:Nat)
 /-- an instance of the class at C,bJ dict at dx,bJ attributes -/
 |ins (C dx:Addr) (fs:List (Str×V))
 /-- the dict of the instance at x -/
 |own (x:Addr)
 /-- the dict of an exception -/
 |xd (fs:List (Str×V))
 /-- a bound method,f of x -/
 |met (f x:Addr)
 /-- a range object lo,lo+1,.. below hi -/
 |rng (lo hi:Int)
 /-- a thing that is known to the object (the script;a dict while a loop walks it): read,never written while it is so -/
 |frz (o:Obj) (u:HO)
 /-- a code object's table -/
 |tbl (ps:Array Value)
 /-- any other thing,by what is true of bJ one object (a def of T3 own: SetO a S n:=HO.ext fun h=>..) -/
 |ext (φ:Heap->Prop)
noncomputable abbrev Hp:=Addr->Option HO
def eW(H:Hp)(a:Addr)(o:HO):Hp:=fun b=>if b=a then some o else H b
theorem dB{H:Hp}{o:HO}:eW H a o a=some o:=by unfold eW;rw[aw rfl]
theorem cw{H:Hp}{o:HO}(h:b≠a):eW H a o b=H b:=by unfold eW;rw[aC h]
theorem OA{H:Hp}{o u:HO}(h:H a=some o)(h':H b=some u)(d:o≠u):a≠b:=by
 intro e;subst e;rw[h]at h';exact d (aU h')
theorem eZ{H:Hp}{o:HO}(h:H a=some o)(h':H b=none):a≠b:=by
 intro e;subst e;rw[h]at h';cases h'
section
variable(P:Program)(w:World)
def eD(H:Hp)(h:Heap)(a:Addr):HO->Prop
 |.lst xs=>xs.length<=sizeLine/\∃(bJ:List Value) (n:Nat),cH xs bJ/\h.get? a=some { cls:=.type "list",data:=.seq bJ.toArray n }
 |.tup xs=>xs.length<=sizeLine/\∃bJ:List Value,cH xs bJ/\IsTup h a bJ.toArray
 |.dK kvs=>kvs.length<=sizeLine/\(a==sysModules)=false/\∃vs,KV kvs vs/\h.DictOf (eF P w) a vs
 |.dT kvs=>kvs.length<=sizeLine/\(a==sysModules)=false/\∃xs:List (List f'×Addr×Value),
   Paired (fun(p:List f'×V) (q:List f'×Addr×Value)=>p.1=q.1/\H q.2.1=some (.tup (p.1.map kV))/\bN p.2 q.2.2) kvs xs /\
   ∃o es ep,h.get? a=some o/\o.ExactDict/\o.data=.dict es ep/\es.toList=xs.map (entryOfKey (tupleKind (eF P w)))/\(xs.map (·.1)).Nodup
 |.set S n=>h.SetOf (intKind P w) a S n
 |.ins C dx fs=>H dx=some (.own a)/\fs.length<=1000/\dx≠a/\h.get? a=some (PySem.W.instObj C dx) /\
   ∃mA,h.Ns1 dx mA/\(∀f,pe (fs.lookup f) (mA f))/\PySem.Within mA (fs.map (·.1))
 |.own _=>∃o,h.get? a=some o
 |.xd fs=>∃mA,h.Ns1 a mA/\∀f,pe (fs.lookup f) (mA f)
 |.rng lo hi=>∃t u v,h.get? a=some { cls:=.type "range",data:=.fields #[.int lo t,.int hi u,.int 1 v] }
 |.frz o u=>h.get? a=some o/\eD H h a u
 |.tbl ps=>h.get? a=some { cls:=.none,data:=.fields ps }
 |.met f x=>h.get? a=some (PySem.W.methodObj (.ref f) (.ref x))
 |.ext φ=>φ h/\(∃o,h.get? a=some o)/\∀h1 h2:Heap,φ h1->(∀o,h1.get? a=some o->h2.get? a=some o)->φ h2
def kC(H:Hp)(h:Heap):Prop:=∀a o,H a=some o->eD P w H h a o
end
section
variable{w:World}{H H':Hp}{o:HO}
theorem eD.lt(x:eD P w H h a o):a<h.objs.size:=by
 cases o with
 |lst xs=>obtain⟨_,_,_,_,e⟩:=x;exact aE e
 |tup xs=>obtain⟨_,_,_,p⟩:=x;exact p.lt
 |dK kvs=>obtain⟨_,_,_,_,o,_,_,e,_⟩:=x;exact aE e
 |dT kvs=>obtain⟨_,_,_,_,o,_,_,e,_⟩:=x;exact aE e
 |set S n=>obtain⟨o,_,_,_,e,_⟩:=x;exact aE e
 |ins C dx fs=>obtain⟨_,_,_,e,_⟩:=x;exact aE e
 |own y=>obtain⟨_,e⟩:=x;exact aE e
 |xd fs=>obtain⟨_,⟨_,_,_,e,_⟩,_⟩:=x;exact aE e
 |rng lo hi=>obtain⟨_,_,_,e⟩:=x;exact aE e
 |frz ob u=>obtain⟨e,_⟩:=x;exact aE e
 |tbl ps=>exact aE (show h.get? a=some _ from x)
 |met f y=>exact aE (show h.get? a=some _ from x)
 |ext φ=>obtain⟨_,⟨_,e⟩,_⟩:=x;exact aE e
theorem Paired.mapP{F G:α->β->Prop}:∀{l₁:List α} {l₂:List β},Paired F l₁ l₂->(∀a b,F a b->G a b)->Paired G l₁ l₂
 |_,_,.nil,_=>.nil
 |_,_,.cons r t,f=>.cons (f _ _ r) (Paired.mapP t f)
theorem Paired.imp'{F G:α->β->Prop}(f:∀a b,F a b->G a b){l₁:List α}{l₂:List β}(r:Paired F l₁ l₂):Paired G l₁ l₂:=Paired.mapP r f
theorem eD.stay(x:eD P w H h a o)(k:∀b u,(b=a\/H b=some (.own a))->h.get? b=some u->h'.get? b=some u)
  (ho:∀b,H b=some (.own a)->H' b=some (.own a)) (ht:∀b xs,H b=some (.tup xs)->H' b=some (.tup xs)):eD P w H' h' a o:=by
 induction o with
 |lst xs=>obtain⟨z,bJ,n,r,e⟩:=x;exact⟨z,bJ,n,r,k _ _ (.inl rfl) e⟩
 |tup xs=>obtain⟨z,bJ,r,ob,e,c⟩:=x;exact⟨z,bJ,r,ob,k _ _ (.inl rfl) e,c⟩
 |dK kvs=>obtain⟨z,y,vs,r,ob,es,ep,e,c⟩:=x;exact⟨z,y,vs,r,ob,es,ep,k _ _ (.inl rfl) e,c⟩
 |dT kvs=>
  obtain⟨z,y,xs,r,ob,es,ep,e,c⟩:=x
  exact⟨z,y,xs,Paired.mapP r fun p q z=>⟨z.1,ht _ _ z.2.1,z.2.2⟩,ob,es,ep,k _ _ (.inl rfl) e,c⟩
 |set S n=>obtain⟨ob,es,ep,t,e,c⟩:=x;exact⟨ob,es,ep,t,k _ _ (.inl rfl) e,c⟩
 |ins C dx fs=>
  obtain⟨d,z,ne,e,mA,⟨od,es,ep,e2,c⟩,r⟩:=x
  exact⟨ho _ d,z,ne,k _ _ (.inl rfl) e,mA,⟨od,es,ep,k _ _ (.inr d) e2,c⟩,r⟩
 |own y=>obtain⟨ob,e⟩:=x;exact⟨ob,k _ _ (.inl rfl) e⟩
 |xd fs=>obtain⟨mA,⟨od,es,ep,e,c⟩,r⟩:=x;exact⟨mA,⟨od,es,ep,k _ _ (.inl rfl) e,c⟩,r⟩
 |rng lo hi=>obtain⟨t,u,v,e⟩:=x;exact⟨t,u,v,k _ _ (.inl rfl) e⟩
 |frz ob u ih=>obtain⟨e,q⟩:=x;exact⟨k _ _ (.inl rfl) e,ih q⟩
 |tbl ps=>
  have e:h.get? a=some { cls:=.none,data:=.fields ps }:=x
  show h'.get? a=some { cls:=.none,data:=.fields ps }
  exact k a _ (.inl rfl) e
 |met f y=>
  have e:h.get? a=some (PySem.W.methodObj (.ref f) (.ref y)):=x
  show h'.get? a=some (PySem.W.methodObj (.ref f) (.ref y))
  exact k a _ (.inl rfl) e
 |ext φ=>obtain⟨p,⟨o,e⟩,st⟩:=x;exact⟨st _ _ p fun o q=>k _ _ (.inl rfl) q,⟨o,k _ _ (.inl rfl) e⟩,st⟩
theorem kC.lt(x:kC P w H h)(e:H a=some o):a<h.objs.size:=(x a o e).lt
theorem kC.fresh(x:kC P w H h)(e:h.objs.size<=a):H a=none:=by
 cases q:H a with
 |none=>rfl
 |some u=>exact absurd (aV (x.lt q) e) (bx _)
theorem kC.kept(x:kC P w H h)(k:∀b u,h.get? b=some u->h'.get? b=some u):kC P w H h':=fun a o e=>
 (x a o e).stay (fun b u _ q=>k b u q) (fun _ q=>q) fun _ _ q=>q
theorem kC.laid(x:kC P w H h)(k:∀b u,h.get? b=some u->h'.get? b=some u)(hp:h.objs.size<=a)(new:eD P w (eW H a o) h' a o):kC P w (eW H a o) h':=fun b u e=>by
 have hn:=x.fresh hp
 by_cases hb:b=a
 ·subst hb;rw[dB]at e;cases e;exact new
 ·rw[cw hb]at e
  exact(x b u e).stay (fun c v _ q=>k c v q) (fun c q=>by rw[cw (eZ q hn)];exact q) fun c xs q=>by rw[cw (eZ q hn)];exact q
end
def Rd(H:Hp)(a:Addr)(u:HO):Prop:=H a=some u\/∃o,H a=some (.frz o u)
theorem Rd.ok{w:World}{H:Hp}{u:HO}(r:Rd H a u)(x:kC P w H h):eD P w H h a u:=by
 rcases r with r|⟨o,r⟩
 ·exact x a u r
 ·obtain⟨_,q⟩:=x a _ r
  exact q
def Le:Option HO->Prop
 |some (.lst _)=>True
 |some (.dK _)=>True
 |some (.dT _)=>True
 |some (.set _ _)=>True
 |some (.ins _ _ _)=>True
 |some (.ext _)=>True
 |_=>False
section
variable{w:World}{H:Hp}{x e:Addr}{o':HO}
theorem kC.write(ok:kC P w H h)(mu:Le (H x))(he:e=x\/H e=some (.own x))(k:∀b u,b≠e->h.get? b=some u->h'.get? b=some u)(Oz:∃u,h'.get? e=some u)
  (new:eD P w (eW H x o') h' x o'):kC P w (eW H x o') h':=fun b u q=>by
 have nown:∀c y,H c=some (.own y)->c≠x:=fun c y r z=>by subst z;rw[r]at mu;exact mu
 have ntup:∀c xs,H c=some (.tup xs)->c≠x:=fun c xs r z=>by subst z;rw[r]at mu;exact mu
 by_cases hb:b=x
 ·subst hb;rw[dB]at q;cases q;exact new
 ·rw[cw hb]at q
  by_cases hbe:b=e
  ·have q':H b=some (.own x):=by
    rcases he with z|z
    ·exact absurd (hbe.trans z) hb
    ·rw[hbe];exact z
   rw[q]at q';cases q'
   obtain⟨v,hv⟩:=Oz
   exact⟨v,by rw[hbe];exact hv⟩
  ·refine(ok b u q).stay (fun c v hc r=>k c v ?_ r) (fun c r=>by rw[cw (nown c b r)];exact r) fun c xs r=>by rw[cw (ntup c xs r)];exact r
   rcases hc with rfl|hc
   ·exact hbe
   ·rintro rfl
    rcases he with z|z
    ·exact nown c b hc z
    ·rw[hc]at z;cases z;exact hb rfl
end
structure Un(fs ex:List Addr)(H H':Hp)(h h':Heap):Prop where
 keep:∀b o,h.get? b=some o->H b=none->b∉fs->b∉ex->h'.get? b=some o
 slot:∀b o,h.get? b=some o->H b=none->b∈fs->b∉ex->∃sl,h'.get? b=some { o with slots:=sl }
 free:∀b o,h.get? b=some o->H b=none->b∉ex->H' b=none
 there:∀b o,h.get? b=some o->b∉ex->∃o',h'.get? b=some o'
 tups:∀b xs,H b=some (.tup xs)->H' b=some (.tup xs)
 frzs:∀b o u,H b=some (.frz o u)->H' b=some (.frz o u)
 tbls:∀b ps,H b=some (.tbl ps)->∃j_,H' b=some (.tbl (ps++j_))
section
variable{fs Ut ex UE:List Addr}{H H1 H2:Hp}{h1 h2:Heap}{x e:Addr}{o:HO}
theorem Un.any(u:Un fs ex H H1 h h1){ob:Obj}(q:h.get? b=some ob)(n:H b=none)(hx:b∉ex):∃sl,h1.get? b=some { ob with slots:=sl }:=by
 by_cases hb:b∈fs
 ·exact u.slot b ob q n hb hx
 ·exact⟨ob.slots,u.keep b ob q n hb hx⟩
theorem Un.kept(k:∀b u,h.get? b=some u->h'.get? b=some u):Un fs ex H H h h':=
 ⟨fun b ob q _ _ _=>k b ob q,fun b ob q _ _ _=>⟨ob.slots,k b ob q⟩,fun _ _ _ n _=>n,fun b ob q _=>⟨ob,k b ob q⟩,fun _ _ q=>q,fun _ _ _ q=>q,fun _ ps q=>⟨#[],by rw[q];simp⟩⟩
theorem Un.refl:Un fs ex H H h h:=Un.kept fun _ _ q=>q
theorem Un.laid(k:∀b u,h.get? b=some u->h'.get? b=some u)(hp:h.objs.size<=a)(hn:H a=none):Un fs ex H (eW H a o) h h' where
 keep:=fun b u q _ _ _=>k b u q
 slot:=fun b u q _ _ _=>⟨u.slots,k b u q⟩
 free:=fun b u q n _=>by rw[cw (bq (aV (aE q) hp))];exact n
 there:=fun b u q _=>⟨u,k b u q⟩
 tups:=fun b xs q=>by rw[cw (eZ q hn)];exact q
 frzs:=fun b u xs q=>by rw[cw (eZ q hn)];exact q
 tbls:=fun b ps q=>⟨#[],by rw[cw (eZ q hn),q];simp⟩
theorem Un.write(mu:Le (H x))(he:e=x\/H e=some (.own x))(k:∀b u,b≠e->h.get? b=some u->h'.get? b=some u)(Oz:∃u,h'.get? e=some u):Un fs ex H (eW H x o) h h':=by
 have hx:∀b,H b=none->b≠x:=fun b n z=>by subst z;rw[n]at mu;exact mu
 have hb:∀b,H b=none->b≠e:=fun b n z=>by
  subst z
  rcases he with r|r
  ·exact hx b n r
  ·rw[n]at r;cases r
 have hm:∀b u,H b=some u->¬ Le (some u)->b≠x:=fun b u q nm z=>by subst z;rw[q]at mu;exact nm mu
 refine⟨fun b u q n _ _=>k b u (hb b n) q,fun b u q n _ _=>⟨u.slots,k b u (hb b n) q⟩,fun b u q n _=>by rw[cw (hx b n)];exact n,fun b u q _=>?_,
  fun b xs q=>by rw[cw (hm b _ q fun z=>z)];exact q,fun b u xs q=>by rw[cw (hm b _ q fun z=>z)];exact q,fun b ps q=>⟨#[],by rw[cw (hm b _ q fun z=>z),q];simp⟩⟩
 by_cases hbe:b=e
 ·subst hbe;exact Oz
 ·exact⟨u,k b u hbe q⟩
end
def RJ(h:Heap)(H:Hp):List Addr:=(List.range h.objs.size).filter fun a=>(H a).isSome
def uq(h:Heap)(H:Hp):Heap:=PySem.W.hideAll h (RJ h H)
theorem B6(h:Heap)(H:Hp):(uq h H).objs.size=h.objs.size:=PySem.W.hideAll_size _ _
theorem Dw{H:Hp}(e:h.get? b=some o)(n:H b=none):(uq h H).get? b=some o:=
 PySem.W.hideAll_get _ e fun hm=>by
  have q:(H b).isSome=true:=(gn.mp hm).2
  rw[n]at q;simp at q
theorem Hm{H:Hp}(e:(uq h H).get? b=some o):h.get? b=some o/\H b=none:=by
 have e':h.get? b=some o:=PySem.W.of_hideAll (RJ h H) e
 refine⟨e',?_⟩
 cases q:H b with
 |none=>rfl
 |some x=>
  have hm:b∈RJ h H:=gn.mpr ⟨aT.mpr (aE e'),by simp[q]⟩
  have z:(uq h H).get? b=none:=PySem.W.hideAll_none (RJ h H) hm
  rw[z]at e;cases e
noncomputable def Ho(g h:Heap)(L:Addr):List (Addr×Obj):=(List.range h.objs.size).filterMap fun a=>if a=L\/(g.get? a).isSome=true then none else(h.get? a).map fun o=>(a,o)
def rest(g h:Heap)(L d:Addr):List (Addr×Obj):=(Ho g h L).filter fun p=>decide (p.1≠d)
structure Mod(K:Frag)(mg:Str->Option Value)(base:Heap):Prop where
 kin:K.In base
 glob:base.Ns mainGlobals mg
 blt:∃mb,base.Ns builtinsNs mb/\∀x:Str,x ≠ "__name__"->mb x=bootBuiltins x
 nolimit:base.NoLimit
structure Cx where
 prog:Program
 w:World
 K:Frag
 mg:Str->Option Value
 base:Heap
 A:Around
 N:List Str
 s₀:Shared
 H₀:Hp
 env:Env
 outer:List Env
 stack:List Env
 ex:List Addr
 fn:Str->Bool
 calm:Bool
 pn:List (Addr×Obj)
 xe:Value->Shared->Prop
noncomputable def uo(l:List Env):List Addr:=l.filterMap (·.frame)
abbrev Cx.fs(X:Cx):List Addr:=uo X.outer
def Oi(sc:Scope)(x:Str):Prop:=sc.names.lookup x=some .local\/sc.names.lookup x=some .cell\/sc.names.lookup x=some .free
def B8(sc:Scope)(x:Str):Prop:=sc.names.lookup x=some .local\/sc.names.lookup x=some .cell
def R'(env:Env)(h:Heap)(m:Str->Option Value)(x:Str)(u:Value):Prop:=
 (env.kindOf x=some .local/\m x=some u)\/((env.kindOf x=some .cell\/env.kindOf x=some .free)/\∃c,env.cells.lookup x=some c/\h.IsCell c (some u))
structure Cx.Ok(X:Cx):Prop where
 mod:Mod X.K X.mg X.base
 kind:X.env.scope.kind=.function
 glob:X.env.globals=mainGlobals
 blt:X.env.builtins=builtinsNs
 above:X.s₀.heap.objs.size<=X.env.locals
 inj:∀x y c,X.env.cells.lookup x=some c->X.env.cells.lookup y=some c->x=y
 has:∀x,(X.env.kindOf x=some .cell\/X.env.kindOf x=some .free)->∃c,X.env.cells.lookup x=some c
 cab:∀x c,X.fn x=true->X.env.cells.lookup x=some c->X.s₀.heap.objs.size<=c
 hd:X.calm=true->X.A.handled=none
 frames:X.A.frames=some X.stack
 stk:X.stack=X.outer\/(X.stack=X.env::X.outer/\X.env.frame=some X.env.locals)
 exf:∀b∈X.ex,b≠X.env.locals/\∀x c,X.env.cells.lookup x=some c->c≠b
 bs:∀b o,X.base.get? b=some o->X.s₀.heap.get? b=some o/\X.H₀ b=none
 bsz:X.base.objs.size<=X.s₀.heap.objs.size
 noex:∀b o,X.base.get? b=some o->b∉X.ex
 exfs:∀b∈X.ex,b∉X.fs
 funs:X.s₀.heap.FunFrames X.base X.outer
 frf:∀b∈X.fs,X.H₀ b=none
structure bw(X:Cx)(pins:List (Addr×Obj))(σ:List (Option V))(H:Hp)(s:Shared):Prop where
 ok:X.Ok
 os:s.os=X.s₀.os
 bare:AllBare s.gens
 base:Un X.fs X.ex X.H₀ H X.s₀.heap s.heap
 loc:∃m,s.heap.Ns X.env.locals m/\∀(i:Nat) (x:Str) (v:V),X.N[i]?=some x->σ[i]?=some (some v)->Oi X.env.scope x->∃u,bN v u/\R' X.env s.heap m x u
 cell:∀x c,X.env.cells.lookup x=some c->∃v,s.heap.IsCell c v
 free:H X.env.locals=none
 freeC:∀x c,X.env.cells.lookup x=some c->H c=none
 pin:∀p∈X.pn++pins,s.heap.get? p.1=some p.2/\H p.1=none/\p.1≠X.env.locals/\p.1∉X.fs/\∀v,p.2.data≠.cell v
 hok:kC X.prog X.w H s.heap
 len:σ.length=X.N.length
section
variable{X:Cx}{σ:List (Option V)}{H H':Hp}
theorem Cx.Ok.nofr(ok:X.Ok)(e:X.base.get? b=some o):b∉X.fs:=fun hb=>by
 have:=(ok.funs.mem hb).1
 rw[e]at this;cases this
theorem bw.bs(I:bw X pins σ H s):∀b o,X.base.get? b=some o->s.heap.get? b=some o/\H b=none:=fun b o e=>
 ⟨I.base.keep b o (I.ok.bs b o e).1 (I.ok.bs b o e).2 (I.ok.nofr e) (I.ok.noex b o e),I.base.free b o (I.ok.bs b o e).1 (I.ok.bs b o e).2 (I.ok.noex b o e)⟩
theorem bw.bk(I:bw X pins σ H s):∀b o,X.base.get? b=some o->s.heap.get? b=some o:=fun b o e=>(I.bs b o e).1
theorem bw.mod(I:bw X pins σ H s):Mod X.K X.mg X.base:=I.ok.mod
theorem bw.kIn(I:bw X pins σ H s):X.K.In s.heap:=I.ok.mod.kin.keeps I.bk
theorem bw.nolimit(I:bw X pins σ H s):s.heap.NoLimit:=I.ok.mod.nolimit.keeps I.bk
theorem bw.lt(I:bw X pins σ H s):X.env.locals<s.heap.objs.size:=let ⟨_,hn,_⟩:=I.loc;hn.lt
theorem bw.sz(I:bw X pins σ H s):X.s₀.heap.objs.size<=s.heap.objs.size:=a8 I.ok.above (dh I.lt)
theorem bw.nofs(I:bw X pins σ H s)(h:s.heap.objs.size<=a):a∉X.fs:=fun hb=>by
 obtain⟨_,o,ho,_⟩:=I.ok.funs.mem hb
 exact absurd (aV (aE ho) (a8 I.sz h)) (bx _)
theorem bw.cne(I:bw X pins σ H s):∀x c,X.env.cells.lookup x=some c->c≠X.env.locals:=fun x c e z=>by
 obtain⟨v,o,ho,hd⟩:=I.cell x c e
 obtain⟨m,⟨o',es,ep,ho',hd',_⟩,_⟩:=I.loc
 rw[z,ho']at ho;cases ho;rw[hd']at hd;cases hd
theorem bw.funs(I:bw X pins σ H s):s.heap.FunFrames X.base X.outer:=by
 have all:∀(l:List Env),(∀b∈uo l,b∈X.fs)->X.s₀.heap.FunFrames X.base l->s.heap.FunFrames X.base l:=by
  intro l
  induction l with
  |nil=>intro _ _;trivial
  |cons env r ih=>
   intro hs hl
   obtain⟨hk,⟨L,o,hf,hn,ho,hd⟩,hr⟩:=hl
   have hL:L∈X.fs:=hs L (by unfold uo;rw[fV,hf];exact aM)
   obtain⟨sl,e⟩:=I.base.slot L o ho (I.ok.frf L hL) hL fun z=>I.ok.exfs L z hL
   exact⟨hk,⟨L,_,hf,hn,e,hd⟩,ih (fun b hb=>hs b (by unfold uo;rw[fV,hf];exact ay _ hb)) hr⟩
 exact all X.outer (fun _ hb=>hb) I.ok.funs
theorem bw.stack(I:bw X pins σ H s):s.heap.FunFrames X.base X.stack:=by
 rcases I.ok.stk with e|⟨e,hf⟩
 ·rw[e];exact I.funs
 ·rw[e]
  obtain⟨m,hn,_⟩:=I.loc
  refine .cons (by rw[I.ok.kind];decide) hf hn ?_ I.funs
  exact Heap.get?_none_of_le (a8 I.ok.bsz I.ok.above)
theorem bw.stkSub(I:bw X pins σ H s):∀b∈uo X.stack,b∈X.env.locals::X.fs:=fun b hb=>by
 rcases I.ok.stk with e|⟨e,hf⟩
 ·rw[e]at hb;exact ay _ hb
 ·rw[e]at hb
  unfold uo at hb
  rw[fV,hf]at hb
  exact hb
theorem bw.stkFree(I:bw X pins σ H s):∀b∈uo X.stack,H b=none:=fun b hb=>by
 rcases aK.mp (I.stkSub b hb)with e|hb
 ·rw[e];exact I.free
 ·obtain⟨_,o,ho,_⟩:=I.ok.funs.mem hb
  exact I.base.free b o ho (I.ok.frf b hb) fun z=>I.ok.exfs b z hb
theorem bw.step{g':Array GenState}{t':Nat}{d':Drawn}{ch:List Addr}(I:bw X pins σ H s)
  (Hj:∀b∈ch,(b∈X.ex\/X.s₀.heap.objs.size<=b)/\b≠X.env.locals/\(∀x c,X.env.cells.lookup x=some c->c≠b)/\∀p∈X.pn++pins,p.1≠b)
  (keep:∀b o,b≠X.env.locals->b∉X.fs->b∉ch->s.heap.get? b=some o->H b=none->h'.get? b=some o)
  (slot:∀b o,b≠X.env.locals->b∈X.fs->b∉ch->s.heap.get? b=some o->H b=none->∃sl,h'.get? b=some { o with slots:=sl }) (free:∀b o,b∉ch->s.heap.get? b=some o->H b=none->H' b=none)
  (there:∀b o,b∉ch->s.heap.get? b=some o->∃o',h'.get? b=some o')
  (tups:∀b xs,H b=some (.tup xs)->H' b=some (.tup xs)) (frzs:∀b o u,H b=some (.frz o u)->H' b=some (.frz o u)) (tbls:∀b ps,H b=some (.tbl ps)->∃j_,H' b=some (.tbl (ps++j_)))
  (ns:∀m,s.heap.Ns X.env.locals m->h'.Ns X.env.locals m) (hok:kC X.prog X.w H' h') (hg:AllBare g') :
  bw X pins σ H' { s with heap:=h',gens:=g',drawn:=d',toks:=t' }:=by
 have neL:∀b o,X.s₀.heap.get? b=some o->b≠X.env.locals:=fun b o e=>bq (aV (aE e) I.ok.above)
 have neC:∀b o,X.s₀.heap.get? b=some o->b∉X.ex->b∉ch:=fun b o e hx hb=>by
  rcases(Hj b hb).1 with z|z
  ·exact hx z
  ·exact absurd (aV (aE e) z) (bx _)
 have cellK:∀x c,X.env.cells.lookup x=some c->∀v,s.heap.IsCell c v->h'.IsCell c v:=fun x c e v zq=>by
  obtain⟨o,ho,hd⟩:=zq
  have nch:c∉ch:=fun z=>(Hj c z).2.2.1 x c e rfl
  by_cases hc:c∈X.fs
  ·obtain⟨sl,q⟩:=slot c o (I.cne x c e) hc nch ho (I.freeC x c e)
   exact⟨_,q,hd⟩
  ·exact⟨o,keep c o (I.cne x c e) hc nch ho (I.freeC x c e),hd⟩
 refine⟨I.ok,I.os,hg,⟨fun b o e n hb hx=>?_,fun b o e n hb hx=>?_,fun b o e n hx=>?_,fun b o e hx=>?_,fun b xs e=>tups b xs (I.base.tups b xs e),fun b o xs e=>frzs b o xs (I.base.frzs b o xs e),fun b ps e=>?_⟩,?_,fun x c e=>?_,?_,fun x c e=>?_,fun p hp=>?_,hok,I.len⟩
 ·exact keep b o (neL b o e) hb (neC b o e hx) (I.base.keep b o e n hb hx) (I.base.free b o e n hx)
 ·obtain⟨sl,e1⟩:=I.base.slot b o e n hb hx
  obtain⟨sl',e2⟩:=slot b _ (neL b o e) hb (neC b o e hx) e1 (I.base.free b o e n hx)
  exact⟨sl',e2⟩
 ·obtain⟨o',e1⟩:=I.base.there b o e hx
  exact free b o' (neC b o e hx) e1 (I.base.free b o e n hx)
 ·obtain⟨o',e1⟩:=I.base.there b o e hx
  exact there b o' (neC b o e hx) e1
 ·obtain⟨m1,e1⟩:=I.base.tbls b ps e
  obtain⟨m2,e2⟩:=tbls b _ e1
  exact⟨m1++m2,by rw[e2,Array.append_assoc]⟩
 ·obtain⟨m,hn,hl⟩:=I.loc
  refine⟨m,ns m hn,fun i x v e1 e2 e3=>?_⟩
  obtain⟨u,r,l⟩:=hl i x v e1 e2 e3
  refine⟨u,r,?_⟩
  rcases l with l|⟨k,c,e,z⟩
  ·exact .inl l
  ·exact .inr ⟨k,c,e,cellK x c e _ z⟩
 ·obtain⟨v,z⟩:=I.cell x c e
  exact⟨v,cellK x c e v z⟩
 ·obtain⟨m,⟨o,_,_,ho,_⟩,_⟩:=I.loc
  exact free _ o (fun z=>(Hj _ z).2.1 rfl) ho I.free
 ·obtain⟨v,o,ho,hd⟩:=I.cell x c e
  exact free c o (fun z=>(Hj c z).2.2.1 x c e rfl) ho (I.freeC x c e)
 ·obtain⟨e,n,ne,nf,d⟩:=I.pin p hp
  have nch:p.1∉ch:=fun z=>(Hj p.1 z).2.2.2 p hp rfl
  exact⟨keep p.1 p.2 ne nf nch e n,free p.1 p.2 nch e n,ne,nf,d⟩
theorem bw.un{t':Nat}(I:bw X pins σ H s)(u:Un X.fs [] H H' s.heap h')(hok:kC X.prog X.w H' h'):bw X pins σ H' { s with heap:=h',toks:=t' }:=by
 obtain⟨m,⟨o,es,ep,ho,r⟩,_⟩:=id I.loc
 obtain⟨sl,hL⟩:=u.any ho I.free #[7]
 exact I.step (g':=s.gens) (d':=s.drawn) (ch:=[]) (fun _ z=>nomatch z) (fun b o _ hb _ e n=>u.keep b o e n hb #[7]) (fun b o _ hb _ e n=>u.slot b o e n hb #[7]) (fun b o _ e n=>u.free b o e n #[7]) (fun b o _ e=>u.there b o e #[7]) u.tups u.frzs u.tbls (fun m' hm=>by
  obtain⟨o',es',ep',ho',r'⟩:=hm
  rw[ho]at ho';cases ho'
  exact⟨_,es',ep',hL,r'⟩) hok I.bare
theorem bw.call{g':Array GenState}{t':Nat}{d':Drawn}{ch:List Addr}(I:bw X pins σ H s)(u:Un (uo X.stack) ch H H' s.heap h')(hok:kC X.prog X.w H' h')(hg:AllBare g')
  (Hj:∀b∈ch,(b∈X.ex\/X.s₀.heap.objs.size<=b)/\b≠X.env.locals/\(∀x c,X.env.cells.lookup x=some c->c≠b)/\∀p∈X.pn++pins,p.1≠b) :
  bw X pins σ H' { s with heap:=h',gens:=g',drawn:=d',toks:=t' }:=by
 obtain⟨m,⟨o,es,ep,ho,r⟩,_⟩:=id I.loc
 obtain⟨sl,hL⟩:=u.any ho I.free fun z=>(Hj _ z).2.1 rfl
 exact I.step (ch:=ch) Hj (fun b o hL hb hc e n=>u.keep b o e n (fun z=>(aK.mp (I.stkSub b z)).elim hL hb) hc) (fun b o _ _ hc e n=>u.any e n hc) (fun b o hc e n=>u.free b o e n hc) (fun b o hc e=>u.there b o e hc) u.tups u.frzs u.tbls (fun m' hm=>by
  obtain⟨o',es',ep',ho',r'⟩:=hm
  rw[ho]at ho';cases ho'
  exact⟨_,es',ep',hL,r'⟩) hok hg
theorem bw.turned{t':Nat}{it:Addr}(I:bw X pins σ H s)(k:∀b o,b≠it->s.heap.get? b=some o->h'.get? b=some o)(hn:H it=none)(hL:it≠X.env.locals)
  (h1:it∈X.ex\/X.s₀.heap.objs.size<=it) (h2:∀x c,X.env.cells.lookup x=some c->c≠it) (h3:∀p∈X.pn++pins,p.1≠it):bw X pins σ H { s with heap:=h',toks:=t' }:=by
 have nit:∀b u,H b=some u->b≠it:=fun b u e z=>by rw[z,hn]at e;cases e
 refine I.step (g':=s.gens) (d':=s.drawn) (ch:=[it]) (fun b hb=>?_) (fun b o _ _ hc e _=>k b o (fun z=>hc (by simp[z])) e) (fun b o _ _ hc e _=>⟨o.slots,k b o (fun z=>hc (by simp[z])) e⟩) (fun _ _ _ _ n=>n)
  (fun b o hc e=>⟨o,k b o (fun z=>hc (by simp[z])) e⟩) (fun _ _ e=>e) (fun _ _ _ e=>e) (fun b ps e=>⟨#[],by rw[e];simp⟩) (fun m hm=>?_) (fun b u e=>?_) I.bare
 ·have e:b=it:=by simpa using hb
  subst e
  exact⟨h1,hL,h2,h3⟩
 ·obtain⟨o,es,ep,ho,r⟩:=hm
  exact⟨o,es,ep,k _ o (Ne.symm hL) ho,r⟩
 ·refine(I.hok b u e).stay (fun c v hc q=>k c v ?_ q) (fun _ q=>q) fun _ _ q=>q
  rcases hc with z|z
  ·rw[z];exact nit b u e
  ·exact nit c _ z
theorem bw.tok(I:bw X pins σ H s)(t:Nat):bw X pins σ H { s with toks:=t }:=I.un (h':=s.heap) (t':=t) Un.refl I.hok
theorem bw.kept{t':Nat}(I:bw X pins σ H s)(k:∀b u,s.heap.get? b=some u->h'.get? b=some u):bw X pins σ H { s with heap:=h',toks:=t' }:=I.un (Un.kept k) (I.hok.kept k)
theorem bw.laid{a:Addr}{o:HO}{t':Nat}(I:bw X pins σ H s)(k:∀b u,s.heap.get? b=some u->h'.get? b=some u)(hp:s.heap.objs.size<=a)(new:eD X.prog X.w (eW H a o) h' a o) :
  bw X pins σ (eW H a o) { s with heap:=h',toks:=t' }:=I.un (Un.laid k hp (I.hok.fresh hp)) (I.hok.laid k hp new)
theorem bw.write{x e:Addr}{o:HO}(I:bw X pins σ H s)(mu:Le (H x))(he:e=x\/H e=some (.own x))(k:∀b u,b≠e->s.heap.get? b=some u->h'.get? b=some u)(Oz:∃u,h'.get? e=some u)
  (new:eD X.prog X.w (eW H x o) h' x o):bw X pins σ (eW H x o) { s with heap:=h',toks:=t' }:=I.un (Un.write mu he k Oz) (I.hok.write mu he k Oz new)
theorem bw.pins_of{pins':List (Addr×Obj)}(I:bw X pins σ H s)(h:∀p∈pins',s.heap.get? p.1=some p.2/\H p.1=none/\p.1≠X.env.locals/\p.1∉X.fs/\∀v,p.2.data≠.cell v):bw X pins' σ H s:=
 ⟨I.ok,I.os,I.bare,I.base,I.loc,I.cell,I.free,I.freeC,fun p hp=>(a6.mp hp).elim (fun z=>I.pin p (cP _ z)) (h p),I.hok,I.len⟩
theorem xA{N:List Str}(hN:N.Nodup)(a:N[i]?=some x)(b:N[j]?=some x):i=j:=by
 obtain⟨h1,e1⟩:=aa.mp a
 obtain⟨h2,e2⟩:=aa.mp b
 exact(List.getElem_inj hN).mp (e1.trans e2.symm)
theorem B9{M:Model}{A:Around}{E:Value->Shared->Prop}{v:V}{Q:Unit->Shared->Prop}(I:bw X pins σ H s)(hN:X.N.Nodup)(hi:X.N[i]?=some x)(hx:B8 X.env.scope x)(r:bN v u)
  (h:∀s',bw X pins (σ.set i (some v)) H s'->(∃a,Heap.SameBut a s.heap s'.heap/\(a=X.env.locals\/X.env.cells.lookup x=some a))->Q () s') (hf:X.fn x=true\/X.env.scope.names.lookup x=some .local:=by first|exact .inl rfl|exact .inr rfl|assumption):wpAny M A (storeName X.env x u) Q E s:=by
 obtain⟨m,hn,hl⟩:=id I.loc
 have hcls:(X.env.scope.kind==.class||(X.env.scope.kind==.module&&X.env.locals != X.env.globals))=false:=by rw[I.ok.kind];rfl
 have hiσ:i<σ.length:=by rw[I.len];exact(aa.mp hi).1
 have cne:=I.cne
 have tracked:∀{a:Addr} {h':Heap},(∃o,s.heap.get? a=some o/\H a=none)->Heap.SameBut a s.heap h'->kC X.prog X.w H h':=fun{a h'} ha hs b ob e=>by
  obtain⟨_,_,hfree⟩:=ha
  refine(I.hok b ob e).stay (fun c w' hc q=>(hs.2 c ?_).trans q) (fun _ q=>q) fun _ _ q=>q
  rintro rfl
  rcases hc with rfl|hc
  ·rw[hfree]at e;cases e
  ·rw[hfree]at hc;cases hc
 rcases hx with hk|hk
 ·refine wpAny_storeName_local hk hn (fun h' hn' hs=>?_) hcls
  obtain⟨oL,_,_,hoL,_⟩:=id hn
  refine h _ ⟨I.ok,I.os,I.bare,⟨fun b o e n hb hx=>?_,fun b o e n hb hx=>?_,I.base.free,fun b o e hx=>?_,I.base.tups,I.base.frzs,I.base.tbls⟩,⟨_,hn',fun j y v' e1 e2 e3=>?_⟩,fun y c e=>?_,I.free,I.freeC,fun p hp=>?_,tracked ⟨oL,hoL,I.free⟩ hs,by simpa using I.len⟩ ⟨_,hs,.inl rfl⟩
  ·exact(hs.2 b (bq (aV (aE e) I.ok.above))).trans (I.base.keep b o e n hb hx)
  ·obtain⟨sl,e1⟩:=I.base.slot b o e n hb hx
   exact⟨sl,(hs.2 b (bq (aV (aE e) I.ok.above))).trans e1⟩
  ·obtain⟨o',e1⟩:=I.base.there b o e hx
   exact⟨o',(hs.2 b (bq (aV (aE e) I.ok.above))).trans e1⟩
  ·by_cases hj:j=i
   ·subst hj
    rw[hi]at e1;cases e1
    rw[bB hiσ]at e2
    cases e2
    exact⟨u,r,.inl ⟨hk,by simp⟩⟩
   ·rw[bS (Ne.symm hj)]at e2
    obtain⟨u',r',q⟩:=hl j y v' e1 e2 e3
    refine⟨u',r',?_⟩
    rcases q with⟨k,e⟩|⟨k,c,e,z⟩
    ·refine .inl ⟨k,?_⟩
     have:y≠x:=fun e=>hj (xA hN e1 (e▸hi))
     simp[this,e]
    ·exact .inr ⟨k,c,e,z.sameBut hs (cne y c e)⟩
  ·obtain⟨w',z⟩:=I.cell y c e
   exact⟨w',z.sameBut hs (cne y c e)⟩
  ·obtain⟨e,n,ne,nf,d⟩:=I.pin p hp
   exact⟨(hs.2 p.1 ne).trans e,n,ne,nf,d⟩
 ·have zo:X.fn x=true:=by
   rcases hf with z|z
   ·exact z
   ·rw[z]at hk;cases hk
  obtain⟨c,hc⟩:=I.ok.has x (.inl hk)
  obtain⟨w',z⟩:=I.cell x c hc
  refine wpAny_storeName_cell I.ok.kind hk hc z (fun h' hc' hs=>?_)
  obtain⟨oc,hoc,hocd⟩:=id z
  refine h { s with heap:=h' } ⟨I.ok,I.os,I.bare,⟨fun b o e n hb hx=>?_,fun b o e n hb hx=>?_,I.base.free,fun b o e hx=>?_,I.base.tups,I.base.frzs,I.base.tbls⟩,⟨m,hn.sameBut hs (Ne.symm (cne x c hc)),fun j y v' e1 e2 e3=>?_⟩,fun y c' e=>?_,I.free,I.freeC,fun p hp=>?_,tracked ⟨oc,hoc,I.freeC x c hc⟩ hs,by simpa using I.len⟩ ⟨c,hs,.inr hc⟩
  ·exact(hs.2 b (bq (aV (aE e) (I.ok.cab x c zo hc)))).trans (I.base.keep b o e n hb hx)
  ·obtain⟨sl,e1⟩:=I.base.slot b o e n hb hx
   exact⟨sl,(hs.2 b (bq (aV (aE e) (I.ok.cab x c zo hc)))).trans e1⟩
  ·obtain⟨o',e1⟩:=I.base.there b o e hx
   exact⟨o',(hs.2 b (bq (aV (aE e) (I.ok.cab x c zo hc)))).trans e1⟩
  ·by_cases hj:j=i
   ·subst hj
    rw[hi]at e1;cases e1
    rw[bB hiσ]at e2
    cases e2
    exact⟨u,r,.inr ⟨.inl hk,c,hc,hc'⟩⟩
   ·rw[bS (Ne.symm hj)]at e2
    obtain⟨u',r',q⟩:=hl j y v' e1 e2 e3
    refine⟨u',r',?_⟩
    rcases q with q|⟨k,c',e,z'⟩
    ·exact .inl q
    ·refine .inr ⟨k,c',e,z'.sameBut hs ?_⟩
     rintro rfl
     exact hj (xA hN e1 (I.ok.inj _ _ _ e hc▸hi))
  ·by_cases hcc:c'=c
   ·subst hcc;exact⟨_,hc'⟩
   ·obtain⟨w2,z2⟩:=I.cell y c' e
    exact⟨w2,z2.sameBut hs hcc⟩
  ·obtain⟨e,n,ne,nf,d⟩:=I.pin p hp
   refine⟨(hs.2 p.1 ?_).trans e,n,ne,nf,d⟩
   intro q
   rw[q,hoc]at e
   have q':oc=p.2:=aU e
   exact d w' (by rw[<- q'];exact hocd)
theorem rX{M:Model}{A:Around}{E:Value->Shared->Prop}{v:V}{Q:Unit->Shared->Prop}(I:bw X pins σ H s)(hN:X.N.Nodup)(hi:X.N[i]?=some x)(hx:B8 X.env.scope x)(r:bN v u)
  (h:∀s',bw X pins (σ.set i (some v)) H s'->Q () s') (hf:X.fn x=true\/X.env.scope.names.lookup x=some .local:=by first|exact .inl rfl|exact .inr rfl|assumption):wpAny M A (storeName X.env x u) Q E s:=
 B9 I hN hi hx r (fun s' I' _=>h s' I') hf
theorem bw.call'{s':Shared}{ch:List Addr}(I:bw X pins σ H s)(ho:s'.os=s.os)(u:Un (uo X.stack) ch H H' s.heap s'.heap)(hok:kC X.prog X.w H' s'.heap)(hg:AllBare s'.gens)
  (Hj:∀b∈ch,(b∈X.ex\/X.s₀.heap.objs.size<=b)/\b≠X.env.locals/\(∀x c,X.env.cells.lookup x=some c->c≠b)/\∀p∈X.pn++pins,p.1≠b):bw X pins σ H' s':=by
 obtain⟨h',g',d',t',o'⟩:=s'
 have e:o'=s.os:=ho
 subst e
 exact I.call (g':=g') (t':=t') (d':=d') u hok hg Hj
end
abbrev XK:=Value->Option Addr->Hp->Prop
noncomputable abbrev St:=List (Option V)
abbrev VK:=V->Hp->Prop
abbrev TE:=St->Hp->VK->Prop
abbrev TT:=St->Hp->(Bool->Hp->Prop)->Prop
abbrev TA:=St->Hp->(List V->Hp->Prop)->Prop
structure xB where
 nx:St->Hp->Prop
 rt:VK
 bk:St->Hp->Prop:=fun _ _=>False
 ct:St->Hp->Prop:=fun _ _=>False
abbrev TS:=xB->St->Hp->Prop
def EP(X:Cx)(pins:List (Addr×Obj))(σ:St)(Q:VK)(u:Value)(s':Shared):Prop:=∃v H',bw X pins σ H' s'/\bN v u/\Q v H'
def TP(X:Cx)(pins:List (Addr×Obj))(σ:St)(Q:Bool->Hp->Prop)(b:Bool)(s':Shared):Prop:=∃H',bw X pins σ H' s'/\Q b H'
def AP(X:Cx)(pins:List (Addr×Obj))(σ:St)(Q:List V->Hp->Prop)(us:List Value)(s':Shared):Prop:=∃vs H',bw X pins σ H' s'/\cH vs us/\Q vs H'
def SP(X:Cx)(pins:List (Addr×Obj))(D:xB)(f:Flow)(s':Shared):Prop:=
 match f with
 |.next=>∃σ' H',bw X pins σ' H' s'/\D.nx σ' H'
 |.brk=>∃σ' H',bw X pins σ' H' s'/\D.bk σ' H'
 |.cont=>∃σ' H',bw X pins σ' H' s'/\D.ct σ' H'
 |.ret u=>∃v σ' H',bw X pins σ' H' s'/\bN v u/\D.rt v H'
def PE(X:Cx)(e:Expr)(t:TE):Prop:=
 ∀(pins:List (Addr×Obj)) (s:Shared) (σ:St) (H:Hp) (Q:VK),bw X pins σ H s->t σ H Q->wpAny #[2] X.A (eval e X.env) (EP X pins σ Q) X.xe s
def PT(X:Cx)(e:Expr)(t:TT):Prop:=
 ∀(pins:List (Addr×Obj)) (s:Shared) (σ:St) (H:Hp) (Q:Bool->Hp->Prop),bw X pins σ H s->t σ H Q->wpAny #[2] X.A (isTrue e X.env (eval e X.env)) (TP X pins σ Q) X.xe s
def PW(X:Cx)(e:Expr)(t:TT):Prop:=
 ∀(uh:Sem Value) (pins:List (Addr×Obj)) (s:Shared) (σ:St) (H:Hp) (Q:Bool->Hp->Prop),bw X pins σ H s->t σ H Q->wpAny #[2] X.A (isTrue e X.env uh) (TP X pins σ Q) X.xe s
theorem PW.pt{X:Cx}{t:TT}(h:PW X e t):PT X e t:=h _
def PA(X:Cx)(es:List Expr)(t:TA):Prop:=
 ∀(pos:Pos) (pins:List (Addr×Obj)) (s:Shared) (σ:St) (H:Hp) (Q:List V->Hp->Prop),bw X pins σ H s->t σ H Q->wpAny #[2] X.A (spliced (backTo pos (starEach es X.env))) (AP X pins σ Q) X.xe s
def PS(X:Cx)(st:Stmt)(t:TS):Prop:=
 ∀(pins:List (Addr×Obj)) (s:Shared) (σ:St) (H:Hp) (D:xB),bw X pins σ H s->t D σ H->wpAny #[2] X.A (exec st X.env) (SP X pins D) X.xe s
def B_(X:Cx)(st:List Stmt)(t:TS):Prop:=
 ∀(pins:List (Addr×Obj)) (s:Shared) (σ:St) (H:Hp) (D:xB),bw X pins σ H s->t D σ H->wpAny #[2] X.A (execs st X.env) (SP X pins D) X.xe s
theorem gq{t:Sem α}{Q Q':α->Shared->Prop}(h:wpAny M A t Q E s)(hQ:∀a s,Q a s->Q' a s):wpAny M A t Q' E s:=dG h hQ fun _ _ x=>x
section
variable{X:Cx}
def OB(i:Nat):TE:=fun σ H Q=>∃v,σ[i]?=some (some v)/\Q v H
def tC(v:V):TE:=fun _ H Q=>Q v H
theorem Lf{pos:Pos}(hN:X.N[i]?=some x)(hv:Oi X.env.scope x)(hd:(x==("__debug__":Str))=false:=by decide)(nJ:(x==("__classdict__":Str))=false:=by decide):PE X (.Name x pos) (OB i):=by
 intro pins s σ H Q I h
 obtain⟨v,e,h⟩:=h
 obtain⟨m,hn,hl⟩:=I.loc
 obtain⟨u,r,l⟩:=hl i x v hN e hv
 have fin:EP X pins σ Q u s:=⟨v,H,I,r,h⟩
 rcases l with⟨hk,hm⟩|⟨hk,c,hc,fC⟩
 ·exact ml (wpAny_loadName_local I.ok.kind hk hn hm fin) hd
 ·rcases hk with hk|hk
  ·exact ml (wpAny_loadName_cell I.ok.kind hk hc fC fin) hd
  ·exact ml (wpAny_loadName_free I.ok.kind hk hc fC fin nJ) hd
theorem Lg{i j pos}:PE X (.Constant (.int i) j pos) (tC (.int i)):=fun _ _ _ H _ I h=>wpAny_Constant_int ⟨.int i,H,I.tok _,⟨_,rfl⟩,h⟩
theorem OC{b j pos}:PE X (.Constant (.bool b) j pos) (tC (.bl b)):=fun _ _ _ H _ I h=>Constant_bool ⟨.bl b,H,I,rfl,h⟩
theorem Lh{x j pos}:PE X (.Constant (.str x) j pos) (tC (.str x)):=fun _ _ _ H _ I h=>Calls.Constant_str ⟨.str x,H,I.tok _,⟨_,rfl⟩,h⟩
def Gl(X:Cx)(x:Str):Prop:=X.env.kindOf x=some .globalImplicit
theorem AE{E:Value->Shared->Prop}{σ:St}{H:Hp}{pos:Pos}(I:bw X pins σ H s)(hg:Gl X x)(hm:X.mg x=some u)(h:Q u s)
  (hd:(x==("__debug__":Str))=false:=by decide):wpAny #[2] X.A (eval (.Name x pos) X.env) Q E s:=
 kc I.ok.kind hg (Calls.loadGlobal_global (by rw[I.ok.glob];exact I.mod.glob.keeps I.bk) hm h) hd
theorem ql{E:Value->Shared->Prop}{σ:St}{H:Hp}{pos:Pos}(I:bw X pins σ H s)(hg:Gl X x)(hm:X.mg x=none)(hv:bootBuiltins x=some u)(h:Q u s)
  (hn:x ≠ "__name__":=by decide) (hd:(x==("__debug__":Str))=false:=by decide):wpAny #[2] X.A (eval (.Name x pos) X.env) Q E s:=by
 obtain⟨mb,h1,h2⟩:=I.mod.blt
 exact kc I.ok.kind hg (Calls.loadGlobal_builtin (by rw[I.ok.glob];exact I.mod.glob.keeps I.bk) hm (by rw[I.ok.blt];exact h1.keeps I.bk) ((h2 x hn).trans hv) h) hd
theorem Hq{v:V}{pos:Pos}(hg:Gl X x)(hm:X.mg x=none)(hv:bootBuiltins x=some u)(r:bN v u)(hn:x ≠ "__name__":=by decide)(hd:(x==("__debug__":Str))=false:=by decide):PE X (.Name x pos) (tC v):=
 fun _ _ _ H _ I h=>ql I hg hm hv ⟨v,H,I,r,h⟩ hn hd
variable{a b:Expr}{ta tb:TE}
def PC(X:Cx)(op:CmpOp)(a b:Expr)(t:TE):Prop:=
 ∀(pins:List (Addr×Obj)) (s:Shared) (σ:St) (H:Hp) (Q:VK),bw X pins σ H s->t σ H Q ->
  wpAny #[2] X.A (eval a X.env) (fun v s₁=>wpAny #[2] X.A (eval b X.env) (fun u s₂=>wpAny #[2] X.A (compareOp op v u) (EP X pins σ Q) X.xe s₂) X.xe s₁) X.xe s
theorem xC(b:Expr)(h:op≠.In)(h2:op≠.NotIn):behindInMarks op b=false:=by
 have e1:(op==CmpOp.In)=false:=by cases op<;>first|rfl|exact absurd rfl h
 have e2:(op==CmpOp.NotIn)=false:=by cases op<;>first|rfl|exact absurd rfl h2
 cases b<;>simp[behindInMarks,e1,e2]
def OD(ta:TE):TE:=fun σ H Q=>ta σ H fun x H1=>Q (.bl (decide (x=.non))) H1
theorem bN.none_iff{x:V}(r:bN x v):(v==Value.none)=decide (x=.non):=by
 cases x with
 |non=>cases r;rfl
 |bl _=>cases r;rfl
 |int _=>obtain⟨t,rfl⟩:=r;rfl
 |str _=>obtain⟨t,rfl⟩:=r;rfl
 |byt _=>obtain⟨t,rfl⟩:=r;rfl
 |flt _=>obtain⟨t,rfl⟩:=r;rfl
 |ref _=>cases r;rfl
 |ty _=>cases r;rfl
theorem Dx{j jp}(ha:PE X a ta):PC X .Is a (.Constant .none j jp) (OD ta):=by
 intro pins s σ H Q I h
 refine gq (ha pins s σ H _ I h) fun v s1 zq=>?_
 obtain⟨x,H1,I1,r1,q1⟩:=zq
 exact Constant_none (is_none_gen ⟨.bl _,H1,I1,by rw[r1.none_iff];rfl,q1⟩)
def tB(t:TE):TT:=fun σ H Q=>t σ H fun x H1=>∃c,x=.bl c/\Q c H1
theorem Li{t:TE}(h:PC X op a b t)(h1:behindInMarks op b=false:=by first|exact xC _ #[8] #[8]|rfl):PE X (.Compare a [op] [b] pos) t:=fun pins s σ H Q I hw=>wpAny_Compare1 (h pins s σ H Q I hw) h1
theorem Lj{t:TE}(h:PC X op a b t)(h1:behindInMarks op b=false:=by first|exact xC _ #[8] #[8]|rfl):PT X (.Compare a [op] [b] pos) (tB t):=by
 intro pins s σ H Q I hw
 refine mT (gq (h pins s σ H _ I hw) fun v s1 h1=>gq h1 fun u s2 h2=>gq h2 fun c s3 ⟨x,H1,I1,r1,q1⟩=>?_) h1
 obtain⟨d,rfl,q⟩:=q1
 cases r1
 exact cZ ⟨H1,I1,q⟩
theorem Lk{t:TE}(h:PE X e t)(he:∀uh,isTrue e X.env uh=(do let v <- uh;standAt e.pos;holding [v] (truthy v)):=by intro _;rfl):PT X e (tB t):=by
 intro pins s σ H Q I hw
 refine isTrue_plain (gq (h pins s σ H _ I hw) fun v s1 ⟨x,H1,I1,r1,q1⟩=>?_) (he _)
 obtain⟨d,rfl,q⟩:=q1
 cases r1
 exact cZ ⟨H1,I1,q⟩
variable{tA Rf:TT}{rest:List Expr}
def Sa(t u:TT):TT:=fun σ H Q=>t σ H fun c H1=>if c=true then u σ H1 Q else Q false H1
def T9(t u:TT):TT:=fun σ H Q=>t σ H fun c H1=>if c=true then Q true H1 else u σ H1 Q
def Sb(t:TT):TT:=fun σ H Q=>t σ H fun c H1=>Q (!c) H1
theorem Hr(ha:PT X a tA):PW X (.BoolOp .And [a] pos) tA:=by
 intro wh pins s σ H Q I h
 refine isTrue_and (gq (ha pins s σ H Q I h) fun c s1 e=>?_)
 cases c with
 |true=>exact isTrue_and_nil e
 |false=>exact e
theorem Ll(ha:PT X a tA):PW X (.BoolOp .Or [a] pos) tA:=by
 intro wh pins s σ H Q I h
 refine isTrue_or (gq (ha pins s σ H Q I h) fun c s1 e=>?_)
 cases c with
 |false=>exact isTrue_or_nil e
 |true=>exact e
theorem Lm(ha:PT X a tA)(hb:PW X (.BoolOp .And (b::rest) pos) Rf):PW X (.BoolOp .And (a::b::rest) pos) (Sa tA Rf):=by
 intro wh pins s σ H Q I h
 refine isTrue_and (gq (ha pins s σ H _ I h) fun c s1 zq=>?_)
 obtain⟨H1,I1,q1⟩:=zq
 cases c with
 |true=>exact hb wh pins s1 σ H1 Q I1 q1
 |false=>exact⟨H1,I1,q1⟩
theorem OE(ha:PT X a tA)(hb:PW X (.BoolOp .Or (b::rest) pos) Rf):PW X (.BoolOp .Or (a::b::rest) pos) (T9 tA Rf):=by
 intro wh pins s σ H Q I h
 refine isTrue_or (gq (ha pins s σ H _ I h) fun c s1 zq=>?_)
 obtain⟨H1,I1,q1⟩:=zq
 cases c with
 |true=>exact⟨H1,I1,q1⟩
 |false=>exact hb wh pins s1 σ H1 Q I1 q1
theorem Ln(ha:PT X a tA):PT X (.UnaryOp .Not a pos) (Sb tA):=by
 intro pins s σ H Q I h
 exact isTrue_not (ha pins s σ H (fun c H1=>Q (!c) H1) I h)
def OF(ta tb:TE):TE:=fun σ H Q=>ta σ H fun x H1=>∃c,x=.bl c/\if c=true then tb σ H1 Q else Q (.bl false) H1
def Sc(ta tb:TE):TE:=fun σ H Q=>ta σ H fun x H1=>∃c,x=.bl c/\if c=true then Q (.bl true) H1 else tb σ H1 Q
def OG(ta:TE):TE:=fun σ H Q=>ta σ H fun x H1=>∃c,x=.bl c/\Q (.bl (!c)) H1
theorem Lo{op}{t:TE}(h:PE X a t):PE X (.BoolOp op [a] pos) t:=fun pins s σ H Q I hw=>BoolOp_one (h pins s σ H Q I hw)
theorem Lp(ha:PE X a ta)(hb:PE X (.BoolOp .And (b::rest) pos) tb):PE X (.BoolOp .And (a::b::rest) pos) (OF ta tb):=by
 intro pins s σ H Q I h
 refine BoolOp_and (gq (ha pins s σ H _ I h) fun v s1 zq=>?_)
 obtain⟨x,H1,I1,r1,q1⟩:=zq
 obtain⟨c,rfl,q1⟩:=q1
 cases r1
 refine cZ ?_
 cases c with
 |true=>exact hb pins s1 σ H1 Q I1 q1
 |false=>exact⟨.bl false,H1,I1,rfl,q1⟩
theorem OH(ha:PE X a ta)(hb:PE X (.BoolOp .Or (b::rest) pos) tb):PE X (.BoolOp .Or (a::b::rest) pos) (Sc ta tb):=by
 intro pins s σ H Q I h
 refine BoolOp_or (gq (ha pins s σ H _ I h) fun v s1 zq=>?_)
 obtain⟨x,H1,I1,r1,q1⟩:=zq
 obtain⟨c,rfl,q1⟩:=q1
 cases r1
 refine cZ ?_
 cases c with
 |false=>exact hb pins s1 σ H1 Q I1 q1
 |true=>exact⟨.bl true,H1,I1,rfl,q1⟩
theorem Lq(ha:PE X a ta):PE X (.UnaryOp .Not a pos) (OG ta):=by
 intro pins s σ H Q I h
 refine UnaryOp_ (gq (ha pins s σ H _ I h) fun v s1 zq=>?_)
 obtain⟨x,H1,I1,r1,q1⟩:=zq
 obtain⟨c,rfl,q1⟩:=q1
 cases r1
 exact not_of (cZ ⟨.bl (!c),H1,I1,rfl,q1⟩)
end
def qZ(K:Frag)(H:Hp)(a:Addr)(xs:List V):Prop:=
 Rd H a (.lst xs) \/
  ∃(o:Obj) (bJ:Array Value) (n:Nat),K.lookup a=some o/\o.cls=.type "list"/\o.dict=none/\o.data=.seq bJ n/\bJ.size<=sizeLine/\cH xs bJ.toList
def fO(K:Frag)(H:Hp)(a:Addr)(xs:List V):Prop:=
 Rd H a (.tup xs) \/
  ∃(o:Obj) (bJ:Array Value) (n:Nat),K.lookup a=some o/\o.cls=.type "tuple"/\o.data=.seq bJ n/\bJ.size<=sizeLine/\cH xs bJ.toList
noncomputable def Sd:Value->Option V
 |.none=>some .non
 |.bool b=>some (.bl b)
 |.int i _=>some (.int i)
 |.str x _=>some (.str x)
 |.bytes b _=>some (.byt b)
 |.float b _=>some (.flt b)
 |.ref a=>some (.ref a)
 |.type n=>some (.ty n)
 |_=>none
theorem bN.abs{x:V}(r:bN x u):Sd u=some x:=by
 cases x with
 |non=>cases r;rfl
 |bl _=>cases r;rfl
 |int _=>obtain⟨t,rfl⟩:=r;rfl
 |str _=>obtain⟨t,rfl⟩:=r;rfl
 |byt _=>obtain⟨t,rfl⟩:=r;rfl
 |flt _=>obtain⟨t,rfl⟩:=r;rfl
 |ref _=>cases r;rfl
 |ty _=>cases r;rfl
theorem bN.inj{x y:V}(r:bN x u)(q:bN y u):x=y:=aU (r.abs.symm.trans q.abs)
theorem cH.inj:∀{xs ys:List V} {us:List Value},cH xs us->cH ys us->xs=ys
 |_,_,_,.nil,.nil=>rfl
 |_,_,_,.cons r t,.cons r' t'=>by rw[r.inj r',cH.inj t t']
section
variable{X:Cx}{σ:St}{H:Hp}{xs ys:List V}
theorem qZ.of(h:H a=some (.lst xs)):qZ K H a xs:=.inl (.inl h)
theorem fO.of(h:H a=some (.tup xs)):fO K H a xs:=.inl (.inl h)
theorem bw.list(I:bw X pins σ H s)(h:qZ X.K H a xs):∃bJ:List Value,cH xs bJ/\PlainL s.heap a bJ.toArray/\xs.length<=sizeLine:=by
 rcases h with h|⟨o,bJ,n,hk,hc,hd,hs,hz,r⟩
 ·obtain⟨z,bJ,n,r,e⟩:=h.ok I.hok
  exact⟨bJ,r,⟨_,n,e,rfl,rfl,rfl⟩,z⟩
 ·refine⟨bJ.toList,r,⟨o,n,I.kIn a o hk,hc,hd,by simpa using hs⟩,?_⟩
  have e:=r.length
  simp only[eQ]at e
  omega
theorem bw.tuple(I:bw X pins σ H s)(h:fO X.K H a xs):∃bJ:List Value,cH xs bJ/\IsTup s.heap a bJ.toArray/\xs.length<=sizeLine:=by
 rcases h with h|⟨o,bJ,n,hk,hc,hs,hz,r⟩
 ·obtain⟨z,bJ,r,p⟩:=h.ok I.hok
  exact⟨bJ,r,p,z⟩
 ·refine⟨bJ.toList,r,⟨o,I.kIn a o hk,hc,n,by simpa using hs⟩,?_⟩
  have e:=r.length
  simp only[eQ]at e
  omega
theorem bw.list_inj(I:bw X pins σ H s)(h:qZ X.K H a xs)(h':qZ X.K H a ys):xs=ys:=by
 obtain⟨bJ,r,⟨o,n,e,_,_,d⟩,_⟩:=I.list h
 obtain⟨its',r',⟨o',n',e',_,_,d'⟩,_⟩:=I.list h'
 rw[e]at e';cases e'
 rw[d]at d'
 injection d' with d1 _
 have:bJ=its':=by simpa using cL Array.toList d1
 subst this
 exact r.inj r'
theorem bw.tuple_inj(I:bw X pins σ H s)(h:fO X.K H a xs)(h':fO X.K H a ys):xs=ys:=by
 obtain⟨bJ,r,⟨o,e,_,n,d⟩,_⟩:=I.tuple h
 obtain⟨its',r',⟨o',e',_,n',d'⟩,_⟩:=I.tuple h'
 rw[e]at e';cases e'
 rw[d]at d'
 injection d' with d1 _
 have:bJ=its':=by simpa using cL Array.toList d1
 subst this
 exact r.inj r'
end
section
variable{X:Cx}{σ:St}{H:Hp}
end
section
variable{X:Cx}{st:Stmt}{rest:List Stmt}{t u:TS}{te:TE}
def OI:TS:=fun D σ H=>D.nx σ H
def Se(t u:TS):TS:=fun D σ H=>t { D with nx:=u D } σ H
theorem Hs:B_ X [] OI:=fun _ _ σ H _ I h=>jD ⟨σ,H,I,h⟩
theorem xD(h1:PS X st t)(h2:B_ X rest u):B_ X (st::rest) (Se t u):=by
 intro pins s σ H D I h
 refine wpAny_execs_cons (gq (h1 pins s σ H { D with nx:=u D } I h) fun f s1 q=>?_)
 cases f with
 |next=>
  obtain⟨σ',H',I',q⟩:=q
  exact h2 pins s1 σ' H' D I' q
 |ret v=>exact q
 |brk=>exact q
 |cont=>exact q
theorem Ht(h1:PS X st t):B_ X [st] t:=by
 intro pins s σ H D I h
 refine wpAny_execs_cons (gq (h1 pins s σ H D I h) fun f s1 q=>?_)
 cases f with
 |next=>exact jD q
 |ret v=>exact q
 |brk=>exact q
 |cont=>exact q
theorem bw.quiet{σ:St}{H:Hp}(I:bw X pins σ H s):interactive X.env=false:=by simp[interactive,I.ok.kind]
def OJ(te:TE):TS:=fun D σ H=>te σ H fun _ H1=>D.nx σ H1
theorem Hu(he:PE X e te)(hs:swapsWith e none pos.line X.env=pure false:=by rfl):PS X (.Expr e pos) (OJ te):=by
 intro pins s σ H D I h
 exact wpAny_Expr_any (gq (he pins s σ H _ I h) fun v s1 ⟨x,H1,I1,r1,q1⟩=>⟨σ,H1,I1,q1⟩) I.quiet hs
def Sf(te:TE):TS:=fun D σ H=>te σ H D.rt
theorem Lr(he:PE X e te):PS X (.Return (some e) pos) (Sf te):=by
 intro pins s σ H D I h
 exact wpAny_Return_some (gq (he pins s σ H _ I h) fun v s1 ⟨x,H1,I1,r1,q1⟩=>⟨x,σ,H1,I1,r1,q1⟩)
def Sg(c:TT)(t u:TS):TS:=fun D σ H=>c σ H fun b H1=>if b=true then t D σ H1 else u D σ H1
theorem OK{a b:List Stmt}{tc:TT}(hc:PT X c tc)(ha:B_ X a t)(hb:B_ X b u):PS X (.If c a b pos) (Sg tc t u):=by
 intro pins s σ H D I h
 refine wpAny_If (gq (hc pins s σ H _ I h) fun d s1 zq=>?_)
 obtain⟨H1,I1,q1⟩:=zq
 cases d with
 |true=>exact ha pins s1 σ H1 D I1 q1
 |false=>exact hb pins s1 σ H1 D I1 q1
end
abbrev TG:=V->St->Hp->(St->Hp->Prop)->Prop
abbrev Hv:=List V->St->Hp->(St->Hp->Prop)->Prop
def PG(X:Cx)(Of:Expr)(t:TG):Prop:=
 ∀(pins:List (Addr×Obj)) (s:Shared) (σ:St) (H:Hp) (v:V) (u:Value) (Q:St->Hp->Prop),bw X pins σ H s->bN v u->t v σ H Q ->
  wpAny #[2] X.A (assign Of X.env u) (fun _ s'=>∃σ' H',bw X pins σ' H' s'/\Q σ' H') X.xe s
def JP(X:Cx)(ts:List Expr)(t:Hv):Prop:=
 ∀(pins:List (Addr×Obj)) (s:Shared) (σ:St) (H:Hp) (vs:List V) (us:List Value) (Q:St->Hp->Prop),bw X pins σ H s->cH vs us->t vs σ H Q ->
  wpAny #[2] X.A (assignInOrder ((assignEach ts X.env).map (·.2)) us) (fun _ s'=>∃σ' H',bw X pins σ' H' s'/\Q σ' H') X.xe s
abbrev Hw:=V->V->V->Hp->(Hp->Prop)->Prop
def Hy(X:Cx)(t:Hw):Prop:=
 ∀(pins:List (Addr×Obj)) (s:Shared) (σ:St) (H:Hp) (o i v:V) (ov iv u:Value) (Q:Hp->Prop),bw X pins σ H s->bN o ov->bN i iv->bN v u->t o i v H Q ->
  wpAny #[2] X.A (setItem ov iv u) (fun _ s'=>∃H',bw X pins σ H' s'/\Q H') X.xe s
section
variable{X:Cx}
def JQ(i:Nat):TG:=fun v σ H Q=>Q (σ.set i (some v)) H
theorem Hz(hN:X.N.Nodup)(hi:X.N[i]?=some x)(hx:B8 X.env.scope x)(hf:X.fn x=true\/X.env.scope.names.lookup x=some .local:=by first|exact .inl rfl|exact .inr rfl|assumption):PG X (.Name x pos) (JQ i):=by
 intro pins s σ H v u Q I r h
 exact wpAny_assign_Name (rX I hN hi hx r (fun s' I'=>⟨_,H,I',h⟩) hf)
def Si:Hv:=fun vs σ H Q=>vs=[]/\Q σ H
def OL(t:TG)(u:Hv):Hv:=fun vs σ H Q=>∃v r,vs=v::r/\t v σ H fun σ' H'=>u r σ' H' Q
theorem HA:JP X [] Si:=by
 intro pins s σ H vs us Q I r h
 obtain⟨e,h⟩:=h
 subst e
 cases r
 exact assignInOrder_nil ⟨σ,H,I,h⟩
theorem Dy{t:TG}{u:Hv}(h1:PG X e t)(h2:JP X es u)
  (hs:(assignEach (e::es) X.env).map (·.2)=assign e X.env::(assignEach es X.env).map (·.2):=by rfl):JP X (e::es) (OL t u):=by
 intro pins s σ H vs us Q I r h
 obtain⟨v,vr,e1,h⟩:=h
 subst e1
 cases r with
 |cons r rr=>
  rw[hs]
  refine assignInOrder_cons (gq (h1 pins s σ H _ _ _ I r h) fun _ s1 zq=>?_)
  obtain⟨σ1,H1,I1,q1⟩:=zq
  exact h2 pins s1 σ1 H1 _ _ Q I1 rr q1
def Sj(K:Frag)(n:Nat)(t:Hv):TG:=fun v σ H Q=>∃a xs,v=.ref a/\fO K H a xs/\xs.length=n/\t xs σ H Q
theorem Ls{k:Nat}{t:Hv}(hc:X.calm=true)(h:JP X es t)
  (hn:(assignEach es X.env).length=n:=by rfl) (wW:(assignEach es X.env).findIdx? (·.1)=none:=by rfl):PG X (.Tuple es k pos) (Sj X.K n t):=by
 intro pins s σ H v u Q I r hw
 obtain⟨a,xs,e1,hq,hl,hw⟩:=hw
 subst e1
 cases r
 obtain⟨bJ,rv,ht,hz⟩:=I.tuple hq
 refine assign_Tuple_tuple (I.ok.hd hc) ht (by simp[hn,<- hl,rv.length]) wW fun h' hx=>?_
 have I1:bw X pins σ H { s with heap:=h' }:=I.kept (t':=s.toks) fun b o e=>hx b o (bq (aE e)) e
 exact h pins _ σ H xs _ Q I1 (by simpa using rv) hw
def Sk(to ti:TE)(t:Hw):TG:=fun v σ H Q=>to σ H fun o H1=>ti σ H1 fun i H2=>t o i v H2 fun H3=>Q σ H3
theorem Lu{o i:Expr}{to ti:TE}{t:Hw}(ho:PE X o to)(hi:PE X i ti)(hs:Hy X t)
  (ha:∀v,assign (.Subscript o i pos) X.env v=(do
   let ov <- holding [v] (eval o X.env)
   let iv <- holding [v,ov] (eval i X.env)
   standAt pos
   holding [v,ov,iv] (setItem ov iv v)
   release [v,ov,iv] []):=by intro _;rfl):PG X (.Subscript o i pos) (Sk to ti t):=by
 intro pins s σ H v u Q I r h
 rw[ha]
 refine ac (bZ (gq (ho pins s σ H _ I h) fun ov s1 zq=>?_))
 obtain⟨x,H1,I1,r1,q1⟩:=zq
 refine ac (bZ (gq (hi pins s1 σ H1 _ I1 q1) fun iv s2 zq=>?_))
 obtain⟨y,H2,I2,r2,q2⟩:=zq
 refine ac (lf (ac (bZ (gq (hs pins s2 σ H2 x y v ov iv u _ I2 r1 r2 r q2) fun _ s3 zq=>?_))))
 obtain⟨H3,I3,q3⟩:=zq
 exact wpAny_release ⟨σ,H3,I3,q3⟩
def HB(te:TE)(g:TG):TS:=fun D σ H=>te σ H fun x H1=>g x σ H1 D.nx
theorem Lv{te:TE}{g:TG}(he:PE X e te)(hg:PG X tg g)(hs:swapsWithSole [tg] e pos.line X.env=pure false:=by rfl)(hw:swappedStores [tg] e X.env=pure none:=by rfl)
  (h1:(assignEach [tg] X.env).map (·.2)=[assign tg X.env]:=by rfl):PS X (.Assign [tg] e pos) (HB te g):=by
 intro pins s σ H D I h
 refine wpAny_Assign_stores (gq (he pins s σ H _ I h) fun v s1 ⟨x,H1,I1,r1,q1⟩=>?_) hs hw
 rw[h1]
 exact gq (hg pins s1 σ H1 x v _ I1 r1 q1) fun _ s2 q=>q
theorem Lw{te:TE}(hN:X.N.Nodup)(hi:X.N[i]?=some x)(hx:B8 X.env.scope x)(he:PE X e te)(hs:swapsWith e (some (.Name x jp)) pos.line X.env=pure false:=by rfl)(hf:X.fn x=true\/X.env.scope.names.lookup x=some .local:=by first|exact .inl rfl|exact .inr rfl|assumption) :
  PS X (.Assign [.Name x jp] e pos) (HB te (JQ i)):=by
 intro pins s σ H D I h
 refine wpAny_Assign_Name (gq (he pins s σ H _ I h) fun v s1 ⟨y,H1,I1,r1,q1⟩=>?_) hs
 exact rX I1 hN hi hx r1 (fun s2 I2=>⟨_,H1,I2,q1⟩) hf
end
section
variable{X:Cx}
def Dz(c:TT)(tb:TS):TS:=fun D σ H=>∃W:Nat->St->Hp->Prop,(∃m,W m σ H)/\∀m σ H,W m σ H ->
 c σ H fun b H1=>if b=true then ∃N:St->Hp->Prop,(∀σ' H',N σ' H'->∃m',m'<m/\W m' σ' H')/\tb { D with nx:=N,ct:=N,bk:=D.nx } σ H1 else D.nx σ H1
theorem DA{tc:TT}{tb:TS}(hp:PassesOwn #[2] X.A X.env X.xe)(hc:PT X c tc)(hb:B_ X body tb):PS X (.While c body [] pos) (Dz tc tb):=by
 intro pins s σ H D I h
 obtain⟨W,⟨m0,w0⟩,turn⟩:=h
 refine wpAny_While (codeAny_whileLoop (fun n s'=>∃σ' H',bw X pins σ' H' s'/\W n σ' H') ?_ m0 ⟨σ,H,I,w0⟩)
 rintro n s1 ⟨σ1,H1,I1,w1⟩
 refine fG hp (gq (hc pins s1 σ1 H1 _ I1 (turn n σ1 H1 w1)) fun b s2 zq=>?_)
 obtain⟨H2,I2,q2⟩:=zq
 cases b with
 |true=>
  obtain⟨N,hN,q2⟩:=q2
  rw[aw rfl]
  refine fG hp (gq (hb pins s2 σ1 H2 _ I2 q2) fun f s3 q3=>?_)
  cases f with
  |next=>
   obtain⟨σ3,H3,I3,n3⟩:=q3
   obtain⟨m',hm,w3⟩:=hN σ3 H3 n3
   exact⟨m',hm,σ3,H3,I3,w3⟩
  |cont=>
   obtain⟨σ3,H3,I3,n3⟩:=q3
   obtain⟨m',hm,w3⟩:=hN σ3 H3 n3
   exact⟨m',hm,σ3,H3,I3,w3⟩
  |brk=>exact q3
  |ret v=>exact q3
 |false=>
  rw[aC bC]
  exact jD ⟨σ1,H2,I2,q2⟩
end
structure It where
 go:Nat->Hp->Prop
 yld:Nat->Hp->V->Hp->Prop
 stop:Nat->Hp->Prop
def pf(X:Cx)(pins:List (Addr×Obj))(H:Hp)(b:Addr):Prop:=
 H b=none/\b≠X.env.locals/\b∉X.fs/\(b∈X.ex\/X.s₀.heap.objs.size<=b)/\(∀x c,X.env.cells.lookup x=some c->c≠b)/\∀p∈X.pn++pins,p.1≠b
theorem bw.fpOk{X:Cx}{σ:St}{H H':Hp}(I:bw X pins σ H s)(hb:s.heap.objs.size<=b)(hn:H' b=none):pf X pins H' b:=by
 refine⟨hn,mn (aV I.lt hb),I.nofs hb,.inr (a8 I.sz hb),fun x c e z=>?_,fun p hp z=>?_⟩
 ·obtain⟨v,q⟩:=I.cell x c e
  exact absurd (aV q.lt (by rw[z];exact hb)) (bx _)
 ·exact absurd (aV (aE (I.pin p hp).1) (by rw[z];exact hb)) (bx _)
structure Ca(P:Program)(w:World)(K:Frag)(tg:Expr)(J:It)(fp:List Addr)(it:Addr)(tn:Nat->Heap->Prop):Prop where
 mem:it∈fp
 obj:∀i h,tn i h->∀b∈fp,∃o,h.get? b=some o/\∀v,o.data≠.cell v
 keep:∀i h h',tn i h->(∀b∈fp,∀o,h.get? b=some o->h'.get? b=some o)->tn i h'
 item:∀(X:Cx),X.prog=P->X.w=w->X.K=K->X.calm=true->∀(i:Nat) (pins:List (Addr×Obj)) (s:Shared) (σ:St) (H:Hp) (E:Value->Shared->Prop),bw X pins σ H s->(∀b∈fp,pf X pins H b)->tn i s.heap->J.go i H ->
  wpAny (model P w) X.A (pyNext (.ref it)) (fun r s1=>∃u,r=some u /\
   wpAny (model P w) X.A (letOwnedTupleGo tg (.ref it) u) (fun _ s2=>∃x H',bw X pins σ H' s2/\bN x u/\J.yld i H x H'/\tn (i+1) s2.heap/\∀b∈fp,H' b=none) E s1) E s
 done:∀(X:Cx),X.prog=P->X.w=w->X.K=K->X.calm=true->∀(i:Nat) (pins:List (Addr×Obj)) (s:Shared) (σ:St) (H:Hp) (E:Value->Shared->Prop),bw X pins σ H s->(∀b∈fp,pf X pins H b)->tn i s.heap->J.stop i H ->
  wpAny (model P w) X.A (pyNext (.ref it)) (fun r s1=>r=none/\bw X pins σ H s1) E s
 self:∀(A:Around) (i:Nat) (s:Shared) (Q:Value->Shared->Prop) (E:Value->Shared->Prop),tn i s.heap->Q (.ref it) s->wpAny (model P w) A (pyIter (.ref it)) Q E s
abbrev TI:=St->Hp->(It->Hp->Prop)->Prop
def Sl(X:Cx)(pins:List (Addr×Obj))(σ:St)(tg:Expr)(R:It->Hp->Prop)(TH:Value)(s2:Shared):Prop:=
 ∃(it:Addr) (fp:List Addr) (tn:Nat->Heap->Prop) (J:It) (H':Hp),TH=.ref it/\bw X pins σ H' s2/\Ca X.prog X.w X.K tg J fp it tn/\tn 0 s2.heap/\(∀b∈fp,pf X pins H' b)/\R J H'
def PI(X:Cx)(tg iter:Expr)(wi:TI):Prop:=
 ∀(pins:List (Addr×Obj)) (s:Shared) (σ:St) (H:Hp) (R:It->Hp->Prop),bw X pins σ H s->wi σ H R ->
  wpAny #[2] X.A (eval iter X.env) (fun v s1=>wpAny #[2] X.A (pyIter v) (Sl X pins σ tg R) X.xe s1) X.xe s
theorem AF      {E:Value -> Shared -> Prop} {s:Shared}     {n:String} {vs:Array Value} {Q:Unit -> Shared -> Prop} (ho : s.heap.get? it = some o) (hc : o.cls = .type n) (hd : o.data = .fields vs)
    (hn : ["enumerate", "zip", "dict_itemiterator", "dict_reverseitemiterator", "odict_iterator", "itertools.zip_longest", "itertools.pairwise"].contains n = false) (hQ : Q () s) : wpAny M A (letOwnedTupleGo tg (.ref it) u) Q E s := by
  unfold letOwnedTupleGo
  cases tg <;> first
    | exact am         hQ
    | (cases u <;> first
        | exact am         hQ
        | (refine ac         (wpAny_load ho ?_)
           rw [hc, hd]
           show wpAny M A (if (["enumerate", "zip", "dict_itemiterator", "dict_reverseitemiterator", "odict_iterator", "itertools.zip_longest", "itertools.pairwise"].contains n && vs[0]? == some (rawInt _)) = true then _ else _) Q E s
           rw [aC     (by intro h; rw [hn, Bool.false_and] at h; cases h)]
           exact am         hQ))
noncomputable def TM(K:Frag)(a:Addr):It:=
 ⟨fun i H=>∃xs x,qZ K H a xs/\xs[i]?=some x,fun i H x H'=>H'=H/\∀xs,qZ K H a xs->xs[i]?=some x,fun i H=>∃xs,qZ K H a xs/\xs.length<=i⟩
noncomputable def TN(K:Frag)(a:Addr):It:=
 ⟨fun i H=>∃xs x,fO K H a xs/\xs[i]?=some x,fun i H x H'=>H'=H/\∀xs,fO K H a xs->xs[i]?=some x,fun i H=>∃xs,fO K H a xs/\xs.length<=i⟩
noncomputable def RL(lo:Int)(n:Nat):It:=⟨fun i _=>i<n,fun i H x H'=>H'=H/\x=.int (lo+i),fun i _=>n<=i⟩
theorem Cb{w:World}(a it:Addr):Ca P w K tg (TM K a) [it] it (fun i h=>h.IsListIter it a i) where
 mem:=by simp
 obj:=fun i h st b hb=>by
  have e:b=it:=by simpa using hb
  subst e
  obtain⟨o,e,c,d⟩:=st
  exact⟨o,e,fun v z=>by rw[d]at z;cases z⟩
 keep:=fun i h h' st k=>st.at fun o e=>k it #[7] o e
 item:=by
  intro X hP hw hK hc i pins s σ H E I hf st hg
  subst hP hw hK
  obtain⟨xs,x,hq,hx⟩:=hg
  obtain⟨bJ,rv,p,hz⟩:=I.list hq
  obtain⟨u,hu,ru⟩:=rv.get hx
  obtain⟨f0,f1,f2,f3,f4,f5⟩:=hf it #[7]
  refine wpAny_pyNext_list_item st p.isList (x:=u) (by simpa using hu) fun h' bL sb=>?_
  have I1:bw X pins σ H { s with heap:=h' }:=I.turned (t':=s.toks) (fun b o hb e=>(sb.2 b hb).trans e) f0 f1 f3 f4 f5
  obtain⟨o,e,c,d⟩:=id bL
  exact⟨u,rfl,AF (s:={ s with heap:=h' }) e c d #[8] ⟨x,H,I1,ru,⟨rfl,fun ys hy=>by rw[I.list_inj hy hq];exact hx⟩,bL,fun b hb=>(hf b hb).1⟩⟩
 done:=by
  intro X hP hw hK hc i pins s σ H E I hf st hg
  subst hP hw hK
  obtain⟨xs,hq,hx⟩:=hg
  obtain⟨bJ,rv,p,hz⟩:=I.list hq
  obtain⟨f0,f1,f2,f3,f4,f5⟩:=hf it #[7]
  have hl:=rv.length
  exact wpAny_pyNext_list_end (I.ok.hd hc) st p.isList (by simp;omega) fun h' eb=>⟨rfl,I.turned (t':=s.toks) (fun b o hb e=>eb b o hb e) f0 f1 f3 f4 f5⟩
 self:=fun _ _ _ _ _ st h=>wpAny_pyIter_listiter st h
theorem zp{w:World}(a it:Addr):Ca P w K tg (TN K a) [it] it (fun i h=>h.IsTupleIter it a i) where
 mem:=by simp
 obj:=fun i h st b hb=>by
  have e:b=it:=by simpa using hb
  subst e
  obtain⟨o,e,c,d⟩:=st
  exact⟨o,e,fun v z=>by rw[d]at z;cases z⟩
 keep:=fun i h h' st k=>st.at fun o e=>k it #[7] o e
 item:=by
  intro X hP hw hK hc i pins s σ H E I hf st hg
  subst hP hw hK
  obtain⟨xs,x,hq,hx⟩:=hg
  obtain⟨bJ,rv,p,hz⟩:=I.tuple hq
  obtain⟨u,hu,ru⟩:=rv.get hx
  obtain⟨f0,f1,f2,f3,f4,f5⟩:=hf it #[7]
  refine wpAny_pyNext_tuple_item st (show s.heap.IsTuple a bJ.toArray from p) (x:=u) (by simpa using hu) fun h' bL sb=>?_
  have I1:bw X pins σ H { s with heap:=h' }:=I.turned (t':=s.toks) (fun b o hb e=>(sb.2 b hb).trans e) f0 f1 f3 f4 f5
  obtain⟨o,e,c,d⟩:=id bL
  exact⟨u,rfl,AF (s:={ s with heap:=h' }) e c d #[8] ⟨x,H,I1,ru,⟨rfl,fun ys hy=>by rw[I.tuple_inj hy hq];exact hx⟩,bL,fun b hb=>(hf b hb).1⟩⟩
 done:=by
  intro X hP hw hK hc i pins s σ H E I hf st hg
  subst hP hw hK
  obtain⟨xs,hq,hx⟩:=hg
  obtain⟨bJ,rv,p,hz⟩:=I.tuple hq
  obtain⟨f0,f1,f2,f3,f4,f5⟩:=hf it #[7]
  have hl:=rv.length
  exact wpAny_pyNext_tuple_end (I.ok.hd hc) st (show s.heap.IsTuple a bJ.toArray from p) (by simp;omega) fun h' eb=>⟨rfl,I.turned (t':=s.toks) (fun b o hb e=>eb b o hb e) f0 f1 f3 f4 f5⟩
 self:=fun _ _ _ _ _ st h=>wpAny_pyIter_tupleiter st h
theorem zq{w:World}(it:Addr)(lo:Int)(n:Nat):Ca P w K tg (RL lo n) [it] it (fun i h=>IsRangeIter h it (lo+(i:Nat)*1) ((n:Int)-(i:Nat)) 1) where
 mem:=by simp
 obj:=fun i h st b hb=>by
  have e:b=it:=by simpa using hb
  subst e
  exact⟨_,st,fun v z=>by
   have z':Data.fields _=Data.cell v:=z
   cases z'⟩
 keep:=fun i h h' st k=>k it #[7] _ st
 item:=by
  intro X hP hw hK hc i pins s σ H E I hf st hg
  subst hP hw hK
  obtain⟨f0,f1,f2,f3,f4,f5⟩:=hf it #[7]
  have W:=Walks.range (prog:=X.prog) (w:=X.w) (I.ok.hd hc) it lo 1 n
  refine W.item i s _ _ hg st fun v h' tk hv bL kk=>?_
  obtain⟨t,rfl⟩:=hv
  have I1:bw X pins σ H { s with heap:=h',toks:=tk }:=I.turned (fun b o hb e=>kk b o (by simpa using hb) e) f0 f1 f3 f4 f5
  refine⟨_,rfl,AF (s:={ s with heap:=h',toks:=tk }) (n:="range_iterator") bL rfl rfl #[8] ⟨.int (lo+i),H,I1,⟨t,?_⟩,⟨rfl,rfl⟩,bL,fun b hb=>(hf b hb).1⟩⟩
  rw[Int.mul_one]
 done:=by
  intro X hP hw hK hc i pins s σ H E I hf st hg
  subst hP hw hK
  obtain⟨f0,f1,f2,f3,f4,f5⟩:=hf it #[7]
  exact wpAny_pyNext_range_end (I.ok.hd hc) st (by have:n<=i:=hg;omega) fun h' eb=>⟨rfl,I.turned (t':=s.toks) (fun b o hb e=>eb b o hb e) f0 f1 f3 f4 f5⟩
 self:=fun _ _ _ _ _ st h=>wpAny_pyIter_rangeiter st h
section
variable{X:Cx}
def OM(K:Frag)(tl:TE):TI:=fun σ H R=>tl σ H fun x H1=>∃a,x=.ref a/\(∃xs,qZ K H1 a xs)/\R (TM K a) H1
def Sn(K:Frag)(tl:TE):TI:=fun σ H R=>tl σ H fun x H1=>∃a,x=.ref a/\(∃xs,fO K H1 a xs)/\R (TN K a) H1
theorem HC{l:Expr}{tl:TE}(hl:PE X l tl):PI X tg l (OM X.K tl):=by
 intro pins s σ H R I h
 refine gq (hl pins s σ H _ I h) fun v s1 zq=>?_
 obtain⟨x,H1,I1,r1,q1⟩:=zq
 obtain⟨a,e,⟨xs,hq⟩,q⟩:=q1
 subst e
 cases r1
 obtain⟨bJ,rv,p,hz⟩:=I1.list hq
 refine wpAny_pyIter_list p.isList ?_
 refine⟨s1.heap.objs.size,[s1.heap.objs.size],_,_,H1,rfl,I1.kept (t':=s1.toks) fun b o e=>ar _ e,Cb a _,⟨_,aL _ rfl,rfl,rfl⟩,fun b hb=>?_,q⟩
 have e:b=s1.heap.objs.size:=by simpa using hb
 subst e
 exact I1.fpOk (au _) (I1.hok.fresh (au _))
theorem Lx{l:Expr}{tl:TE}(hl:PE X l tl):PI X tg l (Sn X.K tl):=by
 intro pins s σ H R I h
 refine gq (hl pins s σ H _ I h) fun v s1 zq=>?_
 obtain⟨x,H1,I1,r1,q1⟩:=zq
 obtain⟨a,e,⟨xs,hq⟩,q⟩:=q1
 subst e
 cases r1
 obtain⟨bJ,rv,p,hz⟩:=I1.tuple hq
 refine kg (show s1.heap.IsTuple a bJ.toArray from p) ?_
 refine⟨s1.heap.objs.size,[s1.heap.objs.size],_,_,H1,rfl,I1.kept (t':=s1.toks) fun b o e=>ar _ e,zp a _,⟨_,aL _ rfl,rfl,rfl⟩,fun b hb=>?_,q⟩
 have e:b=s1.heap.objs.size:=by simpa using hb
 subst e
 exact I1.fpOk (au _) (I1.hok.fresh (au _))
theorem DB{σ:St}{H:Hp}{R:It->Hp->Prop}{lo hi:Int}{t u v:Tok}{tk:Nat}(I:bw X pins σ H s)(h1:-(2^62)<=lo)(h2:lo<2^62)(h3:-(2^62)<=hi)(h4:hi<2^62)
  (q:R (RL lo (hi-lo).toNat) H):wpAny #[2] X.A (pyIter (.ref s.heap.objs.size)) (Sl X pins σ tg R) E { s with heap:=s.heap.push { cls:=.type "range",data:=.fields #[.int lo t,.int hi u,.int 1 v] },toks:=tk }:=by
 refine wpAny_pyIter_range (IsRange.new ..) (small_one h1 h2 h3 h4) ?_
 have I1:bw X pins σ H { s with heap:=s.heap.push { cls:=.type "range",data:=.fields #[.int lo t,.int hi u,.int 1 v] },toks:=tk }:=I.kept fun b o e=>ar _ e
 refine⟨(s.heap.push { cls:=.type "range",data:=.fields #[.int lo t,.int hi u,.int 1 v] }).objs.size,[(s.heap.push { cls:=.type "range",data:=.fields #[.int lo t,.int hi u,.int 1 v] }).objs.size],_,_,H,rfl,
  I1.kept (t':=tk) fun b o e=>ar _ e,zq _ lo (hi-lo).toNat,?_,fun b hb=>?_,q⟩
 ·have e1:lo+((0:Nat):Int)*1=lo:=by simp
  have e2:(((hi-lo).toNat:Nat):Int)-((0:Nat):Int)=Builtin.Range.rangeSize lo hi 1:=by rw[rangeSize_one];split<;>omega
  show IsRangeIter _ _ (lo+((0:Nat):Int)*1) ((((hi-lo).toNat:Nat):Int)-((0:Nat):Int)) 1
  rw[e1,e2]
  exact aL _ rfl
 ·have e:b=(s.heap.push { cls:=.type "range",data:=.fields #[.int lo t,.int hi u,.int 1 v] }).objs.size:=by simpa using hb
  subst e
  exact I1.fpOk (au _) (I1.hok.fresh (au _))
def ON(ta:TA):TI:=fun σ H R=>ta σ H fun vs H1=>∃j:Int,vs=[.int j]/\-(2^62)<=j/\j<2^62/\R (RL 0 j.toNat) H1
theorem Cc{a:Expr}{ta:TA}{p pos:Pos}(hg:Gl X "range")(hm:X.mg "range"=none)(ha:PA X [a] ta)(hs:starEach [a] X.env=[(false,eval a X.env)]:=by rfl):PI X tg (.Call (.Name "range" p) [a] [] pos) (ON ta):=by
 intro pins s σ H R I h
 refine Call_ (ql I hg hm boot_range (gz (gq (ha pos pins s σ H _ I h) fun us s1 ⟨vs,H1,I1,r1,q1⟩=>?_) hs rfl))
 obtain⟨j,e,q1,q2,q⟩:=q1
 subst e
 cases r1 with
 |cons r rr=>
  cases rr
  obtain⟨t,rfl⟩:=r
  exact call_range_1 (DB I1 #[0] #[0] q1 q2 (by simpa using q))
def So(wi:TI)(g:TG)(tb:TS):TS:=fun D σ H=>wi σ H fun J H1=>∃W:Nat->Nat->St->Hp->Prop,(∃m,W 0 m σ H1)/\∀i m σ H,W i m σ H ->
 (J.stop i H/\D.nx σ H)\/(J.go i H/\∃N:St->Hp->Prop,(∀σ' H',N σ' H'->∃m',m'<m/\W (i+1) m' σ' H')/\∀x H',J.yld i H x H'->g x σ H' fun σ2 H2=>tb { D with nx:=N,ct:=N,bk:=D.nx } σ2 H2)
noncomputable def vI(fp:List Addr)(h:Heap):List (Addr×Obj):=fp.filterMap fun b=>(h.get? b).map fun o=>(b,o)
theorem i8(hb:b∈fp)(e:h.get? b=some o):(b,o)∈vI fp h:=List.mem_filterMap.mpr ⟨b,hb,by rw[e];rfl⟩
theorem Cd{p:Addr×Obj}(hp:p∈vI fp h):p.1∈fp/\h.get? p.1=some p.2:=by
 obtain⟨b,hb,e⟩:=List.mem_filterMap.mp hp
 cases q:h.get? b with
 |none=>rw[q]at e;cases e
 |some o=>
  rw[q]at e
  have e':(b,o)=p:=aU e
  subst e'
  exact⟨hb,q⟩
theorem bw.pinned{σ:St}{H:Hp}(I:bw X pins σ H s)(hf:∀b∈fp,pf X pins H b)(ho:∀b∈fp,∃o,s.heap.get? b=some o/\∀v,o.data≠.cell v):bw X (pins++vI fp s.heap) σ H s:=
 I.pins_of fun p hp=>(a6.mp hp).elim (fun z=>I.pin p (aW _ z)) fun z=>by
  obtain⟨hb,e⟩:=Cd z
  obtain⟨f0,f1,f2,_⟩:=hf p.1 hb
  obtain⟨o,e',d⟩:=ho p.1 hb
  rw[e]at e';cases e'
  exact⟨e,f0,f1,f2,d⟩
theorem bw.unpinned{pl:List (Addr×Obj)}{σ:St}{H:Hp}(I:bw X (pins++pl) σ H s):bw X pins σ H s:=I.pins_of fun p hp=>I.pin p (aW _ (cP _ hp))
theorem Ly{wi:TI}{g:TG}{tb:TS}{pos:Pos}(hp:PassesOwn #[2] X.A X.env X.xe)(hc:X.calm=true)(hi:PI X tg iter wi)(hg:PG X tg g)(hb:B_ X body tb)
  (hs:∀x,foldedSetIterable iter X.env x=pure x:=by intro _;rfl):PS X (.For tg iter body [] pos) (So wi g tb):=by
 intro pins s σ H D I h
 refine wpAny_For (gq (hi pins s σ H _ I h) fun v s1 h1=>gq h1 fun TH s2 h2=>?_) hs
 obtain⟨it,fp,tn,J,H2,e,I2,T,cV,f2,W,⟨m0,w0⟩,turn⟩:=h2
 subst e
 have stat:∀{H':Hp},(∀b∈fp,H' b=none)->∀b∈fp,pf X pins H' b:=fun hn b hb=>⟨hn b hb,(f2 b hb).2⟩
 refine codeAny_forLoop_any (fun n s'=>∃i σ' H',bw X pins σ' H' s'/\tn i s'.heap/\(∀b∈fp,H' b=none)/\W i n σ' H') ?_ m0 ⟨0,σ,H2,I2,cV,fun b hb=>(f2 b hb).1,w0⟩
 rintro n s3 ⟨i,σ3,H3,I3,jv,fr3,w3⟩
 rcases turn i n σ3 H3 w3 with⟨stop,qn⟩|⟨go,N,hN,step⟩
 ·refine fG hp (gq (T.done X rfl rfl rfl hc i pins s3 σ3 H3 X.xe I3 (stat fr3) jv stop) fun r s4 zq=>?_)
  obtain⟨hr,I4⟩:=zq
  subst hr
  exact jD ⟨σ3,H3,I4,qn⟩
 ·refine fG hp (gq (T.item X rfl rfl rfl hc i pins s3 σ3 H3 X.xe I3 (stat fr3) jv go) fun r s4 zq=>?_)
  obtain⟨u,hr,h4⟩:=zq
  subst hr
  refine fG hp (gq h4 fun _ s5 zq=>?_)
  obtain⟨x,H5,I5,r5,y5,st5,fr5⟩:=zq
  have I5':=I5.pinned (stat fr5) (T.obj _ _ st5)
  refine fG hp (gq (hg _ s5 σ3 H5 x u _ I5' r5 (step x H5 y5)) fun _ s6 zq=>?_)
  obtain⟨σ6,H6,I6,q6⟩:=zq
  refine fG hp (gq (hb _ s6 σ6 H6 _ I6 q6) fun f s7 q7=>?_)
  have again:∀{σ7:St} {H7:Hp},bw X (pins++vI fp s5.heap) σ7 H7 s7->N σ7 H7->∃m,m<n/\∃i σ' H',bw X pins σ' H' s7/\tn i s7.heap/\(∀b∈fp,H' b=none)/\W i m σ' H':=fun{σ7 H7} I7 n7=>by
   obtain⟨m',hm,w7⟩:=hN σ7 H7 n7
   refine⟨m',hm,i+1,σ7,H7,I7.unpinned,T.keep _ _ _ st5 fun b hb o e=>(I7.pin (b,o) (aW _ (aW _ (i8 hb e)))).1,fun b hb=>?_,w7⟩
   obtain⟨o,e,d⟩:=T.obj _ _ st5 b hb
   exact(I7.pin (b,o) (aW _ (aW _ (i8 hb e)))).2.1
  cases f with
  |next=>obtain⟨σ7,H7,I7,n7⟩:=q7;exact again I7 n7
  |cont=>obtain⟨σ7,H7,I7,n7⟩:=q7;exact again I7 n7
  |brk=>obtain⟨σ7,H7,I7,q7⟩:=q7;exact⟨σ7,H7,I7.unpinned,q7⟩
  |ret v=>obtain⟨x7,σ7,H7,I7,r7,q7⟩:=q7;exact⟨x7,σ7,H7,I7.unpinned,r7,q7⟩
end
abbrev R2:=V->V->Hp->VK->Prop
def mF(X:Cx)(f:Value->Value->Sem Value)(r:R2):Prop:=
 ∀(pins:List (Addr×Obj)) (s:Shared) (σ:St) (H:Hp) (x y:V) (v u:Value) (Q:VK),bw X pins σ H s->bN x v->bN y u->r x y H Q ->
  wpAny #[2] X.A (f v u) (EP X pins σ Q) X.xe s
def iV(X:Cx)(f:Value)(r:List V->Hp->VK->Prop):Prop:=
 ∀(pins:List (Addr×Obj)) (s:Shared) (σ:St) (H:Hp) (xs:List V) (us:List Value) (Q:VK),bw X pins σ H s->cH xs us->r xs H Q ->
  wpAny #[2] X.A (call f us) (EP X pins σ Q) X.xe s
def OO(r:R2)(ta tb:TE):TE:=fun σ H Q=>ta σ H fun x H1=>tb σ H1 fun y H2=>r x y H2 Q
def rI(C:Int->Int->Prop)(g:Int->Int->V):R2:=fun x y H Q=>∃i j,x=.int i/\y=.int j/\C i j/\Q (g i j) H
def Hc(g:Int->Int->V):R2:=fun x y H Q=>∃i j,x=.int i/\y=.int j/\Q (g i j) H
section
variable{X:Cx}{a b:Expr}{ta tb tc:TE}
theorem LA(ha:PE X a ta)(hb:PE X b tb){σ:St}{H:Hp}{R:V->V->Hp->Prop}(I:bw X pins σ H s)
  (h:ta σ H fun x H1=>tb σ H1 fun y H2=>R x y H2) {Q:Value->Shared->Prop} {f:Value->Value->Sem Value}
  (hf:∀v u s2 x y H2,bw X pins σ H2 s2->bN x v->bN y u->R x y H2->wpAny #[2] X.A (f v u) Q X.xe s2) :
  wpAny #[2] X.A (eval a X.env) (fun v s₁=>wpAny #[2] X.A (eval b X.env) (fun u s₂=>wpAny #[2] X.A (f v u) Q X.xe s₂) X.xe s₁) X.xe s:=by
 refine gq (ha pins s σ H _ I h) fun v s1 zq=>?_
 obtain⟨x,H1,I1,r1,q1⟩:=zq
 refine gq (hb pins s1 σ H1 _ I1 q1) fun u s2 zq=>?_
 obtain⟨y,H2,I2,r2,q2⟩:=zq
 exact hf v u s2 x y H2 I2 r1 r2 q2
theorem OP{op:Operator}{r:R2}(ho:mF X (binaryOp op) r)(ha:PE X a ta)(hb:PE X b tb):PE X (.BinOp a op b pos) (OO r ta tb):=by
 intro pins s σ H Q I h
 exact wpAny_BinOp (LA ha hb I h fun v u s2 x y H2 I2 rx ry q=>ho pins s2 σ H2 x y v u Q I2 rx ry q)
theorem Oj{f:Value->Value->Sem Value}{C:Int->Int->Prop}{g:Int->Int->Int}
  (rule:∀(i j:Int) (t u:Tok) (s:Shared) (Q:Value->Shared->Prop) (E:Value->Shared->Prop),C i j->Q (.int (g i j) s.toks) { s with toks:=s.toks+1 }->wpAny #[2] X.A (f (.int i t) (.int j u)) Q E s) :
  mF X f (rI C fun i j=>.int (g i j)):=by
 intro pins s σ H x y v u Q I rx ry h
 obtain⟨i,j,rfl,rfl,hc,q⟩:=h
 obtain⟨t,rfl⟩:=rx
 obtain⟨t',rfl⟩:=ry
 exact rule i j t t' s _ _ hc ⟨.int (g i j),H,I.tok _,⟨_,rfl⟩,q⟩
theorem LB{f:Value->Value->Sem Value}{g:Int->Int->Int}
  (rule:∀(i j:Int) (t u:Tok) (s:Shared) (Q:Value->Shared->Prop) (E:Value->Shared->Prop),Q (.int (g i j) s.toks) { s with toks:=s.toks+1 }->wpAny #[2] X.A (f (.int i t) (.int j u)) Q E s) :
  mF X f (Hc fun i j=>.int (g i j)):=by
 intro pins s σ H x y v u Q I rx ry h
 obtain⟨i,j,rfl,rfl,q⟩:=h
 obtain⟨t,rfl⟩:=rx
 obtain⟨t',rfl⟩:=ry
 exact rule i j t t' s _ _ ⟨.int (g i j),H,I.tok _,⟨_,rfl⟩,q⟩
theorem LC{f:Value->Value->Sem Value}{g:Int->Int->Bool}
  (rule:∀(i j:Int) (t u:Tok) (s:Shared) (Q:Value->Shared->Prop) (E:Value->Shared->Prop),Q (.bool (g i j)) s->wpAny #[2] X.A (f (.int i t) (.int j u)) Q E s) :
  mF X f (Hc fun i j=>.bl (g i j)):=by
 intro pins s σ H x y v u Q I rx ry h
 obtain⟨i,j,rfl,rfl,q⟩:=h
 obtain⟨t,rfl⟩:=rx
 obtain⟨t',rfl⟩:=ry
 exact rule i j t t' s _ _ ⟨.bl (g i j),H,I,rfl,q⟩
def Sq(i j:Int):Prop:=0<j/\j<1073741824
def LD(i j:Int):Prop:=0<=j/\j<=1000000/\i.natAbs<2^64
def LE(i j:Int):Prop:=(-(2^64)<i/\i<2^64)\/(-(2^64)<j/\j<2^64)
theorem LE.ok{i j:Int}(h:LE i j):IntMulOk i j:=by
 rcases h with⟨h1,h2⟩|⟨h1,h2⟩
 ·exact .of_left (intBits_le_64 h1 h2)
 ·exact .of_right (intBits_le_64 h1 h2)
theorem zr(k:Nat):(0:Int)<=2^k:=by
 rw[two_pow_cast]
 exact Int.natCast_nonneg _
theorem LF:mF X (binaryOp .Add) (Hc fun i j=>.int (i+j)):=LB fun _ _ _ _ _ _ _ q=>add_int q
theorem LG:mF X (binaryOp .Sub) (Hc fun i j=>.int (i-j)):=LB fun _ _ _ _ _ _ _ q=>sub_int q
theorem LH:mF X (binaryOp .Mult) (rI LE fun i j=>.int (i*j)):=Oj fun _ _ _ _ _ _ _ hc q=>mul_int q hc.ok
theorem HD:mF X (binaryOp .FloorDiv) (rI Sq fun i j=>.int (i/j)):=Oj fun i j _ _ _ _ _ hc q=>by
 have h1:(0:Int)<j:=hc.1
 have h2:j<1073741824:=hc.2
 exact floordiv_int #[0] (by rw[kh i #[0]];exact q) (.inl (PyProof.noPylong_small #[0]))
theorem LI:mF X (binaryOp .Mod) (rI (fun _ j=>0<j) fun i j=>.int (i%j)):=Oj fun i j _ _ _ _ _ hc q=>by
 have h1:(0:Int)<j:=hc
 exact mod_int' #[0] (by rw[Int.fmod_eq_emod_of_nonneg i #[0]];exact q)
theorem LJ:mF X (binaryOp .Pow) (rI LD fun i j=>.int (i^j.toNat)):=Oj fun _ _ _ _ _ _ _ hc q=>pow_int_small hc.1 hc.2.1 hc.2.2 q
theorem DC:mF X (binaryOp .LShift) (rI LD fun i j=>.int (i*2^j.toNat)):=Oj fun _ _ _ _ _ _ _ hc q=>lshift_int_small hc.1 hc.2.1 hc.2.2 q
theorem LK:mF X (binaryOp .RShift) (rI (fun _ j=>0<=j) fun i j=>.int (i/2^j.toNat)):=Oj fun i j _ _ _ _ _ hc q=>
 rshift_int hc (by rw[kh i (zr _)];exact q)
theorem LM:mF X (binaryOp .BitAnd) (Hc fun i j=>.int (Builtin.bitAnd i j)):=LB fun _ _ _ _ _ _ _ q=>and_int q
end
section
variable{X:Cx}{a b:Expr}{ta tb tc:TE}
theorem DD{σ:St}{H:Hp}{Q:VK}{k k':Bool}(I:bw X pins σ H s)(q:Q (.bl k) H)(e:k=k'):EP X pins σ Q (.bool k') s:=by
 subst e
 exact⟨.bl k,H,I,rfl,q⟩
theorem OQ:mF X (compareOp .Lt) (Hc fun i j=>.bl (decide (i<j))):=LC fun _ _ _ _ _ _ _ q=>lt_int q
theorem OR:mF X (compareOp .Gt) (Hc fun i j=>.bl (decide (j<i))):=LC fun _ _ _ _ _ _ _ q=>gt_int q
theorem OS:mF X (compareOp .GtE) (Hc fun i j=>.bl (decide (j<=i))):=LC fun _ _ _ _ _ _ _ q=>ge_int q
theorem Ce:mF X (compareOp .In) (fun x y H Q=>∃i j,x=.str i/\y=.str j/\Q (.bl (!(Builtin.Str.occurrences j i 0 j.length 1).isEmpty)) H):=by
 intro pins s σ H x y v u Q I rx ry h
 obtain⟨i,j,rfl,rfl,q⟩:=h
 obtain⟨t,rfl⟩:=rx
 obtain⟨t',rfl⟩:=ry
 exact in_str (DD I q rfl)
theorem vJ:mF X (compareOp .NotIn) (fun x y H Q=>∃i j,x=.str i/\y=.str j/\Q (.bl (!(!(Builtin.Str.occurrences j i 0 j.length 1).isEmpty))) H):=by
 intro pins s σ H x y v u Q I rx ry h
 obtain⟨i,j,rfl,rfl,q⟩:=h
 obtain⟨t,rfl⟩:=rx
 obtain⟨t',rfl⟩:=ry
 exact notIn_str (DD I q rfl)
theorem DE(b:Expr)(h:op≠.In:=by decide)(h2:op≠.NotIn:=by decide):behindInMarks op b=false:=by
 have e1:(op==CmpOp.In)=false:=by cases op<;>first|rfl|exact absurd rfl h
 have e2:(op==CmpOp.NotIn)=false:=by cases op<;>first|rfl|exact absurd rfl h2
 cases b<;>simp[behindInMarks,e1,e2]
theorem HE{r:R2}(ho:mF X (compareOp op) r)(ha:PE X a ta)(hb:PE X b tb)(hm:behindInMarks op b=false):PE X (.Compare a [op] [b] pos) (OO r ta tb):=by
 intro pins s σ H Q I h
 exact wpAny_Compare1 (LA ha hb I h fun v u s2 x y H2 I2 rx ry q=>ho pins s2 σ H2 x y v u Q I2 rx ry q) hm
def OT(t:TE):TT:=fun σ H Q=>t σ H fun x H'=>∃k,x=.bl k/\Q k H'
theorem HF{r:R2}(ho:mF X (compareOp op) r)(ha:PE X a ta)(hb:PE X b tb)(hm:behindInMarks op b=false):PT X (.Compare a [op] [b] pos) (OT (OO r ta tb)):=by
 intro pins s σ H Q I h
 refine mT (gq (ha pins s σ H _ I h) fun v s1 ⟨x,H1,I1,r1,q1⟩=>gq (hb pins s1 σ H1 _ I1 q1) fun u s2 ⟨y,H2,I2,r2,q2⟩=>
  gq (ho pins s2 σ H2 x y v u _ I2 r1 r2 q2) fun c s3 ⟨z,H3,I3,r3,k,e,q3⟩=>?_) hm
 subst e
 cases r3
 exact cZ ⟨H3,I3,q3⟩
theorem rY:(sizeLine:Nat)<2^63:=by rw[iF];decide
theorem zt:mF X (binaryOp .Add) (fun x y H Q=>∃i j,x=.str i/\y=.str j/\i.length+j.length<=sizeLine/\Q (.str (i++j)) H):=by
 intro pins s σ H x y v u Q I rx ry h
 obtain⟨i,j,rfl,rfl,hz,q⟩:=h
 obtain⟨t,rfl⟩:=rx
 obtain⟨t',rfl⟩:=ry
 exact add_str (fun t' tk=>⟨.str (i++j),H,I.tok _,⟨_,rfl⟩,q⟩) hz
theorem jk{x:V}(r:cH [x] us):∃u,us=[u]/\bN x u:=by
 cases r with
 |cons r1 r2=>cases r2;exact⟨_,rfl,r1⟩
theorem OU{x y:V}(r:cH [x,y] us):∃u w',us=[u,w']/\bN x u/\bN y w':=by
 cases r with
 |cons r1 r2=>
  cases r2 with
  |cons r3 r4=>cases r4;exact⟨_,_,rfl,r1,r3⟩
theorem Cf(hc:X.calm=true):iV X (.builtin "max") (fun xs H Q=>∃i j,xs=[.int i,.int j]/\Q (.int (if j>i then j else i)) H):=by
 intro pins s σ H xs us Q I r h
 obtain⟨i,j,rfl,q⟩:=h
 obtain⟨u,w',rfl,⟨t,rfl⟩,⟨t',rfl⟩⟩:=OU r
 refine max_two_ints (I.ok.hd hc) fun h' tk k=>⟨_,H,I.kept k,?_,q⟩
 by_cases hj:j>i
 ·rw[aw hj,aw hj];exact⟨_,rfl⟩
 ·rw[aC hj,aC hj];exact⟨_,rfl⟩
theorem uM:iV X (.type "int") (fun xs H Q=>(∃i,xs=[.int i]/\Q (.int i) H)\/∃k,xs=[.bl k]/\Q (.int (if k then 1 else 0)) H):=by
 intro pins s σ H xs us Q I r h
 rcases h with⟨i,rfl,q⟩|⟨k,rfl,q⟩
 ·obtain⟨u,rfl,t,rfl⟩:=jk r
  exact call_int_int ⟨.int i,H,I,⟨_,rfl⟩,q⟩
 ·obtain⟨u,rfl,r1⟩:=jk r
  cases r1
  exact call_int_bool ⟨.int (if k then 1 else 0),H,I.tok _,⟨_,rfl⟩,q⟩
end
structure LN(h:Heap)(x dx C:Addr)(mA:Str->Option Value):Prop where
 obj:h.get? x=some (PySem.W.instObj C dx)
 ns:h.Ns1 dx mA
 ne:dx≠x
theorem Cg{dx:Addr}(n:h.Ns1 dx mA):∃od,h.get? dx=some od/\∀name,PySem.W.lookIn name od=some (mA name):=by
 obtain⟨o,es,ep,ho,hd,hk,_,hm⟩:=n
 refine⟨o,ho,fun name=>?_⟩
 have e:=hm name
 unfold nsFind findBy at e
 rw[<- Array.find?_toList]at e
 unfold PySem.W.lookIn
 rw[hd]
 dsimp only
 split
 ·rename_i y q
  rw[q]at e
  exact cL some e
 ·rename_i q
  rw[q]at e
  have a:es.toList.any (·.refKey)=false:=by
   rw[fK]
   intro y hy
   obtain⟨z,t,rD⟩:=hk y (Array.mem_toList_iff.mp hy)
   simp[DictEntry.refKey,rD]
  have a':¬ es.toList.any (·.refKey)=true:=by rw[a];exact bC
  rw[aC a']
  exact cL some e
theorem LN.look{x dx C:Addr}(I:LN h x dx C mA):∃od,PySem.W.InstAt h x (PySem.W.instObj C dx) C (some od)/\∀name,PySem.W.lookIn name od=some (mA name):=
 let ⟨od,ho,hl⟩:=Cg I.ns
 ⟨od,⟨I.obj,rfl,rfl,ho⟩,hl⟩
section
variable{w:World}{x dx C:Addr}
end
theorem pe.some_of{v:V}{o:Option Value}(r:pe (some v) o):∃u,o=some u/\bN v u:=by
 cases o with
 |none=>exact(show False from r).elim
 |some u=>exact⟨u,rfl,r⟩
section
variable{w:World}{H H':Hp}{C dx:Addr}{fs Ut:List (Str×V)}
theorem HG(hok:kC P w H h)(e:H a=some (.ins C dx fs)):∃mA,LN h a dx C mA/\(∀f,pe (fs.lookup f) (mA f))/\PySem.Within mA (fs.map (·.1))/\fs.length<=1000/\H dx=some (.own a):=by
 obtain⟨d,z,ne,ob,mA,n,r,q⟩:=(show eD P w H h a (.ins C dx fs)from hok a _ e)
 exact⟨mA,⟨ob,n,ne⟩,r,q,z,d⟩
end
structure Ss(K:Frag)(C:Addr):Prop where
 pg:PySem.W.plainGet K C Str.empty=true
 hd:PySem.W.hasDictIn K C=true
 po:PySem.W.plainOver K C=true
 sa:PySem.W.findIn K (.ref C) "__setattr__"=some (some (.builtin "object.__setattr__"))
theorem Ss.get{C:Addr}(c:Ss K C)(f:Str):PySem.W.plainGet K C f=true:=c.pg
section
variable{X:Cx}{σ:St}{H:Hp}{C dx:Addr}{fs:List (Str×V)}{f:Str}{v:V}
end
section
variable{X:Cx}{o value:Expr}{f:Str}{Tv:Pos}{ta tv:TE}
end
section
variable{X:Cx}{σ:St}{H:Hp}{c:Value}{b:Bool}
inductive q9(K:Frag)(H:Hp):V->Value->Prop where
 |non:q9 K H .non (.type "NoneType")
 |bl (x:Bool):q9 K H (.bl x) (.type "bool")
 |int (i:Int):q9 K H (.int i) (.type "int")
 |str (x:Str):q9 K H (.str x) (.type "str")
 |flt (x:UInt64):q9 K H (.flt x) (.type "float")
 |lst {a:Addr} {xs:List V} (e:H a=some (.lst xs)):q9 K H (.ref a) (.type "list")
 |frz {a:Addr} {o:Obj} {xs:List V} (e:H a=some (.frz o (.lst xs))):q9 K H (.ref a) (.type "list")
 |tup {a:Addr} {xs:List V} (e:H a=some (.tup xs)):q9 K H (.ref a) (.type "tuple")
 |dK {a:Addr} {kvs:List (f'×V)} (e:H a=some (.dK kvs)):q9 K H (.ref a) (.type "dict")
 |dT {a:Addr} {kvs:List (List f'×V)} (e:H a=some (.dT kvs)):q9 K H (.ref a) (.type "dict")
 |ins {a C dx:Addr} {fs:List (Str×V)} (e:H a=some (.ins C dx fs)) (cl:Ss K C) (ha:PySem.W.findIn K (.ref C) "__class__"=some (some (.builtin "object.__class__")))
   (hn:PySem.W.specialIn K (.builtin "object.__class__") "__get__"=some (some (.builtin "getset_descriptor.__get__"))) (w9:PySem.W.takesIn K (.builtin "object.__class__")=some true)
   (hm:PySem.W.mroIn K C (.type "object")=some true):q9 K H (.ref a) (.ref C)
theorem nM{x:V}{t:Value}(I:bw X pins σ H s)(rx:bN x u)(ty:q9 X.K H x t)(e:PySem.W.kitOne X.K t c=some b)(h:∀tk,Q (.bool b) { s with toks:=tk }) :
  wpAny #[2] A (call (.builtin "isinstance") [u,c]) Q E s:=by
 cases ty with
 |non=>cases(show u=Value.none from rx);exact kia_one PySem.W.kitx_none I.kIn True.intro e (fun z=>nomatch z) h
 |bl y=>cases(show u=Value.bool y from rx);exact kia_one PySem.W.kitx_bool I.kIn True.intro e (fun z=>nomatch z) h
 |int i=>obtain⟨t,q⟩:=(show ∃t,u=Value.int i t from rx);cases q;exact kia_one PySem.W.kitx_int I.kIn True.intro e (fun z=>nomatch z) h
 |str y=>obtain⟨t,q⟩:=(show ∃t,u=Value.str y t from rx);cases q;exact kia_one PySem.W.kitx_str I.kIn True.intro e (fun z=>nomatch z) h
 |flt y=>obtain⟨t,q⟩:=(show ∃t,u=Value.float y t from rx);cases q;exact kia_one PySem.W.kitx_float I.kIn True.intro e (fun z=>nomatch z) h
 |@lst a xs ea=>
  cases(show u=Value.ref a from rx)
  obtain⟨_,_,n,_,h1⟩:=(show eD X.prog X.w H s.heap a (.lst xs)from I.hok a _ ea)
  exact kia_one PySem.W.kitx_list I.kIn ⟨_,h1,rfl⟩ e (fun z=>nomatch z) h
 |@frz a ob xs ea=>
  cases(show u=Value.ref a from rx)
  obtain⟨_,_,_,n,_,h1⟩:=(show eD X.prog X.w H s.heap a (.frz ob (.lst xs))from I.hok a _ ea)
  exact kia_one PySem.W.kitx_list I.kIn ⟨_,h1,rfl⟩ e (fun z=>nomatch z) h
 |@tup a xs ea=>
  cases(show u=Value.ref a from rx)
  obtain⟨_,_,_,p⟩:=(show eD X.prog X.w H s.heap a (.tup xs)from I.hok a _ ea)
  obtain⟨o,h1,h2,_⟩:=p
  exact kia_one PySem.W.kitx_tuple I.kIn ⟨o,h1,h2⟩ e (fun z=>nomatch z) h
 |@dK a kvs ea=>
  cases(show u=Value.ref a from rx)
  obtain⟨_,_,vs,_,p⟩:=(show eD X.prog X.w H s.heap a (.dK kvs)from I.hok a _ ea)
  obtain⟨o,es,ep,h1,h2,_⟩:=p
  exact kia_one PySem.W.kitx_dict I.kIn ⟨o,h1,h2.1⟩ e (fun z=>nomatch z) h
 |@dT a kvs ea=>
  cases(show u=Value.ref a from rx)
  obtain⟨_,_,xs,_,o,es,ep,h1,h2,_⟩:=(show eD X.prog X.w H s.heap a (.dT kvs)from I.hok a _ ea)
  exact kia_one PySem.W.kitx_dict I.kIn ⟨o,h1,h2.1⟩ e (fun z=>nomatch z) h
 |@ins a C dx fs ea cl ha hn w9 hm=>
  cases(show u=Value.ref a from rx)
  obtain⟨mA,O,_⟩:=HG I.hok ea
  obtain⟨od,J,_⟩:=O.look
  exact kia_one (PySem.W.kitx_own (cl.get _) cl.hd ha hn w9 hm) I.kIn J e (fun z=>nomatch z) h
end
structure fR(k:Nat)(A:Around):Prop where
 hd:A.handled=none
 dp:A.depth+2*k+5<recursionLimit
 un:A.units+16*k+200<cLine
theorem fR.mono{k:Nat}(r:fR k A)(h:j<=k):fR j A:=⟨r.hd,by have:=r.dp;omega,by have:=r.un;omega⟩
theorem fR.deeper{k:Nat}(r:fR (k+1) A)(env:Env):fR k (A.deeper env):=
 ⟨r.hd,by have:=r.dp;show A.depth+1+2*k+5<_;omega,by have:=r.un;show A.units+3+16*k+200<_;omega⟩
theorem fR.depth{k:Nat}(r:fR k A):A.depth<recursionLimit:=by have:=r.dp;omega
theorem fR.units{k:Nat}(r:fR k A):A.units+64<cLine:=by have:=r.un;omega
def Su:TA:=fun _ H Q=>Q [] H
def OV(ta:TE)(tr:TA):TA:=fun σ H Q=>ta σ H fun x H1=>tr σ H1 fun xs H2=>Q (x::xs) H2
section
variable{X:Cx}{te:TE}{t:TA}
theorem vK:PA X [] Su:=fun _ _ _ _ H Q I h=>kR ⟨[],H,I,.nil,h⟩
theorem ph(ha:PE X e te)(hr:PA X es t)(hs:starEach (e::es) X.env=(false,eval e X.env)::starEach es X.env:=by rfl):PA X (e::es) (OV te t):=by
 intro pos pins s σ H Q I h
 rw[hs]
 show wpAny _ _ (spliced ((false,eval e X.env)::backTo pos (starEach es X.env))) _ _ s
 refine iq (gq (ha pins s σ H _ I h) fun u s1 zq=>?_)
 obtain⟨x,H1,I1,r1,q1⟩:=zq
 exact gq (hr pos pins s1 σ H1 _ I1 q1) fun us s2 ⟨xs,H2,I2,r2,q2⟩=>⟨x::xs,H2,I2,.cons r1 r2,q2⟩
end
abbrev Sp:=List V->Hp->VK->XK->Prop
abbrev Dr:=List Env->Hp->Shared->XK->Value->Shared->Prop
structure xE(P:Program)(w:World)(K:Frag)(mg:Str->Option Value)(base:Heap)(A:Around)(outer:List Env)(s:Shared)(H:Hp):Prop where
 frames:A.frames=some outer
 mod:Mod K mg base
 bs:∀b o,base.get? b=some o->s.heap.get? b=some o/\H b=none
 bsz:base.objs.size<=s.heap.objs.size
 funs:s.heap.FunFrames base outer
 frf:∀b∈uo outer,H b=none
 hok:kC P w H s.heap
 bare:AllBare s.gens
def CE(outer:List Env)(P:Program)(w:World)(H:Hp)(s:Shared)(Q:VK)(u:Value)(s':Shared):Prop:=
 ∃v H',s'.os=s.os/\AllBare s'.gens/\Un (uo outer) [] H H' s.heap s'.heap/\kC P w H' s'.heap/\bN v u/\Q v H'
def CR(CX:Dr)(outer:List Env)(P:Program)(w:World)(H:Hp)(s:Shared)(Q:VK)(E:XK)(r:Result)(s':Shared):Prop:=
 match r with
 |.ok (.ret u)=>CE outer P w H s Q u s'
 |.ok _=>False
 |.error e=>CX outer H s E e s'
structure fS(P:Program)(w:World)(K:Frag)(mg:Str->Option Value)(base:Heap)(CX:Dr)(k:Nat)(f:Addr)(fd:FuncData)(ps:List Str)(sp:Sp):Prop where
 len:∀vs H Q E,sp vs H Q E->vs.length=ps.length
 run:∀(A:Around) (outer:List Env) (s:Shared) (H:Hp) (args:Args) (us:List Value) (vs:List V) (Q:VK) (E:XK),fR k A->xE P w K mg base A outer s H->BindsTo s fd args (ps.zip us)->cH vs us->sp vs H Q E ->
  codeAny (model P w) A (.call (.ref f) args) (CR CX outer P w H s Q E) s
theorem fS.mono{w:World}{CX:Dr}{k:Nat}{sp:Sp}(F:fS P w K mg base CX j f fd ps sp)(h:j<=k) :
  fS P w K mg base CX k f fd ps sp:=⟨F.len,fun A outer s H args us vs Q E hr=>F.run A outer s H args us vs Q E (hr.mono h)⟩
section
variable{X:Cx}{σ:St}{H:Hp}{s':Shared}
theorem bw.env0(I:bw X pins σ H s):xE X.prog X.w X.K X.mg X.base X.A X.stack s H:=
 ⟨I.ok.frames,I.ok.mod,I.bs,a8 I.ok.bsz I.sz,I.stack,I.stkFree,I.hok,I.bare⟩
theorem bw.after{Q:VK}(I:bw X pins σ H s)(h:CE X.stack X.prog X.w H s Q u s'):EP X pins σ Q u s':=by
 obtain⟨v,H',os,bare,un,hok,r,q⟩:=h
 obtain⟨hh,g,d,t,os'⟩:=s'
 obtain rfl:os'=s.os:=os
 exact⟨v,H',I.call (h':=hh) (g':=g) (d':=d) (t':=t) (ch:=[]) un hok bare (fun b z=>absurd z #[7]),r,q⟩
end
def xF(K:Frag)(fd:FuncData)(ps:List Str)(ds:List Value):Prop:=
 ∀(s:Shared) (us:List Value),K.In s.heap->(us++ds).length=ps.length->BindsTo s fd ⟨us,[]⟩ (ps.zip (us++ds))
theorem xF.all(h:∀us:List Value,us.length=ps.length->bindArgs fd ⟨us,[]⟩=pure (ps.zip us)):xF K fd ps []:=fun s us _ hl=>by
 rw[bO]at hl ⊢
 exact .of_eq (h us hl)
section
variable{X:Cx}{CX:Dr}{k:Nat}{C:Addr}{sp:Sp}{UC:List V}{ds:List Value}{E:XK}{m:Str}{o:Expr}{ta:TE}{t:TA}
end
def PK(X:Cx)(T6:List Keyword)(t:TA):Prop:=
 ∀(pos:Pos) (pins:List (Addr×Obj)) (s:Shared) (σ:St) (H:Hp) (Q:List V->Hp->Prop),bw X pins σ H s->t σ H Q->wpAny #[2] X.A (evalAll ((backToKw pos (keywordEach T6 X.env)).map (·.2))) (AP X pins σ Q) X.xe s
section
variable{X:Cx}{CX:Dr}{k:Nat}{C:Addr}{ks:List Str}{sp:Sp}{E:XK}{m:Str}{Q9:Pos}{o:Expr}{T6:List Keyword}{te ta:TE}{t tk:TA}{nm:Option Str}
variable{g:List Value->List Value->List Value}{gV:List V->List V->List V}
end
structure b9(N P:List Str)(sc:Scope):Prop where
 kind:sc.kind=.function
 co:sc.isCoroutine=false
 gen:sc.isGenerator=false
 nd:N.Nodup
 pre:N.take P.length=P
 par:∀x∈P,sc.names.lookup x=some .local\/sc.names.lookup x=some .cell
 nofree:∀y∈sc.names,y.2≠.free
theorem uN:∀{binds:List (Str×Value)} {m:Str->Option Value},(∀v,(x,v)∉binds)->bindL kindOf binds m x=m x
 |[],_,_=>rfl
 |(n,v)::r,m,h=>by
  unfold bindL
  rw[uN fun w hw=>h w (ay _ hw)]
  split
  ·have:x≠n:=by rintro rfl;exact h v aM
   simp[this]
  ·rfl
theorem uO:∀{binds:List (Str×Value)} {m:Str->Option Value},(∀v,(x,v)∉binds)->bindC kindOf binds m x=m x
 |[],_,_=>rfl
 |(n,v)::r,m,h=>by
  unfold bindC
  rw[uO fun w hw=>h w (ay _ hw)]
  split
  ·rfl
  ·have:x≠n:=by rintro rfl;exact h v aM
   simp[this]
theorem uP:∀{P:List Str} {vs:List Value} {i:Nat} {m:Str->Option Value},P.Nodup->P[i]?=some x->vs[i]?=some v->kindOf x=some .local ->
  bindL kindOf (P.zip vs) m x=some v
 |[],_,_,_,_,h,_,_=>by simp at h
 |_::_,[],_,_,_,_,h,_=>by simp at h
 |p::P,w::vs,0,m,nd,h1,h2,hk=>by
  simp at h1 h2;subst h1;subst h2
  show bindL kindOf ((p,w)::P.zip vs) m p=_
  unfold bindL
  rw[uN fun v hv=>(bG.mp nd).1 (jE hv).1,aw hk]
  simp
 |p::P,w::vs,i+1,m,nd,h1,h2,hk=>by
  show bindL kindOf ((p,w)::P.zip vs) m x=_
  unfold bindL
  exact uP (i:=i) (bG.mp nd).2 (by simpa using h1) (by simpa using h2) hk
theorem uQ:∀{P:List Str} {vs:List Value} {i:Nat} {m:Str->Option Value},P.Nodup->P[i]?=some x->vs[i]?=some v->kindOf x≠some .local ->
  bindC kindOf (P.zip vs) m x=some v
 |[],_,_,_,_,h,_,_=>by simp at h
 |_::_,[],_,_,_,_,h,_=>by simp at h
 |p::P,w::vs,0,m,nd,h1,h2,hk=>by
  simp at h1 h2;subst h1;subst h2
  show bindC kindOf ((p,w)::P.zip vs) m p=_
  unfold bindC
  rw[uO fun v hv=>(bG.mp nd).1 (jE hv).1,aC hk]
  simp
 |p::P,w::vs,i+1,m,nd,h1,h2,hk=>by
  show bindC kindOf ((p,w)::P.zip vs) m x=_
  unfold bindC
  exact uQ (i:=i) (bG.mp nd).2 (by simpa using h1) (by simpa using h2) hk
def jI(N:List Str)(vs:List V):St:=vs.map some++List.replicate (N.length-vs.length) none
def zu(CX:Dr)(P:Program)(w:World)(K:Frag)(mg:Str->Option Value)(base:Heap)(N:List Str)(qual:Str)(scope:Scope)(f:Addr)(cd:Value)(A:Around)(outer:List Env)(s:Shared)(H:Hp)(E:XK):Cx where
 prog:=P
 w:=w
 K:=K
 mg:=mg
 base:=base
 A:=A.deeper (envOfC qual scope s.heap.objs.size f cd)
 N:=N
 s₀:=s
 H₀:=H
 env:=envOfC qual scope s.heap.objs.size f cd
 outer:=outer
 stack:=envOfC qual scope s.heap.objs.size f cd::outer
 ex:=[]
 calm:=true
 fn:=fun _=>true
 pn:=[]
 xe:=fun e s'=>wpAny (model P w) (A.deeper (envOfC qual scope s.heap.objs.size f cd)) (leaving (envOfC qual scope s.heap.objs.size f cd) e) (fun _ s''=>CX outer H s E e s'') (fun e' s''=>CX outer H s E e' s'') s'
theorem iI{n:Nat}(h:sc.names.lookup x=some .cell):∃c,(cellsFrom n sc.names []).lookup x=some c:=by
 have q:=PySem.W.cellsFrom_some sc.names n [] (.inl h)
 exact Option.isSome_iff_exists.mp q
theorem Ch{CX:Dr}{w:World}{N:List Str}{cd:Value}{outer:List Env}{s1:Shared}{H:Hp}{E:XK}{vs:List V}
  (S:b9 N ps scope) (hd:A.handled=none) (e0:xE P w K mg base A outer s H) (hl:vs.length=ps.length) (r:cH vs us)
  (x:InCallC s s.heap.objs.size (bindL (envOfC qual scope s.heap.objs.size f cd).kindOf (ps.zip us) fun _=>none) (cellsFrom (s.heap.objs.size+1) scope.names []) (bindC (envOfC qual scope s.heap.objs.size f cd).kindOf (ps.zip us) fun _=>none) s1) :
  bw (zu CX P w K mg base N qual scope f cd A outer s H E) [] (jI N vs) H s1:=by
 have qK:ps.length<=N.length:=by have:=cL List.length S.pre;rw[bf]at this;omega
 obtain⟨h1,tk,rfl,hk⟩:=x.done
 have noA:∀b:Addr,b∉(zu CX P w K mg base N qual scope f cd A outer s H E).ex:=fun b z=>absurd (show b∈([]:List Addr)from z) #[7]
 refine⟨⟨e0.mod,S.kind,rfl,rfl,au _,fun y z c h1 h2=>?_,fun y hy=>?_,fun y c _ h=>?_,fun _=>hd,Around.frames_deeper e0.frames,.inr ⟨rfl,rfl⟩,fun b z=>absurd z (noA b),e0.bs,e0.bsz,fun b _ _=>noA b,fun b z=>absurd z (noA b),e0.funs,e0.frf⟩,
  rfl,e0.bare,Un.kept hk,⟨_,x.toInCall.ns,fun i y v h1 h2 h3=>?_⟩,fun y c h=>⟨_,x.cell y c h⟩,e0.hok.fresh (au _),fun y c h=>?_,fun p hp=>absurd (show p∈([]:List (Addr×Obj))from hp) #[7],e0.hok.kept hk,?_⟩
 ·exact name_of_addr x.apart (PySem.mem_of_lookup h1) (PySem.mem_of_lookup h2)
 ·have hy:scope.names.lookup y=some .cell\/scope.names.lookup y=some .free:=hy
  rcases hy with hy|hy
  ·exact iI hy
  ·exact absurd rfl (S.nofree _ (PySem.mem_of_lookup hy))
 ·exact dh (x.above y c (PySem.mem_of_lookup h))
 ·have hi:i<vs.length:=by
   unfold jI at h2
   by_cases hi:i<vs.length
   ·exact hi
   ·rw[cQ (by simpa using hi)]at h2
    rw[iG]at h2
    split at h2<;>cases h2
  have ha:vs[i]?=some v:=by
   unfold jI at h2
   rw[av (by simpa using hi),ak]at h2
   cases e:vs[i]? with
   |none=>rw[e]at h2;cases h2
   |some a=>rw[e]at h2;cases h2;rfl
  obtain⟨u,hu,rv⟩:=r.get ha
  have hp:ps[i]?=some y:=by
   rw[<- S.pre,aX #[0]];exact h1
  have ndP:ps.Nodup:=by rw[<- S.pre];exact S.nd.sublist (gA _ _)
  refine⟨u,rv,?_⟩
  rcases S.par y (ao hp)with k|k
  ·exact .inl ⟨k,uP ndP hp hu k⟩
  ·obtain⟨c,e⟩:=iI (n:=s.heap.objs.size+1) k
   refine .inr ⟨.inl k,c,e,?_⟩
   have q:=x.cell y c e
   rw[uQ ndP hp hu (by show scope.names.lookup y≠_;rw[k];decide)]at q
   exact q
 ·exact e0.hok.fresh (dh (x.above y c (PySem.mem_of_lookup h)))
 ·unfold jI
  show _=N.length
  rw[aN,ai,mU]
  omega
theorem OW{CX:Dr}{w:World}{k:Nat}{params:Arguments}{dV kV jc pm gU ct oc:Value}{an od:Option Addr}
  {K9:Array (Option Value)} {N ps:List Str} {sp:Sp} (lk:K.lookup f=some ⟨oc,od,.func (fnOf name qual params body scope dV kV jc pm an gU ct),K9⟩) (nJ:codeIn K gU qual=true) (S:b9 N ps scope)
  (len:∀vs H Q E,sp vs H Q E->vs.length=ps.length)
  (ue:∀(A:Around) (outer:List Env) (s:Shared) (H:Hp) (vs:List V) (Q:VK) (E:XK),fR k (A.deeper (envOfC qual scope s.heap.objs.size f gU))->sp vs H Q E ->
   ∃t,B_ (zu CX P w K mg base N qual scope f gU A outer s H E) body t/\t { nx:=fun _ H'=>Q .non H',rt:=Q } (jI N vs) H) :
  fS P w K mg base CX (k+1) f (fnOf name qual params body scope dV kV jc pm an gU ct) ps sp:=by
 refine⟨len,fun A outer s H args us vs Q E hr e0 hb r K7=>?_⟩
 have hl:=len _ _ _ _ K7
 have KX:K.In s.heap:=e0.mod.kin.keeps fun b o e=>(e0.bs b o e).1
 have lim:s.heap.NoLimit:=e0.mod.nolimit.keeps fun b o e=>(e0.bs b o e).1
 have fA:∀y∈ps.zip us,scope.names.lookup y.1=some .local\/(scope.names.lookup y.1=some .cell/\((cellsFrom (s.heap.objs.size+1) scope.names []).lookup y.1).isSome=true):=fun zq hy=>by
  obtain⟨n,v⟩:=zq
  rcases S.par n (jE hy).1 with q|q
  ·exact .inl q
  ·exact .inr ⟨q,PySem.W.cellsFrom_some _ _ _ (.inl q)⟩
 refine codeAny_call_function hr.depth (KX _ _ lk) rfl S.co S.gen rfl (PySem.W.codeRec_of KX nJ) (hb _ _ _ _ ?_)
 refine wpAny_newFunctionEnv_cells S.kind fA fun env he s1 x=>?_
 subst he
 refine⟨lim.keeps x.toInCall.keep,codeAny_func ?_⟩
 obtain⟨t,ht,hq⟩:=ue A outer s H vs Q E (hr.deeper _) K7
 have I:bw (zu CX P w K mg base N qual scope f gU A outer s H E) [] (jI N vs) H s1:=Ch S hr.hd e0 hl r x
 refine dG (ht [] s1 (jI N vs) H _ I hq) (fun fl s' hs=>?_) fun e s' hs=>hs
 have fin:∀{σ':St} {H':Hp} {v:V} {u:Value},bw (zu CX P w K mg base N qual scope f gU A outer s H E) [] σ' H' s'->bN v u->Q v H'->CE outer P w H s Q u s':=
  fun{σ' H' v u} J rv q=>⟨v,H',J.os,J.bare,J.base,J.hok,rv,q⟩
 cases fl with
 |ret u=>
  obtain⟨v,σ',H',J,rv,q⟩:=hs
  exact fin J rv q
 |next=>
  obtain⟨σ',H',J,q⟩:=hs
  exact fin (v:=V.non) (u:=Value.none) J rfl q
 |brk=>
  obtain⟨_,_,_,q⟩:=hs
  exact False.elim q
 |cont=>
  obtain⟨_,_,_,q⟩:=hs
  exact False.elim q
section
variable{X:Cx}{t:TA}{id T:String}{r:List V->Hp->VK->Prop}
def Sv(r:List V->Hp->VK->Prop)(t:TA):TE:=fun σ H Q=>t σ H fun vs H1=>r vs H1 Q
theorem xG(hc:iV X (.builtin id) r)(hg:Gl X x)(hm:X.mg x=none)(hv:bootBuiltins x=some (.builtin id))(ha:PA X (e::es) t)(hn:x ≠ "__name__":=by decide)(zd:(x==("__debug__":Str))=false:=by decide)
  (he:starEach (e::es) X.env=(false,eval e X.env)::starEach es X.env:=by rfl) (qK:(backTo pos (starEach es X.env)).any (·.1)=false:=by rfl):PE X (.Call (.Name x p) (e::es) [] pos) (Sv r t):=by
 intro pins s σ H Q I h
 refine fm (ql I hg hm hv ?_ hn zd)
 exact PyProof.Rows.callWith_builtin1 (gq (ha pos pins s σ H _ I h) fun us s1 ⟨vs,H1,I1,r1,q1⟩=>hc pins s1 σ H1 vs us Q I1 r1 q1) he qK
theorem qm(hc:iV X (.type T) r)(hg:Gl X x)(hm:X.mg x=none)(hv:bootBuiltins x=some (.type T))(ha:PA X (e::es) t)(hn:x ≠ "__name__":=by decide)(zd:(x==("__debug__":Str))=false:=by decide)
  (he:starEach (e::es) X.env=(false,eval e X.env)::starEach es X.env:=by rfl) (qK:(backTo pos (starEach es X.env)).any (·.1)=false:=by rfl):PE X (.Call (.Name x p) (e::es) [] pos) (Sv r t):=by
 intro pins s σ H Q I h
 refine fm (ql I hg hm hv ?_ hn zd)
 exact gz (gq (ha pos pins s σ H _ I h) fun us s1 ⟨vs,H1,I1,r1,q1⟩=>hc pins s1 σ H1 vs us Q I1 r1 q1) he qK
end
end L2
variable{xs:List (List L2.f'×PySem.Addr×PySem.Value)}{H H':L2.Hp}{X:L2.Cx}{σ:L2.St}{y:L2.V}{te:L2.TE}{tc:L2.TT}{wi:L2.TI}{vs:List L2.V}
namespace HT
open PySem PyProof.Rows
noncomputable def lexLt:List Int->List Int->Bool
 |[],[]=>false
 |[],_::_=>true
 |_::_,[]=>false
 |x::xs,y::ys=>if x=y then lexLt xs ys else decide (x<y)
theorem lexLt_cons(x y:Int)(xs ys:List Int):lexLt (x::xs) (y::ys)=if x=y then lexLt xs ys else decide (x<y):=rfl
theorem lexLt_nil_nil:lexLt [] []=false:=rfl
theorem rZ(y:Int)(ys:List Int):lexLt [] (y::ys)=true:=rfl
theorem r6(x:Int)(xs:List Int):lexLt (x::xs) []=false:=rfl
theorem DF(A:Around)(s:Shared)(a:Int)(t:Tok)(c:Int)(u:Tok):∃e,SeqAt.EqAt A s (.int a t) (.int c u) e/\(e=true↔a=c):=
 ⟨(a==c),SeqAt.EqAt.int_int a t c u,by simp⟩
theorem DG(A:Around)(s:Shared)(a:Int)(t:Tok)(c:Int)(u:Tok)(prog:Program)(w:World)(E:Value->Shared->Prop)(Q:Value->Shared->Prop)(h:Q (.bool (decide (a<c))) s) :
  wpAny #[17] A (richCompare .Lt (.int a t) (.int c u)) Q E s:=
 (PyProof.Rows.lt_int h:wpAny #[17] A (compareOp .Lt (.int a t) (.int c u)) Q E s)
section
open PySem.SeqAt
open PySem.AutoSeq1 (wpAny_loadPart')
open PySem.MeetsSeq PySem.MeetsSeq2 PySem.MeetsSeq3
theorem ur(l b:Addr)(items hX:Array Value)(n n2:Nat)(dd Ou:Option Addr)(sl JG:Array (Option Value))(ns ms:List Int)(hi:IntsAre items.toList ns)(hj:IntsAre hX.toList ms) :
  Meets (Builtin.«tuple.__lt__» ⟨[.ref l,.ref b],[]⟩)
   (fun _ R s=>s.heap.get? l=some { cls:=.type "tuple",dict:=dd,data:=.seq items n,slots:=sl }/\s.heap.get? b=some { cls:=.type "tuple",dict:=Ou,data:=.seq hX n2,slots:=JG } /\
    R (.ok (.ret (.bool (lexLt ns ms)))) s):=
 .of_wp fun prog w A R s h=>by
  obtain⟨hp,g,d,tk,os⟩:=s;obtain⟨hl,hb,h⟩:=h
  have f2:=lh
  have z1:items.size=ns.length:=by rw[<- hi.length];simp
  have z2:hX.size=ms.length:=by rw[<- hj.length];simp
  wp_walk using bv hl,bv hb,gW _ (fun rest b s'=>b.1=none/\s'=⟨hp,g,d,tk,os⟩/\∃(vs ws:List Value) (NM Ow:List Int),rest=vs.zip ws /\
   IntsAre vs NM/\IntsAre ws Ow/\NM.length+hX.size=Ow.length+items.size/\R (.ok (.ret (.bool (lexLt NM Ow)))) ⟨hp,g,d,tk,os⟩) _
  case turn=>
   rintro⟨y,x⟩ rest b s' ⟨uk,rfl,vs,ws,NM,Ow,hz,hvi,hwi,d7,hR⟩
   cases hvi with
   |nil=>rw[List.zip_nil_left]at hz;cases hz
   |cons a t hvi'=>
    cases hwi with
    |nil=>rw[List.zip_nil_right]at hz;cases hz
    |cons c u hwi'=>
     rw[List.zip_cons_cons]at hz
     injection hz with hyx uf
     injection hyx with hy hx
     subst hy hx
     rw[lexLt_cons]at hR
     simp only[bz]at d7
     obtain⟨e,he,hiff⟩:=DF A.in1 ⟨hp,g,d,tk,os⟩ a t c u
     refine ac (he prog w _ _ ?_)
     cases e with
     |true=>
      rw[aw (hiff.mp rfl)]at hR
      wp_walk
      exact⟨rfl,rfl,_,_,_,_,uf,hvi',hwi',by omega,hR⟩
     |false=>
      rw[aC (fun q=>absurd (hiff.mpr q) bC)]at hR
      have hri:=DG A.in1 ⟨hp,g,d,tk,os⟩ a t c u prog w
      wp_walk using hri
      exact⟨_,rfl,by simpa using hR⟩
  case fin=>
   rintro⟨b1,b2⟩ s' ⟨uk,rfl,vs,ws,NM,Ow,hz,hvi,hwi,d7,hR⟩
   simp only at uk
   subst uk
   have hv:lexLt NM Ow=decide (items.size<hX.size):=by
    cases hvi with
    |nil=>
     cases hwi with
     |nil=>
      simp only[dM]at d7
      rw[lexLt_nil_nil]
      exact(aZ #[0]).symm
     |cons c u hw=>
      simp only[dM,bz]at d7
      rw[rZ]
      exact(br #[0]).symm
    |cons a t hv=>
     cases hwi with
     |nil=>
      simp only[dM,bz]at d7
      rw[r6]
      exact(aZ #[0]).symm
     |cons c u hw=>
      rw[List.zip_cons_cons]at hz
      cases hz
   rw[hv]at hR
   wp_walk
   exact⟨_,rfl,by simpa[Builtin.Tuple.tupleCompareSizes]using hR⟩
  case h=>
   exact⟨rfl,rfl,items.toList,hX.toList,ns,ms,rfl,hi,hj,by omega,h⟩
end
section
variable{w:World}
theorem lt_tupInts{l:Addr}{hX:Array Value}{ms:List Int}(hl:IsTup s.heap l items)(hb:IsTup s.heap b hX)(hi:IntsAre items.toList ns)(hj:IntsAre hX.toList ms)
  (hu:A.units<cLine) (h:Q (.bool (lexLt ns ms)) s):wpAny #[17] A (compareOp .Lt (.ref l) (.ref b)) Q E s:=by
 obtain⟨⟨cls,dd,data,sl⟩,ho,hc,n,hd⟩:=id hl
 obtain⟨⟨cls2,Ou,data2,JG⟩,ho2,hc2,n2,Hk⟩:=id hb
 simp only at hc hd hc2 Hk
 subst hc hd hc2 Hk
 exact richCompare_meets_room (op:=.Lt) ⟨_,ho,rfl⟩ ⟨_,ho2,rfl⟩ PySem.F.slot_tuple_lt PySem.F.entry_tuple_lt (PySem.F.args_tuple_lt_2 _ _) (ur l b items hX n n2 dd Ou sl JG ns ms hi hj)
  ⟨ho,ho2,show Value.bool (lexLt ns ms)≠Value.notImplemented/\Q (.bool (lexLt ns ms)) s from⟨(fun x=>nomatch x),h⟩⟩ hu
theorem cat_tup{t:Addr}{vs ws:List Value}(ht:IsTup s.heap t vs.toArray)(hb:IsTup s.heap b ws.toArray)(hv:vs≠[])
  (h1:ws=[]->Q (.ref t) s) (h2:ws≠[]->Q (.ref s.heap.objs.size) { s with heap:=s.heap.push { cls:=.type "tuple",data:=.seq (vs++ws).toArray } })
  (hsz:vs.length+ws.length<=sizeLine):wpAny #[17] A (binaryOp .Add (.ref t) (.ref b)) Q E s:=by
 obtain⟨⟨cls,dd,data,sl⟩,ho,hc,n,hd⟩:=id ht
 obtain⟨⟨cls2,Ou,data2,JG⟩,ho2,hc2,n2,Hk⟩:=id hb
 simp only at hc hd hc2 Hk
 subst hc hd hc2 Hk
 have e:vs.toArray++ws.toArray=(vs++ws).toArray:=by simp
 by_cases hw:ws=[]
 ·exact p8 ⟨_,ho,rfl⟩ ⟨_,ho2,rfl⟩ lO oD PySem.F.slot_tuple_add PySem.F.entry_tuple_add (PySem.F.args_tuple_add_2 _ _)
   (tuple_addW1 t b vs.toArray ws.toArray n n2 dd Ou sl JG (by simpa using hv) (by simp[hw])) ⟨ho,ho2,h1 hw⟩
 ·refine p8 ⟨_,ho,rfl⟩ ⟨_,ho2,rfl⟩ lO oD PySem.F.slot_tuple_add PySem.F.entry_tuple_add (PySem.F.args_tuple_add_2 _ _)
   (tuple_addW2 t b vs.toArray ws.toArray n n2 dd Ou sl JG (by simpa using hv) (by simpa using hw) (by rw[aO,aO];exact hsz)) ⟨ho,ho2,?_⟩
  rw[e]
  exact h2 hw
noncomputable def sIx(n d:Nat):Option Int->Nat
 |none=>d
 |some v=>if v<0 then(v+(n:Int)).toNat else min v.toNat n
theorem sIx_none(n d:Nat):sIx n d none=d:=rfl
theorem sIx_nat(n d k:Nat):sIx n d (some (k:Int))=min k n:=by
 show(if (k:Int)<0 then((k:Int)+(n:Int)).toNat else min (k:Int).toNat n)=min k n
 rw[aC #[0],aG]
theorem sIx_le(n d:Nat)(hd:d<=n)(o:Option Int):sIx n d o<=n:=by
 cases o with
 |none=>exact hd
 |some v=>
  show(if v<0 then(v+(n:Int)).toNat else min v.toNat n)<=n
  by_cases hv:v<0
  ·rw[aw hv];omega
  ·rw[aC hv];exact Nat.min_le_right _ _
theorem AG(v:Int)(n d:Nat):(if v<0 then max (v+(n:Int)) 0 else min v (n:Int))=((sIx n d (some v):Nat):Int):=by
 show(if v<0 then max (v+(n:Int)) 0 else min v (n:Int))=(((if v<0 then(v+(n:Int)).toNat else min v.toNat n):Nat):Int)
 by_cases hv:v<0
 ·simp only[aw hv];omega
 ·simp only[aC hv];omega
theorem zv(lo hi:Option Int)(n:Nat):Builtin.Slice.sliceAdjust lo hi 1 (n:Int)=(((sIx n 0 lo:Nat):Int),((sIx n n hi:Nat):Int)):=by
 have h1:¬ ((1:Int)<0):=by omega
 unfold Builtin.Slice.sliceAdjust
 simp only[h1,eR]
 refine Prod.ext ?_ ?_
 ·cases lo with
  |none=>rfl
  |some v=>exact AG v n 0
 ·cases hi with
  |none=>rfl
  |some v=>exact AG v n n
theorem zw(i j:Nat):Builtin.Slice.slicePlaces (i:Int) (j:Int) 1=j-i:=by
 unfold Builtin.Slice.slicePlaces
 have h1:(1:Int)>0:=by omega
 simp only[h1,dS,Int.ediv_one]
 split<;>omega
theorem r_{o:Option Int}{Q:Option Int->Shared->Prop}(p:IsPart v o)(h:Q o s):wpAny #[17] A (Builtin.Slice.slicePartIndex v) Q E s:=by
 cases p with
 |none=>exact slicePart_none h
 |int i t=>exact slicePart_int h
theorem sliceApplied_gen{sl:Addr}{vl vu:Value}{lo hi:Option Int}{Q:Int×Int×Nat->Shared->Prop}(hs:s.heap.IsSliceOf sl vl vu .none)(pl:IsPart vl lo)(pu:IsPart vu hi)
  (h:Q (((sIx n 0 lo:Nat):Int),1,sIx n n hi-sIx n 0 lo) s):wpAny #[17] A (Builtin.Slice.sliceApplied (.ref sl) (pure (n:Int))) Q E s:=by
 obtain⟨os,hos,hcs,JO⟩:=id hs
 unfold Builtin.Slice.sliceApplied Builtin.Slice.sliceFields
 refine ac (ac (gJ hos JO (x:=vl) rfl (ac (gJ hos JO (x:=vu) rfl (ac (gJ hos JO (x:=.none) rfl (am ?_)))))))
 refine ac (slicePart_none ?_)
 show wpAny _ _ (if ((1:Int)==0)=true then _ else _) _ _ s
 rw[aC #[8]]
 refine ac (r_ pl (ac (r_ pu (ac (am ?_)))))
 show wpAny _ _ (match Builtin.Slice.sliceAdjust lo hi 1 (n:Int)with|(lo,hi)=>pure (lo,(1:Int),Builtin.Slice.slicePlaces lo hi 1)) _ _ s
 rw[zv lo hi n]
 show wpAny _ _ (pure (((sIx n 0 lo:Nat):Int),(1:Int),Builtin.Slice.slicePlaces ((sIx n 0 lo:Nat):Int) ((sIx n n hi:Nat):Int) 1)) _ _ s
 rw[zw]
 exact am h
theorem DH(xs:Array Value)(i k:Nat):((List.range k).filterMap fun(m:Nat)=>xs[((i:Int)+(m:Int)*1).toNat]?).toArray=((xs.toList.drop i).take k).toArray:=by
 have e:(fun(m:Nat)=>xs[((i:Int)+(m:Int)*1).toNat]?)=fun m=>xs[i+m]?:=by
  funext m
  have:((i:Int)+(m:Int)*1).toNat=i+m:=by omega
  rw[this]
 rw[e]
 have:=pick_run xs i k
 rw[List.filterMap_map]at this
 have e2:((fun x=>xs[x]?)∘fun x=>i+x)=fun m=>xs[i+m]?:=rfl
 rw[e2]at this
 rw[this]
theorem getItem_tuple_cut{t sl:Addr}{vl vu:Value}{lo hi:Option Int}(ht:IsTup s.heap t items)(hs:s.heap.IsSliceOf sl vl vu .none)(pl:IsPart vl lo)(pu:IsPart vu hi)
  (hw:¬ (sIx items.size 0 lo=0/\sIx items.size items.size hi=items.size))
  (h:Q (.ref s.heap.objs.size) { s with heap:=s.heap.push { cls:=.type "tuple",data:=.seq ((items.toList.drop (sIx items.size 0 lo)).take (sIx items.size items.size hi-sIx items.size 0 lo)).toArray } })
  (hsz:items.size<=sizeLine):wpAny #[17] A (getItem (.ref t) (.ref sl)) Q E s:=by
 have htake:sizeOk (.seq ((items.toList.drop (sIx items.size 0 lo)).take (sIx items.size items.size hi-sIx items.size 0 lo)).toArray):=by
  show((items.toList.drop (sIx items.size 0 lo)).take (sIx items.size items.size hi-sIx items.size 0 lo)).toArray.size<=sizeLine
  rw[aO,bf,f7,eQ]
  omega
 have hj:sIx items.size items.size hi<=items.size:=sIx_le _ _ (au _) hi
 obtain⟨os,hos,hcs,JO⟩:=id hs
 have hTs:s.TypeIs (.ref sl) "slice":=⟨os,hos,hcs⟩
 unfold getItem
 try with_reducible refine bZ ?_
 first|refine ac (am ?_)|skip
 refine ac (wpAny_sequenceKey ht.typeIs #[8] ?_)
 refine ac (cN (name:=Str.ofString "__getitem__") ht.typeIs dN
  (cA dN ht.typeIs entry_tuple_getitem ?_ (args_tuple_getitem _ _)))
 show wpAny _ _ (Builtin.Tuple.tupleItemsOf (.ref t) >>= _) _ _ s
 refine ac (tupleItemsOf_ ht ?_)
 refine ac (p9 hTs ?_)
 rw[aw #[8]]
 refine ac (sliceApplied_gen hs pl pu ?_)
 have hno:¬ ((((sIx items.size 0 lo:Nat):Int)==0&&(1:Int)==1&&(sIx items.size items.size hi-sIx items.size 0 lo)==items.size)=true):=by
  intro q
  rw[bA,bA]at q
  have q1:((sIx items.size 0 lo:Nat):Int)=0:=jf q.1.1
  have q2:sIx items.size items.size hi-sIx items.size 0 lo=items.size:=jf q.2
  exact hw ⟨by omega,by omega⟩
 show wpAny _ _ (if (((sIx items.size 0 lo:Nat):Int)==0&&(1:Int)==1&&(sIx items.size items.size hi-sIx items.size 0 lo)==items.size)=true then _ else _) _ _ s
 rw[aC hno,DH]
 first
  |exact ac (m:=Builtin.Tuple.tupleExact _) (cM (am ⟨_,rfl,am h⟩) htake)
  |exact ac (m:=Builtin.Tuple.tupleExact _) (cM (ac (am (am ⟨_,rfl,am h⟩))) htake)
  |exact ac (ac (m:=Builtin.Tuple.tupleExact _) (cM (am (am ⟨_,rfl,am h⟩)) htake))
  |exact ac (ac (m:=Builtin.Tuple.tupleExact _) (cM (am ⟨_,rfl,am h⟩) htake))
end
end HT
namespace L2
open PySem PySem.Spec PyProof.Rows
abbrev TO:=St->Hp->(Option Int->Hp->Prop)->Prop
def PO(X:Cx)(e:Option Expr)(t:TO):Prop:=
 ∀(pins:List (Addr×Obj)) (s:Shared) (σ:St) (H:Hp) (Q:Option Int->Hp->Prop),bw X pins σ H s->t σ H Q ->
  wpAny #[2] X.A (evalPart e X.env) (fun u s'=>∃o H',bw X pins σ H' s'/\IsPart u o/\Q o H') X.xe s
def HH:TO:=fun _ H Q=>Q none H
def OX(t:TE):TO:=fun σ H Q=>t σ H fun x H1=>∃i,x=.int i/\Q (some i) H1
theorem lY:∀{us:List Value},cH (ns.map V.int) us->IntsAre us ns:=by
 induction ns with
 |nil=>intro us r;rw[dH]at r;cases r;exact .nil
 |cons n ns ih=>
  intro us r
  rw[aF]at r
  cases r with
  |cons r1 r2=>
   obtain⟨t,e⟩:=r1
   subst e
   exact .cons n t (ih r2)
section
variable{lo hi:Option Expr}{tl th:TO}
theorem HI:PO X none HH:=by
 intro pins s σ H Q I h
 rw[evalPart_none]
 exact am ⟨none,H,I,.none,h⟩
theorem HJ(h:PE X e te):PO X (some e) (OX te):=by
 intro pins s σ H Q I hw
 rw[evalPart_some]
 refine gq (h pins s σ H _ I hw) fun u s1 zq=>?_
 obtain⟨x,H1,I1,r1,q1⟩:=zq
 obtain⟨i,rfl,q⟩:=q1
 obtain⟨t,rfl⟩:=r1
 exact⟨some i,H1,I1,.int i t,q⟩
def OY(X:Cx)(r:V->Option Int->Option Int->Hp->VK->Prop):Prop:=
 ∀(pins:List (Addr×Obj)) (s:Shared) (σ:St) (H:Hp) (x:V) (v vl vu:Value) (lo hi:Option Int) (sl:Addr) (Q:VK),bw X pins σ H s->bN x v->s.heap.IsSliceOf sl vl vu .none->IsPart vl lo->IsPart vu hi->r x lo hi H Q ->
  ∃T id,typeLookup (.type T) "__getitem__"=pure (some (.builtin id))/\s.TypeIs v T/\wpAny #[2] X.A (getItem v (.ref sl)) (EP X pins σ Q) X.xe s
def T_(r:V->Option Int->Option Int->Hp->VK->Prop)(te:TE)(tl th:TO):TE:=fun σ H Q=>te σ H fun x H1=>tl σ H1 fun l H2=>th σ H2 fun u H3=>r x l u H3 Q
theorem DI{r:V->Option Int->Option Int->Hp->VK->Prop}(hr:OY X r)(he:PE X e te)(hl:PO X lo tl)(hu:PO X hi th):PE X (.Subscript e (.Slice lo hi none p2) pos) (T_ r te tl th):=by
 intro pins s σ H Q I h
 refine Subscript_ (gq (he pins s σ H _ I h) fun v s1 zq=>?_)
 obtain⟨x,H1,I1,r1,q1⟩:=zq
 refine wpAny_Slice (gq (hl pins s1 σ H1 _ I1 q1) fun vl s2 ⟨l,H2,I2,pl,q2⟩=>gq (hu pins s2 σ H2 _ I2 q2) fun vu s3 zq=>?_)
 obtain⟨u,H3,I3,pu,q3⟩:=zq
 rw[evalPart_none]
 refine am ?_
 have I4:bw X pins σ H3 { s3 with heap:=s3.heap.push { cls:=.type "slice",data:=.fields #[vl,vu,.none] } }:=I3.kept (t':=s3.toks) fun b ob q=>ar _ q
 obtain⟨T,id,hT,ht,hg⟩:=hr pins { s3 with heap:=s3.heap.push { cls:=.type "slice",data:=.fields #[vl,vu,.none] } } σ H3 x v vl vu l u s3.heap.objs.size Q I4 r1 (Heap.IsSliceOf.new ..) pl pu q3
 show wpAny #[2] X.A (subscriptTail e (.Slice lo hi none p2) v (.ref s3.heap.objs.size)) (EP X pins σ Q) X.xe { s3 with heap:=s3.heap.push { cls:=.type "slice",data:=.fields #[vl,vu,.none] } }
 exact tail_any (ops:=[.ref s3.heap.objs.size,v]) ht hT hg (by with_unfolding_all rfl)
noncomputable def sd(xs:List V)(lo hi:Option Int):List V:=(xs.drop (HT.sIx xs.length 0 lo)).take (HT.sIx xs.length xs.length hi-HT.sIx xs.length 0 lo)
theorem qO(xs:List V)(lo hi:Option Int):(sd xs lo hi).length<=xs.length:=by
 unfold sd
 rw[bf,f7]
 omega
def Sw(K:Frag):V->Option Int->Option Int->Hp->VK->Prop:=fun x lo hi H Q=>∃a xs,x=.ref a/\fO K H a xs /\
 ¬ (HT.sIx xs.length 0 lo=0/\HT.sIx xs.length xs.length hi=xs.length)/\∀p,H p=none->Q (.ref p) (eW H p (.tup (sd xs lo hi)))
theorem LO:OY X (Sw X.K):=by
 intro pins s σ H x v vl vu lo hi sl Q I rx hs pl pu h
 obtain⟨a,xs,rfl,hx,hw,q⟩:=h
 cases rx
 obtain⟨bJ,r,ht,hz⟩:=I.tuple hx
 have d7:bJ.toArray.size=xs.length:=by rw[aO];exact r.length.symm
 refine⟨"tuple",_,dN.lookup,ht.typeIs,?_⟩
 refine HT.getItem_tuple_cut ht hs pl pu (by rw[d7];exact hw) ?_ (by rw[d7];exact hz)
 rw[d7]
 refine⟨.ref s.heap.objs.size,_,I.laid (t':=s.toks) (o:=.tup (sd xs lo hi)) (fun b ob q=>ar _ q) (au _) ?_,rfl,q _ (I.hok.fresh (au _))⟩
 exact⟨a8 (qO xs lo hi) hz,_,(r.drop (HT.sIx xs.length 0 lo)).take (HT.sIx xs.length xs.length hi-HT.sIx xs.length 0 lo),IsTup.new _ _⟩
def Sx(K:Frag):R2:=fun x y H Q=>∃a b ns ms,x=.ref a/\y=.ref b/\fO K H a (ns.map V.int)/\fO K H b (ms.map V.int)/\Q (.bl (HT.lexLt ns ms)) H
theorem LP(hu:X.A.units<cLine):mF X (compareOp .Lt) (Sx X.K):=by
 intro pins s σ H x y v u Q I rx ry h
 obtain⟨a,b,ns,ms,rfl,rfl,ha,hb,q⟩:=h
 cases rx
 cases ry
 obtain⟨bJ,r1,p1,_⟩:=I.tuple ha
 obtain⟨its2,r2,p2,_⟩:=I.tuple hb
 have i1:IntsAre bJ.toArray.toList ns:=lY r1
 have i2:IntsAre its2.toArray.toList ms:=lY r2
 exact HT.lt_tupInts p1 p2 i1 i2 hu ⟨.bl (HT.lexLt ns ms),H,I,rfl,q⟩
def OZ(K:Frag):R2:=fun x y H Q=>∃a b xs ys,x=.ref a/\y=.ref b/\fO K H a xs/\fO K H b ys/\xs≠[]/\xs.length+ys.length<=sizeLine /\
 (ys=[]->Q (.ref a) H)/\(ys≠[]->∀p,H p=none->Q (.ref p) (eW H p (.tup (xs++ys))))
theorem cH.nil_iff{xs:List V}(r:cH xs us):us=[]↔xs=[]:=by
 cases r with
 |nil=>simp
 |cons _ _=>simp
theorem HK:mF X (binaryOp .Add) (OZ X.K):=by
 intro pins s σ H x y v u Q I rx ry h
 obtain⟨a,b,xs,ys,rfl,rfl,ha,hb,hx,hz,q1,q2⟩:=h
 cases rx
 cases ry
 obtain⟨bJ,r1,p1,_⟩:=I.tuple ha
 obtain⟨its2,r2,p2,_⟩:=I.tuple hb
 refine HT.cat_tup p1 p2 (fun z=>hx (r1.nil_iff.mp z)) (fun z=>⟨.ref a,H,I,rfl,q1 (r2.nil_iff.mp z)⟩) (fun z=>?_) (by rw[<- r1.length,<- r2.length];exact hz)
 refine⟨.ref s.heap.objs.size,_,I.laid (t':=s.toks) (o:=.tup (xs++ys)) (fun b ob q=>ar _ q) (au _) ?_,rfl,q2 (fun w=>z (r2.nil_iff.mpr w)) _ (I.hok.fresh (au _))⟩
 exact⟨by rw[aN];exact hz,_,r1.append r2,IsTup.new _ _⟩
theorem xH:iV X (.type "tuple") (fun xs H Q=>∃a ys,xs=[.ref a]/\fO X.K H a ys/\Q (.ref a) H):=by
 intro pins s σ H xs us Q I r h
 obtain⟨a,ys,rfl,ha,q⟩:=h
 obtain⟨u,rfl,ru⟩:=jk r
 cases ru
 obtain⟨bJ,_,p1,_⟩:=I.tuple ha
 exact call_tuple_same (items:=bJ.toArray) p1 ⟨.ref a,H,I,rfl,q⟩
end
noncomputable def Ol(n:Nat)(i:Int):Option Nat:=if 0<=i then(if i<n then some i.toNat else none)else if -(n:Int)<=i then some (i+n).toNat else none
def n_(xs:List α)(i:Int):Option α:=(Ol xs.length i).bind fun j=>xs[j]?
theorem HL{i:Int}(h:Ol n i=some j):seqIndex? i n=some j/\j<n/\-(n:Int)<=i/\i<n:=by
 unfold Ol at h
 by_cases h0:0<=i
 ·rw[aw h0]at h
  by_cases h1:i<n
  ·rw[aw h1]at h
   have e:i.toNat=j:=aU h
   exact⟨by rw[seqIndex_of h0 h1,e],by omega,by omega,h1⟩
  ·rw[aC h1]at h;cases h
 ·rw[aC h0]at h
  by_cases h1:-(n:Int)<=i
  ·rw[aw h1]at h
   have e:(i+n).toNat=j:=aU h
   exact⟨by rw[seqIndex_neg #[0] h1,e],by omega,h1,by omega⟩
  ·rw[aC h1]at h;cases h
theorem vL{xs:List α}{i:Int}{v:α}(h:n_ xs i=some v):∃j,seqIndex? i xs.length=some j/\xs[j]?=some v/\j<xs.length/\-(xs.length:Int)<=i/\i<xs.length:=by
 unfold n_ at h
 cases e:Ol xs.length i with
 |none=>rw[e]at h;cases h
 |some j=>
  rw[e]at h
  obtain⟨h1,h2,h3,h4⟩:=HL e
  exact⟨j,h1,h,h2,h3,h4⟩
def AH(b:Expr):Prop:=∀o i,subscripted b false o i=operate [o,i] (getItem o i)
def Hd(X:Cx)(r:R2):Prop:=
 ∀(value slice:Expr) (pins:List (Addr×Obj)) (s:Shared) (σ:St) (H:Hp) (x y:V) (v u:Value) (Q:VK),bw X pins σ H s->bN x v->bN y u->r x y H Q ->
  subscripted slice false v u=operate [v,u] (getItem v u)->wpAny #[2] X.A (subscriptTail value slice v u) (EP X pins σ Q) X.xe s
def He(X:Cx)(id:String)(r:V->List V->Hp->VK->Prop):Prop:=
 ∀(pins:List (Addr×Obj)) (s:Shared) (σ:St) (H:Hp) (x:V) (xs:List V) (v:Value) (us:List Value) (Q:VK),bw X pins σ H s->bN x v->cH xs us->r x xs H Q ->
  wpAny #[2] X.A (call (.builtin id) (v::us)) (EP X pins σ Q) X.xe s
section
variable{a b:Expr}{ta tb:TE}
theorem Hd.or{r r':R2}(h:Hd X r)(h':Hd X r'):Hd X (fun x y H Q=>r x y H Q\/r' x y H Q):=by
 intro value slice pins s σ H x y v u Q I rx ry q hs
 rcases q with q|q
 ·exact h value slice pins s σ H x y v u Q I rx ry q hs
 ·exact h' value slice pins s σ H x y v u Q I rx ry q hs
theorem O0{r:R2}(hr:Hd X r)(ha:PE X a ta)(hb:PE X b tb)(hs:AH b):PE X (.Subscript a b pos) (OO r ta tb):=by
 intro pins s σ H Q I h
 exact Subscript_ (LA ha hb I h fun v u s2 x y H2 I2 rx ry q=>hr a b pins s2 σ H2 x y v u Q I2 rx ry q (hs _ _))
def O1(K:Frag):R2:=fun x y H Q=>∃p xs i v,x=.ref p/\y=.int i/\qZ K H p xs/\n_ xs i=some v/\Q v H
def O2(K:Frag):R2:=fun x y H Q=>∃p xs i v,x=.ref p/\y=.int i/\fO K H p xs/\n_ xs i=some v/\Q v H
def O3:R2:=fun x y H Q=>∃z i c,x=.str z/\y=.int i/\z.length<=sizeLine/\n_ z.cps.toList i=some c/\Q (.str ⟨#[c]⟩) H
theorem HM:Hd X (O1 X.K):=by
 intro value slice pins s σ H x y v u Q I rx ry h hs
 obtain⟨p,xs,i,z,rfl,rfl,hq,he,q⟩:=h
 cases rx
 obtain⟨t,rfl⟩:=ry
 obtain⟨bJ,r,pl,hz⟩:=I.list hq
 obtain⟨j,h1,h2,h3,h4,h5⟩:=vL he
 obtain⟨w,ew,kQ⟩:=r.get h2
 have hl:=r.length
 have hn:=rY
 have fin:EP X pins σ Q w s:=⟨z,H,I,kQ,q⟩
 by_cases h0:0<=i
 ·have hj:i.toNat=j:=by
   rw[seqIndex_of h0 h5]at h1
   exact aU h1
  exact item_listR pl.isList h0 #[0] (by rw[hj];simpa using ew) fin hs
 ·have hj:(i+(bJ.toArray.size:Int)).toNat=j:=by
   rw[seqIndex_neg #[0] h4]at h1
   rw[aO,<- hl]
   exact aU h1
  exact mo (x:=w) pl.isList.typeIs slot_list_getitem.lookup
   (wpAny_getItem_list_neg (Q:=fun r s'=>r=w/\EP X pins σ Q r s') pl.isList #[0] (by rw[aO]<;>omega) #[0] (by rw[hj];simpa using ew) ⟨rfl,fin⟩) hs
theorem LQ:Hd X (O2 X.K):=by
 intro value slice pins s σ H x y v u Q I rx ry h hs
 obtain⟨p,xs,i,z,rfl,rfl,hq,he,q⟩:=h
 cases rx
 obtain⟨t,rfl⟩:=ry
 obtain⟨bJ,r,pl,hz⟩:=I.tuple hq
 obtain⟨j,h1,h2,h3,h4,h5⟩:=vL he
 obtain⟨w,ew,kQ⟩:=r.get h2
 have hl:=r.length
 have hn:=rY
 have fin:EP X pins σ Q w s:=⟨z,H,I,kQ,q⟩
 exact mo (x:=w) pl.typeIs slot_tuple_getitem.lookup
  (getItem_tuple (j:=j) (Q:=fun r s'=>r=w/\EP X pins σ Q r s') pl #[0] #[0] (by rw[aO,<- hl];exact h1) (by simpa using ew) ⟨rfl,fin⟩) hs
theorem LR:Hd X O3:=by
 intro value slice pins s σ H x y v u Q I rx ry h hs
 obtain⟨z,i,c,rfl,rfl,hz,he,q⟩:=h
 obtain⟨t,rfl⟩:=rx
 obtain⟨t',rfl⟩:=ry
 obtain⟨j,h1,h2,h3,h4,h5⟩:=vL he
 have hl:z.cps.toList.length=z.length:=by simp[Str.length]
 rw[hl]at h1 h4 h5
 have hn:=rY
 exact tail_any (typeIs_str s z t) slot_str_getitem.lookup (getItem_str (c:=c) (by
  have e1:decide (i < -(2^63:Int))=false:=aZ #[0]
  have e2:decide (i≥2^63)=false:=aZ #[0]
  rw[e1,e2,Bool.or_false]) (by rw[h1];simpa using h2) ⟨.str ⟨#[c]⟩,H,I.tok _,⟨_,rfl⟩,q⟩) hs
def Ua(K:Frag):R2:=fun x y H Q=>O1 K x y H Q\/O2 K x y H Q\/O3 x y H Q
theorem LS:Hd X (Ua X.K):=HM.or (LQ.or LR)
theorem vM(lo hi:Option Int)(n:Nat):(sliceBounds lo hi none n).1=((HT.sIx n 0 lo:Nat):Int)/\(sliceBounds lo hi none n).2.1=((HT.sIx n n hi:Nat):Int)/\(sliceBounds lo hi none n).2.2=1:=by
 refine⟨?_,?_,rfl⟩
 ·cases lo with
  |none=>simp[sliceBounds,HT.sIx]
  |some i=>
   simp only[sliceBounds,HT.sIx,Option.getD_none,show(1:Int)>0 by decide,dS]
   by_cases h:i<0
   ·simp only[h,dS]<;>omega
   ·simp only[h,eR]<;>omega
 ·cases hi with
  |none=>simp[sliceBounds,HT.sIx]
  |some i=>
   simp only[sliceBounds,HT.sIx,Option.getD_none,show(1:Int)>0 by decide,dS]
   by_cases h:i<0
   ·simp only[h,dS]<;>omega
   ·simp only[h,eR]<;>omega
theorem ut(bJ:List Value)(lo hi:Option Int):slicePick bJ.toArray lo hi none=((bJ.drop (HT.sIx bJ.length 0 lo)).take (HT.sIx bJ.length bJ.length hi-HT.sIx bJ.length 0 lo)).toArray:=by
 obtain⟨h1,h2,h3⟩:=vM lo hi bJ.toArray.size
 unfold slicePick
 rw[h1,h2,h3]
 simp only[sliceRange_one,pick_run,aO]<;>rfl
def Sy(K:Frag):V->Option Int->Option Int->Hp->VK->Prop:=fun x lo hi H Q=>∃a xs,x=.ref a/\qZ K H a xs/\∀p,H p=none->Q (.ref p) (eW H p (.lst (sd xs lo hi)))
theorem HN:OY X (Sy X.K):=by
 intro pins s σ H x v vl vu lo hi sl Q I rx hs pl pu h
 obtain⟨a,xs,rfl,hx,q⟩:=h
 cases rx
 obtain⟨bJ,r,ht,hz⟩:=I.list hx
 have d7:=r.length
 refine⟨"list",_,slot_list_getitem.lookup,ht.isList.typeIs,?_⟩
 refine wpAny_getItem_list_slice ht.isList hs pl pu .none #[7] ?_ (by rw[aO]<;>omega)
 rw[ut,<- d7]
 refine⟨.ref s.heap.objs.size,_,I.laid (t':=s.toks) (o:=.lst (sd xs lo hi)) (fun b ob q=>ar _ q) (au _) ?_,rfl,q _ (I.hok.fresh (au _))⟩
 exact⟨a8 (qO xs lo hi) hz,_,0,(r.drop (HT.sIx xs.length 0 lo)).take (HT.sIx xs.length xs.length hi-HT.sIx xs.length 0 lo),aL _ rfl⟩
theorem pi:iV X (.builtin "len") (fun xs H Q=>∃p ys,xs=[.ref p]/\(qZ X.K H p ys\/fO X.K H p ys)/\Q (.int ys.length) H):=by
 intro pins s σ H xs us Q I r h
 obtain⟨p,ys,rfl,hq,q⟩:=h
 obtain⟨u,rfl,rx⟩:=jk r
 cases rx
 have hn:=rY
 rcases hq with hq|hq
 ·obtain⟨bJ,r',pl,hz⟩:=I.list hq
  have d7:=r'.length
  exact Calls.call_len_list pl.isList (by simp only[aO]<;>omega) ⟨.int ys.length,H,I.tok _,⟨s.toks+1,by rw[aO,d7]⟩,q⟩
 ·obtain⟨bJ,r',pl,hz⟩:=I.tuple hq
  have d7:=r'.length
  exact len_tuple pl (by simp only[aO]<;>omega) ⟨.int ys.length,H,I.tok _,⟨s.toks+1,by rw[aO,d7]⟩,q⟩
theorem vN:iV X (.builtin "len") (fun xs H Q=>∃z,xs=[.str z]/\z.length<=sizeLine/\Q (.int z.length) H):=by
 intro pins s σ H xs us Q I r h
 obtain⟨z,rfl,hz,q⟩:=h
 obtain⟨u,rfl,t,rfl⟩:=jk r
 have hn:=rY
 exact len_str #[0] ⟨.int z.length,H,I.tok _,⟨_,rfl⟩,q⟩
theorem uu:iV X (.type "tuple") (fun xs H Q=>∃p ys,xs=[.ref p]/\((qZ X.K H p ys/\∀l,H l=none->Q (.ref l) (eW H l (.tup ys)))\/(fO X.K H p ys/\Q (.ref p) H))):=by
 intro pins s σ H xs us Q I r h
 obtain⟨p,ys,rfl,h⟩:=h
 obtain⟨u,rfl,rx⟩:=jk r
 cases rx
 rcases h with⟨hq,q⟩|⟨hq,q⟩
 ·obtain⟨bJ,r',pl,hz⟩:=I.list hq
  have d7:=r'.length
  refine call_tuple_list pl.isList (fun h' kp=>?_) (by simp only[aO]<;>omega)
  have I1:bw X pins σ H { s with heap:=h' }:=I.kept (t':=s.toks) kp
  have I2:bw X pins σ (eW H h'.objs.size (.tup ys)) { s with heap:=h'.push { cls:=.type "tuple",data:=.seq bJ.toArray } }:=
   I1.laid (t':=s.toks) (fun b o e=>ar _ e) (au _) (show eD X.prog X.w _ _ _ (.tup ys)from⟨hz,bJ,r',IsTup.new _ _⟩)
  exact⟨.ref h'.objs.size,_,I2,rfl,q _ (I1.hok.fresh (au _))⟩
 ·obtain⟨bJ,r',pl,hz⟩:=I.tuple hq
  exact call_tuple_same pl ⟨.ref p,H,I,rfl,q⟩
def RM(K:Frag)(T:String)(x:V)(H:Hp):Prop:=match x with
 |.str _=>T="str"
 |.int _=>T="int"
 |.ref p=>(T="list"/\∃xs,qZ K H p xs)\/(T="tuple"/\∃o,K.lookup p=some o/\o.cls=.type "tuple"/\o.dict=none) \/
   (T="dict"/\((∃kvs,H p=some (.dK kvs))\/∃kvs,H p=some (.dT kvs)))\/(T="set"/\∃S n,H p=some (.set S n))
 |_=>False
theorem LT{T:String}{x:V}(I:bw X pins σ H s)(r:bN x v)(ty:RM X.K T x H) :
  s.TypeIs v T/\∀a,v=.ref a->∃ob,s.heap.get? a=some ob/\ob.dict=none:=by
 cases x with
 |str z=>
  obtain⟨t,rfl⟩:=r
  cases(show T="str" from ty)
  exact⟨typeIs_str s z t,fun _ e=>nomatch e⟩
 |int i=>
  obtain⟨t,rfl⟩:=r
  cases(show T="int" from ty)
  exact⟨typeIs_int s i t,fun _ e=>nomatch e⟩
 |ref p=>
  cases r
  rcases ty with⟨rfl,xs,hq⟩|⟨rfl,o,hk,hc,hd⟩|⟨rfl,hk⟩|⟨rfl,S,n,hk⟩
  ·obtain⟨bJ,_,pl,_⟩:=I.list hq
   refine⟨pl.isList.typeIs,fun a e=>?_⟩
   cases e
   obtain⟨o,n,e,c,hd,_⟩:=pl
   exact⟨o,e,hd⟩
  ·refine⟨⟨o,I.kIn p o hk,hc⟩,fun a e=>?_⟩
   cases e
   exact⟨o,I.kIn _ o hk,hd⟩
  ·have z:∃o,s.heap.get? p=some o/\o.ExactDict:=by
    rcases hk with⟨kvs,hk⟩|⟨kvs,hk⟩
    ·obtain⟨_,_,_,_,o,_,_,e,ex,_⟩:=I.hok p _ hk
     exact⟨o,e,ex⟩
    ·obtain⟨_,_,_,_,o,_,_,e,ex,_⟩:=I.hok p _ hk
     exact⟨o,e,ex⟩
   obtain⟨o,e,ex⟩:=z
   refine⟨⟨o,e,ex.1⟩,fun a e2=>?_⟩
   cases e2
   exact⟨o,e,ex.2.1⟩
  ·obtain⟨o,_,_,_,e,ex,_⟩:=I.hok p _ hk
   refine⟨⟨o,e,ex.1⟩,fun a e2=>?_⟩
   cases e2
   exact⟨o,e,ex.2.1⟩
 |_=>exact False.elim ty
variable{o:Expr}{to:TE}{t:TA}{T id:String}{r:V->List V->Hp->VK->Prop}
end
def Sz(X:Cx)(id:String)(r:V->List V->Hp->VK->Prop):Prop:=
 ∀(pins:List (Addr×Obj)) (s:Shared) (σ:St) (H:Hp) (x:V) (xs:List V) (v:Value) (us:List Value) (Q:VK),bw X pins σ H s->bN x v->cH xs us->r x xs H Q ->
  wpAny #[2] X.A (call (.builtin id) (v::us)) (EP X pins σ Q) X.xe s
theorem cH.one{x:V}(h:cH [x] us):∃u,us=[u]/\bN x u:=by cases h with|cons r t=>cases t;exact⟨_,rfl,r⟩
theorem cH.two{x:V}(h:cH [x,y] us):∃u v,us=[u,v]/\bN x u/\bN y v:=by cases h with|cons r t=>obtain⟨v,rfl,q⟩:=cH.one t;exact⟨_,v,rfl,r,q⟩
section
variable{l:Addr}{xs ys zs:List V}
theorem bw.lset{bJ its':List Value}{f:Array Value->Array Value}{t':Nat}(I:bw X pins σ H s)(hH:H l=some (.lst xs))
  (e:s.heap.get? l=some { cls:=.type "list",data:=.seq bJ.toArray n }) (hf:f bJ.toArray=its'.toArray) (hv:cH ys its') (hz:ys.length<=sizeLine) :
  bw X pins σ (eW H l (.lst ys)) { s with heap:=s.heap.update l (Obj.mapSeq f),toks:=t' }:=by
 have q:=PySem.IsL.update e f
 rw[hf]at q
 refine I.write (x:=l) (e:=l) (by rw[hH];exact trivial) (.inl rfl) (fun b' u hb hu=>(mq s.heap (Obj.mapSeq f) (Ne.symm hb)).trans hu) ⟨_,q⟩ ?_
 exact⟨hz,its',_,hv,q⟩
theorem bw.lnew{bJ:List Value}{t':Nat}(I:bw X pins σ H s)(hv:cH ys bJ)(hz:ys.length<=sizeLine) :
  bw X pins σ (eW H s.heap.objs.size (.lst ys)) { s with heap:=s.heap.push { cls:=.type "list",data:=.seq bJ.toArray },toks:=t' }:=
 I.laid (fun _ _ q=>ar _ q) (au _) ⟨hz,bJ,0,hv,aL _ rfl⟩
theorem bw.fresh(I:bw X pins σ H s):H s.heap.objs.size=none:=I.hok.fresh (au _)
theorem bw.lstM(I:bw X pins σ H s)(hH:H l=some (.lst xs)):xs.length<=sizeLine/\∃(bJ:List Value) (n:Nat),cH xs bJ/\xs.length=bJ.length/\s.heap.get? l=some { cls:=.type "list",data:=.seq bJ.toArray n }:=by
 obtain⟨z,bJ,n,r,e⟩:=I.hok l _ hH
 exact⟨z,bJ,n,r,r.length,e⟩
theorem xI(h:n<=sizeLine):Builtin.List.listTooLong n=false:=by
 unfold Builtin.List.listTooLong
 exact aZ #[0]
end
section
def AI:V->List V->Hp->VK->Prop:=fun x vs H Q=>∃l xs y,x=.ref l/\vs=[y]/\H l=some (.lst xs)/\xs.length<sizeLine/\Q .non (eW H l (.lst (xs++[y])))
theorem Ci:Sz X "list.append" AI:=by
 intro pins s σ H x vs v us Q I rx rv h
 obtain⟨l,xs,y,rfl,rfl,hH,hz,q⟩:=h
 cases rx
 obtain⟨u,rfl,ru⟩:=rv.one
 obtain⟨z,bJ,n,r,hl,e⟩:=I.lstM hH
 refine pb F.slot_list_append ⟨_,e,rfl⟩ F.entry_list_append (F.args_list_append_2 _ _) (PySem.list_append l bJ.toArray n u (by rw[aO];omega)) ⟨e,?_⟩
 refine⟨.non,_,I.lset (its':=bJ++[u]) hH e #[7] (r.append (.cons ru .nil)) ?_,rfl,q⟩
 rw[aN,i4]
 omega
def HP:V->List V->Hp->VK->Prop:=fun x vs H Q=>∃l b xs zs,x=.ref l/\vs=[.ref b]/\H l=some (.lst xs)/\H b=some (.lst zs)/\xs.length+zs.length<=sizeLine/\Q .non (eW H l (.lst (xs++zs)))
theorem Cj:Sz X "list.extend" HP:=by
 intro pins s σ H x vs v us Q I rx rv h
 obtain⟨l,b,xs,zs,rfl,rfl,hH,hB,hz,q⟩:=h
 cases rx
 obtain⟨u,rfl,ru⟩:=rv.one
 cases ru
 obtain⟨z,bJ,n,r,hl,e⟩:=I.lstM hH
 obtain⟨z2,its2,n2,r2,hl2,e2⟩:=I.lstM hB
 have hsz:bJ.toArray.size+its2.toArray.size<=sizeLine:=by rw[aO,aO];omega
 have hlong:¬ (!bJ.toArray.isEmpty&&Builtin.List.listTooLong (bJ.toArray.size+its2.toArray.size))=true:=by
  rw[xI hsz,Bool.and_false]
  exact bC
 refine pb F.slot_list_extend ⟨_,e,rfl⟩ F.entry_list_extend (F.args_list_extend_2 _ _)
  (AutoSeq1.list_extend_list_list_0 l bJ.toArray n b its2.toArray n2 hlong (by rw[aO];omega) #[0]) ⟨e,e2,?_⟩
 refine⟨.non,_,I.lset (its':=bJ++its2) hH e #[7] (r.append r2) ?_,rfl,q⟩
 rw[aN]
 omega
def SC:R2:=fun x y H Q=>∃l b xs zs,x=.ref l/\y=.ref b/\H l=some (.lst xs)/\H b=some (.lst zs)/\xs.length+zs.length<=sizeLine/\∀p,H p=none->Q (.ref p) (eW H p (.lst (xs++zs)))
theorem LU:mF X (binaryOp .Add) SC:=by
 intro pins s σ H x y v u Q I rx ry h
 obtain⟨l,b,xs,zs,rfl,rfl,hH,hB,hz,q⟩:=h
 cases rx
 cases ry
 obtain⟨z,bJ,n,r,hl,e⟩:=I.lstM hH
 obtain⟨z2,its2,n2,r2,hl2,e2⟩:=I.lstM hB
 refine PySem.P.add_list e e2 ?_ (by rw[aO,aO];omega)
 have ea:bJ.toArray++its2.toArray=(bJ++its2).toArray:=by simp
 rw[ea]
 exact⟨.ref _,_,I.lnew (t':=s.toks) (r.append r2) (by rw[aN];omega),rfl,q _ I.fresh⟩
end
section
variable{w:World}
end
section
end
end L2
namespace Att
open PySem PySem.W PySem.Calls PyProof.Rows
theorem q_{P:Params}:∀(ns:List Int) (vs:List Value),WellAll P h vs (ns.map WData.int)->IntsAre vs ns:=by
 intro ns
 induction ns with
 |nil=>
  intro vs w
  rw[dH]at w
  cases w
  exact .nil
 |cons n ns ih=>
  intro vs w
  rw[aF]at w
  cases w with
  |cons a b=>
   cases a
   exact .cons _ _ (ih _ b)
theorem Ck{l:OpenLaw}(hn:l.most=some n){P:Params}{args:List WData}{mj:List Value}
  (Dm:l.row.toRowW.claim.pre args=true) (Rn:WellAll P h mj args) :
  ∃a vs ns,mj=[Value.ref a]/\args=[WData.list (ns.map WData.int)]/\h.get? a=some { cls:=.type "list",data:=.seq vs.toArray }/\IntsAre vs ns/\ns.length<=n:=by
 have hsh:WShape.hasAll [] args [.list .int]=true:=(pre_splitW Dm).1
 have hc:l.pre.holds [] { args:=args }=true:=(pre_splitW Dm).2
 obtain⟨d,r,rfl,h1,h2⟩:=hasAllW_cons hsh
 obtain rfl:=hasAllW_nil h2
 obtain⟨xs,rfl,h3⟩:=hasW_list h1
 obtain⟨ns,rfl⟩:=items_int h3
 have d7:ns.length<=n:=by
  unfold OpenLaw.pre at hc
  have h4:(WTm.not (.lt (.lit (.int (n:Int))) (.len (.arg 0)))).holds [] { args:=[.list (ns.map .int)] }=true:=by
   have h4:=(holds_andW hc).1
   rw[hn]at h4
   exact h4
  have h5:=condW_of h4 (w_not (w_lt w_lit (w_len_list (w_arg rfl))))
  rw[ai]at h5
  refine dq fun q=>?_
  have q':(n:Int)<((ns.length:Nat):Int):=by omega
  first
   |(rw[br q']at h5;exact absurd h5 (by decide))
   |(simp at h5;omega)
 cases Rn with
 |cons w1 w2=>
  cases w2
  cases w1 with
  |list ho mS=>exact⟨_,_,ns,rfl,rfl,ho,q_ ns _ mS,d7⟩
theorem Cl(l:OpenLaw)(args:List WData):l.row.toRowW.claim.post args (.bool true) args=true:=
 postW_of (r:=l.row.toRowW) (X:=(true==true))
  (show WShape.has [] (.bool true) .bool=true by first|rfl|decide|simp[WShape.has,WShape.arms,WShape.armsAll])
  (show(WTm.eq .res (.lit (.bool true))).value [] { args:=args,res:=some (.bool true),after:=args }=some (.bool (true==true))from w_eq_bool (w_res rfl) w_lit) rfl
theorem attach_call{l:OpenLaw}{q:Program}{BV:List Str}{d:DefRec}
  (hn:l.most=some n) (TC:d.params.defaults=[])
  (call:∀(w:World) (s₀ s₁:Shared) (mg mb:Str->Option Value) (fa:Addr) (o:Obj) (pm cd jc:Value) (a:Addr) (vs:List Value) (ns:List Int),
   Ground q BV [] XP w s₀ mg mb s₁.heap->YP w s₁.heap ->
   s₁.heap.get? fa=some o->o.data=.func (docDef d.name d.params d.body d.scope pm cd jc)->s₁.heap.CodeRec cd d.name->mg d.name=some (.ref fa) ->
   s₁.heap.get? a=some { cls:=.type "list",data:=.seq vs.toArray }->IntsAre vs ns->ns.length<=n->s₁.gens=#[] ->
   codeAny (model l.prog w) callerA (.call (.ref fa) ⟨[.ref a],[]⟩) (fun r s'=>r=.ok (.ret (.bool true))/\OldK s₁.heap s'.heap/\s'.os=s₁.os/\AllBare s'.gens) s₁) :
  WalkO q BV XP YP l.row.toRowW d [] (fun f vs=>PySem.call f vs):=by
 intro w s₀ s₁ mg mb G Y fa o pm cd jc dV kV ho hd nJ hD hmg hg args mj as Dm hlay hrd Rn hlo
 obtain rfl:dV=.none:=Dflts.none hD TC
 obtain rfl:kV=.none:=Dflts.noKw hD
 obtain⟨a,vs,ns,rfl,rfl,hobj,hints,d7⟩:=Ck hn Dm Rn
 refine enter_call (iN (call w s₀ s₁ mg mb fa o pm cd jc a vs ns G Y ho (fd_plain hd) nJ hmg hobj hints d7 hg) fun r s' hq=>?_)
 obtain⟨rfl,h2,h3,h4⟩:=hq
 exact⟨.inl ⟨.bool true,.bool true,[],rfl,fun _=>rfl,.bool true,Cl l _,fun _=>⟨List.Pairwise.nil,fun _ hm=>(nomatch hm)⟩⟩,h2,h3,h4⟩
section
variable{w:World}
end
end Att
namespace L2
open PySem PySem.Spec PyProof.Rows
theorem uR:∀{vs:List Value} {ns:List Int},IntsAre vs ns->cH (ns.map V.int) vs
 |_,_,.nil=>.nil
 |_,_,.cons n t h=>.cons ⟨t,rfl⟩ (uR h)
noncomputable def dO(s:Stmt):Arguments:=match s with
 |.FunctionDef _ a _ _ _ _ _ _ _ _=>a
 |_=>{ posonlyargs:=[],args:=[],vararg:=none,kwonlyargs:=[],kw_defaults:=[],kwarg:=none,defaults:=[] }
noncomputable def dQ(s:Stmt):List Stmt:=match s with
 |.FunctionDef _ _ b _ _ _ _ _ _ _=>b
 |_=>[]
noncomputable def aY(s:Stmt):Scope:=match s with
 |.FunctionDef _ _ _ _ _ _ sc _ _ _=>sc
 |_=>{ kind:=.function,names:=[],isGenerator:=false,isCoroutine:=false }
structure lZ(K:Frag)(x qual:Str)(st:Stmt)(f:Addr)(fd:FuncData):Prop where
 ex:∃(oc:Value) (od:Option Addr) (kV jc pm:Value) (an:Option Addr) (gU ct:Value) (K9:Array (Option Value)),
  fd=fnOf x qual (dO st) (dQ st) (aY st) .none kV jc pm an gU ct/\K.lookup f=some ⟨oc,od,.func fd,K9⟩/\codeIn K gU qual=true
 kp:keepIn K (.ref f)=true
section
variable{w:World}
theorem lZ.binds{st:Stmt}(F:lZ K x qual st f fd)
  (h:∀(kV jc pm:Value) (an:Option Addr) (gU ct:Value) (us:List Value),us.length=ps.length->bindArgs (fnOf x qual (dO st) (dQ st) (aY st) .none kV jc pm an gU ct) ⟨us,[]⟩=pure (ps.zip us)):xF K fd ps []:=by
 obtain⟨oc,od,kV,jc,pm,an,gU,ct,K9,rfl,lk,nJ⟩:=F.ex
 exact .all (h kV jc pm an gU ct)
theorem vO{st:Stmt}{oc:Value}{od an:Option Addr}{K9:Array (Option Value)}{kV jc pm gU ct:Value}(l:K.lookup f=some ⟨oc,od,.func (fnOf x qual (dO st) (dQ st) (aY st) .none kV jc pm an gU ct),K9⟩)
  (c:codeIn K gU qual=true) (k:keepIn K (.ref f)=true):lZ K x qual st f (fnOf x qual (dO st) (dQ st) (aY st) .none kV jc pm an gU ct):=⟨⟨oc,od,kV,jc,pm,an,gU,ct,K9,rfl,l,c⟩,k⟩
end
theorem DJ{k:Nat}(hr:fR k A):A.units+1<cLine:=iu (Nat.add_le_add_left (by decide:1<=64) _) hr.units
section
theorem pv(i:Nat){pos:Pos}(hN:X.N[i]?=some x:=by rfl)(hv:Oi X.env.scope x:=by first|exact Or.inl rfl|exact Or.inr (Or.inl rfl)|exact Or.inr (Or.inr rfl))(hd:(x==("__debug__":Str))=false:=by decide)
  (nJ:(x==("__classdict__":Str))=false:=by decide):PE X (.Name x pos) (OB i):=Lf hN hv hd nJ
end
def nY(H H':Hp):Prop:=∀b o,H b=some o->H' b=some o
theorem nY.refl(H:Hp):nY H H:=fun _ _ h=>h
section
variable{κ:Type}[DecidableEq κ]
noncomputable def jW(kvs:List (κ×V))(k:κ):Option V:=(kvs.find? fun kv=>decide (kv.1=k)).map (·.2)
noncomputable def mQ(kvs:List (κ×V))(k:κ)(v:V):List (κ×V):=
 if (kvs.any fun kv=>decide (kv.1=k))=true then kvs.map (fun kv=>if kv.1=k then(kv.1,v)else kv)else kvs++[(k,v)]
noncomputable def mG(kvs:List (κ×V))(k:κ):List (κ×V):=kvs.filter fun kv=>decide (kv.1≠k)
theorem m8{p:κ×V}{r:List (κ×V)}{k:κ}(e:p.1=k):jW (p::r) k=some p.2:=by simp[jW,bH,e]
theorem pj{p:κ×V}{r:List (κ×V)}{k:κ}(e:¬ p.1=k):jW (p::r) k=jW r k:=by simp[jW,bH,e]
theorem xJ(k:κ):∀kvs:List (κ×V),(kvs.any fun kv=>decide (kv.1=k))=(jW kvs k).isSome
 |[]=>rfl
 |p::r=>by
  rw[oE]
  by_cases e:p.1=k
  ·simp only[m8 e,br e,Bool.true_or,Option.isSome_some]
  ·rw[pj e,aZ e,Bool.false_or];exact xJ k r
theorem m9(kvs:List (κ×V))(k:κ)(v:V):(mQ kvs k v).length<=kvs.length+1:=by
 unfold mQ
 split
 ·rw[ai];omega
 ·rw[aN,bz,dM];omega
theorem pe.isSome_eq{o:Option V}{u:Option Value}(r:pe o u):o.isSome=u.isSome:=by
 cases o with
 |none=>cases u with
  |none=>rfl
  |some _=>exact(show False from r).elim
 |some _=>cases u with
  |none=>exact(show False from r).elim
  |some _=>rfl
theorem KV.val{kvs:List (κ×V)}{vs:List (κ×Value)}(r:KV kvs vs)(k:κ):pe (jW kvs k) (valueAt vs k):=by
 unfold KV at r
 induction r with
 |nil=>exact True.intro
 |@cons p q ps qs h t ih=>
  obtain⟨h1,h2⟩:=h
  by_cases e:p.1=k
  ·have e':q.1=k:=h1.symm.trans e
   have b:valueAt (q::qs) k=some q.2:=by simp[valueAt,bH,e']
   rw[m8 e,b];exact h2
  ·have e':¬ q.1=k:=fun z=>e (h1.trans z)
   have b:valueAt (q::qs) k=valueAt qs k:=by simp[valueAt,bH,e']
   rw[pj e,b];exact ih
theorem KV.any{kvs:List (κ×V)}{vs:List (κ×Value)}(r:KV kvs vs)(k:κ):(kvs.any fun kv=>decide (kv.1=k))=vs.any fun kv=>decide (kv.1=k):=by
 unfold KV at r
 induction r with
 |nil=>rfl
 |cons h t ih=>rw[oE,oE,ih,h.1]
theorem KV.repl{kvs:List (κ×V)}{vs:List (κ×Value)}(r:KV kvs vs)(k:κ)(ry:bN y u) :
  KV (kvs.map fun kv=>if kv.1=k then(kv.1,y)else kv) (vs.map fun kv=>if kv.1=k then(kv.1,u)else kv):=by
 unfold KV at r ⊢
 induction r with
 |nil=>exact .nil
 |@cons p q ps qs h t ih=>
  rw[aF,aF]
  refine .cons ?_ ih
  obtain⟨h1,h2⟩:=h
  by_cases e:p.1=k
  ·rw[aw e,aw (h1.symm.trans e)];exact⟨h1,ry⟩
  ·rw[aC e,aC (fun z=>e (h1.trans z))];exact⟨h1,h2⟩
theorem KV.put{kvs:List (κ×V)}{vs:List (κ×Value)}(r:KV kvs vs)(k:κ)(ry:bN y u):KV (mQ kvs k y) (stored vs k u):=by
 unfold mQ stored
 rw[r.any k]
 by_cases e:(vs.any fun kv=>decide (kv.1=k))=true
 ·rw[aw e,aw e];exact r.repl k ry
 ·rw[aC e,aC e];exact Paired.snoc r ⟨rfl,ry⟩
theorem KV.drop{kvs:List (κ×V)}{vs:List (κ×Value)}(r:KV kvs vs)(k:κ):KV (mG kvs k) (without vs k):=by
 unfold KV at r ⊢
 unfold mG without
 induction r with
 |nil=>exact .nil
 |@cons p q ps qs h t ih=>
  obtain⟨h1,h2⟩:=h
  rw[cS,cS]
  by_cases e:p.1=k
  ·have a:¬ decide (p.1≠k)=true:=by simp[e]
   have b:¬ decide (q.1≠k)=true:=by simp[h1.symm.trans e]
   rw[aC a,aC b];exact ih
  ·have e':¬ q.1=k:=fun z=>e (h1.trans z)
   have a:decide (p.1≠k)=true:=by simp[e]
   have b:decide (q.1≠k)=true:=by simp[e']
   rw[aw a,aw b];exact .cons ⟨h1,h2⟩ ih
theorem KV.keys{kvs:List (κ×V)}{vs:List (κ×Value)}(r:KV kvs vs):kvs.map (·.1)=vs.map (·.1):=by
 unfold KV at r
 induction r with
 |nil=>rfl
 |cons h t ih=>rw[aF,aF,ih,h.1]
theorem KV.length{kvs:List (κ×V)}{vs:List (κ×Value)}(r:KV kvs vs):kvs.length=vs.length:=Paired.length r
theorem DL(kvs:List (κ×V))(k:κ):(mG kvs k).length<=kvs.length:=i5 _ _
end
theorem qP{w:World}{k:f'}(r:bN (kV k) u):(eF P w).is k u=true:=by
 cases k with
 |inl i=>obtain⟨t,e⟩:=(show ∃t,u=Value.int i t from r);subst e;exact xy P w i t
 |inr x=>obtain⟨t,e⟩:=(show ∃t,u=Value.str x t from r);subst e;exact xz P w x t
theorem uS{w:World}:∀{ks:List f'} {us:List Value},cH (ks.map kV) us->ItemsAre (eF P w) ks us
 |[],_,r=>by rw[dH]at r;cases r;exact .nil
 |k::ks,_,r=>by
  rw[aF]at r
  cases r with
  |cons h t=>exact .cons (qP h) (uS t)
abbrev KT(H:Hp):List (List f'×V)->List (List f'×Addr×Value)->Prop:=Paired fun p q=>p.1=q.1/\H q.2.1=some (.tup (p.1.map kV))/\bN p.2 q.2.2
theorem KT.val{kvs:List (List f'×V)}(r:KT H kvs xs)(k:List f'):pe (jW kvs k) ((atKey xs k).map (·.2)):=by
 induction r with
 |nil=>exact True.intro
 |@cons p q ps qs h t ih=>
  obtain⟨h1,_,h2⟩:=h
  by_cases e:p.1=k
  ·have e':q.1=k:=h1.symm.trans e
   have b:atKey (q::qs) k=some q.2:=by simp[atKey,bH,e']
   rw[m8 e,b];exact h2
  ·have e':¬ q.1=k:=fun z=>e (h1.trans z)
   have b:atKey (q::qs) k=atKey qs k:=by simp[atKey,bH,e']
   rw[pj e,b];exact ih
theorem KT.repl{kvs:List (List f'×V)}(r:KT H kvs xs)(k:List f')(ry:bN y u) :
  KT H (kvs.map fun kv=>if kv.1=k then(kv.1,y)else kv) (xs.map (putAt k u)):=by
 induction r with
 |nil=>exact .nil
 |@cons p q ps qs h t ih=>
  rw[aF,aF]
  refine .cons ?_ ih
  obtain⟨h1,h2,h3⟩:=h
  unfold putAt
  by_cases e:p.1=k
  ·rw[aw e,aw (h1.symm.trans e)];exact⟨h1,h2,ry⟩
  ·rw[aC e,aC (fun z=>e (h1.trans z))];exact⟨h1,h2,h3⟩
theorem KT.put{kvs:List (List f'×V)}(r:KT H kvs xs)(k:List f')(hb:H b=some (.tup (k.map kV)))(ry:bN y u) :
  KT H (mQ kvs k y) (storedH xs k b u):=by
 have e:(kvs.any fun kv=>decide (kv.1=k))=(atKey xs k).isSome:=by
  rw[xJ,(r.val k).isSome_eq,iO]
 unfold mQ storedH
 rw[e]
 by_cases q:(atKey xs k).isSome=true
 ·rw[aw q,aw q];exact r.repl k ry
 ·rw[aC q,aC q];exact Paired.snoc r ⟨rfl,hb,ry⟩
theorem KT.keeps{kvs:List (List f'×V)}(r:KT H kvs xs)(ht:∀b ys,H b=some (.tup ys)->H' b=some (.tup ys)):KT H' kvs xs:=
 Paired.mapP r fun _ _ z=>⟨z.1,ht _ _ z.2.1,z.2.2⟩
section
variable{w:World}
theorem JR{u:HO}(ok:kC P w H h)(e:Rd H a u):eD P w H h a u:=e.ok ok
theorem og{kvs:List (f'×V)}(ok:kC P w H h)(e:Rd H a (.dK kvs)):kvs.length<=sizeLine/\(a==sysModules)=false/\∃vs,KV kvs vs/\h.DictOf (eF P w) a vs:=
 show eD P w H h a (.dK kvs)from JR ok e
theorem AJ{kvs:List (f'×V)}(ok:kC P w H h)(e:H a=some (.dK kvs)):kvs.length<=sizeLine/\(a==sysModules)=false/\∃vs,KV kvs vs/\h.DictOf (eF P w) a vs:=og ok (.inl e)
theorem vP{ks:List f'}(ok:kC P w H h)(e:H a=some (.tup (ks.map kV))):(tupleKind (eF P w)).is h ks a:=by
 obtain⟨_,bJ,r,o,h1,h2,n,h3⟩:=(show eD P w H h a (.tup (ks.map kV))from ok a _ e)
 exact⟨o,bJ.toArray,n,h1,h2,h3,by simpa using uS r⟩
theorem xK{kvs:List (List f'×V)}(ok:kC P w H h)(e:Rd H a (.dT kvs)):kvs.length<=sizeLine/\(a==sysModules)=false /\
  ∃xs,KT H kvs xs/\h.DictOfH (tupleKind (eF P w)) a xs:=by
 obtain⟨z,y,xs,r,o,es,ep,h1,h2,h3,h4,h5⟩:=(show eD P w H h a (.dT kvs)from JR ok e)
 refine⟨z,y,xs,r,o,es,ep,h1,h2,h3,h4,fun x hx=>?_,h5⟩
 have all:∀{l:List (List f'×V)} {m:List (List f'×Addr×Value)},KT H l m->∀x∈m,(tupleKind (eF P w)).is h x.1 x.2.1:=by
  intro l m q
  induction q with
  |nil=>intro x hx;exact nomatch hx
  |@cons p q ps qs hq t ih=>
   intro x hx
   rcases aK.mp hx with e|hx
   ·subst e
    exact vP ok (by rw[<- hq.1];exact hq.2.1)
   ·exact ih x hx
 exact all r x hx
theorem O4{kvs:List (List f'×V)}(ok:kC P w H h)(e:H a=some (.dT kvs)):kvs.length<=sizeLine/\(a==sysModules)=false /\
  ∃xs,KT H kvs xs/\h.DictOfH (tupleKind (eF P w)) a xs:=xK ok (.inl e)
end
def xL(H:Hp)(a:Addr)(y:V)(r:Option V):Prop:=
 (∃kvs k,Rd H a (.dK kvs)/\y=kV k/\r=jW kvs k)\/∃kvs k b,Rd H a (.dT kvs)/\y=.ref b/\H b=some (.tup (k.map kV))/\r=jW kvs k
def HQ(H:Hp)(a:Addr)(y v:V)(H':Hp):Prop:=
 (∃kvs k,H a=some (.dK kvs)/\y=kV k/\kvs.length<sizeLine/\H'=eW H a (.dK (mQ kvs k v))) \/
 ∃kvs k b,H a=some (.dT kvs)/\y=.ref b/\H b=some (.tup (k.map kV))/\kvs.length<sizeLine/\H'=eW H a (.dT (mQ kvs k v))
theorem HQ.k{kvs:List (f'×V)}{k:f'}{v:V}(e:H a=some (.dK kvs))(hl:kvs.length<sizeLine):HQ H a (kV k) v (eW H a (.dK (mQ kvs k v))):=.inl ⟨kvs,k,e,rfl,hl,rfl⟩
section
variable{v:V}{r:Value}{o:Option V}
theorem bw.big(I:bw X pins σ H s):sysModules<s.heap.objs.size:=by
 have h:mainGlobals<s.heap.objs.size:=(I.mod.glob.keeps I.bk).lt
 exact p_ #[8] h
theorem Cm(hu:A.units+1<cLine)(I:bw X pins σ H s)(g:xL H a y (some v))(ry:bN y u)(h:∀w' s',bw X pins σ H s'->bN v w'->Q w' s') :
  wpAny #[2] A (getItem (.ref a) u) Q E s:=by
 rcases g with⟨kvs,k,e,ey,l⟩|⟨kvs,k,b,e,ey,eb,l⟩
 ·subst ey
  obtain⟨z,hd,vs,jq,dd⟩:=og I.hok e
  obtain⟨w',hw,kQ⟩:=pe.some_of (v:=v) (o:=valueAt vs k) (by rw[l];exact jq.val k)
  exact lP (qP ry) dd.mapOf hw (h w' _ (I.tok _) kQ)
 ·subst ey
  cases(show u=Value.ref b from ry)
  obtain⟨z,hd,xs,jq,dd⟩:=xK I.hok e
  obtain⟨w',hw,kQ⟩:=pe.some_of (v:=v) (o:=(atKey xs k).map (·.2)) (by rw[l];exact jq.val k)
  obtain⟨p,hp,hp2⟩:=a_.mp hw
  refine wpAny_getItem_heap (ki hu) (vP I.hok eb) dd hp ?_
  rw[hp2]
  exact h w' _ (I.tok _) kQ
theorem HR(hu:A.units+1<cLine)(I:bw X pins σ H s)(g:xL H a y o)(ry:bN y u)(h:∀s',bw X pins σ H s'->Q (.bool (!o.isSome)) s') :
  wpAny #[2] A (compareOp .NotIn u (.ref a)) Q E s:=by
 rcases g with⟨kvs,k,e,ey,l⟩|⟨kvs,k,b,e,ey,eb,l⟩
 ·subst ey
  obtain⟨z,hd,vs,jq,dd⟩:=og I.hok e
  refine wpAny_notIn_of (qP ry) hd dd.mapOf ?_
  rw[<- (jq.val k).isSome_eq,<- l]
  exact h _ (I.tok _)
 ·subst ey
  cases(show u=Value.ref b from ry)
  obtain⟨z,hd,xs,jq,dd⟩:=xK I.hok e
  refine wpAny_notIn_heap (ki hu) (vP I.hok eb) hd dd ?_
  have q:=(jq.val k).isSome_eq
  rw[iO]at q
  rw[<- q,<- l]
  exact h _ (I.tok _)
theorem l5{t':Nat}{ob:HO}(I:bw X pins σ H s)(mu:Le (H a))(hs:Heap.SameBut a s.heap h')(he:∃q,h'.get? a=some q)(new:eD X.prog X.w (eW H a ob) h' a ob) :
  bw X pins σ (eW H a ob) { s with heap:=h',toks:=t' }:=
 I.write (x:=a) (e:=a) mu (.inl rfl) (fun b q hb z=>(hs.2 b hb).trans z) he new
theorem zx{w:World}{kvs:List (f'×V)}{vs:List (f'×Value)}(z:kvs.length<=sizeLine)(hd:(a==sysModules)=false)(jq:KV kvs vs)(dd:h'.DictOf (eF P w) a vs) :
  eD P w H' h' a (.dK kvs):=⟨z,hd,vs,jq,dd⟩
theorem Cn{Q:Unit->Shared->Prop}(hu:A.units+1<cLine)(I:bw X pins σ H s)(g:HQ H a y v H')(ry:bN y u)(rv:bN v r)(h:∀s',bw X pins σ H' s'->Q () s') :
  wpAny #[2] A (setItem (.ref a) u r) Q E s:=by
 rcases g with⟨kvs,k,e,ey,l,eH⟩|⟨kvs,k,b,e,ey,eb,l,eH⟩
 ·subst ey eH
  obtain⟨z,hd,vs,jq,dd⟩:=AJ I.hok e
  have hz:vs.length<=sizeLine:=by rw[<- jq.length];exact z
  have hl:(mQ kvs k v).length<=sizeLine:=by have:=m9 kvs k v;omega
  refine wpAny_setItem_pairs (hsz:=hz) (qP ry) dd fun h' dd' hs=>h _ ?_
  have he:∃q,h'.get? a=some q:=let ⟨q,_,_,hq,_⟩:=dd';⟨q,hq⟩
  exact l5 I (by rw[e];exact True.intro) hs he (zx hl hd (jq.put k rv) dd')
 ·subst ey eH
  cases(show u=Value.ref b from ry)
  obtain⟨z,hd,xs,jq,dd⟩:=O4 I.hok e
  have hz:xs.length<=sizeLine:=by rw[<- Paired.length jq];exact z
  have hl:(mQ kvs k v).length<=sizeLine:=by have:=m9 kvs k v;omega
  refine wpAny_setItem_heap (hsz:=hz) (ki hu) (vP I.hok eb) dd fun h' dd' hs=>h _ ?_
  obtain⟨q,es,ep,hq,h2,h3,h4,_,h5⟩:=dd'
  refine l5 I (by rw[e];exact True.intro) hs ⟨q,hq⟩ ⟨hl,hd,_,(jq.put k eb rv).keeps fun c ys ec=>?_,q,es,ep,hq,h2,h3,h4,h5⟩
  rw[cw (OA ec e (fun z=>nomatch z))]
  exact ec
end
section
variable{kvs:List (f'×V)}{k:f'}
theorem O5{v:V}{j_:List Value}(I:bw X pins σ H s)(e:H a=some (.dK kvs))(ry:bN (kV k) u)(l:jW kvs k=some v)(hm:j_=[]\/∃x,j_=[x])
  (h:∀w' s',bw X pins σ (eW H a (.dK (mG kvs k))) s'->bN v w'->Q w' s'):wpAny #[2] A (call (.builtin "dict.pop") (.ref a::u::j_)) Q E s:=by
 obtain⟨z,hd,vs,jq,dd⟩:=AJ I.hok e
 obtain⟨w',hw,kQ⟩:=pe.some_of (v:=v) (o:=valueAt vs k) (by rw[<- l];exact jq.val k)
 have hp:(keyPart u).isSome=true:=by
  cases k with
  |inl i=>obtain⟨t,q⟩:=(show ∃t,u=Value.int i t from ry);subst q;rfl
  |inr x=>obtain⟨t,q⟩:=(show ∃t,u=Value.str x t from ry);subst q;rfl
 have ha:argsOk "dict.pop" ⟨.ref a::u::j_,[]⟩:=by
  rcases hm with q|⟨x,q⟩
  ·subst q;exact PySem.F.args_dict_pop_2 _ _
  ·subst q;exact PySem.F.args_dict_pop_3 _ _ _
 refine mv PySem.F.slot_dict_pop dd.typeIs PySem.F.entry_dict_pop ha (meets_dict_pop_there (eF X.prog X.w) a (qP ry) j_ hm hp)
  ⟨vs,w',dd,by rw[<- jq.length];exact z,hw,fun h' dd' hs=>h w' _ ?_ kQ⟩
 have he:∃q,h'.get? a=some q:=let ⟨q,_,_,hq,_⟩:=dd';⟨q,hq⟩
 exact l5 I (by rw[e];exact True.intro) hs he (zx (a8 (DL kvs k) z) hd (jq.drop k) dd')
theorem O6(I:bw X pins σ H s)(e:Rd H a (.dK kvs))(h:∀t s',bw X pins σ H s'->Q (.int kvs.length t) s'):wpAny #[2] A (call (.builtin "len") [.ref a]) Q E s:=by
 obtain⟨z,hd,vs,jq,dd⟩:=og I.hok e
 refine call_len_dict hd dd (by rw[<- jq.length];rw[iF]at z;omega) ?_
 rw[<- jq.length]
 exact h _ _ (I.tok _)
end
def DM(i:Expr):Prop:=∀ov iv,subscripted i false ov iv=operate [ov,iv] (getItem ov iv)
theorem vQ{w:World}{value slice:Expr}{T id:String}
  (hl:typeLookup (.type T) "__getitem__"=pure (some (.builtin id))) (hs:DM slice)
  (h:wpAny #[17] A (eval value env) (fun o s₁=>wpAny #[17] A (eval slice env) (fun i s₂=>s₂.TypeIs o T/\wpAny #[17] A (getItem o i) Q E s₂) E s₁) E s) :
  wpAny #[17] A (eval (.Subscript value slice pos) env) Q E s:=by
 refine Subscript_ (dG h (fun o s₁ h₁=>dG h₁ (fun i s₂ h₂=>?_) fun _ _ x=>x) fun _ _ x=>x)
 obtain⟨hT,h₂⟩:=h₂
 unfold subscriptTail
 refine ac ?_
 rw[getitemInPython_of_ne hT.not_modules]
 refine ac (fH hT hl ?_)
 have fin:wpAny #[17] A (subscripted slice false o i) (fun r s₃=>wpAny #[17] A (letTemporaryGo value o r >>= fun _=>pure r) Q E s₃) E s₂:=by
  rw[hs o i]
  exact wpAny_operating (dG h₂ (fun r s₃ h₃=>ac (wpAny_letTemporaryGo (am h₃))) fun _ _ x=>x)
 first
  |exact am (ac fin)
  |exact ac (am (ac fin))
  |exact ac fin
theorem xM{o:Option V}(I:bw X pins σ H s)(g:xL H a y o):s.TypeIs (.ref a) "dict":=by
 rcases g with⟨kvs,k,e,_,_⟩|⟨kvs,k,b,e,_,_,_⟩
 ·obtain⟨_,_,vs,_,dd⟩:=og I.hok e
  exact dd.typeIs
 ·obtain⟨_,_,xs,_,dd⟩:=xK I.hok e
  exact dd.typeIs
def O7(td ty:TE):TE:=fun σ H Q=>td σ H fun x H1=>ty σ H1 fun y H2=>∃a v,x=.ref a/\xL H2 a y (some v)/\Q v H2
section
variable{o i value:Expr}{Tv:Pos}{td ty tv:TE}
theorem HS(hu:X.A.units+1<cLine)(ho:PE X o td)(hi:PE X i ty)(hs:DM i):PE X (.Subscript o i pos) (O7 td ty):=by
 intro pins s σ H Q I h
 refine vQ PySem.F.slot_dict_getitem.lookup hs (gq (ho pins s σ H _ I h) fun u s1 ⟨x,H1,I1,rx,q1⟩=>gq (hi pins s1 σ H1 _ I1 q1) fun iv s2 zq=>?_)
 obtain⟨y,H2,I2,ry,a,v,ex,g,q2⟩:=zq
 subst ex
 obtain rfl:u=Value.ref a:=rx
 exact⟨xM I2 g,Cm hu I2 g ry fun w' s3 I3 kQ=>⟨v,H2,I3,kQ,q2⟩⟩
end
theorem xN{w:World}(h:Heap)(hb:sysModules<h.objs.size):eD P w H (h.push { cls:=.type "dict",data:=.dict #[] }) h.objs.size (.dK []):=
 ⟨cJ _,bP.mpr (Ne.symm (bq hb)),[],.nil,Heap.DictOf.new h⟩
def LV:TE:=fun _ H Q=>∀p,H p=none->Q (.ref p) (eW H p (.dK []))
section
theorem DN:PE X (.Dict [] [] pos) LV:=fun pins s σ H Q I h=>
 wpAny_Dict_empty ⟨.ref s.heap.objs.size,_,I.laid (a:=s.heap.objs.size) (o:=.dK []) (t':=s.toks) (fun _ _ q=>ar _ q) (au _) (xN s.heap I.big),rfl,h _ (I.hok.fresh (au _))⟩
end
def vR:List (TE×TE)->St->Hp->(List (V×V)->Hp->Prop)->Prop
 |[],_,H,Q=>Q [] H
 |(tk,tv)::r,σ,H,Q=>tk σ H fun x H1=>tv σ H1 fun y H2=>vR r σ H2 fun ps H3=>Q ((x,y)::ps) H3
abbrev VV:List (V×V)->List (Value×Value)->Prop:=Paired fun p q=>bN p.1 q.1/\bN p.2 q.2
def O8(X:Cx)(pos:Pos)(keys:List (Option Expr))(j9:List Expr)(Ax:List (TE×TE)):Prop:=
 ∀(pins:List (Addr×Obj)) (s:Shared) (σ:St) (H:Hp) (Q:List (V×V)->Hp->Prop),bw X pins σ H s->vR Ax σ H Q ->
  wpAny #[2] X.A (evalPairs (pairTrees keys j9 X.env pos)) (fun vs s'=>∃ps H',bw X pins σ H' s'/\VV ps vs/\Q ps H') X.xe s
theorem HU:O8 X pos [] [] []:=fun pins s σ H Q I h=>pairTrees_nil_walk ⟨[],H,I,.nil,h⟩
theorem DO{k v:Expr}{vs:List Expr}{tk tv:TE}{Ax:List (TE×TE)}(hk:PE X k tk)(hv:PE X v tv)(hr:O8 X pos ks vs Ax) :
  O8 X pos (some k::ks) (v::vs) ((tk,tv)::Ax):=fun pins s σ H Q I h=>
 pairTrees_cons_walk (gq (hk pins s σ H _ I h) fun u s1 ⟨x,H1,I1,rx,q1⟩=>gq (hv pins s1 σ H1 _ I1 q1) fun w2 s2 ⟨y,H2,I2,ry,q2⟩=>
  gq (hr pins s2 σ H2 _ I2 q2) fun ws s3 ⟨ps,H3,I3,jq,q3⟩=>⟨(x,y)::ps,H3,I3,.cons ⟨rx,ry⟩ jq,q3⟩)
def m_(kvs j_:List (f'×V)):List (f'×V):=j_.foldl (fun acc kv=>mQ acc kv.1 kv.2) kvs
theorem KV.merge:∀{j_:List (f'×V)} {rs:List (f'×Value)} {kvs:List (f'×V)} {vs:List (f'×Value)},KV j_ rs->KV kvs vs->KV (m_ kvs j_) (merged vs rs):=by
 intro j_ rs kvs vs r
 unfold KV at r
 induction r generalizing kvs vs with
 |nil=>intro q;exact q
 |@cons p q ps qs h t ih=>
  intro r0
  have e:KV (mQ kvs p.1 p.2) (stored vs q.1 q.2):=by
   have:=r0.put p.1 h.2
   rw[<- h.1];exact this
  exact ih e
theorem oh:∀(j_ kvs:List (f'×V)),(m_ kvs j_).length<=kvs.length+j_.length
 |[],kvs=>by show kvs.length<=kvs.length+0;omega
 |p::r,kvs=>by
  have h1:=oh r (mQ kvs p.1 p.2)
  have h2:=m9 kvs p.1 p.2
  show(m_ (mQ kvs p.1 p.2) r).length<=_
  rw[bz];omega
theorem se{P:Program}{w:World}:∀{kvs:List (f'×V)} {ws:List (Value×Value)},VV (kvs.map fun kv=>(kV kv.1,kv.2)) ws->∃rs,Carries (eF P w) ws rs/\KV kvs rs
 |[],_,r=>by rw[dH]at r;cases r;exact⟨[],True.intro,.nil⟩
 |p::kvs,_,r=>by
  rw[aF]at r
  cases r with
  |@cons a b as bs h t=>
   obtain⟨rs,c,q⟩:=se (P:=P) (w:=w) t
   obtain⟨b1,b2⟩:=b
   exact⟨(p.1,b2)::rs,⟨qP h.1,rfl,c⟩,.cons ⟨rfl,h.2⟩ q⟩
def O9(Ax:List (TE×TE)):TE:=fun σ H Q=>∀p,H p=none->vR Ax σ (eW H p (.dK [])) fun ps H2=>H2 p=some (.dK [])/\∃kvs:List (f'×V),ps=kvs.map (fun kv=>(kV kv.1,kv.2))/\kvs.length<=15/\Q (.ref p) (eW H2 p (.dK (m_ [] kvs)))
theorem HW{keys:List (Option Expr)}{j9:List Expr}{Ax:List (TE×TE)}(h:O8 X pos keys j9 Ax)(mS:keys.all (·.isSome)=true)(hl:keys.length=j9.length)(h0:keys≠[])
  (Ts:keys.length<=15):PE X (.Dict keys j9 pos) (O9 Ax):=by
 intro pins s σ H Q I q
 have hn:=I.hok.fresh (au s.heap.objs.size)
 have I1:=I.laid (a:=s.heap.objs.size) (o:=.dK []) (h':=s.heap.push { cls:=.type "dict",data:=.dict #[] }) (t':=s.toks) (fun _ _ q=>ar _ q) (au _) (xN s.heap I.big)
 refine wpAny_Dict_walk (knd:=eF X.prog X.w) mS hl h0 Ts (gq (h pins _ σ _ _ I1 (q _ hn)) fun ws s2 zq=>?_)
 obtain⟨ps,H2,I2,jq,e,kvs,ep,lk,q2⟩:=zq
 subst ep
 obtain⟨rs,c,rk⟩:=se (P:=X.prog) (w:=X.w) jq
 obtain⟨z,hd,vs0,r0,dd⟩:=AJ I2.hok e
 cases r0
 refine⟨rs,c,dd,fun h' dd' hs=>⟨.ref s.heap.objs.size,_,?_,rfl,q2⟩⟩
 have hz:(m_ [] kvs).length<=sizeLine:=by
  have h1:=oh kvs []
  rw[dM]at h1
  rw[iF];omega
 have he:∃q,h'.get? s.heap.objs.size=some q:=let ⟨q,_,_,hq,_⟩:=dd';⟨q,hq⟩
 exact l5 I2 (by rw[e];exact True.intro) hs he (zx hz hd (rk.merge .nil) dd')
structure M1(X:Cx)(o:Expr)(m:Str)(gi:Pos)(e:Expr)(dF:Pos):Prop where
 base:attributeBase o m X.env (eval o X.env)=eval o X.env
 few:((backTo dF (starEach [e] X.env)).all (fun x=>!x.1)&&(backToKw dF (keywordEach [] X.env)).all (fun x=>x.1.isSome)
  && decide (([e]:List Expr).length+([]:List Keyword).length+(if ([]:List Keyword).isEmpty then 0 else 1)<30))=true
 line:(gi.endLine==dF.line)=true
 trees:backTo dF (starEach [e] X.env)=[(false,eval e X.env)]
structure M2(X:Cx)(o:Expr)(m:Str)(gi:Pos)(e f:Expr)(dF:Pos):Prop where
 base:attributeBase o m X.env (eval o X.env)=eval o X.env
 few:((backTo dF (starEach [e,f] X.env)).all (fun x=>!x.1)&&(backToKw dF (keywordEach [] X.env)).all (fun x=>x.1.isSome)
  && decide (([e,f]:List Expr).length+([]:List Keyword).length+(if ([]:List Keyword).isEmpty then 0 else 1)<30))=true
 line:(gi.endLine==dF.line)=true
 trees:backTo dF (starEach [e,f] X.env)=[(false,eval e X.env),(false,eval f X.env)]
def TQ(H:Hp)(a:Addr):Prop:=(∃kvs,Rd H a (.dK kvs))\/∃kvs,Rd H a (.dT kvs)
theorem LW(I:bw X pins σ H s)(d:TQ H a) :
  s.TypeIs (.ref a) "dict"/\(∀b,Value.ref a=.ref b->∃ob,s.heap.get? b=some ob/\ob.dict=none)/\(a==sysModules)=false:=by
 rcases d with⟨kvs,e⟩|⟨kvs,e⟩
 ·obtain⟨_,hd,vs,_,dd⟩:=og I.hok e
  refine⟨dd.typeIs,fun b q=>?_,hd⟩
  cases q
  obtain⟨ob,_,_,h1,h2,_⟩:=dd
  exact⟨ob,h1,h2.2.1⟩
 ·obtain⟨_,hd,xs,_,dd⟩:=xK I.hok e
  refine⟨dd.typeIs,fun b q=>?_,hd⟩
  cases q
  obtain⟨ob,_,_,h1,h2,_⟩:=dd
  exact⟨ob,h1,h2.2.1⟩
section
variable{d:V}{r:Value}{o:Option V}
end
def LX(td ty:TE):TE:=fun σ H Q=>td σ H fun x H1=>∃a,x=.ref a/\TQ H1 a/\ty σ H1 fun y H2=>∃kvs k v,H2 a=some (.dK kvs)/\y=kV k/\jW kvs k=some v/\Q v (eW H2 a (.dK (mG kvs k)))
section
variable{o f:Expr}{td ty tx:TE}
theorem DP(ho:PE X o td)(he:PE X e ty)(m:M1 X o "pop" gi e dF):PE X (.Call (.Attribute o "pop" gi) [e] [] dF) (LX td ty):=by
 intro pins s σ H Q I h
 refine wpAny_Call_method m.base m.few m.line PySem.F.plainAttrs_dict PySem.F.slot_dict_pop PySem.F.type_dict_pop (gq (ho pins s σ H _ I h) fun u s1 zq=>?_)
 obtain⟨x,H1,I1,rx,a,ex,d,q1⟩:=zq
 subst ex
 obtain rfl:u=Value.ref a:=rx
 obtain⟨t1,t2,_⟩:=LW I1 d
 refine⟨t1,t2,?_⟩
 rw[m.trees]
 refine iP rfl (jr (iq (gq (he pins s1 σ H1 _ I1 q1) fun iv s2 ⟨y,H2,I2,ry,kvs,k,v,ea,ey,l,q2⟩=>kR ?_)))
 subst ey
 exact O5 I2 ea ry l (.inl rfl) fun w' s3 I3 kQ=>⟨v,_,I3,kQ,q2⟩
end
section
variable{kvs:List (f'×V)}
end
section
end
section
end
section
variable{κ:Type}[DecidableEq κ]
theorem Co{p:κ×V}{r:List (κ×V)}{k:κ}(e:p.1=k):mG (p::r) k=mG r k:=by
 unfold mG
 rw[cS,aC (by simp[e])]
theorem Cp{p:κ×V}{r:List (κ×V)}{k:κ}(e:¬ p.1=k):mG (p::r) k=p::mG r k:=by
 unfold mG
 rw[cS,aw (by simp[e])]
end
end L2
set_option maxHeartbeats 4000000
namespace L2
open PySem PySem.Spec PyProof.Rows
abbrev bY(X:Cx)(nm:List Str)(scope:Scope)(cl:List (Str×Addr))(C:Addr)(s0:Shared)(H0:Hp)(fp:List Addr):Cx:=
 { X with N:=nm,s₀:=s0,H₀:=H0,env:=compEnvC scope cl C X.env,outer:=X.stack,stack:=X.stack,ex:=fp,fn:=fun _=>false,pn:=[],xe:=fun _ _=>False }
def DQ(X:Cx)(iU:List Expr)(t:TT):Prop:=
 ∀(pins:List (Addr×Obj)) (s:Shared) (σ:St) (H:Hp) (Q:Bool->Hp->Prop),bw X pins σ H s->t σ H Q ->
  wpAny #[2] X.A (forIn iU true fun c r=>if r=true then do let ok <- isTrue c X.env (eval c X.env);pure (ForInStep.yield ok)else pure (ForInStep.yield r)) (TP X pins σ Q) X.xe s
def SD:TT:=fun _ H Q=>Q true H
theorem HX:DQ X [] SD:=fun _ _ _ H _ I h=>wpAny_tests_nil ⟨H,I,h⟩
theorem HY{t:TT}(hc:PT X c t):DQ X [c] t:=fun pins s σ H Q I h=>wpAny_tests_one (hc pins s σ H Q I h)
def om(cap:List (Option Nat))(σ:St):St:=cap.map fun o=>o.bind fun j=>(σ[j]?).join
def pq(cap:List (Option Nat))(wi:TI)(g:TG)(tc:TT)(te:TE):TE:=fun σ H Q=>wi σ H fun J H1=>∃W:Nat->Nat->List V->Hp->Prop,(∃m,W 0 m [] H1)/\∀i m ys H2,W i m ys H2 ->
 (J.stop i H2/\ys.length<=sizeLine/\∀p,H2 p=none->Q (.ref p) (eW H2 p (.lst ys))) \/
 (J.go i H2/\∀x H3,J.yld i H2 x H3->g x (om cap σ) H3 fun σ2 H4=>tc σ2 H4 fun b H5=>if b=true then te σ2 H5 fun y H6=>ys.length<sizeLine/\∃m',m'<m/\W (i+1) m' (ys++[y]) H6 else ∃m',m'<m/\W (i+1) m' ys H5)
theorem Un.cellK{fs ex:List Addr}(u:Un fs ex H H' h h'){c:Addr}{v:Option Value}(x:h.IsCell c v)(n:H c=none)(he:c∉ex):h'.IsCell c v:=by
 obtain⟨o,ho,hd⟩:=x
 obtain⟨sl,q⟩:=u.any ho n he
 exact⟨_,q,hd⟩
structure sg(X:Cx)(scope:Scope)(cl:List (Str×Addr))(x:Str):Prop where
 vis:Oi X.env.scope x
 nl:X.env.scope.names.lookup x≠some .local
 cl:cl.lookup x=X.env.cells.lookup x
 kd:(relabel scope X.env).names.lookup x=some .cell\/(relabel scope X.env).names.lookup x=some .free
theorem kY:∀(names:List (Str×NameKind)) (n:Nat) (acc:List (Str×Addr)) {y:Str} {c:Addr},(y,c)∈cellsFrom n names acc->(y,NameKind.cell)∈names\/(y,c)∈acc
 |[],_,_,_,_,h=>.inr h
 |(x,k)::r,n,acc,y,c,h=>by
  have h:(y,c)∈(if k==.cell then cellsFrom (n+1) r ((x,n)::acc)else cellsFrom n r acc):=h
  split at h
  ·rename_i hk
   rcases kY r _ _ h with q|q
   ·exact .inl (ay _ q)
   ·rcases aK.mp q with e|q
    ·cases e
     exact .inl (by rw[jf hk];exact aM)
    ·exact .inr q
  ·rcases kY r _ _ h with q|q
   ·exact .inl (ay _ q)
   ·exact .inr q
theorem dL:∀{l:List (Str×β)} {x:Str} {b:β},l.lookup x=some b->(x,b)∈l
 |[],_,_,h=>by simp at h
 |(y,c)::r,x,b,h=>by
  rw[d8]at h
  cases hx:x==y with
  |true=>rw[hx]at h;have:=jf hx;subst this;cases h;exact aM
  |false=>rw[hx]at h;exact ay _ (dL h)
theorem ji:∀(names:List (Str×NameKind)) (n:Nat) (acc:List (Str×Addr)),cellsFrom n names acc=cellsFrom n names []++acc
 |[],_,_=>rfl
 |(x,k)::r,n,acc=>by
  show(if k==.cell then cellsFrom (n+1) r ((x,n)::acc)else cellsFrom n r acc)=(if k==.cell then cellsFrom (n+1) r [(x,n)]else cellsFrom n r [])++acc
  split
  ·rw[ji r (n+1) ((x,n)::acc),ji r (n+1) [(x,n)],az];rfl
  ·exact ji r n acc
abbrev cG(X:Cx)(nm:List Str)(scope:Scope)(cl:List (Str×Addr))(C:Addr)(s0:Shared)(H0:Hp)(fp:List Addr):Cx:=
 { bY X nm scope cl C s0 H0 fp with fn:=fun y=>scope.names.lookup y==some .cell }
theorem HZ{M:Model}{A:Around}{E:Value->Shared->Prop}{globals:Addr}{Q:Env->Shared->Prop}
  (hQ:∀h':Heap,h'.Ns s.heap.objs.size (fun x=>([]:List (Str×Value)).reverse.lookup x)->(∀b o,s.heap.get? b=some o->h'.get? b=some o)->CellsOk h' (s.heap.objs.size+1) (cellsFrom (s.heap.objs.size+1) scope.names []) ->
   Q (newEnv scope s.heap.objs.size globals (cellsFrom (s.heap.objs.size+1) scope.names []++cl) qual none .none (some env) builtinsNs) { s with heap:=h' }) :
  wpAny M A (newFunctionEnv scope globals cl [] qual none .none (some env)) Q E s:=by
 simp only[newFunctionEnv,Option.isSome_some,dS]
 refine ac (wpAny_alloc ?_)
 refine ac (wpAny_layCells _ (fun name kind cells=>by cases hkc:kind==NameKind.cell<;>simp[hkc]) _ _ _ _ ?_)
 have ok:=cellsFrom_ok scope.names (s.heap.push { cls:=.type "dict",data:=.dict #[] }) (s.heap.objs.size+1) [] ⟨fun _ _ hm=>(nomatch hm),List.Pairwise.nil⟩ (by rw[f9];exact au _)
 rw[f9]at ok
 rw[show({ s with heap:=s.heap.push { cls:=.type "dict",data:=.dict #[] } }:Shared).heap.objs.size=s.heap.objs.size+1 from f9 ..,ji _ _ cl]
 exact ac (am (am (hQ _ ((Heap.Ns.new s.heap (.type "dict")).keeps (pushCells_keeps _ _)) (fun b o e=>pushCells_keeps _ _ b o (ar _ e)) ok)))
section
variable{g:TG}
theorem vS{prog:Program}{w:World}{A:Around}{E:Value->Shared->Prop}{l:Addr}{bJ:List Value}{u:Value}{Q:Value->Shared->Prop}
  (e:s.heap.get? l=some { cls:=.type "list",data:=.seq bJ.toArray n }) (hz:bJ.length<sizeLine)
  (h:∀(h':Heap) (n' tk:Nat),h'.get? l=some { cls:=.type "list",data:=.seq (bJ++[u]).toArray n' }->(∀b o,b≠l->s.heap.get? b=some o->h'.get? b=some o)->Q .none { s with heap:=h',toks:=tk }) :
  wpAny #[17] A (call (.builtin "list.append") [.ref l,u]) Q E s:=by
 refine pb F.slot_list_append ⟨_,e,rfl⟩ F.entry_list_append (F.args_list_append_2 _ _) (PySem.list_append l bJ.toArray n u (by rw[aO];omega)) ⟨e,?_⟩
 have q:=PySem.IsL.update e (fun a=>a.push u)
 have q2:(s.heap.update l (Obj.mapSeq fun x=>x.push u)).get? l=some { cls:=.type "list",data:=.seq (bJ++[u]).toArray (if ((bJ.toArray.push u).size==bJ.toArray.size)=true then n else n+1) }:=by
  rw[show(s.heap.update l (Obj.mapSeq fun x=>x.push u)).get? l=_ from q];simp
 exact h _ _ s.toks q2 fun b o hb ho=>(mq s.heap (Obj.mapSeq _) (Ne.symm hb)).trans ho
structure xO(X:Cx)(pins:List (Addr×Obj))(H:Hp)(s:Shared)(C:Addr)(m:Str->Option Value):Prop where
 ns:s.heap.Ns C m
 fr:H C=none
 nl:C≠X.env.locals
 nf:C∉X.fs
 hi:X.s₀.heap.objs.size<=C
 nc:∀x c,X.env.cells.lookup x=some c->c≠C
 np:∀p∈X.pn++pins,p.1≠C
theorem xO.off{C:Addr}{m:Str->Option Value}(B:xO X pins H s C m)(I:bw X pins σ H s)(hs:Heap.SameBut C s.heap h'):bw X pins σ H { s with heap:=h' }:=I.turned (t':=s.toks) (it:=C) (fun b o hb e=>hs.extBut b o hb e) B.fr B.nl (.inr B.hi) B.nc B.np
theorem DR{K_:List (Addr×Obj)}{σ2:St}{H1:Hp}{s2:Shared}{C:Addr}
  (rE:∀(i j:Nat),cap[i]?=some (some j)->∃x,nm[i]?=some x/\X.N[j]?=some x/\sg X scope cl x) (d7:cap.length=nm.length)
  (I2:bw X pins σ H1 s2) (Ur:∀b∈fp,∀x c,X.env.cells.lookup x=some c->c≠b)
  (I:bw (cG X nm scope cl C s2 H1 fp) K_ σ2 H s):bw (cG X nm scope cl C s2 H1 fp) K_ (om cap σ) H s:=by
 refine⟨I.ok,I.os,I.bare,I.base,?_,I.cell,I.free,I.freeC,I.pin,I.hok,by show(om cap σ).length=nm.length;unfold om;rw[ai];exact d7⟩
 obtain⟨m,hn,_⟩:=I.loc
 refine⟨m,hn,fun i x v e1 e2 e3=>?_⟩
 unfold om at e2
 rw[ak]at e2
 cases hc:cap[i]? with
 |none=>rw[hc]at e2;cases e2
 |some oj=>
  cases oj with
  |none=>rw[hc]at e2;cases e2
  |some j=>
   rw[hc]at e2
   have G3:(σ[j]?).join=some v:=by simpa using e2
   have e2:σ[j]?=some (some v):=by
    cases hs:σ[j]? with
    |none=>rw[hs]at G3;cases G3
    |some ov=>rw[hs]at G3;simp at G3;rw[G3]
   obtain⟨x',f1,f2,k⟩:=rE i j hc
   have hx:x'=x:=by
    have z:nm[i]?=some x:=e1
    rw[f1]at z;exact aU z
   subst hx
   obtain⟨m2,_,hl2⟩:=I2.loc
   obtain⟨u,r,l⟩:=hl2 j x' v f2 e2 k.vis
   refine⟨u,r,?_⟩
   rcases l with⟨kl,_⟩|⟨_,c,hcc,fC⟩
   ·exact absurd kl k.nl
   ·refine .inr ⟨k.kd,c,by rw[<- hcc];exact k.cl,?_⟩
    exact I.base.cellK fC (I2.freeC _ _ hcc) fun z=>Ur c z _ _ hcc rfl
theorem si{Qk:VK}(fz:X.calm=true)(uj:closureFor scope X.env=pure cl)(jd:∀x c,cl.lookup x=some c->X.env.cells.lookup x=some c)
  (fA:scope.kind=.function) (o_:∀x∈scope.names,x.2=.local->scope.names.lookup x.1=some .local) (Ru:∀y∈scope.names,y.2=.cell->cl.lookup y.1=none)
  (Ap:∀x,scope.names.lookup x≠some .cell->#[6]->∃c,cl.lookup x=some c)
  (rE:∀(i j:Nat),cap[i]?=some (some j)->∃x,nm[i]?=some x/\X.N[j]?=some x/\sg X scope cl x/\(x,NameKind.cell)∉scope.names) (d7:cap.length=nm.length)
  (hi:PI X tg iter wi) (hg:∀k C s0 H0 fp,PG (cG X nm scope (cellsFrom k scope.names []++cl) C s0 H0 fp) tg g) (ht:∀k C s0 H0 fp,DQ (cG X nm scope (cellsFrom k scope.names []++cl) C s0 H0 fp) iU tc)
  (he:∀k C s0 H0 fp,PE (cG X nm scope (cellsFrom k scope.names []++cl) C s0 H0 fp) jV te) (hs:∀x,foldedSetIterable iter X.env x=pure x)
  (I:bw X pins σ H s) (h:pq cap wi g tc te σ H Qk) (fin:∀(s4:Shared) (C D:Addr) (m4:Str->Option Value) (Hn:Hp),bw X pins σ Hn s4->xO X pins Hn s4 C m4->Qk (.ref D) Hn->compPost #[2] X.A X.xe use Qv (.ref D) C (.ok .next) s4) :
  wpAny #[2] X.A (comprehension #[4] scope X.env (firstIterPos [⟨tg,iter,iU,0⟩] pos) (newList []) (firstAsync [⟨tg,iter,iU,0⟩]) (firstIter [⟨tg,iter,iU,0⟩] X.env) use) Qv X.xe s:=by
 refine wpAny_comprehension_free (use:=use) rfl hs uj fA o_ (gq (hi pins s σ H _ I h) fun v s1 h1=>gq h1 fun TH s2 h2=>?_)
 obtain⟨it,fp,tn,J,H1,e,I2,T,cV,f2,W,⟨m0,w0⟩,turn⟩:=h2
 subst e
 have hfpn:∀b∈fp,b<s2.heap.objs.size:=fun b hb=>let ⟨o,ho,_⟩:=T.obj _ _ cV b hb;aE ho
 have hfpc:∀b∈fp,∀x c,X.env.cells.lookup x=some c->c≠b:=fun b hb=>(f2 b hb).2.2.2.2.1
 refine cM (HZ (fun h₁ hns₁ hsb₁ cok=>?_))
 dsimp only at hns₁ hsb₁ cok ⊢
 generalize hH2:s2.heap.push { cls:=.type "list",dict:=none,data:=.seq ([]:List Value).toArray }=G2 at hns₁ hsb₁ cok ⊢
 have hC:G2.objs.size=s2.heap.objs.size+1:=by rw[<- hH2,f9]
 have hDC:s2.heap.objs.size≠G2.objs.size:=by rw[hC];exact bq (jg _)
 have old:∀b o,s2.heap.get? b=some o->h₁.get? b=some o:=fun b o e=>hsb₁ b o (hH2▸ar _ e)
 have hacc:h₁.get? s2.heap.objs.size=some { cls:=.type "list",data:=.seq ([]:List Value).toArray }:=hsb₁ _ _ (hH2▸aL _ rfl)
 have both:∀y c,(cellsFrom (G2.objs.size+1) scope.names []++cl).lookup y=some c->(cellsFrom (G2.objs.size+1) scope.names []).lookup y=some c\/cl.lookup y=some c:=fun y c e=>by
  rw[iw]at e
  cases h:(cellsFrom (G2.objs.size+1) scope.names []).lookup y with
  |none=>rw[h]at e;exact .inr e
  |some b=>rw[h]at e;exact .inl e
 have ownhi:∀y c,(cellsFrom (G2.objs.size+1) scope.names []).lookup y=some c->h₁.IsCell c none/\G2.objs.size+1<=c:=fun y c e=>cok.empty y c (PySem.mem_of_lookup e)
 have cllow:∀y c,cl.lookup y=some c->c<s2.heap.objs.size:=fun y c e=>by obtain⟨v,hv⟩:=I2.cell y c (jd _ _ e);exact hv.lt
 have hcap0:=rE
 have rE:∀(i j:Nat),cap[i]?=some (some j)->∃x,nm[i]?=some x/\X.N[j]?=some x/\sg X scope (cellsFrom (G2.objs.size+1) scope.names []++cl) x:=fun i j e=>by
  obtain⟨x,q1,q2,k,q3⟩:=hcap0 i j e
  refine⟨x,q1,q2,k.vis,k.nl,?_,k.kd⟩
  rw[iw]
  cases h:(cellsFrom (G2.objs.size+1) scope.names []).lookup x with
  |none=>exact k.cl
  |some c=>
   rcases kY _ _ _ (PySem.mem_of_lookup h)with z|z
   ·exact absurd z q3
   ·cases z
 have okB:#[1].Ok:=by
  refine⟨I2.ok.mod,fA,I2.ok.glob,I2.ok.blt,by show s2.heap.objs.size<=G2.objs.size;omega,fun x y c h1 h2=>?_,fun x hx=>?_,fun x c h0 hc=>?_,fun hc=>I2.ok.hd fz,I2.ok.frames,.inl rfl,?_,?_,?_,?_,?_,?_,?_⟩
  ·rcases both x c h1 with q1|q1<;>rcases both y c h2 with q2|q2
   ·exact name_of_addr cok.apart (PySem.mem_of_lookup q1) (PySem.mem_of_lookup q2)
   ·exact absurd (cllow y c q2) (jh.mpr (a8 #[0] (ownhi x c q1).2))
   ·exact absurd (cllow x c q1) (jh.mpr (a8 #[0] (ownhi y c q2).2))
   ·exact I2.ok.inj x y c (jd _ _ q1) (jd _ _ q2)
  ·show ∃c,(cellsFrom (G2.objs.size+1) scope.names []++cl).lookup x=some c
   rw[iw]
   by_cases hq:scope.names.lookup x=some .cell
   ·obtain⟨c,e⟩:=iI (n:=G2.objs.size+1) hq
    exact⟨c,by rw[e];rfl⟩
   ·obtain⟨c,e⟩:=Ap x hq hx
    cases h:(cellsFrom (G2.objs.size+1) scope.names []).lookup x with
    |none=>exact⟨c,e⟩
    |some b=>exact⟨b,rfl⟩
  ·have hq:scope.names.lookup x=some .cell:=by simpa using h0
   obtain⟨b,e⟩:=iI (n:=G2.objs.size+1) hq
   have hc:(cellsFrom (G2.objs.size+1) scope.names []++cl).lookup x=some c:=hc
   rw[iw,e]at hc
   cases hc
   have:=(ownhi x _ e).2
   show s2.heap.objs.size<=_
   omega
  ·intro b hb
   exact⟨bq (aV (hfpn b hb) (by show _<=G2.objs.size;omega)),fun x c hx=>(both x c hx).elim (fun q=>mn (aV (hfpn b hb) (a8 #[0] (ownhi x c q).2))) fun q=>hfpc b hb x c (jd _ _ q)⟩
  ·exact fun b o hb=>I2.bs b o hb
  ·exact a8 I2.ok.bsz I2.sz
  ·intro b o hb z
   rcases(f2 b z).2.2.2.1 with q|q
   ·exact I2.ok.noex b o hb q
   ·exact absurd (aE (I2.ok.bs b o hb).1) (jh.mpr q)
  ·intro b hb z
   rcases aK.mp (I2.stkSub b z)with q|q
   ·exact(f2 b hb).2.1 q
   ·exact(f2 b hb).2.2.1 q
  ·exact I2.stack
  ·exact I2.stkFree
 have I4:bw #[1] [] (om cap σ) H1 { s2 with heap:=h₁ }:=by
  refine DR rE d7 I2 hfpc (σ2:=List.replicate nm.length none) ⟨okB,rfl,I2.bare,Un.kept old,⟨_,hns₁,fun i x v _ e2=>?_⟩,fun x c hx=>?_,?_,fun x c hx=>(both x c hx).elim (fun q=>I2.hok.fresh (by have:=(ownhi x c q).2;omega)) fun q=>I2.freeC x c (jd _ _ q),fun p hp=>absurd hp #[7],I2.hok.kept old,by simp⟩
  ·rw[iG]at e2;split at e2<;>cases e2
  ·rcases both x c hx with q|q
   ·exact⟨none,(ownhi x c q).1⟩
   ·obtain⟨v,hv⟩:=I2.cell x c (jd _ _ q)
    exact⟨v,hv.keeps old⟩
  ·exact I2.hok.fresh (by show _<=G2.objs.size;omega)
 have hsz0:∀{Hx:Hp} {sx:Shared} {px:List (Addr×Obj)} {σx:St},bw #[1] px σx Hx sx->Hx s2.heap.objs.size=none->∀{oa:Obj},sx.heap.get? s2.heap.objs.size=some oa->(∀v,oa.data≠.cell v) ->
   bw #[1] [(s2.heap.objs.size,oa)] σx Hx sx:=fun{Hx sx px σx} Ix hn {oa} ho hd=>Ix.pins_of fun p hp=>by
  have e:p=(s2.heap.objs.size,oa):=by simpa using hp
  subst e
  exact⟨ho,hn,hDC,fun z=>by
   obtain⟨_,o,q,_⟩:=I2.stack.mem z
   exact absurd (aE q) (bx _),hd⟩
 have hfpB:∀{Hx:Hp} {oa:Obj},(∀b∈fp,Hx b=none)->∀b∈fp,pf #[1] [(s2.heap.objs.size,oa)] Hx b:=fun{Hx oa} hn b hb=>
  ⟨hn b hb,(okB.exf b hb).1,okB.exfs b hb,.inl hb,(okB.exf b hb).2,fun p hp=>by
   have e:p=(s2.heap.objs.size,oa):=by simpa using hp
   subst e
   exact mn (hfpn b hb)⟩
 have hcalmB:#[1].calm=true:=fz
 have loop:∀sx:Shared,sx={ s2 with heap:=h₁ } ->
   codeAny #[2] X.A (.compLoop #[4] 0 (.ref it) (.ref s2.heap.objs.size) (compEnvC scope (cellsFrom (G2.objs.size+1) scope.names []++cl) G2.objs.size X.env))
    (compPost #[2] X.A X.xe use Qv (.ref s2.heap.objs.size) G2.objs.size) sx:=by
  rintro sx rfl
  refine codeAny_loop rfl (fun n s'=>∃i ys H',bw #[1] [] (om cap σ) H' s'/\tn i s'.heap/\(∀b∈fp,H' b=none)/\H' s2.heap.objs.size=none /\
   (∃bJ k,cH ys bJ/\s'.heap.get? s2.heap.objs.size=some { cls:=.type "list",data:=.seq bJ.toArray k })/\W i n ys H') ?_ m0
   ⟨0,[],H1,I4,T.keep _ _ _ cV (fun b _ o e=>old b o e),fun b hb=>(f2 b hb).1,I2.fresh,⟨[],0,.nil,hacc⟩,w0⟩
  rintro n s3 ⟨i,ys,H3,I3,jv,fr3,na3,⟨bJ,ka,rv,ea⟩,w3⟩
  show wpAny _ X.A ((compTurn #[4] 0 (.ref it) (.ref s2.heap.objs.size) (compEnvC scope (cellsFrom (G2.objs.size+1) scope.names []++cl) G2.objs.size X.env)).onRaise (fun x=>do noteFrame x (compEnvC scope (cellsFrom (G2.objs.size+1) scope.names []++cl) G2.objs.size X.env);theTreesLotGoes x)) _ _ s3
  refine wpAny_noted ?_
  rw[compTurn_list]
  refine ac (lf ?_)
  have I3p:=hsz0 I3 na3 ea (fun v z=>by cases z)
  rcases turn i n ys H3 w3 with⟨stop,hz,qn⟩|⟨go,step⟩
  ·refine ac (dG (T.done #[1] rfl rfl rfl hcalmB i _ s3 _ H3 (fun _ _=>False) I3p (hfpB fr3) jv stop) (fun r s4 hr=>?_) fun _ _ z=>z.elim)
   obtain⟨hr,I4'⟩:=hr
   subst hr
   refine am ?_
   obtain⟨m4,hn4,_⟩:=id I4'.loc
   have pa:=I4'.pin (s2.heap.objs.size,{ cls:=.type "list",data:=.seq bJ.toArray ka }) #[7]
   have ne:∀b o,s2.heap.get? b=some o->b≠s2.heap.objs.size/\b≠G2.objs.size:=fun b o e=>⟨bq (aE e),bq (by rw[hC];exact gC (aE e))⟩
   have I5:bw X pins σ (eW H3 s2.heap.objs.size (.lst ys)) s4:=by
    refine I2.call' (ch:=fp) I4'.os ⟨fun b o e n hb hx=>?_,fun b o e n hb hx=>?_,fun b o e n hx=>?_,fun b o e hx=>?_,fun b xs e=>?_,fun b o u e=>?_,fun b ps e=>?_⟩ ?_ I4'.bare fun b hb=>?_
    ·exact I4'.base.keep b o e n hb hx
    ·exact I4'.base.slot b o e n hb hx
    ·rw[cw (ne b o e).1];exact I4'.base.free b o e n hx
    ·exact I4'.base.there b o e hx
    ·have q:=I4'.base.tups b xs e
     rw[cw (eZ q na3)];exact q
    ·have q:=I4'.base.frzs b o u e
     rw[cw (eZ q na3)];exact q
    ·obtain⟨mr,q⟩:=I4'.base.tbls b ps e
     exact⟨mr,by rw[cw (eZ q na3)];exact q⟩
    ·intro b o e
     by_cases hb:b=s2.heap.objs.size
     ·subst hb
      rw[dB]at e;cases e
      exact⟨hz,bJ,ka,rv,pa.1⟩
     ·rw[cw hb]at e
      exact(I4'.hok b o e).stay (fun c u hc q=>q) (fun c q=>by rw[cw (eZ q na3)];exact q) fun c xs q=>by rw[cw (eZ q na3)];exact q
    ·obtain⟨_,g1,_,g3,g4,g5⟩:=f2 b hb
     exact⟨g3,g1,g4,g5⟩
   have lC:s2.heap.objs.size<=G2.objs.size:=by rw[hC];exact iH _
   exact fin s4 G2.objs.size _ m4 _ I5 ⟨hn4,by rw[cw (Ne.symm hDC)];exact I4'.free,mn (aV I2.lt lC),I2.nofs lC,a8 I2.sz lC,fun x c hx z=>(by
    obtain⟨v,o,ho,_⟩:=I2.cell x c hx
    exact absurd (aE ho) (by rw[z];exact jh.mpr lC)),fun p hp z=>(by
    have:=(I2.pin p hp).1
    exact absurd (aE this) (by rw[z];exact jh.mpr lC))⟩ (qn _ na3)
  ·refine ac (dG (T.item #[1] rfl rfl rfl hcalmB i _ s3 _ H3 (fun _ _=>False) I3p (hfpB fr3) jv go) (fun r s4 hr=>?_) fun _ _ z=>z.elim)
   obtain⟨u,hr,h4⟩:=hr
   subst hr
   dsimp only
   refine ac (dG h4 (fun _ s5 h5=>?_) fun _ _ z=>z.elim)
   obtain⟨x,H5,I5,r5,y5,st5,fr5⟩:=h5
   have I5':=I5.pinned (hfpB fr5) (T.obj _ _ st5)
   refine ac (dG (hg _ _ _ _ _ _ s5 _ H5 x u _ I5' r5 (step x H5 y5)) (fun _ s6 h6=>?_) fun _ _ z=>z.elim)
   obtain⟨σ6,H6,I6,q6⟩:=h6
   refine ac (dG (ht _ _ _ _ _ _ s6 σ6 H6 _ I6 q6) (fun ok s7 h7=>?_) fun _ _ z=>z.elim)
   obtain⟨H7,I7,q7⟩:=h7
   have back:∀{H8:Hp} {s8:Shared} {R5:List V} {its':List Value} {k':Nat},bw #[1] [] σ6 H8 s8->(∀b∈fp,∀o,s5.heap.get? b=some o->s8.heap.get? b=some o)->(∀b∈fp,H8 b=none)->H8 s2.heap.objs.size=none ->
     cH R5 its'->s8.heap.get? s2.heap.objs.size=some { cls:=.type "list",data:=.seq its'.toArray k' }->(∃m',m'<n/\W (i+1) m' R5 H8) ->
     ∃m,m<n/\∃i ys H',bw #[1] [] (om cap σ) H' s8/\tn i s8.heap/\(∀b∈fp,H' b=none)/\H' s2.heap.objs.size=none /\
      (∃bJ k,cH ys bJ/\s8.heap.get? s2.heap.objs.size=some { cls:=.type "list",data:=.seq bJ.toArray k })/\W i m ys H':=
    fun{H8 s8 R5 its' k'} I8 kf f8 n8 rv8 e8 ⟨m',hm,w8⟩=>⟨m',hm,i+1,R5,H8,DR rE d7 I2 hfpc I8,T.keep _ _ _ st5 kf,f8,n8,⟨its',k',rv8,e8⟩,w8⟩
   cases ok with
   |false=>
    refine am ⟨rfl,?_⟩
    have q7':∃m',m'<n/\W (i+1) m' ys H7:=by simpa using q7
    have pa:=I7.pin (s2.heap.objs.size,{ cls:=.type "list",data:=.seq bJ.toArray ka }) #[7]
    refine back (I7.pins_of fun p hp=>absurd hp #[7]) (fun b hb o e=>?_) (fun b hb=>?_) pa.2.1 rv pa.1 q7'
    ·exact(I7.pin (b,o) (aW _ (aW _ (i8 hb e)))).1
    ·obtain⟨o,e,d⟩:=T.obj _ _ st5 b hb
     exact(I7.pin (b,o) (aW _ (aW _ (i8 hb e)))).2.1
   |true=>
    rw[aw rfl]at q7
    refine ac (ac (dG (he _ _ _ _ _ _ s7 σ6 H7 _ I7 q7) (fun xv s8 h8=>?_) fun _ _ z=>z.elim))
    obtain⟨y,H8,I8,r8,hzy,q8⟩:=h8
    have pa:=I8.pin (s2.heap.objs.size,{ cls:=.type "list",data:=.seq bJ.toArray ka }) #[7]
    refine ac (vS pa.1 (by rw[<- rv.length];exact hzy) fun h' k' tk e9 sb=>?_)
    refine am (am ⟨rfl,?_⟩)
    have I9:bw #[1] [] σ6 H8 { s8 with heap:=h',toks:=tk }:=
     (bw.pins_of (pins':=[]) I8 fun p hp=>absurd hp #[7]).turned (it:=s2.heap.objs.size) (fun b o hb e=>sb b o hb e) pa.2.1 hDC (.inr (au _)) (fun x c hx z=>by
      rcases both x c hx with q|q
      ·exact jh.mpr (ownhi x c q).2 (by rw[z];omega)
      ·exact bx _ (by have:=cllow x c q;rw[z]at this;exact this)) (fun p hp=>absurd hp #[7])
    refine back I9 (fun b hb o e=>?_) (fun b hb=>?_) pa.2.1 (rv.append (.cons r8 .nil)) e9 q8
    ·exact sb b o (bq (hfpn b hb)) (I8.pin (b,o) (aW _ (aW _ (i8 hb e)))).1
    ·obtain⟨o,e,d⟩:=T.obj _ _ st5 b hb
     exact(I8.pin (b,o) (aW _ (aW _ (i8 hb e)))).2.1
 exact codeAny_compStart_list (loop _ rfl) (T.self _ _ _ _ _ (T.keep _ _ _ cV fun b _ o e=>old b o e) (loop _ rfl))
theorem py:∀(names:List (Str×NameKind)) (n:Nat),(∀y∈names,y.2≠.cell)->cellsFrom n names []=[]
 |[],_,_=>rfl
 |(x,k)::r,n,h=>by
  show(if k==.cell then cellsFrom (n+1) r [(x,n)]else cellsFrom n r [])=[]
  rw[aC (by have:=h (x,k) #[7];simpa using this)]
  exact py r n fun y hy=>h y (by simp[hy])
theorem uT{Qk:VK}(fz:X.calm=true)(uj:closureFor scope X.env=pure cl)(jd:∀x c,cl.lookup x=some c->X.env.cells.lookup x=some c)
  (fA:scope.kind=.function) (o_:∀x∈scope.names,x.2=.local->scope.names.lookup x.1=some .local) (fC:∀y∈scope.names,y.2≠.cell)
  (Ap:∀x,#[6]->∃c,cl.lookup x=some c)
  (rE:∀(i j:Nat),cap[i]?=some (some j)->∃x,nm[i]?=some x/\X.N[j]?=some x/\sg X scope cl x) (d7:cap.length=nm.length)
  (hi:PI X tg iter wi) (hg:∀C s0 H0 fp,PG #[3] tg g) (ht:∀C s0 H0 fp,DQ #[3] iU tc)
  (he:∀C s0 H0 fp,PE #[3] jV te) (hs:∀x,foldedSetIterable iter X.env x=pure x)
  (I:bw X pins σ H s) (h:pq cap wi g tc te σ H Qk) (fin:∀(s4:Shared) (C D:Addr) (m4:Str->Option Value) (Hn:Hp),bw X pins σ Hn s4->xO X pins Hn s4 C m4->Qk (.ref D) Hn->compPost #[2] X.A X.xe use Qv (.ref D) C (.ok .next) s4) :
  wpAny #[2] X.A (comprehension #[4] scope X.env (firstIterPos [⟨tg,iter,iU,0⟩] pos) (newList []) (firstAsync [⟨tg,iter,iU,0⟩]) (firstIter [⟨tg,iter,iU,0⟩] X.env) use) Qv X.xe s:=by
 have nc:∀k,cellsFrom k scope.names []++cl=cl:=fun k=>by rw[py _ _ fC];rfl
 have nx:∀C s0 H0 fp,cG X nm scope cl C s0 H0 fp=bY X nm scope cl C s0 H0 fp:=fun C s0 H0 fp=>by
  have:(fun y=>scope.names.lookup y==some .cell)=fun _=>false:=funext fun y=>by
   rw[bP]
   exact fun e=>fC _ (dL e) rfl
  unfold cG bY
  rw[this]
 exact si fz uj jd fA o_ (fun y hy h=>absurd h (fC y hy)) (fun x _ h=>Ap x h) (fun i j h=>let ⟨x,a,b,d⟩:=rE i j h;⟨x,a,b,d,fun z=>fC _ z rfl⟩) d7 hi
  (fun k C s0 H0 fp=>by rw[nc,nx];exact hg C s0 H0 fp) (fun k C s0 H0 fp=>by rw[nc,nx];exact ht C s0 H0 fp) (fun k C s0 H0 fp=>by rw[nc,nx];exact he C s0 H0 fp) hs I h fin
theorem AK(fz:X.calm=true)(uj:closureFor scope X.env=pure cl)(jd:∀x c,cl.lookup x=some c->X.env.cells.lookup x=some c)
  (fA:scope.kind=.function) (o_:∀x∈scope.names,x.2=.local->scope.names.lookup x.1=some .local) (fC:∀y∈scope.names,y.2≠.cell)
  (Ap:∀x,#[6]->∃c,cl.lookup x=some c)
  (rE:∀(i j:Nat),cap[i]?=some (some j)->∃x,nm[i]?=some x/\X.N[j]?=some x/\sg X scope cl x) (d7:cap.length=nm.length)
  (hi:PI X tg iter wi) (hg:∀C s0 H0 fp,PG #[3] tg g) (ht:∀C s0 H0 fp,DQ #[3] iU tc)
  (he:∀C s0 H0 fp,PE #[3] jV te) (hs:∀x,foldedSetIterable iter X.env x=pure x:=by intro _;rfl) :
  PE X #[4] (pq cap wi g tc te):=by
 intro pins s σ H Q I h
 rw[eval_ListComp]
 exact uT fz uj jd fA o_ fC Ap rE d7 hi hg ht he hs I h fun s4 C D m4 Hn I4 B q=>⟨m4,B.ns,fun h' hs'=>⟨.ref D,Hn,B.off I4 hs',rfl,q⟩⟩
end
noncomputable def tx(l:List Nat):Str:=⟨l.toArray⟩
theorem LY(l:List Nat):(tx l).cps.toList=l:=rfl
theorem jw(l:List Nat):(tx l).length=l.length:=by show l.toArray.size=_;simp
theorem zy(a b:List Nat):tx a++tx b=tx (a++b):=by
 show(⟨a.toArray++b.toArray⟩:Str)=⟨(a++b).toArray⟩
 simp
theorem DS{a b:List Nat}:tx a=tx b↔a=b:=⟨fun h=>by have:=cL (fun z:Str=>z.cps.toList) h;exact this,fun h=>by rw[h]⟩
noncomputable def SF(mj:List V):It:=⟨fun i _=>i<mj.length,fun i H x H'=>H'=H/\mj[i]?=some x,fun i _=>mj.length<=i⟩
theorem zz{w:World}{mj:List V}{Pr:Nat->Value->Prop}{S:Nat->Heap->Prop}{ty:String}
  (W:∀A:Around,A.handled=none->Walks P w A it [it] [it] mj.length Pr S) (hv:∀i v,i<mj.length->Pr i v->∃x,mj[i]?=some x/\bN x v)
  (GR:∀i h,S i h->∃o vs,h.get? it=some o/\o.cls=.type ty/\o.data=.fields vs)
  (Dq:["enumerate","zip","dict_itemiterator","dict_reverseitemiterator","odict_iterator","itertools.zip_longest","itertools.pairwise"].contains ty=false)
  (zg:∀(A:Around) (i:Nat) (s:Shared) (Q:Value->Shared->Prop) (E:Value->Shared->Prop),S i s.heap->Q (.ref it) s->wpAny (model P w) A (pyIter (.ref it)) Q E s) :
  Ca P w K tg (SF mj) [it] it (fun i h=>i<=mj.length/\S i h) where
 mem:=by simp
 obj:=fun i h st b hb=>by
  have e:b=it:=by simpa using hb
  subst e
  obtain⟨o,vs,e,c,d⟩:=GR i h st.2
  exact⟨o,e,fun v z=>by rw[d]at z;cases z⟩
 keep:=fun i h h' st k=>⟨st.1,(W { depth:=0,handled:=none,frames:=none } rfl).frame i h h' st.2 k⟩
 item:=by
  intro X hP hw hK hc i pins s σ H E I hf st hg
  subst hP hw hK
  obtain⟨f0,f1,f2,f3,f4,f5⟩:=hf it #[7]
  refine(W X.A (I.ok.hd hc)).item i s _ _ hg st.2 fun v h' tk hp bL kk=>?_
  have I1:bw X pins σ H { s with heap:=h',toks:=tk }:=I.turned (fun b o hb e=>kk b o (by simpa using hb) e) f0 f1 f3 f4 f5
  obtain⟨x,hx,rx⟩:=hv i v hg hp
  obtain⟨o,vs,e,c,d⟩:=GR _ _ bL
  exact⟨v,rfl,AF (s:={ s with heap:=h',toks:=tk }) e c d Dq ⟨x,H,I1,rx,⟨rfl,hx⟩,⟨hg,bL⟩,fun b hb=>(hf b hb).1⟩⟩
 done:=by
  intro X hP hw hK hc i pins s σ H E I hf st hg
  subst hP hw hK
  obtain⟨f0,f1,f2,f3,f4,f5⟩:=hf it #[7]
  have e:i=mj.length:=gp st.1 hg
  refine(W X.A (I.ok.hd hc)).done s _ _ (e▸st.2) fun h' tk kk=>⟨rfl,I.turned (fun b o hb e=>kk b o (by simpa using hb) e) f0 f1 f3 f4 f5⟩
 self:=fun A i s Q E st h=>zg A i s Q E st.2 h
section
def oH(l:List Nat):List V:=l.map fun c=>.str (tx [c])
def SH(tl:TE):TI:=fun σ H R=>tl σ H fun x H1=>∃l,x=.str (tx l)/\R (SF (oH l)) H1
theorem Cq(i:Nat)(v:Value)(hi:i<(oH l).length)(h:SignAt (tx l) i v):∃x,(oH l)[i]?=some x/\bN x v:=by
 obtain⟨c,u,hc,e⟩:=h
 refine⟨.str (tx [c]),?_,u,e⟩
 unfold oH
 rw[ak]
 have:l[i]?=some c:=by simpa[tx]using hc
 rw[this];rfl
theorem LZ{l:Expr}{tl:TE}(hl:PE X l tl):PI X tg l (SH tl):=by
 intro pins s σ H R I h
 refine gq (hl pins s σ H _ I h) fun v s1 zq=>?_
 obtain⟨x,H1,I1,r1,q1⟩:=zq
 obtain⟨l,e,q⟩:=q1
 subst e
 obtain⟨t,rfl⟩:=r1
 have hn:(tx l).cps.size=(oH l).length:=by unfold oH;simp[tx]
 have fin:∀(ob:Obj) (S:Nat->Heap->Prop) (ty:String),(∀A:Around,A.handled=none->Walks X.prog X.w A s1.heap.objs.size [s1.heap.objs.size] [s1.heap.objs.size] (tx l).cps.size (SignAt (tx l)) S)->S 0 (s1.heap.push ob) ->
   (∀i h,S i h->∃o vs,h.get? s1.heap.objs.size=some o/\o.cls=.type ty/\o.data=.fields vs) ->
   ["enumerate","zip","dict_itemiterator","dict_reverseitemiterator","odict_iterator","itertools.zip_longest","itertools.pairwise"].contains ty=false ->
   (∀(A:Around) (i:Nat) (s:Shared) (Q:Value->Shared->Prop) (E:Value->Shared->Prop),S i s.heap->Q (.ref s1.heap.objs.size) s->wpAny #[2] A (pyIter (.ref s1.heap.objs.size)) Q E s) ->
   Sl X pins σ tg R (.ref s1.heap.objs.size) { s1 with heap:=s1.heap.push ob }:=fun ob S ty W h0 GR Dq zg=>by
  rw[hn]at W
  refine⟨s1.heap.objs.size,[s1.heap.objs.size],_,_,H1,rfl,I1.kept (t':=s1.toks) fun b o e=>ar _ e,zz W (fun i v hi hp=>Cq i v hi hp) GR Dq zg,⟨cJ _,h0⟩,fun b hb=>?_,q⟩
  have e:b=s1.heap.objs.size:=by simpa using hb
  subst e
  exact I1.fpOk (au _) I1.fresh
 cases ha:(tx l).cps.all (· < 128)
 ·exact wpAny_pyIter_wide ha (fin _ _ _ (fun A hA=>Walks.strWide hA _ (tx l) t) ⟨_,aL _ rfl,rfl,rfl⟩ (fun i h st=>by obtain⟨o,a,b,c⟩:=st;exact⟨o,_,a,b,c⟩) #[8] fun A i s Q E st h=>wpAny_pyIter_striter_wide st h)
 ·exact wpAny_pyIter_ascii ha (fin _ _ _ (fun A hA=>Walks.strAscii hA _ (tx l) t) ⟨_,aL _ rfl,rfl,rfl⟩ (fun i h st=>by obtain⟨o,a,b,c⟩:=st;exact⟨o,_,a,b,c⟩) #[8] fun A i s Q E st h=>wpAny_pyIter_striter_ascii st h)
noncomputable def Cr(l:List Nat)(lo hi:Option Int):List Nat:=(l.drop (HT.sIx l.length 0 lo)).take (HT.sIx l.length l.length hi-HT.sIx l.length 0 lo)
theorem xP(l:List Nat)(lo hi:Option Int):(Cr l lo hi).length<=l.length:=by unfold Cr;rw[bf,f7];omega
theorem zA(l:List Nat)(i k:Nat):((List.range k).map fun(m:Nat)=>i+m).filterMap (fun j=>l[j]?)=(l.drop i).take k:=by
 induction k generalizing i with
 |zero=>simp
 |succ k ih=>
  rw[iQ,aF,aH]
  have e:((fun m=>i+m)∘Nat.succ)=fun m=>(i+1)+m:=by funext m;simp[Function.comp];omega
  rw[e]
  by_cases h:i<l.length
  ·rw[fV]
   simp only[jP,ae h]
   rw[ih (i+1),fE h,List.take_succ_cons]
  ·rw[fV]
   have h':l.length<=i:=by omega
   simp only[jP,de h']
   rw[ih (i+1),mw h',mw #[0]]
   simp
theorem JS(v:Int)(n d:Nat):(if (1:Int)>0 then max 0 (min (if v<0 then v+(n:Int)else v) (n:Int))else max (-1) (min (if v<0 then v+(n:Int)else v) ((n:Int)-1)))=((HT.sIx n d (some v):Nat):Int):=by
 rw[aw #[0]]
 show _=(((if v<0 then(v+(n:Int)).toNat else min v.toNat n):Nat):Int)
 by_cases hv:v<0
 ·simp only[aw hv];omega
 ·simp only[aC hv];omega
theorem L0(lo hi:Option Int)(n:Nat):Builtin.Str.strSliceIndices lo hi 1 n=(List.range (HT.sIx n n hi-HT.sIx n 0 lo)).map fun(m:Nat)=>HT.sIx n 0 lo+m:=by
 have key:∀a b:Nat,sliceRange (a:Int) (b:Int) 1=(List.range (b-a)).map fun(m:Nat)=>a+m:=fun a b=>by
  unfold sliceRange
  have e:(if (1:Int)>0 then(if (a:Int)<(b:Int)then((b:Int)-a+1-1)/1 else 0)else(if (a:Int)>b then((a:Int)-b-1-1)/(-1)else 0)).toNat=b-a:=by
   rw[aw #[0]]
   by_cases h:(a:Int)<b
   ·rw[aw h];omega
   ·rw[aC h];omega
  dsimp only
  rw[e]
  refine bb fun k _=>?_
  omega
 unfold Builtin.Str.strSliceIndices
 rw[<- key]
 dsimp only
 congr 1
 ·cases lo with
  |none=>rfl
  |some v=>exact JS v n 0
 ·cases hi with
  |none=>rfl
  |some v=>exact JS v n n
theorem DT(l:List Nat)(lo hi:Option Int):Txt.slice (tx l) lo hi=tx (Cr l lo hi):=by
 unfold Txt.slice
 rw[L0,jw]
 split
 ·rename_i h
  simp only[du,oF,eN,ai,cB]at h
  unfold Cr
  have h1:=HT.sIx_le l.length l.length (au _) hi
  have h2:=HT.sIx_le l.length 0 (cJ _) lo
  by_cases hz:l.length=0
  ·have:l=[]:=List.eq_nil_of_length_eq_zero hz
   subst this;simp
  ·have e0:HT.sIx l.length 0 lo=0:=by omega
   rw[e0,List.drop_zero,cU #[0]]
 ·unfold Cr tx
  have:∀j:Nat,(l.toArray)[j]?=l[j]?:=fun j=>by simp
  simp only[this]
  rw[zA]
def SJ:V->Option Int->Option Int->Hp->VK->Prop:=fun x lo hi H Q=>∃l,x=.str (tx l)/\l.length<=sizeLine/\Q (.str (tx (Cr l lo hi))) H
theorem AL{o:Option Int}(p:IsPart v o):∃q:Option (Int×Tok),v=partValue q/\q.map (·.1)=o:=by
 cases p with
 |none=>exact⟨none,rfl,rfl⟩
 |int i t=>exact⟨some (i,t),rfl,rfl⟩
theorem L3:OY X SJ:=by
 intro pins s σ H x v vl vu lo hi sl Q I rx hs pl pu h
 obtain⟨l,e,hz,q⟩:=h
 subst e
 obtain⟨t,rfl⟩:=rx
 obtain⟨pl',rfl,rfl⟩:=AL pl
 obtain⟨pu',rfl,rfl⟩:=AL pu
 refine⟨"str",_,F.slot_str_getitem.lookup,typeIs_str _ _ _,?_⟩
 refine wpAny_getItem_str_slice (l:=pl') (u:=pu') (st:=none) hs rfl (post_val_or_str ?_)
 have e:=DT l (pl'.map (·.1)) (pu'.map (·.1))
 unfold Txt.slice at e
 show(if ((1:Int)==1&&(Builtin.Str.strSliceIndices (pl'.map (·.1)) (pu'.map (·.1)) 1 (tx l).length).length==(tx l).length)=true then tx l else⟨((Builtin.Str.strSliceIndices (pl'.map (·.1)) (pu'.map (·.1)) 1 (tx l).length).filterMap ((tx l).cps[·]?)).toArray⟩:Str).length<=sizeLine /\
  ∀t' k,EP X pins σ Q (.str (if ((1:Int)==1&&(Builtin.Str.strSliceIndices (pl'.map (·.1)) (pu'.map (·.1)) 1 (tx l).length).length==(tx l).length)=true then tx l else⟨((Builtin.Str.strSliceIndices (pl'.map (·.1)) (pu'.map (·.1)) 1 (tx l).length).filterMap ((tx l).cps[·]?)).toArray⟩:Str) t') { s with toks:=k }
 rw[e,jw]
 exact⟨a8 (xP l _ _) hz,fun t' k=>⟨.str _,H,I.tok k,⟨t',rfl⟩,q⟩⟩
theorem DU(c:Nat)(l:List Nat):(!(Builtin.Str.occurrences (tx l) (tx [c]) 0 (tx l).length 1).isEmpty)=decide (c∈l):=StrLaws.found_one (tx l) c
def O_(Ao:Bool):R2:=fun x y H Q=>∃c l,x=.str (tx [c])/\y=.str (tx l)/\Q (.bl (if Ao then !decide (c∈l)else decide (c∈l))) H
theorem Cs:mF X (compareOp .In) (O_ false):=by
 intro pins s σ H x y v u Q I rx ry h
 obtain⟨c,l,rfl,rfl,q⟩:=h
 exact Ce pins s σ H _ _ v u Q I rx ry ⟨_,_,rfl,rfl,by rw[DU];exact q⟩
theorem vT:mF X (compareOp .NotIn) (O_ true):=by
 intro pins s σ H x y v u Q I rx ry h
 obtain⟨c,l,rfl,rfl,q⟩:=h
 exact vJ pins s σ H _ _ v u Q I rx ry ⟨_,_,rfl,rfl,by rw[DU];exact q⟩
theorem oI:∀{ys:List (List Nat)} {bJ:List Value},cH (ys.map fun l=>V.str (tx l)) bJ->StrsAre bJ (ys.map tx)
 |[],_,r=>by cases r;exact .nil
 |y::ys,_,r=>by
  cases r with
  |cons r rr=>
   obtain⟨t,rfl⟩:=r
   exact .cons _ _ (oI rr)
theorem oJ:∀{bJ:List Value} {ss:List Str},StrsAre bJ ss->cH (ss.map fun z=>V.str z) bJ
 |_,_,.nil=>.nil
 |_,_,.cons y t r=>.cons ⟨t,rfl⟩ (oJ r)
noncomputable def ng(sep:List Nat):List (List Nat)->List Nat
 |[]=>[]
 |[x]=>x
 |x::y::r=>x++sep++ng sep (y::r)
theorem qo:∀ys:List (List Nat),ng [] ys=ys.flatten
 |[]=>rfl
 |[x]=>by simp[ng]
 |x::y::r=>by rw[ng,qo (y::r)];simp
theorem H9(sep:List Nat):∀ys:List (List Nat),Txt.join (tx sep) (ys.map tx)=tx (ng sep ys):=fun ys=>by
 show Builtin.Str.glued (tx sep) (ys.map tx)=_
 rw[StrLaws.glued_eq_join]
 induction ys with
 |nil=>rfl
 |cons x r ih=>
  cases r with
  |nil=>rfl
  |cons y r=>
   show tx x++tx sep++Str.join (tx sep) ((y::r).map tx)=tx (x++sep++ng sep (y::r))
   rw[ih,zy,zy]
def O'(K:Frag):V->List V->Hp->VK->Prop:=fun x vs H Q=>∃(sep:List Nat) (a:Addr) (ys:List (List Nat)),x=.str (tx sep)/\vs=[.ref a]/\qZ K H a (ys.map fun l=>V.str (tx l))/\(ys.map List.length).sum+ys.length*sep.length<=16777216/\Q (.str (tx (ng sep ys))) H
theorem H_:He X "str.join" (O' X.K):=by
 intro pins s σ H x vs v us Q I rx rv h
 obtain⟨sep,a,ys,rfl,rfl,hS,hz,q⟩:=h
 obtain⟨t,rfl⟩:=rx
 obtain⟨u,rfl,ru⟩:=rv.one
 cases ru
 obtain⟨bJ,r,p,_⟩:=I.list hS
 refine join_list p.isList (oI (by simpa using r)) ?_ fun t' k=>?_
 ·rw[aH,jw,ai]
  have e:((fun z:Str=>z.length)∘tx)=List.length:=by funext l;exact jw l
  rw[e];exact hz
 ·rw[H9]
  exact⟨.str _,H,I.tok k,⟨t',rfl⟩,q⟩
end
inductive D where
 |non|bl (b:Bool)|int (i:Int)|str (l:List Nat)|tnil|tcons (d r:D)
 deriving DecidableEq
structure dC(K:Frag)(H H':Hp):Prop where
 t:∀p xs,fO K H p xs->fO K H' p xs
 z:∀b o u,H b=some (.frz o u)->H' b=some (.frz o u)
instance {K:Frag} {H H':Hp}:CoeFun (dC K H H') (fun _=>∀p xs,fO K H p xs->fO K H' p xs):=⟨dC.t⟩
theorem fO.same{K:Frag}(e:nY H H'):dC K H H':=⟨fun p xs h=>by
 rcases h with(h|⟨o,h⟩)|h
 ·exact .inl (.inl (e _ _ h))
 ·exact .inl (.inr ⟨o,e _ _ h⟩)
 ·exact .inr h,fun b o u h=>e _ _ h⟩
theorem cy{p:Addr}(h:H p=none)(o:HO):nY H (eW H p o):=fun b u q=>by rw[cw (eZ q h)];exact q
def Pa(l:Addr)(H H':Hp):Prop:=∀b o,b≠l->H b=some o->H' b=some o
theorem gP{l:Addr}{o:HO}:Pa l H (eW H l o):=fun b u h q=>by rw[cw h];exact q
theorem fO.but{l:Addr}{xs:List V}(e:Pa l H H')(hl:H l=some (.lst xs)):dC K H H':=by
 have lN:∀{p:Addr} {o:HO},H p=some o->(∀zs,o≠.lst zs)->p≠l:=fun{p o} q hn z=>by subst z;rw[hl]at q;cases q;exact hn _ rfl
 refine⟨fun p ys h=>?_,fun b o u h=>e _ _ (lN h #[13]) h⟩
 rcases h with(h|⟨o,h⟩)|h
 ·exact .inl (.inl (e _ _ (lN h #[13]) h))
 ·exact .inl (.inr ⟨o,e _ _ (lN h #[13]) h⟩)
 ·exact .inr h
theorem dC.refl:dC K H H:=⟨fun _ _ h=>h,fun _ _ _ h=>h⟩
theorem dC.trans{H1 H2:Hp}(a:dC K H H1)(b:dC K H1 H2):dC K H H2:=⟨fun p xs h=>b p xs (a p xs h),fun c o u h=>b.z c o u (a.z c o u h)⟩
theorem fO.new{p:Addr}{xs:List V}:fO K (eW H p (.tup xs)) p xs:=fO.of dB
section
variable{o:Expr}{to:TE}{t:TA}{id:String}{r:V->List V->Hp->VK->Prop}
def Ub(r:V->List V->Hp->VK->Prop)(to:TE)(t:TA):TE:=fun σ H Q=>to σ H fun x H1=>(∃l ys,x=.ref l/\H1 l=some (.lst ys))/\t σ H1 fun xs H2=>r x xs H2 Q
def Uc(r:V->List V->Hp->VK->Prop)(to:TE)(t:TA):TE:=fun σ H Q=>to σ H fun x H1=>(∃l,x=.str (tx l))/\t σ H1 fun xs H2=>r x xs H2 Q
theorem DV{x:V}(h:∃l ys,x=.ref l/\H l=some (.lst ys)):RM K "list" x H:=by
 obtain⟨l,ys,rfl,h⟩:=h
 exact .inl ⟨rfl,_,.of h⟩
theorem Ia{x:V}(h:∃l,x=.str (tx l)):RM K "str" x H:=by
 obtain⟨l,rfl⟩:=h
 exact rfl
theorem DW{T:String}{ty:V->Hp->Prop}(Ty:∀x H,ty x H->RM X.K T x H)(pa:PlainAttrs T)(slot:Slot T name id)(Dq:typeOf (.builtin id)=pure (.type "method_descriptor"))(hm:He X id r)(ho:PE X o to)(ha:PA X (e::es) t)
  (p7:attributeBase o name X.env (eval o X.env)=eval o X.env)
  (xf:((backTo dF (starEach (e::es) X.env)).all (fun x=>!x.1)&&(backToKw dF (keywordEach [] X.env)).all (fun x=>x.1.isSome)
   && decide #[16])=true)
  (p5:(gi.endLine==dF.line)=true) (hs:starEach (e::es) X.env=(false,eval e X.env)::starEach es X.env) (mi:(backTo dF (starEach es X.env)).any (·.1)=false) :
  PE X (.Call (.Attribute o name gi) (e::es) [] dF) (fun σ H Q=>to σ H fun x H1=>ty x H1/\t σ H1 fun xs H2=>r x xs H2 Q):=by
 intro pins s σ H Q I h
 refine wpAny_Call_method_late p7 xf p5 rfl (gq (ho pins s σ H _ I h) fun v s1 zq=>?_)
 obtain⟨x,H1,I1,r1,ty,q1⟩:=zq
 obtain⟨h1,h2⟩:=LT I1 r1 (Ty _ _ ty)
 refine⟨T,id,pa,slot,Dq,h1,h2,?_⟩
 have hA:=ha dF pins s1 σ H1 _ I1 q1
 rw[hs]at hA ⊢
 refine iP (by show(false||(backTo dF (starEach es X.env)).any (·.1))=false;rw[mi]<;>rfl) (jr ?_)
 exact gq hA fun us s2 ⟨vs,H2,I2,r2,q2⟩=>hm pins s2 σ H2 x vs v us Q I2 r1 r2 q2
theorem Pc(slot:Slot "list" name id)(Dq:typeOf (.builtin id)=pure (.type "method_descriptor"))(hm:He X id r)(ho:PE X o to)(ha:PA X (e::es) t)
  (p7:attributeBase o name X.env (eval o X.env)=eval o X.env:=by rfl)
  (xf:((backTo dF (starEach (e::es) X.env)).all (fun x=>!x.1)&&(backToKw dF (keywordEach [] X.env)).all (fun x=>x.1.isSome)
   && decide #[16])=true:=by rfl)
  (p5:(gi.endLine==dF.line)=true:=by rfl) (hs:starEach (e::es) X.env=(false,eval e X.env)::starEach es X.env:=by rfl) (mi:(backTo dF (starEach es X.env)).any (·.1)=false:=by rfl) :
  PE X (.Call (.Attribute o name gi) (e::es) [] dF) (Ub r to t):=DW (ty:=fun x H1=>∃l ys,x=.ref l/\H1 l=some (.lst ys)) (fun _ _ h=>DV h) F.plainAttrs_list slot Dq hm ho ha p7 xf p5 hs mi
theorem Pd(slot:Slot "str" name id)(Dq:typeOf (.builtin id)=pure (.type "method_descriptor"))(hm:He X id r)(ho:PE X o to)(ha:PA X (e::es) t)
  (p7:attributeBase o name X.env (eval o X.env)=eval o X.env:=by rfl)
  (xf:((backTo dF (starEach (e::es) X.env)).all (fun x=>!x.1)&&(backToKw dF (keywordEach [] X.env)).all (fun x=>x.1.isSome)
   && decide #[16])=true:=by rfl)
  (p5:(gi.endLine==dF.line)=true:=by rfl) (hs:starEach (e::es) X.env=(false,eval e X.env)::starEach es X.env:=by rfl) (mi:(backTo dF (starEach es X.env)).any (·.1)=false:=by rfl) :
  PE X (.Call (.Attribute o name gi) (e::es) [] dF) (Uc r to t):=DW (ty:=fun x H1=>∃l,x=.str (tx l)) (fun _ _ h=>Ia h) F.plainAttrs_str slot Dq hm ho ha p7 xf p5 hs mi
end
section
variable{t:TA}
def Pe(t:TA):TE:=fun σ H Q=>t σ H fun xs H1=>xs.length<=sizeLine/\∀p H2,H1 p=none->H2=eW H1 p (.tup xs)->Q (.ref p) H2
def Pf(t:TA):TE:=fun σ H Q=>t σ H fun xs H1=>xs.length<=sizeLine/\∀p H2,H1 p=none->H2=eW H1 p (.lst xs)->Q (.ref p) H2
theorem Ib{x1}(h:PA X es t):PE X (.Tuple es x1 pos) (Pe t):=by
 intro pins s σ H Q I hq
 refine wpAny_Tuple_spliced (gq (h pos pins s σ H _ I hq) fun us s1 ⟨xs,H1,I1,r,z,q⟩=>⟨by rw[<- r.length];exact z,?_⟩)
 have hf:H1 s1.heap.objs.size=none:=I1.hok.fresh (au _)
 refine⟨.ref s1.heap.objs.size,eW H1 s1.heap.objs.size (.tup xs),I1.laid (t':=s1.toks) (fun b u e=>ar _ e) (au _) ?_,rfl,q _ _ hf rfl⟩
 exact⟨z,us,r,⟨_,aL _ rfl,rfl,_,rfl⟩⟩
theorem Ic(h:PA X es t):PE X (.List es pos) (Pf t):=by
 intro pins s σ H Q I hq
 refine wpAny_List_spliced (gq (h pos pins s σ H _ I hq) fun us s1 ⟨xs,H1,I1,r,z,q⟩=>⟨by rw[<- r.length];exact z,?_⟩)
 have hf:H1 s1.heap.objs.size=none:=I1.hok.fresh (au _)
 refine⟨.ref s1.heap.objs.size,eW H1 s1.heap.objs.size (.lst xs),I1.laid (t':=s1.toks) (fun b u e=>ar _ e) (au _) ?_,rfl,q _ _ hf rfl⟩
 exact⟨z,us,0,r,aL _ rfl⟩
theorem He.imp{id:String}{r r':V->List V->Hp->VK->Prop}(h:He X id r)(i:∀x xs H Q,r' x xs H Q->r x xs H Q):He X id r':=fun pins s σ H x xs v us Q I rx rv q=>h pins s σ H x xs v us Q I rx rv (i _ _ _ _ q)
theorem iV.imp{f:Value}{r r':List V->Hp->VK->Prop}(h:iV X f r)(i:∀xs H Q,r' xs H Q->r xs H Q):iV X f r':=fun pins s σ H xs us Q I rv q=>h pins s σ H xs us Q I rv (i _ _ _ q)
theorem mF.imp{f:Value->Value->Sem Value}{r r':R2}(h:mF X f r)(i:∀x y H Q,r' x y H Q->r x y H Q):mF X f r':=fun pins s σ H x y v u Q I rx ry q=>h pins s σ H x y v u Q I rx ry (i _ _ _ _ q)
def DY:V->List V->Hp->VK->Prop:=fun x vs H Q=>∃l xs y,x=.ref l/\vs=[y]/\H l=some (.lst xs)/\xs.length<sizeLine/\∀H2,H2=eW H l (.lst (xs++[y]))->Q .non H2
theorem zB:He X "list.append" DY:=He.imp (r:=AI) Ci fun _ _ _ _ ⟨l,xs,y,a,b,c,d,q⟩=>⟨l,xs,y,a,b,c,d,q _ rfl⟩
def DZ(K:Frag):List V->Hp->VK->Prop:=fun xs H Q=>∃p ys,xs=[.ref p]/\qZ K H p ys/\∀l H2,H l=none->H2=eW H l (.tup ys)->Q (.ref l) H2
theorem xQ:iV X (.type "tuple") (DZ X.K):=iV.imp uu fun _ _ _ ⟨p,ys,a,b,q⟩=>⟨p,ys,a,.inl ⟨b,fun l hl=>q l _ hl rfl⟩⟩
def Pg:R2:=fun x y H Q=>∃l b xs zs,x=.ref l/\y=.ref b/\H l=some (.lst xs)/\H b=some (.lst zs)/\xs.length+zs.length<=sizeLine/\∀p H2,H p=none->H2=eW H p (.lst (xs++zs))->Q (.ref p) H2
theorem Id:mF X (binaryOp .Add) Pg:=mF.imp LU fun _ _ _ _ ⟨l,b,xs,zs,h1,h2,h3,h4,h5,q⟩=>⟨l,b,xs,zs,h1,h2,h3,h4,h5,fun p hp=>q p _ hp rfl⟩
end
def D0(T:String):Prop:=T="tuple"\/T="bool"\/T="int"\/T="str"
end L2
namespace L2
end L2
namespace L2
open PySem PySem.Spec PyProof.Rows
structure QE(X:Cx)(e:Expr)(t:TE):Prop where
 h:PE X e t
structure QA(X:Cx)(es:List Expr)(t:TA):Prop where
 h:PA X es t
structure QS(X:Cx)(s:Stmt)(t:TS):Prop where
 h:PS X s t
structure QG(X:Cx)(e:Expr)(t:TG):Prop where
 h:PG X e t
structure QI(X:Cx)(tg it:Expr)(t:TI):Prop where
 h:PI X tg it t
structure Ph(X:Cx)(es:List Expr)(t:TT):Prop where
 h:DQ X es t
structure TR(X:Cx)(f:Value->Value->Sem Value)(r:R2):Prop where
 h:mF X f r
structure JT(X:Cx)(f:Value)(r:List V->Hp->VK->Prop):Prop where
 h:iV X f r
section
variable{a b o:Expr}{ta tb tc to:TE}{t u:TA}{tA Rf:TT}{rest:List Expr}
theorem xR:TR X (binaryOp .LShift) (rI LD fun i j=>.int (i*2^j.toNat)):=⟨DC⟩
variable{st:Stmt}{sr:List Stmt}{ts us:TS}{g:TG}
end
section
variable{g:TG}{tb:TS}{tA:TT}
end
noncomputable def cD(env:Env):List (Str×NameKind)->List (Str×Addr)->List (Str×Addr)
 |[],cs=>cs
 |(n,k)::r,cs=>cD env r (if k==.free then(n,(env.cells.lookup n).getD 0)::cs else cs)
theorem AM(h:∀x∈scope.names,x.2=.free->∃c,env.cells.lookup x.1=some c):closureFor scope env=pure (cD env scope.names []):=by
 unfold closureFor
 have key:∀(ns:List (Str×NameKind)) (cs:List (Str×Addr)),(∀x∈ns,x.2=.free->∃c,env.cells.lookup x.1=some c) ->
   (forIn ns cs fun(x:Str×NameKind) (r:List (Str×Addr))=>if (x.2==NameKind.free)=true then(do let a <- cellOf env x.1;pure (ForInStep.yield ((x.1,a)::r)))else(pure (ForInStep.yield r):Sem _))=pure (cD env ns cs):=by
  intro ns
  induction ns with
  |nil=>intro cs _;rfl
  |cons y r ih=>
   intro cs hc
   obtain⟨n,k⟩:=y
   rw[List.forIn_cons]
   have ihr:=fun cs=>ih cs fun x hx=>hc x (ay _ hx)
   by_cases hk:(k==NameKind.free)=true
   ·obtain⟨c,e⟩:=hc (n,k) aM (jf hk)
    have e2:cellOf env n=pure c:=by unfold cellOf;rw[e]
    show((if (k==NameKind.free)=true then _ else _) >>= _)=pure (cD env r (if (k==NameKind.free)=true then _ else _))
    rw[aw hk,aw hk,e2]
    simp only[pure_bind]
    have e3:(env.cells.lookup n).getD 0=c:=by rw[show env.cells.lookup n=some c from e];rfl
    rw[e3]
    exact ihr _
   ·show((if (k==NameKind.free)=true then _ else _) >>= _)=pure (cD env r (if (k==NameKind.free)=true then _ else _))
    rw[aC hk,aC hk]
    simp only[pure_bind]
    exact ihr _
 have:=key scope.names [] h
 dsimp only
 rw[this];simp only[pure_bind]
theorem lx:∀(ns:List (Str×NameKind)) (cs:List (Str×Addr)),(∀x∈ns,x.2=.free->∃c,env.cells.lookup x.1=some c)->(∀y∈cs,env.cells.lookup y.1=some y.2)->∀y∈cD env ns cs,env.cells.lookup y.1=some y.2
 |[],cs,_,h=>h
 |(n,k)::r,cs,hf,h=>by
  refine lx r _ (fun x hx=>hf x (ay _ hx)) ?_
  by_cases hk:(k==NameKind.free)=true
  ·rw[aw hk]
   intro y hy
   rcases aK.mp hy with rfl|hy
   ·obtain⟨c,e⟩:=hf (n,k) aM (jf hk)
    show env.cells.lookup n=some ((env.cells.lookup n).getD 0)
    rw[show env.cells.lookup n=some c from e];rfl
   ·exact h y hy
  ·rw[aC hk];exact h
theorem sj:∀(ns:List (Str×NameKind)) (cs:List (Str×Addr)) (y:Str×Addr),y∈cs->y∈cD env ns cs
 |[],_,_,h=>h
 |(n,k)::r,cs,y,h=>by
  refine sj r _ y ?_
  split
  ·exact ay _ h
  ·exact h
theorem oK{env:Env}:∀(ns:List (Str×NameKind)) (cs:List (Str×Addr)) (x:Str),(x,NameKind.free)∈ns->∃c,(x,c)∈cD env ns cs
 |[],_,_,h=>by simp at h
 |(n,k)::r,cs,x,h=>by
  rcases aK.mp h with e|h
  ·obtain⟨e1,e2⟩:=nL e
   subst e1;subst e2
   exact⟨_,sj r _ (x,_) (by rw[aw (by rfl:(NameKind.free==NameKind.free)=true)];exact aM)⟩
  ·exact oK r _ x h
theorem oM:∀{l:List (Str×β)} {x:Str} {b:β},(x,b)∈l->∃c,l.lookup x=some c
 |(y,c)::r,x,b,h=>by
  rw[d8]
  cases hx:x==y with
  |true=>exact⟨c,rfl⟩
  |false=>
   rcases aK.mp h with e|h
   ·cases e;simp at hx
   ·exact oM h
theorem nh{env:Env}{g:Str×NameKind->Bool}:∀{names:List (Str×NameKind)} {x:Str},names.lookup x=some .free ->
  (names.map fun y=>if g y then(y.1,NameKind.cell)else y).lookup x=some .cell\/(names.map fun y=>if g y then(y.1,NameKind.cell)else y).lookup x=some .free
 |[],_,h=>by simp at h
 |(n,k)::r,x,h=>by
  rw[d8]at h
  rw[aF]
  have e1:∀y:Str×NameKind,(if g y then(y.1,NameKind.cell)else y).1=y.1:=fun y=>by split<;>rfl
  have e2:∀(y:Str×NameKind) (l:List (Str×NameKind)),(y::l).lookup x=if (x==y.1)=true then some y.2 else l.lookup x:=fun y l=>by
   obtain⟨a,b⟩:=y
   rw[d8]
   cases x==a<;>rfl
  rw[e2,e1]
  cases hx:x==n with
  |true=>
   rw[hx]at h
   cases h
   rw[aw rfl]
   by_cases hg:g (n,.free)=true
   ·rw[aw hg];exact .inl rfl
   ·rw[aC hg];exact .inr rfl
  |false=>
   rw[hx]at h
   rw[aC (by exact bC)]
   exact nh (env:=env) h
noncomputable def uv(dn:List (Str×NameKind))(sn:List (Str×NameKind))(nm:List Str)(cap:List (Option Nat))(N:List Str):Bool:=
 (sn.all fun x=>!(x.2==.local)||sn.lookup x.1==some .local)&&(sn.all fun y=>!(y.2==.cell))&&(sn.all fun x=>!(x.2==.free)||dn.lookup x.1==some .cell)&&(cap.length==nm.length) &&
 ((List.range cap.length).all fun i=>match cap[i]? with
  |some (some j)=>(match nm[i]?,N[j]? with
   |some x,some y=>x==y&&dn.lookup x==some .cell&&sn.lookup x==some .free
   |_,_=>false)
  |_=>true)
structure SL(X:Cx)(scope:Scope)(nm:List Str)(cap:List (Option Nat)):Prop where
 clos:closureFor scope X.env=pure (cD X.env scope.names [])
 cl:∀x c,(cD X.env scope.names []).lookup x=some c->X.env.cells.lookup x=some c
 nms:∀x∈scope.names,x.2=.local->scope.names.lookup x.1=some .local
 cell:∀y∈scope.names,y.2≠.cell
 has:∀x,#[6]->∃c,(cD X.env scope.names []).lookup x=some c
 cp:∀(i j:Nat),cap[i]?=some (some j)->∃x,nm[i]?=some x/\X.N[j]?=some x/\sg X scope (cD X.env scope.names []) x
 len:cap.length=nm.length
theorem L4{nm:List Str}{cap:List (Option Nat)}(hf:∀x,X.env.scope.names.lookup x=some .cell->∃c,X.env.cells.lookup x=some c)(hB:uv X.env.scope.names scope.names nm cap X.N=true):SL X scope nm cap:=by
 simp only[uv,bA,d9,ie,iR,eN,bP]at hB
 obtain⟨⟨⟨⟨b1,b2⟩,b3⟩,b4⟩,b5⟩:=hB
 have has:∀x∈scope.names,x.2=.free->∃c,X.env.cells.lookup x.1=some c:=fun x hx hk=>by
  rcases b3 x hx with z|z
  ·exact absurd hk z
  ·exact hf _ z
 have jd:∀x c,(cD X.env scope.names []).lookup x=some c->X.env.cells.lookup x=some c:=fun x c h=>lx scope.names [] has #[7] (x,c) (dL h)
 have hin:∀x,(x,NameKind.free)∈scope.names->∃c,(cD X.env scope.names []).lookup x=some c:=fun x h=>let ⟨_,q⟩:=oK (env:=X.env) scope.names [] x h;oM q
 have hmap:(relabel scope X.env).names=scope.names.map fun y=>if (y.2==.free&&X.env.scope.kind==.function&&X.env.kindOf y.1==some .cell)then(y.1,NameKind.cell)else y:=by
  show scope.names.map _=_
  refine bb fun y _=>?_
  obtain⟨a,b⟩:=y
  rfl
 have fr:∀x,#[6]->(x,NameKind.free)∈scope.names:=fun x h=>by
  have h':∃k,(x,k)∈(relabel scope X.env).names/\(k=.cell\/k=.free):=by
   rcases h with h|h
   ·exact⟨_,dL h,.inl rfl⟩
   ·exact⟨_,dL h,.inr rfl⟩
  obtain⟨k,hm,hk⟩:=h'
  rw[hmap]at hm
  obtain⟨y,hy,e⟩:=al.mp hm
  obtain⟨a,b⟩:=y
  by_cases hb:b=.free
  ·subst hb
   have:a=x:=by split at e<;>(cases e;rfl)
   subst this;exact hy
  ·rw[aC (by simp[hb])]at e
   cases e
   rcases hk with rfl|rfl
   ·exact absurd rfl (b2 _ hy)
   ·exact absurd rfl hb
 refine⟨AM has,jd,fun x hx hk=>(b1 x hx).resolve_left fun z=>z hk,fun y hy=>b2 y hy,fun x hx=>hin x (fr x hx),fun i j e=>?_,b4⟩
 have hi':i<cap.length:=(aa.mp e).1
 have q:=b5 i (aT.mpr hi')
 rw[e]at q
 dsimp only at q
 cases hx:nm[i]? with
 |none=>rw[hx]at q;simp at q
 |some x=>
  cases hy:X.N[j]? with
  |none=>rw[hx,hy]at q;simp at q
  |some y=>
   rw[hx,hy]at q
   simp only[bA,eN]at q
   obtain⟨⟨rfl,q1⟩,q2⟩:=q
   refine⟨x,rfl,rfl,.inr (.inl q1),(by rw[q1];decide),?_,?_⟩
   ·obtain⟨c,hc⟩:=hin x (dL q2)
    rw[hc,jd _ _ hc]
   ·rw[hmap];exact nh (env:=X.env) q2
theorem L5{pos:Pos}{g:TG}(fz:X.calm=true)
  (fP:X.env.cells=cellsFrom m X.env.scope.names []) (fA:scope.kind=.function) (hB:uv X.env.scope.names scope.names nm cap X.N=true)
  (hi:QI X tg iter wi) (hg:∀cl C s0 H0 fp,QG #[3] tg g) (ht:∀cl C s0 H0 fp,Ph #[3] iU tc)
  (he:∀cl C s0 H0 fp,QE #[3] jV te) (hs:∀x,foldedSetIterable iter X.env x=pure x:=by intro _;rfl) :
  QE X #[4] (pq cap wi g tc te):=by
 have F:=L4 (nm:=nm) (cap:=cap) (fun x z=>by rw[fP];exact iI z) hB
 exact⟨AK fz F.clos F.cl fA F.nms F.cell F.has F.cp F.len hi.h (fun C s0 H0 fp=>(hg _ C s0 H0 fp).h) (fun C s0 H0 fp=>(ht _ C s0 H0 fp).h) (fun C s0 H0 fp=>(he _ C s0 H0 fp).h) hs⟩
def Ie(K:Frag):List V->Hp->VK->Prop:=fun xs H Q=>∃(p:Addr) (ys:List (List Nat)),xs=[.ref p]/\qZ K H p (ys.map fun l=>V.str (tx l))/\ys.length<64 /\
 ∀zs:List (List Nat),zs.Perm ys->sortedS (zs.map tx)=true->∀l H2,H l=none->H2=eW H l (.lst (zs.map fun l=>V.str (tx l)))->Q (.ref l) H2
theorem AN(z:Str):tx z.cps.toList=z:=by cases z;rfl
theorem uw:JT X (.builtin "sorted") (Ie X.K):=⟨by
 intro pins s σ H xs us Q I r h
 obtain⟨p,ys,rfl,hS,h64,q⟩:=h
 obtain⟨u,rfl,ru⟩:=jk r
 cases ru
 obtain⟨bJ,rv,pl,hz⟩:=I.list hS
 have hl:=rv.length
 rw[ai]at hl
 refine sorted_strs (ss:=ys.map tx) pl.isList (oI (by simpa using rv)) #[0] fun out ss' h1 h2 h3=>?_
 obtain⟨ep,hat⟩:=sortedAll_at s.heap bJ out
 have qk:H (s.heap.objs.size+1)=none:=I.hok.fresh (iH _)
 have hmap:(ss'.map fun z=>z.cps.toList).map tx=ss':=by
  rw[aH]
  have:(tx∘fun z:Str=>z.cps.toList)=id:=funext fun z=>AN z
  rw[this,kS]
 have hperm:(ss'.map fun z=>z.cps.toList).Perm ys:=by
  have e:=h2.map fun z:Str=>z.cps.toList
  rw[aH]at e
  have:((fun z:Str=>z.cps.toList)∘tx)=id:=funext fun l=>by simp[tx]
  rw[this,kS]at e
  exact e
 have hvals:cH ((ss'.map fun z=>z.cps.toList).map fun l=>V.str (tx l)) out.toList:=by
  have e:=oJ h1
  rw[<- hmap,aH]at e
  exact e
 refine⟨.ref (s.heap.objs.size+1),_,I.laid (t':=s.toks) (fun b o e=>sortedAll_old e) (iH _) ?_,rfl,q _ hperm (by rw[hmap];exact h3) _ _ qk rfl⟩
 refine⟨?_,out.toList,ep,hvals,hat⟩
 rw[ai,hperm.length_eq]
 exact a8 (dh h64) #[8]⟩
theorem bw.turned2{t':Nat}{e:Addr}(I:bw X pins σ H s)(k:∀b o,b≠e->b≠it->s.heap.get? b=some o->h'.get? b=some o)
  (he:∃o,h'.get? e=some o) (f1:pf X pins H e) (f2:pf X pins H it):bw X pins σ H { s with heap:=h',toks:=t' }:=by
 have nit:∀b u,H b=some u->b≠e/\b≠it:=fun b u q=>⟨fun z=>(by rw[z,f1.1]at q;cases q),fun z=>(by rw[z,f2.1]at q;cases q)⟩
 have nin:∀b,b∉[e,it]->b≠e/\b≠it:=fun b h=>⟨fun z=>h (by simp[z]),fun z=>h (by simp[z])⟩
 refine I.step (g':=s.gens) (d':=s.drawn) (ch:=[e,it]) (fun b hb=>?_) (fun b o _ _ hc q _=>k b o (nin b hc).1 (nin b hc).2 q) (fun b o _ _ hc q _=>⟨o.slots,k b o (nin b hc).1 (nin b hc).2 q⟩) (fun _ _ _ _ n=>n)
  (fun b o hc q=>⟨o,k b o (nin b hc).1 (nin b hc).2 q⟩) (fun _ _ q=>q) (fun _ _ _ q=>q) (fun b ps q=>⟨#[],by rw[q];simp⟩) (fun m hm=>?_) (fun b u q=>?_) I.bare
 ·have z:b=e\/b=it:=by simpa using hb
  rcases z with rfl|rfl
  ·exact⟨f1.2.2.2.1,f1.2.1,f1.2.2.2.2.1,f1.2.2.2.2.2⟩
  ·exact⟨f2.2.2.2.1,f2.2.1,f2.2.2.2.2.1,f2.2.2.2.2.2⟩
 ·obtain⟨o,es,ep,ho,r⟩:=hm
  exact⟨o,es,ep,k _ o (Ne.symm f1.2.1) (Ne.symm f2.2.1) ho,r⟩
 ·refine(I.hok b u q).stay (fun c v hc z=>?_) (fun _ z=>z) fun _ _ z=>z
  rcases hc with y|y
  ·rw[y]at z ⊢;exact k b v (nit b u q).1 (nit b u q).2 z
  ·exact k c v (nit c _ y).1 (nit c _ y).2 z
section
variable{w:World}
theorem ux{t:Addr}{x:Value}(st:s.heap.IsTupleIter it t i)(ht:s.heap.IsTuple t bJ)(hx:bJ[i]?=some x)
  (q:∀g,g.IsTupleIter it t (i+1)->Heap.SameBut it s.heap g->Q x { s with heap:=g }):wpAny #[17] A (Builtin.SmallTypes.nextOf (.ref it)) Q E s:=by
 obtain⟨ob,e1,e2,e3⟩:=id st
 obtain⟨ot,g1,_,nt,g3⟩:=ht
 have T:=st.typeIs
 unfold Builtin.SmallTypes.nextOf
 refine ac (cN (name:=Str.ofString "__next__") T fq (cA fq T jQ ?_ (jF _)))
 show wpAny _ _ (field (.ref it) 0 >>= _) _ _ s
 refine ac (gJ e1 e3 (x:=.ref t) rfl ?_)
 dsimp only
 rw[aC (show ¬ ((Value.ref t==Value.none)=true)from bC)]
 refine ac (gJ e1 e3 (x:=.int i 0) rfl ?_)
 dsimp only
 refine ac (f_ g1 g3 ?_)
 simp only[aG,hx]
 refine ac (kj e1 e3 #[7] (am ⟨x,rfl,am (q _ ?_ (b8 ..))⟩))
 exact⟨_,gr _ e1 (mV (iy e3 _)),(Obj.cls_mapFields ..).trans e2,by rw[iy e3];simp[rawInt]⟩
theorem pz{t:Addr}(hh:A.handled=none)(st:s.heap.IsTupleIter it t i)(ht:s.heap.IsTuple t bJ)(hx:bJ[i]?=none)
  (q:∀g e,Heap.ExtBut it s.heap g->(∃o,g.get? e=some o/\o.cls=.type "StopIteration")->E (.ref e) { s with heap:=g }):wpAny #[17] A (Builtin.SmallTypes.nextOf (.ref it)) Q E s:=by
 obtain⟨ob,e1,e2,e3⟩:=id st
 obtain⟨ot,g1,_,nt,g3⟩:=ht
 have T:=st.typeIs
 unfold Builtin.SmallTypes.nextOf
 refine ac (cN (name:=Str.ofString "__next__") T fq (cA fq T jQ ?_ (jF _)))
 show wpAny _ _ (field (.ref it) 0 >>= _) _ _ s
 refine ac (gJ e1 e3 (x:=.ref t) rfl ?_)
 dsimp only
 rw[aC (show ¬ ((Value.ref t==Value.none)=true)from bC)]
 refine ac (gJ e1 e3 (x:=.int i 0) rfl ?_)
 dsimp only
 refine ac (f_ g1 g3 ?_)
 simp only[aG,hx]
 refine ac (iz (ac (kj e1 e3 #[7] (ac ?_))))
 simp only[newExc,newTuple]
 refine ac (cM (ac (m:=firstArgMember _ _) (wpAny_of_eq (a:=Value.none) (by first|rfl|(simp only[firstArgMember];rfl)) (cM ?_ (by size_fits)))) (by size_fits))
 simp only[raiseNew]
 refine ac (wpAny_handled ?_)
 rw[show A.in1.handled=none from hh]
 exact ac (am (wpAny_throw (q _ _ (((b8 ..).extBut.push _).push _) ⟨_,aL _ rfl,rfl⟩)))
end
theorem D1{w:World}{A:Around}(hh:A.handled=none)(it t:Addr)(lN:t≠it)(bJ:Array Value) :
  Draws prog w A it [it,t] bJ.size (fun i v=>bJ[i]?=some v) (fun i h=>h.IsTupleIter it t i/\h.IsTuple t bJ) where
 live:=fun _ _ st=>let ⟨o,e,_⟩:=st.1;⟨o,e⟩
 frame:=fun _ h h' st k=>⟨st.1.at fun o e=>k it #[7] o e,let ⟨o,e,r⟩:=st.2;⟨o,k t #[7] o e,r⟩⟩
 item:=fun i s Q E hi st q=>ux st.1 st.2 (x:=bJ[i]) (by simp[hi]) fun g a b=>q _ g s.toks (by simp[hi]) ⟨a,st.2.extBut b.extBut lN⟩ b
 done:=fun s Q E st q=>pz hh st.1 st.2 #[7] q
open AutoSeq1 (wpAny_loadPart')
def TU(K:Frag)(a:Addr):It:=
 ⟨fun i H=>∃xs x,fO K H a xs/\xs[i]?=some x,fun i H v H'=>∃p,H p=none/\v=.ref p/\∀xs x,fO K H a xs->xs[i]?=some x->H'=eW H p (.tup [.int i,x]),fun i H=>∃xs,fO K H a xs/\xs.length<=i⟩
theorem Ct{w:World}(a it e:Addr)(TD:e≠it) :
  Ca P w K (.Tuple GP kk pos) (TU K a) [e,it] e (fun i h=>(∃old,IsEnum h e it i old)/\h.IsTupleIter it a i) where
 mem:=by simp
 obj:=fun i h st b hb=>by
  have z:b=e\/b=it:=by simpa using hb
  rcases z with rfl|rfl
  ·obtain⟨old,q⟩:=st.1
   exact⟨_,q,fun v z=>by cases z⟩
  ·obtain⟨o,q,c,d⟩:=st.2
   exact⟨o,q,fun v z=>by rw[d]at z;cases z⟩
 keep:=fun i h h' st k=>⟨let ⟨old,q⟩:=st.1;⟨old,k e #[7] _ q⟩,st.2.at fun o q=>k it #[7] o q⟩
 item:=by
  intro X hP hw hK hc i pins s σ H E I hf st hg
  subst hP hw hK
  obtain⟨xs,x,hq,hx⟩:=hg
  obtain⟨bJ,rv,p,hz⟩:=I.tuple hq
  obtain⟨u,hu,ru⟩:=rv.get hx
  obtain⟨⟨old,he⟩,hit⟩:=st
  have hT:s.heap.IsTuple a bJ.toArray:=p
  obtain⟨oa,ha,hca,_⟩:=id hT
  obtain⟨oi,hi,hci,_⟩:=id hit
  have nai:a≠it:=fun z=>by
   rw[z,hi]at ha;cases ha
   rw[hci]at hca;injection hca with z;exact absurd z #[8]
  have nae:a≠e:=fun z=>by
   rw[z,he]at ha;cases ha
   injection hca with z;exact absurd z #[8]
  have ju:i<bJ.toArray.size:=by
   have:=(aa.mp hu).1
   simpa using this
  refine wpAny_pyNext_enum_itemD (D1 (A:=X.A.in1) (I.ok.hd hc) it a nai bJ.toArray) he ⟨hit,hT⟩ ju TD (by simp[TD,Ne.symm nae]) fun x' g tk qh ho' bL htup hsz hk=>⟨_,rfl,?_⟩
  have ex:x'=u:=by
   have e1:bJ[i]?=some x':=by simpa using qh
   rw[hu]at e1;exact(aU e1).symm
  subst ex
  refine wpAny_letOwnedTupleGo_enum ho' fun g2 Ox R3=>?_
  have qk:H s.heap.objs.size=none:=I.hok.fresh (au _)
  have I1:bw X pins σ (eW H s.heap.objs.size (.tup [.int i,x])) { s with heap:=s.heap.push { cls:=.type "tuple",data:=.seq #[.int i tk,x'] },toks:=tk+1 }:=I.laid (fun b o q=>ar _ q) (au _)
   ⟨by show 2<=sizeLine;decide,[.int i tk,x'],.cons ⟨tk,rfl⟩ (.cons ru .nil),⟨_,aL _ rfl,rfl,_,rfl⟩⟩
  have nf:∀b∈[e,it],b≠s.heap.objs.size:=fun b hb=>by
   have z:b=e\/b=it:=by simpa using hb
   rcases z with rfl|rfl
   ·exact bq (aE he)
   ·exact bq (aE hi)
  have fp:∀b∈[e,it],pf X pins (eW H s.heap.objs.size (.tup [.int i,x])) b:=fun b hb=>by
   obtain⟨f0,f⟩:=hf b hb
   exact⟨by rw[cw (nf b hb)];exact f0,f⟩
  have he2':IsEnum g2 e it ((i:Int)+1) x':=Ox
  have I2:bw X pins σ (eW H s.heap.objs.size (.tup [.int i,x])) { s with heap:=g2,toks:=tk+1 }:=I1.turned2 (t':=tk+1) (fun b o hbe hbi q=>?_) ⟨_,he2'⟩ (fp e #[7]) (fp it #[7])
  ·refine⟨.ref s.heap.objs.size,_,I2,rfl,⟨_,qk,rfl,fun ys y hy zf=>?_⟩,⟨⟨x',by simpa using he2'⟩,bL.1.extBut R3.extBut (Ne.symm TD)⟩,fun b hb=>(fp b hb).1⟩
   have e1:=I.tuple_inj hy hq
   subst e1
   rw[hx]at zf;cases zf;rfl
  ·have q':(s.heap.push { cls:=.type "tuple",data:=.seq #[.int i tk,x'] }).get? b=some o:=q
   refine R3.extBut b o hbe ?_
   by_cases hb:b=s.heap.objs.size
   ·subst hb
    have e1:=aL s.heap (o:={ cls:=.type "tuple",data:=.seq #[.int i tk,x'] }) rfl
    rw[e1]at q';cases q'
    exact htup
   ·rw[kT _ _ _ hb]at q'
    exact hk b o hbe hbi q'
 done:=by
  intro X hP hw hK hc i pins s σ H E I hf st hg
  subst hP hw hK
  obtain⟨xs,hq,hx⟩:=hg
  obtain⟨bJ,rv,p,hz⟩:=I.tuple hq
  obtain⟨⟨old,he⟩,hit⟩:=st
  have hT:s.heap.IsTuple a bJ.toArray:=p
  have hl:=rv.length
  have hT':Shared.TypeIs s (.ref e) "enumerate":=⟨_,he,rfl⟩
  unfold pyNext
  refine ac (wpAny_attempt (cN (name:=Str.ofString "__next__") hT' mW (cA mW hT' F.entry_enumerate_next ?_ (F.args_enumerate_next_1 _))))
  show wpAny _ _ (field (.ref e) 2 >>= _) _ _ _
  refine ac (gJ he rfl (x:=.ref it) rfl (ac (pz (show X.A.in1.handled=none from I.ok.hd hc) hit hT (by simp;omega) fun g y qh hy=>?_)))
  obtain⟨o,ho,jd⟩:=hy
  refine ac (gX (T:="StopIteration") (b:=true) ⟨o,ho,jd⟩ isSubtype_stop (am ⟨rfl,?_⟩))
  obtain⟨f0,f1,f2,f3,f4,f5⟩:=hf it #[7]
  exact I.turned (t':=s.toks) (fun b o hb q=>qh b o hb q) f0 f1 f3 f4 f5
 self:=fun A i s Q E st h=>let ⟨_,q⟩:=st.1;wpAny_pyIter_enum q h
open AutoSeq1 (wpAny_loadPart')
noncomputable abbrev pA(t:Addr):Obj:={ cls:=.type "tuple_iterator",data:=.fields #[.ref t,.int 0 0] }
noncomputable abbrev zC(it:Addr):Obj:={ cls:=.type "enumerate",data:=.fields #[.none,.bool false,.ref it,rawInt 0,.none,.none] }
theorem L6(t:Addr)(bJ:Array Value)(n:Nat)(dc:Option Addr)(sl:Array (Option Value)) :
  Meets (Builtin.«enumerate.__new__» ⟨[.type "enumerate",.ref t],[]⟩) (fun _ R s=>s.heap.get? t=some { cls:=.type "tuple",dict:=dc,data:=.seq bJ n,slots:=sl } /\
   R (.ok (.ret (.ref (s.heap.push (pA t)).objs.size))) { s with heap:=(s.heap.push (pA t)).push (zC s.heap.objs.size) }):=
 .of_wp fun prog w A R s h=>by
  obtain⟨hp,g,d,tk,os⟩:=s
  obtain⟨ht,h⟩:=h
  have sb:=sub_enumerate
  have hT:Heap.IsTuple (Shared.heap ⟨hp,g,d,tk,os⟩) t bJ:=⟨_,ht,rfl,n,rfl⟩
  wp_walk using bv ht
  refine wpAny_stack_any fun st=>am ?_
  split
  ·rename_i c _ _ _ _ _
   cases(c==Value.type "enumerate")<;>(wp_walk using bv ht,kg hT;exact⟨_,rfl,h⟩)
  ·wp_walk using bv ht,kg hT
   exact⟨_,rfl,h⟩
section
variable{w:World}
theorem uy{t:Addr}(hT:s.heap.IsTuple t bJ)
  (q:∀g,IsEnum g (s.heap.objs.size+1) s.heap.objs.size 0 .none->g.IsTupleIter s.heap.objs.size t 0->(∀b o,s.heap.get? b=some o->g.get? b=some o)->Q (.ref (s.heap.objs.size+1)) { s with heap:=g }) :
  wpAny #[17] A (call (.type "enumerate") [.ref t]) Q E s:=by
 obtain⟨⟨c,dc,dt,sl⟩,ht,hc,n,hd⟩:=hT
 obtain rfl:c=.type "tuple":=hc
 obtain rfl:dt=.seq bJ n:=hd
 refine callType_new F.called_enumerate #[8] (F.typeCall_enumerate_1 _) (F.newCall_enumerate_1 _) (fun ob=>F.args_object_init_2 ob _) F.entry_enumerate_new (L6 t bJ n dc sl) ⟨ht,?_⟩
 have z:(s.heap.push (pA t)).objs.size=s.heap.objs.size+1:=f9 ..
 show _/\_
 rw[z]
 have e1:IsEnum ((s.heap.push (pA t)).push (zC s.heap.objs.size)) (s.heap.objs.size+1) s.heap.objs.size 0 .none:=by
  have y:=aL (s.heap.push (pA t)) (o:=zC s.heap.objs.size) rfl
  rw[z]at y;exact y
 exact⟨⟨_,e1,rfl⟩,q _ e1 ⟨_,ar _ (aL _ rfl),rfl,rfl⟩ fun b o y=>ar _ (ar _ y)⟩
end
section
def SM(K:Frag)(ta:TA):TI:=fun σ H R=>ta σ H fun vs H1=>∃a,vs=[.ref a]/\(∃xs,fO K H1 a xs)/\R (TU K a) H1
theorem D2{a:Expr}{ta:TA}{p pos tp:Pos}{GP:List Expr}{kk:Nat}(hm:X.mg "enumerate"=none)(ha:QA X [a] ta)(hg:Gl X "enumerate":=by rfl)(hs:starEach [a] X.env=[(false,eval a X.env)]:=by rfl) :
  QI X (.Tuple GP kk tp) (.Call (.Name "enumerate" p) [a] [] pos) (SM X.K ta):=⟨by
 intro pins s σ H R I h
 refine Call_ (ql I hg hm boot_enumerate (gz (gq (ha.h pos pins s σ H _ I h) fun us s1 ⟨vs,H1,I1,r1,q1⟩=>?_) hs rfl))
 obtain⟨t,e,⟨xs,hq⟩,q⟩:=q1
 subst e
 obtain⟨u,rfl,ru⟩:=jk r1
 cases ru
 obtain⟨bJ,rv,pt,hz⟩:=I1.tuple hq
 refine uy (show s1.heap.IsTuple t bJ.toArray from pt) fun g e1 e2 kp=>?_
 refine wpAny_pyIter_enum e1 ?_
 refine⟨s1.heap.objs.size+1,[s1.heap.objs.size+1,s1.heap.objs.size],_,_,H1,rfl,I1.kept (t':=s1.toks) kp,Ct t _ _ (Nat.succ_ne_self _),⟨⟨_,e1⟩,e2⟩,fun b hb=>?_,q⟩
 have z:b=s1.heap.objs.size+1\/b=s1.heap.objs.size:=by simpa using hb
 rcases z with rfl|rfl
 ·exact I1.fpOk (iH _) (I1.hok.fresh (iH _))
 ·exact I1.fpOk (au _) (I1.hok.fresh (au _))⟩
end
section
variable{g:TG}{H1:Hp}{Q:VK}
end
section
variable{w:World}
end
section
variable{w:World}{R:Result->Shared->Prop}{I:Addr}{wr:List Addr}{P:Nat->Value->Prop}{St:Nat->Heap->Prop}
end
section
variable{w:World}
end
section
end
section
variable{w:World}
end
section
variable{w:World}
end
section
variable{w:World}
end
section
variable{w:World}
end
section
variable{w:World}
end
section
variable{w:World}
end
theorem bw.kept2{d':Drawn}(I:bw X pins σ H s)(k:∀b o,s.heap.get? b=some o->h'.get? b=some o):bw X pins σ H { s with heap:=h',drawn:=d',toks:=t' }:=
 I.step (g':=s.gens) (ch:=[]) (fun _ z=>nomatch z) (fun b o _ _ _ e _=>k b o e) (fun b o _ _ _ e _=>⟨o.slots,k b o e⟩) (fun _ _ _ _ n=>n) (fun b o _ e=>⟨o,k b o e⟩) (fun _ _ e=>e) (fun _ _ _ e=>e) (fun b ps e=>⟨#[],by rw[e];simp⟩)
  (fun m hm=>let ⟨o,es,ep,ho,r⟩:=hm;⟨o,es,ep,k _ o ho,r⟩) (I.hok.kept k) I.bare
def SN(K:Frag):List V->Hp->VK->Prop:=fun xs H Q=>∃(p:Addr) (bs:List Bool),xs=[.ref p]/\qZ K H p (bs.map V.bl)/\Q (.bl (bs.all id)) H
theorem Pi(hc:X.calm=true:=by rfl):JT X (.builtin "all") (SN X.K):=⟨by
 intro pins s σ H xs us Q I r h
 obtain⟨p,bs,rfl,hS,q⟩:=h
 obtain⟨u,rfl,ru⟩:=jk r
 cases ru
 obtain⟨bJ,rv,pl,hz⟩:=I.list hS
 have hh:=I.ok.hd hc
 have hl:s.heap.IsList p bJ.toArray:=pl.isList
 have ju:p<s.heap.objs.size:=by obtain⟨o,ho,_⟩:=hl;exact aE ho
 have d7:bJ.toArray.size=bs.length:=by have:=rv.length;rw[ai]at this;simpa using this.symm
 refine call_all_walk (wpAny_pyIter_list hl ?_)
 refine⟨_,_,_,_,_,_,fun i=>bs.getD i true,rfl,Walks.list (A:=X.A.in1) (by simpa using hh) _ p (bq ju) bJ.toArray,⟨⟨_,aL _ rfl,rfl,rfl⟩,hl.at fun o e=>ar _ e⟩,?_,fun h' tk kp=>?_⟩
 ·intro i v s Q E hP hQ
  have hi:bJ[i]?=some v:=by simpa using hP
  have ju:i<bs.length:=by
   have:=(aa.mp hi).1
   rw[<- d7];simpa using this
  have hx:(bs.map V.bl)[i]?=some (.bl bs[i]):=by rw[ak,ae ju];rfl
  obtain⟨u,hu,ru⟩:=rv.get hx
  rw[hi]at hu
  obtain rfl:v=.bool bs[i]:=(aU hu).trans ru
  refine cZ ?_
  have e:bs.getD i true=bs[i]:=by rw[aD,ae ju];rfl
  rw[<- e];exact hQ
 ·have e:(List.range bJ.toArray.size).all (fun i=>bs.getD i true)=bs.all id:=by
   rw[d7]
   conv=>rhs;rw[<- range_getD bs true]
   rw[qc];rfl
  rw[e]
  refine⟨.bl _,H,I.kept (t':=tk) fun b o eb=>kp b o (fun hm=>?_) (ar _ eb),rfl,q⟩
  rw[bj]at hm
  exact absurd (aE eb) (by rw[hm];exact bx _)⟩
section
variable{w:World}
end
section
variable{g:TG}
theorem zD{x0:Str}{p0 p1:Pos}{gx:TG}(Oh:PG X (.Name x0 p0) gx)(Oe:swapsWith #[4] (some (.Name x0 p0)) p1.line X.env=pure true)(fz:X.calm=true)(uj:closureFor scope X.env=pure cl)(jd:∀x c,cl.lookup x=some c->X.env.cells.lookup x=some c)
  (fA:scope.kind=.function) (o_:∀x∈scope.names,x.2=.local->scope.names.lookup x.1=some .local) (fC:∀y∈scope.names,y.2≠.cell)
  (Ap:∀x,#[6]->∃c,cl.lookup x=some c)
  (rE:∀(i j:Nat),cap[i]?=some (some j)->∃x,nm[i]?=some x/\X.N[j]?=some x/\sg X scope cl x) (d7:cap.length=nm.length)
  (hi:PI X tg iter wi) (hg:∀C s0 H0 fp,PG #[3] tg g) (ht:∀C s0 H0 fp,DQ #[3] iU tc)
  (he:∀C s0 H0 fp,PE #[3] jV te) (hs:∀x,foldedSetIterable iter X.env x=pure x:=by intro _;rfl) :
  PS X (.Assign [.Name x0 p0] #[4] p1) (HB (pq cap wi g tc te) gx):=by
 intro pins s σ H D I h
 rw[exec_Assign_Name_used _ _ _ _ Oe]
 suffices main:wpAny #[2] X.A (comprehension #[4] scope X.env (firstIterPos [⟨tg,iter,iU,0⟩] pos) (newList []) (firstAsync [⟨tg,iter,iU,0⟩]) (firstIter [⟨tg,iter,iU,0⟩] X.env) (some (assign (.Name x0 p0) X.env))) (fun _ s'=>SP X pins D .next s') X.xe s from
  ac (lf (ac (ac (dG main (fun _ s' h=>am (am h)) fun _ _ z=>z))))
 refine uT fz uj jd fA o_ fC Ap rE d7 hi hg ht he hs I h fun s4 C D m4 Hn I4 B q=>?_
 obtain⟨oC,es,ep,hoC,hdC,hrC⟩:=B.ns
 refine dG (Oh _ s4 σ _ (.ref D) (.ref D) _ (I4.pins_of (pins':=pins++[(C,oC)]) fun p hp=>?_) rfl q) (fun _ s5 h5=>?_) fun _ _ z=>z
 ·rcases a6.mp hp with z|z
  ·exact I4.pin p (aW _ z)
  ·have e:p=(C,oC):=by simpa using z
   subst e
   exact⟨hoC,B.fr,B.nl,B.nf,fun v z=>by rw[hdC]at z;cases z⟩
 obtain⟨σ',H',I6,nx⟩:=h5
 have pC:=I6.pin (C,oC) (aW _ (aW _ (bj.mpr rfl)))
 have I7:bw X pins σ' H' s5:=I6.pins_of fun p hp=>I6.pin p (aW _ (cP _ hp))
 have B7:xO X pins H' s5 C m4:=⟨⟨oC,es,ep,pC.1,hdC,hrC⟩,pC.2.1,B.nl,B.nf,B.hi,B.nc,B.np⟩
 exact⟨m4,B7.ns,fun h' hs'=>⟨σ',H',B7.off I7 hs',nx⟩⟩
end
theorem zE{x0:Str}{p0 p1:Pos}{gx:TG}{pos:Pos}{g:TG}(Oh:QG X (.Name x0 p0) gx)(fz:X.calm=true)
  (fP:X.env.cells=cellsFrom m X.env.scope.names []) (fA:scope.kind=.function) (hB:uv X.env.scope.names scope.names nm cap X.N=true)
  (hi:QI X tg iter wi) (hg:∀cl C s0 H0 fp,QG #[3] tg g) (ht:∀cl C s0 H0 fp,Ph #[3] iU tc)
  (he:∀cl C s0 H0 fp,QE #[3] jV te) (hs:∀x,foldedSetIterable iter X.env x=pure x:=by intro _;rfl) (Oe:swapsWith #[4] (some (.Name x0 p0)) p1.line X.env=pure true:=by first|rfl|kernel_rfl) :
  QS X (.Assign [.Name x0 p0] #[4] p1) (HB (pq cap wi g tc te) gx):=by
 have F:=L4 (nm:=nm) (cap:=cap) (fun x z=>by rw[fP];exact iI z) hB
 exact⟨zD Oh.h Oe fz F.clos F.cl fA F.nms F.cell F.has F.cp F.len hi.h (fun C s0 H0 fp=>(hg _ C s0 H0 fp).h) (fun C s0 H0 fp=>(ht _ C s0 H0 fp).h) (fun C s0 H0 fp=>(he _ C s0 H0 fp).h) hs⟩
open AutoSeq1 (wpAny_loadPart')
theorem D3(l b:Addr)(i1 i2:Array Value)(n1 n2:Nat)(d1 d2:Option Addr)(s1 s2:Array (Option Value))(h0:i1.isEmpty=true) :
  Meets (Builtin.«tuple.__add__» ⟨[.ref l,.ref b],[]⟩) (fun _ R s=>s.heap.get? l=some { cls:=.type "tuple",dict:=d1,data:=.seq i1 n1,slots:=s1 }/\s.heap.get? b=some { cls:=.type "tuple",dict:=d2,data:=.seq i2 n2,slots:=s2 }/\R (.ok (.ret (.ref b))) s):=
 .of_wp fun prog w A R s h=>by
  obtain⟨hp,g,d,tk,os⟩:=s
  obtain⟨e1,e2,h⟩:=h
  have a2:=PyProof.Rows.sub_tuple_tuple
  wp_walk using bv e1,bv e2
  exact⟨_,rfl,h⟩
def Pj(K:Frag):R2:=fun x y H Q=>∃a b xs ys,x=.ref a/\y=.ref b/\fO K H a xs/\fO K H b ys/\xs.length+ys.length<=sizeLine/\∀p H2,nY H H2->fO K H2 p (xs++ys)->Q (.ref p) H2
theorem L7:TR X (binaryOp .Add) (Pj X.K):=⟨by
 intro pins s σ H x y v u Q I rx ry h
 obtain⟨a,b,xs,ys,rfl,rfl,ha,hb,hz,q⟩:=h
 by_cases hx:xs=[]
 ·subst hx
  cases rx
  cases ry
  obtain⟨bJ,r1,p1,_⟩:=I.tuple ha
  obtain⟨its2,r2,p2,_⟩:=I.tuple hb
  have e1:bJ=[]:=r1.nil_iff.mpr rfl
  obtain⟨⟨c1,d1,g1,l1⟩,f1,hc1,n1,R7⟩:=id p1
  obtain⟨⟨c2,d2,g2,l2⟩,f2,hc2,n2,Hk⟩:=id p2
  simp only at hc1 R7 hc2 Hk
  subst hc1 R7 hc2 Hk
  refine p8 ⟨_,f1,rfl⟩ ⟨_,f2,rfl⟩ lO oD PySem.F.slot_tuple_add PySem.F.entry_tuple_add (PySem.F.args_tuple_add_2 _ _) (D3 a b bJ.toArray its2.toArray n1 n2 d1 d2 l1 l2 (by rw[e1];rfl)) ⟨f1,f2,?_⟩
  exact⟨.ref b,H,I,rfl,q b H (nY.refl H) hb⟩
 ·exact HK pins s σ H _ _ v u Q I rx ry ⟨a,b,xs,ys,rfl,rfl,ha,hb,hx,hz,fun e=>q a H (nY.refl H) (by rw[e,bO];exact ha),fun _ p hp=>q p _ (cy hp _) (fO.of dB)⟩⟩
inductive W where
 |non|bl (b:Bool)|int (i:Int)|str (l:List Nat)|tup (ws:List W)|loc (n:Nat)
inductive DK where
 |i (z:Int)|s (l:List Nat)
deriving DecidableEq
def DK.key:DK->f'
 |.i z=>.inl z
 |.s l=>.inr (tx l)
inductive KX where
 |bo (b:Bool)|fl (ks:List Int)|pr (i:Int) (ks:List Int)
deriving DecidableEq
noncomputable def KX.w:KX->W
 |.bo b=>.bl b
 |.fl ks=>.tup (ks.map W.int)
 |.pr i ks=>.tup [.int i,.tup (ks.map W.int)]
noncomputable def D4(ks:List Int):Int:=reduceHash (Builtin.Tuple.tupleHashOf (ks.map hashInt))
def KX.hash:KX->Int
 |.bo b=>hashInt (if b then 1 else 0)
 |.fl ks=>D4 ks
 |.pr i ks=>reduceHash (Builtin.Tuple.tupleHashOf [hashInt i,D4 ks])
inductive ah where
 |lst (ws:List W)
 |ro (ws:List W)
 |exc (c:Str)
 |dct (kvs:List (DK×W))
 |tab (P:Addr) (pos:Pos) (q:Str)
 |rod (kvs:List (DK×W))
 |dcx (kvs:List (KX×W))
 |rox (kvs:List (KX×W))
 |obj (c:Str) (fs:List (Str×W))
 |pin (k:Bool) (c:Addr) (o:Obj) (w:W)
 |gone
noncomputable abbrev kE:Nat:=1000000
theorem jx(h:n<=kE):n<=sizeLine:=a8 h #[8]
theorem L8(h:n<=kE):n<sizeLine:=iu h #[8]
inductive R(α:Type) where
 |ok (a:α) (st:List ah)
 |ex (c:Str) (st:List ah)
 |bad
end L2
variable{kvs:List (L2.KX×L2.W)}{ws cws:List L2.W}{bL st1 S:List L2.ah}{F G:List L2.W->List L2.ah->L2.R L2.W}{ck:Option (Nat×List L2.W)}
namespace L2
open PySem PySem.Spec PyProof.Rows
noncomputable def R.bind:R α->(α->List ah->R β)->R β
 |.ok a st,k=>k a st
 |.ex c st,_=>.ex c st
 |.bad,_=>.bad
@[simp] theorem R.bind_ok{α β:Type}(a:α)(st:List ah)(k:α->List ah->R β):(R.ok a st).bind k=k a st:=rfl
@[simp] theorem R.bind_ex{α β:Type}(c:Str)(st:List ah)(k:α->List ah->R β):(R.ex c st:R α).bind k=.ex c st:=rfl
@[simp] theorem R.bind_bad{α β:Type}(k:α->List ah->R β):(R.bad:R α).bind k=.bad:=rfl
noncomputable abbrev cu:=List (Option W)
inductive RS where
 |nx (ρ:cu) (st:List ah)|rt (w:W) (st:List ah)|bk (ρ:cu) (st:List ah)|ct (ρ:cu) (st:List ah)
 |ex (c:Str) (ρ:cu) (st:List ah)|bad
abbrev FE:=cu->List ah->R W
abbrev FT:=cu->List ah->R Bool
abbrev FA:=cu->List ah->R (List W)
abbrev FS:=cu->List ah->RS
section
variable(K:Frag)
mutual
def be(μ:List Addr)(H:Hp):W->V->Prop
 |.non,v=>v=.non
 |.bl b,v=>v=.bl b
 |.int i,v=>v=.int i
 |.str l,v=>v=.str (tx l)
 |.tup ws,v=>∃p vs,v=.ref p/\fO K H p vs/\RelWs μ H ws vs
 |.loc n,v=>∃a,μ[n]?=some a/\v=.ref a
def RelWs(μ:List Addr)(H:Hp):List W->List V->Prop
 |[],vs=>vs=[]
 |w::ws,vs=>∃x xs,vs=x::xs/\be μ H w x/\RelWs μ H ws xs
end
end
theorem pre_get(h:μ <+: μ')(e:μ[n]?=some a):μ'[n]?=some a:=by
 obtain⟨t,rfl⟩:=h
 rw[av (aa.mp e).1];exact e
section
mutual
theorem be.mono(h:μ <+: μ')(e:dC K H H'):∀{w:W} {v:V},be K μ H w v->be K μ' H' w v
 |.non,_,r=>by unfold be at r ⊢;exact r
 |.bl _,_,r=>by unfold be at r ⊢;exact r
 |.int _,_,r=>by unfold be at r ⊢;exact r
 |.str _,_,r=>by unfold be at r ⊢;exact r
 |.tup _,_,r=>by unfold be at r ⊢;obtain⟨p,vs,a,b,c⟩:=r;exact⟨p,vs,a,e _ _ b,RelWs.mono h e c⟩
 |.loc _,_,r=>by unfold be at r ⊢;obtain⟨a,b,c⟩:=r;exact⟨a,pre_get h b,c⟩
theorem RelWs.mono(h:μ <+: μ')(e:dC K H H'):∀{ws:List W} {vs:List V},RelWs K μ H ws vs->RelWs K μ' H' ws vs
 |[],_,r=>by unfold RelWs at r ⊢;exact r
 |_::_,_,r=>by unfold RelWs at r ⊢;obtain⟨x,xs,a,b,c⟩:=r;exact⟨x,xs,a,be.mono h e b,RelWs.mono h e c⟩
end
theorem RelWs.nilI:RelWs K μ H [] []:=by unfold RelWs;rfl
theorem RelWs.consI{w:W}{x:V}{xs:List V}(a:be K μ H w x)(b:RelWs K μ H ws xs):RelWs K μ H (w::ws) (x::xs):=by unfold RelWs;exact⟨x,xs,rfl,a,b⟩
theorem RelWs.nilE(h:RelWs K μ H [] vs):vs=[]:=by unfold RelWs at h;exact h
theorem RelWs.consE{w:W}(h:RelWs K μ H (w::ws) vs):∃x xs,vs=x::xs/\be K μ H w x/\RelWs K μ H ws xs:=by unfold RelWs at h;exact h
theorem RelWs.pr:∀{ws:List W} {vs:List V},RelWs K μ H ws vs↔Paired (fun w v=>be K μ H w v) ws vs
 |[],vs=>⟨fun h=>by rw[h.nilE];exact .nil,fun h=>by cases h;exact .nilI⟩
 |w::ws,vs=>⟨fun h=>by obtain⟨x,xs,rfl,a,b⟩:=h.consE;exact .cons a (RelWs.pr.mp b),fun h=>by cases h with|cons a b=>exact .consI a (RelWs.pr.mpr b)⟩
theorem RelWs.len(h:RelWs K μ H ws vs):ws.length=vs.length:=Paired.length (RelWs.pr.mp h)
theorem RelWs.app:∀{as:List W} {xs:List V} {bs:List W} {ys:List V},RelWs K μ H as xs->RelWs K μ H bs ys->RelWs K μ H (as++bs) (xs++ys)
 |[],xs,bs,ys,a,b=>by rw[a.nilE];exact b
 |w::as,xs,bs,ys,a,b=>by obtain⟨x,xs,rfl,c,d⟩:=a.consE;exact .consI c (RelWs.app d b)
theorem RelWs.get:∀{ws:List W} {vs:List V} {i:Nat} {w:W},RelWs K μ H ws vs->ws[i]?=some w->∃v,vs[i]?=some v/\be K μ H w v
 |[],_,_,_,_,e=>by simp at e
 |x::ws,vs,0,w,h,e=>by obtain⟨y,ys,rfl,a,b⟩:=h.consE;simp at e;subst e;exact⟨y,rfl,a⟩
 |x::ws,vs,i+1,w,h,e=>by obtain⟨y,ys,rfl,a,b⟩:=h.consE;simpa using RelWs.get (i:=i) b (by simpa using e)
theorem RelWs.take:∀{ws:List W} {vs:List V} (n:Nat),RelWs K μ H ws vs->RelWs K μ H (ws.take n) (vs.take n)
 |_,_,0,_=>by simp only[List.take_zero];exact .nilI
 |[],vs,n+1,h=>by rw[h.nilE];exact .nilI
 |x::ws,vs,n+1,h=>by obtain⟨y,ys,rfl,a,b⟩:=h.consE;exact .consI a (RelWs.take n b)
theorem RelWs.drop:∀{ws:List W} {vs:List V} (n:Nat),RelWs K μ H ws vs->RelWs K μ H (ws.drop n) (vs.drop n)
 |_,_,0,h=>h
 |[],vs,n+1,h=>by rw[h.nilE];exact .nilI
 |x::ws,vs,n+1,h=>by obtain⟨y,ys,rfl,a,b⟩:=h.consE;exact RelWs.drop n b
theorem be.intE{i:Int}{v:V}(h:be K μ H (.int i) v):v=.int i:=by unfold be at h;exact h
theorem be.blE{b:Bool}{v:V}(h:be K μ H (.bl b) v):v=.bl b:=by unfold be at h;exact h
theorem be.nonE{v:V}(h:be K μ H .non v):v=.non:=by unfold be at h;exact h
theorem be.strE{v:V}(h:be K μ H (.str l) v):v=.str (tx l):=by unfold be at h;exact h
theorem be.tupE{v:V}(h:be K μ H (.tup ws) v):∃p vs,v=.ref p/\fO K H p vs/\RelWs K μ H ws vs:=by unfold be at h;exact h
theorem be.locE{v:V}(h:be K μ H (.loc n) v):∃a,μ[n]?=some a/\v=.ref a:=by unfold be at h;exact h
theorem be.int{i:Int}:be K μ H (.int i) (.int i):=by unfold be;rfl
theorem be.bl{i:Bool}:be K μ H (.bl i) (.bl i):=by unfold be;rfl
theorem be.non:be K μ H .non .non:=by unfold be;rfl
theorem be.str:be K μ H (.str l) (.str (tx l)):=by unfold be;rfl
theorem be.tupI{p:Addr}(a:fO K H p vs)(b:RelWs K μ H ws vs):be K μ H (.tup ws) (.ref p):=by unfold be;exact⟨p,vs,rfl,a,b⟩
theorem be.locI(e:μ[n]?=some a):be K μ H (.loc n) (.ref a):=by unfold be;exact⟨a,e,rfl⟩
end
noncomputable def Pk(a:Addr)(C:Value):HO:=.ext fun h=>∃o vs,h.get? a=some o/\o.cls=C/\o.data=.fields vs
noncomputable def iW(b:Addr)(q:Str):HO:=.ext fun h=>∃o vs t,h.get? b=some o/\o.data=.fields vs/\vs[1]?=some (.str q t)
def RN(K:Frag)(H:Hp)(a:Addr)(xs:List V):Prop:=
 (∃o,H a=some (.frz o (.lst xs)))\/∃(o:Obj) (bJ:Array Value) (n:Nat),K.lookup a=some o/\o.cls=.type "list"/\o.dict=none/\o.data=.seq bJ n/\bJ.size<=sizeLine/\cH xs bJ.toList
theorem RN.sq{xs:List V}(h:RN K H a xs):qZ K H a xs:=by
 rcases h with⟨o,h⟩|h
 ·exact .inl (.inr ⟨o,h⟩)
 ·exact .inr h
noncomputable def ah.isRo:ah->Bool
 |.ro _=>true
 |.gone=>true
 |_=>false
def DX(a:Addr)(es:List DictEntry):Heap->Prop:=fun h=>∃o ep,h.get? a=some o/\o.ExactDict/\o.data=.dict es.toArray ep
noncomputable abbrev JU(a:Addr)(es:List DictEntry):HO:=.ext (DX a es)
def pB(K:Frag)(μ:List Addr)(H:Hp)(p:KX×W)(e:DictEntry):Prop:=e.hash=p.1.hash/\(∃v,be K μ H p.1.w v/\bN v e.key)/\∃v,be K μ H p.2 v/\bN v e.val
noncomputable def ly(a:Addr)(o:Obj):HO:=.ext fun h=>h.get? a=some o
def kK(K:Frag)(mg:Str->Option Value)(μ:List Addr)(H:Hp):ah->Addr->Prop
 |.lst ws,a=>∃vs,H a=some (.lst vs)/\RelWs K μ H ws vs
 |.ro ws,a=>∃vs,RN K H a vs/\RelWs K μ H ws vs
 |.exc c,a=>∃C,mg c=some C/\H a=some (Pk a C)
 |.dct kvs,a=>∃vs,H a=some (.dK ((kvs.map fun p=>p.1.key).zip vs))/\RelWs K μ H (kvs.map fun p=>p.2) vs
 |.rod kvs,a=>∃vs o,H a=some (.frz o (.dK ((kvs.map fun p=>p.1.key).zip vs)))/\RelWs K μ H (kvs.map fun p=>p.2) vs
 |.dcx kvs,a=>∃es,H a=some (JU a es)/\(a==sysModules)=false/\Paired (pB K μ H) kvs es/\(kvs.map fun p=>p.1).Nodup
 |.rox kvs,a=>∃es o,H a=some (.frz o (JU a es))/\(a==sysModules)=false/\Paired (pB K μ H) kvs es/\(kvs.map fun p=>p.1).Nodup
 |.obj c fs,a=>∃C dx vs,mg c=some (.ref C)/\H a=some (.ins C dx ((fs.map fun p=>p.1).zip vs))/\RelWs K μ H (fs.map fun p=>p.2) vs
 |.tab P pos q,a=>a=P/\∃ps,H a=some (.tbl ps)/\TriplesOk ps.toList/\(codeAmong pos ps.toList=none\/∃c,codeAmong pos ps.toList=some (.ref c)/\H c=some (iW c q))
 |.pin k c o w,a=>a=c/\H a=some (ly a o)/\(k=false->∃fd cd,o.data=.func fd/\fd.code=.ref cd/\H cd=some (iW cd fd.qualname))/\∃v,be K μ H w v/\(k=true->∃u,o.data=.cell (some u)/\bN v u)
 |.gone,_=>True
structure fW(K:Frag)(mg:Str->Option Value)(μ:List Addr)(st:List ah)(H:Hp):Prop where
 nd:∀(i j:Nat) (a:Addr) (ci cj:ah),st[i]?=some ci->st[j]?=some cj->ci.isRo=false->cj.isRo=false->μ[i]?=some a->μ[j]?=some a->i=j
 len:st.length=μ.length
 at':∀(i:Nat) (c:ah) (a:Addr),st[i]?=some c->μ[i]?=some a->kK K mg μ H c a
section
variable{st:List ah}
theorem pB.mono(h:μ <+: μ')(x:dC K H H'){p:KX×W}{e:DictEntry}(r:pB K μ H p e):pB K μ' H' p e:=by
 obtain⟨a,⟨v,b,c⟩,u,d,g⟩:=r
 exact⟨a,⟨v,b.mono h x,c⟩,u,d.mono h x,g⟩
theorem kK.keep(h:μ <+: μ')(x:dC K H H'){c:ah}(e:∀o,H a=some o->H' a=some o)(e2:∀b q,H b=some (iW b q)->H' b=some (iW b q))(r:kK K mg μ H c a):kK K mg μ' H' c a:=by
 cases c with
 |lst ws=>obtain⟨vs,p,y⟩:=r;exact⟨vs,e _ p,y.mono h x⟩
 |ro ws=>
  obtain⟨vs,p,y⟩:=r
  refine⟨vs,?_,y.mono h x⟩
  rcases p with⟨o,p⟩|p
  ·exact .inl ⟨o,e _ p⟩
  ·exact .inr p
 |exc c=>obtain⟨C,p,y⟩:=r;exact⟨C,p,e _ y⟩
 |dct kvs=>obtain⟨vs,p,y⟩:=r;exact⟨vs,e _ p,y.mono h x⟩
 |rod kvs=>obtain⟨vs,o,p,y⟩:=r;exact⟨vs,o,e _ p,y.mono h x⟩
 |dcx kvs=>obtain⟨es,p,d,y,z⟩:=r;exact⟨es,e _ p,d,Paired.imp' (fun _ _ q=>q.mono h x) y,z⟩
 |rox kvs=>obtain⟨es,o,p,d,y,z⟩:=r;exact⟨es,o,e _ p,d,Paired.imp' (fun _ _ q=>q.mono h x) y,z⟩
 |obj c fs=>obtain⟨C,dx,vs,m,p,y⟩:=r;exact⟨C,dx,vs,m,e _ p,y.mono h x⟩
 |tab P pos q=>
  obtain⟨ea,ps,p,t,y⟩:=r
  refine⟨ea,ps,e _ p,t,?_⟩
  rcases y with y|⟨c,y,z⟩
  ·exact .inl y
  ·exact .inr ⟨c,y,e2 _ _ z⟩
 |pin k c o w=>obtain⟨ea,p,g,v,y,z⟩:=r;exact⟨ea,e _ p,fun q=>let ⟨fd,cd,q1,q2,q3⟩:=g q;⟨fd,cd,q1,q2,e2 _ _ q3⟩,v,y.mono h x,z⟩
 |gone=>trivial
theorem kK.ro_ne{c:ah}(r:kK K mg μ H c a)(h:c.isRo=false):∃o,H a=some o:=by
 cases c with
 |lst ws=>obtain⟨vs,p,y⟩:=r;exact⟨_,p⟩
 |ro ws=>cases h
 |exc c=>obtain⟨C,p,y⟩:=r;exact⟨_,y⟩
 |dct kvs=>obtain⟨vs,p,y⟩:=r;exact⟨_,p⟩
 |rod kvs=>obtain⟨vs,o,p,y⟩:=r;exact⟨_,p⟩
 |dcx kvs=>obtain⟨es,p,_⟩:=r;exact⟨_,p⟩
 |rox kvs=>obtain⟨es,o,p,_⟩:=r;exact⟨_,p⟩
 |obj c fs=>obtain⟨C,dx,vs,m,p,y⟩:=r;exact⟨_,p⟩
 |tab P pos q=>obtain⟨_,ps,p,_⟩:=r;exact⟨_,p⟩
 |pin k c o w=>obtain⟨_,p,_⟩:=r;exact⟨_,p⟩
 |gone=>cases h
theorem fW.same(S:fW K mg μ st H)(e:nY H H'):fW K mg μ st H':=⟨S.nd,S.len,fun i c a h1 h2=>(S.at' i c a h1 h2).keep (af _) (fO.same e) (e a) fun b q h=>e b _ h⟩
theorem fW.get(S:fW K mg μ st H){c:ah}(h:st[n]?=some c):∃a,μ[n]?=some a/\kK K mg μ H c a:=by
 have hn:n<μ.length:=by rw[<- S.len];exact(aa.mp h).1
 exact⟨μ[n],ae hn,S.at' n c _ h (ae hn)⟩
theorem fW.push(S:fW K mg μ st H){p:Addr}{o:HO}{c:ah}(hp:H p=none)(hc:kK K mg (μ++[p]) (eW H p o) c p):fW K mg (μ++[p]) (st++[c]) (eW H p o):=by
 have hs:nY H (eW H p o):=cy hp o
 have Dm:μ <+: μ++[p]:=aJ _ _
 have old:∀{i:Nat} {d:ah} {a:Addr},i<st.length->(st++[c])[i]?=some d->(μ++[p])[i]?=some a->st[i]?=some d/\μ[i]?=some a:=fun{i d a} hi h1 h2=>by
  rw[av hi]at h1
  rw[av (by rw[<- S.len];exact hi)]at h2
  exact⟨h1,h2⟩
 have new:∀{i:Nat} {d:ah} {a:Addr},¬ i<st.length->(st++[c])[i]?=some d->(μ++[p])[i]?=some a->i=st.length/\d=c/\a=p:=fun{i d a} hi h1 h2=>by
  have hi':i=st.length:=by
   have:=(aa.mp h1).1
   simp at this;omega
  subst hi'
  simp at h1
  rw[S.len,cQ (au _)]at h2
  simp at h2
  exact⟨rfl,h1.symm,h2.symm⟩
 refine⟨fun i j a ci cj h1 h2 r1 r2 m1 m2=>?_,by simp[S.len],fun i d a h1 h2=>?_⟩
 ·by_cases hi:i<st.length
  ·obtain⟨x1,x2⟩:=old hi h1 m1
   by_cases hj:j<st.length
   ·obtain⟨y1,y2⟩:=old hj h2 m2
    exact S.nd i j a ci cj x1 y1 r1 r2 x2 y2
   ·obtain⟨_,_,rfl⟩:=new hj h2 m2
    obtain⟨o',z⟩:=(S.at' i ci a x1 x2).ro_ne r1
    rw[hp]at z;cases z
  ·obtain⟨e1,_,rfl⟩:=new hi h1 m1
   by_cases hj:j<st.length
   ·obtain⟨y1,y2⟩:=old hj h2 m2
    obtain⟨o',z⟩:=(S.at' j cj a y1 y2).ro_ne r2
    rw[hp]at z;cases z
   ·obtain⟨e2,_,_⟩:=new hj h2 m2
    omega
 ·by_cases hi:i<st.length
  ·obtain⟨x1,x2⟩:=old hi h1 h2
   exact(S.at' i d a x1 x2).keep Dm (fO.same hs) (hs a) fun b q h=>hs b _ h
  ·obtain⟨_,rfl,rfl⟩:=new hi h1 h2
   exact hc
theorem fW.setG(S:fW K mg μ st H){c c':ah}{o o':HO}(hn:st[n]?=some c)(rB:c.isRo=false)(hm:μ[n]?=some a)(ha:H a=some o)(hf:∀q u,o≠.frz q u)(hg:∀q,o≠iW a q)(hx:dC K H (eW H a o'))(Um:c'.isRo=false)(hr:kK K mg μ (eW H a o') c' a):fW K mg μ (st.set n c') (eW H a o'):=by
 have hl:n<st.length:=(aa.mp hn).1
 have back:∀{i:Nat} {d:ah},(st.set n c')[i]?=some d->∃d',st[i]?=some d'/\(d'=d\/(i=n/\d=c')):=fun{i d} h=>by
  by_cases e:i=n
  ·subst e
   rw[bB hl]at h
   exact⟨_,hn,.inr ⟨rfl,(aU h).symm⟩⟩
  ·rw[bS (Ne.symm e)]at h
   exact⟨d,h,.inl rfl⟩
 refine⟨fun i j b ci cj h1 h2 r1 r2 m1 m2=>?_,by simp[S.len],fun i d b h1 h2=>?_⟩
 ·obtain⟨di,x1,y1⟩:=back h1
  obtain⟨dj,x2,y2⟩:=back h2
  refine S.nd i j b di dj x1 x2 ?_ ?_ m1 m2
  ·rcases y1 with rfl|⟨rfl,rfl⟩
   ·exact r1
   ·rw[hn]at x1;cases x1;exact rB
  ·rcases y2 with rfl|⟨rfl,rfl⟩
   ·exact r2
   ·rw[hn]at x2;cases x2;exact rB
 ·by_cases e:i=n
  ·subst e
   rw[bB hl]at h1
   cases h1
   rw[hm]at h2;cases h2
   exact hr
  ·rw[bS (Ne.symm e)]at h1
   have r:=S.at' i d b h1 h2
   by_cases hrd:d.isRo=true
   ·cases d with
    |ro zs=>
     obtain⟨us,p,q⟩:=r
     refine⟨us,?_,q.mono (af _) hx⟩
     rcases p with⟨o2,p⟩|p
     ·exact .inl ⟨o2,by rw[cw (by rintro rfl;rw[ha]at p;cases p;exact hf _ _ rfl)];exact p⟩
     ·exact .inr p
    |lst _=>cases hrd
    |exc _=>cases hrd
    |dct _=>cases hrd
    |rod _=>cases hrd
    |dcx _=>cases hrd
    |rox _=>cases hrd
    |obj _ _=>cases hrd
    |tab _ _ _=>cases hrd
    |pin _ _ _ _=>cases hrd
    |gone=>trivial
   ·refine r.keep (af _) hx (fun o ho=>?_) fun b' q h=>by rw[cw (by rintro rfl;rw[ha]at h;cases h;exact hg _ rfl)];exact h
    have hb:b≠a:=by
     rintro rfl
     exact e (S.nd i n b d _ h1 hn (by simpa using hrd) rB h2 hm)
    rw[cw hb];exact ho
theorem fW.set(S:fW K mg μ st H){RF:List W}{Hi:List V}(hn:st[n]?=some (.lst ws))(hm:μ[n]?=some a)(ha:H a=some (.lst vs))(hr:RelWs K μ H RF Hi):fW K mg μ (st.set n (.lst RF)) (eW H a (.lst Hi)):=by
 have hx:dC K H (eW H a (.lst Hi)):=fO.but gP ha
 have hl:n<st.length:=(aa.mp hn).1
 have back:∀{i:Nat} {d:ah},(st.set n (.lst RF))[i]?=some d->∃d',st[i]?=some d'/\(d'=d\/(i=n/\d=.lst RF)):=fun{i d} h=>by
  by_cases e:i=n
  ·subst e
   rw[bB hl]at h
   exact⟨_,hn,.inr ⟨rfl,(aU h).symm⟩⟩
  ·rw[bS (Ne.symm e)]at h
   exact⟨d,h,.inl rfl⟩
 refine⟨fun i j b ci cj h1 h2 r1 r2 m1 m2=>?_,by simp[S.len],fun i d b h1 h2=>?_⟩
 ·obtain⟨di,x1,y1⟩:=back h1
  obtain⟨dj,x2,y2⟩:=back h2
  refine S.nd i j b di dj x1 x2 ?_ ?_ m1 m2
  ·rcases y1 with rfl|⟨rfl,rfl⟩
   ·exact r1
   ·rw[hn]at x1;cases x1;rfl
  ·rcases y2 with rfl|⟨rfl,rfl⟩
   ·exact r2
   ·rw[hn]at x2;cases x2;rfl
 ·by_cases e:i=n
  ·subst e
   rw[bB hl]at h1
   cases h1
   rw[hm]at h2;cases h2
   exact⟨Hi,dB,hr.mono (af _) hx⟩
  ·rw[bS (Ne.symm e)]at h1
   have r:=S.at' i d b h1 h2
   by_cases rB:d.isRo=true
   ·cases d with
    |ro zs=>
     obtain⟨us,p,q⟩:=r
     refine⟨us,?_,q.mono (af _) hx⟩
     rcases p with⟨o',p⟩|p
     ·exact .inl ⟨o',by rw[cw (by rintro rfl;rw[ha]at p;cases p)];exact p⟩
     ·exact .inr p
    |lst _=>cases rB
    |exc _=>cases rB
    |dct _=>cases rB
    |rod _=>cases rB
    |dcx _=>cases rB
    |rox _=>cases rB
    |obj _ _=>cases rB
    |tab _ _ _=>cases rB
    |pin _ _ _ _=>cases rB
    |gone=>trivial
   ·refine r.keep (af _) hx (fun o ho=>?_) fun b' q h=>by rw[cw (by rintro rfl;rw[ha]at h;cases h)];exact h
    have hb:b≠a:=by
     rintro rfl
     exact e (S.nd i n b d _ h1 hn (by simpa using rB) rfl h2 hm)
    rw[cw hb];exact ho
end
structure Rl(X:Cx)(μ:List Addr)(ρ:cu)(st:List ah)(σ:St)(H:Hp):Prop where
 env:Paired (fun(o:Option W) (s:Option V)=>∀w,o=some w->∃v,s=some v/\be X.K μ H w v) ρ σ
 sto:fW X.K X.mg μ st H
theorem qp(h:μ <+: μ')(x:dC K H H'):∀{ρ:cu} {σ:St},Paired (fun(o:Option W) (s:Option V)=>∀w,o=some w->∃v,s=some v/\be K μ H w v) ρ σ ->
  Paired (fun(o:Option W) (s:Option V)=>∀w,o=some w->∃v,s=some v/\be K μ' H' w v) ρ σ
 |_,_,.nil=>.nil
 |_,_,.cons a t=>.cons (fun w e=>let ⟨v,p,q⟩:=a w e;⟨v,p,q.mono h x⟩) (qp h x t)
theorem Rl.to{ρ:cu}{st:List ah}(r:Rl X μ ρ st σ H)(h:μ <+: μ')(x:dC X.K H H')(s:fW X.K X.mg μ' bL H'):Rl X μ' ρ bL σ H':=⟨qp h x r.env,s⟩
theorem lz:∀{ρ:cu} {σ:St} {i:Nat} {w:W},Paired (fun(o:Option W) (s:Option V)=>∀w,o=some w->∃v,s=some v/\be K μ H w v) ρ σ->ρ[i]?=some (some w)->∃v,σ[i]?=some (some v)/\be K μ H w v
 |_,_,_,_,.nil,e=>by simp at e
 |_,_,0,w,.cons a t,e=>by simp at e;obtain⟨v,p,q⟩:=a w e;exact⟨v,by simp[p],q⟩
 |_,_,i+1,w,.cons a t,e=>by simpa using lz (i:=i) t (by simpa using e)
theorem pD{w:W}{v:V}(r:be K μ H w v):∀{ρ:cu} {σ:St} (i:Nat),Paired (fun(o:Option W) (s:Option V)=>∀w,o=some w->∃v,s=some v/\be K μ H w v) ρ σ ->
  Paired (fun(o:Option W) (s:Option V)=>∀w,o=some w->∃v,s=some v/\be K μ H w v) (ρ.set i (some w)) (σ.set i (some v))
 |_,_,_,.nil=>.nil
 |_,_,0,.cons a t=>.cons (fun w' e=>⟨v,rfl,by cases e;exact r⟩) t
 |_,_,i+1,.cons a t=>.cons a (pD r i t)
structure uU(X:Cx)(pins:List (Addr×Obj))(σ:St)(c:Str)(H:Hp)(e:Value)(s:Shared):Prop where
 inv:bw X pins σ H s
 ex:∃x C t B,e=.ref x/\X.mg c=some C/\H x=none/\B.StaysIn s.heap/\B.get? x=none/\s.heap.FunFrames B X.stack /\
  (s.heap.TracedW B x C (.ref t)\/(∃oe vs,s.heap.get? x=some oe/\oe.cls=C/\oe.dict=none/\oe.data=.fields vs/\vs[1]?=some .none/\vs[0]?=some (.ref t))\/∃L,X.env.frame=some L/\s.heap.TracedAtW B x C (.ref t) (rawInt L)) /\
  ∀b o,s.heap.get? b=some o->(H b≠none\/((∃o0,X.s₀.heap.get? b=some o0)/\b∉X.fs/\b∉X.ex)\/((∃y,X.env.cells.lookup y=some b)/\b∉uo X.stack)\/∃p∈X.pn++pins,p.1=b)->B.get? b=some o
def XS(X:Cx)(c:Str)(μ:List Addr)(ρ:cu)(st:List ah)(H:Hp):Prop:=
 ∀pins μ' σ' H' e s',μ <+: μ'->dC X.K H H'->Rl X μ' ρ st σ' H'->uU X pins σ' c H' e s'->X.xe e s'
def XE(X:Cx)(c:Str)(μ:List Addr)(st:List ah)(σ:St)(H:Hp):Prop:=
 ∀pins μ' H' e s',μ <+: μ'->dC X.K H H'->fW X.K X.mg μ' st H'->uU X pins σ c H' e s'->X.xe e s'
theorem XE.mono{c:Str}{μ1:List Addr}{st:List ah}{H1:Hp}(h:XE X c μ st σ H)(p:μ <+: μ1)(x:dC X.K H H1):XE X c μ1 st σ H1:=fun pins μ' H' e s' a b=>h pins μ' H' e s' (p.trans a) (x.trans b)
theorem XS.mono{c:Str}{μ1:List Addr}{ρ:cu}{st:List ah}{H1:Hp}(h:XS X c μ ρ st H)(p:μ <+: μ1)(x:dC X.K H H1):XS X c μ1 ρ st H1:=fun pins μ' σ' H' e s' a b=>h pins μ' σ' H' e s' (p.trans a) (x.trans b)
theorem XS.toE{c:Str}{ρ:cu}{Oc st:List ah}(h:XS X c μ ρ st H)(r:Rl X μ ρ Oc σ H):XE X c μ st σ H:=fun pins μ' H' e s' a b s f=>h pins μ' σ H' e s' a b (r.to a b s) f
def RK(X:Cx)(jq:List Addr->Hp->α->β->Prop)(μ:List Addr)(σ:St)(H:Hp)(Q:β->Hp->Prop):R α->Prop
 |.ok a bL=>∀μ' b H',μ <+: μ'->dC X.K H H'->fW X.K X.mg μ' bL H'->jq μ' H' a b->Q b H'
 |.ex c bL=>XE X c μ bL σ H
 |.bad=>False
theorem RK.mono{jq:List Addr->Hp->α->β->Prop}{μ1:List Addr}{H1:Hp}{Q:β->Hp->Prop}{r:R α}(h:RK X jq μ σ H Q r)(p:μ <+: μ1)(x:dC X.K H H1):RK X jq μ1 σ H1 Q r:=by
 cases r with
 |ok a st=>exact fun μ' b H' a1 b1=>h μ' b H' (p.trans a1) (x.trans b1)
 |ex c st=>exact XE.mono h p x
 |bad=>exact h
def tG(X:Cx)(jq:List Addr->Hp->α->β->Prop)(f:cu->List ah->R α)(σ:St)(H:Hp)(Q:β->Hp->Prop):Prop:=
 ∃μ ρ st,Rl X μ ρ st σ H/\RK X jq μ σ H Q (f ρ st)
abbrev rd(X:Cx):List Addr->Hp->W->V->Prop:=fun μ H w v=>be X.K μ H w v
abbrev SQ(X:Cx):List Addr->Hp->List W->List V->Prop:=fun μ H w v=>RelWs X.K μ H w v
abbrev L9:List Addr->Hp->Bool->Bool->Prop:=fun _ _ a b=>a=b
abbrev tE(X:Cx)(f:FE):TE:=tG X (rd X) f
abbrev tT(X:Cx)(f:FT):TT:=tG X L9 f
abbrev Pl(X:Cx)(f:FA):TA:=tG X (SQ X) f
theorem RK.bind{α' β':Type}{jq:List Addr->Hp->α->β->Prop}{Rc:List Addr->Hp->α'->β'->Prop}{ρ:cu}{st:List ah}{r:R α}{k:α->List ah->R α'}{Q:β'->Hp->Prop}{T:β->Hp->Prop}
  (h:RK X Rc μ σ H Q (r.bind k)) (l:Rl X μ ρ st σ H)
  (hk:∀μ' bL x v H',μ <+: μ'->dC X.K H H'->Rl X μ' ρ bL σ H'->jq μ' H' x v->RK X Rc μ' σ H' Q (k x bL)->T v H'):RK X jq μ σ H T r:=by
 cases r with
 |ok a bL=>exact fun μ' b H' p x s q=>hk μ' bL a b H' p x (l.to p x s) q (RK.mono h p x)
 |ex c bL=>exact h
 |bad=>exact h
def SK(X:Cx)(μ:List Addr)(H:Hp)(D:xB):RS->Prop
 |.nx ρ st=>∀μ' σ' H',μ <+: μ'->dC X.K H H'->Rl X μ' ρ st σ' H'->D.nx σ' H'
 |.bk ρ st=>∀μ' σ' H',μ <+: μ'->dC X.K H H'->Rl X μ' ρ st σ' H'->D.bk σ' H'
 |.ct ρ st=>∀μ' σ' H',μ <+: μ'->dC X.K H H'->Rl X μ' ρ st σ' H'->D.ct σ' H'
 |.rt w st=>∀μ' v H',μ <+: μ'->dC X.K H H'->fW X.K X.mg μ' st H'->be X.K μ' H' w v->D.rt v H'
 |.ex c ρ st=>XS X c μ ρ st H
 |.bad=>False
theorem SK.mono{μ1:List Addr}{H1:Hp}{D:xB}{r:RS}(h:SK X μ H D r)(p:μ <+: μ1)(x:dC X.K H H1):SK X μ1 H1 D r:=by
 cases r with
 |nx ρ st=>exact fun μ' b H' a1 b1=>h μ' b H' (p.trans a1) (x.trans b1)
 |bk ρ st=>exact fun μ' b H' a1 b1=>h μ' b H' (p.trans a1) (x.trans b1)
 |ct ρ st=>exact fun μ' b H' a1 b1=>h μ' b H' (p.trans a1) (x.trans b1)
 |rt w st=>exact fun μ' b H' a1 b1=>h μ' b H' (p.trans a1) (x.trans b1)
 |ex c ρ st=>exact XS.mono h p x
 |bad=>exact h
def Pm(X:Cx)(g:FS):TS:=fun D σ H=>∃μ ρ st,Rl X μ ρ st σ H/\SK X μ H D (g ρ st)
structure SE(X:Cx)(e:Expr)(f:FE):Prop where
 h:PE X e (tE X f)
structure ST(X:Cx)(e:Expr)(f:FT):Prop where
 h:PT X e (tT X f)
structure SW(X:Cx)(e:Expr)(f:FT):Prop where
 h:PW X e (tT X f)
structure SA(X:Cx)(es:List Expr)(f:FA):Prop where
 h:PA X es (Pl X f)
structure SS(X:Cx)(s:Stmt)(g:FS):Prop where
 h:PS X s (Pm X g)
structure SB(X:Cx)(s:List Stmt)(g:FS):Prop where
 h:B_ X s (Pm X g)
theorem PE.imp{t t':TE}(h:PE X e t)(i:∀σ H Q,t' σ H Q->t σ H Q):PE X e t':=fun pins s σ H Q I q=>h pins s σ H Q I (i _ _ _ q)
theorem PT.imp{t t':TT}(h:PT X e t)(i:∀σ H Q,t' σ H Q->t σ H Q):PT X e t':=fun pins s σ H Q I q=>h pins s σ H Q I (i _ _ _ q)
theorem PW.imp{t t':TT}(h:PW X e t)(i:∀σ H Q,t' σ H Q->t σ H Q):PW X e t':=fun wh pins s σ H Q I q=>h wh pins s σ H Q I (i _ _ _ q)
theorem PA.imp{e:List Expr}{t t':TA}(h:PA X e t)(i:∀σ H Q,t' σ H Q->t σ H Q):PA X e t':=fun pos pins s σ H Q I q=>h pos pins s σ H Q I (i _ _ _ q)
theorem PS.imp{e:Stmt}{t t':TS}(h:PS X e t)(i:∀D σ H,t' D σ H->t D σ H):PS X e t':=fun pins s σ H D I q=>h pins s σ H D I (i _ _ _ q)
theorem B_.imp{e:List Stmt}{t t':TS}(h:B_ X e t)(i:∀D σ H,t' D σ H->t D σ H):B_ X e t':=fun pins s σ H D I q=>h pins s σ H D I (i _ _ _ q)
section
variable{a b o:Expr}{rest:List Expr}{fa fb fc fe:FE}{ft fu:FT}{fs:FA}
def ag(i:Nat):FE:=fun ρ st=>match ρ[i]? with
 |some (some w)=>.ok w st
 |_=>.bad
theorem aB(i:Nat){pos:Pos}(hN:X.N[i]?=some x:=by rfl)(hv:Oi X.env.scope x:=by first|exact Or.inl rfl|exact Or.inr (Or.inl rfl)|exact Or.inr (Or.inr rfl))(hd:(x==("__debug__":Str))=false:=by decide)
  (nJ:(x==("__classdict__":Str))=false:=by decide):SE X (.Name x pos) (ag i):=⟨(pv i hN hv hd nJ).imp fun σ H Q h=>by
 obtain⟨μ,ρ,st,r,h⟩:=h
 unfold ag at h
 cases e:ρ[i]? with
 |none=>rw[e]at h;exact h.elim
 |some ow=>
  cases ow with
  |none=>rw[e]at h;exact h.elim
  |some w=>
   rw[e]at h
   obtain⟨v,e1,e2⟩:=lz r.env e
   exact⟨v,e1,h μ v H (af _) dC.refl r.sto e2⟩⟩
def eC(w:W):FE:=fun _ st=>.ok w st
abbrev eI(n:Int):FE:=eC (.int n)
theorem SR{w:W}{v:V}(hc:PE X e (tC v))(hr:∀μ H,be X.K μ H w v):SE X e (eC w):=⟨hc.imp fun σ H Q h=>by
 obtain⟨μ,ρ,st,r,h⟩:=h
 exact h μ v H (af _) dC.refl r.sto (hr _ _)⟩
theorem bD{i:Int}:SE X (.Constant (.int i) j pos) (eC (.int i)):=SR Lg fun _ _=>.int
theorem oN{k:Bool}:SE X (.Constant (.bool k) j pos) (eC (.bl k)):=SR OC fun _ _=>.bl
theorem JV(h:x=tx l:=by decide +kernel):SE X (.Constant (.str x) j pos) (eC (.str l)):=SR Lh fun _ _=>by rw[h];exact .str
def e2(f:W->W->List ah->R W)(fa fb:FE):FE:=fun ρ st=>(fa ρ st).bind fun x st=>(fb ρ st).bind fun y st=>f x y st
def Ds(X:Cx)(μ:List Addr)(H:Hp)(Q:VK):R W->Prop
 |.ok w bL=>∀μ' v H',μ <+: μ'->dC X.K H H'->fW X.K X.mg μ' bL H'->be X.K μ' H' w v->Q v H'
 |_=>False
def qr:R α->Prop
 |.ex _ _=>False
 |_=>True
def SU(X:Cx)(f:W->W->List ah->R W):R2:=fun x y H Q=>∃μ st wx wy,fW X.K X.mg μ st H/\be X.K μ H wx x/\be X.K μ H wy y/\Ds X μ H Q (f wx wy st)
structure pE(X:Cx)(g:Value->Value->Sem Value)(f:W->W->List ah->R W):Prop where
 h:mF X g (SU X f)
 n:∀x y st,qr (f x y st)
theorem sk{Q:VK}{r:R W}(h:RK X (rd X) μ σ H Q r)(n:qr r):Ds X μ H Q r:=by
 cases r with
 |ok a st=>exact h
 |ex c st=>exact n.elim
 |bad=>exact h
theorem AO{f:W->W->List ah->R W}{Q:VK}(n:∀x y st,qr (f x y st))(h:tE X (e2 f fa fb) σ H Q):OO (SU X f) (tE X fa) (tE X fb) σ H Q:=by
 walk_at "2"
 refine⟨μ,ρ,st,l,RK.bind h l fun μ1 st1 x v H1 p1 x1 l1 q1 h1=>⟨μ1,ρ,st1,l1,RK.bind h1 l1 fun μ2 cV y u H2 p2 x2 l2 q2 h2=>?_⟩⟩
 exact⟨μ2,cV,x,y,l2.sto,q1.mono p2 x2,q2,sk h2 (n _ _ _)⟩
theorem jy{op:Operator}{f:W->W->List ah->R W}(ho:pE X (binaryOp op) f)(ha:SE X a fa)(hb:SE X b fb):SE X (.BinOp a op b pos) (e2 f fa fb):=⟨(OP ho.h ha.h hb.h).imp fun _ _ _ h=>AO ho.n h⟩
theorem JW{f:W->W->List ah->R W}(ho:pE X (compareOp op) f)(ha:SE X a fa)(hb:SE X b fb)(hm:behindInMarks op b=false:=by first|exact DE _|rfl):SE X (.Compare a [op] [b] pos) (e2 f fa fb):=⟨(HE ho.h ha.h hb.h hm).imp fun _ _ _ h=>AO ho.n h⟩
def fQ(fa:FE):FT:=fun ρ st=>(fa ρ st).bind fun x st=>match x with
 |.bl k=>.ok k st
 |_=>.bad
theorem su{Q:Bool->Hp->Prop}(h:tT X (fQ fa) σ H Q):tE X fa σ H fun x H1=>∃k,x=.bl k/\Q k H1:=by
 walk_at "2"
 walk_at "1"
 cases x with
 |bl k=>exact⟨k,q1.blE,h1 μ1 k H1 (af _) dC.refl l1.sto rfl⟩
 |_=>exact h1.elim
theorem i9{f:W->W->List ah->R W}(ho:pE X (compareOp op) f)(ha:SE X a fa)(hb:SE X b fb)(hm:behindInMarks op b=false:=by first|exact DE _|rfl):ST X (.Compare a [op] [b] pos) (fQ (e2 f fa fb)):=⟨(HF ho.h ha.h hb.h hm).imp fun σ H Q h=>by
 have h':tE X (e2 f fa fb) σ H fun x H1=>∃k,x=.bl k/\Q k H1:=su h
 exact AO ho.n h'⟩
theorem ni(h:SE X e fe)(he:∀uh,isTrue e X.env uh=(do let v <- uh;standAt e.pos;holding [v] (truthy v)):=by intro _;rfl):ST X e (fQ fe):=⟨(Lk h.h he).imp fun σ H Q h=>su h⟩
def L_(t u:FT):FT:=fun ρ st=>(t ρ st).bind fun k st=>if k then u ρ st else .ok false st
def re(t u:FT):FT:=fun ρ st=>(t ρ st).bind fun k st=>if k then .ok true st else u ρ st
def rF(t:FT):FT:=fun ρ st=>(t ρ st).bind fun k st=>.ok (!k) st
theorem Ig(ha:ST X a ft):SW X (.BoolOp .And [a] pos) ft:=⟨Hr ha.h⟩
theorem qt(ha:ST X a ft):SW X (.BoolOp .Or [a] pos) ft:=⟨Ll ha.h⟩
theorem D5(ha:ST X a ft)(hb:SW X (.BoolOp .And (b::rest) pos) fu):SW X (.BoolOp .And (a::b::rest) pos) (L_ ft fu):=⟨(Lm ha.h hb.h).imp fun σ H Q h=>by
 walk_at "2"
 walk_at "1"
 cases q1
 cases x with
 |true=>exact⟨μ1,ρ,st1,l1,h1⟩
 |false=>exact h1 μ1 false H1 (af _) dC.refl l1.sto rfl⟩
theorem sv(ha:ST X a ft)(hb:SW X (.BoolOp .Or (b::rest) pos) fu):SW X (.BoolOp .Or (a::b::rest) pos) (re ft fu):=⟨(OE ha.h hb.h).imp fun σ H Q h=>by
 walk_at "2"
 walk_at "1"
 cases q1
 cases x with
 |false=>exact⟨μ1,ρ,st1,l1,h1⟩
 |true=>exact h1 μ1 true H1 (af _) dC.refl l1.sto rfl⟩
theorem zF(h:SW X e ft):ST X e ft:=⟨h.h.pt⟩
theorem nj(ha:ST X a ft):ST X (.UnaryOp .Not a pos) (rF ft):=⟨(Ln ha.h).imp fun σ H Q h=>by
 walk_at "2"
 walk_at "1"
 cases q1
 exact h1 μ1 _ H1 (af _) dC.refl l1.sto rfl⟩
def uz(fa fb:FE):FE:=fun ρ st=>(fa ρ st).bind fun x st=>match x with
 |.bl true=>fb ρ st
 |.bl false=>.ok (.bl false) st
 |_=>.bad
def TV(fa fb:FE):FE:=fun ρ st=>(fa ρ st).bind fun x st=>match x with
 |.bl true=>.ok (.bl true) st
 |.bl false=>fb ρ st
 |_=>.bad
def zG(fa:FE):FE:=fun ρ st=>(fa ρ st).bind fun x st=>match x with
 |.bl k=>.ok (.bl (!k)) st
 |_=>.bad
theorem JX{op:BoolOp}(h:SE X a fa):SE X (.BoolOp op [a] pos) fa:=⟨Lo h.h⟩
theorem JY(ha:SE X a fa)(hb:SE X (.BoolOp .And (b::rest) pos) fb):SE X (.BoolOp .And (a::b::rest) pos) (uz fa fb):=⟨(Lp ha.h hb.h).imp fun σ H Q h=>by
 walk_at "2"
 walk_at "1"
 cases x with
 |bl k=>
  refine⟨k,q1.blE,?_⟩
  cases k with
  |true=>exact⟨μ1,ρ,st1,l1,h1⟩
  |false=>exact h1 μ1 _ H1 (af _) dC.refl l1.sto .bl
 |_=>exact h1.elim⟩
theorem SV(ha:SE X a fa)(hb:SE X (.BoolOp .Or (b::rest) pos) fb):SE X (.BoolOp .Or (a::b::rest) pos) (TV fa fb):=⟨(OH ha.h hb.h).imp fun σ H Q h=>by
 walk_at "2"
 walk_at "1"
 cases x with
 |bl k=>
  refine⟨k,q1.blE,?_⟩
  cases k with
  |false=>exact⟨μ1,ρ,st1,l1,h1⟩
  |true=>exact h1 μ1 _ H1 (af _) dC.refl l1.sto .bl
 |_=>exact h1.elim⟩
theorem JZ(ha:SE X a fa):SE X (.UnaryOp .Not a pos) (zG fa):=⟨(Lq ha.h).imp fun σ H Q h=>by
 walk_at "2"
 walk_at "1"
 cases x with
 |bl k=>exact⟨k,q1.blE,h1 μ1 _ H1 (af _) dC.refl l1.sto .bl⟩
 |_=>exact h1.elim⟩
noncomputable def W.isNon:W->Bool
 |.non=>true
 |_=>false
def zH(fa:FE):FE:=fun ρ st=>(fa ρ st).bind fun x st=>.ok (.bl x.isNon) st
def J0(fa:FE):FE:=fun ρ st=>(fa ρ st).bind fun x st=>.ok (.bl (!x.isNon)) st
theorem Pn{w:W}{v:V}(r:be X.K μ H w v):decide (v=.non)=w.isNon:=by
 cases w with
 |non=>rw[r.nonE];rfl
 |bl b=>rw[r.blE];rfl
 |int b=>rw[r.intE];rfl
 |str b=>rw[r.strE];rfl
 |tup b=>obtain⟨p,vs,rfl,_⟩:=r.tupE;rfl
 |loc b=>obtain⟨p,_,rfl⟩:=r.locE;rfl
theorem J1{Q:VK}(h:tE X (zH fa) σ H Q):OD (tE X fa) σ H Q:=by
 walk_at "2"
 walk_at "1"
 show Q (.bl (decide (v=.non))) H1
 rw[Pn q1]
 exact h1 μ1 _ H1 (af _) dC.refl l1.sto .bl
theorem Po(ha:SE X a fa):SE X (.Compare a [.Is] [.Constant .none j jp] pos) (zH fa):=⟨(Li (Dx ha.h)).imp fun _ _ _ h=>J1 h⟩
theorem L'(ha:SE X a fa):ST X (.Compare a [.Is] [.Constant .none j jp] pos) (fQ (zH fa)):=⟨(Lj (Dx ha.h)).imp fun _ _ _ h=>J1 (su h)⟩
def aI:FA:=fun _ st=>.ok [] st
def aj(fa:FE)(fs:FA):FA:=fun ρ st=>(fa ρ st).bind fun x st=>(fs ρ st).bind fun xs st=>.ok (x::xs) st
theorem aQ:SA X [] aI:=⟨vK.imp fun σ H Q h=>by
 walk_at "2"
 exact h μ [] H (af _) dC.refl l.sto .nilI⟩
theorem aq(ha:SE X e fe)(hr:SA X es fs)(hs:starEach (e::es) X.env=(false,eval e X.env)::starEach es X.env:=by rfl):SA X (e::es) (aj fe fs):=⟨(ph ha.h hr.h hs).imp fun σ H Q h=>by
 walk_at "2"
 refine⟨μ,ρ,st,l,RK.bind h l fun μ1 st1 x v H1 p1 x1 l1 q1 h1=>⟨μ1,ρ,st1,l1,RK.bind h1 l1 fun μ2 cV xs vs H2 p2 x2 l2 q2 h2=>?_⟩⟩
 exact h2 μ2 _ H2 (af _) dC.refl l2.sto (.consI (q1.mono p2 x2) q2)⟩
def Pp(zs:List (List Nat)):FA:=fun _ st=>.ok (zs.map W.str) st
def pF(ws:List W)(st:List ah):R W:=if ws.length<=kE then .ok (.tup ws) st else .bad
def mH(ws:List W)(st:List ah):R W:=if ws.length<=kE then .ok #[5] (st++[.lst ws])else .bad
def kZ(fs:FA):FE:=fun ρ st=>(fs ρ st).bind fun ws st=>pF ws st
def k6(fs:FA):FE:=fun ρ st=>(fs ρ st).bind fun ws st=>mH ws st
theorem fW.newLst{st:List ah}(S:fW K mg μ st H){p:Addr}(hp:H p=none)(r:RelWs K μ H ws vs):fW K mg (μ++[p]) (st++[.lst ws]) (eW H p (.lst vs)):=
 S.push hp ⟨vs,dB,r.mono (aJ _ _) (fO.same (cy hp _))⟩
theorem no{st:List ah}(S:fW K mg μ st H){p:Addr}:be K (μ++[p]) H' #[5] (.ref p):=.locI (by rw[S.len];simp)
theorem D6{st:List ah}{Q:VK}(S:fW X.K X.mg μ st H)(q:RelWs X.K μ H ws vs)(h:RK X (rd X) μ σ H Q (pF ws st)):vs.length<=sizeLine/\∀p H2,H p=none->H2=eW H p (.tup vs)->Q (.ref p) H2:=by
 unfold pF at h
 by_cases hz:ws.length<=kE
 ·rw[aw hz]at h
  refine⟨by rw[<- q.len];exact jx hz,fun p H2 hp e=>?_⟩
  subst e
  have x:=fO.same (K:=X.K) (cy hp (.tup vs))
  exact h μ _ _ (af _) x (S.same (cy hp _)) (.tupI fO.new (q.mono (af _) x))
 ·rw[aC hz]at h;exact h.elim
theorem sw{st:List ah}{σ:St}{Q:VK}(S:fW X.K X.mg μ st H)(q:RelWs X.K μ H ws vs)(h:RK X (rd X) μ σ H Q (mH ws st)):vs.length<=sizeLine/\∀p H2,H p=none->H2=eW H p (.lst vs)->Q (.ref p) H2:=by
 unfold mH at h
 by_cases hz:ws.length<=kE
 ·rw[aw hz]at h
  refine⟨by rw[<- q.len];exact jx hz,fun p H2 hp e=>?_⟩
  subst e
  exact h (μ++[p]) _ _ (aJ _ _) (fO.same (cy hp _)) (S.newLst hp q) (no S)
 ·rw[aC hz]at h;exact h.elim
theorem oo{k:Nat}(h:SA X es fs):SE X (.Tuple es k pos) (kZ fs):=⟨(Ib h.h).imp fun σ H Q h=>by
 walk_at "2"
 exact⟨μ,ρ,st,l,RK.bind h l fun μ1 st1 x v H1 p1 x1 l1 q1 h1=>D6 l1.sto q1 h1⟩⟩
theorem oq(h:SA X es fs):SE X (.List es pos) (k6 fs):=⟨(Ic h.h).imp fun σ H Q h=>by
 walk_at "2"
 exact⟨μ,ρ,st,l,RK.bind h l fun μ1 st1 x v H1 p1 x1 l1 q1 h1=>sw l1.sto q1 h1⟩⟩
end
section
theorem kL{st:List ah}{Q:VK}{i:Int}(S:fW X.K X.mg μ st H)(h:Ds X μ H Q (.ok (.int i) st)):Q (.int i) H:=h μ _ H (af _) dC.refl S .int
theorem gH{st:List ah}{Q:VK}{i:Bool}(S:fW X.K X.mg μ st H)(h:Ds X μ H Q (.ok (.bl i) st)):Q (.bl i) H:=h μ _ H (af _) dC.refl S .bl
theorem pG{st:List ah}{Q:VK}{i:List Nat}(S:fW X.K X.mg μ st H)(h:Ds X μ H Q (.ok (.str i) st)):Q (.str (tx i)) H:=h μ _ H (af _) dC.refl S .str
theorem Ma{Q:VK}{r:R W}(h:Ds X μ H Q r):RK X (rd X) μ σ H Q r:=by
 cases r with
 |ok a st=>exact h
 |ex c st=>exact h.elim
 |bad=>exact h
noncomputable def Cu(C:Int->Int->Prop)[∀i j,Decidable (C i j)](f:Int->Int->Int):W->W->List ah->R W
 |.int i,.int j,st=>if C i j then .ok (.int (f i j)) st else .bad
 |_,_,_=>.bad
theorem xS{C C':Int->Int->Prop}[∀i j,Decidable (C' i j)]{f:Int->Int->Int}(h:mF X g (rI C fun i j=>.int (f i j)))(hC:∀i j,C' i j->C i j):pE X g (Cu C' f):=⟨h.imp fun x y H Q zq=>by
 walk_at "3"
 cases wx with
 |int i=>
  cases wy with
  |int j=>
   simp only[Cu]at q
   by_cases c:C' i j
   ·rw[aw c]at q;exact⟨i,j,rx.intE,ry.intE,hC i j c,kL S q⟩
   ·rw[aC c]at q;exact q.elim
  |_=>exact q.elim
 |_=>cases wy<;>exact q.elim,fun x y st=>by
 unfold Cu
 split
 ·split<;>trivial
 ·trivial⟩
noncomputable def Cv(f:Int->Int->Bool):W->W->List ah->R W
 |.int i,.int j,st=>.ok (.bl (f i j)) st
 |_,_,_=>.bad
theorem D7{f:Int->Int->Bool}(h:mF X g (Hc fun i j=>.bl (f i j))):pE X g (Cv f):=⟨h.imp fun x y H Q zq=>by
 walk_at "3"
 cases wx with
 |int i=>
  cases wy with
  |int j=>exact⟨i,j,rx.intE,ry.intE,gH S q⟩
  |_=>exact q.elim
 |_=>cases wy<;>exact q.elim,fun x y st=>by
 unfold Cv
 split<;>trivial⟩
abbrev Mb(i j:Int):Prop:=(-(2^64)<i/\i<2^64)\/(-(2^64)<j/\j<2^64)
abbrev vU:=Cu (fun _ _=>True) fun i j=>i-j
abbrev Pq:=Cu Mb fun i j=>i*j
abbrev gQ:=Cu (fun _ j=>0<j) fun i j=>i%j
abbrev AQ:=Cu (fun _ j=>0<j/\j<1073741824) fun i j=>i/j
abbrev Ps:=Cu (fun i j=>0<=j/\j<=1000000/\i.natAbs<2^64) fun i j=>i^j.toNat
abbrev sA:=Cu (fun i j=>0<=j/\j<=1000000/\i.natAbs<2^64) fun i j=>i*2^j.toNat
abbrev Ih:=Cu (fun _ j=>0<=j) fun i j=>i/2^j.toNat
abbrev AR:=Cu (fun _ _=>True) fun i j=>Builtin.bitAnd i j
theorem D8{f:Int->Int->V}(h:mF X g (Hc f)):mF X g (rI (fun _ _=>True) f):=h.imp fun _ _ _ _ ⟨i,j,a,b,_,q⟩=>⟨i,j,a,b,q⟩
theorem AS:pE X (binaryOp .Sub) vU:=xS (D8 LG) fun _ _ _=>trivial
theorem Pt:pE X (binaryOp .Mult) Pq:=xS LH fun _ _ h=>h
theorem ou:pE X (binaryOp .Mod) gQ:=xS LI fun _ _ h=>h
theorem Md:pE X (binaryOp .FloorDiv) AQ:=xS HD fun _ _ h=>h
theorem Pu:pE X (binaryOp .Pow) Ps:=xS LJ fun _ _ h=>h
theorem AT:pE X (binaryOp .LShift) sA:=xS DC fun _ _ h=>h
theorem Pv:pE X (binaryOp .RShift) Ih:=xS LK fun _ _ h=>h
theorem Me:pE X (binaryOp .BitAnd) AR:=xS (D8 LM) fun _ _ _=>trivial
def fD:W->W->List ah->R W
 |.int i,.int j,st=>.ok (.int (i+j)) st
 |.str a,.str b,st=>if a.length+b.length<=kE then .ok (.str (a++b)) st else .bad
 |.tup a,.tup b,st=>pF (a++b) st
 |.loc n,.loc m,st=>match st[n]?,st[m]? with
  |some (.lst a),some (.lst b)=>mH (a++b) st
  |_,_=>.bad
 |_,_,_=>.bad
theorem Ii(ws:List W)(st:List ah):qr (pF ws st):=by unfold pF;split<;>trivial
theorem Ij(ws:List W)(st:List ah):qr (mH ws st):=by unfold mH;split<;>trivial
theorem sB:pE X (binaryOp .Add) fD:=⟨fun pins s σ H x y v u Q I rv ru zq=>by
 walk_at "3"
 cases wx with
 |int i=>
  cases wy with
  |int j=>exact LF pins s σ H x y v u Q I rv ru ⟨i,j,rx.intE,ry.intE,kL S q⟩
  |_=>exact q.elim
 |str a=>
  cases wy with
  |str b=>
   simp only[fD]at q
   by_cases c:a.length+b.length<=kE
   ·rw[aw c]at q
    exact zt pins s σ H x y v u Q I rv ru ⟨_,_,rx.strE,ry.strE,by rw[jw,jw];exact jx c,by rw[zy];exact pG S q⟩
   ·rw[aC c]at q;exact q.elim
  |_=>exact q.elim
 |tup a=>
  cases wy with
  |tup b=>
   obtain⟨p1,vs1,rfl,h1,r1⟩:=rx.tupE
   obtain⟨p2,vs2,rfl,h2,r2⟩:=ry.tupE
   have q':Ds X μ H Q (pF (a++b) st):=q
   unfold pF at q'
   by_cases c:(a++b).length<=kE
   ·rw[aw c]at q'
    refine L7.h pins s σ H _ _ v u Q I rv ru ⟨p1,p2,vs1,vs2,rfl,rfl,h1,h2,by rw[<- r1.len,<- r2.len,<- aN];exact jx c,fun p H2 e t=>?_⟩
    exact q' μ _ _ (af _) (fO.same e) (S.same e) (.tupI t ((r1.app r2).mono (af _) (fO.same e)))
   ·rw[aC c]at q';exact q'.elim
  |_=>exact q.elim
 |loc n=>
  cases wy with
  |loc m=>
   simp only[fD]at q
   cases e1:st[n]? with
   |none=>rw[e1]at q;exact q.elim
   |some c1=>
    cases e2:st[m]? with
    |none=>rw[e1,e2]at q;cases c1<;>exact q.elim
    |some c2=>
     cases c1 with
     |lst a=>
      cases c2 with
      |lst b=>
       rw[e1,e2]at q
       obtain⟨a1,g1,vs1,k1,r1⟩:=S.get e1
       obtain⟨a2,g2,vs2,k2,r2⟩:=S.get e2
       obtain⟨b1,f1,rfl⟩:=rx.locE
       obtain⟨b2,f2,rfl⟩:=ry.locE
       rw[g1]at f1;cases f1
       rw[g2]at f2;cases f2
       obtain⟨hz,qq⟩:=sw (σ:=σ) S (r1.app r2) (Ma q)
       exact Id pins s σ H _ _ v u Q I rv ru ⟨a1,a2,vs1,vs2,rfl,rfl,k1,k2,by rw[<- aN];exact hz,qq⟩
      |_=>rw[e1,e2]at q;exact q.elim
     |_=>rw[e1,e2]at q;exact q.elim
  |_=>exact q.elim
 |_=>cases wy<;>exact q.elim,fun x y st=>by
 unfold fD
 split
 ·trivial
 ·split<;>trivial
 ·exact Ii _ _
 ·split
  ·exact Ij _ _
  ·trivial
 ·trivial⟩
abbrev D9:=Cv fun i j=>decide (i<j)
abbrev Pw:=Cv fun i j=>decide (j<i)
abbrev Om:=Cv fun i j=>decide (j<=i)
theorem w_lt:pE X (compareOp .Lt) D9:=D7 OQ
theorem Mf:pE X (compareOp .Gt) Pw:=D7 OR
theorem Px:pE X (compareOp .GtE) Om:=D7 OS
end
mutual
noncomputable def jz:W->W->Option Bool
 |.non,.non=>some true
 |.bl a,.bl b=>some (a==b)
 |.bl a,.int b=>some ((if a then 1 else 0)==b)
 |.int a,.bl b=>some (a==(if b then 1 else 0))
 |.int a,.int b=>some (a==b)
 |.str a,.str b=>some (a==b)
 |.tup a,.tup b=>eqWs a b
 |.loc _,_=>none
 |.non,.loc _=>none
 |.bl _,.loc _=>none
 |.int _,.loc _=>none
 |.str _,.loc _=>none
 |.tup _,.loc _=>none
 |.non,.bl _=>some false
 |.non,.int _=>some false
 |.non,.str _=>some false
 |.non,.tup _=>some false
 |.bl _,.non=>some false
 |.bl _,.str _=>some false
 |.bl _,.tup _=>some false
 |.int _,.non=>some false
 |.int _,.str _=>some false
 |.int _,.tup _=>some false
 |.str _,.non=>some false
 |.str _,.bl _=>some false
 |.str _,.int _=>some false
 |.str _,.tup _=>some false
 |.tup _,.non=>some false
 |.tup _,.bl _=>some false
 |.tup _,.int _=>some false
 |.tup _,.str _=>some false
noncomputable def eqWs:List W->List W->Option Bool
 |[],[]=>some true
 |[],_::_=>some false
 |_::_,[]=>some false
 |x::xs,y::ys=>match jz x y,eqWs xs ys with
  |some a,some b=>some (a&&b)
  |_,_=>none
end
mutual
noncomputable def W.dep:W->Nat
 |.tup ws=>depWs ws+1
 |_=>0
noncomputable def depWs:List W->Nat
 |[]=>0
 |w::ws=>max w.dep (depWs ws)
end
theorem oO:∀(xs ys:List W) (b:Bool),eqWs xs ys=some b->∃e:Nat->Bool,(∀j (h1:j<xs.length) (h2:j<ys.length),jz xs[j] ys[j]=some (e j))/\((List.range (min xs.length ys.length)).all e&&xs.length==ys.length)=b
 |[],[],b,h=>by unfold eqWs at h;cases h;exact⟨fun _=>true,fun j h1=>absurd h1 (cE _),rfl⟩
 |[],y::ys,b,h=>by unfold eqWs at h;cases h;exact⟨fun _=>true,fun j h1=>absurd h1 (cE _),by simp⟩
 |x::xs,[],b,h=>by unfold eqWs at h;cases h;exact⟨fun _=>true,fun j _ h1=>absurd h1 (cE _),by simp⟩
 |x::xs,y::ys,b,h=>by
  unfold eqWs at h
  cases e1:jz x y with
  |none=>rw[e1]at h;simp at h
  |some a=>
   cases e2:eqWs xs ys with
   |none=>rw[e1,e2]at h;simp at h
   |some c=>
    rw[e1,e2]at h
    simp at h
    obtain⟨e,he,hb⟩:=oO xs ys c e2
    refine⟨fun j=>match j with|0=>a|j+1=>e j,fun j h1 h2=>?_,?_⟩
    ·cases j with
     |zero=>exact e1
     |succ j=>exact he j (iS h1) (iS h2)
    ·have m:min (x::xs).length (y::ys).length=min xs.length ys.length+1:=by simp only[bz];omega
     rw[m,iQ,lj,qc,<- h,<- hb]
     simp[dJ,Bool.and_assoc]
theorem AU{a b:W}{x:V}{k:Bool}(hn:a.dep<=0)(ra:be X.K μ H a x)(rb:be X.K μ H b x)(he:jz a b=some k):k=true:=by
 cases a with
 |tup i=>unfold W.dep at hn;omega
 |non=>cases ra.nonE;cases b<;>first|(unfold jz at he;cases he;rfl)|cases rb.blE|cases rb.intE|cases rb.strE|(obtain⟨_,_,z,_⟩:=rb.tupE;cases z)|(unfold jz at he;cases he)
 |bl i=>cases ra.blE;cases b<;>first|(cases rb.blE;unfold jz at he;simp at he;exact he)|cases rb.nonE|cases rb.intE|cases rb.strE|(obtain⟨_,_,z,_⟩:=rb.tupE;cases z)|(unfold jz at he;cases he)
 |int i=>cases ra.intE;cases b<;>first|(cases rb.intE;unfold jz at he;simp at he;exact he)|cases rb.nonE|cases rb.blE|cases rb.strE|(obtain⟨_,_,z,_⟩:=rb.tupE;cases z)|(unfold jz at he;cases he)
 |str i=>cases ra.strE;cases b<;>first|(have z:=rb.strE;injection z with z;rw[DS.mp z]at he;unfold jz at he;simp at he;exact he)|cases rb.nonE|cases rb.blE|cases rb.intE|(obtain⟨_,_,z,_⟩:=rb.tupE;cases z)|(unfold jz at he;cases he)
 |loc i=>cases b<;>(unfold jz at he;cases he)
theorem D_(I:bw X pins σ H s):∀(n:Nat) (a b:W) (x:V) (k:Bool),a.dep<=n->be X.K μ H a x->be X.K μ H b x->jz a b=some k->k=true:=by
 intro n
 induction n with
 |zero=>exact fun a b x k hn ra rb he=>AU hn ra rb he
 |succ n ih=>
  intro a b x k hn ra rb he
  cases a with
  |tup i=>
   obtain⟨p',Hi,rfl,hS',r'⟩:=ra.tupE
   cases b with
   |tup z=>
    obtain⟨p,vs,e,hS,r⟩:=rb.tupE
    cases e
    obtain rfl:=I.tuple_inj hS hS'
    have he':eqWs i z=some k:=by unfold jz at he;exact he
    have dn:depWs i<=n:=by unfold W.dep at hn;omega
    have key:∀(i z:List W) (vs:List V) (k:Bool),depWs i<=n->RelWs X.K μ H i vs->RelWs X.K μ H z vs->eqWs i z=some k->k=true:=by
     intro i
     induction i with
     |nil=>
      intro z vs k _ r' r he
      have e1:=r'.nilE
      subst e1
      cases z with
      |nil=>unfold eqWs at he;cases he;rfl
      |cons _ _=>have e2:=r.len;simp at e2
     |cons w i ih2=>
      intro z vs k dn r' r he
      obtain⟨x,xs,rfl,rx,rxs⟩:=r'.consE
      cases z with
      |nil=>have e2:=r.len;simp at e2
      |cons y z=>
       obtain⟨x2,xs2,e3,ry,rys⟩:=r.consE
       cases e3
       unfold eqWs at he
       cases e1:jz w y with
       |none=>rw[e1]at he;simp at he
       |some k1=>
        cases e2:eqWs i z with
        |none=>rw[e1,e2]at he;simp at he
        |some k2=>
         rw[e1,e2]at he
         simp at he
         unfold depWs at dn
         have q1:=ih w y x k1 #[0] rx ry e1
         have q2:=ih2 z xs k2 #[0] rxs rys e2
         rw[<- he,q1,q2];rfl
    exact key i z _ k dn r' r he'
   |non=>cases rb.nonE
   |bl z=>cases rb.blE
   |int z=>cases rb.intE
   |str z=>cases rb.strE
   |loc z=>unfold jz at he;cases he
  |_=>exact AU (au _) ra rb he
theorem qu:∀{ws:List W} {j:Nat} (h:j<ws.length),ws[j].dep<=depWs ws
 |w::ws,0,_=>by unfold depWs;exact Nat.le_max_left _ _
 |w::ws,j+1,h=>by unfold depWs;exact a8 (qu (j:=j) (iS h)) (Nat.le_max_right _ _)
inductive Sh(s:Shared):W->Value->Prop
 |non:Sh s .non .none
 |bl (b:Bool):Sh s (.bl b) (.bool b)
 |int (i:Int) (t:Tok):Sh s (.int i) (.int i t)
 |str (l:List Nat) (t:Tok):Sh s (.str l) (.str (tx l) t)
 |tup (ws:List W) (p:Addr) (bJ:List Value) (h:IsTup s.heap p bJ.toArray):Sh s (.tup ws) (.ref p)
 |loc (n:Nat) (u:Value):Sh s (.loc n) u
section
theorem qQ(I:bw X pins σ H s){a:W}{x:V}(ra:be X.K μ H a x)(ru:bN x u):Sh s a u:=by
 cases a with
 |non=>cases ra.nonE;cases ru;exact .non
 |bl i=>cases ra.blE;cases ru;exact .bl _
 |int i=>cases ra.intE;obtain⟨t,rfl⟩:=ru;exact .int _ _
 |str i=>cases ra.strE;obtain⟨t,rfl⟩:=ru;exact .str _ _
 |tup i=>obtain⟨p,vs,rfl,hS,_⟩:=ra.tupE;cases ru;obtain⟨bJ,_,ht,_⟩:=I.tuple hS;exact .tup _ _ _ ht
 |loc i=>exact .loc _ _
open SeqAt.EqAt in
theorem AV{a b:W}{k:Bool}(ha:Sh s a u)(hb:Sh s b v)(hu:A.units<cLine)(ht:b.dep=0\/a.dep=0)(he:jz a b=some k):SeqAt.EqAt A s u v k:=by
 cases ha<;>cases hb<;>first
  |(unfold jz at he;cases he;done)
  |(unfold jz at he;cases he;with_reducible first|exact same _|exact bool_none _|exact bool_bool _ _|exact bool_int _ _ _|exact bool_str _ _ _|exact int_none _ _|exact int_bool _ _ _|exact int_int _ _ _ _|exact int_str _ _ _ _|exact str_none _ _|exact str_bool _ _ _|exact str_int _ _ _ _|exact none_bool _|exact none_int _ _|exact none_str _ _)
  |(unfold jz at he;cases he;(with_reducible first|refine' bool_tuple _ ?_ hu|refine' int_tuple _ _ ?_ hu|refine' str_tuple _ _ ?_ hu|refine' tuple_none ?_ hu|refine' tuple_bool _ ?_ hu|refine' tuple_int _ _ ?_ hu|refine' tuple_str _ _ ?_ hu|refine' none_tuple ?_ hu);rotate_left;assumption)
  |(unfold W.dep at ht;omega)
  |skip
 rename_i i t z r
 unfold jz at he;cases he
 have:=str_str (A:=A) (s:=s) (tx i) t (tx z) r
 rw[<- oG]at this
 exact this
open SeqAt.RcAt in
theorem Ik{a b:W}{k:Bool}(ha:Sh s a u)(hb:Sh s b v)(hu:A.units<cLine)(ht:b.dep=0\/a.dep=0)(he:jz a b=some k):SeqAt.RcAt A s u v k:=by
 cases ha<;>cases hb<;>first
  |(unfold jz at he;cases he;done)
  |(unfold jz at he;cases he;with_reducible first|exact none_none|exact bool_none _|exact bool_bool _ _|exact bool_int _ _ _|exact bool_str _ _ _|exact int_none _ _|exact int_bool _ _ _|exact int_int _ _ _ _|exact int_str _ _ _ _|exact str_none _ _|exact str_bool _ _ _|exact str_int _ _ _ _|exact none_bool _|exact none_int _ _|exact none_str _ _)
  |(unfold jz at he;cases he;(with_reducible first|refine' bool_tuple _ ?_ hu|refine' int_tuple _ _ ?_ hu|refine' str_tuple _ _ ?_ hu|refine' tuple_none ?_ hu|refine' tuple_bool _ ?_ hu|refine' tuple_int _ _ ?_ hu|refine' tuple_str _ _ ?_ hu|refine' none_tuple ?_ hu);rotate_left;assumption)
  |(unfold W.dep at ht;omega)
  |skip
 rename_i i t z r
 unfold jz at he;cases he
 have:=str_str (A:=A) (s:=s) (tx i) t (tx z) r
 rw[<- oG]at this
 exact this
open SeqAt.RcNeAt in
theorem Cw         {a b:W}  {k:Bool} (ha : Sh s a u) (hb : Sh s b v) (hu : A.units < cLine) (ht : b.dep = 0 \/ a.dep = 0) (he : jz  a b = some k) : SeqAt.RcNeAt A s u v (!k) := by
  cases ha <;> cases hb <;> first
    | (unfold jz  at he; cases he; done)
    | (unfold jz  at he; cases he; try simp only [eB           , ko            ]
       with_reducible first | exact none_none | exact bool_none _ | exact bool_bool _ _ | exact bool_int _ _ _ | exact bool_str _ _ _ | exact int_none _ _ | exact int_bool _ _ _ | exact int_int _ _ _ _ | exact int_str _ _ _ _ | exact str_none _ _ | exact str_bool _ _ _ | exact str_int _ _ _ _ | exact none_bool _ | exact none_int _ _ | exact none_str _ _)
    | (unfold jz  at he; cases he; try simp only [eB           , ko            ]
       (with_reducible first | refine' bool_tuple _ ?_ hu | refine' int_tuple _ _ ?_ hu | refine' str_tuple _ _ ?_ hu | refine' tuple_none ?_ hu | refine' tuple_bool _ ?_ hu | refine' tuple_int _ _ ?_ hu | refine' tuple_str _ _ ?_ hu | refine' none_tuple ?_ hu); rotate_left; assumption)
    | (unfold W.dep at ht; omega)
    | skip
  rename_i i t z r
  unfold jz  at he; cases he
  have := str_str (A := A) (s := s) (tx i) t (tx z) r
  rw [<- oG           ] at this
  exact this
theorem xU{i z:List W}{Hi:List V}{bJ its':List Value}{e:Nat->Bool}{A:Around}(ih:∀(a b:W) (A:Around) (x y:V) (u v:Value) (k:Bool),a.dep<=m->be X.K μ H a x->be X.K μ H b y->bN x u->bN y v->A.units+m<cLine->jz a b=some k->SeqAt.EqAt A s u v k)
  (r':RelWs X.K μ H i Hi) (r:RelWs X.K μ H z vs) (w':cH Hi its') (w:cH vs bJ) (hd:depWs i<=m) (hu:A.units+1+m<cLine) (h1:∀j (h1:j<i.length) (h2:j<z.length),jz i[j] z[j]=some (e j)):∀j (j1:j<its'.toArray.size) (j2:j<bJ.toArray.size),SeqAt.EqAt A.in1 s its'.toArray[j] bJ.toArray[j] (e j):=fun j j1 j2=>by
 have j1':j<i.length:=by rw[r'.len,w'.length];simpa using j1
 have j2':j<z.length:=by rw[r.len,w.length];simpa using j2
 obtain⟨x1,g1,q1⟩:=r'.get (ae j1')
 obtain⟨x2,g2,q2⟩:=r.get (ae j2')
 obtain⟨u1,f1,v1⟩:=w'.get g1
 obtain⟨u2,f2,v2⟩:=w.get g2
 have E:=ih i[j] z[j] A.in1 x1 x2 u1 u2 (e j) (a8 (qu j1') hd) q1 q2 v1 v2 hu (h1 j j1' j2')
 have t1:its'.toArray[j]=u1:=by simpa using (aa.mp f1).2
 have t2:bJ.toArray[j]=u2:=by simpa using (aa.mp f2).2
 rw[t1,t2];exact E
theorem Ea(I:bw X pins σ H s):∀(n:Nat) (a b:W) (A:Around) (x y:V) (u v:Value) (k:Bool),a.dep<=n->be X.K μ H a x->be X.K μ H b y->bN x u->bN y v->A.units+n<cLine->jz a b=some k->SeqAt.EqAt A s u v k:=by
 intro n
 induction n with
 |zero=>exact fun a b A x y u v k hn ra rb ru rv hu he=>AV (qQ I ra ru) (qQ I rb rv) hu (.inr (by omega)) he
 |succ m ih=>
  intro a b A x y u v k hn ra rb ru rv hu he
  by_cases hb:b.dep=0\/a.dep=0
  ·exact AV (qQ I ra ru) (qQ I rb rv) #[0] hb he
  ·cases b with
   |tup z=>
    cases a with
    |tup i=>
     obtain⟨p',Hi,rfl,hS',r'⟩:=id ra.tupE;cases ru;obtain⟨its',w',ht',_⟩:=I.tuple hS'
     obtain⟨p,vs,rfl,hS,r⟩:=id rb.tupE;cases rv;obtain⟨bJ,w,ht,_⟩:=I.tuple hS
     by_cases hpp:p'=p
     ·subst hpp
      rw[D_ I (m+1) (.tup i) (.tup z) (.ref p') k hn ra rb he]
      exact SeqAt.EqAt.same _
     ·obtain⟨e,h1,h2⟩:=oO i z k (by unfold jz at he;exact he)
      have R:=SeqAt.RcAt.tuples (A:=A) (e:=e) ht' ht #[0] (xU ih r' r w' w (by unfold W.dep at hn;omega) #[0] h1)
      rw[show its'.toArray.size=i.length by simp[<- w'.length,<- r'.len],show bJ.toArray.size=z.length by simp[<- w.length,<- r.len],h2]at R
      exact SeqAt.EqAt.of_refs hpp R
    |_=>exact(hb (.inr rfl)).elim
   |_=>exact(hb (.inl rfl)).elim
theorem Ec(I:bw X pins σ H s){a b:W}{x:V}{k:Bool}(hn:b.dep=0\/a.dep<=n)(ra:be X.K μ H a x)(rb:be X.K μ H b y)(ru:bN x u)(rv:bN y v)(hu:A.units+n<cLine)(he:jz a b=some k):SeqAt.RcAt A s u v k/\SeqAt.RcNeAt A s u v (!k):=by
 by_cases hb:b.dep=0\/a.dep=0
 ·exact⟨Ik (qQ I ra ru) (qQ I rb rv) #[0] hb he,Cw (qQ I ra ru) (qQ I rb rv) #[0] hb he⟩
 cases b with
 |tup z=>
  cases a with
  |tup i=>
   obtain⟨p',Hi,rfl,hS',r'⟩:=ra.tupE;cases ru;obtain⟨its',w',ht',_⟩:=I.tuple hS'
   obtain⟨p,vs,rfl,hS,r⟩:=rb.tupE;cases rv;obtain⟨bJ,w,ht,_⟩:=I.tuple hS
   obtain⟨e,h1,h2⟩:=oO i z k (by unfold jz at he;exact he)
   have hd:depWs i+1<=n:=hn.elim (fun z=>(hb (.inl z)).elim) id
   obtain⟨m,rfl⟩:∃m,n=m+1:=⟨n-1,by omega⟩
   have T:=xU (A:=A) (Ea I m) r' r w' w #[0] #[0] h1
   have R:=SeqAt.RcAt.tuples (A:=A) (e:=e) ht' ht #[0] T
   have R2:=SeqAt.RcNeAt.tuples (A:=A) (e:=e) ht' ht #[0] T
   rw[show its'.toArray.size=i.length by simp[<- w'.length,<- r'.len],show bJ.toArray.size=z.length by simp[<- w.length,<- r.len],h2]at R R2
   exact⟨R,R2⟩
  |_=>exact(hb (.inr rfl)).elim
 |_=>exact(hb (.inl rfl)).elim
end
def pd:W->W->List ah->R W:=fun x y st=>match jz x y with
 |some k=>if y.dep=0\/x.dep<=64 then .ok (.bl k) st else .bad
 |none=>.bad
theorem Ed{k:Nat}(hr:fR k X.A):pE X (compareOp .Eq) pd:=⟨fun pins s σ H x y v u Q I rv ru zq=>by
 walk_at "3"
 unfold pd at q
 cases e:jz wx wy with
 |none=>rw[e]at q;exact q.elim
 |some b=>
  rw[e]at q
  simp only at q
  by_cases c:wy.dep=0\/wx.dep<=64
  ·rw[aw c]at q
   have:=hr.units
   exact(Ec I c rx ry rv ru this e).1 X.prog X.w X.xe _ ⟨.bl b,H,I,rfl,gH S q⟩
  ·rw[aC c]at q;exact q.elim,fun x y st=>by
 unfold pd
 split
 ·split<;>trivial
 ·trivial⟩
def uA:W->W->List ah->R W:=fun x y st=>match jz x y with
 |some k=>if y.dep=0\/x.dep<=64 then .ok (.bl (!k)) st else .bad
 |none=>.bad
theorem vV{k:Nat}(hr:fR k X.A):pE X (compareOp .NotEq) uA:=⟨fun pins s σ H x y v u Q I rv ru zq=>by
 walk_at "3"
 unfold uA at q
 cases e:jz wx wy with
 |none=>rw[e]at q;exact q.elim
 |some b=>
  rw[e]at q
  simp only at q
  by_cases c:wy.dep=0\/wx.dep<=64
  ·rw[aw c]at q
   have:=hr.units
   exact(Ec I c rx ry rv ru this e).2 X.prog X.w X.xe _ ⟨.bl (!b),H,I,rfl,gH S q⟩
  ·rw[aC c]at q;exact q.elim,fun x y st=>by
 unfold uA
 split
 ·split<;>trivial
 ·trivial⟩
def oP(x:W):List W->Option Bool
 |[]=>some false
 |y::ys=>match jz y x,oP x ys with
  |some a,some b=>some (a||b)
  |_,_=>none
def uV(Ao:Bool)(x y:W)(st:List ah):R W:=match y with
 |.str l=>(match x with
  |.str [c]=>.ok (.bl (if Ao then !decide (c∈l)else decide (c∈l))) st
  |_=>.bad)
 |.tup ys=>(match oP x ys with
  |some k=>if depWs ys<=63 then .ok (.bl (if Ao then !k else k)) st else .bad
  |none=>.bad)
 |.loc n=>(match st[n]? with
  |some (.lst ys)=>(match oP x ys with
   |some k=>if depWs ys<=63 then .ok (.bl (if Ao then !k else k)) st else .bad
   |none=>.bad)
  |_=>.bad)
 |_=>.bad
theorem xV{x:W}:∀{ys:List W} {k:Bool},oP x ys=some k->(∀(j:Nat) w,ys[j]?=some w->∃b,jz w x=some b)/\(k=true↔∃(j:Nat) (w:W),ys[j]?=some w/\jz w x=some true)
 |[],k,h=>by
  unfold oP at h;cases h
  exact⟨fun j w e=>by simp at e,fun z=>(by cases z),fun⟨j,w,e,_⟩=>(by simp at e)⟩
 |y::ys,k,h=>by
  unfold oP at h
  cases e1:jz y x with
  |none=>rw[e1]at h;simp at h
  |some a=>
   cases e2:oP x ys with
   |none=>rw[e1,e2]at h;simp at h
   |some b=>
    rw[e1,e2]at h
    simp at h
    obtain⟨q1,q2⟩:=xV e2
    refine⟨fun j w e=>?_,fun z=>?_,fun⟨j,w,e,f⟩=>?_⟩
    ·cases j with
     |zero=>simp at e;subst e;exact⟨a,e1⟩
     |succ j=>exact q1 j w (by simpa using e)
    ·rw[<- h]at z
     cases a with
     |true=>exact⟨0,y,rfl,e1⟩
     |false=>
      obtain⟨j,w,p,q⟩:=q2.mp (by simpa using z)
      exact⟨j+1,w,by simpa using p,q⟩
    ·rw[<- h]
     cases j with
     |zero=>simp at e;subst e;rw[e1]at f;cases f;rfl
     |succ j=>rw[q2.mpr ⟨j,w,by simpa using e,f⟩];simp
theorem l6(I:bw X pins σ H s){wx:W}{x:V}(rx:be X.K μ H wx x)(rv:bN x v)(n:Nat){A:Around}(hu:A.units+n<cLine)
  {ys:List W} {vs:List V} {us:List Value} {k:Bool} (hd:depWs ys<=n) (rs:RelWs X.K μ H ys vs) (kQ:cH vs us) (ha:oP wx ys=some k):∃e:Value->Bool,(∀u,u∈us.toArray->SeqAt.EqAt A s u v (e u))/\us.toArray.any e=k:=by
 classical
 obtain⟨q1,q2⟩:=xV ha
 have at':∀(j:Nat) (u:Value),us[j]?=some u->∃w b,ys[j]?=some w/\jz w wx=some b/\SeqAt.EqAt A s u v b:=fun j u e=>by
  have hj:j<ys.length:=by
   have h1:=(aa.mp e).1
   rw[rs.len,kQ.length];exact h1
  obtain⟨b,hb⟩:=q1 j ys[j] (ae hj)
  obtain⟨y,g1,r1⟩:=rs.get (ae hj)
  obtain⟨u',f1,v1⟩:=kQ.get g1
  rw[e]at f1;cases f1
  exact⟨_,b,ae hj,hb,Ea I n ys[j] wx A y x u v b (a8 (qu hj) hd) r1 rx v1 rv hu hb⟩
 refine⟨fun u=>decide (∃(j:Nat) (w:W),us[j]?=some u/\ys[j]?=some w/\jz w wx=some true),fun u hu=>?_,?_⟩
 ·by_cases c:∃(j:Nat) (w:W),us[j]?=some u/\ys[j]?=some w/\jz w wx=some true
  ·show SeqAt.EqAt A s u v (decide _)
   rw[br c]
   obtain⟨j,w,e1,e2,e3⟩:=c
   obtain⟨w',b,f1,f2,f3⟩:=at' j u e1
   rw[e2]at f1;cases f1
   rw[e3]at f2;cases f2
   exact f3
  ·show SeqAt.EqAt A s u v (decide _)
   rw[aZ c]
   obtain⟨j,hj,e⟩:=List.mem_iff_getElem.mp (show u∈us by simpa using hu)
   have e':us[j]?=some u:=by rw[ae hj,e]
   obtain⟨w',b,f1,f2,f3⟩:=at' j u e'
   cases b with
   |false=>exact f3
   |true=>exact absurd ⟨j,w',e',f1,f2⟩ c
 ·rw[List.any_toArray]
  cases k with
  |true=>
   obtain⟨j,w,e1,e2⟩:=q2.mp rfl
   have hj:j<us.length:=by rw[<- kQ.length,<- rs.len];exact(aa.mp e1).1
   exact lQ.mpr ⟨us[j],gY hj,br ⟨j,w,ae hj,e1,e2⟩⟩
  |false=>
   refine fK.mpr fun u _ c=>?_
   obtain⟨j,w,_,e1,e2⟩:=fL c
   have:=q2.mpr ⟨j,w,e1,e2⟩
   cases this
theorem Py{k:Nat}(hr:fR k X.A):pE X (compareOp .In) (uV false):=⟨fun pins s σ H x y v u Q I rv ru zq=>by
 walk_at "3"
 have hu:=hr.units
 cases wy with
 |str l=>
  simp only[uV]at q
  split at q
  ·exact Cs pins s σ H x y v u Q I rv ru ⟨_,_,rx.strE,ry.strE,gH S q⟩
  ·exact q.elim
 |tup ys=>
  simp only[uV]at q
  cases hk:oP wx ys with
  |none=>rw[hk]at q;exact q.elim
  |some kk=>
   rw[hk]at q
   simp only at q
   by_cases c:depWs ys<=63
   ·rw[aw c]at q
    obtain⟨p,vs,rfl,hS,r⟩:=ry.tupE
    cases ru
    obtain⟨bJ,w,ht,_⟩:=I.tuple hS
    obtain⟨e,he,ha⟩:=l6 (A:=X.A.in1) I rx rv 63 (by show X.A.units+1+63<cLine;omega) c r w hk
    exact SeqAt.in_tupleAt e ht he ⟨.bl _,H,I,rfl,by rw[ha];exact gH S q⟩
   ·rw[aC c]at q;exact q.elim
 |loc n=>
  simp only[uV]at q
  cases e1:st[n]? with
  |none=>rw[e1]at q;exact q.elim
  |some cc=>
   rw[e1]at q
   cases cc with
   |lst ys=>
    simp only at q
    cases hk:oP wx ys with
    |none=>rw[hk]at q;exact q.elim
    |some kk=>
     rw[hk]at q
     simp only at q
     by_cases c:depWs ys<=63
     ·rw[aw c]at q
      obtain⟨a1,g1,vs,k1,r⟩:=S.get e1
      obtain⟨b1,f1,rfl⟩:=ry.locE
      rw[g1]at f1;cases f1
      cases ru
      obtain⟨bJ,w,ht,_⟩:=I.list (qZ.of k1)
      obtain⟨e,he,ha⟩:=l6 (A:=X.A.in1) I rx rv 63 (by show X.A.units+1+63<cLine;omega) c r w hk
      exact SeqAt.in_listAt e ht.isList he ⟨.bl _,H,I,rfl,by rw[ha];exact gH S q⟩
     ·rw[aC c]at q;exact q.elim
   |_=>exact q.elim
 |_=>exact q.elim,fun x y st=>by
 unfold uV
 repeat' split
 all_goals trivial⟩
theorem AW{k:Nat}(hr:fR k X.A):pE X (compareOp .NotIn) (uV true):=⟨fun pins s σ H x y v u Q I rv ru zq=>by
 walk_at "3"
 have hu:=hr.units
 cases wy with
 |str l=>
  simp only[uV]at q
  split at q
  ·exact vT pins s σ H x y v u Q I rv ru ⟨_,_,rx.strE,ry.strE,gH S q⟩
  ·exact q.elim
 |tup ys=>
  simp only[uV]at q
  cases hk:oP wx ys with
  |none=>rw[hk]at q;exact q.elim
  |some kk=>
   rw[hk]at q
   simp only at q
   by_cases c:depWs ys<=63
   ·rw[aw c]at q
    obtain⟨p,vs,rfl,hS,r⟩:=ry.tupE
    cases ru
    obtain⟨bJ,w,ht,_⟩:=I.tuple hS
    obtain⟨e,he,ha⟩:=l6 (A:=X.A.in1) I rx rv 63 (by show X.A.units+1+63<cLine;omega) c r w hk
    exact SeqAt.notIn_tupleAt e ht he ⟨.bl _,H,I,rfl,by rw[ha];exact gH S q⟩
   ·rw[aC c]at q;exact q.elim
 |loc n=>
  simp only[uV]at q
  cases e1:st[n]? with
  |none=>rw[e1]at q;exact q.elim
  |some cc=>
   rw[e1]at q
   cases cc with
   |lst ys=>
    simp only at q
    cases hk:oP wx ys with
    |none=>rw[hk]at q;exact q.elim
    |some kk=>
     rw[hk]at q
     simp only at q
     by_cases c:depWs ys<=63
     ·rw[aw c]at q
      obtain⟨a1,g1,vs,k1,r⟩:=S.get e1
      obtain⟨b1,f1,rfl⟩:=ry.locE
      rw[g1]at f1;cases f1
      cases ru
      obtain⟨bJ,w,ht,_⟩:=I.list (qZ.of k1)
      obtain⟨e,he,ha⟩:=l6 (A:=X.A.in1) I rx rv 63 (by show X.A.units+1+63<cLine;omega) c r w hk
      exact SeqAt.notIn_listAt e ht.isList he ⟨.bl _,H,I,rfl,by rw[ha];exact gH S q⟩
     ·rw[aC c]at q;exact q.elim
   |_=>exact q.elim
 |_=>exact q.elim,fun x y st=>by
 unfold uV
 repeat' split
 all_goals trivial⟩
section
variable{w:World}
theorem xW{t sl:Addr}{vl vu:Value}{lo hi:Option Int}(ht:IsTup s.heap t items)(hs:s.heap.IsSliceOf sl vl vu .none)(pl:IsPart vl lo)(pu:IsPart vu hi)
  (hw:HT.sIx items.size 0 lo=0/\HT.sIx items.size items.size hi=items.size) (h:Q (.ref t) s):wpAny #[17] A (getItem (.ref t) (.ref sl)) Q E s:=by
 obtain⟨os,hos,hcs,JO⟩:=id hs
 have hTs:s.TypeIs (.ref sl) "slice":=⟨os,hos,hcs⟩
 unfold getItem
 try with_reducible refine bZ ?_
 first|refine ac (am ?_)|skip
 refine ac (wpAny_sequenceKey ht.typeIs #[8] ?_)
 refine ac (cN (name:=Str.ofString "__getitem__") ht.typeIs dN
  (cA dN ht.typeIs entry_tuple_getitem ?_ (args_tuple_getitem _ _)))
 show wpAny _ _ (Builtin.Tuple.tupleItemsOf (.ref t) >>= _) _ _ s
 refine ac (tupleItemsOf_ ht ?_)
 refine ac (p9 hTs ?_)
 rw[aw #[8]]
 refine ac (HT.sliceApplied_gen hs pl pu ?_)
 have hyes:(((HT.sIx items.size 0 lo:Nat):Int)==0&&(1:Int)==1&&(HT.sIx items.size items.size hi-HT.sIx items.size 0 lo)==items.size)=true:=by
  rw[hw.1,hw.2];simp
 show wpAny _ _ (if (((HT.sIx items.size 0 lo:Nat):Int)==0&&(1:Int)==1&&(HT.sIx items.size items.size hi-HT.sIx items.size 0 lo)==items.size)=true then _ else _) _ _ s
 rw[aw hyes]
 unfold Builtin.Tuple.tupleIsExact
 obtain⟨ot,hot,R4,nt,hdt⟩:=id ht
 refine ac (ac (p9 (T:="tuple") ht.typeIs ?_))
 refine am ?_
 rw[aw #[8]]
 exact ac (iz (am ⟨_,rfl,am h⟩))
end
section
variable{a b o:Expr}{fa fb fc fe:FE}{fs:FA}
noncomputable def lstOf(st:List ah)(n:Nat):Option (List W):=match st[n]? with
 |some (.lst ws)=>some ws
 |some (.ro ws)=>some ws
 |_=>none
theorem fW.lstOf{st:List ah}(S:fW K mg μ st H)(h:lstOf st n=some ws):∃a vs,μ[n]?=some a/\qZ K H a vs/\RelWs K μ H ws vs:=by
 unfold L2.lstOf at h
 cases e:st[n]? with
 |none=>rw[e]at h;cases h
 |some cc=>
  rw[e]at h
  cases cc with
  |lst zs=>cases h;obtain⟨a,g,vs,k,r⟩:=S.get e;exact⟨a,vs,g,qZ.of k,r⟩
  |ro zs=>cases h;obtain⟨a,g,vs,k,r⟩:=S.get e;exact⟨a,vs,g,k.sq,r⟩
  |exc zs=>cases h
  |dct zs=>cases h
  |rod zs=>cases h
  |dcx zs=>cases h
  |rox zs=>cases h
  |obj _ _=>cases h
  |tab _ _ _=>cases h
  |pin _ _ _ _=>cases h
  |gone=>cases h
noncomputable def m7(o:Option α)(k:α->R W):R W:=match o with
 |some a=>k a
 |none=>.bad
@[simp] theorem bE{α:Type}(a:α)(k:α->R W):m7 (some a) k=k a:=rfl
def bM(x y:W)(st:List ah):R W:=match x,y with
 |.tup ws,.int i=>m7 (n_ ws i) fun w=>.ok w st
 |.str l,.int i=>if l.length<=kE then m7 (n_ l i) (fun c=>.ok (.str [c]) st)else .bad
 |.loc n,.int i=>m7 (lstOf st n) fun ws=>m7 (n_ ws i) fun w=>.ok w st
 |_,_=>.bad
theorem AX{i:Int}{w:W}(r:RelWs K μ H ws vs)(h:n_ ws i=some w):∃v,n_ vs i=some v/\be K μ H w v:=by
 unfold n_ at h ⊢
 rw[<- r.len]
 cases e:Ol ws.length i with
 |none=>rw[e]at h;cases h
 |some k=>rw[e]at h;exact r.get h
theorem SX:Hd X (SU X bM):=fun value slice pins s σ H x y v u Q I rv ru zq hs=>by
 walk_at "3"
 refine LS value slice pins s σ H x y v u Q I rv ru ?_ hs
 cases wy with
 |int i=>
  cases wx with
  |tup ws=>
   simp only[bM]at q
   cases e1:n_ ws i with
   |none=>rw[e1]at q;exact q.elim
   |some w=>
    rw[e1]at q
    obtain⟨p,vs,rfl,hS,r⟩:=rx.tupE
    obtain⟨z,f,g⟩:=AX r e1
    exact .inr (.inl ⟨p,vs,i,z,rfl,ry.intE,hS,f,q μ z H (af _) dC.refl S g⟩)
  |str l=>
   simp only[bM]at q
   by_cases c:l.length<=kE
   ·rw[aw c]at q
    cases e1:n_ l i with
    |none=>rw[e1]at q;exact q.elim
    |some w=>
     rw[e1]at q
     exact .inr (.inr ⟨_,i,w,rx.strE,ry.intE,by rw[jw];exact jx c,by rw[LY];exact e1,pG S q⟩)
   ·rw[aC c]at q;exact q.elim
  |loc n=>
   simp only[bM]at q
   cases e0:lstOf st n with
   |none=>rw[e0]at q;exact q.elim
   |some ws=>
    rw[e0]at q
    cases e1:n_ ws i with
    |none=>rw[bE,e1]at q;exact q.elim
    |some w=>
     rw[bE,e1]at q
     obtain⟨a,vs,g,hS,r⟩:=S.lstOf e0
     obtain⟨b1,f1,rfl⟩:=rx.locE
     rw[g]at f1;cases f1
     obtain⟨z,f,g⟩:=AX r e1
     exact .inl ⟨_,vs,i,z,rfl,ry.intE,hS,f,q μ z H (af _) dC.refl S g⟩
  |_=>exact q.elim
 |_=>cases wx<;>exact q.elim
theorem hZ{o:Option α}{k:α->R W}(h:∀a,qr (k a)):qr (m7 o k):=by
 unfold m7
 split
 ·exact h _
 ·trivial
theorem Pz(x y:W)(st:List ah):qr (bM x y st):=by
 unfold bM
 split
 ·exact hZ fun _=>trivial
 ·split
  ·exact hZ fun _=>trivial
  ·trivial
 ·exact hZ fun _=>hZ fun _=>trivial
 ·trivial
theorem dk(ha:SE X a fa)(hb:SE X b fb)(hs:AH b:=by intro _ _;rfl):SE X (.Subscript a b pos) (e2 bM fa fb):=⟨(O0 SX ha.h hb.h hs).imp fun _ _ _ h=>AO Pz h⟩
abbrev FO:=cu->List ah->R (Option Int)
abbrev SY:List Addr->Hp->Option Int->Option Int->Prop:=fun _ _ a b=>a=b
structure SO(X:Cx)(e:Option Expr)(f:FO):Prop where
 h:PO X e (tG X SY f)
def AY:FO:=fun _ st=>.ok none st
def xX(fa:FE):FO:=fun ρ st=>(fa ρ st).bind fun x st=>match x with
 |.int i=>.ok (some i) st
 |_=>.bad
theorem PO.imp{e:Option Expr}{t t':TO}(h:PO X e t)(i:∀σ H Q,t' σ H Q->t σ H Q):PO X e t':=fun pins s σ H Q I q=>h pins s σ H Q I (i _ _ _ q)
theorem Il:SO X none AY:=⟨HI.imp fun σ H Q h=>by
 walk_at "2"
 exact h μ none H (af _) dC.refl l.sto rfl⟩
theorem Im(ha:SE X a fa):SO X (some a) (xX fa):=⟨(HJ ha.h).imp fun σ H Q h=>by
 walk_at "2"
 walk_at "1"
 cases x with
 |int k=>exact⟨k,q1.intE,h1 μ1 _ H1 (af _) dC.refl l1.sto rfl⟩
 |_=>exact h1.elim⟩
noncomputable def nZ(xs:List α)(lo hi:Option Int):List α:=(xs.drop (HT.sIx xs.length 0 lo)).take (HT.sIx xs.length xs.length hi-HT.sIx xs.length 0 lo)
def Hf(x:W)(lo hi:Option Int)(st:List ah):R W:=match x with
 |.tup ws=>.ok (.tup (nZ ws lo hi)) st
 |.str l=>if l.length<=kE then .ok (.str (nZ l lo hi)) st else .bad
 |.loc n=>m7 (lstOf st n) fun ws=>.ok (.loc st.length) (st++[.lst (nZ ws lo hi)])
 |_=>.bad
theorem PB(x:W)(lo hi:Option Int)(st:List ah):qr (Hf x lo hi st):=by
 unfold Hf m7
 repeat' split
 all_goals trivial
def PD(fa:FE)(fl fh:FO):FE:=fun ρ st=>(fa ρ st).bind fun x st=>(fl ρ st).bind fun l st=>(fh ρ st).bind fun h st=>Hf x l h st
theorem SZ:OY X (fun x lo hi H Q=>∃μ st wx,fW X.K X.mg μ st H/\be X.K μ H wx x/\Ds X μ H Q (Hf wx lo hi st)):=by
 intro pins s σ H x v vl vu lo hi sl Q I rv hs pl pu ⟨μ,st,wx,S,rx,q⟩
 cases wx with
 |tup ws=>
  obtain⟨p,vs,rfl,hS,r⟩:=rx.tupE
  have hl:=r.len
  by_cases hw:HT.sIx vs.length 0 lo=0/\HT.sIx vs.length vs.length hi=vs.length
  ·cases rv
   obtain⟨bJ,w,ht,hz⟩:=I.tuple hS
   have d7:bJ.toArray.size=vs.length:=by rw[aO];exact w.length.symm
   refine⟨"tuple",_,dN.lookup,ht.typeIs,xW ht hs pl pu (by rw[d7];exact hw) ⟨.ref p,H,I,rfl,?_⟩⟩
   have e:nZ ws lo hi=ws:=by
    unfold nZ
    rw[hl,hw.1,hw.2,List.drop_zero,Nat.sub_zero,<- hl,eY]
   have q':Ds X μ H Q (.ok (.tup (nZ ws lo hi)) st):=q
   rw[e]at q'
   exact q' μ _ H (af _) dC.refl S rx
  ·refine LO pins s σ H _ v vl vu lo hi sl Q I rv hs pl pu ⟨p,vs,rfl,hS,hw,fun p2 hp2=>?_⟩
   have x:=fO.same (K:=X.K) (cy hp2 (.tup (sd vs lo hi)))
   have rc:RelWs X.K μ H (nZ ws lo hi) (sd vs lo hi):=by
    unfold nZ sd
    rw[hl]
    exact(r.drop _).take _
   exact q μ _ _ (af _) x (S.same (cy hp2 _)) (.tupI fO.new (rc.mono (af _) x))
 |str l=>
  simp only[Hf]at q
  by_cases c:l.length<=kE
  ·rw[aw c]at q
   exact L3 pins s σ H _ v vl vu lo hi sl Q I rv hs pl pu ⟨l,rx.strE,jx c,pG S q⟩
  ·rw[aC c]at q;exact q.elim
 |loc n=>
  simp only[Hf]at q
  cases e0:lstOf st n with
  |none=>rw[e0]at q;exact q.elim
  |some ws=>
   rw[e0]at q
   obtain⟨a,vs,g,hS,r⟩:=S.lstOf e0
   obtain⟨b1,f1,rfl⟩:=rx.locE
   rw[g]at f1;cases f1
   have hl:=r.len
   refine HN pins s σ H _ v vl vu lo hi sl Q I rv hs pl pu ⟨_,vs,rfl,hS,fun p2 hp2=>?_⟩
   have rc:RelWs X.K μ H (nZ ws lo hi) (sd vs lo hi):=by
    unfold nZ sd
    rw[hl]
    exact(r.drop _).take _
   exact q (μ++[p2]) _ _ (aJ _ _) (fO.same (cy hp2 _)) (S.newLst hp2 rc) (no S)
 |_=>exact q.elim
theorem S_{lo hi:Option Expr}{fl fh:FO}(ha:SE X a fa)(hl:SO X lo fl)(hh:SO X hi fh):SE X (.Subscript a (.Slice lo hi none p2) pos) (PD fa fl fh):=⟨(DI SZ ha.h hl.h hh.h).imp fun σ H Q h=>by
 walk_at "2"
 refine⟨μ,ρ,st,l,RK.bind h l fun μ1 st1 x v H1 p1 x1 l1 q1 h1=>⟨μ1,ρ,st1,l1,RK.bind h1 l1 fun μ2 cV y u H2 p2 x2 l2 q2 h2=>⟨μ2,ρ,cV,l2,RK.bind h2 l2 fun μ3 jv z t H3 p3 x3 l3 q3 h3=>?_⟩⟩⟩
 cases q2;cases q3
 exact⟨μ3,jv,x,l3.sto,(q1.mono p2 x2).mono p3 x3,sk h3 (PB _ _ _ _)⟩⟩
def TW(X:Cx)(F:List W->List ah->R W):List V->Hp->VK->Prop:=fun vs H Q=>∃μ st ws,fW X.K X.mg μ st H/\RelWs X.K μ H ws vs/\Ds X μ H Q (F ws st)
structure lA(X:Cx)(f:Value)(F:List W->List ah->R W):Prop where
 h:iV X f (TW X F)
 n:∀ws st,qr (F ws st)
def bh(F:List W->List ah->R W)(fs:FA):FE:=fun ρ st=>(fs ρ st).bind fun ws st=>F ws st
theorem AZ{Q:VK}(n:∀ws st,qr (F ws st))(h:tE X (bh F fs) σ H Q):Sv (TW X F) (Pl X fs) σ H Q:=by
 walk_at "2"
 exact⟨μ,ρ,st,l,RK.bind h l fun μ1 st1 x v H1 p1 x1 l1 q1 h1=>⟨μ1,st1,x,l1.sto,q1,sk h1 (n _ _)⟩⟩
theorem eS{id:String}(hc:lA X (.builtin id) F)(hm:X.mg x=none)(hv:bootBuiltins x=some (.builtin id))(ha:SA X (e::es) fs)(hg:Gl X x:=by rfl)(hn:x ≠ "__name__":=by decide)(zd:(x==("__debug__":Str))=false:=by decide)
  (he:starEach (e::es) X.env=(false,eval e X.env)::starEach es X.env:=by rfl) (qK:(backTo pos (starEach es X.env)).any (·.1)=false:=by rfl):SE X (.Call (.Name x p) (e::es) [] pos) (bh F fs):=⟨(xG hc.h hg hm hv ha.h hn zd he qK).imp fun _ _ _ h=>AZ hc.n h⟩
theorem e_{T:String}(hc:lA X (.type T) F)(hm:X.mg x=none)(hv:bootBuiltins x=some (.type T))(ha:SA X (e::es) fs)(hg:Gl X x:=by rfl)(hn:x ≠ "__name__":=by decide)(zd:(x==("__debug__":Str))=false:=by decide)
  (he:starEach (e::es) X.env=(false,eval e X.env)::starEach es X.env:=by rfl) (qK:(backTo pos (starEach es X.env)).any (·.1)=false:=by rfl):SE X (.Call (.Name x p) (e::es) [] pos) (bh F fs):=⟨(qm hc.h hg hm hv ha.h hn zd he qK).imp fun _ _ _ h=>AZ hc.n h⟩
theorem RelWs.two{a b:W}(r:RelWs K μ H [a,b] vs):∃x y,vs=[x,y]/\be K μ H a x/\be K μ H b y:=by
 obtain⟨x,xs,rfl,rx,rn⟩:=r.consE
 obtain⟨y,ys,rfl,ry,rm⟩:=rn.consE
 rw[rm.nilE];exact⟨x,y,rfl,rx,ry⟩
theorem RelWs.one{a:W}(r:RelWs K μ H [a] vs):∃x,vs=[x]/\be K μ H a x:=by
 obtain⟨x,xs,rfl,rx,rn⟩:=r.consE
 rw[rn.nilE];exact⟨x,rfl,rx⟩
def cR(ws:List W)(st:List ah):R W:=match ws with
 |[.tup xs]=>.ok (.int xs.length) st
 |[.str l]=>if l.length<=kE then .ok (.int l.length) st else .bad
 |[.loc n]=>m7 (lstOf st n) fun xs=>.ok (.int xs.length) st
 |_=>.bad
theorem jl:lA X (.builtin "len") cR:=⟨fun pins s σ H vs us Q I rv zq=>by
 obtain⟨μ,st,ws,S,r,q⟩:=zq
 unfold cR at q
 split at q
 ·obtain⟨x,rfl,rx⟩:=r.one
  obtain⟨p,ys,rfl,hS,r'⟩:=rx.tupE
  exact pi pins s σ H _ us Q I rv ⟨p,ys,rfl,.inr hS,by rw[<- r'.len];exact kL S q⟩
 ·obtain⟨x,rfl,rx⟩:=r.one
  split at q
  ·rename_i c
   exact vN pins s σ H _ us Q I rv ⟨_,by rw[rx.strE],by rw[jw];exact jx c,by rw[jw];exact kL S q⟩
  ·exact q.elim
 ·obtain⟨x,rfl,rx⟩:=r.one
  unfold m7 at q
  split at q
  ·rename_i ys e0
   obtain⟨a,vs,g,hS,r'⟩:=S.lstOf e0
   obtain⟨b1,f1,rfl⟩:=rx.locE
   rw[g]at f1;cases f1
   exact pi pins s σ H _ us Q I rv ⟨_,vs,rfl,.inl hS,by rw[<- r'.len];exact kL S q⟩
  ·exact q.elim
 ·exact q.elim,fun ws st=>by
 unfold cR m7
 repeat' split
 all_goals trivial⟩
noncomputable def Cy(ws:List W)(st:List ah):R W:=match ws with
 |[.int i,.int j]=>.ok (.int (if j>i then j else i)) st
 |_=>.bad
theorem J2(hc:X.calm=true:=by rfl):lA X (.builtin "max") Cy:=⟨fun pins s σ H vs us Q I rv zq=>by
 obtain⟨μ,st,ws,S,r,q⟩:=zq
 unfold Cy at q
 split at q
 ·obtain⟨x,y,rfl,rx,ry⟩:=r.two
  exact Cf hc pins s σ H _ us Q I rv ⟨_,_,by rw[rx.intE,ry.intE],kL S q⟩
 ·exact q.elim,fun ws st=>by unfold Cy;split<;>trivial⟩
def dD(ws:List W)(st:List ah):R W:=match ws with
 |[.tup xs]=>.ok (.tup xs) st
 |[.loc n]=>m7 (lstOf st n) fun xs=>.ok (.tup xs) st
 |_=>.bad
theorem ib:lA X (.type "tuple") dD:=⟨fun pins s σ H vs us Q I rv zq=>by
 obtain⟨μ,st,ws,S,r,q⟩:=zq
 unfold dD at q
 split at q
 ·obtain⟨x,rfl,rx⟩:=r.one
  obtain⟨p,ys,rfl,hS,r'⟩:=id rx.tupE
  exact xH pins s σ H _ us Q I rv ⟨p,ys,rfl,hS,q μ _ H (af _) dC.refl S rx⟩
 ·obtain⟨x,rfl,rx⟩:=r.one
  unfold m7 at q
  split at q
  ·rename_i ys e0
   obtain⟨a,vs,g,hS,r'⟩:=S.lstOf e0
   obtain⟨b1,f1,rfl⟩:=rx.locE
   rw[g]at f1;cases f1
   refine xQ pins s σ H _ us Q I rv ⟨_,vs,rfl,hS,fun l H2 hl e=>?_⟩
   subst e
   have x:=fO.same (K:=X.K) (cy hl (.tup vs))
   exact q μ _ _ (af _) x (S.same (cy hl _)) (.tupI fO.new (r'.mono (af _) x))
  ·exact q.elim
 ·exact q.elim,fun ws st=>by
 unfold dD m7
 repeat' split
 all_goals trivial⟩
noncomputable def Ee(ws:List W)(st:List ah):R W:=match ws with
 |[.int i]=>.ok (.int i) st
 |[.bl k]=>.ok (.int (if k then 1 else 0)) st
 |_=>.bad
theorem PF:lA X (.type "int") Ee:=⟨fun pins s σ H vs us Q I rv zq=>by
 obtain⟨μ,st,ws,S,r,q⟩:=zq
 unfold Ee at q
 split at q
 ·obtain⟨x,rfl,rx⟩:=r.one
  exact uM pins s σ H _ us Q I rv (.inl ⟨_,by rw[rx.intE],kL S q⟩)
 ·obtain⟨x,rfl,rx⟩:=r.one
  exact uM pins s σ H _ us Q I rv (.inr ⟨_,by rw[rx.blE],kL S q⟩)
 ·exact q.elim,fun ws st=>by unfold Ee;split<;>trivial⟩
end
section
variable{a b o:Expr}{fa fb fc fe:FE}{fs:FA}{ft:FT}{st1:Stmt}{sr sa sb:List Stmt}{g g':FS}
def a7(g g':FS):FS:=fun ρ st=>match g ρ st with
 |.nx ρ' bL=>g' ρ' bL
 |r=>r
def cK:FS:=fun ρ st=>.nx ρ st
theorem i_:SB X [] cK:=⟨Hs.imp fun D σ H h=>by
 walk_at "2"
 exact h μ σ H (af _) dC.refl l⟩
theorem df(h1:SS X st1 g):SB X [st1] g:=⟨Ht h1.h⟩
theorem bd(h1:SS X st1 g)(h2:SB X sr g'):SB X (st1::sr) (a7 g g'):=⟨(xD h1.h h2.h).imp fun D σ H h=>by
 walk_at "2"
 refine⟨μ,ρ,st,l,?_⟩
 unfold a7 at h
 cases e:g ρ st with
 |nx ρ' bL=>rw[e]at h;exact fun μ' σ' H' p x l'=>⟨μ',ρ',bL,l',SK.mono h p x⟩
 |rt w bL=>rw[e]at h;exact h
 |bk ρ' bL=>rw[e]at h;exact h
 |ct ρ' bL=>rw[e]at h;exact h
 |ex c ρ' bL=>rw[e]at h;exact h
 |bad=>rw[e]at h;exact h⟩
def R.stmt(r:R α)(ρ:cu)(k:α->List ah->RS):RS:=match r with
 |.ok a st=>k a st
 |.ex c st=>.ex c ρ st
 |.bad=>.bad
@[simp] theorem R.stmt_ok{α:Type}(a:α)(st:List ah)(ρ:cu)(k:α->List ah->RS):(R.ok a st).stmt ρ k=k a st:=rfl
theorem RK.stmt{jq:List Addr->Hp->α->β->Prop}{ρ:cu}{st:List ah}{D:xB}{r:R α}{k:α->List ah->RS}{T:β->Hp->Prop}
  (h:SK X μ H D (r.stmt ρ k)) (l:Rl X μ ρ st σ H)
  (hk:∀μ' bL x v H',μ <+: μ'->dC X.K H H'->Rl X μ' ρ bL σ H'->jq μ' H' x v->SK X μ' H' D (k x bL)->T v H'):RK X jq μ σ H T r:=by
 cases r with
 |ok a bL=>exact fun μ' b H' p x s q=>hk μ' bL a b H' p x (l.to p x s) q (SK.mono h p x)
 |ex c bL=>exact XS.toE h l
 |bad=>exact h
def ga(fe:FE):FS:=fun ρ st=>(fe ρ st).stmt ρ fun _ st=>.nx ρ st
theorem kM(he:SE X e fe)(hs:swapsWith e none pos.line X.env=pure false:=by rfl):SS X (.Expr e pos) (ga fe):=⟨(Hu he.h hs).imp fun D σ H h=>by
 walk_at "2"
 exact⟨μ,ρ,st,l,RK.stmt h l fun μ1 st1 x v H1 p1 x1 l1 q1 h1=>h1 μ1 σ H1 (af _) dC.refl l1⟩⟩
def cO(fe:FE):FS:=fun ρ st=>(fe ρ st).stmt ρ fun w st=>.rt w st
theorem fX(he:SE X e fe):SS X (.Return (some e) pos) (cO fe):=⟨(Lr he.h).imp fun D σ H h=>by
 walk_at "2"
 exact⟨μ,ρ,st,l,RK.stmt h l fun μ1 st1 x v H1 p1 x1 l1 q1 h1=>h1 μ1 v H1 (af _) dC.refl l1.sto q1⟩⟩
def iX(t:FT)(g g':FS):FS:=fun ρ st=>(t ρ st).stmt ρ fun k st=>if k then g ρ st else g' ρ st
theorem lB(hc:ST X c ft)(ha:SB X sa g)(hb:SB X sb g'):SS X (.If c sa sb pos) (iX ft g g'):=⟨(OK hc.h ha.h hb.h).imp fun D σ H h=>by
 walk_at "2"
 refine⟨μ,ρ,st,l,RK.stmt h l fun μ1 st1 x v H1 p1 x1 l1 q1 h1=>?_⟩
 cases q1
 cases x with
 |true=>exact⟨μ1,ρ,st1,l1,h1⟩
 |false=>exact⟨μ1,ρ,st1,l1,h1⟩⟩
abbrev FG:=W->cu->Option cu
abbrev J3:=List W->cu->Option cu
def RO(X:Cx)(f:FG):TG:=fun v σ H Q=>∃μ ρ st w ρ',Rl X μ ρ st σ H/\be X.K μ H w v/\f w ρ=some ρ'/\∀σ',Rl X μ ρ' st σ' H->Q σ' H
def Ta(X:Cx)(f:J3):Hv:=fun vs σ H Q=>∃μ ρ st ws ρ',Rl X μ ρ st σ H/\RelWs X.K μ H ws vs/\f ws ρ=some ρ'/\∀σ',Rl X μ ρ' st σ' H->Q σ' H
theorem PG.imp{t t':TG}(h:PG X e t)(i:∀v σ H Q,t' v σ H Q->t v σ H Q):PG X e t':=fun pins s σ H x u Q I r q=>h pins s σ H x u Q I r (i _ _ _ _ q)
theorem JP.imp{e:List Expr}{t t':Hv}(h:JP X e t)(i:∀v σ H Q,t' v σ H Q->t v σ H Q):JP X e t':=fun pins s σ H x u Q I r q=>h pins s σ H x u Q I r (i _ _ _ _ q)
structure SG(X:Cx)(e:Expr)(f:FG):Prop where
 h:PG X e (RO X f)
structure RP(X:Cx)(e:List Expr)(f:J3):Prop where
 h:JP X e (Ta X f)
def eG(i:Nat):FG:=fun w ρ=>some (ρ.set i (some w))
theorem rG(hN:X.N.Nodup)(hi:X.N[i]?=some x)(hx:B8 X.env.scope x)(hf:X.fn x=true\/X.env.scope.names.lookup x=some .local:=by first|exact .inl rfl|exact .inr rfl|assumption):SG X (.Name x pos) (eG i):=⟨(Hz hN hi hx hf).imp fun v σ H Q h=>by
 obtain⟨μ,ρ,st,w,ρ',l,r,e,q⟩:=h
 cases e
 exact q _ ⟨pD r i l.env,l.sto⟩⟩
def A0:J3:=fun ws ρ=>match ws with
 |[]=>some ρ
 |_=>none
def nq(f:FG)(fs:J3):J3:=fun ws ρ=>match ws with
 |w::ws=>(f w ρ).bind fun ρ'=>fs ws ρ'
 |[]=>none
theorem A1:RP X [] A0:=⟨HA.imp fun vs σ H Q h=>by
 obtain⟨μ,ρ,st,ws,ρ',l,r,e,q⟩:=h
 cases ws with
 |nil=>cases e;exact⟨r.nilE,q σ l⟩
 |cons _ _=>cases e⟩
theorem sD{f:FG}{fs:J3}(h1:SG X e f)(h2:RP X es fs)(hs:(assignEach (e::es) X.env).map (·.2)=assign e X.env::(assignEach es X.env).map (·.2):=by rfl):RP X (e::es) (nq f fs):=⟨(Dy h1.h h2.h hs).imp fun vs σ H Q h=>by
 obtain⟨μ,ρ,st,ws,ρ',l,r,e,q⟩:=h
 cases ws with
 |nil=>cases e
 |cons w ws=>
  obtain⟨x,xs,rfl,rx,rs⟩:=r.consE
  simp only[nq]at e
  cases e1:f w ρ with
  |none=>rw[e1]at e;cases e
  |some ρ1=>
   rw[e1]at e
   exact⟨x,xs,rfl,μ,ρ,st,w,ρ1,l,rx,e1,fun σ1 l1=>⟨μ,ρ1,st,ws,ρ',l1,rs,e,q⟩⟩⟩
def PH(n:Nat)(fs:J3):FG:=fun w ρ=>match w with
 |.tup ws=>if ws.length=n then fs ws ρ else none
 |_=>none
theorem Ef{k:Nat}{fs:J3}(hc:X.calm=true)(h:RP X es fs)(hn:(assignEach es X.env).length=n:=by rfl)(wW:(assignEach es X.env).findIdx? (·.1)=none:=by rfl):SG X (.Tuple es k pos) (PH n fs):=⟨(Ls hc h.h hn wW).imp fun v σ H Q h=>by
 obtain⟨μ,ρ,st,w,ρ',l,r,e,q⟩:=h
 cases w with
 |tup ws=>
  obtain⟨p,vs,rfl,hS,rs⟩:=r.tupE
  simp only[PH]at e
  by_cases c:ws.length=n
  ·rw[aw c]at e
   exact⟨p,vs,rfl,hS,by rw[<- rs.len];exact c,μ,ρ,st,ws,ρ',l,rs,e,q⟩
  ·rw[aC c]at e;cases e
 |_=>cases e⟩
def zJ(fe:FE)(f:FG):FS:=fun ρ st=>(fe ρ st).stmt ρ fun w st=>match f w ρ with
 |some ρ'=>.nx ρ' st
 |none=>.bad
def cC(i:Nat)(fe:FE):FS:=fun ρ st=>(fe ρ st).stmt ρ fun w st=>.nx (ρ.set i (some w)) st
theorem Mg(hN:X.N.Nodup)(hi:X.N[i]?=some x)(hx:B8 X.env.scope x)(he:SE X e fe)(hs:swapsWith e (some (.Name x jp)) pos.line X.env=pure false:=by rfl)(hf:X.fn x=true\/X.env.scope.names.lookup x=some .local:=by first|exact .inl rfl|exact .inr rfl|assumption) :
  SS X (.Assign [.Name x jp] e pos) (cC i fe):=⟨(Lw hN hi hx he.h hs hf).imp fun D σ H h=>by
 walk_at "2"
 exact⟨μ,ρ,st,l,RK.stmt h l fun μ1 st1 x v H1 p1 x1 l1 q1 h1=>h1 μ1 _ H1 (af _) dC.refl ⟨pD q1 i l1.env,l1.sto⟩⟩⟩
def rf(fo fi fe:FE)(f:W->W->W->List ah->Option (List ah)):FS:=fun ρ st=>(fe ρ st).stmt ρ fun v st=>(fo ρ st).stmt ρ fun x st=>(fi ρ st).stmt ρ fun i st=>match f x i v st with
 |some bL=>.nx ρ bL
 |none=>.bad
def Eg(X:Cx)(f:W->W->W->List ah->Option (List ah)):Hw:=fun o i v H Q=>∃μ st wo wi wv bL,fW X.K X.mg μ st H/\be X.K μ H wo o/\be X.K μ H wi i/\be X.K μ H wv v/\f wo wi wv st=some bL/\∀H',dC X.K H H'->fW X.K X.mg μ bL H'->Q H'
theorem vW{f:W->W->W->List ah->Option (List ah)}{i:Expr}{fi:FE}{fo:FE}(Tp:Hy X (Eg X f))(he:SE X e fe)(ho:SE X o fo)(hi:SE X i fi)
  (ha:∀v,assign (.Subscript o i jp) X.env v=(do
   let ov <- holding [v] (eval o X.env)
   let iv <- holding [v,ov] (eval i X.env)
   standAt jp
   holding [v,ov,iv] (setItem ov iv v)
   release [v,ov,iv] []):=by intro _;rfl)
  (hs:swapsWithSole [.Subscript o i jp] e pos.line X.env=pure false:=by rfl) (hw:swappedStores [.Subscript o i jp] e X.env=pure none:=by rfl) (h1:(assignEach [.Subscript o i jp] X.env).map (·.2)=[assign (.Subscript o i jp) X.env]:=by rfl) :
  SS X (.Assign [.Subscript o i jp] e pos) (rf fo fi fe f):=⟨(Lv he.h (Lu ho.h hi.h Tp ha) hs hw h1).imp fun D σ H h=>by
 walk_at "2"
 refine⟨μ,ρ,st,l,RK.stmt h l fun μ1 st1 v vv H1 p1 x1 l1 q1 h1=>⟨μ1,ρ,st1,l1,RK.stmt h1 l1 fun μ2 cV x xv H2 p2 x2 l2 q2 h2=>⟨μ2,ρ,cV,l2,RK.stmt h2 l2 fun μ3 jv i iv H3 p3 x3 l3 q3 h3=>?_⟩⟩⟩
 cases e1:f x i v jv with
 |none=>rw[e1]at h3;exact h3.elim
 |some bL=>
  rw[e1]at h3
  exact⟨μ3,jv,x,i,v,bL,l3.sto,q2.mono p3 x3,q3,(q1.mono p2 x2).mono p3 x3,e1,fun H' xx S'=>h3 μ3 σ H' (af _) xx (l3.to (af _) xx S')⟩⟩
end
def iY(st:List ah):Option (Nat×List W)->Prop
 |none=>True
 |some (n,ws)=>lstOf st n=some ws
noncomputable abbrev zK:=List W×Option (Nat×List W)
abbrev FI:=cu->List ah->R zK
def zL(X:Cx)(J:It)(k:zK)(μ:List Addr)(H:Hp):Prop:=
 ∀(i:Nat) μ' bL H',μ <+: μ'->dC X.K H H'->fW X.K X.mg μ' bL H'->iY bL k.2 ->
  (∀w,k.1[i]?=some w->J.go i H'/\∀x H'',J.yld i H' x H''->dC X.K H' H''/\fW X.K X.mg μ' bL H''/\be X.K μ' H'' w x)/\(k.1.length<=i->J.stop i H')
abbrev PJ(X:Cx):List Addr->Hp->zK->It->Prop:=fun μ H k J=>zL X J k μ H
structure SI(X:Cx)(tg it:Expr)(f:FI):Prop where
 h:PI X tg it (fun σ H R=>tG X (PJ X) f σ H R)
theorem PI.imp{it:Expr}{t t':TI}(h:PI X tg it t)(i:∀σ H Q,t' σ H Q->t σ H Q):PI X tg it t':=fun pins s σ H Q I q=>h pins s σ H Q I (i _ _ _ q)
open Classical in
def sE(f:FG)(body:FS)(ck:Option (Nat×List W)):List W->FS
 |[],ρ,st=>if iY st ck then .nx ρ st else .bad
 |w::ws,ρ,st=>if iY st ck then(match f w ρ with
  |none=>.bad
  |some ρ'=>(match body ρ' st with
   |.nx ρ2 cV=>sE f body ck ws ρ2 cV
   |.ct ρ2 cV=>sE f body ck ws ρ2 cV
   |.bk ρ2 cV=>.nx ρ2 cV
   |.rt w cV=>.rt w cV
   |.ex c ρ2 cV=>.ex c ρ2 cV
   |.bad=>.bad))else .bad
def fg(fi:FI)(f:FG)(body:FS):FS:=fun ρ st=>(fi ρ st).stmt ρ fun k st=>sE f body k.2 k.1 ρ st
section
variable{a b o:Expr}{fa fb fe:FE}{fs:FA}{ft:FT}{g:FS}{f:FG}{fi:FI}
theorem k7(hi:SI X tg iter fi)(hg:SG X tg f)(hb:SB X body g)(hc:X.calm=true:=by rfl)(hp:PassesOwn #[2] X.A X.env X.xe:=by passes_own)(hs:∀x,foldedSetIterable iter X.env x=pure x:=by intro _;rfl):SS X (.For tg iter body [] pos) (fg fi f g):=⟨(Ly hp hc hi.h hg.h hb.h hs).imp fun D σ H h=>by
 walk_at "2"
 refine⟨μ,ρ,st,l,RK.stmt h l fun μ1 st1 k J H1 p1 x1 l1 wk h1=>?_⟩
 refine⟨fun i m σ' H'=>i<=k.1.length/\m=k.1.length-i/\∃μ' ρ' bL,μ1 <+: μ'/\dC X.K H1 H'/\Rl X μ' ρ' bL σ' H'/\SK X μ' H' D (sE f g k.2 (k.1.drop i) ρ' bL),
  ⟨_,cJ _,rfl,μ1,ρ,st1,af _,dC.refl,l1,h1⟩,?_⟩
 rintro i m σ' H' ⟨hi,rfl,μ',ρ',bL,pm,xm,lm,hm⟩
 by_cases ju:i<k.1.length
 ·rw[fE ju]at hm
  unfold sE at hm
  by_cases ck:iY bL k.2
  ·rw[aw ck]at hm
   obtain⟨go,yld⟩:=(wk i μ' bL H' pm xm lm.sto ck).1 _ (ae ju)
   cases hf:f k.1[i] ρ' with
   |none=>rw[hf]at hm;exact hm.elim
   |some ρ2=>
    rw[hf]at hm
    simp only at hm
    refine .inr ⟨go,fun σ2 H2=>∃μ2 ρ3 cV,μ' <+: μ2/\dC X.K H' H2/\Rl X μ2 ρ3 cV σ2 H2/\SK X μ2 H2 D (sE f g k.2 (k.1.drop (i+1)) ρ3 cV),fun σ2 H2 ⟨μ2,ρ3,cV,q1,q2,q3,q4⟩=>
     ⟨_,by omega,ju,rfl,μ2,ρ3,cV,pm.trans q1,xm.trans q2,q3,q4⟩,fun x H2 hy=>?_⟩
    obtain⟨y1,y2,y3⟩:=yld x H2 hy
    refine⟨μ',ρ',bL,k.1[i],ρ2,lm.to (af _) y1 y2,y3,hf,fun σ2 l2=>⟨μ',ρ2,bL,l2,?_⟩⟩
    cases e:g ρ2 bL with
    |nx ρ3 jv=>rw[e]at hm;exact fun μ4 σ4 H4 p4 x4 l4=>⟨μ4,ρ3,jv,p4,y1.trans x4,l4,SK.mono hm p4 (y1.trans x4)⟩
    |ct ρ3 jv=>rw[e]at hm;exact fun μ4 σ4 H4 p4 x4 l4=>⟨μ4,ρ3,jv,p4,y1.trans x4,l4,SK.mono hm p4 (y1.trans x4)⟩
    |bk ρ3 jv=>rw[e]at hm;exact fun μ4 σ4 H4 p4 x4 l4=>hm μ4 σ4 H4 p4 (y1.trans x4) l4
    |rt w jv=>rw[e]at hm;exact fun μ4 v4 H4 p4 x4=>hm μ4 v4 H4 p4 (y1.trans x4)
    |ex c ρ3 jv=>rw[e]at hm;exact XS.mono hm (af _) y1
    |bad=>rw[e]at hm;exact hm
  ·rw[aC ck]at hm;exact hm.elim
 ·have hi':i=k.1.length:=by omega
  subst hi'
  rw[mx (au _)]at hm
  unfold sE at hm
  by_cases ck:iY bL k.2
  ·rw[aw ck]at hm
   exact .inl ⟨(wk _ μ' bL H' pm xm lm.sto ck).2 (au _),hm μ' σ' H' (af _) dC.refl lm⟩
  ·rw[aC ck]at hm;exact hm.elim⟩
def fY(t:FT)(body:FS):Nat->FS
 |0,_,_=>.bad
 |n+1,ρ,st=>(t ρ st).stmt ρ fun k st=>if k then(match body ρ st with
   |.nx ρ2 cV=>fY t body n ρ2 cV
   |.ct ρ2 cV=>fY t body n ρ2 cV
   |.bk ρ2 cV=>.nx ρ2 cV
   |.rt w cV=>.rt w cV
   |.ex c ρ2 cV=>.ex c ρ2 cV
   |.bad=>.bad)else .nx ρ st
open Classical in
def l7(t:FT)(body:FS):FS:=fun ρ st=>if h:∃n,fY t body n ρ st≠.bad then fY t body h.choose ρ st else .bad
theorem nr(t:FT)(g:FS):∀(n:Nat) (ρ:cu) (st:List ah),fY t g n ρ st≠.bad->fY t g (n+1) ρ st=fY t g n ρ st
 |0,_,_,h=>absurd rfl h
 |n+1,ρ,st,h=>by
  unfold fY at h ⊢
  cases e:t ρ st with
  |ex c st1=>rfl
  |bad=>rfl
  |ok k st1=>
   rw[e]at h
   simp only[R.stmt_ok]at h ⊢
   cases k with
   |false=>rfl
   |true=>
    simp only[dS]at h ⊢
    cases e2:g ρ st1 with
    |nx ρ2 cV=>rw[e2]at h;exact nr t g n ρ2 cV h
    |ct ρ2 cV=>rw[e2]at h;exact nr t g n ρ2 cV h
    |_=>rfl
theorem uW{t:FT}{n m:Nat}{ρ:cu}{st:List ah}(h:fY t g n ρ st≠.bad)(hm:n<=m):fY t g m ρ st=fY t g n ρ st:=by
 induction hm with
 |refl=>rfl
 |@step m _ ih=>rw[nr t g m ρ st (by rw[ih];exact h),ih]
theorem Cz{t:FT}{ρ:cu}{st:List ah}{r:RS}(h:fY t g n ρ st=r)(hr:r≠.bad):l7 t g ρ st=r:=by
 have hx:∃n,fY t g n ρ st≠.bad:=⟨n,by rw[h];exact hr⟩
 unfold l7
 rw[my hx]
 have c:=hx.choose_spec
 have a:=uW c (Nat.le_max_left hx.choose n)
 have b:=uW (n:=n) (m:=max hx.choose n) (by rw[h];exact hr) (Nat.le_max_right _ _)
 rw[<- a,b,h]
theorem xY{t:FT}{D:xB}:∀(n:Nat) (σ:St) (H:Hp) (μ:List Addr) (ρ:cu) (st:List ah),Rl X μ ρ st σ H->SK X μ H D (fY t g n ρ st)->Dz (tT X t) (Pm X g) D σ H:=by
 intro n σ H μ ρ st l h
 refine⟨fun m σ' H'=>∃μ' ρ' bL,Rl X μ' ρ' bL σ' H'/\SK X μ' H' D (fY t g m ρ' bL),⟨n,μ,ρ,st,l,h⟩,?_⟩
 rintro m σ' H' ⟨μ',ρ',bL,l',h'⟩
 cases m with
 |zero=>exact h'.elim
 |succ m=>
  refine⟨μ',ρ',bL,l',RK.stmt h' l' fun μ1 st1 k v H1 p1 x1 l1 q1 h1=>?_⟩
  cases q1
  cases k with
  |false=>exact h1 μ1 σ' H1 (af _) dC.refl l1
  |true=>
   refine⟨fun σ2 H2=>∃μ2 ρ2 cV,Rl X μ2 ρ2 cV σ2 H2/\SK X μ2 H2 D (fY t g m ρ2 cV),fun σ2 H2 z=>⟨m,jg m,z⟩,μ1,ρ',st1,l1,?_⟩
   simp only[dS]at h1
   cases e:g ρ' st1 with
   |nx ρ3 jv=>rw[e]at h1;exact fun μ4 σ4 H4 p4 x4 l4=>⟨μ4,ρ3,jv,l4,SK.mono h1 p4 x4⟩
   |ct ρ3 jv=>rw[e]at h1;exact fun μ4 σ4 H4 p4 x4 l4=>⟨μ4,ρ3,jv,l4,SK.mono h1 p4 x4⟩
   |bk ρ3 jv=>rw[e]at h1;exact h1
   |rt w jv=>rw[e]at h1;exact h1
   |ex c ρ3 jv=>rw[e]at h1;exact h1
   |bad=>rw[e]at h1;exact h1
theorem sF{t:FT}(hc:ST X c t)(hb:SB X body g)(hp:PassesOwn #[2] X.A X.env X.xe:=by passes_own):SS X (.While c body [] pos) (l7 t g):=⟨(DA hp hc.h hb.h).imp fun D σ H h=>by
 walk_at "2"
 unfold l7 at h
 by_cases hx:∃n,fY t g n ρ st≠.bad
 ·rw[my hx]at h;exact xY _ σ H μ ρ st l h
 ·rw[dif_neg hx]at h;exact h.elim⟩
def Eh(fe:FE):FI:=fun ρ st=>(fe ρ st).bind fun x st=>match x with
 |.tup ws=>.ok (ws,none) st
 |_=>.bad
theorem Ei(he:SE X e fe):SI X tg e (Eh fe):=⟨(Lx he.h).imp fun σ H R h=>by
 walk_at "2"
 walk_at "1"
 cases x with
 |tup ws=>
  obtain⟨p,vs,rfl,hS,r⟩:=q1.tupE
  refine⟨p,rfl,⟨vs,hS⟩,h1 μ1 _ H1 (af _) dC.refl l1.sto fun i μ' bL H' pp xx S _=>⟨fun w hw=>?_,fun hl=>⟨vs,xx _ _ hS,by rw[<- r.len];exact hl⟩⟩⟩
  have r':=r.mono pp xx
  obtain⟨v,g1,g2⟩:=r'.get hw
  refine⟨⟨vs,v,xx _ _ hS,g1⟩,fun y H'' hy=>?_⟩
  obtain⟨rfl,hy⟩:=hy
  have:=hy vs (xx _ _ hS)
  rw[g1]at this;cases this
  exact⟨dC.refl,S,g2⟩
 |_=>exact h1.elim⟩
def J4(fe:FE):FI:=fun ρ st=>(fe ρ st).bind fun x st=>match x with
 |.loc n=>(match lstOf st n with
  |some ws=>.ok (ws,some (n,ws)) st
  |none=>.bad)
 |_=>.bad
theorem Mh(he:SE X e fe):SI X tg e (J4 fe):=⟨(HC he.h).imp fun σ H R h=>by
 walk_at "2"
 walk_at "1"
 cases x with
 |loc n=>
  obtain⟨a,ha,rfl⟩:=q1.locE
  simp only at h1
  cases e1:lstOf st1 n with
  |none=>rw[e1]at h1;exact h1.elim
  |some ws=>
   rw[e1]at h1
   obtain⟨a',vs0,g0,hS0,r0⟩:=l1.sto.lstOf e1
   rw[ha]at g0;cases g0
   refine⟨a,rfl,⟨vs0,hS0⟩,h1 μ1 _ H1 (af _) dC.refl l1.sto fun i μ' bL H' pp xx S ck=>?_⟩
   obtain⟨a2,vs,g2,hS,r⟩:=S.lstOf (show lstOf bL n=some ws from ck)
   have:μ'[n]?=some a:=pre_get pp ha
   rw[g2]at this;cases this
   refine⟨fun w hw=>?_,fun hl=>⟨vs,hS,by rw[<- r.len];exact hl⟩⟩
   obtain⟨v,g1,g3⟩:=r.get hw
   refine⟨⟨vs,v,hS,g1⟩,fun y H'' hy=>?_⟩
   obtain⟨rfl,hy⟩:=hy
   have:=hy vs hS
   rw[g1]at this;cases this
   exact⟨dC.refl,S,g3⟩
 |_=>exact h1.elim⟩
noncomputable def bt(lo:Int)(n:Nat):List W:=(List.range n).map fun(i:Nat)=>W.int (lo+i)
theorem bQ(lo:Int)(n:Nat):(bt lo n).length=n:=by simp[bt]
theorem zM{lo:Int}:zL X (RL lo n) (bt lo n,none) μ H:=fun i μ' bL H' pp xx S _=>by
 refine⟨fun w hw=>?_,fun hl=>by rw[bQ]at hl;exact hl⟩
 have hi:i<n:=by
  have:=(aa.mp hw).1
  rw[bQ]at this;exact this
 refine⟨hi,fun y H'' hy=>?_⟩
 obtain⟨rfl,rfl⟩:=hy
 have e:w=.int (lo+i):=by
  unfold bt at hw
  rw[ak,bn hi]at hw
  exact(aU hw).symm
 subst e
 exact⟨dC.refl,S,.int⟩
def bp(fs:FA):FI:=fun ρ st=>(fs ρ st).bind fun ws st=>match ws with
 |[.int j]=>if -(2^62)<=j/\j<2^62 then .ok (bt 0 j.toNat,none) st else .bad
 |_=>.bad
theorem fZ(hm:X.mg "range"=none)(ha:SA X [a] fs)(hg:Gl X "range":=by rfl)(hs:starEach [a] X.env=[(false,eval a X.env)]:=by rfl):SI X tg (.Call (.Name "range" p) [a] [] pos) (bp fs):=⟨(Cc hg hm ha.h hs).imp fun σ H R h=>by
 walk_at "2"
 walk_at "1"
 split at h1
 ·obtain⟨y,rfl,ry⟩:=q1.one
  split at h1
  ·rename_i c
   exact⟨_,by rw[ry.intE],c.1,c.2,h1 μ1 _ H1 (af _) dC.refl l1.sto zM⟩
  ·exact h1.elim
 ·exact h1.elim⟩
end
mutual
noncomputable def W.und(n:Nat):W->Bool
 |.loc m=>decide (m<n)
 |.tup ws=>undWs n ws
 |_=>true
noncomputable def undWs(n:Nat):List W->Bool
 |[]=>true
 |w::ws=>w.und n&&undWs n ws
end
def ah.und(n:Nat):ah->Bool
 |.lst ws=>undWs n ws
 |.ro ws=>undWs n ws
 |.exc _=>true
 |.dct kvs=>undWs n (kvs.map fun p=>p.2)
 |.rod kvs=>undWs n (kvs.map fun p=>p.2)
 |.dcx kvs=>undWs n (kvs.map fun p=>p.2)
 |.rox kvs=>undWs n (kvs.map fun p=>p.2)
 |.obj _ fs=>undWs n (fs.map fun p=>p.2)
 |.tab _ _ _=>true
 |.pin _ _ _ w=>w.und n
 |.gone=>true
section
mutual
theorem be.und:∀{w:W} {v:V},be K μ H w v->w.und μ.length=true
 |.non,_,_=>by simp[W.und]
 |.bl _,_,_=>by simp[W.und]
 |.int _,_,_=>by simp[W.und]
 |.str _,_,_=>by simp[W.und]
 |.tup _,_,r=>by obtain⟨p,vs,_,_,c⟩:=r.tupE;unfold W.und;exact RelWs.und c
 |.loc _,_,r=>by obtain⟨a,e,_⟩:=r.locE;unfold W.und;exact br (aa.mp e).1
theorem RelWs.und:∀{ws:List W} {vs:List V},RelWs K μ H ws vs->undWs μ.length ws=true
 |[],_,_=>by unfold undWs;rfl
 |_::_,_,r=>by obtain⟨x,xs,_,b,c⟩:=r.consE;unfold undWs;rw[be.und b,RelWs.und c];rfl
end
mutual
theorem be.take:∀{w:W} {v:V},be K μ H w v->w.und n=true->be K (μ.take n) H w v
 |.non,_,r,_=>by rw[r.nonE];exact .non
 |.bl _,_,r,_=>by rw[r.blE];exact .bl
 |.int _,_,r,_=>by rw[r.intE];exact .int
 |.str _,_,r,_=>by rw[r.strE];exact .str
 |.tup _,_,r,b=>by obtain⟨p,vs,rfl,h,c⟩:=r.tupE;unfold W.und at b;exact .tupI h (RelWs.takeN c b)
 |.loc _,_,r,b=>by obtain⟨a,e,rfl⟩:=r.locE;unfold W.und at b;exact .locI (by rw[aX (fL b)];exact e)
theorem RelWs.takeN:∀{ws:List W} {vs:List V},RelWs K μ H ws vs->undWs n ws=true->RelWs K (μ.take n) H ws vs
 |[],_,r,_=>by rw[r.nilE];exact .nilI
 |_::_,_,r,b=>by
  obtain⟨x,xs,rfl,b1,c1⟩:=r.consE
  unfold undWs at b
  rw[bA]at b
  exact .consI (be.take b1 b.1) (RelWs.takeN c1 b.2)
end
theorem KX.und_w(k:KX)(n:Nat):k.w.und n=true:=by
 have hi:∀ks:List Int,undWs n (ks.map W.int)=true:=fun ks=>by
  induction ks with
  |nil=>rfl
  |cons a l ih=>show(true&&undWs n (l.map W.int))=true;rw[ih];rfl
 cases k with
 |bo b=>rfl
 |fl ks=>unfold KX.w W.und;exact hi ks
 |pr i ks=>unfold KX.w W.und undWs;rw[show(W.int i).und n=true from rfl];unfold undWs;rw[show(W.tup (ks.map W.int)).und n=true by unfold W.und;exact hi ks];rfl
theorem sH:∀{kvs:List (KX×W)} {es:List DictEntry},Paired (pB K μ H) kvs es->undWs μ.length (kvs.map fun p=>p.2)=true
 |_,_,.nil=>rfl
 |_,_,.cons r t=>by
  obtain⟨_,_,v,h,_⟩:=r
  show(_&&undWs _ _)=true
  rw[h.und,sH t];rfl
theorem qv:∀{kvs:List (KX×W)} {es:List DictEntry},Paired (pB K μ H) kvs es->undWs n (kvs.map fun p=>p.2)=true->Paired (pB K (μ.take n) H) kvs es
 |_,_,.nil,_=>.nil
 |_,_,.cons r t,b=>by
  obtain⟨a,⟨u,c,d⟩,v,h,g⟩:=r
  have b:(_&&undWs n _)=true:=b
  rw[bA]at b
  exact .cons ⟨a,⟨u,be.take c (KX.und_w _ n),d⟩,v,be.take h b.1,g⟩ (qv t b.2)
theorem kK.und{c:ah}(r:kK K mg μ H c a):c.und μ.length=true:=by
 cases c with
 |lst ws=>obtain⟨vs,_,y⟩:=r;exact y.und
 |ro ws=>obtain⟨vs,_,y⟩:=r;exact y.und
 |exc c=>rfl
 |dct kvs=>obtain⟨vs,_,y⟩:=r;exact y.und
 |rod kvs=>obtain⟨vs,_,_,y⟩:=r;exact y.und
 |dcx kvs=>obtain⟨es,_,_,y,_⟩:=r;exact sH y
 |rox kvs=>obtain⟨es,_,_,_,y,_⟩:=r;exact sH y
 |obj _ fs=>obtain⟨_,_,vs,_,_,y⟩:=r;exact y.und
 |tab _ _ _=>rfl
 |pin _ _ _ _=>obtain⟨_,_,_,v,y,_⟩:=r;exact y.und
 |gone=>rfl
theorem kK.take{c:ah}(r:kK K mg μ H c a)(b:c.und n=true):kK K mg (μ.take n) H c a:=by
 cases c with
 |lst ws=>obtain⟨vs,x,y⟩:=r;exact⟨vs,x,y.takeN b⟩
 |ro ws=>obtain⟨vs,x,y⟩:=r;exact⟨vs,x,y.takeN b⟩
 |exc c=>exact r
 |dct kvs=>obtain⟨vs,x,y⟩:=r;exact⟨vs,x,y.takeN b⟩
 |rod kvs=>obtain⟨vs,o,x,y⟩:=r;exact⟨vs,o,x,y.takeN b⟩
 |dcx kvs=>obtain⟨es,x,d,y,z⟩:=r;exact⟨es,x,d,qv y b,z⟩
 |rox kvs=>obtain⟨es,o,x,d,y,z⟩:=r;exact⟨es,o,x,d,qv y b,z⟩
 |obj _ fs=>obtain⟨C,dx,vs,m,x,y⟩:=r;exact⟨C,dx,vs,m,x,y.takeN b⟩
 |tab _ _ _=>exact r
 |pin _ _ _ _=>obtain⟨ea,p,g,v,y,z⟩:=r;exact⟨ea,p,g,v,y.take b,z⟩
 |gone=>trivial
end
theorem eD.ex{w:World}{o:HO}(x:eD P w H h a o):∃ob,h.get? a=some ob:=by
 cases o with
 |lst xs=>obtain⟨_,_,_,_,e⟩:=x;exact⟨_,e⟩
 |tup xs=>obtain⟨_,_,_,o,e,_⟩:=x;exact⟨_,e⟩
 |dK kvs=>obtain⟨_,_,_,_,o,_,_,e,_⟩:=x;exact⟨_,e⟩
 |dT kvs=>obtain⟨_,_,_,_,o,_,_,e,_⟩:=x;exact⟨_,e⟩
 |set S n=>obtain⟨o,_,_,_,e,_⟩:=x;exact⟨_,e⟩
 |ins C dx fs=>obtain⟨_,_,_,e,_⟩:=x;exact⟨_,e⟩
 |own y=>obtain⟨_,e⟩:=x;exact⟨_,e⟩
 |xd fs=>obtain⟨_,⟨_,_,_,e,_⟩,_⟩:=x;exact⟨_,e⟩
 |rng lo hi=>obtain⟨_,_,_,e⟩:=x;exact⟨_,e⟩
 |frz ob u=>obtain⟨e,_⟩:=x;exact⟨_,e⟩
 |tbl ps=>exact⟨_,(show h.get? a=some _ from x)⟩
 |met f y=>exact⟨_,(show h.get? a=some _ from x)⟩
 |ext φ=>obtain⟨_,⟨_,e⟩,_⟩:=x;exact⟨_,e⟩
def J5(st bL:List ah)(ws:List W):Prop:=undWs st.length ws=true/\st.length<=bL.length/\∀(i:Nat),i<st.length->bL[i]?=st[i]?\/∃c,bL[i]?=some c/\c.und st.length=true
open Classical in
noncomputable def iJ(st bL:List ah)(ws:List W):List ah:=if J5 st bL ws then bL.take st.length else bL
theorem jm{st:List ah}{ws:List W}{vs:List V}(S:fW K mg μ st H)(S':fW K mg μ' bL H')(p:μ <+: μ')(r:RelWs K μ' H' ws vs) :
  ∃μ2,μ <+: μ2/\fW K mg μ2 (iJ st bL ws) H'/\RelWs K μ2 H' ws vs:=by
 unfold iJ
 by_cases k:J5 st bL ws
 ·rw[aw k]
  obtain⟨k1,k2,k3⟩:=k
  have e:μ'.take st.length=μ:=by
   obtain⟨t,rfl⟩:=p
   rw[S.len,List.take_left]
  refine⟨μ'.take st.length,by rw[e];exact af _,⟨fun i j a ci cj h1 h2 r1 r2 m1 m2=>?_,by rw[bf,bf,S'.len],fun i c a h1 h2=>?_⟩,r.takeN k1⟩
  ·have hi:i<st.length:=by have:=(aa.mp h1).1;rw[bf]at this;omega
   have hj:j<st.length:=by have:=(aa.mp h2).1;rw[bf]at this;omega
   rw[aX hi]at h1 m1
   rw[aX hj]at h2 m2
   exact S'.nd i j a ci cj h1 h2 r1 r2 m1 m2
  ·have hi:i<st.length:=by have:=(aa.mp h1).1;rw[bf]at this;omega
   rw[aX hi]at h1 h2
   refine(S'.at' i c a h1 h2).take ?_
   rcases k3 i hi with q|⟨c',q,b⟩
   ·rw[h1]at q
    obtain⟨a0,g0,r0⟩:=S.get q.symm
    have:=r0.und
    rw[S.len];exact this
   ·rw[h1]at q;cases q;exact b
 ·rw[aC k]
  exact⟨μ',p,S',r⟩
def fx(N:Nat)(body:FS)(ws:List W)(st:List ah):R W:=match body #[12] st with
 |.rt w bL=>.ok w (iJ st bL [w])
 |.nx _ bL=>.ok .non (iJ st bL [])
 |.ex c _ bL=>.ex c (iJ st bL [])
 |_=>.bad
def kF(P:Program)(w:World):Dr:=fun outer H s E e s'=>∃x C t B H',e=.ref x/\E C none H'/\s'.os=s.os/\AllBare s'.gens/\Un (uo outer) [] H H' s.heap s'.heap/\kC P w H' s'.heap/\H' x=none/\Heap.FlyingW B outer x C (.ref t) s'.heap /\
 ∀b o,s'.heap.get? b=some o->(H' b≠none\/((∃o0,s.heap.get? b=some o0)/\b∉uo outer))->B.get? b=some o
def l8(K:Frag)(mg:Str->Option Value)(n:Nat)(F:List W->List ah->R W):Sp:=fun vs H Q E=>vs.length=n/\∃μ ws st,fW K mg μ st H/\RelWs K μ H ws vs/\(match F ws st with
 |.ok w bL=>∀μ' v H',μ <+: μ'->dC K H H'->fW K mg μ' bL H'->be K μ' H' w v->Q v H'
 |.ex c bL=>∀C μ' H',mg c=some C->μ <+: μ'->dC K H H'->fW K mg μ' bL H'->E C none H'
 |.bad=>False)
theorem uU.noted{c:Str}{e:Value}{Q:Unit->Shared->Prop}{E:Value->Shared->Prop}{M:Model}{outer:List Env}(f:uU X pins σ c H e s)(wW:X.stack=X.env::outer)(qk:X.env.frame=some X.env.locals)(hA:X.A.frames=some X.stack)
  (h:∀x C t B h',e=.ref x->X.mg c=some C->H x=none->Heap.FlyingW B X.stack x C (.ref t) h'->s.heap.UpToSlots h' ->
   (∀b o,s.heap.get? b=some o->(H b≠none\/((∃o0,X.s₀.heap.get? b=some o0)/\b∉X.fs/\b∉X.ex)\/((∃y,X.env.cells.lookup y=some b)/\b∉uo X.stack)\/∃p∈X.pn++pins,p.1=b)->B.get? b=some o)->Q () { s with heap:=h' }) :
  wpAny M X.A (leaving X.env e) Q E s:=by
 obtain⟨x,C,t,B,rfl,hC,hx,st,nx,ff,tr,cov⟩:=f.ex
 rw[wW]at ff hA
 rcases tr with tr|⟨oe,vs,he,rfl,_,hd,h1,h0⟩|⟨L,hL,tr⟩
 ·refine wpAny_leaving_nextW hA ff qk tr st nx fun h' hL=>?_
  obtain⟨k1,k2,k3,k4⟩:=hL
  exact h x C t B h' rfl hC hx ⟨k1,nx,by rw[wW];exact k2,k3⟩ k4 cov
 ·refine wpAny_leaving_firstW hA ff qk he st nx hd h1 h0 fun h' hL=>?_
  obtain⟨k1,k2,k3,k4⟩:=hL
  exact h x _ t B h' rfl hC hx ⟨k1,nx,by rw[wW];exact k2,k3⟩ k4 cov
 ·unfold leaving
  refine ac (wpAny_noteFrame_againW hL tr (wpAny_landsW ⟨st,nx,ff,tr⟩ fun h' fl up=>?_))
  exact h x C t B h' rfl hC hx (by rw[wW];exact fl) up cov
theorem uU.leaves{c:Str}{e:Value}{E:XK}{E':Value->Shared->Prop}(f:uU X pins σ c H e s)(wW:X.stack=X.env::X.outer)(qk:X.env.frame=some X.env.locals)(hA:X.A.frames=some X.stack)(Oa:X.ex=[])
  (hE:∀C,X.mg c=some C->E C none H):wpAny M X.A (leaving X.env e) (fun _ s''=>kF X.prog X.w X.outer X.H₀ X.s₀ E e s'') E' s:=by
 refine f.noted wW qk hA fun x C t B h' he hC hx fl up cov=>?_
 have I:=f.inv
 have un:=I.base
 rw[Oa]at un
 have fsE:X.fs=uo X.outer:=rfl
 obtain⟨f1,f2,f3,f4⟩:=fl
 rw[wW]at f3
 obtain⟨_,_,f3'⟩:=f3
 have frames:∀b∈uo X.outer,∀o,s.heap.get? b=some o->∃sl,h'.get? b=some { o with slots:=sl }:=fun b hb o ho=>by
  obtain⟨_,o',ho',hd⟩:=I.funs.mem hb
  rw[ho]at ho';cases ho'
  exact up b o ho hd
 have kept:∀b o,s.heap.get? b=some o->(∃o0,X.s₀.heap.get? b=some o0)->b∉uo X.outer->h'.get? b=some o:=fun b o ho h0 hb=>f1 b o (cov b o ho (.inr (.inl ⟨h0,hb,by rw[Oa];simp⟩)))
 have keptH:∀b o,s.heap.get? b=some o->H b≠none->h'.get? b=some o:=fun b o ho h0=>f1 b o (cov b o ho (.inl h0))
 refine⟨x,C,t,B,H,he,hE C hC,I.os,I.bare,⟨fun b o q n hb hx=>?_,fun b o q n hb hx=>?_,fun b o q n hx=>un.free b o q n hx,fun b o q hx=>?_,un.tups,un.frzs,un.tbls⟩,fun b u hb=>?_,hx,⟨f1,f2,f3',f4⟩,fun b o ho hr=>?_⟩
 ·exact kept b o (un.keep b o q n hb hx) ⟨o,q⟩ hb
 ·obtain⟨sl,q1⟩:=un.slot b o q n hb hx
  obtain⟨JG,q2⟩:=frames b hb _ q1
  exact⟨JG,q2⟩
 ·obtain⟨o',q1⟩:=un.there b o q hx
  by_cases hb:b∈uo X.outer
  ·obtain⟨JG,q2⟩:=frames b hb _ q1;exact⟨_,q2⟩
  ·exact⟨o',kept b o' q1 ⟨o,q⟩ hb⟩
 ·refine(I.hok b u hb).stay (fun c v hc q=>?_) (fun _ q=>q) fun _ _ q=>q
  refine keptH c v q ?_
  rcases hc with rfl|hc
  ·rw[hb];simp
  ·rw[hc];simp
 ·rcases hr with hr|⟨⟨o0,h0⟩,hb⟩
  ·cases hu:H b with
   |none=>exact absurd hu hr
   |some u=>
    have lt:=I.hok.lt hu
    obtain⟨ob,GR⟩:∃ob,s.heap.get? b=some ob:=by
     exact(I.hok b u hu).ex
    have:=keptH b ob GR hr
    rw[ho]at this;cases this
    exact cov b o GR (.inl hr)
  ·obtain⟨o',q1⟩:=un.there b o0 h0 #[7]
   have:=kept b o' q1 ⟨o0,h0⟩ hb
   rw[ho]at this;cases this
   exact cov b o q1 (.inr (.inl ⟨⟨o0,h0⟩,hb,by rw[Oa];simp⟩))
structure eX(P:Program)(w:World)(K:Frag)(mg:Str->Option Value)(base:Heap)(k:Nat)(x:Str)(n:Nat)(F:List W->List ah->R W):Prop where
 ex:∃(f:Addr) (fd:FuncData) (ps:List Str),mg x=some (.ref f)/\keepIn K (.ref f)=true/\ps.length=n/\xF K fd ps []/\fS P w K mg base (kF P w) k f fd ps (l8 K mg n F)
theorem eX.mono{w:World}{k:Nat}(h:eX P w K mg base j x n F)(hj:j<=k):eX P w K mg base k x n F:=by
 obtain⟨f,fd,ps,a,b,c,d,e⟩:=h.ex
 exact⟨f,fd,ps,a,b,c,d,e.mono hj⟩
def ej(n:Nat)(F:List W->List ah->R W)(fs:FA):FE:=fun ρ st=>(fs ρ st).bind fun ws st=>if ws.length=n then F ws st else .bad
section
theorem PL{k:Nat}{Q:VK}{st:List ah}
  (Fn:fS X.prog X.w X.K X.mg X.base (kF X.prog X.w) k f fd ps (l8 X.K X.mg n F)) (hn:ps.length=n) (hr:fR k X.A) (hb:xF X.K fd ps []) (I:bw X pins σ H s) (S:fW X.K X.mg μ st H) (r:RelWs X.K μ H ws vs) (rv:cH vs us) (hl:ws.length=n)
  (h:RK X (rd X) μ σ H Q (F ws st)):wpAny #[2] X.A (call (.ref f) us) (EP X pins σ Q) X.xe s:=by
 have hl':(us++([]:List Value)).length=ps.length:=by rw[bO,<- rv.length,<- r.len,hl,hn]
 cases e:F ws st with
 |bad=>rw[e]at h;exact h.elim
 |ok w bL=>
  rw[e]at h
  refine mz (iN (Fn.run X.A X.stack s H ⟨us,[]⟩ us vs Q (fun _ _ _=>False) hr I.env0 (by have:=hb s us I.kIn hl';rwa[bO]at this) rv ⟨by rw[<- r.len];exact hl,μ,ws,st,S,r,by rw[e];exact h⟩) fun r s' hq=>?_)
  cases r with
  |error e=>obtain⟨_,_,_,_,_,_,z,_⟩:=hq;exact z.elim
  |ok fl=>
   cases fl with
   |ret u=>exact I.after hq
   |next=>exact False.elim hq
   |brk=>exact False.elim hq
   |cont=>exact False.elim hq
 |ex c bL=>
  rw[e]at h
  refine mz (iN (Fn.run X.A X.stack s H ⟨us,[]⟩ us vs (fun _ _=>False) (fun C _ H'=>X.mg c=some C/\∃μ',μ <+: μ'/\dC X.K H H'/\fW X.K X.mg μ' bL H') hr I.env0 (by have:=hb s us I.kIn hl';rwa[bO]at this) rv
   ⟨by rw[<- r.len];exact hl,μ,ws,st,S,r,by rw[e];exact fun C μ' H' hC p x S'=>⟨hC,μ',p,x,S'⟩⟩) fun r s' hq=>?_)
  cases r with
  |ok fl=>
   cases fl with
   |ret u=>obtain⟨_,_,_,_,_,_,_,z⟩:=hq;exact z.elim
   |next=>exact False.elim hq
   |brk=>exact False.elim hq
   |cont=>exact False.elim hq
  |error ev=>
   obtain⟨x,C,t,B,H',rfl,⟨hC,μ',p,xx,S'⟩,os,bare,un,hok,hx,fl,cov⟩:=hq
   have I':bw X pins σ H' s':=I.call' os un hok bare fun b hb=>absurd hb #[7]
   refine h pins μ' H' (.ref x) s' p xx S' ⟨I',x,C,t,B,rfl,hC,hx,fl.1,fl.2.1,fl.2.2.1,.inl fl.2.2.2,fun b o ho hrel=>?_⟩
   refine cov b o ho ?_
   rcases hrel with q|⟨⟨o0,h0⟩,hb,hbx⟩|⟨⟨y,hy⟩,hb⟩|⟨pp,hp,rfl⟩
   ·exact .inl q
   ·refine .inr ⟨?_,fun z=>?_⟩
    ·obtain⟨o',q1⟩:=I.base.there b o0 h0 hbx
     exact⟨o',q1⟩
    ·rcases aK.mp (I.stkSub b z)with z|z
     ·rw[z]at h0
      exact absurd (aV (aE h0) I.ok.above) (bx _)
     ·exact hb z
   ·obtain⟨v,ov,hov,_⟩:=I.cell y b hy
    exact .inr ⟨⟨_,hov⟩,hb⟩
   ·obtain⟨g1,g2,g3,g4,_⟩:=I.pin pp hp
    refine .inr ⟨⟨_,g1⟩,fun z=>?_⟩
    rcases aK.mp (I.stkSub _ z)with z|z
    ·exact g3 z
    ·exact g4 z
variable{fs:FA}
theorem dU{k k':Nat}(Fn:eX X.prog X.w X.K X.mg X.base k x n F)(hr:fR k' X.A)(hk:k<=k')(ha:SA X (e::es) fs)(hg:Gl X x:=by rfl)(zd:(x==("__debug__":Str))=false:=by decide)
  (he:starEach (e::es) X.env=(false,eval e X.env)::starEach es X.env:=by rfl) (qK:(backTo pos (starEach es X.env)).any (·.1)=false:=by rfl):SE X (.Call (.Name x p) (e::es) [] pos) (ej n F fs):=⟨by
 intro pins s σ H Q I h
 obtain⟨f,fd,ps,hm,hkp,hn,hb,Fo⟩:=(Fn.mono hk).ex
 refine fm (AE I hg hm ?_ zd)
 walk_at "2"
 have h':Pl X fs σ H fun vs H1=>∃μ1 st1 ws,Rl X μ1 ρ st1 σ H1/\RelWs X.K μ1 H1 ws vs/\RK X (rd X) μ1 σ H1 Q (if ws.length=n then F ws st1 else .bad):=
  ⟨μ,ρ,st,l,RK.bind h l fun μ1 st1 x v H1 p1 x1 l1 q1 h1=>⟨μ1,st1,x,l1,q1,h1⟩⟩
 refine PySem.W.callWith_K (h₀:=X.base) I.ok.mod.kin hkp (gq (ha.h pos pins s σ H _ I h') fun us s1 ⟨vs,H1,I1,r,μ1,st1,ws,l1,r1,q⟩=>⟨I1.kIn,?_⟩) he qK
 by_cases c:ws.length=n
 ·rw[aw c]at q
  exact PL Fo hn hr hb I1 l1.sto r1 r c q
 ·rw[aC c]at q;exact q.elim⟩
end
theorem vX{w:World}{st:Stmt}{N:List Str}{k:Nat}{g:FS}(F:lZ K x qual st f fd)(S:b9 N ps (aY st))(hn:ps.length=n)
  (ue:∀(gU:Value) (A:Around) (outer:List Env) (s:Shared) (H:Hp) (E:XK),fd.code=gU->fR k (A.deeper (envOfC qual (aY st) s.heap.objs.size f gU)) ->
   SB (zu (kF P w) P w K mg base N qual (aY st) f gU A outer s H E) (dQ st) g):fS P w K mg base (kF P w) (k+1) f fd ps (l8 K mg n (fx N.length g)):=by
 obtain⟨oc,od,kV,jc,pm,an,gU,ct,K9,rfl,lk,nJ⟩:=F.ex
 refine OW lk nJ S (fun vs H Q E h=>by rw[hn];exact h.1) fun A outer s H vs Q E hr K7=>?_
 obtain⟨hl,μ,ws,Oc,Sr,r,h⟩:=K7
 refine⟨_,(ue gU A outer s H E rfl hr).h,μ,ws.map some++List.replicate (N.length-ws.length) none,Oc,⟨?_,Sr⟩,?_⟩
 ·unfold jI
  rw[<- r.len]
  have base:∀(ws:List W) (vs:List V) (m:Nat),RelWs K μ H ws vs->Paired (fun(o:Option W) (s:Option V)=>∀w,o=some w->∃v,s=some v/\be K μ H w v) (ws.map some++List.replicate m none) (vs.map some++List.replicate m none):=by
   intro ws
   induction ws with
   |nil=>
    intro vs m r
    rw[r.nilE]
    induction m with
    |zero=>exact .nil
    |succ m ih=>exact .cons (fun w z=>nomatch z) ih
   |cons w ws ih=>
    intro vs m r
    obtain⟨y,ys,rfl,ry,rys⟩:=r.consE
    exact .cons (fun w' z=>⟨y,rfl,by cases z;exact ry⟩) (ih ys m rys)
  exact base ws vs _ r
 ·unfold fx at h
  cases e:g (ws.map some++List.replicate (N.length-ws.length) none) Oc with
  |rt w bL=>
   rw[e]at h
   intro μ' v H' p x S' kQ
   obtain⟨μ2,p2,S2,r2⟩:=jm Sr S' p (.consI kQ .nilI)
   obtain⟨_,e2,r3⟩:=r2.one
   cases e2
   exact h μ2 v H' p2 x S2 r3
  |nx ρ' bL=>
   rw[e]at h
   intro μ' σ' H' p x l'
   obtain⟨μ2,p2,S2,_⟩:=jm (ws:=[]) (vs:=[]) Sr l'.sto p .nilI
   exact h μ2 .non H' p2 x S2 .non
  |ex c ρ' bL=>
   rw[e]at h
   intro pins μ' σ' H' ev s' p x l' fl
   obtain⟨μ2,p2,S2,_⟩:=jm (ws:=[]) (vs:=[]) Sr l'.sto p .nilI
   exact fl.leaves rfl rfl fl.inv.ok.frames rfl fun C hC=>h C μ2 H' hC p2 x S2
  |bk ρ' bL=>rw[e]at h;exact h.elim
  |ct ρ' bL=>rw[e]at h;exact h.elim
  |bad=>rw[e]at h;exact h.elim
theorem dX{w:World}{st:Stmt}{N:List Str}{k:Nat}{g:FS}(F:lZ K x qual st f fd)(S:b9 N ps (aY st))(hn:ps.length=n)
  (ue:∀(gU:Value) (A:Around) (outer:List Env) (s:Shared) (H:Hp) (E:XK),fR k (A.deeper (envOfC qual (aY st) s.heap.objs.size f gU)) ->
   SB (zu (kF P w) P w K mg base N qual (aY st) f gU A outer s H E) (dQ st) g):fS P w K mg base (kF P w) (k+1) f fd ps (l8 K mg n (fx N.length g)):=vX F S hn fun gU A outer s H E _ hr=>ue gU A outer s H E hr
theorem rH{w:World}{k:Nat}{st:Stmt}{ps:List Str}
  (F:lZ K x x st f fd) (hm:mg x=some (.ref f)) (hn:ps.length=n)
  (hb:∀(kV jc pm:Value) (an:Option Addr) (gU ct:Value) (us:List Value),us.length=ps.length->bindArgs (fnOf x x (dO st) (dQ st) (aY st) .none kV jc pm an gU ct) ⟨us,[]⟩=pure (ps.zip us))
  (ok:fS P w K mg base (kF P w) k f fd ps (l8 K mg n G)):eX P w K mg base k x n G:=⟨f,fd,ps,hm,F.kp,hn,F.binds hb,ok⟩
section
variable{a b o:Expr}{fa fb fe fo:FE}{fs:FA}{id:String}
structure On(X:Cx)(id:String)(F:W->List W->List ah->R W):Prop where
 h:He X id (fun x vs H Q=>∃μ st wx ws,fW X.K X.mg μ st H/\be X.K μ H wx x/\RelWs X.K μ H ws vs/\Ds X μ H Q (F wx ws st))
 n:∀x ws st,qr (F x ws st)
noncomputable def sI(st:List ah):W->Bool
 |.loc n=>(match st[n]? with|some (.lst _)=>true|_=>false)
 |_=>false
noncomputable def Ej:W->Bool
 |.str _=>true
 |_=>false
theorem Ek{st:List ah}{w:W}{v:V}(S:fW X.K X.mg μ st H)(r:be X.K μ H w v)(h:sI st w=true):∃l ys,v=.ref l/\H l=some (.lst ys):=by
 cases w with
 |loc n=>
  obtain⟨a,ha,rfl⟩:=r.locE
  simp only[sI]at h
  cases e1:st[n]? with
  |none=>rw[e1]at h;cases h
  |some cc=>
   rw[e1]at h
   cases cc with
   |lst ws=>obtain⟨a1,g1,vs,k1,_⟩:=S.get e1;rw[ha]at g1;cases g1;exact⟨_,vs,rfl,k1⟩
   |_=>cases h
 |_=>cases h
def uB(F:W->List W->List ah->R W)(fo:FE)(fs:FA):FE:=fun ρ st=>(fo ρ st).bind fun x st=>if sI st x then(fs ρ st).bind fun ws st=>F x ws st else .bad
def Mi(F:W->List W->List ah->R W)(fo:FE)(fs:FA):FE:=fun ρ st=>(fo ρ st).bind fun x st=>if Ej x then(fs ρ st).bind fun ws st=>F x ws st else .bad
theorem zN{F:W->List W->List ah->R W}(slot:Slot "list" name id)(Dq:typeOf (.builtin id)=pure (.type "method_descriptor"))(hm:On X id F)(ho:SE X o fo)(ha:SA X (e::es) fs)
  (p7:attributeBase o name X.env (eval o X.env)=eval o X.env:=by rfl)
  (xf:((backTo dF (starEach (e::es) X.env)).all (fun x=>!x.1)&&(backToKw dF (keywordEach [] X.env)).all (fun x=>x.1.isSome)
   && decide #[16])=true:=by rfl)
  (p5:(gi.endLine==dF.line)=true:=by rfl) (hs:starEach (e::es) X.env=(false,eval e X.env)::starEach es X.env:=by rfl) (mi:(backTo dF (starEach es X.env)).any (·.1)=false:=by rfl) :
  SE X (.Call (.Attribute o name gi) (e::es) [] dF) (uB F fo fs):=⟨(Pc slot Dq hm.h ho.h ha.h p7 xf p5 hs mi).imp fun σ H Q h=>by
 walk_at "2"
 walk_at "1"
 by_cases c:sI st1 x=true
 ·rw[aw c]at h1
  refine⟨Ek l1.sto q1 c,μ1,ρ,st1,l1,RK.bind h1 l1 fun μ2 cV ws vs H2 p2 x2 l2 q2 h2=>?_⟩
  exact⟨μ2,cV,x,ws,l2.sto,q1.mono p2 x2,q2,sk h2 (hm.n _ _ _)⟩
 ·rw[aC c]at h1;exact h1.elim⟩
theorem PM{F:W->List W->List ah->R W}(slot:Slot "str" name id)(Dq:typeOf (.builtin id)=pure (.type "method_descriptor"))(hm:On X id F)(ho:SE X o fo)(ha:SA X (e::es) fs)
  (p7:attributeBase o name X.env (eval o X.env)=eval o X.env:=by rfl)
  (xf:((backTo dF (starEach (e::es) X.env)).all (fun x=>!x.1)&&(backToKw dF (keywordEach [] X.env)).all (fun x=>x.1.isSome)
   && decide #[16])=true:=by rfl)
  (p5:(gi.endLine==dF.line)=true:=by rfl) (hs:starEach (e::es) X.env=(false,eval e X.env)::starEach es X.env:=by rfl) (mi:(backTo dF (starEach es X.env)).any (·.1)=false:=by rfl) :
  SE X (.Call (.Attribute o name gi) (e::es) [] dF) (Mi F fo fs):=⟨(Pd slot Dq hm.h ho.h ha.h p7 xf p5 hs mi).imp fun σ H Q h=>by
 walk_at "2"
 walk_at "1"
 cases x with
 |str z=>
  rw[aw (show Ej (W.str z)=true from rfl)]at h1
  refine⟨⟨z,q1.strE⟩,μ1,ρ,st1,l1,RK.bind h1 l1 fun μ2 cV ws vs H2 p2 x2 l2 q2 h2=>?_⟩
  exact⟨μ2,cV,_,ws,l2.sto,q1.mono p2 x2,q2,sk h2 (hm.n _ _ _)⟩
 |_=>exact h1.elim⟩
def dE(x:W)(ws:List W)(st:List ah):R W:=match x,ws with
 |.loc n,[y]=>(match st[n]? with
  |some (.lst zs)=>if zs.length<kE then .ok .non (st.set n (.lst (zs++[y])))else .bad
  |_=>.bad)
 |_,_=>.bad
theorem jS:On X "list.append" dE:=⟨fun pins s σ H x vs v us Q I rv rus zq=>by
 obtain⟨μ,st,wx,ws,S,rx,rs,q⟩:=zq
 unfold dE at q
 split at q
 ·rename_i n y
  obtain⟨y1,rfl,ry⟩:=rs.one
  split at q
  ·rename_i zs e1
   split at q
   ·rename_i c
    obtain⟨a1,g1,vs,k1,r⟩:=S.get e1
    obtain⟨b1,f1,rfl⟩:=rx.locE
    rw[g1]at f1;cases f1
    refine zB pins s σ H _ _ v us Q I rv rus ⟨a1,vs,y1,rfl,rfl,k1,by rw[<- r.len];exact L8 (dh c),fun H2 e=>?_⟩
    subst e
    exact q μ _ _ (af _) (fO.but gP k1) (S.set e1 g1 k1 (r.app (.consI ry .nilI))) .non
   ·exact q.elim
  ·exact q.elim
 ·exact q.elim,fun x ws st=>by
 unfold dE
 repeat' split
 all_goals trivial⟩
def pH(x:W)(ws:List W)(st:List ah):R W:=match x,ws with
 |.loc n,[.loc m]=>(match st[n]?,st[m]? with
  |some (.lst zs),some (.lst ys)=>if zs.length+ys.length<=kE then .ok .non (st.set n (.lst (zs++ys)))else .bad
  |_,_=>.bad)
 |_,_=>.bad
theorem uX:On X "list.extend" pH:=⟨fun pins s σ H x vs v us Q I rv rus zq=>by
 obtain⟨μ,st,wx,ws,S,rx,rs,q⟩:=zq
 unfold pH at q
 split at q
 ·rename_i n m
  obtain⟨y1,rfl,ry⟩:=rs.one
  split at q
  ·rename_i zs ys e1 e2
   split at q
   ·rename_i c
    obtain⟨a1,g1,vs1,k1,r1⟩:=S.get e1
    obtain⟨a2,g2,vs2,k2,r2⟩:=S.get e2
    obtain⟨b1,f1,rfl⟩:=rx.locE
    obtain⟨b2,f2,rfl⟩:=ry.locE
    rw[g1]at f1;cases f1
    rw[g2]at f2;cases f2
    refine Cj pins s σ H _ _ v us Q I rv rus ⟨a1,a2,vs1,vs2,rfl,rfl,k1,k2,by rw[<- r1.len,<- r2.len];exact jx c,?_⟩
    exact q μ _ _ (af _) (fO.but gP k1) (S.set e1 g1 k1 (r1.app r2)) .non
   ·exact q.elim
  ·exact q.elim
 ·exact q.elim,fun x ws st=>by
 unfold pH
 repeat' split
 all_goals trivial⟩
noncomputable def mI:List W->Option (List (List Nat))
 |[]=>some []
 |.str l::ws=>(mI ws).map (l :: ·)
 |_=>none
theorem sJ:∀{ws:List W} {ls:List (List Nat)} {vs:List V},mI ws=some ls->RelWs K μ H ws vs->vs=ls.map fun l=>V.str (tx l)
 |[],ls,vs,h,r=>by simp only[mI]at h;cases h;exact r.nilE
 |w::ws,ls,vs,h,r=>by
  obtain⟨x,xs,rfl,rx,rs⟩:=r.consE
  cases w with
  |str l=>
   simp only[mI]at h
   cases e:mI ws with
   |none=>rw[e]at h;cases h
   |some ls'=>rw[e]at h;cases h;rw[rx.strE,sJ e rs];rfl
  |_=>simp only[mI]at h;cases h
theorem uY(ls:List (List Nat)):mI (ls.map W.str)=some ls:=by
 induction ls with
 |nil=>rfl
 |cons a r ih=>show(mI (r.map W.str)).map (a :: ·)=_;rw[ih];rfl
def pI(x:W)(ws:List W)(st:List ah):R W:=match x,ws with
 |.str sep,[.loc n]=>m7 (lstOf st n) fun zs=>m7 (mI zs) fun ls=>if (ls.map List.length).sum+ls.length*sep.length<=kE then .ok (.str (ng sep ls)) st else .bad
 |_,_=>.bad
theorem A2:On X "str.join" pI:=⟨fun pins s σ H x vs v us Q I rv rus zq=>by
 obtain⟨μ,st,wx,ws,S,rx,rs,q⟩:=zq
 unfold pI at q
 split at q
 ·rename_i sep n
  obtain⟨y1,rfl,ry⟩:=rs.one
  cases e1:lstOf st n with
  |none=>rw[e1]at q;exact q.elim
  |some zs=>
   rw[e1,bE]at q
   cases e2:mI zs with
   |none=>rw[e2]at q;exact q.elim
   |some ls=>
    rw[e2,bE]at q
    split at q
    ·rename_i c
     obtain⟨a,vs,g,hS,r⟩:=S.lstOf e1
     obtain⟨b1,f1,rfl⟩:=ry.locE
     rw[g]at f1;cases f1
     have:=sJ e2 r
     subst this
     exact H_ pins s σ H _ _ v us Q I rv rus ⟨sep,_,ls,rx.strE,rfl,hS,a8 c #[8],pG S q⟩
    ·exact q.elim
 ·exact q.elim,fun x ws st=>by
 unfold pI
 split
 ·exact hZ fun _=>hZ fun _=>by split<;>trivial
 ·trivial⟩
end
def pJ(cap:List (Option Nat))(ρ:cu):cu:=cap.map fun o=>o.bind fun j=>(ρ[j]?).join
theorem PN{ρ:cu}(r:Paired (fun(o:Option W) (s:Option V)=>∀w,o=some w->∃v,s=some v/\be X.K μ H w v) ρ σ):∀cap:List (Option Nat),
  Paired (fun(o:Option W) (s:Option V)=>∀w,o=some w->∃v,s=some v/\be X.K μ H w v) (pJ cap ρ) (om cap σ)
 |[]=>.nil
 |o::cap=>by
  refine .cons (fun w e=>?_) (PN r cap)
  cases o with
  |none=>cases e
  |some j=>
   have e':(ρ[j]?).join=some w:=e
   have e2:ρ[j]?=some (some w):=by
    cases h:ρ[j]? with
    |none=>rw[h]at e';cases e'
    |some ow=>rw[h]at e';simp at e';rw[e']
   obtain⟨v,g1,g2⟩:=lz r e2
   exact⟨v,by show(σ[j]?).join=some v;rw[g1];rfl,g2⟩
open Classical in
def mJ(f:FG)(t:FT)(el:FE)(ck:Option (Nat×List W))(ρ0:cu):List W->List W->List ah->R (List W)
 |[],acc,st=>if iY st ck then .ok acc st else .bad
 |w::ws,acc,st=>if iY st ck then(match f w ρ0 with
  |none=>.bad
  |some ρ'=>(match t ρ' st with
   |.ok true st1=>(match el ρ' st1 with
    |.ok y cV=>mJ f t el ck ρ0 ws (acc++[y]) cV
    |_=>.bad)
   |.ok false st1=>mJ f t el ck ρ0 ws acc st1
   |_=>.bad))else .bad
def cW(cap:List (Option Nat))(fi:FI)(f:FG)(t:FT)(el:FE):FE:=fun ρ st=>(fi ρ st).bind fun k st=>if k.1.length<=kE then(mJ f t el k.2 (pJ cap ρ) k.1 [] st).bind fun ys st=>mH ys st else .bad
def RQ(X:Cx)(jq:List Addr->Hp->α->β->Prop)(f:cu->List ah->R α)(σ:St)(H:Hp)(Q:β->Hp->Prop):Prop:=
 ∃μ ρ st a bL,Rl X μ ρ st σ H/\f ρ st=.ok a bL/\∀μ' b H',μ <+: μ'->dC X.K H H'->fW X.K X.mg μ' bL H'->jq μ' H' a b->Q b H'
def gG:FT:=fun _ st=>.ok true st
structure Io(X:Cx)(es:List Expr)(f:FT):Prop where
 h:DQ X es (tT X f)
theorem DQ.imp{e:List Expr}{t t':TT}(h:DQ X e t)(i:∀σ H Q,t' σ H Q->t σ H Q):DQ X e t':=fun pins s σ H Q I q=>h pins s σ H Q I (i _ _ _ q)
theorem gc:Io X [] gG:=⟨HX.imp fun σ H Q h=>by
 walk_at "2"
 exact h μ true H (af _) dC.refl l.sto rfl⟩
theorem Ip{t:FT}(hc:ST X c t):Io X [c] t:=⟨HY hc.h⟩
theorem vY{fi:FI}{f:FG}{t:FT}{el:FE}{Q:VK}(h:tE X (cW cap fi f t el) σ H Q) :
  pq cap (fun σ H R=>tG X (PJ X) fi σ H R) (RO X f) (RQ X L9 t) (RQ X (rd X) el) σ H Q:=by
 walk_at "2"
 refine⟨μ,ρ,st,l,RK.bind h l fun μ1 st1 k J H1 p1 x1 l1 wk h1=>?_⟩
 by_cases hz:k.1.length<=kE
 ·rw[aw hz]at h1
  refine⟨fun i m ys H'=>i<=k.1.length/\m=k.1.length-i/\ys.length<=i/\∃μ' acc bL,μ1 <+: μ'/\dC X.K H1 H'/\Rl X μ' ρ bL σ H'/\RelWs X.K μ' H' acc ys/\RK X (rd X) μ' σ H' Q ((mJ f t el k.2 (pJ cap ρ) (k.1.drop i) acc bL).bind fun ys st=>mH ys st),
   ⟨_,cJ _,rfl,au _,μ1,[],st1,af _,dC.refl,l1,.nilI,h1⟩,?_⟩
  rintro i m ys H' ⟨hi,rfl,hy,μ',acc,bL,pm,xm,lm,ra,hm⟩
  by_cases ju:i<k.1.length
  ·rw[fE ju]at hm
   unfold mJ at hm
   by_cases ck:iY bL k.2
   ·rw[aw ck]at hm
    obtain⟨go,yld⟩:=(wk i μ' bL H' pm xm lm.sto ck).1 _ (ae ju)
    refine .inr ⟨go,fun x H2 hy2=>?_⟩
    obtain⟨y1,y2,y3⟩:=yld x H2 hy2
    cases hf:f k.1[i] (pJ cap ρ)with
    |none=>rw[hf]at hm;exact hm.elim
    |some ρ2=>
     rw[hf]at hm
     simp only at hm
     have lb:Rl X μ' (pJ cap ρ) bL (om cap σ) H2:=⟨PN (lm.to (af _) y1 y2).env cap,y2⟩
     refine⟨μ',pJ cap ρ,bL,k.1[i],ρ2,lb,y3,hf,fun σ2 l2=>?_⟩
     cases ht:t ρ2 bL with
     |bad=>rw[ht]at hm;exact hm.elim
     |ex c s=>rw[ht]at hm;exact hm.elim
     |ok kk cV=>
      rw[ht]at hm
      refine⟨μ',ρ2,bL,kk,cV,l2,ht,fun μ3 b3 H3 p3 x3 S3 q3=>?_⟩
      cases q3
      cases kk with
      |false=>
       exact⟨_,by omega,ju,rfl,by omega,μ3,acc,cV,pm.trans p3,xm.trans (y1.trans x3),lm.to p3 (y1.trans x3) S3,ra.mono p3 (y1.trans x3),RK.mono hm p3 (y1.trans x3)⟩
      |true=>
       rw[aw rfl]
       simp only at hm
       cases he:el ρ2 cV with
       |bad=>rw[he]at hm;exact hm.elim
       |ex c s=>rw[he]at hm;exact hm.elim
       |ok w jv=>
        rw[he]at hm
        refine⟨μ3,ρ2,cV,w,jv,l2.to p3 x3 S3,he,fun μ4 b4 H4 p4 x4 S4 q4=>?_⟩
        have pp:=p3.trans p4
        have xx:=y1.trans (x3.trans x4)
        exact⟨iu hy (aV ju (jx hz)),_,by omega,ju,rfl,by simp;omega,μ4,acc++[w],jv,pm.trans pp,xm.trans xx,lm.to pp xx S4,(ra.mono pp xx).app (.consI q4 .nilI),RK.mono hm pp xx⟩
   ·rw[aC ck]at hm;exact hm.elim
  ·have hi':i=k.1.length:=by omega
   subst hi'
   rw[mx (au _)]at hm
   unfold mJ at hm
   by_cases ck:iY bL k.2
   ·rw[aw ck]at hm
    obtain⟨z1,z2⟩:=sw lm.sto ra hm
    exact .inl ⟨(wk _ μ' bL H' pm xm lm.sto ck).2 (au _),z1,fun p hp=>z2 p _ hp rfl⟩
   ·rw[aC ck]at hm;exact hm.elim
 ·rw[aC hz]at h1;exact h1.elim
section
variable{fi:FI}{f:FG}{t:FT}{el:FE}
theorem RR{X X':Cx}{f:FE}(hK:X'.K=X.K)(hm:X'.mg=X.mg)(h:SE X' e f):QE X' e (RQ X (rd X) f):=⟨h.h.imp fun σ H Q ⟨μ,ρ,st,a,bL,l,e,q⟩=>⟨μ,ρ,st,⟨by rw[hK];exact l.env,by rw[hK,hm];exact l.sto⟩,by rw[e];exact fun μ' b H' p x S r=>q μ' b H' p (by rw[<- hK];exact x) (by rw[<- hK,<- hm];exact S) (by show be X.K μ' H' a b;rw[<- hK];exact r)⟩⟩
theorem RT{X X':Cx}{e:List Expr}{f:FT}(hK:X'.K=X.K)(hm:X'.mg=X.mg)(h:Io X' e f):Ph X' e (RQ X L9 f):=⟨h.h.imp fun σ H Q ⟨μ,ρ,st,a,bL,l,e,q⟩=>⟨μ,ρ,st,⟨by rw[hK];exact l.env,by rw[hK,hm];exact l.sto⟩,by rw[e];exact fun μ' b H' p x S r=>q μ' b H' p (by rw[<- hK];exact x) (by rw[<- hK,<- hm];exact S) r⟩⟩
theorem RU{X X':Cx}(hK:X'.K=X.K)(hm:X'.mg=X.mg)(h:SG X' e f):QG X' e (RO X f):=⟨h.h.imp fun v σ H Q ⟨μ,ρ,st,w,ρ',l,r,e,q⟩=>⟨μ,ρ,st,w,ρ',⟨by rw[hK];exact l.env,by rw[hK,hm];exact l.sto⟩,by rw[hK];exact r,e,fun σ' l'=>q σ' ⟨by rw[<- hK];exact l'.env,by rw[<- hK,<- hm];exact l'.sto⟩⟩⟩
theorem k8(hB:uv X.env.scope.names scope.names nm cap X.N=true)(fP:X.env.cells=cellsFrom m X.env.scope.names [])(hi:SI X tg iter fi)(hg:∀cl C s0 H0 fp,SG #[3] tg f)(ht:∀cl C s0 H0 fp,Io #[3] iU t)
  (he:∀cl C s0 H0 fp,SE #[3] jV el) (fz:X.calm=true:=by rfl) (fA:scope.kind=.function:=by rfl) (hs:∀x,foldedSetIterable iter X.env x=pure x:=by intro _;rfl) :
  SE X #[4] (cW cap fi f t el):=
 ⟨(L5 fz fP fA hB ⟨hi.h⟩ (fun cl C s0 H0 fp=>RU (X:=X) rfl rfl (hg cl C s0 H0 fp)) (fun cl C s0 H0 fp=>RT (X:=X) rfl rfl (ht cl C s0 H0 fp)) (fun cl C s0 H0 fp=>RR (X:=X) rfl rfl (he cl C s0 H0 fp)) hs).h.imp fun _ _ _ h=>vY h⟩
theorem l9{x0:Str}{p0 p1:Pos}(Oh:SG X (.Name x0 p0) (eG i))(hB:uv X.env.scope.names scope.names nm cap X.N=true)(fP:X.env.cells=cellsFrom m X.env.scope.names [])(hi:SI X tg iter fi)(hg:∀cl C s0 H0 fp,SG #[3] tg f)(ht:∀cl C s0 H0 fp,Io #[3] iU t)
  (he:∀cl C s0 H0 fp,SE #[3] jV el) (fz:X.calm=true:=by rfl) (fA:scope.kind=.function:=by rfl) (hs:∀x,foldedSetIterable iter X.env x=pure x:=by intro _;rfl)
  (Oe:swapsWith #[4] (some (.Name x0 p0)) p1.line X.env=pure true:=by first|rfl|kernel_rfl) :
  SS X (.Assign [.Name x0 p0] #[4] p1) (zJ (cW cap fi f t el) (eG i)):=
 ⟨(zE ⟨Oh.h⟩ fz fP fA hB ⟨hi.h⟩ (fun cl C s0 H0 fp=>RU (X:=X) rfl rfl (hg cl C s0 H0 fp)) (fun cl C s0 H0 fp=>RT (X:=X) rfl rfl (ht cl C s0 H0 fp)) (fun cl C s0 H0 fp=>RR (X:=X) rfl rfl (he cl C s0 H0 fp)) hs Oe).h.imp fun D σ H h=>by
  walk_at "2"
  have h':tE X (cW cap fi f t el) σ H fun x H1=>RO X (eG i) x σ H1 D.nx:=⟨μ,ρ,st,l,RK.stmt h l fun μ1 st1 x v H1 p1 x1 l1 q1 h1=>⟨μ1,ρ,st1,x,ρ.set i (some x),l1,q1,rfl,fun σ' l'=>h1 μ1 σ' H1 (af _) dC.refl l'⟩⟩
  exact vY h'⟩
end
section
variable{a b o:Expr}{fa fb fc fe fo:FE}{fs:FA}
theorem CA{mj:List V}(hr:∀μ H,RelWs X.K μ H ws mj):zL X (SF mj) (ws,none) μ H:=fun i μ' bL H' pp xx S _=>by
 have hl:ws.length=mj.length:=(hr μ H).len
 refine⟨fun w hw=>?_,fun h=>by show mj.length<=i;rw[<- hl];exact h⟩
 obtain⟨v,g1,g2⟩:=(hr μ' H').get hw
 refine⟨(aa.mp g1).1,fun y H'' hy=>?_⟩
 obtain⟨rfl,hy⟩:=hy
 rw[g1]at hy;cases hy
 exact⟨dC.refl,S,g2⟩
noncomputable def l_(l:List Nat):List W:=l.map fun c=>.str [c]
theorem CB(l:List Nat)(μ:List Addr)(H:Hp):RelWs X.K μ H (l_ l) (oH l):=by
 induction l with
 |nil=>exact .nilI
 |cons a r ih=>exact .consI .str ih
def J6(fe:FE):FI:=fun ρ st=>(fe ρ st).bind fun x st=>match x with
 |.str l=>.ok (l_ l,none) st
 |_=>.bad
theorem Mj(he:SE X e fe):SI X tg e (J6 fe):=⟨(LZ he.h).imp fun σ H R h=>by
 walk_at "2"
 walk_at "1"
 cases x with
 |str z=>exact⟨z,q1.strE,h1 μ1 _ H1 (af _) dC.refl l1.sto (CA (CB z))⟩
 |_=>exact h1.elim⟩
def ce(fe:FE):FI:=fun ρ st=>(fe ρ st).bind fun x st=>match x with
 |.tup ws=>.ok (ws,none) st
 |.loc n=>(match lstOf st n with
  |some ws=>.ok (ws,some (n,ws)) st
  |none=>.bad)
 |.str l=>.ok (l_ l,none) st
 |_=>.bad
theorem iK(he:SE X e fe):SI X tg e (ce fe):=⟨fun pins s σ H Rr I h=>by
 walk_at "2"
 cases e1:fe ρ st with
 |bad=>simp only[ce,e1,R.bind_bad]at h;exact h.elim
 |ex c st1=>
  refine(Ei (tg:=tg) he).h pins s σ H Rr I ⟨μ,ρ,st,l,?_⟩
  simp only[ce,Eh,e1,R.bind_ex]at h ⊢;exact h
 |ok w st1=>
  cases w with
  |tup ws=>
   refine(Ei (tg:=tg) he).h pins s σ H Rr I ⟨μ,ρ,st,l,?_⟩
   simp only[ce,Eh,e1,R.bind_ok]at h ⊢;exact h
  |loc n=>
   refine(Mh (tg:=tg) he).h pins s σ H Rr I ⟨μ,ρ,st,l,?_⟩
   simp only[ce,J4,e1,R.bind_ok]at h ⊢;exact h
  |str z=>
   refine(Mj (tg:=tg) he).h pins s σ H Rr I ⟨μ,ρ,st,l,?_⟩
   simp only[ce,J6,e1,R.bind_ok]at h ⊢;exact h
  |_=>simp only[ce,e1,R.bind_ok]at h;exact h.elim⟩
noncomputable def sK(ws:List W):List W:=(List.range ws.length).map fun(i:Nat)=>W.tup [.int i,ws.getD i .non]
theorem uZ{w:W}(h:(sK ws)[i]?=some w):∃y,ws[i]?=some y/\w=.tup [.int i,y]:=by
 unfold sK at h
 rw[ak]at h
 by_cases hi:i<ws.length
 ·rw[bn hi]at h
  refine⟨ws[i],ae hi,?_⟩
  have:=(aU h).symm
  rw[this]
  show W.tup [W.int i,ws.getD i W.non]=_
  rw[aD,ae hi];rfl
 ·rw[de (by simpa using hi)]at h;cases h
theorem CC(ws:List W):(sK ws).length=ws.length:=by simp[sK]
def vZ(fs:FA):FI:=fun ρ st=>(fs ρ st).bind fun ws st=>match ws with
 |[.tup zs]=>.ok (sK zs,none) st
 |_=>.bad
theorem Iq{GP:List Expr}{kk:Nat}{tp:Pos}(hm:X.mg "enumerate"=none)(ha:SA X [a] fs)(hg:Gl X "enumerate":=by rfl)(hs:starEach [a] X.env=[(false,eval a X.env)]:=by rfl) :
  SI X (.Tuple GP kk tp) (.Call (.Name "enumerate" p) [a] [] pos) (vZ fs):=⟨(D2 hm ⟨ha.h⟩ hg hs).h.imp fun σ H R h=>by
 walk_at "2"
 walk_at "1"
 split at h1
 ·rename_i zs
  obtain⟨y,rfl,ry⟩:=q1.one
  obtain⟨p,vs,rfl,hS,r⟩:=ry.tupE
  refine⟨p,rfl,⟨vs,hS⟩,h1 μ1 _ H1 (af _) dC.refl l1.sto fun i μ' bL H' pp xx S _=>⟨fun w hw=>?_,fun hl=>⟨vs,xx _ _ hS,by rw[CC]at hl;rw[<- r.len];exact hl⟩⟩⟩
  obtain⟨y,hy,rfl⟩:=uZ hw
  have r':=r.mono pp xx
  obtain⟨v,g1,g2⟩:=r'.get hy
  refine⟨⟨vs,v,xx _ _ hS,g1⟩,fun z H'' hz=>?_⟩
  obtain⟨q,hq,rfl,hH⟩:=hz
  have e:=hH vs v (xx _ _ hS) g1
  subst e
  have ex:=fO.same (K:=X.K) (cy hq (.tup [.int i,v]))
  exact⟨ex,S.same (cy hq _),.tupI fO.new (.consI .int (.consI (g2.mono (af _) ex) .nilI))⟩
 ·exact h1.elim⟩
def PP(fa:FE):FE:=fun ρ st=>(fa ρ st).bind fun x st=>match x with
 |.int i=>.ok (.int (-i)) st
 |_=>.bad
noncomputable def Tb(x y:W)(st:List ah):R W:=match x,y with
 |.int i,.int j=>.ok (.bl (decide (i<=j))) st
 |.str [c],.str [d]=>.ok (.bl (decide (c<=d))) st
 |_,_=>.bad
end
theorem qw:∀{l m:List Nat},l.Pairwise (· < ·)->m.Pairwise (· < ·)->(∀x,x∈l↔x∈m)->l=m
 |[],[],_,_,_=>rfl
 |[],b::m,_,_,h=>by have:=(h b).mpr (by simp);simp at this
 |a::l,[],_,_,h=>by have:=(h a).mp (by simp);simp at this
 |a::l,b::m,h1,h2,h=>by
  obtain⟨p1,p2⟩:=cf.mp h1
  obtain⟨q1,q2⟩:=cf.mp h2
  have e:a=b:=by
   rcases aK.mp ((h a).mp #[7])with z|z
   ·exact z
   ·rcases aK.mp ((h b).mpr #[7])with y|y
    ·exact y.symm
    ·have:=p1 b y;have:=q1 a z;omega
  subst e
  rw[qw p2 q2 fun x=>?_]
  constructor
  ·intro hx
   rcases aK.mp ((h x).mp (ay _ hx))with z|z
   ·subst z;exact absurd (p1 x hx) (bx _)
   ·exact z
  ·intro hx
   rcases aK.mp ((h x).mpr (ay _ hx))with z|z
   ·subst z;exact absurd (q1 x hx) (bx _)
   ·exact z
noncomputable def zO(c:List Nat):List (List Nat)->List (List Nat)
 |[]=>[c]
 |d::r=>if c<d then c::d::r else d::zO c r
def fJ(l:List (List Nat)):List (List Nat):=l.foldr zO []
theorem qx(c:List Nat):∀l:List (List Nat),(zO c l).Perm (c::l)
 |[]=>kq _
 |d::r=>by
  unfold zO
  split
  ·exact kq _
  ·exact((qx c r).cons d).trans (List.Perm.swap c d r)
theorem gI(l:List (List Nat)):(fJ l).Perm l:=by
 induction l with
 |nil=>exact kq _
 |cons a r ih=>exact(qx a _).trans (ih.cons a)
def Ir:List (List Nat)->Prop:=List.Pairwise fun a b=>¬ b<a
theorem A3(c:List Nat):∀{l:List (List Nat)},Ir l->Ir (zO c l)
 |[],_=>by simp[zO,Ir]
 |d::r,h=>by
  obtain⟨h1,h2⟩:=cf.mp h
  unfold zO
  split
  ·rename_i hc
   refine cf.mpr ⟨fun x hx=>?_,h⟩
   rcases aK.mp hx with rfl|hx
   ·exact fun z=>List.lt_irrefl _ (List.lt_trans z hc)
   ·exact fun z=>h1 x hx (List.lt_trans z hc)
  ·rename_i hc
   refine cf.mpr ⟨fun x hx=>?_,A3 c h2⟩
   rcases aK.mp ((qx c r).mem_iff.mp hx)with rfl|hx
   ·exact hc
   ·exact h1 x hx
theorem xZ(l:List (List Nat)):Ir (fJ l):=by
 induction l with
 |nil=>exact List.Pairwise.nil
 |cons a r ih=>exact A3 a ih
theorem v0:∀{l m:List (List Nat)},Ir l->Ir m->l.Perm m->l=m
 |[],m,_,_,h=>(List.Perm.nil_eq h)
 |a::l,[],_,_,h=>(by have:=h.length_eq;simp at this)
 |a::l,b::m,h1,h2,h=>by
  obtain⟨p1,p2⟩:=cf.mp h1
  obtain⟨q1,q2⟩:=cf.mp h2
  have e:a=b:=by
   rcases aK.mp (h.mem_iff.mp (by simp:a∈a::l))with z|z
   ·exact z
   ·rcases aK.mp (h.mem_iff.mpr (by simp:b∈b::m))with y|y
    ·exact y.symm
    ·exact List.le_antisymm (show a<=b from p1 b y) (show b<=a from q1 a z)
  subst e
  rw[v0 p2 q2 (List.perm_cons a |>.mp h)]
theorem sL:∀{zs:List (List Nat)},sortedS (zs.map tx)=true->Ir zs:=by
 have key:∀(zs:List (List Nat)) (p:List Nat),risingS (tx p) (zs.map tx)=true->Ir (p::zs):=by
  intro zs
  induction zs with
  |nil=>intro p _;simp[Ir]
  |cons a r ih=>
   intro p h
   have h':(!ltCps a p&&risingS (tx a) (r.map tx))=true:=h
   rw[bA,iR,ltCps_eq,decide_eq_false_iff_not]at h'
   have u:=ih a h'.2
   refine cf.mpr ⟨fun x hx=>?_,u⟩
   rcases aK.mp hx with rfl|hx
   ·exact h'.1
   ·have:=(cf.mp u).1 x hx
    exact List.not_lt.mpr (List.le_trans (List.not_lt.mp h'.1) (List.not_lt.mp this))
 intro zs h
 cases zs with
 |nil=>exact List.Pairwise.nil
 |cons a r=>exact key r a h
section
variable{a b o:Expr}{fa fb fc fe fo:FE}{fs:FA}
def nN(ws:List W)(st:List ah):R W:=match ws with
 |[.loc n]=>m7 (lstOf st n) fun zs=>m7 (mI zs) fun ls=>if ls.length<64 then .ok (.loc st.length) (st++[.lst ((fJ ls).map W.str)])else .bad
 |_=>.bad
theorem x5(ls:List (List Nat)):RelWs K μ H (ls.map W.str) (ls.map fun l=>V.str (tx l)):=by
 induction ls with
 |nil=>exact .nilI
 |cons a r ih=>exact .consI .str ih
theorem x6:lA X (.builtin "sorted") nN:=⟨fun pins s σ H vs us Q I rv zq=>by
 obtain⟨μ,st,ws,S,r,q⟩:=zq
 unfold nN at q
 split at q
 ·rename_i n
  obtain⟨y,rfl,ry⟩:=r.one
  cases e1:lstOf st n with
  |none=>rw[e1]at q;exact q.elim
  |some zs=>
   rw[e1,bE]at q
   cases e2:mI zs with
   |none=>rw[e2]at q;exact q.elim
   |some ls=>
    rw[e2,bE]at q
    split at q
    ·rename_i c
     obtain⟨a,vs,g,hS,rz⟩:=S.lstOf e1
     obtain⟨b1,f1,rfl⟩:=ry.locE
     rw[g]at f1;cases f1
     have:=sJ e2 rz
     subst this
     refine uw.h pins s σ H _ us Q I rv ⟨_,ls,rfl,hS,c,fun zs hp hs l H2 hl eH=>?_⟩
     subst eH
     have ez:zs=fJ ls:=v0 (sL hs) (xZ ls) (hp.trans (gI ls).symm)
     subst ez
     exact q (μ++[l]) _ _ (aJ _ _) (fO.same (cy hl _)) (S.newLst hl (x5 _)) (no S)
    ·exact q.elim
 ·exact q.elim,fun ws st=>by
 unfold nN
 split
 ·exact hZ fun _=>hZ fun _=>by split<;>trivial
 ·trivial⟩
theorem h_{m l:List Nat}(hm:m.Nodup)(h:∀c∈m,c∈l):m.length<=l.length:=by
 induction m generalizing l with
 |nil=>exact cJ _
 |cons a r ih=>
  obtain⟨h1,h2⟩:=bG.mp hm
  have ha:a∈l:=h a #[7]
  have:=ih h2 (l:=l.erase a) fun c hc=>by
   have:c≠a:=fun z=>h1 (z▸hc)
   exact(List.mem_erase_of_ne this).mpr (h c (ay _ hc))
  rw[List.length_erase_of_mem ha]at this
  have:0<l.length:=List.length_pos_of_mem ha
  simp;omega
noncomputable def nu:List W->Option (List Bool)
 |[]=>some []
 |.bl k::ws=>(nu ws).map (k :: ·)
 |_=>none
theorem v5:∀{ws:List W} {ls:List Bool} {vs:List V},nu ws=some ls->RelWs K μ H ws vs->vs=ls.map V.bl
 |[],ls,vs,h,r=>by simp only[nu]at h;cases h;exact r.nilE
 |w::ws,ls,vs,h,r=>by
  obtain⟨x,xs,rfl,rx,rs⟩:=r.consE
  cases w with
  |bl l=>
   simp only[nu]at h
   cases e:nu ws with
   |none=>rw[e]at h;cases h
   |some ls'=>rw[e]at h;cases h;rw[rx.blE,v5 e rs];rfl
  |_=>simp only[nu]at h;cases h
def x8(ws:List W)(st:List ah):R W:=match ws with
 |[.loc n]=>m7 (lstOf st n) fun zs=>m7 (nu zs) fun ls=>.ok (.bl (ls.all id)) st
 |_=>.bad
theorem J7(hc:X.calm=true:=by rfl):lA X (.builtin "all") x8:=⟨fun pins s σ H vs us Q I rv zq=>by
 obtain⟨μ,st,ws,S,r,q⟩:=zq
 unfold x8 at q
 split at q
 ·rename_i n
  obtain⟨y,rfl,ry⟩:=r.one
  cases e1:lstOf st n with
  |none=>rw[e1]at q;exact q.elim
  |some zs=>
   rw[e1,bE]at q
   cases e2:nu zs with
   |none=>rw[e2]at q;exact q.elim
   |some ls=>
    rw[e2,bE]at q
    obtain⟨a,vs,g,hS,rz⟩:=S.lstOf e1
    obtain⟨b1,f1,rfl⟩:=ry.locE
    rw[g]at f1;cases f1
    have:=v5 e2 rz
    subst this
    exact(Pi hc).h pins s σ H _ us Q I rv ⟨_,ls,rfl,hS,gH S q⟩
 ·exact q.elim,fun ws st=>by
 unfold x8
 split
 ·exact hZ fun _=>hZ fun _=>trivial
 ·trivial⟩
end
noncomputable def W.ty:W->Option String
 |.non=>some "NoneType" | .bl _=>some "bool" | .int _=>some "int" | .str _=>some "str" | .tup _=>some "tuple" | .loc _=>none
noncomputable def Iu(t T:String):Bool:=(t==T)||(t == "bool" && T == "int")
theorem PQ{K:Frag}{T:String}(h:D0 T){w:W}{t:String}(hw:w.ty=some t):PySem.W.kitOne K (.type t) (.type T)=some (Iu t T):=by
 cases w<;>simp only[W.ty]at hw<;>cases hw<;>(rcases h with rfl|rfl|rfl|rfl<;>rfl)
def jA(T:String)(fa:FE):FE:=fun ρ st=>(fa ρ st).bind fun x st=>match x.ty with
 |some t=>.ok (.bl (Iu t T)) st
 |none=>.bad
section
variable{a b o:Expr}{fa fb fc fe fo:FE}{fs:FA}
theorem A4{T:String}{xT:Str}(hm:X.mg "isinstance"=none)(hT:X.mg xT=none)(hv:bootBuiltins xT=some (.type T))(ha:SE X a fa)(hk:D0 T:=by first|exact .inl rfl|exact .inr (.inl rfl)|exact .inr (.inr (.inl rfl))|exact .inr (.inr (.inr rfl)))
  (hg:Gl X "isinstance":=by rfl) (Us:Gl X xT:=by rfl) (hn:xT ≠ "__name__":=by decide) (hd:(xT==("__debug__":Str))=false:=by decide)
  (he:starEach [a,.Name xT p2] X.env=(false,eval a X.env)::starEach [.Name xT p2] X.env:=by rfl) (Ox:starEach [.Name xT p2] X.env=(false,eval (.Name xT p2) X.env)::starEach [] X.env:=by rfl) (qK:(backTo pos (starEach [.Name xT p2] X.env)).any (·.1)=false:=by rfl) :
  SE X (.Call (.Name "isinstance" p) [a,.Name xT p2] [] pos) (jA T fa):=by
 have C:iV X (.builtin "isinstance") (fun xs H Q=>∃x μ st w t,xs=[x,.ty T]/\fW X.K X.mg μ st H/\be X.K μ H w x/\w.ty=some t/\Q (.bl (Iu t T)) H):=by
  intro pins s σ H xs us Q I r h
  obtain⟨x,μ,st,w,t,rfl,S,rx,ht,q⟩:=h
  obtain⟨u,u2,rfl,r1,r2⟩:=cH.two r
  obtain rfl:u2=.type T:=r2
  have e:=PQ (K:=X.K) hk ht
  cases w with
  |tup ws=>
   cases ht
   obtain⟨p,vs,rfl,hS,_⟩:=rx.tupE
   cases(show u=Value.ref p from r1)
   obtain⟨bJ,_,hp,_⟩:=I.tuple hS
   obtain⟨o,h1,h2,_⟩:=hp
   exact kia_one PySem.W.kitx_tuple I.kIn ⟨o,h1,h2⟩ e (fun z=>nomatch z) fun tk=>⟨.bl _,H,I.tok tk,rfl,q⟩
  |non=>cases ht;cases rx.nonE;exact nM I r1 .non e fun tk=>⟨.bl _,H,I.tok tk,rfl,q⟩
  |bl b=>cases ht;cases rx.blE;exact nM I r1 (.bl _) e fun tk=>⟨.bl _,H,I.tok tk,rfl,q⟩
  |int b=>cases ht;cases rx.intE;exact nM I r1 (.int _) e fun tk=>⟨.bl _,H,I.tok tk,rfl,q⟩
  |str b=>cases ht;cases rx.strE;exact nM I r1 (.str _) e fun tk=>⟨.bl _,H,I.tok tk,rfl,q⟩
  |loc b=>cases ht
 refine⟨(xG C hg hm boot_isinstance (ph ha.h (ph (Hq Us hT hv (v:=.ty T) rfl hn hd) vK Ox) he) #[8] #[8] he qK).imp fun σ H Q h=>?_⟩
 walk_at "2"
 walk_at "1"
 cases ht:x.ty with
 |none=>rw[ht]at h1;exact h1.elim
 |some t=>
  rw[ht]at h1
  exact⟨v,μ1,st1,x,t,rfl,l1.sto,q1,ht,h1 μ1 _ H1 (af _) dC.refl l1.sto .bl⟩
theorem El{w:World}{k:Nat}{st:Stmt}{ps:List Str}
  (F:lZ K x x st f fd) (hm:mg x=some (.ref f)) (hn:ps.length=n)
  (hb:∀(kV jc pm:Value) (an:Option Addr) (gU ct:Value) (us:List Value),us.length=ps.length->bindArgs (fnOf x x (dO st) (dQ st) (aY st) .none kV jc pm an gU ct) ⟨us,[]⟩=pure (ps.zip us)) :
  eX P w K mg base k x n (fun _ _=>.bad):=rH F hm hn hb ⟨fun vs H Q E h=>by rw[hn];exact h.1,fun _ _ _ _ _ _ _ _ _ _ _ _ _ h=>by obtain⟨_,_,_,_,_,_,z⟩:=h;exact z.elim⟩
end
section
end
open AutoSeq1 (wpAny_loadPart')
theorem x9(l:Addr)(items:Array Value)(n:Nat)(b:Addr)(hX:Array Value)(n2:Nat)(dd:Option Addr)(sl:Array (Option Value))(Tu:¬(!items.isEmpty&&Builtin.List.listTooLong (items.size+hX.size))=true)(zc:items.size<=sizeLine)(R3:items.size+hX.size<=sizeLine+1) :
  Meets (Builtin.«list.extend» ⟨[.ref l,.ref b],[]⟩) (fun _ R s=>s.heap.get? l=some { cls:=.type "list",dict:=none,data:=.seq items n,slots:=#[] }/\s.heap.get? b=some { cls:=.type "tuple",dict:=dd,data:=.seq hX n2,slots:=sl }
   /\ R (.ok (.ret Value.none)) { s with heap:=s.heap.update l (Obj.mapSeq fun x=>x++hX),toks:=s.toks }):=
 .of_wp fun prog w A R s h=>by
  have g1:=AutoSeq1.idx_int
  have g2:=lh
  have g3:=AutoSeq1.sub_list_list
  have g4:=AutoSeq1.sub_tuple_list
  have g5:=AutoSeq1.sub_list_tuple
  obtain⟨hp,gl,ds,tk,os⟩:=s
  obtain⟨ha,hb,q⟩:=h
  have fits:(items++hX).size<=sizeLine+1:=by
   rw[Array.size_append]
   exact R3
  wp_walk using (jG ha rfl (hz:=zc) (_hz':=fits)),bv ha,bv hb
  exact⟨_,rfl,q⟩
def Em(K:Frag):V->List V->Hp->VK->Prop:=fun x vs H Q=>∃l b xs zs,x=.ref l/\vs=[.ref b]/\H l=some (.lst xs)/\fO K H b zs/\xs.length+zs.length<=sizeLine/\Q .non (eW H l (.lst (xs++zs)))
section
theorem zP:Sz X "list.extend" (Em X.K):=by
 intro pins s σ H x vs v us Q I rx rv h
 obtain⟨l,b,xs,zs,rfl,rfl,hH,hB,hz,q⟩:=h
 cases rx
 obtain⟨u,rfl,ru⟩:=rv.one
 cases ru
 obtain⟨z,bJ,n,r,hl,e⟩:=I.lstM hH
 obtain⟨its2,r2,⟨o,e2,hc,n2,hd⟩,z2⟩:=I.tuple hB
 have hl2:=r2.length
 have hsz:bJ.toArray.size+its2.toArray.size<=sizeLine:=by rw[aO,aO];omega
 have hlong:¬ (!bJ.toArray.isEmpty&&Builtin.List.listTooLong (bJ.toArray.size+its2.toArray.size))=true:=by
  rw[xI hsz,Bool.and_false]
  exact bC
 obtain⟨cls,dd,data,sl⟩:=o
 dsimp only at hc hd
 subst hc hd
 refine pb F.slot_list_extend ⟨_,e,rfl⟩ F.entry_list_extend (F.args_list_extend_2 _ _)
  (x9 l bJ.toArray n b its2.toArray n2 dd sl hlong (by rw[aO];omega) #[0]) ⟨e,e2,?_⟩
 refine⟨.non,_,I.lset (its':=bJ++its2) hH e #[7] (r.append r2) ?_,rfl,q⟩
 rw[aN]
 omega
def jX(x:W)(ws:List W)(st:List ah):R W:=match x,ws with
 |.loc n,[.tup ys]=>(match st[n]? with
  |some (.lst zs)=>if zs.length+ys.length<=kE then .ok .non (st.set n (.lst (zs++ys)))else .bad
  |_=>.bad)
 |_,_=>pH x ws st
theorem zQ:On X "list.extend" jX:=⟨fun pins s σ H x vs v us Q I rv rus zq=>by
 obtain⟨μ,st,wx,ws,S,rx,rs,q⟩:=zq
 unfold jX at q
 split at q
 ·rename_i n ys
  obtain⟨y1,rfl,ry⟩:=rs.one
  split at q
  ·rename_i zs e1
   split at q
   ·rename_i c
    obtain⟨a1,g1,vs1,k1,r1⟩:=S.get e1
    obtain⟨b1,f1,rfl⟩:=rx.locE
    rw[g1]at f1;cases f1
    obtain⟨p,vs2,rfl,hS,r2⟩:=ry.tupE
    refine zP pins s σ H _ _ v us Q I rv rus ⟨a1,p,vs1,vs2,rfl,rfl,k1,hS,by rw[<- r1.len,<- r2.len];exact jx c,?_⟩
    exact q μ _ _ (af _) (fO.but gP k1) (S.set e1 g1 k1 (r1.app r2)) .non
   ·exact q.elim
  ·exact q.elim
 ·exact uX.h pins s σ H x vs v us Q I rv rus ⟨μ,st,wx,ws,S,rx,rs,q⟩,fun x ws st=>by
 unfold jX
 split
 ·repeat' split
  all_goals trivial
 ·exact(uX (X:=X)).n x ws st⟩
end
section
variable{a b o:Expr}{fa fb fe fo:FE}{fs:FA}
end
section
variable{w:World}{g:Array GenState}{d:Drawn}{t:Nat}{os:OsState}
 {nm q:Str} {C N:Addr} {bs bm:List Value} {Uu:Bool} {sn:List Str} {TL:List Value} {ab:Bool} {col:Option Bool} {dd:Option Addr} {k0 k1 k2 k3 k5:Option Value} {T7:String} {K:Frag}
end
section
variable{a:Expr}{fa:FE}
end
section
variable{a:Expr}{fa:FE}{k:Nat}
end
section
end
section
theorem sM(l:List α):∀(k:Nat) (acc:List α),List.foldl (fun x1 x2=>x1++x2) acc.toArray (List.replicate k l.toArray)=(acc++(List.replicate k l).flatten).toArray
 |0,acc=>by simp
 |k+1,acc=>by
  have e:acc.toArray++l.toArray=(acc++l).toArray:=by simp
  rw[List.replicate_succ,List.foldl_cons,e,sM l k (acc++l),List.replicate_succ,List.flatten_cons,az]
theorem Mk(l:List Nat)(n:Int):Txt.mul (tx l) n=tx (List.replicate n.toNat l).flatten:=by
 unfold Txt.mul
 by_cases h:n<1
 ·rw[aw h,show n.toNat=0 by omega];rfl
 ·rw[aC h]
  split
  ·rename_i hc
   rw[ie,eN,eN,jw]at hc
   rcases hc with rfl|hc
   ·simp
   ·have:l=[]:=lR.mp hc
    subst this
    simp
  ·have:=sM l n.toNat []
   rw[mM]at this
   show Str.mk _=Str.mk _
   congr 1
theorem Iv:mF X (binaryOp .Mult) (fun x y H Q=>∃(l:List Nat) (k:Int),x=.str (tx l)/\y=.int k/\-(2^62)<=k/\k<2^62/\l.length*k.toNat<=1000000/\Q (.str (tx (List.replicate k.toNat l).flatten)) H):=by
 intro pins s σ H x y v u Q I rx ry h
 obtain⟨l,k,rfl,rfl,h1,h2,h3,q⟩:=h
 obtain⟨t,rfl⟩:=rx
 obtain⟨t',rfl⟩:=ry
 refine SB.mul ⟨?_,?_,?_⟩ fun t2 tk=>⟨.str _,H,I.tok _,⟨t2,?_⟩,q⟩
 ·simp;omega
 ·intro hk hx
  rw[jw]
  intro hg
  have hk1:1<=k:=by omega
  have:k*((2^63-1)/k)<=2^63-1:=Int.mul_ediv_self_le #[0]
  have h4:(2^63-1)<k*(l.length:Int):=by
   have:=Int.lt_mul_of_ediv_lt (a:=2^63-1) (b:=(l.length:Int)) (c:=k) #[0] hg
   rw[Int.mul_comm];exact this
  have h5:k*(l.length:Int)=((l.length*k.toNat:Nat):Int):=by
   rw[ig,Int.toNat_of_nonneg #[0],Int.mul_comm]
  rw[h5]at h4
  omega
 ·intro hk hx
  rw[jw]
  unfold Builtin.Str.tooLong
  rw[aZ]
  have:(1000000:Nat)<=sizeLine:=by decide
  omega
 ·rw[Mk]
def iL:W->W->List ah->R W
 |.int i,.int j,st=>if Mb i j then .ok (.int (i*j)) st else .bad
 |.str l,.int k,st=>if -(2^62)<=k/\k<2^62/\l.length*k.toNat<=kE then .ok (.str (List.replicate k.toNat l).flatten) st else .bad
 |_,_,_=>.bad
theorem v6:pE X (binaryOp .Mult) iL:=⟨fun pins s σ H x y v u Q I rv ru zq=>by
 walk_at "3"
 cases wx with
 |int i=>
  cases wy with
  |int j=>
   have q':Ds X μ H Q (Pq (.int i) (.int j) st):=q
   exact Pt.h pins s σ H x y v u Q I rv ru ⟨μ,st,.int i,.int j,S,rx,ry,q'⟩
  |_=>exact q.elim
 |str l=>
  cases wy with
  |int k=>
   simp only[iL]at q
   split at q
   ·rename_i cc
    exact Iv pins s σ H x y v u Q I rv ru ⟨l,k,rx.strE,ry.intE,cc.1,cc.2.1,cc.2.2,pG S q⟩
   ·exact q.elim
  |_=>exact q.elim
 |_=>cases wy<;>exact q.elim,fun x y st=>by
 unfold iL
 repeat' split
 all_goals trivial⟩
end
section
variable{fs:FA}
end
section
variable{w:World}
theorem sN:∀(l:List Nat) (vs:List Value),vs.length=l.length->(∀(j:Nat) (v:Value),vs[j]?=some v->∃c u,l[j]?=some c/\v=.str (tx [c]) u)->StrsAre vs (l.map fun c=>tx [c])
 |[],[],_,_=>.nil
 |c::l,v::vs,hl,h=>by
  obtain⟨d,u,e,rfl⟩:=h 0 v rfl
  cases e
  exact .cons _ _ (sN l vs (Nat.succ.inj hl) fun j v hj=>h (j+1) v hj)
 |[],_::_,hl,_=>nomatch hl
 |_::_,[],hl,_=>nomatch hl
theorem x_{t:Tok}(few:l.length<64)(hh:A.handled=none)
  (q:∀(s1:Shared) (g1:Heap) (out:Array Value) (ss:List Str) (e:Nat),(∀b o,s.heap.get? b=some o->s1.heap.get? b=some o)->s1.gens=s.gens->s1.drawn=s.drawn->s1.os=s.os->(∀b o,s1.heap.get? b=some o->g1.get? b=some o)->g1.get? s1.heap.objs.size=some (seqObj "list" out e) ->
   StrsAre out.toList ss->ss.Perm (l.map fun c=>tx [c])->sortedS ss=true->Q (.ref s1.heap.objs.size) { s1 with heap:=g1 }):wpAny #[17] A (call (.builtin "sorted") [.str (tx l) t]) Q E s:=by
 have hn:(tx l).cps.size=l.length:=by simp[tx]
 apply gZ kind_sorted plain_sorted entry_sorted (args_sorted1 _)
 show wpAny _ _ (checkCount "sorted" 1 1 _ >>= _) _ _ _
 refine ac (am (ac (wpAny_collect_str (by simpa using hh) _ _ (fun s1 acc kp eg ed eo ha=>?_) (by rw[iF];omega))))
 have wW:StrsAre acc.toList (l.map fun c=>tx [c]):=by
  refine sN l _ (by rw[eQ,ha.1,hn]) fun j v hj=>?_
  obtain⟨c,u,hc,e⟩:=ha.2 j v (by simpa using hj)
  exact⟨c,u,by simpa[tx]using hc,e⟩
 have hvl:acc.toList.length<64:=by rw[eQ,ha.1,hn];exact few
 refine ac (ll ?_ (by rw[iF];omega))
 have oL:(s1.heap.push (seqObj "list" acc.toList.toArray 0)).get? s1.heap.objs.size=some (seqObj "list" acc.toList.toArray 0):=aL _ rfl
 refine ac (bZ (cA slot_list_sort ⟨_,oL,rfl⟩ entry_list_sort (list_sort_treeK strKind_oneLt oL wW.keysOf (fun a b r e=>keyKind_strs (by rw[<- e];exact wW)) hvl fun st a1 a2=>⟨_,rfl,?_⟩) (args_list_sort _)))
 obtain⟨ss,h1,h2,h3⟩:=sorted_out_str wW a1 a2
 obtain⟨e,he⟩:=sortedHeap_at (out:=(arrOf st).map (·.2)) oL
 refine am ⟨_,rfl,q s1 _ _ ss e kp eg ed eo (fun b o hb=>?_) he h1 h2 h3⟩
 rw[sortedHeap_old (bq (aE hb)) (by rw[f9];exact gC (aE hb))]
 exact ar _ hb
end
section
def k9(ws:List W)(st:List ah):R W:=match ws with
 |[.str l]=>if l.length<64 then .ok (.loc st.length) (st++[.lst ((fJ (l.map fun c=>[c])).map W.str)])else .bad
 |[.loc n]=>nN [.loc n] st
 |_=>.bad
theorem A5(hc:X.calm=true:=by rfl):lA X (.builtin "sorted") k9:=⟨fun pins s σ H vs us Q I rv zq=>by
 obtain⟨μ,st,ws,S,r,q⟩:=zq
 unfold k9 at q
 split at q
 ·rename_i l
  split at q
  ·rename_i c
   obtain⟨y,rfl,ry⟩:=r.one
   have:=ry.strE;subst this
   obtain⟨u,rfl,ru⟩:=jk rv
   obtain⟨t,rfl⟩:=ru
   refine x_ c (I.ok.hd hc) fun s1 g1 out ss e kp eg ed eo k1 gL wW hp hsr=>?_
   have es:s1={ s with heap:=s1.heap,toks:=s1.toks }:=by cases s1;cases s;cases eg;cases ed;cases eo;rfl
   generalize s1.heap=g0,s1.toks=tk at es kp k1 gL ⊢
   subst es
   have I2:bw X pins σ H { s with heap:=g0,toks:=tk }:=I.kept2 (d':=s.drawn) fun b o e=>kp b o e
   have qk:H g0.objs.size=none:=I2.hok.fresh (au _)
   have hmap:(ss.map fun z=>z.cps.toList).map tx=ss:=by
    rw[aH]
    have:(tx∘fun z:Str=>z.cps.toList)=id:=funext fun z=>AN z
    rw[this,kS]
   have hperm:(ss.map fun z=>z.cps.toList).Perm (l.map fun c=>[c]):=by
    have e:=hp.map fun z:Str=>z.cps.toList
    rw[aH]at e
    exact e
   have ez:(ss.map fun z=>z.cps.toList)=fJ (l.map fun c=>[c]):=v0 (sL (by rw[hmap];exact hsr)) (xZ _) (hperm.trans (gI _).symm)
   have hvals:cH ((fJ (l.map fun c=>[c])).map fun l=>V.str (tx l)) out.toList:=by
    have e:=oJ wW
    rw[<- hmap,ez,aH]at e
    exact e
   refine⟨.ref g0.objs.size,_,I2.laid (o:=.lst ((fJ (l.map fun c=>[c])).map fun l=>V.str (tx l))) (t':=tk) k1 (au _) ⟨?_,out.toList,e,hvals,gL⟩,rfl,?_⟩
   ·rw[ai,(gI _).length_eq,ai]
    exact a8 (dh c) #[8]
   ·exact q (μ++[g0.objs.size]) _ _ (aJ _ _) (fO.same (cy qk _)) (S.newLst qk (x5 _)) (no S)
  ·exact q.elim
 ·exact x6.h pins s σ H _ us Q I rv ⟨μ,st,_,S,r,q⟩
 ·exact q.elim,fun ws st=>by
 unfold k9
 split
 ·split<;>trivial
 ·exact(x6 (X:=X)).n _ _
 ·trivial⟩
end
section
variable{a b:Expr}{fs:FA}
end
theorem Iw{pos:Pos}{g:TG}(fz:X.calm=true)
  (fA:scope.kind=.function) (hB:uv X.env.scope.names scope.names nm cap X.N=true)
  (hi:QI X tg iter wi) (hg:∀cl C s0 H0 fp,QG #[3] tg g) (ht:∀cl C s0 H0 fp,Ph #[3] iU tc)
  (he:∀cl C s0 H0 fp,QE #[3] jV te) (hs:∀x,foldedSetIterable iter X.env x=pure x:=by intro _;rfl) :
  QE X #[4] (pq cap wi g tc te):=by
 refine⟨fun pins s σ H Q I h=>?_⟩
 have F:=L4 (nm:=nm) (cap:=cap) (fun x z=>I.ok.has x (.inl z)) hB
 exact AK fz F.clos F.cl fA F.nms F.cell F.has F.cp F.len hi.h (fun C s0 H0 fp=>(hg _ C s0 H0 fp).h) (fun C s0 H0 fp=>(ht _ C s0 H0 fp).h) (fun C s0 H0 fp=>(he _ C s0 H0 fp).h) hs pins s σ H Q I h
section
variable{fi:FI}{f:FG}{t:FT}{el:FE}
theorem Iy(hB:uv X.env.scope.names scope.names nm cap X.N=true)(hi:SI X tg iter fi)(hg:∀cl C s0 H0 fp,SG #[3] tg f)(ht:∀cl C s0 H0 fp,Io #[3] iU t)
  (he:∀cl C s0 H0 fp,SE #[3] jV el) (fz:X.calm=true:=by rfl) (fA:scope.kind=.function:=by rfl) (hs:∀x,foldedSetIterable iter X.env x=pure x:=by intro _;rfl) :
  SE X #[4] (cW cap fi f t el):=
 ⟨(Iw fz fA hB ⟨hi.h⟩ (fun cl C s0 H0 fp=>RU (X:=X) rfl rfl (hg cl C s0 H0 fp)) (fun cl C s0 H0 fp=>RT (X:=X) rfl rfl (ht cl C s0 H0 fp)) (fun cl C s0 H0 fp=>RR (X:=X) rfl rfl (he cl C s0 H0 fp)) hs).h.imp fun _ _ _ h=>vY h⟩
end
section
variable{w:World}
variable{z P O i j:Addr}{xs ys:Array Value}{x y:Value}
end
open AutoSeq1 (wpAny_loadPart')
section
variable{w:World}
end
section
variable{a b:Expr}{fs:FA}
end
open Builtin.Str (tooLong)
section
variable{w:World}
end
section
end
section
noncomputable def fy:List W->Option (List Int)
 |[]=>some []
 |.int z::ws=>(fy ws).map (z :: ·)
 |_=>none
theorem lD:∀{ws:List W} {l:List Int} {vs:List V},fy ws=some l->RelWs K μ H ws vs->vs=l.map V.int
 |[],l,vs,h,r=>by simp only[fy]at h;cases h;exact r.nilE
 |w::ws,l,vs,h,r=>by
  obtain⟨x,xs,rfl,rx,rs⟩:=r.consE
  unfold fy at h
  split at h
  ·rename_i e;cases e
  ·rename_i z RF e
   cases e
   cases e2:fy ws with
   |none=>rw[e2]at h;cases h
   |some l'=>rw[e2]at h;cases h;rw[rx.intE,lD e2 rs];rfl
  ·cases h
end
section
end
noncomputable abbrev PR:=List W×List (Nat×List W)
abbrev TX:=cu->List ah->R PR
section
variable{fi:TX}{f:FG}{t:FT}{el:FE}
end
section
variable{a b:Expr}{fs:FA}
end
section
end
section
variable{g:TG}{te:Cx->TE}
end
section
variable{fi:FI}{f:FG}{el:FE}
end
theorem DK.key_inj{a b:DK}:a.key=b.key↔a=b:=by
 cases a<;>cases b<;>simp[DK.key,DS]
noncomputable def DK.w:DK->W
 |.i z=>.int z
 |.s l=>.str l
noncomputable def iZ:W->Option DK
 |.int z=>some (.i z)
 |.str l=>some (.s l)
 |_=>none
theorem nO{w:W}{k:DK}{v:V}(h:iZ w=some k)(r:be K μ H w v):v=kV k.key:=by
 cases w with
 |int z=>cases h;exact r.intE
 |str l=>cases h;exact r.strE
 |_=>cases h
theorem DK.w_rel(k:DK):be K μ H k.w (kV k.key):=by
 cases k with
 |i z=>exact .int
 |s l=>exact .str
noncomputable def jL(kvs:List (DK×W))(k:DK):Option W:=(kvs.find? fun p=>decide (p.1=k)).map fun p=>p.2
noncomputable def sP(kvs:List (DK×W))(k:DK)(v:W):List (DK×W):=if (kvs.any fun p=>decide (p.1=k))=true then kvs.map fun p=>if p.1=k then(p.1,v)else p else kvs++[(k,v)]
noncomputable def jY(kvs:List (DK×W))(k:DK):List (DK×W):=kvs.filter fun p=>decide (p.1≠k)
abbrev dV(kvs:List (DK×W))(vs:List V):List (f'×V):=(kvs.map fun p=>p.1.key).zip vs
section
theorem sQ:∀{kvs:List (DK×W)} {vs:List V} (k:DK),RelWs K μ H (kvs.map fun p=>p.2) vs->(∃w v,jL kvs k=some w/\jW (dV kvs vs) k.key=some v/\be K μ H w v)\/(jL kvs k=none/\jW (dV kvs vs) k.key=none)
 |[],vs,k,r=>.inr ⟨rfl,rfl⟩
 |p::kvs,vs,k,r=>by
  obtain⟨x,xs,rfl,a,b⟩:=RelWs.consE r
  have ih:=sQ (kvs:=kvs) k b
  by_cases h:p.1=k
  ·refine .inl ⟨p.2,x,?_,?_,a⟩
   ·unfold jL;rw[bH];simp[h]
   ·show jW ((p.1.key,x)::dV kvs xs) k.key=some x
    exact m8 (by rw[h])
  ·have e1:jL (p::kvs) k=jL kvs k:=by unfold jL;rw[bH];simp[h]
   have e2:jW (dV (p::kvs) (x::xs)) k.key=jW (dV kvs xs) k.key:=pj (p:=(p.1.key,x)) fun z=>h (DK.key_inj.mp z)
   rw[e1,e2];exact ih
theorem En:∀{kvs:List (DK×W)} {vs:List V} (k:DK),RelWs K μ H (kvs.map fun p=>p.2) vs->((dV kvs vs).any fun kv=>decide (kv.1=k.key))=(kvs.any fun p=>decide (p.1=k))
 |[],vs,k,r=>rfl
 |p::kvs,vs,k,r=>by
  obtain⟨x,xs,rfl,a,b⟩:=RelWs.consE r
  show(decide (p.1.key=k.key)||(dV kvs xs).any _)=(decide (p.1=k)||kvs.any _)
  rw[En k b]
  congr 1
  rw[decide_eq_decide];exact DK.key_inj
theorem Eo{k:DK}{w:W}{v:V}:∀{kvs:List (DK×W)} {vs:List V},RelWs K μ H (kvs.map fun p=>p.2) vs->be K μ H w v->∃us,(dV kvs vs).map (fun kv=>if kv.1=k.key then(kv.1,v)else kv)=dV (kvs.map fun p=>if p.1=k then(p.1,w)else p) us/\RelWs K μ H ((kvs.map fun p=>if p.1=k then(p.1,w)else p).map fun p=>p.2) us
 |[],vs,r,kQ=>⟨[],rfl,.nilI⟩
 |p::kvs,vs,r,kQ=>by
  obtain⟨x,xs,rfl,a,b⟩:=RelWs.consE r
  obtain⟨us,e,q⟩:=Eo (k:=k) b kQ
  by_cases h:p.1=k
  ·refine⟨v::us,?_,?_⟩
   ·show(if p.1.key=k.key then(p.1.key,v)else(p.1.key,x))::(dV kvs xs).map _=_
    rw[aw (by rw[h]),e,aF,aw h];rfl
   ·rw[aF,aw h];exact .consI kQ q
  ·refine⟨x::us,?_,?_⟩
   ·show(if p.1.key=k.key then(p.1.key,v)else(p.1.key,x))::(dV kvs xs).map _=_
    rw[aC (fun z=>h (DK.key_inj.mp z)),e,aF,aC h];rfl
   ·rw[aF,aC h];exact .consI a q
theorem Ep{kvs:List (DK×W)}{k:DK}{w:W}{v:V}(r:RelWs K μ H (kvs.map fun p=>p.2) vs)(kQ:be K μ H w v):∃us,mQ (dV kvs vs) k.key v=dV (sP kvs k w) us/\RelWs K μ H ((sP kvs k w).map fun p=>p.2) us:=by
 unfold mQ sP
 rw[En k r]
 by_cases h:(kvs.any fun p=>decide (p.1=k))=true
 ·rw[aw h,aw h]
  exact Eo r kQ
 ·rw[aC h,aC h]
  refine⟨vs++[v],?_,?_⟩
  ·unfold dV
   rw[cF,List.zip_append (by rw[ai,<- r.len,ai])];rfl
  ·rw[cF];exact r.app (.consI kQ .nilI)
theorem A6{k:DK}:∀{kvs:List (DK×W)} {vs:List V},RelWs K μ H (kvs.map fun p=>p.2) vs->∃us,mG (dV kvs vs) k.key=dV (jY kvs k) us/\RelWs K μ H ((jY kvs k).map fun p=>p.2) us
 |[],vs,r=>⟨[],rfl,.nilI⟩
 |p::kvs,vs,r=>by
  obtain⟨x,xs,rfl,a,b⟩:=RelWs.consE r
  obtain⟨us,e,q⟩:=A6 (k:=k) b
  by_cases h:p.1=k
  ·refine⟨us,?_,?_⟩
   ·have e1:jY (p::kvs) k=jY kvs k:=by unfold jY;rw[cS];simp[h]
    rw[e1]
    exact(Co (p:=(p.1.key,x)) (by rw[h])).trans e
   ·have e1:jY (p::kvs) k=jY kvs k:=by unfold jY;rw[cS];simp[h]
    rw[e1];exact q
  ·have e1:jY (p::kvs) k=p::jY kvs k:=by unfold jY;rw[cS];simp[h]
   refine⟨x::us,?_,?_⟩
   ·rw[e1]
    exact(Cp (p:=(p.1.key,x)) fun z=>h (DK.key_inj.mp z)).trans (cL (List.cons (p.1.key,x)) e)
   ·rw[e1];exact .consI a q
theorem qy{kvs:List (DK×W)}(r:RelWs K μ H (kvs.map fun p=>p.2) vs):(dV kvs vs).length=kvs.length:=by
 unfold dV;rw[List.length_zip,ai,<- r.len,ai,Nat.min_self]
theorem fO.butD{l:Addr}{xs:List (f'×V)}(e:Pa l H H')(hl:H l=some (.dK xs)):dC K H H':=by
 have lN:∀{p:Addr} {o:HO},H p=some o->(∀zs,o≠.dK zs)->p≠l:=fun{p o} q hn z=>by subst z;rw[hl]at q;cases q;exact hn _ rfl
 refine⟨fun p ys h=>?_,fun b o u h=>e _ _ (lN h #[13]) h⟩
 rcases h with(h|⟨o,h⟩)|h
 ·exact .inl (.inl (e _ _ (lN h #[13]) h))
 ·exact .inl (.inr ⟨o,e _ _ (lN h #[13]) h⟩)
 ·exact .inr h
end
theorem fW.setD{st:List ah}(S:fW K mg μ st H){kvs NY:List (DK×W)}{xs:List (f'×V)}{us:List V}(hn:st[n]?=some (.dct kvs))(hm:μ[n]?=some a)(ha:H a=some (.dK xs))(hr:RelWs K μ H (NY.map fun p=>p.2) us) :
  fW K mg μ (st.set n (.dct NY)) (eW H a (.dK (dV NY us))):=
 S.setG hn rfl hm ha (fun _ _ z=>by cases z) #[13] (fO.butD gP ha) rfl ⟨us,dB,hr.mono (af _) (fO.butD gP ha)⟩
noncomputable def i3(st:List ah):W->Option (Nat×List (DK×W))
 |.loc n=>(match st[n]? with
  |some (.dct kvs)=>some (n,kvs)
  |some (.rod kvs)=>some (n,kvs)
  |_=>none)
 |_=>none
noncomputable def rg(st:List ah):W->Option (Nat×List (DK×W))
 |.loc n=>(match st[n]? with
  |some (.dct kvs)=>some (n,kvs)
  |_=>none)
 |_=>none
theorem nv{st:List ah}(S:fW K mg μ st H){x:W}{v:V}{kvs:List (DK×W)}(h:i3 st x=some (n,kvs))(r:be K μ H x v) :
  ∃a vs,(st[n]?=some (.dct kvs)\/st[n]?=some (.rod kvs))/\μ[n]?=some a/\v=.ref a/\Rd H a (.dK (dV kvs vs))/\RelWs K μ H (kvs.map fun p=>p.2) vs:=by
 cases x with
 |loc m=>
  simp only[i3]at h
  cases e:st[m]? with
  |none=>rw[e]at h;cases h
  |some c=>
   rw[e]at h
   cases c with
   |dct z=>
    cases h
    obtain⟨a,g,vs,k,rr⟩:=S.get e
    obtain⟨b,f,rfl⟩:=r.locE
    rw[g]at f;cases f
    exact⟨a,vs,.inl e,g,rfl,.inl k,rr⟩
   |rod z=>
    cases h
    obtain⟨a,g,vs,o,k,rr⟩:=S.get e
    obtain⟨b,f,rfl⟩:=r.locE
    rw[g]at f;cases f
    exact⟨a,vs,.inr e,g,rfl,.inr ⟨o,k⟩,rr⟩
   |_=>cases h
 |_=>cases h
theorem rJ{st:List ah}(S:fW K mg μ st H){x:W}{v:V}{kvs:List (DK×W)}(h:rg st x=some (n,kvs))(r:be K μ H x v) :
  ∃a vs,st[n]?=some (.dct kvs)/\μ[n]?=some a/\v=.ref a/\H a=some (.dK (dV kvs vs))/\RelWs K μ H (kvs.map fun p=>p.2) vs:=by
 cases x with
 |loc m=>
  simp only[rg]at h
  cases e:st[m]? with
  |none=>rw[e]at h;cases h
  |some c=>
   rw[e]at h
   cases c with
   |dct z=>
    cases h
    obtain⟨a,g,vs,k,rr⟩:=S.get e
    obtain⟨b,f,rfl⟩:=r.locE
    rw[g]at f;cases f
    exact⟨a,vs,e,g,rfl,k,rr⟩
   |_=>cases h
 |_=>cases h
theorem xL.r{kvs:List (f'×V)}{k:f'}(e:Rd H a (.dK kvs)):xL H a (kV k) (jW kvs k):=.inl ⟨kvs,k,e,rfl,rfl⟩
section
variable{a b d o i:Expr}{fa fb fc fe fo fi:FE}{fs:FA}
def v7(Ao:Bool)(x y:W)(st:List ah):R W:=match i3 st y with
 |some (_,kvs)=>(match iZ x with
  |some k=>.ok (.bl (if Ao then !(jL kvs k).isSome else(jL kvs k).isSome)) st
  |none=>.bad)
 |none=>uV Ao x y st
theorem CD{kvs:List (DK×W)}{k:DK}(r:RelWs K μ H (kvs.map fun p=>p.2) vs):(jW (dV kvs vs) k.key).isSome=(jL kvs k).isSome:=by
 rcases sQ k r with⟨w,v,e1,e2,_⟩|⟨e1,e2⟩<;>rw[e1,e2]<;>rfl
theorem ya(hr:fR kk X.A)(ho:pE X (compareOp .NotIn) (uV true)):pE X (compareOp .NotIn) (v7 true):=⟨fun pins s σ H x y v u Q I rv ru zq=>by
 walk_at "3"
 unfold v7 at q
 cases e:i3 st wy with
 |none=>rw[e]at q;exact ho.h pins s σ H x y v u Q I rv ru ⟨μ,st,wx,wy,S,rx,ry,q⟩
 |some nk=>
  obtain⟨n,kvs⟩:=nk
  rw[e]at q
  cases ek:iZ wx with
  |none=>simp only[ek]at q;exact q.elim
  |some k=>
   simp only[ek]at q
   obtain⟨a,vs,_,_,rfl,ha,r⟩:=nv S e ry
   have:=nO ek rx
   subst this
   obtain rfl:u=Value.ref a:=ru
   refine HR (DJ hr) I (xL.r ha) rv fun s' I'=>?_
   rw[CD r]
   exact⟨.bl _,H,I',rfl,gH S q⟩,fun x y st=>by
 unfold v7
 split
 ·split<;>trivial
 ·exact ho.n x y st⟩
def lE(x y:W)(st:List ah):R W:=match i3 st x,iZ y with
 |some (_,kvs),some k=>m7 (jL kvs k) fun w=>.ok w st
 |_,_=>.bad
theorem Er(hr:fR kk X.A)(ha:SE X a fa)(hb:SE X b fb)(hs:DM b:=by intro _ _;rfl):SE X (.Subscript a b pos) (e2 lE fa fb):=⟨(HS (DJ hr) ha.h hb.h hs).imp fun σ H Q h=>by
 walk_at "2"
 refine⟨μ,ρ,st,l,RK.bind h l fun μ1 st1 x v H1 p1 x1 l1 q1 h1=>⟨μ1,ρ,st1,l1,RK.bind h1 l1 fun μ2 cV y u H2 p2 x2 l2 q2 h2=>?_⟩⟩
 unfold lE at h2
 cases e1:i3 cV x with
 |none=>rw[e1]at h2;exact h2.elim
 |some nk=>
  obtain⟨n,kvs⟩:=nk
  cases e2:iZ y with
  |none=>rw[e1,e2]at h2;exact h2.elim
  |some k=>
   rw[e1,e2]at h2
   simp only at h2
   obtain⟨a,vs,_,_,rfl,ha,r⟩:=nv l2.sto e1 (q1.mono p2 x2)
   have:=nO e2 q2
   subst this
   rcases sQ k r with⟨w,z,g1,g2,g3⟩|⟨g1,g2⟩
   ·rw[g1]at h2
    exact⟨a,z,rfl,by rw[<- g2];exact xL.r ha,h2 μ2 z H2 (af _) dC.refl l2.sto g3⟩
   ·rw[g1]at h2;exact h2.elim⟩
def kN(x i v:W)(st:List ah):Option (List ah):=match rg st x,iZ i with
 |some (n,kvs),some k=>if kvs.length<kE then some (st.set n (.dct (sP kvs k v)))else none
 |_,_=>none
theorem Es(hr:fR kk X.A):Hy X (Eg X kN):=fun pins s σ H o i v ov iv u Q I r1 r2 r3 zq=>by
 obtain⟨μ,st,wo,wi,wv,bL,S,ro,ri,rv,e,q⟩:=zq
 unfold kN at e
 cases e1:rg st wo with
 |none=>rw[e1]at e;cases e
 |some nk=>
  obtain⟨n,kvs⟩:=nk
  cases e2:iZ wi with
  |none=>rw[e1,e2]at e;cases e
  |some k=>
   rw[e1,e2]at e
   simp only at e
   split at e
   ·rename_i hl
    cases e
    obtain⟨a,vs,hn,hm,rfl,ha,r⟩:=rJ S e1 ro
    have:=nO e2 ri
    subst this
    obtain rfl:ov=Value.ref a:=r1
    obtain⟨us,g1,g2⟩:=Ep (k:=k) r rv
    refine Cn (DJ hr) I (HQ.k ha (by rw[qy r];exact aV hl #[8])) r2 r3 fun s' I'=>⟨_,I',?_⟩
    rw[g1]
    exact q _ (fO.butD gP ha) (S.setD hn hm ha g2)
   ·cases e
def sR(ws:List W)(st:List ah):R W:=match ws with
 |[x]=>(match i3 st x with
  |some (_,kvs)=>.ok (.int kvs.length) st
  |none=>cR ws st)
 |_=>cR ws st
theorem Ml:lA X (.builtin "len") sR:=⟨fun pins s σ H vs us Q I rv zq=>by
 obtain⟨μ,st,ws,S,r,q⟩:=zq
 unfold sR at q
 split at q
 ·rename_i x
  split at q
  ·rename_i n kvs e
   obtain⟨y,rfl,ry⟩:=r.one
   obtain⟨a,vs,_,_,rfl,ha,rr⟩:=nv S e ry
   obtain⟨u,rfl,ru⟩:=jk rv
   obtain rfl:u=Value.ref a:=ru
   refine O6 I ha fun t s' I'=>⟨.int kvs.length,H,I',⟨t,by rw[qy rr]⟩,?_⟩
   exact q μ _ H (af _) dC.refl S .int
  ·exact jl.h pins s σ H _ us Q I rv ⟨μ,st,_,S,r,q⟩
 ·exact jl.h pins s σ H _ us Q I rv ⟨μ,st,_,S,r,q⟩,fun ws st=>by
 unfold sR
 split
 ·split
  ·trivial
  ·exact(jl (X:=X)).n _ _
 ·exact(jl (X:=X)).n _ _⟩
def oy:FE:=fun _ st=>.ok #[5] (st++[.dct []])
theorem zR:SE X (.Dict [] [] pos) oy:=⟨DN.imp fun σ H Q h=>by
 walk_at "2"
 intro p hp
 have hs:nY H (eW H p (.dK [])):=cy hp _
 exact h (μ++[p]) (.ref p) _ (aJ _ _) (fO.same hs) (l.sto.push (c:=.dct []) hp ⟨[],dB,.nilI⟩) (no l.sto)⟩
abbrev FP:=cu->List ah->R (List (W×W))
def A7:FP:=fun _ st=>.ok [] st
def v8(fk fv:FE)(fr:FP):FP:=fun ρ st=>(fk ρ st).bind fun k st=>(fv ρ st).bind fun v st=>(fr ρ st).bind fun ps st=>.ok ((k,v)::ps) st
abbrev Td(X:Cx):List Addr->Hp->List (W×W)->List (V×V)->Prop:=fun μ H ws vs=>RelWs X.K μ H (ws.map fun p=>p.1) (vs.map fun p=>p.1)/\RelWs X.K μ H (ws.map fun p=>p.2) (vs.map fun p=>p.2)
structure RV(X:Cx)(pos:Pos)(keys:List (Option Expr))(j9:List Expr)(f:FP):Prop where
 h:∃Ax,O8 X pos keys j9 Ax/\∀σ H Q,tG X (Td X) f σ H Q->vR Ax σ H Q
theorem Mm:RV X pos [] [] A7:=⟨[],HU,fun σ H Q h=>by
 walk_at "2"
 exact h μ [] H (af _) dC.refl l.sto ⟨.nilI,.nilI⟩⟩
theorem Iz{k v:Expr}{fk fv:FE}{fr:FP}{vs:List Expr}(hk:SE X k fk)(hv:SE X v fv)(hr:RV X pos ks vs fr):RV X pos (some k::ks) (v::vs) (v8 fk fv fr):=by
 obtain⟨Ax,h1,h2⟩:=hr.h
 refine⟨(tE X fk,tE X fv)::Ax,DO hk.h hv.h h1,fun σ H Q h=>?_⟩
 walk_at "2"
 refine⟨μ,ρ,st,l,RK.bind h l fun μ1 st1 x1 v1 H1 p1 e1 l1 q1 h1=>⟨μ1,ρ,st1,l1,RK.bind h1 l1 fun μ2 cV x2 v2 H2 p2 e2 l2 q2 h2'=>h2 _ _ _ ⟨μ2,ρ,cV,l2,RK.bind h2' l2 fun μ3 jv x3 v3 H3 p3 e3 l3 q3 h3=>?_⟩⟩⟩
 exact h3 μ3 _ H3 (af _) dC.refl l3.sto ⟨.consI (q1.mono (p2.trans p3) (e2.trans e3)) q3.1,.consI (q2.mono p3 e3) q3.2⟩
def keysOf:List (W×W)->Option (List (DK×W))
 |[]=>some []
 |(k,v)::r=>match iZ k,keysOf r with
  |some k,some r=>some ((k,v)::r)
  |_,_=>none
theorem u0:∀{ps:List (W×W)} {kvs:List (DK×W)} {vs:List (V×V)},keysOf ps=some kvs->RelWs K μ H (ps.map fun p=>p.1) (vs.map fun p=>p.1)->RelWs K μ H (ps.map fun p=>p.2) (vs.map fun p=>p.2) ->
  ∃us,vs=(dV kvs us).map (fun kv=>(kV kv.1,kv.2))/\RelWs K μ H (kvs.map fun p=>p.2) us
 |[],kvs,vs,h,r1,r2=>by
  cases h
  have:vs=[]:=by simpa using r1.nilE
  subst this
  exact⟨[],rfl,.nilI⟩
 |(k,v)::r,kvs,vs,h,r1,r2=>by
  unfold keysOf at h
  cases e1:iZ k with
  |none=>rw[e1]at h;cases h
  |some k'=>
   cases e2:keysOf r with
   |none=>rw[e1,e2]at h;cases h
   |some r'=>
    rw[e1,e2]at h
    cases h
    cases vs with
    |nil=>obtain⟨_,_,z,_⟩:=r1.consE;cases z
    |cons q vs=>
     obtain⟨x,xs,z,a1,b1⟩:=r1.consE
     cases z
     obtain⟨x,xs,z,a2,b2⟩:=r2.consE
     cases z
     obtain⟨us,f1,f2⟩:=u0 e2 b1 b2
     refine⟨q.2::us,?_,.consI a2 f2⟩
     obtain⟨q1,q2⟩:=q
     show(q1,q2)::vs=(kV k'.key,q2)::_
     rw[f1,show q1=kV k'.key from nO e1 a1]
     rfl
def zS(acc kvs:List (DK×W)):List (DK×W):=kvs.foldl (fun acc p=>sP acc p.1 p.2) acc
theorem yb:∀{kvs acc:List (DK×W)} {vs us:List V},RelWs K μ H (kvs.map fun p=>p.2) vs->RelWs K μ H (acc.map fun p=>p.2) us->∃zs,m_ (dV acc us) (dV kvs vs)=dV (zS acc kvs) zs/\RelWs K μ H ((zS acc kvs).map fun p=>p.2) zs
 |[],acc,vs,us,r1,r2=>⟨us,rfl,r2⟩
 |p::kvs,acc,vs,us,r1,r2=>by
  obtain⟨x,xs,rfl,a,b⟩:=RelWs.consE r1
  obtain⟨zs,e,q⟩:=Ep (k:=p.1) r2 a
  obtain⟨ys,e2,q2⟩:=yb b q
  refine⟨ys,?_,q2⟩
  show m_ (mQ (dV acc us) p.1.key x) (dV kvs xs)=_
  rw[e,e2];rfl
def A8(f:FP):FE:=fun ρ st=>(f ρ (st++[.dct []])).bind fun ps cV=>match cV[st.length]?,keysOf ps with
 |some (.dct []),some kvs=>if kvs.length<=15 then .ok (.loc st.length) (cV.set st.length (.dct (zS [] kvs)))else .bad
 |_,_=>.bad
theorem Mn{keys:List (Option Expr)}{j9:List Expr}{f:FP}(h:RV X pos keys j9 f)(mS:keys.all (·.isSome)=true:=by rfl)(hl:keys.length=j9.length:=by rfl)(h0:keys≠[]:=by intro z;cases z)(Ts:keys.length<=15:=by decide) :
  SE X (.Dict keys j9 pos) (A8 f):=by
 obtain⟨Ax,h1,h2⟩:=h.h
 refine⟨(HW h1 mS hl h0 Ts).imp fun σ H Q hh=>?_⟩
 obtain⟨μ,ρ,st,l,hh⟩:=hh
 intro p hp
 have hs:nY H (eW H p (.dK [])):=cy hp _
 have S0:fW X.K X.mg (μ++[p]) (st++[.dct []]) (eW H p (.dK [])):=l.sto.push (c:=.dct []) hp ⟨[],dB,.nilI⟩
 have l0:Rl X (μ++[p]) ρ (st++[.dct []]) σ (eW H p (.dK [])):=l.to (aJ _ _) (fO.same hs) S0
 refine h2 σ _ _ ⟨μ++[p],ρ,st++[.dct []],l0,RK.bind (RK.mono hh (aJ _ _) (fO.same hs)) l0 fun μ2 cV ps vs H2 p2 e2 l2 q2 h2'=>?_⟩
 have hm:μ2[st.length]?=some p:=L2.pre_get p2 (by rw[l.sto.len];simp)
 split at h2'
 ·rename_i kvs ec ek
  split at h2'
  ·rename_i hle
   obtain⟨us,f1,f2⟩:=u0 ek q2.1 q2.2
   have hd:H2 p=some (.dK []):=by
    obtain⟨a,g,vs0,k,_⟩:=l2.sto.get ec
    rw[hm]at g;cases g
    exact k
   obtain⟨zs,g1,g2⟩:=yb (acc:=[]) (us:=[]) f2 .nilI
   have d7:(dV kvs us).length=kvs.length:=qy f2
   refine⟨hd,dV kvs us,f1,by rw[d7];exact hle,?_⟩
   rw[show m_ ([]:List (f'×V)) (dV kvs us)=_ from g1]
   exact h2' μ2 (.ref p) _ (af _) (fO.butD gP hd) (l2.sto.setD ec hm hd g2) (.locI hm)
  ·exact h2'.elim
 ·exact h2'.elim
def A9(fo fk:FE):FE:=fun ρ st=>(fo ρ st).bind fun x st=>match rg st x with
 |some _=>(fk ρ st).bind fun y st=>(match rg st x,iZ y with
  |some (n,kvs),some k=>m7 (jL kvs k) fun w=>.ok w (st.set n (.dct (jY kvs k)))
  |_,_=>.bad)
 |none=>.bad
theorem Mo(ho:SE X o fo)(he:SE X e fe)(m:M1 X o "pop" gi e dF:=by exact⟨by rfl,by rfl,by rfl,by rfl⟩):SE X (.Call (.Attribute o "pop" gi) [e] [] dF) (A9 fo fe):=⟨(DP ho.h he.h m).imp fun σ H Q h=>by
 walk_at "2"
 walk_at "1"
 cases e0:rg st1 x with
 |none=>rw[e0]at h1;exact h1.elim
 |some nk0=>
  obtain⟨n0,kvs0⟩:=nk0
  rw[e0]at h1
  simp only at h1
  obtain⟨a0,vs0,_,hm0,rfl,ha0,_⟩:=rJ l1.sto e0 q1
  refine⟨a0,rfl,.inl ⟨_,.inl ha0⟩,μ1,ρ,st1,l1,RK.bind h1 l1 fun μ2 cV y u H2 p2 x2 l2 q2 h2=>?_⟩
  cases e1:rg cV x with
  |none=>rw[e1]at h2;exact h2.elim
  |some nk=>
   obtain⟨n,kvs⟩:=nk
   cases e2:iZ y with
   |none=>rw[e1,e2]at h2;exact h2.elim
   |some k=>
    rw[e1,e2]at h2
    simp only at h2
    obtain⟨a,vs,hn,hm,ea,ha,r⟩:=rJ l2.sto e1 (q1.mono p2 x2)
    cases ea
    have:=nO e2 q2
    subst this
    rcases sQ k r with⟨w,z,g1,g2,g3⟩|⟨g1,g2⟩
    ·rw[g1]at h2
     obtain⟨us,f1,f2⟩:=A6 (k:=k) r
     refine⟨_,k.key,z,ha,rfl,g2,?_⟩
     rw[f1]
     exact h2 μ2 z _ (af _) (fO.butD gP ha) (l2.sto.setD hn hm ha f2) (g3.mono (af _) (fO.butD gP ha))
    ·rw[g1]at h2;exact h2.elim⟩
end
def rh(h:Heap)(mg:Str->Option Value):Prop:=∃bm o,mg "__builtins__"=some (.ref bm)/\bm≠builtinsNs/\h.get? bm=some o/\o.cls=.type "module"/\o.dict=some builtinsNs/\o.data=.plain
structure J8(ts:List Addr)(H:Hp):Prop where
 all:∀b,H b=none\/(∃o xs,H b=some (.frz o (.lst xs)))\/(b∈ts/\H b=some (.tbl #[]))
 tab:∀T∈ts,H T=some (.tbl #[])
theorem CF{P:Program}{w:World}{mb:Str->Option Value}{CX:Dr}{k:Nat}{fa:Addr}{fd:FuncData}{sp:Sp}{s₁:Shared}{vs:List Value}{ts:List Addr}
  (KX:K.In s₁.heap) (GT:s₁.heap.Ns mainGlobals mg) (hb:s₁.heap.Ns builtinsNs mb) (Up:∀x:Str,x ≠ "__name__"->mb x=bootBuiltins x) (Tt:s₁.heap.NoLimit) (hg:s₁.gens=#[])
  (ha:s₁.heap.get? a=some { cls:=.type "list",data:=.seq vs.toArray }) (hi:IntsAre vs ns) (hl:ns.length<=sizeLine) (hr:fR k callerA)
  (ht:∀T∈ts,s₁.heap.get? T=some { cls:=.none,data:=.fields #[] }) (Tr:∀T∈ts,K.lookup T=none) (R4:∀T∈ts,isCodeTable s₁.heap T)
  (Uj:rh s₁.heap mg) (F:∀base:Heap,K.In base->base.Ns mainGlobals mg->rh base mg->fS P w K mg base CX k fa fd [x] sp) (Rj:∀(s:Shared) (u:Value),BindsTo s fd ⟨[u],[]⟩ [(x,u)])
  (K7:∀H:Hp,J8 ts H->qZ K H a (ns.map V.int)->sp [.ref a] H (fun v _=>v=.bl true) fun _ _ _=>False)
  (Ux:∀H e s',CX [] H s₁ (fun _ _ _=>False) e s'->False) :
  codeAny (model P w) callerA (.call (.ref fa) ⟨[.ref a],[]⟩) (fun r s'=>r=.ok (.ret (.bool true))/\OldK s₁.heap s'.heap/\s'.os=s₁.os/\AllBare s'.gens) s₁:=by
 have rv:=uR hi
 have lenV:=hi.length
 have hta:∀T∈ts,T≠a:=fun T hT z=>by
  have:=ht T hT
  rw[z,ha]at this
  have h2:=cL Obj.cls (aU this)
  cases h2
 have core:∀H:Hp,J8 ts H->qZ K H a (ns.map V.int)->kC P w H s₁.heap->(∀b,H b≠none->b=a\/b∈ts)->(H a≠none->K.lookup a=none) ->
   codeAny (model P w) callerA (.call (.ref fa) ⟨[.ref a],[]⟩) (fun r s'=>r=.ok (.ret (.bool true))/\OldK s₁.heap s'.heap/\s'.os=s₁.os/\AllBare s'.gens) s₁:=by
  intro H hO hS hok hA hK
  have base_of:∀{b:Addr} {o:Obj},s₁.heap.get? b=some o->H b=none->(uq s₁.heap H).get? b=some o:=fun e n=>Dw e n
  have noA:∀{b:Addr} {o:Obj} {es:Array DictEntry} {ep:Nat},s₁.heap.get? b=some o->o.data=.dict es ep->H b=none:=fun{b o es ep} e d=>by
   cases q:H b with
   |none=>rfl
   |some u=>
    rcases hA b (by rw[q];simp)with e'|e'
    ·subst e'
     rw[ha]at e;cases e
     have d':Data.seq vs.toArray _=Data.dict es ep:=d
     cases d'
    ·rw[ht b e']at e;cases e
     have d':Data.fields _=Data.dict es ep:=d
     cases d'
  have nsK:∀{b:Addr} {m:Str->Option Value},s₁.heap.Ns b m->(uq s₁.heap H).Ns b m:=fun{b m} ⟨o,es,ep,e,d,r⟩=>⟨o,es,ep,base_of e (noA e d),d,r⟩
  have hKb:K.In (uq s₁.heap H):=fun b o e=>base_of (KX b o e) (by
   cases q:H b with
   |none=>rfl
   |some u=>
    rcases hA b (by rw[q];simp)with e'|e'
    ·subst e'
     rw[hK (by rw[q];simp)]at e;cases e
    ·rw[Tr b e']at e;cases e)
  have hbk':rh (uq s₁.heap H) mg:=by
   obtain⟨bm,o,b1,b2,b3,b4,b5,b6⟩:=Uj
   refine⟨bm,o,b1,b2,base_of b3 ?_,b4,b5,b6⟩
   cases q:H bm with
   |none=>rfl
   |some u=>
    rcases hA bm (by rw[q];simp)with e'|e'
    ·subst e'
     rw[ha]at b3;cases b3;exact absurd b4 #[7]
    ·rw[ht bm e']at b3;cases b3;cases b4
  have hM:Mod K mg (uq s₁.heap H):=⟨hKb,nsK GT,⟨mb,nsK hb,Up⟩,let ⟨mc,h1,h2⟩:=Tt;⟨mc,nsK h1,h2⟩⟩
  have e0:xE P w K mg (uq s₁.heap H) callerA [] s₁ H:=⟨rfl,hM,fun b o e=>Hm e,Nat.le_of_eq (B6 _ _),trivial,fun b hb=>absurd (show b∈([]:List Addr)from hb) #[7],hok,.of_eq hg⟩
  refine iN ((F _ hKb (nsK GT) hbk').run callerA [] s₁ H ⟨[.ref a],[]⟩ [.ref a] [.ref a] _ _ hr e0 (Rj s₁ (.ref a)) (.cons rfl .nil) (K7 H hO hS)) fun r s' h=>?_
  cases r with
  |error e=>exact(Ux H e s' h).elim
  |ok fl=>
   cases fl with
   |next=>exact False.elim h
   |brk=>exact False.elim h
   |cont=>exact False.elim h
   |ret u=>
    obtain⟨v,H',os,bare,un,hok',r',q⟩:=h
    have q':v=.bl true:=q
    subst q'
    obtain rfl:u=Value.bool true:=r'
    have was:∀b o,s₁.heap.get? b=some o->asItWas s₁.heap s'.heap b o/\∃o',s'.heap.get? b=some o':=fun b o e=>by
     cases q:H b with
     |none=>
      have:=un.keep b o e q (by intro z;exact absurd (show b∈([]:List Addr)from z) #[7]) #[7]
      exact⟨.inl this,_,this⟩
     |some u=>
      rcases hO.all b with z|⟨ob,xs,z⟩|⟨hbt,z⟩
      ·rw[q]at z;cases z
      ·have z2:=un.frzs b ob _ z
       obtain⟨e1,_⟩:=hok b _ z
       obtain⟨e2,_⟩:=hok' b _ z2
       rw[e]at e1;cases e1
       exact⟨.inl e2,_,e2⟩
      ·obtain⟨j_,z2⟩:=un.tbls b _ z
       have e2:s'.heap.get? b=some { cls:=.none,data:=.fields (#[]++j_) }:=hok' b _ z2
       rw[ht b hbt]at e
       cases e
       exact⟨.inr (.inl ⟨R4 b hbt,rfl,#[],j_,rfl,e2⟩),_,e2⟩
    exact⟨rfl,⟨fun b o e=>(was b o e).1,fun b o e=>(was b o e).2⟩,os,bare⟩
 have tb:∀(f:Hp),(∀T∈ts,f T=some (.tbl #[]))->∀T∈ts,eD P w f s₁.heap T (.tbl #[]):=fun f _ T hT=>ht T hT
 have dec:∀b:Addr,b∈ts\/b∉ts:=fun b=>Classical.em _
 open Classical in
 cases hk:K.lookup a with
 |some o=>
  have e:=KX a o hk
  rw[ha]at e
  cases e
  refine core (fun b=>if b∈ts then some (.tbl #[])else none) ⟨fun b=>?_,fun T hT=>aw hT⟩ (.inr ⟨_,vs.toArray,_,hk,rfl,rfl,rfl,by rw[aO,lenV];exact hl,by simpa using rv⟩) (fun b u z=>?_) (fun b z=>?_) (fun z=>?_)
  ·by_cases hb:b∈ts
   ·exact .inr (.inr ⟨hb,aw hb⟩)
   ·exact .inl (aC hb)
  ·by_cases hb:b∈ts
   ·have z':=(aw hb).symm.trans z
    cases z'
    exact ht b hb
   ·have z':=(aC hb).symm.trans z
    cases z'
  ·by_cases hb:b∈ts
   ·exact .inr hb
   ·exact absurd (aC hb) z
  ·exact absurd (aC (fun q=>hta a q rfl)) z
 |none=>
  refine core (fun b=>if b=a then some (.frz { cls:=.type "list",data:=.seq vs.toArray } (.lst (ns.map V.int)))else if b∈ts then some (.tbl #[])else none) ⟨fun b=>?_,fun T hT=>(aC (hta T hT)).trans (aw hT)⟩ (.inl (.inr ⟨{ cls:=.type "list",data:=.seq vs.toArray },aw rfl⟩)) (fun b u z=>?_) (fun b z=>?_) (fun _=>hk)
  ·by_cases hb:b=a
   ·exact .inr (.inl ⟨_,_,aw hb⟩)
   ·by_cases hb2:b∈ts
    ·exact .inr (.inr ⟨hb2,(aC hb).trans (aw hb2)⟩)
    ·exact .inl ((aC hb).trans (aC hb2))
  ·by_cases hb:b=a
   ·have z':=(aw hb).symm.trans z
    cases z'
    subst hb
    exact⟨ha,by rw[ai];exact hl,vs,_,rv,ha⟩
   ·by_cases hb2:b∈ts
    ·have z':=((aC hb).trans (aw hb2)).symm.trans z
     cases z'
     exact ht b hb2
    ·have z':=((aC hb).trans (aC hb2)).symm.trans z
     cases z'
  ·by_cases hb:b=a
   ·exact .inl hb
   ·by_cases hb2:b∈ts
    ·exact .inr hb2
    ·exact absurd ((aC hb).trans (aC hb2)) z
def Et(tc:List ah)(F:List W->List ah->R W):Prop:=∀ns:List Int,ns.length<=63->∃bL,F [.loc 0] (.ro (ns.map W.int)::tc)=.ok (.bl true) bL
noncomputable def rj(L:List (Addr×Pos×Str)):List ah:=L.map fun t=>.tab t.1 t.2.1 t.2.2
theorem walkT{l:PySem.W.OpenLaw}{k:Nat}{q:Program}{BV:List Str}{XP:(Str->Option Value)->Heap->Prop}{d:DefRec}{K:Params->Frag}{x:Str}{G:List W->List ah->R W}(L:List (Addr×Pos×Str))(hL:(L.map fun t=>t.1).Nodup)(hn:l.most=some 63)(TC:d.params.defaults=[])(hr:fR k callerA)
  (hY:∀(w:World) (h:Heap),YP w h->(K w.params).In h) (hT:∀(w:World) (h:Heap),YP w h->∀T∈L.map (fun t=>t.1),h.get? T=some { cls:=.none,data:=.fields #[] })
  (Tr:∀(w:World),∀T∈L.map (fun t=>t.1),(K w.params).lookup T=none) (R4:∀(w:World),∀T∈L.map (fun t=>t.1),∃c,codeHdIn (K w.params) c T=true)
  (F:∀(w:World) (mg:Str->Option Value) (fa:Addr) (h:Heap),(K w.params).In h->h.Ns mainGlobals mg->mg d.name=some (.ref fa) ->
   ∃fd:FuncData,(∀(s:Shared) (u:Value),BindsTo s fd ⟨[u],[]⟩ [(x,u)])/\∀base:Heap,(K w.params).In base->base.Ns mainGlobals mg->rh base mg->fS l.prog w (K w.params) mg base (kF l.prog w) k fa fd [x] (l8 (K w.params) mg 1 G))
  (ok:Et (rj L) G):PySem.W.WalkO q BV XP YP l.row.toRowW d [] (fun f vs=>PySem.call f vs):=by
 refine Att.attach_call hn TC fun w s₀ s₁ mg mb fa o pm cd jc a vs ns G' Y ho hd nJ hmg hobj hints d7 hg=>?_
 have KX:=hY w _ Y
 obtain⟨fd,hb,hF⟩:=F w mg fa _ KX G'.T.g hmg
 refine CF (ts:=L.map fun t=>t.1) (CX:=kF l.prog w) (sp:=l8 (K w.params) mg 1 G) KX G'.T.g G'.T.b G'.T.builtins G'.T.nolimit hg hobj hints (a8 d7 #[8]) hr (hT w _ Y) (Tr w) (fun T hT'=>?_) G'.T.bmain hF hb (fun H hO hS=>?_) fun H e s' z=>?_
 ·obtain⟨c,hc⟩:=R4 w T hT'
  obtain⟨o,vs,_,_,_,_,_,_,_,e1,e2,e3,e4,_⟩:=PySem.W.codeHd_of_K KX hc
  exact⟨c,o,vs,e1,e2,e3,e4⟩
 ·obtain⟨bL,e⟩:=ok ns d7
  have rB:RN (K w.params) H a (ns.map V.int):=by
   rcases hS with(z|⟨o,z⟩)|z
   ·rcases hO.all a with y|⟨o,xs,y⟩|⟨_,y⟩
    ·rw[z]at y;cases y
    ·rw[z]at y;cases y
    ·rw[z]at y;cases y
   ·exact .inl ⟨o,z⟩
   ·exact .inr z
  have hta:∀T∈L.map (fun t=>t.1),T≠a:=fun T hT' z=>by
   have:=hT w _ Y T hT'
   rw[z,hobj]at this
   have h2:=cL Obj.cls (aU this)
   cases h2
  have hri:∀μ:List Addr,RelWs (K w.params) μ H (ns.map W.int) (ns.map V.int):=fun μ=>by
   clear hS rB e d7 hints
   induction ns with
   |nil=>exact .nilI
   |cons n r ih=>exact .consI .int ih
  refine⟨rfl,a::L.map (fun t=>t.1),[.loc 0],.ro (ns.map W.int)::rj L,⟨fun i j b ci cj c1 c2 r1 r2 m1 m2=>?_,by simp[rj],fun i c b c1 c2=>?_⟩,.consI (.locI rfl) .nilI,?_⟩
  ·cases i with
   |zero=>cases c1;cases r1
   |succ i=>
    cases j with
    |zero=>cases c2;cases r2
    |succ j=>
     simp only[lS]at m1 m2
     rw[(List.getElem?_inj (aa.mp m1).1 hL).mp (m1.trans m2.symm)]
  ·cases i with
   |zero=>cases c1;cases c2;exact⟨_,rB,hri _⟩
   |succ i=>
    simp only[lS]at c1 c2
    unfold rj at c1
    rw[ak]at c1 c2
    cases e1:L[i]? with
    |none=>rw[e1]at c1;cases c1
    |some t=>
     rw[e1]at c1 c2
     cases c1;cases c2
     exact⟨rfl,#[],hO.tab _ (al.mpr ⟨t,ao e1,rfl⟩),trivial,.inl rfl⟩
  ·rw[e]
   intro μ' v H' _ _ _ rv
   exact rv.blE
 ·obtain⟨_,_,_,_,_,_,z,_⟩:=z
  exact z
structure Eu(en dn:Str)(pr:Arguments)(b:Expr)(sc:Scope):Prop where
 co:sc.isCoroutine=false
 gen:sc.isGenerator=false
 kind:sc.kind=.function
 cell:∀x∈sc.names,x.2≠.cell
 ke:sc.names.lookup en=some .local
 kd:sc.names.lookup dn=some .free
 bind:∀(nm q:Str) (cl:List (Str×Addr)) (pm gU ct v:Value),bindArgs (PySem.W.kla_fn nm q pr b sc cl pm gU ct) ⟨[v],[]⟩=pure [(en,v)]
 nd:(dn==("__classdict__":Str))=false
 d1:(en==("__debug__":Str))=false
 d2:(dn==("__debug__":Str))=false
section
theorem yd{c0:Addr}{en dn nm:Str}{pr:Arguments}{p3 p4:Pos}{pm ct:Value}{kvs:List (f'×V)}{k:f'}{v:V}
  (T:Eu en dn pr #[14] sc) (I:bw X pins σ H s)
  (hf:s.heap.get? f=some (kla_obj nm q pr #[14] sc [(dn,c0)] pm cd ct)) (nJ:s.heap.CodeRec (.ref cd) q)
  (Du:s.heap.IsCell c0 (some (.ref a))) (ha:H a=some (.dK kvs)) (hv:jW kvs k=some v) (ru:bN (kV k) u) (vH:A.depth<recursionLimit) (hu:A.units+8<cLine)
  (h:∀z h' t,(∀b o,s.heap.get? b=some o->h'.get? b=some o)->bw X pins σ H { s with heap:=h',toks:=t }->bN v z->Q z { s with heap:=h',toks:=t }) :
  wpAny #[2] A (call (.ref f) [u]) Q E s:=by
 refine mz ?_
 refine PySem.W.kla_callFunE vH hf rfl T.co T.gen rfl nJ ?_
 rw[T.bind]
 refine am (wpAny_newFunctionEnv T.cell (fun y hy=>?_) (fun h₁ GT hsb=>?_) T.kind)
 ·have:y=(en,u):=by simpa using hy
  rw[this];exact T.ke
 ·have hk1:∀b o,s.heap.get? b=some o->h₁.get? b=some o:=fun b o e=>hsb.extBut b o (bq (aE e)) (ar _ e)
  have I1:bw X pins σ H { s with heap:=h₁,toks:=s.toks+[(en,u)].length }:=I.kept hk1
  refine⟨I1.nolimit,PySem.W.kla_codeExpr ?_⟩
  obtain⟨z0,hd,vs,jq,dd⟩:=og I1.hok (.inl ha)
  refine vQ PySem.F.slot_dict_getitem.lookup (fun _ _=>rfl) (ml ?_ T.d2)
  refine wpAny_loadName_free (c:=c0) (v:=.ref a) T.kind ?_ ?_ (Du.keeps hk1) ?_ T.nd
  ·show List.lookup dn sc.names=some .free
   exact T.kd
  ·show List.lookup dn [(dn,c0)]=some c0
   simp[List.lookup]
  refine ml ?_ T.d1
  refine wpAny_loadName_local (v:=u) T.kind ?_ GT ?_ ?_
  ·show List.lookup en sc.names=some .local
   exact T.ke
  ·simp[List.lookup]
  obtain⟨z,hz,rz⟩:=pe.some_of (v:=v) (o:=valueAt vs k) (by rw[<- hv];exact jq.val k)
  refine⟨dd.typeIs,lP (qP ru) dd.mapOf hz ?_⟩
  exact h z h₁ _ hk1 (I1.tok _) rz
noncomputable def jZ(kf:Nat->List Int):Nat->Nat
 |0=>0
 |j+1=>if HT.lexLt (kf (j+1)) (kf (jZ kf j))=true then j+1 else jZ kf j
theorem v9(kf:Nat->List Int):∀j,jZ kf j<=j
 |0=>au _
 |j+1=>by unfold jZ;have:=v9 kf j;split<;>omega
theorem A_{w:World}{k:f'}(h:(eF P w).is k v=true):bN (kV k) v:=by
 rcases eU h with⟨i,t,rfl,rfl⟩|⟨x,t,rfl,rfl⟩
 ·exact⟨t,rfl⟩
 ·exact⟨t,rfl⟩
structure nw(X:Cx)(pins:List (Addr×Obj))(σ:St)(H:Hp)(s:Shared)(f c0 cd a it:Addr)(fo:Obj)(q:Str)(vs:List (f'×Value))(ep j:Nat):Prop where
 inv:bw X pins σ H s
 fn:s.heap.get? f=some fo
 code:s.heap.CodeRec (.ref cd) q
 cell:s.heap.IsCell c0 (some (.ref a))
 dict:s.heap.DictAt (eF X.prog X.w) a vs ep
 iter:s.heap.IsKeyIter it a j vs.length ep
theorem nw.go{c0:Addr}{fo:Obj}{vs:List (f'×Value)}{ep j':Nat}{b0:Addr}(M:nw X pins σ H s f c0 cd a it fo q vs ep j)(I:bw X pins σ H { s with heap:=h',toks:=t' })
  (k:∀b o,b≠b0->s.heap.get? b=some o->h'.get? b=some o) (n1:f≠b0) (n2:cd≠b0) (n3:c0≠b0) (n4:a≠b0) (hi:h'.IsKeyIter it a j' vs.length ep):nw X pins σ H { s with heap:=h',toks:=t' } f c0 cd a it fo q vs ep j':=by
 obtain⟨c2,oc,ws,tt,e2,hoc,hd,hv⟩:=M.code
 cases e2
 refine⟨I,k f _ n1 M.fn,⟨_,oc,ws,tt,rfl,k _ _ n2 hoc,hd,hv⟩,?_,M.dict.at' fun o e=>k a o n4 e,hi⟩
 obtain⟨o,ho,hd⟩:=M.cell
 exact⟨o,k c0 o n3 ho,hd⟩
theorem Ev{c0 ls:Addr}{en dn nm:Str}{pr:Arguments}{p3 p4:Pos}{pm ct:Value}{kvs:List (f'×V)}{vs:List (f'×Value)}{ep:Nat}{kf:Nat->List Int}{tv:Nat->Addr}{R:Result->Shared->Prop}{g0:Array GenState}{d0:Drawn}{rW:OsState}
  (T:Eu en dn pr #[14] sc) (hh:A.handled=none) (vH:A.depth<recursionLimit) (hu:A.units+16<cLine) (ha:H a=some (.dK kvs)) (jq:KV kvs vs) (kG:(kvs.map (·.1)).Nodup)
  (Ay:∀(i:Nat) (k:f') (x:V),kvs[i]?=some (k,x)->x=.ref (tv i)/\fO X.K H (tv i) ((kf i).map V.int))
  (rU:pf X pins H it) (xu:pf X pins H ls) (N8:it≠ls) (nf:f≠it/\f≠ls) (Ov:cd≠it/\cd≠ls) (Oy:c0≠it/\c0≠ls)
  (hR:∀v h t k x,kvs[jZ kf (kvs.length-1)]?=some (k,x)->bN (kV k) v->bw X pins σ H ⟨h,g0,d0,t,rW⟩->R (.ok (.ret v)) ⟨h,g0,d0,t,rW⟩) :
  ∀(r j:Nat) (h:Heap) (t:Nat) (vb:Value) (c:Nat),kvs.length-(j+1)=r->j+1<=kvs.length->nw X pins σ H ⟨h,g0,d0,t,rW⟩ f c0 cd a it (kla_obj nm q pr #[14] sc [(dn,c0)] pm cd ct) q vs ep (j+1) ->
   h.get? ls=some (seqObj "list" #[vb,.ref (tv (jZ kf j))] c)->(∀k x,kvs[jZ kf j]?=some (k,x)->bN (kV k) vb) ->
   codeAny #[2] A (.builtin "min.loop" ⟨[.ref it,.ref f,.ref ls],[]⟩) R ⟨h,g0,d0,t,rW⟩:=by
 have hname:(toString "min"++toString ".loop":String)="min.loop":=by decide
 have hna:a≠it/\a≠ls:=⟨fun z=>(by rw[z,rU.1]at ha;cases ha),fun z=>(by rw[z,xu.1]at ha;cases ha)⟩
 have d7:kvs.length=vs.length:=jq.length
 intro r
 induction r with
 |zero=>
  intro j h t vb c hr hj M hls hvb
  have hin:j+1=kvs.length:=by omega
  refine mN PySem.F.entry_min_loop ?_
  rw[jt PySem.F.plain_min_loop _]
  show wpAny _ A.in1 (seqItems? (.ref ls) >>= _) _ _ _
  refine ac (f_ hls rfl ?_)
  show wpAny _ A.in1 (tryCatch (pyNext (.ref it)) _ >>= _) _ _ _
  refine ac (gK (wpAny_pyNext_dict_end hh M.iter M.dict (by rw[de];omega) fun h1 hk1=>?_))
  have I1:bw X pins σ H ⟨h1,g0,d0,t,rW⟩:=M.inv.turned (it:=it) (fun b o hb e=>hk1 b o hb e) rU.1 rU.2.1 rU.2.2.2.1 rU.2.2.2.2.1 rU.2.2.2.2.2
  have hls1:=hk1 ls _ (Ne.symm N8) hls
  show wpAny _ A.in1 (updateSeq ls (fun _=>#[]) >>= _) _ _ _
  refine ac ?_
  refine jG hls1 rfl (ac (kU (am ?_)))
  have sb:=b8 h1 ls (Obj.mapSeq fun _=>(#[]:Array Value))
  obtain⟨⟨k,x⟩,hx⟩:∃p,kvs[jZ kf j]?=some p:=⟨_,ae (by have:=v9 kf j;omega)⟩
  refine hR vb _ _ k x (by rw[show kvs.length-1=j by omega];exact hx) (hvb k x hx) ?_
  exact I1.turned (it:=ls) (fun b o hb e=>sb.extBut b o hb e) xu.1 xu.2.1 xu.2.2.2.1 xu.2.2.2.2.1 xu.2.2.2.2.2
 |succ r ih=>
  intro j h t vb c hr hj M hls hvb
  have ju:j+1<kvs.length:=by omega
  obtain⟨⟨k,x⟩,hx⟩:∃p,kvs[j+1]?=some p:=⟨_,ae ju⟩
  obtain⟨⟨k',y⟩,hy⟩:∃p,vs[j+1]?=some p:=⟨_,ae #[0]⟩
  have ek:k=k':=by
   have:=cL (fun l:List f'=>l[j+1]?) jq.keys
   simp only[ak,hx,hy]at this
   exact aU this
  subst ek
  obtain⟨rfl,hS⟩:=Ay (j+1) k x hx
  refine mN PySem.F.entry_min_loop ?_
  rw[jt PySem.F.plain_min_loop _]
  show wpAny _ A.in1 (seqItems? (.ref ls) >>= _) _ _ _
  refine ac (f_ hls rfl ?_)
  show wpAny _ A.in1 (tryCatch (pyNext (.ref it)) _ >>= _) _ _ _
  refine ac (gK (mC M.iter M.dict hy fun v h1 hv hit1 zc=>?_))
  have rv:bN (kV k) v:=A_ hv
  have I1:bw X pins σ H ⟨h1,g0,d0,t,rW⟩:=M.inv.turned (it:=it) (fun b o hb e=>zc.extBut b o hb e) rU.1 rU.2.1 rU.2.2.2.1 rU.2.2.2.2.1 rU.2.2.2.2.2
  have M1:nw X pins σ H ⟨h1,g0,d0,t,rW⟩ f c0 cd a it _ q vs ep (j+1+1):=M.go (s:=⟨h,g0,d0,t,rW⟩) (b0:=it) I1 (fun b o hb e=>zc.extBut b o hb e) nf.1 Ov.1 Oy.1 hna.1 hit1
  have hls1:=zc.extBut ls _ (Ne.symm N8) hls
  have hvk:jW kvs k=some (.ref (tv (j+1))):=by
   unfold jW
   have hm:(k,V.ref (tv (j+1)))∈kvs:=ao hx
   cases hf:kvs.find? (fun kv=>decide (kv.1=k))with
   |none=>
    have:=iA.mp hf _ hm
    simp at this
   |some p=>
    have h1:=List.find?_some hf
    have h2:=List.mem_of_find?_eq_some hf
    have e1:p.1=k:=by simpa using h1
    obtain⟨i1,hi1⟩:=a9 h2
    have e2:i1=j+1:=by
     refine(List.getElem?_inj (l:=kvs.map (·.1)) (by rw[ai];exact(aa.mp hi1).1) kG).mp ?_
     rw[ak,ak,hi1,hx]
     show some p.1=some k
     rw[e1]
    subst e2
    rw[hx]at hi1;cases hi1;rfl
  show wpAny _ A.in1 (tryCatch (holding [v] (call (.ref f) [v])) _ >>= _) _ _ _
  refine ac (gK (bZ (yd T M1.inv M1.fn M1.code M1.cell ha hvk rv vH (by show A.units+1+8<cLine;omega) fun z h2 t2 hk2 I2 rz=>?_)))
  obtain rfl:z=Value.ref (tv (j+1)):=rz
  have M2:nw X pins σ H ⟨h2,g0,d0,t2,rW⟩ f c0 cd a it _ q vs ep (j+1+1):=M1.go (s:=⟨h1,g0,d0,t,rW⟩) (b0:=h1.objs.size) I2 (fun b o _ e=>hk2 b o e)
   (fun q=>by have:=aE M1.fn;rw[q]at this;exact bx _ this) (fun q=>by obtain⟨_,_,_,_,e2,ho,_⟩:=M1.code;cases e2;have:=aE ho;rw[q]at this;exact bx _ this) (fun q=>by have:=M1.cell.lt;rw[q]at this;exact bx _ this)
   (fun q=>by obtain⟨o,_,ho,_⟩:=M1.dict;have:=aE ho;rw[q]at this;exact bx _ this) (by obtain⟨o,ho,r1,r2⟩:=hit1;exact⟨o,hk2 _ _ ho,r1,r2⟩)
  have hls2:=hk2 ls _ hls1
  obtain⟨⟨kb,xb⟩,hxb⟩:∃p,kvs[jZ kf j]?=some p:=⟨_,ae (by have:=v9 kf j;omega)⟩
  obtain⟨rfl,hSb⟩:=Ay (jZ kf j) kb xb hxb
  obtain⟨bJ,r1,p1,_⟩:=I2.tuple hS
  obtain⟨its2,r2,p2,_⟩:=I2.tuple hSb
  have i1:IntsAre bJ.toArray.toList (kf (j+1)):=lY r1
  have i2:IntsAre its2.toArray.toList (kf (jZ kf j)):=lY r2
  show wpAny _ A.in1 (tryCatch (holding [v,.ref (tv (j+1))] (richCompare .Lt (.ref (tv (j+1))) (.ref (tv (jZ kf j))) >>= _)) _ >>= _) _ _ _
  refine ac (gK (bZ (ac ?_)))
  refine HT.lt_tupInts p1 p2 i1 i2 (by show A.units+1<cLine;omega) ?_
  refine ac (bZ (cZ ?_))
  refine ac (kU (am ?_))
  by_cases hb:HT.lexLt (kf (j+1)) (kf (jZ kf j))=true
  ·have em:jZ kf (j+1)=j+1:=by show(if _ then _ else _)=_;rw[aw hb]
   have sb:=b8 h2 ls (Obj.mapSeq fun _=>#[v,Value.ref (tv (j+1))])
   obtain⟨c2,hc2⟩:∃c2,(h2.update ls (Obj.mapSeq fun _=>#[v,Value.ref (tv (j+1))])).get? ls=some (seqObj "list" #[v,.ref (tv (j+1))] c2):=⟨_,mO hls2 fun _=>#[v,Value.ref (tv (j+1))]⟩
   simp only[hb,dS]
   refine ac ?_
   refine jG hls2 rfl (ac (kU ?_))
   rw[hname]
   have I3:bw X pins σ H ⟨h2.update ls (Obj.mapSeq fun _=>#[v,Value.ref (tv (j+1))]),g0,d0,t2,rW⟩:=I2.turned (it:=ls) (fun b o hb e=>sb.extBut b o hb e) xu.1 xu.2.1 xu.2.2.2.1 xu.2.2.2.2.1 xu.2.2.2.2.2
   have M3:nw X pins σ H ⟨h2.update ls (Obj.mapSeq fun _=>#[v,Value.ref (tv (j+1))]),g0,d0,t2,rW⟩ f c0 cd a it _ q vs ep (j+1+1):=
    M2.go (s:=⟨h2,g0,d0,t2,rW⟩) (b0:=ls) I3 (fun b o hb e=>sb.extBut b o hb e) nf.2 Ov.2 Oy.2 hna.2 (by obtain⟨o,ho,r1,r2⟩:=M2.iter;exact⟨o,sb.extBut _ _ N8 ho,r1,r2⟩)
   exact am ⟨lq PySem.F.plain_min_loop _,ih (j+1) _ _ v c2 #[0] ju M3 (by rw[em];exact hc2) fun k2 x2 e2=>by rw[em,hx]at e2;cases e2;exact rv⟩
  ·have em:jZ kf (j+1)=jZ kf j:=by show(if _ then _ else _)=_;rw[aC hb]
   simp only[hb,bV,eR]
   refine ac (kU ?_)
   rw[hname]
   exact am ⟨lq PySem.F.plain_min_loop _,ih (j+1) _ _ vb c #[0] ju M2 (by rw[em];exact hls2) fun k2 x2 e2=>by rw[em]at e2;exact hvb k2 x2 e2⟩
theorem Ew{c0:Addr}{en dn nm:Str}{pr:Arguments}{p3 p4:Pos}{pm ct:Value}{kvs:List (f'×V)}{kf:Nat->List Int}{tv:Nat->Addr}
  (T:Eu en dn pr #[14] sc) (hh:A.handled=none) (vH:A.depth<recursionLimit) (hu:A.units+16<cLine) (I:bw X pins σ H s) (ha:H a=some (.dK kvs))
  (hf:s.heap.get? f=some (kla_obj nm q pr #[14] sc [(dn,c0)] pm cd ct)) (nJ:s.heap.CodeRec (.ref cd) q) (Du:s.heap.IsCell c0 (some (.ref a))) (lN:0<kvs.length)
  (Ay:∀(i:Nat) (k:f') (x:V),kvs[i]?=some (k,x)->x=.ref (tv i)/\fO X.K H (tv i) ((kf i).map V.int))
  (hQ:∀v h t k x,kvs[jZ kf (kvs.length-1)]?=some (k,x)->bN (kV k) v->bw X pins σ H { s with heap:=h,toks:=t }->Q v { s with heap:=h,toks:=t }) :
  wpAny #[2] A (call (.builtin "min") [.ref a] [(Str.ofString "key",.ref f)]) Q E s:=by
 have hname:(toString "min"++toString ".loop":String)="min.loop":=by decide
 obtain⟨hz,hsys,vs,jq,o,es,ep,hdo⟩:=og I.hok (.inl ha)
 have dd:s.heap.DictAt (eF X.prog X.w) a vs ep:=⟨o,es,hdo⟩
 have kG:(kvs.map (·.1)).Nodup:=by rw[jq.keys];exact hdo.2.2.2.2.2
 have d7:kvs.length=vs.length:=jq.length
 obtain⟨h0,g0,d0,t0,rW⟩:=s
 refine kmk_tree PySem.F.kind_min PySem.F.plain_min PySem.F.entry_min (kmk_min_key _ _) ?_
 show wpAny _ A.in1 (Builtin.Builtins.bindParams "min" ["key","default"] 0 ⟨[],[(Str.ofString "key",.ref f)]⟩ >>= _) _ _ _
 refine ac (wpAny_of_eq (show Builtin.Builtins.bindParams "min" ["key","default"] 0 ⟨[],[(Str.ofString "key",.ref f)]⟩=pure [some (.ref f),none]from rfl) ?_)
 refine ac (am ?_)
 refine ac (wpAny_pyIter_dict hsys dd ?_)
 refine ac (ll ?_ (cJ _))
 rw[hname]
 dsimp only
 generalize hG1:h0.push { cls:=.type "dict_keyiterator",data:=.fields #[.ref a,.int 0 0,.int vs.length 0,.int ep 0] }=G1
 have sz1:G1.objs.size=h0.objs.size+1:=by rw[<- hG1,f9]
 have k1:∀b o,h0.get? b=some o->(G1.push { cls:=.type "list",data:=.seq ([]:List Value).toArray }).get? b=some o:=fun b o e=>ar _ (hG1▸ar _ e)
 have git:(G1.push { cls:=.type "list",data:=.seq ([]:List Value).toArray }).get? h0.objs.size=some { cls:=.type "dict_keyiterator",data:=.fields #[.ref a,.int 0 0,.int vs.length 0,.int ep 0] }:=ar _ (hG1▸aL _ rfl)
 have gls:(G1.push { cls:=.type "list",data:=.seq ([]:List Value).toArray }).get? G1.objs.size=some (seqObj "list" #[] 0):=aL _ rfl
 generalize hG2:G1.push { cls:=.type "list",data:=.seq ([]:List Value).toArray }=G2 at k1 git gls
 have I2:bw X pins σ H ⟨G2,g0,d0,t0,rW⟩:=I.kept k1
 have N8:h0.objs.size≠G1.objs.size:=by omega
 have rU:pf X pins H h0.objs.size:=I.fpOk (au _) I.fresh
 have xu:pf X pins H G1.objs.size:=I.fpOk (by show h0.objs.size<=_;omega) (I.hok.fresh (by show h0.objs.size<=_;omega))
 have old:∀b o,h0.get? b=some o->b≠h0.objs.size/\b≠G1.objs.size:=fun b o e=>⟨bq (aE e),bq (by rw[sz1];exact gC (aE e))⟩
 obtain⟨c2,oc,ws,tt,e2,hoc,hdc,hvc⟩:=id nJ
 cases e2
 obtain⟨oc0,hoc0,hdc0⟩:=id Du
 have M0:nw X pins σ H ⟨G2,g0,d0,t0,rW⟩ f c0 cd a h0.objs.size (kla_obj nm q pr #[14] sc [(dn,c0)] pm cd ct) q vs ep 0:=
  ⟨I2,k1 _ _ hf,⟨_,oc,ws,tt,rfl,k1 _ _ hoc,hdc,hvc⟩,Du.keeps k1,dd.at' fun o e=>k1 a o e,⟨_,git,rfl,rfl⟩⟩
 refine am ⟨lq PySem.F.plain_min_loop _,?_⟩
 obtain⟨⟨k,x⟩,hx⟩:∃p,kvs[0]?=some p:=⟨_,ae lN⟩
 obtain⟨⟨k',y⟩,hy⟩:∃p,vs[0]?=some p:=⟨_,ae #[0]⟩
 have ek:k=k':=by
  have:=cL (fun l:List f'=>l[0]?) jq.keys
  simp only[ak,hx,hy]at this
  exact aU this
 subst ek
 obtain⟨rfl,hS⟩:=Ay 0 k x hx
 have hvk:jW kvs k=some (.ref (tv 0)):=by
  cases kvs with
  |nil=>cases hx
  |cons p r=>
   have:p=(k,.ref (tv 0)):=aU hx
   subst this
   exact m8 rfl
 refine mN PySem.F.entry_min_loop ?_
 rw[jt PySem.F.plain_min_loop _]
 show wpAny _ A.in1 (seqItems? (.ref G1.objs.size) >>= _) _ _ _
 refine ac (f_ gls rfl ?_)
 show wpAny _ A.in1 (tryCatch (pyNext (.ref h0.objs.size)) _ >>= _) _ _ _
 refine ac (gK (mC M0.iter M0.dict hy fun v h1 hv hit1 zc=>?_))
 have rv:bN (kV k) v:=A_ hv
 have I1:bw X pins σ H ⟨h1,g0,d0,t0,rW⟩:=M0.inv.turned (it:=h0.objs.size) (fun b o hb e=>zc.extBut b o hb e) rU.1 rU.2.1 rU.2.2.2.1 rU.2.2.2.2.1 rU.2.2.2.2.2
 have nf:=old f _ hf
 have Ov:=old cd _ hoc
 have Oy:=old c0 _ hoc0
 have na:=old a _ hdo.1
 have M1:nw X pins σ H ⟨h1,g0,d0,t0,rW⟩ f c0 cd a h0.objs.size _ q vs ep (0+1):=M0.go (s:=⟨G2,g0,d0,t0,rW⟩) (b0:=h0.objs.size) I1 (fun b o hb e=>zc.extBut b o hb e) nf.1 Ov.1 Oy.1 na.1 hit1
 have hls1:=zc.extBut _ _ (Ne.symm N8) gls
 show wpAny _ A.in1 (tryCatch (holding [v] (call (.ref f) [v])) _ >>= _) _ _ _
 refine ac (gK (bZ (yd T M1.inv M1.fn M1.code M1.cell ha hvk rv vH (by show A.units+1+8<cLine;omega) fun z h2 t2 hk2 I2' rz=>?_)))
 obtain rfl:z=Value.ref (tv 0):=rz
 have M2:nw X pins σ H ⟨h2,g0,d0,t2,rW⟩ f c0 cd a h0.objs.size _ q vs ep (0+1):=M1.go (s:=⟨h1,g0,d0,t0,rW⟩) (b0:=h1.objs.size) I2' (fun b o _ e=>hk2 b o e)
  (fun q=>by have:=aE M1.fn;rw[q]at this;exact bx _ this) (fun q=>by obtain⟨_,_,_,_,e2,ho,_⟩:=M1.code;cases e2;have:=aE ho;rw[q]at this;exact bx _ this) (fun q=>by have:=M1.cell.lt;rw[q]at this;exact bx _ this)
  (fun q=>by obtain⟨o,_,ho,_⟩:=M1.dict;have:=aE ho;rw[q]at this;exact bx _ this) (by obtain⟨o,ho,r1,r2⟩:=hit1;exact⟨o,hk2 _ _ ho,r1,r2⟩)
 have hls2:=hk2 _ _ hls1
 have sb:=b8 h2 G1.objs.size (Obj.mapSeq fun _=>#[v,Value.ref (tv 0)])
 obtain⟨c3,hc3⟩:∃c3,(h2.update G1.objs.size (Obj.mapSeq fun _=>#[v,Value.ref (tv 0)])).get? G1.objs.size=some (seqObj "list" #[v,.ref (tv 0)] c3):=⟨_,mO hls2 fun _=>#[v,Value.ref (tv 0)]⟩
 show wpAny _ A.in1 (updateSeq G1.objs.size (fun _=>#[v,Value.ref (tv 0)]) >>= _) _ _ _
 refine ac ?_
 refine jG hls2 rfl ?_
 rw[hname]
 have I3:bw X pins σ H ⟨h2.update G1.objs.size (Obj.mapSeq fun _=>#[v,Value.ref (tv 0)]),g0,d0,t2,rW⟩:=I2'.turned (it:=G1.objs.size) (fun b o hb e=>sb.extBut b o hb e) xu.1 xu.2.1 xu.2.2.2.1 xu.2.2.2.2.1 xu.2.2.2.2.2
 have M3:nw X pins σ H ⟨h2.update G1.objs.size (Obj.mapSeq fun _=>#[v,Value.ref (tv 0)]),g0,d0,t2,rW⟩ f c0 cd a h0.objs.size _ q vs ep (0+1):=
  M2.go (s:=⟨h2,g0,d0,t2,rW⟩) (b0:=G1.objs.size) I3 (fun b o hb e=>sb.extBut b o hb e) nf.2 Ov.2 Oy.2 na.2 (by obtain⟨o,ho,r1,r2⟩:=M2.iter;exact⟨o,sb.extBut _ _ N8 ho,r1,r2⟩)
 exact am ⟨lq PySem.F.plain_min_loop _,Ev T hh vH hu ha jq kG Ay rU xu N8 nf Ov Oy (fun v h t k x e1 e2 e3=>hQ v h t k x e1 e2 e3) _ 0 _ _ v c3 rfl #[0] M3 hc3 fun k2 x2 e2=>by rw[show jZ kf 0=0 from rfl,hx]at e2;cases e2;exact rv⟩
end
noncomputable abbrev Ex(ns:List (Str×NameKind)):Scope:=⟨.function,ns,false,false,[]⟩
def PU(K:Frag)(fd:FuncData)(P:Addr):Prop:=∃c,fd.code=.ref c/\codeHdIn K c P=true/\K.lookup P=none
theorem v_{a b:Int}{t u:Tok}{c:Value}(l:List Value)(h:TriplesOk l):TriplesOk (l++[.int a t,.int b u,c]):=by
 fun_induction TriplesOk l with
 |case1=>exact trivial
 |case2 _ _ _ _ _ rest ih=>exact ih h
 |case3=>exact h.elim
section
variable{st:List ah}
abbrev sT(H:Hp)(P cd:Addr)(q:Str)(ps:Array Value)(pos:Pos):Hp:=eW (eW H cd (iW cd q)) P (.tbl (ps++#[rawInt pos.line,rawInt pos.col,.ref cd]))
theorem rK{P:Addr}{ps:Array Value}(n1:b≠P)(n2:b≠cd):sT H P cd q ps pos b=H b:=by
 show eW (eW H cd _) P _ b=_
 rw[cw n1,cw n2]
theorem Ey{P:Addr}{ps:Array Value}:sT H P cd q ps pos P=some (.tbl (ps++#[rawInt pos.line,rawInt pos.col,.ref cd])):=dB
theorem wa{P:Addr}{ps:Array Value}(h:P≠cd):sT H P cd q ps pos cd=some (iW cd q):=by
 show eW (eW H cd _) P _ cd=_
 rw[cw (Ne.symm h),dB]
theorem fO.butT{l:Addr}{xs:Array Value}(e:Pa l H H')(hl:H l=some (.tbl xs)):dC K H H':=by
 have lN:∀{p:Addr} {o:HO},H p=some o->(∀zs,o≠.tbl zs)->p≠l:=fun{p o} q hn z=>by subst z;rw[hl]at q;cases q;exact hn _ rfl
 refine⟨fun p ys h=>?_,fun b o u h=>e _ _ (lN h #[13]) h⟩
 rcases h with(h|⟨o,h⟩)|h
 ·exact .inl (.inl (e _ _ (lN h #[13]) h))
 ·exact .inl (.inr ⟨o,e _ _ (lN h #[13]) h⟩)
 ·exact .inr h
theorem Ez{l:List α}{x:α}(h:l[i]?=some x):l.set i x=l:=by
 refine gD fun j=>?_
 by_cases e:i=j
 ·subst e;rw[bB (aa.mp h).1,h]
 ·rw[bS e]
theorem fW.tabbed{P:Addr}{ps:Array Value}(S:fW K mg μ st H)(hi:st[i]?=some (.tab P pos q))(hP:H P=some (.tbl ps))(nJ:H cd=none)(ht:TriplesOk ps.toList)(hn:codeAmong pos ps.toList=none) :
  fW K mg μ st (sT H P cd q ps pos)/\dC K H (sT H P cd q ps pos):=by
 have hs:nY H (eW H cd (iW cd q)):=cy nJ _
 have lN:P≠cd:=fun z=>by rw[z,nJ]at hP;cases hP
 have hP1:eW H cd (iW cd q) P=some (.tbl ps):=hs _ _ hP
 have hx:dC K (eW H cd (iW cd q)) (sT H P cd q ps pos):=fO.butT gP hP1
 obtain⟨a,hm,ea,_⟩:=S.get hi
 subst ea
 have:=(S.same hs).setG (c':=.tab a pos q) hi rfl hm hP1 (fun _ _ z=>by cases z) #[13] hx rfl ⟨rfl,_,dB,?_,.inr ⟨cd,?_,?_⟩⟩
 ·rw[Ez hi]at this
  exact⟨this,(fO.same hs).trans hx⟩
 ·rw[Array.toList_append];exact v_ _ ht
 ·rw[Array.toList_append];exact codeAmong_snoc _ ht hn
 ·exact wa lN
end
section
theorem bw.tabbed{t':Nat}{P:Addr}{ps:Array Value}(I:bw X pins σ H s)(hP:H P=some (.tbl ps))(Dn:s.heap.objs.size<=cd)(hx:∀b o,b≠P->s.heap.get? b=some o->h'.get? b=some o)
  (AC:h'.CodeRec (.ref cd) q) (Os:h'.get? P=some { cls:=.none,data:=.fields (ps++#[rawInt pos.line,rawInt pos.col,.ref cd]) }):bw X pins σ (sT H P cd q ps pos) { s with heap:=h',toks:=t' }:=by
 have nJ:H cd=none:=I.hok.fresh Dn
 have lN:P≠cd:=fun z=>by rw[z,nJ]at hP;cases hP
 have notP:∀b,H b=none->b≠P:=fun b n z=>by rw[z,hP]at n;cases n
 have old:∀b o,s.heap.get? b=some o->b≠cd:=fun b o e=>bq (aV (aE e) Dn)
 have keepH:∀b u,H b=some u->b≠P->sT H P cd q ps pos b=some u:=fun b u e n=>by
  rw[rK n (fun z=>by rw[z,nJ]at e;cases e)];exact e
 have Hcd:sT H P cd q ps pos cd=some (iW cd q):=wa lN
 refine I.call' (ch:=[]) rfl ⟨fun b o e n hb qh=>hx b o (notP b n) e,fun b o e n hb qh=>⟨o.slots,hx b o (notP b n) e⟩,fun b o e n qh=>?_,fun b o e qh=>?_,fun b xs e=>?_,fun b o u e=>?_,fun b ps' e=>?_⟩ (fun b u e=>?_) I.bare fun b hb=>absurd hb #[7]
 ·rw[rK (notP b n) (old b o e)];exact n
 ·by_cases hb:b=P
  ·subst hb;exact⟨_,Os⟩
  ·exact⟨o,hx b o hb e⟩
 ·exact keepH b _ e fun z=>by rw[z,hP]at e;cases e
 ·exact keepH b _ e fun z=>by rw[z,hP]at e;cases e
 ·by_cases hb:b=P
  ·subst hb
   rw[hP]at e;cases e
   exact⟨_,Ey⟩
  ·exact⟨#[],by rw[keepH b _ e hb];simp⟩
 ·by_cases hb:b=P
  ·subst hb
   rw[Ey]at e;cases e
   exact Os
  ·by_cases hb2:b=cd
   ·subst hb2
    rw[Hcd]at e;cases e
    obtain⟨c2,oc,vs,t,e2,hoc,hd,hv⟩:=AC
    cases e2
    refine⟨⟨oc,vs,t,hoc,hd,hv⟩,⟨oc,hoc⟩,fun h1 h2 p k=>?_⟩
    obtain⟨o,vs,t,ho,r⟩:=p
    exact⟨o,vs,t,k o ho,r⟩
   ·rw[rK hb hb2]at e
    refine(I.hok b u e).stay (fun c v hc q'=>hx c v (fun z=>?_) q') (fun c q'=>keepH c _ q' fun z=>by rw[z,hP]at q';cases q') fun c xs q'=>keepH c _ q' fun z=>by rw[z,hP]at q';cases q'
    rcases hc with rfl|hc
    ·exact hb z
    ·rw[z,hP]at hc;cases hc
theorem EA{P c:Addr}{pr:Arguments}{b:Expr}{ul:Pos}{ps:Array Value}(N0:defaultsOf pr X.env=([],[]))(hq:X.env.qual++"<lambda>"=q)(lM:X.env.code=.ref c)(JH:codeHdIn X.K c P=true)(T4:X.K.lookup P=none)(hB:rh X.base X.mg)
  (jd:closureFor sc X.env=pure cl) (I:bw X pins σ H s) (hP:H P=some (.tbl ps)) (ht:TriplesOk ps.toList) (Og:codeAmong ul ps.toList=none\/∃cd,codeAmong ul ps.toList=some (.ref cd)/\H cd=some (iW cd q))
  (h:∀f cd ct pm h' t H',((codeAmong ul ps.toList=none/\H cd=none/\H'=sT H P cd q ps ul)\/H'=H)->bw X pins σ H' { s with heap:=h',toks:=t }->h'.get? f=some (kla_obj "<lambda>" q pr b sc cl pm cd ct)->h'.CodeRec (.ref cd) q ->
   (∀b o,b≠P->s.heap.get? b=some o->h'.get? b=some o)->Q (.ref f) { s with heap:=h',toks:=t }) :
  wpAny #[2] X.A (eval (.Lambda pr b sc ul) X.env) Q E s:=by
 subst hq
 have hPo:s.heap.get? P=some { cls:=.none,data:=.fields ps }:=I.hok P _ hP
 have hgs:s.heap.Ns mainGlobals X.mg:=I.mod.glob.keeps I.bk
 have hgP:mainGlobals≠P:=fun z=>by
  obtain⟨o,es,ep,e,hd,_⟩:=hgs
  rw[z,hPo]at e;cases e;cases hd
 obtain⟨bm,ob,b1,b2,b4,b5,b6,b7⟩:=hB
 have b4':=I.bk _ _ b4
 have hbP:bm≠P:=fun z=>by rw[z,hPo]at b4';cases b4';cases b5
 have b3:bm≠mainGlobals:=fun z=>by
  obtain⟨o,es,ep,e,hd,_⟩:=hgs
  rw[z,e]at b4';cases b4';rw[b7]at hd;cases hd
 have hb:s.heap.BuiltinsAt X.mg P:=⟨bm,ob,b1,b2,b3,hbP,b4',b5,b6,b7⟩
 have CH:=PySem.W.codeHd_of_K I.kIn JH
 refine PySem.W.kla_eval N0 ?_
 rcases Og with hn|⟨cd,hhit,hH⟩
 ·refine PySem.W.kla_makeFunction (mg:=X.mg) jd I.ok.glob hgs lM CH hPo ht hn hgP hb fun cd ct h' tk hx Dn ju AC Os=>?_
  have qh:∀b o,b≠P->s.heap.get? b=some o->h'.get? b=some o:=fun b o hb e=>hx b o hb e
  have hrec2:(h'.push (kla_obj "<lambda>" (X.env.qual++"<lambda>") pr b sc cl ((X.mg "__name__").getD .none) cd ct)).CodeRec (.ref cd) (X.env.qual++"<lambda>"):=by
   obtain⟨c2,oc,vs,t,e2,hoc,hd,hv⟩:=AC
   exact⟨c2,oc,vs,t,e2,ar _ hoc,hd,hv⟩
  exact h _ cd ct _ _ tk _ (.inl ⟨hn,I.hok.fresh Dn,rfl⟩) (I.tabbed hP Dn (fun b o hb e=>ar _ (qh b o hb e)) hrec2 (ar _ Os)) (aL _ rfl) hrec2 fun b o hb e=>ar _ (qh b o hb e)
 ·refine PySem.W.kla_makeFunctionHit (mg:=X.mg) jd I.ok.glob hgs lM CH hPo ht hhit hb fun ct h' tk hk hsz=>?_
  obtain⟨⟨oc,vs,t,hoc,hd,hv⟩,_⟩:=I.hok cd _ hH
  exact h _ cd ct _ _ tk _ (.inr rfl) (I.kept fun b o e=>ar _ (hk b o e)) (aL _ rfl) ⟨cd,oc,vs,t,rfl,ar _ (hk _ _ hoc),hd,hv⟩ fun b o _ e=>ar _ (hk b o e)
end
def zT:W->Option (List Int)
 |.tup ws=>fy ws
 |_=>none
def jM:List (DK×W)->Option (List (List Int))
 |[]=>some []
 |p::r=>match zT p.2,jM r with
  |some a,some b=>some (a::b)
  |_,_=>none
def qR(st:List ah)(j:Nat)(P:Addr)(pos:Pos)(q:Str):Prop:=st[j]?=some (.tab P pos q)
open Classical in
def sU(i j:Nat)(P:Addr)(pos:Pos)(q:Str):FE:=fun ρ st=>match ρ[i]? with
 |some (some x)=>(match rg st x with
  |some (_,kvs)=>(match jM kvs with
   |some ks=>if qR st j P pos q then m7 (kvs[jZ (fun a=>ks.getD a []) (kvs.length-1)]?) fun p=>.ok p.1.w st else .bad
   |none=>.bad)
  |none=>.bad)
 |_=>.bad
theorem sV:∀{kvs:List (DK×W)} {ks:List (List Int)} {vs:List V},jM kvs=some ks->RelWs K μ H (kvs.map fun p=>p.2) vs->∃ts:List Addr,vs=ts.map V.ref/\∀(i:Nat) (t:Addr),ts[i]?=some t->fO K H t ((ks.getD i []).map V.int)
 |[],ks,vs,h,r=>by
  have:=r.nilE
  subst this
  exact⟨[],rfl,fun i t e=>by simp at e⟩
 |p::r,ks,vs,h,rr=>by
  unfold jM at h
  cases e1:zT p.2 with
  |none=>rw[e1]at h;cases h
  |some a=>
   cases e2:jM r with
   |none=>rw[e1,e2]at h;cases h
   |some b=>
    rw[e1,e2]at h;cases h
    obtain⟨x,xs,rfl,q1,q2⟩:=RelWs.consE rr
    obtain⟨ts,rfl,ht⟩:=sV e2 q2
    obtain⟨k,w⟩:=p
    cases w with
    |tup ws=>
     obtain⟨t,us,rfl,hS,r1⟩:=be.tupE q1
     have:=lD (show fy ws=some a from e1) r1
     subst this
     refine⟨t::ts,rfl,fun i t' e=>?_⟩
     cases i with
     |zero=>cases e;exact hS
     |succ i=>exact ht i t' (by simpa using e)
    |_=>cases e1
theorem EB{kvs:List (DK×W)}{ts:List Addr}(r:RelWs K μ H (kvs.map fun p=>p.2) (ts.map V.ref)){k:f'}{x:V}(h:(dV kvs (ts.map V.ref))[i]?=some (k,x)) :
  ∃p t,kvs[i]?=some p/\k=p.1.key/\ts[i]?=some t/\x=.ref t:=by
 unfold dV at h
 rw[g_]at h
 obtain⟨h1,h2⟩:=h
 rw[ak]at h1 h2
 obtain⟨p,e1,e2⟩:=a_.mp h1
 obtain⟨t,e3,e4⟩:=a_.mp h2
 exact⟨p,t,e1,e2.symm,e3,e4.symm⟩
section
variable{en dn:Str}{pr:Arguments}{p1 p3 p4 ul Q9:Pos}{c P:Addr}
theorem IA(hr:fR kk X.A)(T:Eu en dn pr #[14] sc)(lM:X.env.code=.ref c)(JH:codeHdIn X.K c P=true)(T4:X.K.lookup P=none)(hB:rh X.base X.mg)(hm:X.mg "min"=none)
  (fP:X.env.cells=cellsFrom m X.env.scope.names []) (hN:X.N[i]?=some dn:=by rfl) (hk:X.env.scope.names.lookup dn=some .cell:=by rfl) (G8:∀env:Env,cD env sc.names []=[(dn,(env.cells.lookup dn).getD 0)]:=by intro _;rfl) (qk:∀x∈sc.names,x.2=.free->x.1=dn:=by decide)
  (hq:X.env.qual++"<lambda>"=q:=by rfl) (N0:defaultsOf pr X.env=([],[]):=by rfl) (fz:X.calm=true:=by rfl) (hg:Gl X "min":=by rfl) (R7:(dn==("__debug__":Str))=false:=by decide) (Hk:(dn==("__classdict__":Str))=false:=by decide)
  (he:starEach [.Name dn p1] X.env=(false,eval (.Name dn p1) X.env)::starEach [] X.env:=by rfl) :
  SE X (.Call (.Name "min" p) [.Name dn p1] [⟨some "key",.Lambda pr #[14] sc ul,Q9⟩] pos) (sU i j P ul q):=⟨fun pins s σ H Q I h=>by
 walk_at "2"
 unfold sU at h
 cases e1:ρ[i]? with
 |none=>rw[e1]at h;exact h.elim
 |some ox=>
  cases ox with
  |none=>rw[e1]at h;exact h.elim
  |some x=>
   rw[e1]at h
   simp only at h
   cases e2:rg st x with
   |none=>rw[e2]at h;exact h.elim
   |some nk=>
    obtain⟨n,kvs⟩:=nk
    rw[e2]at h
    simp only at h
    cases e3:jM kvs with
    |none=>rw[e3]at h;exact h.elim
    |some ks=>
     rw[e3]at h
     simp only at h
     by_cases e4:qR st j P ul q
     ·rw[aw e4]at h
      cases e5:kvs[jZ (fun a=>ks.getD a []) (kvs.length-1)]? with
      |none=>rw[e5]at h;exact h.elim
      |some pk=>
       rw[e5]at h
       simp only[bE]at h
       obtain⟨v,hσ,rx⟩:=lz l.env e1
       obtain⟨a,vs,hn,hmu,rfl,ha,rr⟩:=rJ l.sto e2 rx
       obtain⟨ts,rfl,hts⟩:=sV e3 rr
       have hc:∃c0,X.env.cells.lookup dn=some c0:=by rw[fP];exact iI hk
       obtain⟨c0,Du⟩:=hc
       obtain⟨aP,hP0,eP,ps,hP,ht,Og⟩:=l.sto.get e4
       subst eP
       refine fm (ql I hg hm (by rfl) ?_ #[8] #[8])
       refine callWith_builtin_kwB (by rfl) (by rfl) (evalArgs_kw2 (by rfl) ?_ he)
       refine gq ((ph (pv i hN (.inr (.inl hk)) R7 Hk) vK) pos pins s σ H (fun vs H1=>vs=[.ref a]/\H1=H) I ⟨_,hσ,rfl,rfl⟩) fun us s1 zc=>?_
       obtain⟨vs1,H1,I1,r1,rfl,rfl⟩:=zc
       obtain⟨u1,rfl,ru1⟩:=jk r1
       obtain rfl:u1=Value.ref a:=ru1
       obtain⟨mm,GT,hlk⟩:=id I1.loc
       obtain⟨u,ru,lk⟩:=hlk i dn (.ref a) hN hσ (.inr (.inl hk))
       obtain rfl:u=Value.ref a:=ru
       have fC:s1.heap.IsCell c0 (some (.ref a)):=by
        rcases lk with⟨kl,_⟩|⟨_,c1,hc1,hcc⟩
        ·have:X.env.scope.names.lookup dn=some .local:=kl
         rw[hk]at this;cases this
        ·rw[Du]at hc1;cases hc1;exact hcc
       have jd:closureFor sc X.env=pure [(dn,c0)]:=by
        rw[AM (fun x hx hf=>by rw[qk x hx hf];exact⟨c0,Du⟩),G8,Du];rfl
       show wpAny _ _ (evalAll ((do let v <- eval (.Lambda pr #[14] sc ul) X.env;standAt pos;pure v)::[])) _ _ s1
       refine wpAny_evalAll_cons (ac (EA N0 hq lM JH T4 hB jd I1 hP ht Og fun f cd ct pm h' t H' hH I2 hf AC hx=>ac (lf (am (wpAny_evalAll_nil ?_)))))
       have hS':fW X.K X.mg μ st H'/\dC X.K H1 H':=by
        rcases hH with⟨g1,g2,rfl⟩|rfl
        ·exact l.sto.tabbed e4 hP g2 ht g1
        ·exact⟨l.sto,dC.refl⟩
       obtain⟨S',X'⟩:=hS'
       have nK:H' a=some (.dK (dV kvs (ts.map V.ref))):=by
        rcases hH with⟨g1,g2,rfl⟩|rfl
        ·rw[rK (fun z=>by rw[z,hP]at ha;cases ha) (fun z=>by rw[z,g2]at ha;cases ha)];exact ha
        ·exact ha
       have hcell':h'.IsCell c0 (some (.ref a)):=by
        obtain⟨o,ho,hd⟩:=fC
        exact⟨o,hx c0 o (fun z=>by have:=I1.freeC _ _ Du;rw[z,hP]at this;cases this) ho,hd⟩
       have d7:(dV kvs (ts.map V.ref)).length=kvs.length:=qy rr
       have hpos:0<kvs.length:=by
        cases kvs with
        |nil=>simp at e5
        |cons _ _=>simp
       have Ay:∀(i:Nat) (k:f') (x:V),(dV kvs (ts.map V.ref))[i]?=some (k,x)->x=.ref (ts.getD i 0)/\fO X.K H' (ts.getD i 0) ((ks.getD i []).map V.int):=fun i k x e=>by
        obtain⟨p',t',f1,f2,f3,f4⟩:=EB rr e
        have:ts.getD i 0=t':=by rw[aD,f3];rfl
        rw[this]
        exact⟨f4,X' _ _ (hts i t' f3)⟩
       refine Ew (pins:=pins) (H:=H') (kvs:=dV kvs (ts.map V.ref)) (kf:=fun a=>ks.getD a []) (tv:=fun a=>ts.getD a 0) T (I.ok.hd fz) (by have:=hr.dp;omega) (by have:=hr.un;omega) I2 nK hf AC hcell' (by rw[d7];exact hpos) Ay fun v h2 t2 k x ek rk I3=>?_
       rw[d7]at ek
       obtain⟨p',t',f1,f2,_,_⟩:=EB rr ek
       rw[e5]at f1;cases f1
       subst f2
       exact⟨_,H',I3,rk,h μ _ H' (af _) X' S' (DK.w_rel _)⟩
     ·rw[aC e4]at h;exact h.elim⟩
end
def CG(x y:W)(st:List ah):R W:=match x,y with
 |.int i,.int j=>.ok (.bl (decide (i<j))) st
 |.tup a,.tup b=>(match fy a,fy b with
  |some ns,some ms=>.ok (.bl (HT.lexLt ns ms)) st
  |_,_=>.bad)
 |_,_=>.bad
theorem J9{k:Nat}(hr:fR k X.A):pE X (compareOp .Lt) CG:=⟨fun pins s σ H x y v u Q I rv ru zq=>by
 walk_at "3"
 cases wx with
 |int i=>
  cases wy with
  |int j=>exact w_lt.h pins s σ H x y v u Q I rv ru ⟨μ,st,.int i,.int j,S,rx,ry,q⟩
  |_=>exact q.elim
 |tup a=>
  cases wy with
  |tup b=>
   simp only[CG]at q
   cases e1:fy a with
   |none=>rw[e1]at q;exact q.elim
   |some ns=>
    cases e2:fy b with
    |none=>rw[e1,e2]at q;exact q.elim
    |some ms=>
     rw[e1,e2]at q
     obtain⟨p,vs,rfl,hS,r⟩:=rx.tupE
     obtain⟨p2,vs2,rfl,hS2,r2⟩:=ry.tupE
     have:=lD e1 r;subst this
     have:=lD e2 r2;subst this
     exact LP (by have:=hr.un;omega) pins s σ H _ _ v u Q I rv ru ⟨p,p2,ns,ms,rfl,rfl,hS,hS2,gH S q⟩
  |_=>exact q.elim
 |_=>cases wy<;>exact q.elim,fun x y st=>by
 unfold CG
 split
 ·trivial
 ·split<;>trivial
 ·trivial⟩
section
variable{o f:Expr}{fo fk fd fe:FE}
end
section
variable{y:Str}{a b:Expr}{fs:FA}
end
inductive DefIn(K:Frag)(x:Str)(st:Stmt):Prop
 |mk {ad:Addr} {od an:Option Addr} {sl:Array (Option Value)} {oc kV dc pm cd ct:Value} (a:nsIn K mainGlobals x=some (some (.ref ad)))
   (l:K.lookup ad=some ⟨oc,od,.func (fnOf x x (dO st) (dQ st) (aY st) .none kV dc pm an cd ct),sl⟩) (c:codeIn K cd x=true) (k:keepIn K (.ref ad)=true):DefIn K x st
theorem DefIn.fn{st:Stmt}(d:DefIn K x st)(X:K.In h)(G:h.Ns mainGlobals mg):∃f fd,lZ K x x st f fd/\mg x=some (.ref f):=by
 obtain⟨a,l,c,k⟩:=d
 exact⟨_,_,vO (st:=st) l c k,mg_of X G a⟩
theorem PV{l:List Value}(h:l.length=n+1):∃a t,l=a::t/\t.length=n:=by
 cases l with
 |nil=>cases h
 |cons a t=>exact⟨a,t,rfl,Nat.succ.inj h⟩
theorem Te{l:List Value}(h:l.length=1):∃a,l=[a]:=List.length_eq_one_iff.mp h
theorem PY{l:List Value}(h:l.length=2):∃a b,l=[a,b]:=by obtain⟨a,t,rfl,k⟩:=PV h;obtain⟨b,rfl⟩:=Te k;exact⟨a,b,rfl⟩
theorem PZ{l:List Value}(h:l.length=3):∃a b c,l=[a,b,c]:=by obtain⟨a,t,rfl,k⟩:=PV h;obtain⟨b,c,rfl⟩:=PY k;exact⟨a,b,c,rfl⟩
theorem Tf{l:List Value}(h:l.length=4):∃a b c d,l=[a,b,c,d]:=by obtain⟨a,t,rfl,k⟩:=PV h;obtain⟨b,c,d,rfl⟩:=PZ k;exact⟨a,b,c,d,rfl⟩
theorem Tg{l:List Value}(h:l.length=5):∃a b c d e,l=[a,b,c,d,e]:=by obtain⟨a,t,rfl,k⟩:=PV h;obtain⟨b,c,d,e,rfl⟩:=Tf k;exact⟨a,b,c,d,e,rfl⟩
theorem TY{l:List Value}(h:l.length=6):∃a b c d e f,l=[a,b,c,d,e,f]:=by obtain⟨a,t,rfl,k⟩:=PV h;obtain⟨b,c,d,e,f,rfl⟩:=Tg k;exact⟨a,b,c,d,e,f,rfl⟩
section
variable{P:Program}{w:World}{K:Frag}{mg:Str->Option Value}{base:Heap}{k n:Nat}{x:Str}{st:Stmt}{f:Addr}{fd:FuncData}{ps:List Str}{G:List W->List ah->R W}
theorem EC(F:lZ K x x st f fd)(hm:mg x=some (.ref f))(ok:fS P w K mg base (kF P w) k f fd ps (l8 K mg n G))(hn:ps.length=n:=by rfl)
  (hb:∀(kV jc pm:Value) (an:Option Addr) (gU ct:Value) (us:List Value),us.length=ps.length->bindArgs (fnOf x x (dO st) (dQ st) (aY st) .none kV jc pm an gU ct) ⟨us,[]⟩=pure (ps.zip us):=by(intro _ _ _ _ _ _ _ q;first|(obtain⟨_,rfl⟩:=Te q;rfl)|(obtain⟨_,_,rfl⟩:=PY q;rfl)|(obtain⟨_,_,_,rfl⟩:=PZ q;rfl)|(obtain⟨_,_,_,_,rfl⟩:=Tf q;rfl)|(obtain⟨_,_,_,_,_,rfl⟩:=Tg q;rfl)|(obtain⟨_,_,_,_,_,_,rfl⟩:=TY q;rfl))):eX P w K mg base k x n G:=rH F hm hn hb ok
theorem Mp{h:Heap}(d:DefIn K x st)(X:K.In h)(Gs:h.Ns mainGlobals mg)(ok:∀{f:Addr} {fd:FuncData},lZ K x x st f fd->fS P w K mg base (kF P w) k f fd ps (l8 K mg n G))(hn:ps.length=n:=by rfl)
  (hb:∀(kV jc pm:Value) (an:Option Addr) (gU ct:Value) (us:List Value),us.length=ps.length->bindArgs (fnOf x x (dO st) (dQ st) (aY st) .none kV jc pm an gU ct) ⟨us,[]⟩=pure (ps.zip us):=by(intro _ _ _ _ _ _ _ q;first|(obtain⟨_,rfl⟩:=Te q;rfl)|(obtain⟨_,_,rfl⟩:=PY q;rfl)|(obtain⟨_,_,_,rfl⟩:=PZ q;rfl)|(obtain⟨_,_,_,_,rfl⟩:=Tf q;rfl)|(obtain⟨_,_,_,_,_,rfl⟩:=Tg q;rfl)|(obtain⟨_,_,_,_,_,_,rfl⟩:=TY q;rfl))):eX P w K mg base k x n G:=let ⟨_,_,F,m⟩:=d.fn X Gs;rH F m hn hb (ok F)
end
noncomputable def Oo:List Str->Bool
 |[]=>true
 |x::r=>!(r.any fun y=>y==x)&&Oo r
theorem wb:∀{l:List Str},Oo l=true->l.Nodup
 |[],_=>.nil
 |x::r,h=>by
  simp only[Oo,bA,iR,fK,eN]at h
  exact bG.mpr ⟨fun m=>h.1 x m rfl,wb h.2⟩
section
variable{fe:FE}{sp:Scope}
theorem pK{N:List Str}(a:sp.kind=.function:=by rfl)(b:sp.isCoroutine=false:=by rfl)(c:sp.isGenerator=false:=by rfl)(d:N.Nodup:=by decide +kernel)(f:N.take ps.length=ps:=by rfl)(g:∀x∈ps,sp.names.lookup x=some .local\/sp.names.lookup x=some .cell:=by decide +kernel)(h:∀y∈sp.names,y.2≠.free:=by decide +kernel):b9 N ps sp:=⟨a,b,c,d,f,g,h⟩
theorem sS(i:Nat){jp:Pos}(sc:b9 X.N ps sp)(he:SE X e fe)(hi:X.N[i]?=some x:=by rfl)(hx:B8 X.env.scope x:=by first|exact .inl rfl|exact .inr rfl)(hs:swapsWith e (some (.Name x jp)) pos.line X.env=pure false:=by rfl)(hf:X.fn x=true\/X.env.scope.names.lookup x=some .local:=by first|exact .inl rfl|exact .inr rfl|assumption) :
  SS X (.Assign [.Name x jp] e pos) (cC i fe):=Mg sc.nd hi hx he hs hf
theorem sG(i:Nat)(sc:b9 X.N ps sp)(hi:X.N[i]?=some x:=by rfl)(hx:B8 X.env.scope x:=by first|exact .inl rfl|exact .inr rfl)(hf:X.fn x=true\/X.env.scope.names.lookup x=some .local:=by first|exact .inl rfl|exact .inr rfl|assumption):SG X (.Name x pos) (eG i):=rG sc.nd hi hx hf
theorem sC{cl:List (Str×Addr)}{C s0 H0 fp}(i:Nat)(hN:nm.Nodup:=by decide +kernel)(hi:nm[i]?=some x:=by rfl)(hx:B8 #[3].env.scope x:=by first|exact .inl rfl|exact .inr rfl)(hf:#[3].fn x=true\/#[3].env.scope.names.lookup x=some .local:=by first|exact .inl rfl|exact .inr rfl|assumption) :
  SG #[3] (.Name x pos) (eG i):=rG (X:=bY X nm scope cl C s0 H0 fp) hN hi hx hf
theorem Ud{cl:List (Str×Addr)}{C s0 H0 fp}(i:Nat)(hN:Oo nm=true:=by first|rfl|kernel_rfl)(hi:nm[i]?=some x:=by rfl)(hx:B8 #[3].env.scope x:=by first|exact .inl rfl|exact .inr rfl)(hf:#[3].fn x=true\/#[3].env.scope.names.lookup x=some .local:=by first|exact .inl rfl|exact .inr rfl|assumption) :
  SG #[3] (.Name x pos) (eG i):=rG (X:=bY X nm scope cl C s0 H0 fp) (wb hN) hi hx hf
end
noncomputable def IB:Expr->List Str
 |.Name x _=>[x]
 |.Tuple es _ _=>es.filterMap fun e=>match e with
  |.Name x _=>some x
  |_=>none
 |_=>[]
noncomputable def Mq(N:List Str):List Str->List (Option Nat)->List Str
 |_,[]=>[]
 |ts,some j::r=>N.getD j "" :: Mq N ts r
 |ts,none::r=>ts.headD "" :: Mq N ts.tail r
abbrev J_(X:Cx)(tg:Expr)(cap:List (Option Nat)):List Str:=Mq X.N (IB tg) cap
section
variable{fi:FI}{f:FG}{t:FT}{el:FE}
theorem A'(fP:X.env.cells=cellsFrom m X.env.scope.names [])(hi:SI X tg iter fi)(hg:∀cl C s0 H0 fp,SG (bY X (J_ X tg cap) scope cl C s0 H0 fp) tg f)(ht:∀cl C s0 H0 fp,Io (bY X (J_ X tg cap) scope cl C s0 H0 fp) iU t)
  (he:∀cl C s0 H0 fp,SE (bY X (J_ X tg cap) scope cl C s0 H0 fp) jV el) (hB:uv X.env.scope.names scope.names (J_ X tg cap) cap X.N=true:=by first|rfl|kernel_rfl) (fz:X.calm=true:=by rfl) (fA:scope.kind=.function:=by rfl) (hs:∀x,foldedSetIterable iter X.env x=pure x:=by intro _;rfl) :
  SE X #[4] (cW cap fi f t el):=k8 hB fP hi hg ht he fz fA hs
theorem qS{x0:Str}{p0 p1:Pos}(Oh:SG X (.Name x0 p0) (eG i))(fP:X.env.cells=cellsFrom m X.env.scope.names [])(hi:SI X tg iter fi)(hg:∀cl C s0 H0 fp,SG (bY X (J_ X tg cap) scope cl C s0 H0 fp) tg f)(ht:∀cl C s0 H0 fp,Io (bY X (J_ X tg cap) scope cl C s0 H0 fp) iU t)
  (he:∀cl C s0 H0 fp,SE (bY X (J_ X tg cap) scope cl C s0 H0 fp) jV el) (hB:uv X.env.scope.names scope.names (J_ X tg cap) cap X.N=true:=by first|rfl|kernel_rfl) (Oe:swapsWith #[4] (some (.Name x0 p0)) p1.line X.env=pure true:=by first|rfl|kernel_rfl) (fz:X.calm=true:=by rfl) (fA:scope.kind=.function:=by rfl) (hs:∀x,foldedSetIterable iter X.env x=pure x:=by intro _;rfl) :
  SS X (.Assign [.Name x0 p0] #[4] p1) (zJ (cW cap fi f t el) (eG i)):=l9 Oh hB fP hi hg ht he fz fA hs Oe
end
end L2
variable{t:L2.FT}{ρ:L2.cu}{fa fb fe fo el:L2.FE}{fi:L2.FI}
namespace HT
open PySem PyProof.Rows
section
open PySem.SeqAt
open PySem.AutoSeq1 (wpAny_loadPart')
open PySem.MeetsSeq PySem.MeetsSeq2 PySem.MeetsSeq3
end
end HT
namespace L2
open PySem PySem.Spec PyProof.Rows
section
end
end L2
namespace PK
open PySem
section
variable{w:World}{K1 K2:Type}[DecidableEq K1][DecidableEq K2](knd:KeyKind prog w K1)(hk:HeapKind prog w K2)
def Is(h:Heap)(k:K1×K2)(a:Addr):Prop:=∃o v b n,h.get? a=some o/\o.cls=.type "tuple"/\o.data=.seq #[v,.ref b] n/\knd.is k.1 v=true/\hk.is h k.2 b
noncomputable def hash(k:K1×K2):Int:=reduceHash (Builtin.Tuple.tupleHashOf [knd.hash k.1,hk.hash k.2])
variable{knd hk}
theorem Is.typeIs{k:K1×K2}(x:Is knd hk s.heap k a):s.TypeIs (.ref a) "tuple":=let ⟨o,_,_,_,ho,hc,_⟩:=x;⟨o,ho,hc⟩
theorem Is.inj{x y:K1×K2}(hx:Is knd hk h x a)(hy:Is knd hk h y a):x=y:=by
 obtain⟨o,v,b,n,ho,_,hd,h1,h2⟩:=hx
 obtain⟨o',v',b',n',ho',_,hd',h1',h2'⟩:=hy
 obtain rfl:o=o':=aU (ho.symm.trans ho')
 rw[hd]at hd'
 injection hd' with e _
 have e:=cL Array.toList e
 simp only[List.cons.injEq,Value.ref.injEq,and_true]at e
 obtain⟨rfl,rfl⟩:=e
 exact Prod.ext (knd.inj _ _ _ h1 h1') (hk.inj h2 h2')
theorem Is.keeps{k:K1×K2}{d:Addr}{es ep}(x:Is knd hk h k a)(ho:h.get? d=some o)(hd:o.data=.dict es ep)(hs:Heap.SameBut d h h'):Is knd hk h' k a:=by
 obtain⟨o',v,b,n,ho',hc,hd',h1,h2⟩:=x
 have lN:a≠d:=by
  rintro rfl
  obtain rfl:o'=o:=aU (ho'.symm.trans ho)
  rw[hd]at hd';exact nomatch hd'
 exact⟨o',v,b,n,(hs.2 a lN).trans ho',hc,hd',h1,hk.keeps h2 ho hd hs⟩
theorem pyHash{k:K1×K2}{Q:Int->Shared->Prop}(hu:A.units<cLine)(hr:hk.room A.in1)(hx:Is knd hk s.heap k a)(h:Q (hash knd hk k) { s with toks:=s.toks+(1+hk.draws k.2+1) }) :
  wpAny #[17] A (PySem.pyHash (.ref a)) Q E s:=by
 have hT:=hx.typeIs
 obtain⟨o,v,b,n,ho,_,hd,h1,h2⟩:=hx
 unfold PySem.pyHash
 first|unfold pyHashByItsType|skip
 first|refine ac (wpAny_cRoomFor_or (.inr hu) ?_)|skip
 refine ac (fH hT F.slot_tuple_hash.lookup ?_)
 show wpAny _ _ (if (some (Value.builtin "tuple.__hash__")==some Value.none)=true then _ else _) Q E s
 rw[aC (by rw[beq_builtin_none];exact bC)]
 refine ac (fH hT F.slot_tuple_hash.lookup ?_)
 show wpAny _ _ (callSpecialIfBoundUnlessNone? (.ref a) "__hash__" _ >>= _) Q E s
 refine ac (gu hT F.slot_tuple_hash (cA F.slot_tuple_hash hT F.entry_tuple_hash ?_ (F.args_tuple_hash_1 _)))
 show wpAny _ _ (Builtin.Tuple.tupleItemsOf (.ref a) >>= _) _ _ s
 refine ac (kr ho hd ?_)
 refine ac ?_
 rw[<- kt]
 refine gW _
  (fun rest (c:Array Int) s'=>(rest=[v,.ref b]/\c.toList=[]/\s'=s)\/(rest=[.ref b]/\c.toList=[knd.hash k.1]/\s'={ s with toks:=s.toks+1 })\/(rest=[]/\c.toList=[knd.hash k.1,hk.hash k.2]/\s'={ s with toks:=s.toks+1+hk.draws k.2 }))
  _ ?_ ?_ _ _ (.inl ⟨rfl,rfl,rfl⟩)
 ·rintro x rest c s' (⟨e,hc,rfl⟩|⟨e,hc,rfl⟩|⟨e,_⟩)
  ·injection e with e1 e2
   subst e1;subst e2
   refine ac (knd.pyHash h1 ?_)
   first
    |exact am (.inr (.inl ⟨rfl,by simp[hc],rfl⟩))
    |exact ac (am (am (.inr (.inl ⟨rfl,by simp[hc],rfl⟩))))
  ·injection e with e1 e2
   subst e1;subst e2
   refine ac (hk.pyHash (k:=k.2) hr h2 ?_)
   first
    |exact am (.inr (.inr ⟨rfl,by simp[hc],rfl⟩))
    |exact ac (am (am (.inr (.inr ⟨rfl,by simp[hc],rfl⟩))))
  ·cases e
 ·rintro c s' (⟨e,_⟩|⟨e,_⟩|⟨_,hc,rfl⟩)
  ·cases e
  ·cases e
  show wpAny _ _ (retInt (Builtin.Tuple.tupleHashOf c.toList)) _ _ _
  rw[hc]
  refine mP ?_
  show wpAny _ _ (if (decide (-(2:Int)^63<=Builtin.Tuple.tupleHashOf [knd.hash k.1,hk.hash k.2])&&decide (Builtin.Tuple.tupleHashOf [knd.hash k.1,hk.hash k.2]<2^63))=true then _ else _) Q E _
  unfold hash reduceHash at h
  by_cases hr:(decide (-(2:Int)^63<=Builtin.Tuple.tupleHashOf [knd.hash k.1,hk.hash k.2])&&decide (Builtin.Tuple.tupleHashOf [knd.hash k.1,hk.hash k.2]<2^63))=true
  ·rw[aw hr]
   rw[aw hr]at h
   exact am (by simpa[Nat.add_assoc]using h)
  ·rw[aC hr]
   rw[aC hr]at h
   exact ac (iz (am (by simpa[Nat.add_assoc]using h)))
theorem IC{x y:K1×K2}{P:Fin->Shared->Prop}(hr:hk.room A)(hx:Is knd hk s.heap x a)(hy:Is knd hk s.heap y b)(h:P (.done (.ret (.bool (decide (x=y))))) s) :
  wpAny #[17] A (Builtin.«tuple.__eq__» ⟨[.ref a,.ref b],[]⟩) P E s:=by
 have hTb:=hy.typeIs
 obtain⟨oa,v,c,na,hoa,_,hda,h1,h2⟩:=hx
 obtain⟨ob,u,d,nb,GR,_,zd,g1,g2⟩:=hy
 show wpAny _ _ (isInstance (.ref b) (.type "tuple") >>= _) _ _ s
 refine ac (gX hTb i6 ?_)
 simp only[eB,bV,eR]
 refine ac (kr hoa hda ?_)
 refine ac (kr GR zd ?_)
 refine ac ?_
 refine gW _
  (fun rest r s'=>r.1=none/\s'=s/\((rest=[(v,u),(.ref c,.ref d)])\/(rest=[(.ref c,.ref d)]/\x.1=y.1)\/(rest=[]/\x=y)))
  _ ?_ ?_ _ _ ⟨rfl,rfl,.inl rfl⟩
 ·rintro⟨p,q⟩ rest r s' ⟨hr0,rfl,e|⟨e,e0⟩|⟨e,_⟩⟩
  ·injection e with e1 e2
   injection e1 with e3 e4
   subst e3;subst e4;subst e2
   refine ac (knd.eqBool (a:=x.1) (b:=y.1) h1 g1 ?_)
   by_cases z:x.1=y.1
   ·rw[br z]
    simp only[eB,bV,eR]
    exact am ⟨rfl,rfl,.inr (.inl ⟨by first|rfl|trivial,z⟩)⟩
   ·rw[aZ z]
    simp only[ko,dS]
    have hf:decide (x=y)=false:=aZ fun e=>z (by rw[e])
    rw[hf]at h
    exact ac (am (am (am h)))
  ·injection e with e1 e2
   injection e1 with e3 e4
   subst e3;subst e4;subst e2
   refine ac (hk.eqBool (x:=x.2) (y:=y.2) hr h2 g2 ?_)
   by_cases z:x.2=y.2
   ·rw[br z]
    simp only[eB,bV,eR]
    exact am ⟨rfl,rfl,.inr (.inr ⟨by first|rfl|trivial,Prod.ext e0 z⟩)⟩
   ·rw[aZ z]
    simp only[ko,dS]
    have hf:decide (x=y)=false:=aZ fun e=>z (by rw[e])
    rw[hf]at h
    exact ac (am (am (am h)))
  ·cases e
 ·rintro⟨r1,r2⟩ s' ⟨hr0,rfl,e|⟨e,_⟩|⟨_,e⟩⟩
  ·cases e
  ·cases e
  simp only at hr0
  subst hr0
  refine am ?_
  rw[br e]at h
  exact h
theorem eqBool{x y:K1×K2}{a b:Addr}{Q:Bool->Shared->Prop}(hu:A.units<cLine)(hr:hk.room A.in1)(hx:Is knd hk s.heap x a)(hy:Is knd hk s.heap y b)(h:Q (decide (x=y)) s) :
  wpAny #[17] A (PySem.eqBool (.ref a) (.ref b)) Q E s:=by
 unfold PySem.eqBool
 try with_reducible refine bZ ?_
 show wpAny _ _ (if (Value.ref a==Value.ref b)=true then _ else _) Q E s
 by_cases hab:(Value.ref a==Value.ref b)=true
 ·rw[aw hab]
  have e:a=b:=by have:=jf hab;injection this
  subst e
  obtain rfl:=hx.inj hy
  exact ac (iz (am (by simpa using h)))
 ·rw[aC hab]
  exact ac (wpAny_richCompare_same_room (op:=.Eq) hx.typeIs hy.typeIs F.slot_tuple_eq
   (cA F.slot_tuple_eq hx.typeIs F.entry_tuple_eq (IC hr hx hy ⟨_,rfl,(fun e=>nomatch e),cZ h⟩) (F.args_tuple_eq_2 _ _)) hu)
theorem quiet{k:K1×K2}{Q:Bool->Shared->Prop}(hq:∀{b:Addr} {Q:Bool->Shared->Prop},hk.is s.heap k.2 b->Q true s->wpAny #[17] A (eqIsQuiet 7 (.ref b)) Q E s)(hx:Is knd hk s.heap k a)(h:Q true s):wpAny #[17] A (eqIsQuiet 8 (.ref a)) Q E s:=by
 have hT:=hx.typeIs
 obtain⟨o,v,b,n,ho,_,hd,h1,h2⟩:=hx
 unfold eqIsQuiet
 refine ac (fH hT F.slot_tuple_eq.lookup ?_)
 show wpAny _ _ (isInstance (.ref a) (.type "tuple") >>= _) _ _ s
 refine ac (gX hT i6 ?_)
 simp only[eB,bV,eR]
 refine ac (f_ ho hd ?_)
 refine ac ?_
 show wpAny _ _ (forIn #[v,Value.ref b] _ _) _ _ s
 rw[<- kt]
 refine gW _ (fun rest r s'=>r.1=none/\s'=s/\(rest=[v,.ref b]\/rest=[.ref b]\/rest=[])) _ ?_ ?_ _ _ ⟨rfl,rfl,.inl rfl⟩
 ·rintro x rest r s' ⟨hr,rfl,e|e|e⟩
  ·injection e with e1 e2
   subst e1;subst e2
   rw[eqIsQuiet_byValue _ (knd.byValue _ _ h1)]
   refine ac (am ?_)
   simp only[eB,bV,eR]
   exact am ⟨rfl,rfl,.inr (.inl (by first|rfl|trivial))⟩
  ·injection e with e1 e2
   subst e1;subst e2
   refine ac (hq h2 ?_)
   simp only[eB,bV,eR]
   exact am ⟨rfl,rfl,.inr (.inr (by first|rfl|trivial))⟩
  ·cases e
 ·rintro⟨r1,r2⟩ s' ⟨hr,rfl,_⟩
  simp only at hr
  subst hr
  exact am h
end
theorem CI{w:World}{K:Type}[DecidableEq K]{knd:KeyKind prog w K}(f:Nat){ks:List K}{Q:Bool->Shared->Prop}(hk:IsTupleKey knd s.heap ks a)(h:Q true s):wpAny #[17] A (eqIsQuiet (f+1) (.ref a)) Q E s:=by
 have hT:=hk.typeIs
 obtain⟨o,items,n,ho,_,hd,hi⟩:=hk
 unfold eqIsQuiet
 refine ac (fH hT F.slot_tuple_eq.lookup ?_)
 show wpAny _ _ (isInstance (.ref a) (.type "tuple") >>= _) _ _ s
 refine ac (gX hT i6 ?_)
 simp only[eB,bV,eR]
 refine ac (f_ ho hd ?_)
 refine ac ?_
 show wpAny _ _ (forIn items _ _) _ _ s
 rw[<- kt]
 refine gW _ (fun rest r s'=>r.1=none/\s'=s/\∀v∈rest,carriedByValue v=true) _ ?_ ?_ _ _ ⟨rfl,rfl,hi.byValue⟩
 ·rintro v rest r s' ⟨hr,rfl,mS⟩
  rw[eqIsQuiet_byValue _ (mS v aM)]
  refine ac (am ?_)
  simp only[eB,bV,eR]
  exact am ⟨rfl,rfl,fun u hu'=>mS u (ay _ hu')⟩
 ·rintro⟨r1,r2⟩ s' ⟨hr,rfl,_⟩
  simp only at hr
  subst hr
  exact am h
def kind{w:World}{K1 K:Type}[DecidableEq K1][DecidableEq K](knd:KeyKind prog w K1)(kd:KeyKind prog w K):HeapKind prog w (K1×List K) where
 is:=Is knd (tupleKind kd)
 hash:=hash knd (tupleKind kd)
 draws:=fun k=>1+(k.2.length+1)+1
 room:=fun A=>A.units+1<cLine
 inj:=fun hx hy=>hx.inj hy
 keeps:=fun x ho hd hs=>x.keeps ho hd hs
 pyHash:=fun hu hk h=>pyHash (Nat.lt_of_succ_lt hu) hu hk h
 eqBool:=fun hu hx hy h=>eqBool (Nat.lt_of_succ_lt hu) hu hx hy h
 quiet:=fun hk h=>quiet (fun hb hq=>CI 6 hb hq) hk h
section
variable{w:World}{K:Type}[DecidableEq K]{knd:HeapKind prog w K}
theorem zU{d:Addr}{xs:List (K×Addr×Value)}{k:K}{dflt:Value}(hu:knd.room A)(rD:knd.is s.heap k a)(hm:s.heap.DictOfH knd d xs)
  (AD:∀p,atKey xs k=some p->Q p.2 { s with toks:=s.toks+knd.draws k })
  (qL:atKey xs k=none->∀h',h'.DictOfH knd d (xs++[(k,a,dflt)])->Heap.SameBut d s.heap h'->Q dflt { s with heap:=h',toks:=s.toks+knd.draws k })
  (hsz:xs.length<=sizeLine):wpAny #[17] A (dictSetDefault d (.ref a) dflt) Q E s:=by
 obtain⟨o,es,ep,ho,hc,hd,he,vG,hn⟩:=hm
 unfold dictSetDefault
 try with_reducible refine bZ ?_
 refine ac (knd.pyHash hu rD ?_)
 refine ac (wpAny_dictFind_heap (s:={ s with toks:=s.toks+knd.draws k }) hu rD ho hd he vG hn ?_ ?_)
 ·intro hno
  have hnot:k∉xs.map (·.1):=not_mem_keys_of_get hno
  refine ac (iz (ac (wpAny_updateDictKeys (hz:=by have e:=size_of_entries he;omega) (s:={ s with toks:=s.toks+knd.draws k }) ho hd (am (qL (atKey_none_of_get hno) _ ⟨_,_,ep+1,gr _ ho (Obj.isFreed_of_dict (gN hd _)),
   hc.mapDictKeys _,gN hd _,?_,?_,?_⟩ (b8 ..))))))
  ·simp[he,entryOfKey]
  ·intro x hx
   rcases a6.mp hx with hx|hx
   ·exact knd.keeps (vG x hx) ho hd (b8 ..)
   ·simp only[bj]at hx
    subst hx
    exact knd.keeps rD ho hd (b8 ..)
  ·rw[cF,c_]
   refine⟨hn,by simp,?_⟩
   intro x hx y hy
   simp only[aF,dH,bj]at hy
   subst hy
   exact fun e=>hnot (e▸hx)
 ·intro j p hj
  refine ac (gE (s:={ s with toks:=s.toks+knd.draws k }) ho hd ?_)
  rw[entry_at he j,hj]
  exact ac (iz (am (AD p (atKey_of_get hn hj))))
theorem meets_setdefault(d a:Addr)(hd:(d==sysModules)=false)(dflt:Value) :
  MeetsIn prog w (Builtin.«dict.setdefault» ⟨[.ref d,.ref a,dflt],[]⟩) (fun A R s=>knd.room A.in1/\∃k xs,knd.is s.heap k a/\s.heap.DictOfH knd d xs/\xs.length<=sizeLine /\
   (∀p,atKey xs k=some p->R (.ok (.ret p.2)) { s with toks:=s.toks+knd.draws k }) /\
   (atKey xs k=none->∀h',h'.DictOfH knd d (xs++[(k,a,dflt)])->Heap.SameBut d s.heap h'->R (.ok (.ret dflt)) { s with heap:=h',toks:=s.toks+knd.draws k })):=
 .of_wp fun A R s zq=>by
  obtain⟨hu,k,xs,rD,hm,hz,h1,h2⟩:=zq
  unfold Builtin.«dict.setdefault»
  refine ac ?_
  unfold Builtin.Dict.keyAndDefault
  refine ac (i7 hm.typeIs ?_)
  show wpAny _ _ (pure (d,Value.ref a,some dflt)) _ _ s
  refine am ?_
  show wpAny _ _ (if (d==sysModules)=true then _ else(dictSetDefault d (.ref a) dflt >>= _)) _ _ s
  rw[aC (by rw[hd];exact bC)]
  exact ac (zU hu rD hm (fun p hp=>am ⟨p.2,rfl,h1 p hp⟩) (fun hn h' hm' hs'=>am ⟨dflt,rfl,h2 hn h' hm' hs'⟩) hz)
end
end PK
namespace L2
open PySem PySem.Spec PyProof.Rows
section
variable{w:World}{es:List DictEntry}
theorem P0(ok:kC P w H h)(e:H a=some (JU a es)):DX a es h:=(show eD P w H h a (.ext (DX a es))from ok a _ e).1
theorem zV(d:DX a es h):eD P w H h a (JU a es):=by
 refine⟨d,?_,fun h1 h2 ⟨o,ep,e,x,y⟩ k=>⟨o,ep,k o e,x,y⟩⟩
 obtain⟨o,ep,e,_⟩:=d
 exact⟨o,e⟩
theorem Mr(ok:kC P w H h)(e:H a=some (.dK [])):DX a [] h/\(a==sysModules)=false:=by
 obtain⟨_,hd,vs,jq,dd⟩:=AJ ok e
 cases jq
 obtain⟨o,es,ep,h1,h2,h3,_,h4,_⟩:=dd
 refine⟨⟨o,ep,h1,h2,?_⟩,hd⟩
 rw[h3]
 have:es.toList=[]:=by
  cases hh:es.toList with
  |nil=>rfl
  |cons x l=>rw[hh]at h4;cases h4
 rw[show es=[].toArray from by apply Array.ext';rw[this]]
theorem ID(d:DX a es h)(q:Str):JU a es≠iW a q:=fun z=>by
 injection z with z
 have:=congrFun z h
 have c:∃o vs t,h.get? a=some o/\o.data=.fields vs/\vs[1]?=some (.str q t):=this▸d
 obtain⟨o,ep,e,_,y⟩:=d
 obtain⟨o',vs,t,e',y',_⟩:=c
 rw[e]at e';cases e'
 rw[y]at y';cases y'
end
section
variable{K:Type}[DecidableEq K]{knd:HeapKind X.prog X.w K}{xs:List (K×Addr×Value)}{k:K}
noncomputable abbrev ye(knd:HeapKind X.prog X.w K)(xs:List (K×Addr×Value)):List DictEntry:=xs.map (entryOfKey knd)
theorem Ba(d:DX a (ye knd xs) s.heap)(vG:∀x∈xs,knd.is s.heap x.1 x.2.1)(hn:(xs.map (·.1)).Nodup):s.heap.DictOfH knd a xs:=by
 obtain⟨o,ep,h1,h2,h3⟩:=d
 exact⟨o,_,ep,h1,h2,h3,by simp,vG,hn⟩
theorem Bb{ys:List (K×Addr×Value)}(d:h'.DictOfH knd a ys):DX a (ye knd ys) h':=by
 obtain⟨o,es,ep,h1,h2,h3,h4,_⟩:=d
 refine⟨o,ep,h1,h2,?_⟩
 rw[h3,show es=(ye knd ys).toArray from by apply Array.ext';rw[h4]]
structure XD(knd:HeapKind X.prog X.w K)(H:Hp)(s:Shared)(a:Addr)(xs:List (K×Addr×Value)):Prop where
 d:DX a (ye knd xs) s.heap
 is:∀x∈xs,knd.is s.heap x.1 x.2.1
 nd:(xs.map (·.1)).Nodup
 sm:(a==sysModules)=false
 z:xs.length<=sizeLine
 mu:Le (H a)
theorem P1(hu:knd.room A.in1)(I:bw X pins σ H s)(x:XD knd H s a xs)(hk:knd.is s.heap k b){p:Addr×Value}(hp:atKey xs k=some p)(h:∀s',bw X pins σ H s'->Q p.2 s'):wpAny #[2] A (getItem (.ref a) (.ref b)) Q E s:=
 wpAny_getItem_heap hu hk (Ba x.d x.is x.nd) hp (h _ (I.tok _))
theorem IE(hu:knd.room A.in1)(I:bw X pins σ H s)(x:XD knd H s a xs)(hk:knd.is s.heap k b)(h:∀s',bw X pins σ H s'->Q (.bool (!(atKey xs k).isSome)) s'):wpAny #[2] A (compareOp .NotIn (.ref b) (.ref a)) Q E s:=
 wpAny_notIn_heap hu hk x.sm (Ba x.d x.is x.nd) (h _ (I.tok _))
theorem P2{Q:Unit->Shared->Prop}(hu:knd.room A.in1)(I:bw X pins σ H s)(x:XD knd H s a xs)(hk:knd.is s.heap k b)(h:∀s',bw X pins σ (eW H a (JU a (ye knd (storedH xs k b v)))) s'->Q () s'):wpAny #[2] A (setItem (.ref a) (.ref b) v) Q E s:=by
 refine wpAny_setItem_heap (hsz:=x.z) hu hk (Ba x.d x.is x.nd) fun h' dd hs=>h _ ?_
 have d:=Bb dd
 exact l5 I x.mu hs (let ⟨q,_,hq,_⟩:=d;⟨q,hq⟩) (zV d)
end
theorem sW:∀{ws:List W} {l:List Int},fy ws=some l->ws=l.map W.int
 |[],l,h=>by simp only[fy]at h;cases h;rfl
 |w::ws,l,h=>by
  cases w with
  |int z=>
   unfold fy at h
   cases e:fy ws with
   |none=>rw[e]at h;cases h
   |some r=>
    rw[e]at h
    cases h
    rw[sW e];rfl
  |_=>unfold fy at h;cases h
def k_:W->Option KX
 |.bl b=>some (.bo b)
 |.tup ws=>(match fy ws,ws with
  |some ks,_=>some (.fl ks)
  |none,[.int i,.tup vs]=>(fy vs).map (KX.pr i)
  |_,_=>none)
 |_=>none
theorem wc{w:W}{k:KX}(h:k_ w=some k):w=k.w:=by
 cases w with
 |bl b=>cases h;rfl
 |tup ws=>
  simp only[k_]at h
  cases e:fy ws with
  |some ks=>rw[e]at h;cases h;show _=W.tup _;rw[sW e]
  |none=>
   rw[e]at h
   split at h
   ·rename_i z
    cases z
   ·rename_i i vs e2
    cases e3:fy vs with
    |none=>rw[e3]at h;cases h
    |some ks=>rw[e3]at h;cases h;show _=W.tup [_,.tup _];rw[sW e3]
   ·cases h
 |_=>cases h
structure HV(X:Cx)(K:Type)[DecidableEq K] where
 knd:HeapKind X.prog X.w K
 em:K->KX
 inj:∀{a b:K},em a=em b->a=b
 hash:∀k,(em k).hash=knd.hash k
 is:∀{pins:List (Addr×Obj)} {σ:St} {H:Hp} {s:Shared} {μ:List Addr} {k:K} {v:V} {u:Value},bw X pins σ H s->be X.K μ H (em k).w v->bN v u->∃b,u=.ref b/\knd.is s.heap k b
 room:∀{A:Around},A.units+2<cLine->knd.room A.in1
theorem items_int{w:World}:∀{ks:List Int} {bJ:List Value},cH (ks.map V.int) bJ->ItemsAre (intKind P w) ks bJ
 |[],_,r=>by cases r;exact .nil
 |k::ks,_,r=>by
  cases r with
  |cons h t=>
   obtain⟨q,rfl⟩:=h
   exact .cons (by simp[intKind,Value.isInt]) (items_int t)
theorem ED:∀{ks:List Int} {vs:List V},RelWs K μ H (ks.map W.int) vs->vs=ks.map V.int
 |[],vs,r=>r.nilE
 |k::ks,vs,r=>by
  obtain⟨x,xs,rfl,a,b⟩:=r.consE
  rw[a.intE,ED b];rfl
theorem EE{ks:List Int}{v:V}(I:bw X pins σ H s)(r:be X.K μ H (.tup (ks.map W.int)) v)(ru:bN v u):∃b,u=.ref b/\IsTupleKey (intKind X.prog X.w) s.heap ks b:=by
 obtain⟨p,vs,rfl,hS,q⟩:=r.tupE
 cases ru
 rw[ED q]at hS
 obtain⟨bJ,r,⟨o,ho,hc,n,hd⟩,_⟩:=I.tuple hS
 exact⟨p,rfl,o,bJ.toArray,n,ho,hc,hd,items_int r⟩
def RW(X:Cx):HV X (List Int) where
 knd:=tupleKind (intKind X.prog X.w)
 em:=KX.fl
 inj:=fun h=>by injection h
 hash:=fun k=>rfl
 is:=fun I r ru=>EE I r ru
 room:=fun{A} h=>by show A.units+1<cLine;omega
def RX(X:Cx):HV X (Int×List Int) where
 knd:=PK.kind (intKind X.prog X.w) (intKind X.prog X.w)
 em:=fun k=>.pr k.1 k.2
 inj:=fun{a b} h=>by injection h with h1 h2;exact Prod.ext h1 h2
 hash:=fun k=>rfl
 is:=fun{pins σ H s μ k v u} I r ru=>by
  obtain⟨p,vs,rfl,hS,q⟩:=be.tupE r
  cases ru
  obtain⟨x,xs,rfl,a,b⟩:=q.consE
  obtain⟨y,ys,rfl,c,d⟩:=b.consE
  have:=d.nilE;subst this
  cases a.intE
  obtain⟨bJ,r',⟨o,ho,hc,n,hd⟩,_⟩:=I.tuple hS
  obtain⟨u1,us,rfl,r1,r2⟩:∃u1 us,bJ=u1::us/\bN (.int k.1) u1/\cH [y] us:=by cases r' with|cons h t=>exact⟨_,_,rfl,h,t⟩
  obtain⟨u2,rfl,r3⟩:∃u2,us=[u2]/\bN y u2:=by
   cases r2 with
   |cons h t=>cases t;exact⟨_,rfl,h⟩
  obtain⟨b,rfl,hb⟩:=EE I c r3
  obtain⟨t,rfl⟩:=r1
  exact⟨p,rfl,o,_,b,n,ho,hc,hd,by simp[intKind,Value.isInt],hb⟩
 room:=fun{A} h=>by show A.units+1+1<cLine;omega
noncomputable def gR(kvs:List (KX×W))(k:KX):Option W:=(kvs.find? fun p=>decide (p.1=k)).map fun p=>p.2
def n5(kvs:List (KX×W))(k:KX)(v:W):List (KX×W):=if (gR kvs k).isSome=true then kvs.map fun p=>if p.1=k then(p.1,v)else p else kvs++[(k,v)]
section
variable{K:Type}[DecidableEq K](G:HV X K)
def Vw(μ:List Addr)(H:Hp):List (KX×W)->List (K×Addr×Value)->Prop:=Paired fun p x=>p.1=G.em x.1/\be X.K μ H p.1.w (.ref x.2.1)/\∃v,be X.K μ H p.2 v/\bN v x.2.2
theorem sX{v:V}(h:bN v (.ref b)):v=.ref b:=by
 cases v with
 |ref a=>cases h;rfl
 |non=>cases h
 |bl _=>cases h
 |ty _=>cases h
 |int _=>obtain⟨_,h⟩:=h;cases h
 |str _=>obtain⟨_,h⟩:=h;cases h
 |byt _=>obtain⟨_,h⟩:=h;cases h
 |flt _=>obtain⟨_,h⟩:=h;cases h
theorem Bc(I:bw X pins σ H s):∀{kvs:List (KX×W)} {es:List DictEntry},Paired (pB X.K μ H) kvs es->(∀p∈kvs,∃k,p.1=G.em k)->∃xs,es=ye G.knd xs/\Vw G μ H kvs xs/\∀x∈xs,G.knd.is s.heap x.1 x.2.1
 |_,_,.nil,_=>⟨[],rfl,.nil,fun x hx=>by cases hx⟩
 |_,_,.cons (a:=p) (b:=e) r t,hk=>by
  obtain⟨xs,e1,vw,vG⟩:=Bc I t fun p hp=>hk p (ay _ hp)
  obtain⟨k,hpk⟩:=hk p (aM ..)
  obtain⟨hh,⟨v,rk,rv⟩,u,ru,kQ⟩:=r
  obtain⟨b,hb,hi⟩:=G.is (k:=k) I (by rw[<- hpk];exact rk) rv
  have ev:v=.ref b:=sX (by rw[<- hb];exact rv)
  subst ev
  refine⟨(k,b,e.val)::xs,?_,.cons ⟨hpk,rk,u,ru,kQ⟩ vw,fun x hx=>?_⟩
  ·rw[e1]
   show e::_=entryOfKey G.knd (k,b,e.val)::_
   congr 1
   obtain⟨eh,ek,ev⟩:=e
   simp only at hh hb
   subst hb
   rw[hh,hpk,G.hash];rfl
  ·rcases aK.mp hx with rfl|hx
   ·exact hi
   ·exact vG x hx
variable{G}
theorem nP:∀{kvs:List (KX×W)} {xs:List (K×Addr×Value)} (k:K),Vw G μ H kvs xs->(∃w p v,gR kvs (G.em k)=some w/\atKey xs k=some p/\be X.K μ H w v/\bN v p.2)\/(gR kvs (G.em k)=none/\atKey xs k=none)
 |_,_,k,.nil=>.inr ⟨rfl,rfl⟩
 |_,_,k,.cons (a:=p) (b:=x) (l₁:=kvs) (l₂:=xs) ⟨h1,_,v,h3,h4⟩ t=>by
  by_cases e:x.1=k
  ·refine .inl ⟨p.2,x.2,v,?_,?_,h3,h4⟩
   ·unfold gR;rw[bH];simp[h1,e]
   ·unfold atKey;rw[bH];simp[e]
  ·have e2:p.1≠G.em k:=fun z=>e (G.inj (h1.symm.trans z))
   have a1:gR (p::kvs) (G.em k)=gR kvs (G.em k):=by unfold gR;rw[bH];simp[e2]
   have a2:atKey (x::xs) k=atKey xs k:=by unfold atKey;rw[bH];simp[e]
   rw[a1,a2]
   exact nP k t
theorem u3:∀{kvs:List (KX×W)} {xs:List (K×Addr×Value)},Vw G μ H kvs xs->kvs.map (fun p=>p.1)=(xs.map (·.1)).map G.em
 |_,_,.nil=>rfl
 |_,_,.cons ⟨h1,_⟩ t=>by
  simp only[aF]
  rw[h1,u3 t]
theorem u4:∀{kvs:List (KX×W)} {xs:List (K×Addr×Value)},Vw G μ H kvs xs->Paired (pB X.K μ H) kvs (ye G.knd xs)
 |_,_,.nil=>.nil
 |_,_,.cons ⟨h1,h2,h3⟩ t=>.cons ⟨by rw[h1,G.hash];rfl,⟨_,h2,rfl⟩,h3⟩ (u4 t)
theorem yf{k:K}{w:W}{v:V}(kQ:be X.K μ H w v)(ru:bN v u):∀{kvs:List (KX×W)} {xs:List (K×Addr×Value)},Vw G μ H kvs xs->Vw G μ H (kvs.map fun p=>if p.1=G.em k then(p.1,w)else p) (xs.map (putAt k u))
 |_,_,.nil=>.nil
 |_,_,.cons (a:=p) (b:=x) ⟨h1,h2,h3⟩ t=>by
  refine .cons ?_ (yf kQ ru t)
  by_cases e:x.1=k
  ·simp only[]
   rw[aw (by rw[h1,e])]
   unfold putAt
   rw[aw e]
   exact⟨h1,h2,v,kQ,ru⟩
  ·simp only[]
   rw[aC fun z=>e (G.inj (h1.symm.trans z))]
   unfold putAt
   rw[aC e]
   exact⟨h1,h2,h3⟩
theorem EF{k:K}{w:W}{v:V}{xs:List (K×Addr×Value)}(vw:Vw G μ H kvs xs)(rk:be X.K μ H (G.em k).w (.ref b))(kQ:be X.K μ H w v)(ru:bN v u):Vw G μ H (n5 kvs (G.em k) w) (storedH xs k b u):=by
 unfold n5 storedH
 rcases nP (G:=G) k vw with⟨w',p,v',e1,e2,_⟩|⟨e1,e2⟩
 ·rw[e1,e2]
  exact yf kQ ru vw
 ·rw[e1,e2]
  simp only[Option.isSome_none,bV,eR]
  exact Paired.snoc vw ⟨rfl,rk,v,kQ,ru⟩
end
noncomputable def KX.tag:KX->Nat
 |.bo _=>0
 |.fl _=>1
 |.pr _ _=>2
noncomputable def yg(kvs:List (KX×W))(k:KX):Bool:=decide (k.tag≠0)&&kvs.all fun p=>p.1.tag==k.tag
noncomputable def eO(st:List ah):W->Option (Nat×List (KX×W))
 |.loc n=>(match st[n]? with
  |some (.dcx kvs)=>some (n,kvs)
  |some (.dct [])=>some (n,[])
  |_=>none)
 |_=>none
section
variable{st:List ah}
structure Dc(X:Cx)(μ:List Addr)(H:Hp)(s:Shared)(st:List ah)(n:Nat)(kvs:List (KX×W))(a:Addr)(es:List DictEntry):Prop where
 m:μ[n]?=some a
 c:∃c,st[n]?=some c/\c.isRo=false
 o:∃o,H a=some o/\(∀q u,o≠.frz q u)/\∀q,o≠iW a q
 d:DX a es s.heap
 sm:(a==sysModules)=false
 p:Paired (pB X.K μ H) kvs es
 nd:(kvs.map fun p=>p.1).Nodup
 mu:Le (H a)
 sq:∀es',dC X.K H (eW H a (JU a es'))
theorem fO.butE{l:Addr}(e:Pa l H H')(hl:H l=some (.ext φ)):dC K H H':=by
 have lN:∀{p:Addr} {o:HO},H p=some o->(∀zs,o≠.ext zs)->p≠l:=fun{p o} q hn z=>by subst z;rw[hl]at q;cases q;exact hn _ rfl
 refine⟨fun p ys h=>?_,fun b o u h=>e _ _ (lN h #[13]) h⟩
 rcases h with(h|⟨o,h⟩)|h
 ·exact .inl (.inl (e _ _ (lN h #[13]) h))
 ·exact .inl (.inr ⟨o,e _ _ (lN h #[13]) h⟩)
 ·exact .inr h
theorem j0(I:bw X pins σ H s)(S:fW X.K X.mg μ st H){x:W}{v:V}(h:eO st x=some (n,kvs))(r:be X.K μ H x v):∃a es,v=.ref a/\Dc X μ H s st n kvs a es:=by
 cases x with
 |loc m=>
  simp only[eO]at h
  cases e:st[m]? with
  |none=>rw[e]at h;cases h
  |some c=>
   rw[e]at h
   cases c with
   |dcx z=>
    cases h
    obtain⟨a,g,es,k,hd,p,nd⟩:=S.get e
    obtain⟨b,f,rfl⟩:=r.locE
    rw[g]at f;cases f
    have d:=P0 I.hok k
    exact⟨a,es,rfl,g,⟨_,e,rfl⟩,⟨_,k,(fun _ _ z=>by cases z),ID d⟩,d,hd,p,nd,by rw[k];trivial,fun es'=>fO.butE gP k⟩
   |dct z=>
    cases z with
    |cons _ _=>cases h
    |nil=>
     cases h
     obtain⟨a,g,vs,k,rr⟩:=S.get e
     obtain⟨b,f,rfl⟩:=r.locE
     rw[g]at f;cases f
     have k:H a=some (.dK []):=k
     obtain⟨d,hd⟩:=Mr I.hok k
     exact⟨a,[],rfl,g,⟨_,e,rfl⟩,⟨_,k,(fun _ _ z=>by cases z),fun _ z=>by cases z⟩,d,hd,.nil,ku,by rw[k];trivial,fun es'=>fO.butD gP k⟩
   |_=>cases h
 |_=>cases h
theorem Bd{K:Type}[DecidableEq K](G:HV X K){es:List DictEntry}(I:bw X pins σ H s)(D:Dc X μ H s st n kvs a es)(hk:∀p∈kvs,∃k,p.1=G.em k)(hl:kvs.length<=sizeLine):∃xs,XD G.knd H s a xs/\Vw G μ H kvs xs:=by
 obtain⟨xs,e,vw,vG⟩:=Bc G I D.p hk
 have hn:(xs.map (·.1)).Nodup:=by
  have:=D.nd
  rw[u3 vw]at this
  exact(eL.mp this).imp fun h e=>h (cL _ e)
 exact⟨xs,⟨by rw[<- e];exact D.d,vG,hn,D.sm,by rw[<- Paired.length vw];exact hl,D.mu⟩,vw⟩
theorem EG{k:KX}(h:yg kvs k=true):(∃ks,k=.fl ks/\∀p∈kvs,∃q,p.1=(RW X).em q)\/∃i ks,k=.pr i ks/\∀p∈kvs,∃q,p.1=(RX X).em q:=by
 unfold yg at h
 rw[bA,d9]at h
 obtain⟨h0,h1⟩:=h
 cases k with
 |bo b=>simp[KX.tag]at h0
 |fl ks=>
  refine .inl ⟨ks,rfl,fun p hp=>?_⟩
  have:=h1 p hp
  cases e:p.1 with
  |fl q=>exact⟨q,rfl⟩
  |bo _=>rw[e]at this;simp[KX.tag]at this
  |pr _ _=>rw[e]at this;simp[KX.tag]at this
 |pr i ks=>
  refine .inr ⟨i,ks,rfl,fun p hp=>?_⟩
  have:=h1 p hp
  cases e:p.1 with
  |pr j q=>exact⟨(j,q),rfl⟩
  |bo _=>rw[e]at this;simp[KX.tag]at this
  |fl _=>rw[e]at this;simp[KX.tag]at this
def wd(kvs:List (KX×W))(k:KX):Bool:=yg kvs k&&decide (kvs.length<kE)
theorem Be{Pr:Prop}{es:List DictEntry}{k:KX}{v:V}(I:bw X pins σ H s)(D:Dc X μ H s st n kvs a es)(h:wd kvs k=true)(rk:be X.K μ H k.w v)(ru:bN v u)
  (hh:∀(K:Type) [DecidableEq K] (G:HV X K) (q:K) (b:Addr) (xs:List (K×Addr×Value)),k=G.em q->v=.ref b->u=.ref b->G.knd.is s.heap q b->XD G.knd H s a xs->Vw G μ H kvs xs->Pr):Pr:=by
 unfold wd at h
 rw[bA,bX]at h
 have hl:kvs.length<=sizeLine:=jx (dh h.2)
 rcases EG (X:=X) h.1 with⟨ks,rfl,hk⟩|⟨i,ks,rfl,hk⟩
 ·obtain⟨xs,xd,vw⟩:=Bd (RW X) I D hk hl
  obtain⟨b,rfl,hb⟩:=(RW X).is (k:=ks) I rk ru
  exact hh _ (RW X) ks b xs rfl (sX ru) rfl hb xd vw
 ·obtain⟨xs,xd,vw⟩:=Bd (RX X) I D hk hl
  obtain⟨b,rfl,hb⟩:=(RX X).is (k:=(i,ks)) I rk ru
  exact hh _ (RX X) (i,ks) b xs rfl (sX ru) rfl hb xd vw
def yh(Ao:Bool)(x y:W)(st:List ah):R W:=match eO st y,k_ x with
 |some (_,kvs),some k=>if wd kvs k=true then .ok (.bl (if Ao then !(gR kvs k).isSome else(gR kvs k).isSome)) st else .bad
 |_,_=>.bad
theorem Ms(Ao:Bool)(x y:W)(st:List ah):qr (yh Ao x y st):=by
 unfold yh
 split
 ·split<;>trivial
 ·trivial
theorem CJ{K:Type}[DecidableEq K]{G:HV X K}{xs:List (K×Addr×Value)}(k:K)(vw:Vw G μ H kvs xs):(atKey xs k).isSome=(gR kvs (G.em k)).isSome:=by
 rcases nP k vw with⟨w,p,v,e1,e2,_⟩|⟨e1,e2⟩<;>rw[e1,e2]<;>rfl
theorem sY(hr:fR kk X.A):pE X (compareOp .NotIn) (yh true):=⟨fun pins s σ H x y v u Q I rv ru zq=>by
 walk_at "3"
 unfold yh at q
 cases e:eO st wy with
 |none=>rw[e]at q;exact q.elim
 |some nk=>
  obtain⟨n,kvs⟩:=nk
  cases ek:k_ wx with
  |none=>rw[e,ek]at q;exact q.elim
  |some k=>
   rw[e,ek]at q
   simp only at q
   by_cases hx:wd kvs k=true
   ·rw[aw hx]at q
    obtain⟨a,es,rfl,D⟩:=j0 I S e ry
    obtain rfl:u=Value.ref a:=ru
    have:=wc ek
    subst this
    refine Be I D hx rx rv fun K inst G z b xs hk _ hb vG xd vw=>?_
    subst hb
    refine IE (G.room (by have:=hr.units;omega)) I xd vG fun s' I'=>?_
    rw[CJ z vw,<- hk]
    exact⟨.bl _,H,I',rfl,gH S q⟩
   ·rw[aC hx]at q;exact q.elim,Ms true⟩
end
theorem CK{k:KX}(h:gR kvs k=none):k∉kvs.map fun p=>p.1:=fun z=>by
 obtain⟨p,hp,e⟩:=al.mp z
 unfold gR at h
 rw[mD,iA]at h
 exact h p hp (br e)
theorem Bf(k:KX)(v:W)(h:(kvs.map fun p=>p.1).Nodup):((n5 kvs k v).map fun p=>p.1).Nodup:=by
 unfold n5
 by_cases z:(gR kvs k).isSome=true
 ·rw[aw z,aH]
  have:((fun p:KX×W=>p.1)∘fun p:KX×W=>if p.1=k then(p.1,v)else p)=fun p=>p.1:=by
   funext p
   show(if p.1=k then(p.1,v)else p).1=p.1
   split<;>rfl
  rw[this];exact h
 ·rw[aC z,cF,c_]
  have hn:gR kvs k=none:=by
   cases e:gR kvs k with
   |none=>rfl
   |some _=>rw[e]at z;exact(z rfl).elim
  refine⟨h,by simp,fun a ha b hb=>?_⟩
  have:b=k:=by simpa using hb
  subst this
  exact fun e=>CK hn (e▸ha)
def sZ(x i v:W)(st:List ah):Option (List ah):=match eO st x,k_ i with
 |some (n,kvs),some k=>if wd kvs k=true then some (st.set n (.dcx (n5 kvs k v)))else none
 |_,_=>none
section
theorem Dc.put{K:Type}[DecidableEq K]{G:HV X K}{st:List ah}{es:List DictEntry}(D:Dc X μ H s st n kvs a es)(S:fW X.K X.mg μ st H)
  {xs:List (K×Addr×Value)} {z:K} {b:Addr} {wv:W} {v:V} {u:Value} (vw:Vw G μ H kvs xs) (rk:be X.K μ H (G.em z).w (.ref b)) (rv:be X.K μ H wv v) (ru:bN v u) :
  fW X.K X.mg μ (st.set n (.dcx (n5 kvs (G.em z) wv))) (eW H a (JU a (ye G.knd (storedH xs z b u)))):=by
 obtain⟨c,hc,rB⟩:=D.c
 obtain⟨o,ho,hf,hg⟩:=D.o
 exact S.setG hc rB D.m ho hf hg (D.sq _) rfl ⟨_,dB,D.sm,Paired.imp' (fun _ _ q=>q.mono (af _) (D.sq _)) (u4 (EF vw rk rv ru)),Bf _ _ D.nd⟩
theorem EH(hr:fR kk X.A):Hy X (Eg X sZ):=fun pins s σ H o i v ov iv u Q I r1 r2 r3 zq=>by
 obtain⟨μ,st,wo,wi,wv,bL,S,ro,ri,rv,e,q⟩:=zq
 unfold sZ at e
 cases e1:eO st wo with
 |none=>rw[e1]at e;cases e
 |some nk=>
  obtain⟨n,kvs⟩:=nk
  cases e2:k_ wi with
  |none=>rw[e1,e2]at e;cases e
  |some k=>
   rw[e1,e2]at e
   simp only at e
   split at e
   ·rename_i hx
    cases e
    obtain⟨a,es,rfl,D⟩:=j0 I S e1 ro
    obtain rfl:ov=Value.ref a:=r1
    have:=wc e2
    subst this
    refine Be I D hx ri r2 fun K inst G z b xs hk hv hb vG xd vw=>?_
    subst hk;subst hv;subst hb
    refine P2 (G.room (by have:=hr.units;omega)) I xd vG fun s' I'=>⟨_,I',?_⟩
    exact q _ (D.sq _) (D.put S vw ri rv r3)
   ·cases e
def PX(X:Cx)(x y:V)(H:Hp)(Q:VK):Prop:=∃a,x=.ref a/\∀(pins:List (Addr×Obj)) (σ:St) (s:Shared) (u:Value) (E:Value->Shared->Prop) (Qv:Value->Shared->Prop),bw X pins σ H s->bN y u ->
 (∀v w' s',bw X pins σ H s'->bN v w'->Q v H->Qv w' s')->s.TypeIs (.ref a) "dict"/\wpAny #[2] X.A (getItem (.ref a) u) Qv E s
def P3(X:Cx)(td ty:TE):TE:=fun σ H Q=>td σ H fun x H1=>ty σ H1 fun y H2=>PX X x y H2 Q
theorem IF{o i:Expr}{td ty:TE}(ho:PE X o td)(hi:PE X i ty)(hs:DM i):PE X (.Subscript o i pos) (P3 X td ty):=by
 intro pins s σ H Q I h
 refine vQ PySem.F.slot_dict_getitem.lookup hs (gq (ho pins s σ H _ I h) fun u s1 ⟨x,H1,I1,rx,q1⟩=>gq (hi pins s1 σ H1 _ I1 q1) fun iv s2 zq=>?_)
 obtain⟨y,H2,I2,ry,a,ex,g⟩:=zq
 subst ex
 obtain rfl:u=Value.ref a:=rx
 exact g pins σ s2 iv _ _ I2 ry fun v w' s3 I3 kQ q2=>⟨v,H2,I3,kQ,q2⟩
theorem nQ{st:List ah}{es:List DictEntry}(D:Dc X μ H s st n kvs a es):s.TypeIs (.ref a) "dict":=by
 obtain⟨o,ep,h1,h2,_⟩:=D.d
 exact⟨o,h1,h2.1⟩
def Ue(X:Cx)(id:String)(x y z:V)(H:Hp)(Q:VK):Prop:=∃a,x=.ref a/\∀(pins:List (Addr×Obj)) (σ:St) (s:Shared) (u r:Value) (E:Value->Shared->Prop) (Qv:Value->Shared->Prop),bw X pins σ H s->bN y u->bN z r ->
 (∀v w' H' s',bw X pins σ H' s'->bN v w'->Q v H'->Qv w' s')->wpAny #[2] X.A (call (.builtin id) [.ref a,u,r]) Qv E s
def TZ(X:Cx)(x:V)(H:Hp):Prop:=∃a,x=.ref a/\∀(pins:List (Addr×Obj)) (σ:St) (s:Shared),bw X pins σ H s->s.TypeIs (.ref a) "dict"/\∀b,Value.ref a=.ref b->∃ob,s.heap.get? b=some ob/\ob.dict=none
def Mu(X:Cx)(id:String)(td ty tx:TE):TE:=fun σ H Q=>td σ H fun x H1=>TZ X x H1/\ty σ H1 fun y H2=>tx σ H2 fun z H3=>Ue X id x y z H3 Q
theorem EI{o f:Expr}{td ty tx:TE}(ho:PE X o td)(he:PE X e ty)(hf:PE X f tx)(m:M2 X o "setdefault" gi e f dF):PE X (.Call (.Attribute o "setdefault" gi) [e,f] [] dF) (Mu X "dict.setdefault" td ty tx):=by
 intro pins s σ H Q I h
 refine wpAny_Call_method m.base m.few m.line PySem.F.plainAttrs_dict PySem.F.slot_dict_setdefault PySem.F.type_dict_setdefault (gq (ho pins s σ H _ I h) fun u s1 zq=>?_)
 obtain⟨x,H1,I1,rx,⟨a,ex,d⟩,q1⟩:=zq
 subst ex
 obtain rfl:u=Value.ref a:=rx
 obtain⟨t1,t2⟩:=d pins σ s1 I1
 refine⟨t1,t2,?_⟩
 rw[m.trees]
 refine iP rfl (jr (iq (gq (he pins s1 σ H1 _ I1 q1) fun iv s2 ⟨y,H2,I2,ry,q2⟩=>
  iq (gq (hf pins s2 σ H2 _ I2 q2) fun fv s3 ⟨z,H3,I3,rz,a',ea,g⟩=>kR ?_))))
 cases ea
 exact g pins σ s3 iv fv _ _ I3 ry rz fun v w' H' s4 I4 kQ q3=>⟨v,H',I4,kQ,q3⟩
theorem zX{st:List ah}{x:W}{v:V}{nk:Nat×List (KX×W)}(S:fW X.K X.mg μ st H)(e:eO st x=some nk)(r:be X.K μ H x v):TZ X v H:=by
 have⟨a,ea,_⟩:∃a,v=.ref a/\True:=by
  cases x with
  |loc m=>obtain⟨a,_,e⟩:=r.locE;exact⟨a,e,trivial⟩
  |_=>simp only[eO]at e;cases e
 subst ea
 refine⟨a,rfl,fun pins σ s I=>?_⟩
 obtain⟨a',es,ea,D⟩:=j0 I S (n:=nk.1) (kvs:=nk.2) e r
 cases ea
 refine⟨nQ D,fun b hb=>?_⟩
 cases hb
 obtain⟨o,ep,h1,h2,_⟩:=D.d
 exact⟨o,h1,h2.2.1⟩
end
end L2
namespace PK
open PySem
section
variable{w:World}
theorem CL{b:Bool}{Q:Int->Shared->Prop}(h:Q (hashInt (if b then 1 else 0)) { s with toks:=s.toks+1 }):wpAny #[17] A (PySem.pyHash (.bool b)) Q E s:=by
 have hr:=rawHash_range (if b then 1 else 0)
 unfold PySem.pyHash
 have hv:[Value.bool b].any Value.onHeap=false:=rfl
 refine ac ?_
 rw[cRoomFor,aC (by rw[hv];exact bC)];refine am ?_
 refine ac (fH (typeIs_bool s b) F.slot_bool_hash.lookup ?_)
 show wpAny _ _ (if (some (Value.builtin "int.__hash__")==some Value.none)=true then _ else _) Q E s
 rw[aC (by rw[beq_builtin_none];exact bC)]
 refine ac (fH (typeIs_bool s b) F.slot_bool_hash.lookup ?_)
 show wpAny _ _ (callSpecialIfBoundUnlessNone? (.bool b) "__hash__" _ >>= _) Q E s
 refine ac (gu (typeIs_bool s b) F.slot_bool_hash
  (cA F.slot_bool_hash (typeIs_bool s b) entry_int_hash
   (show wpAny _ _ (do ret (<- mkInt (rawHash (if b then 1 else 0)))) _ _ s from mP ?_) (args_int_hash _)))
 show wpAny _ _ (if (decide (-(2:Int)^63<=rawHash (if b then 1 else 0))&&decide (rawHash (if b then 1 else 0)<2^63))=true then _ else _) Q E _
 rw[aw (by rw[br hr.1,br hr.2];rfl)]
 exact am h
end
noncomputable def isBool:Bool->Value->Bool
 |b,.bool c=>b==c
 |_,_=>false
theorem gS           {b:Bool}  (h : isBool b v = true) : v = .bool b := by
  cases v with
  | bool c => have : b = c := by simpa [isBool] using h
              rw [this]
  | _ => cases h
def boolKind(prog:Program)(w:World):KeyKind prog w Bool where
 is:=isBool
 hash:=fun b=>hashInt (if b then 1 else 0)
 inj:=fun v a b ha hb=>by
  have h1:=gS ha
  have h2:=gS hb
  rw[h1]at h2
  injection h2
 byValue:=fun k v h=>by rw[gS h];rfl
 pyHash:=fun hv h=>by rw[gS hv];exact CL h
 eqBool:=fun{A E s a b u v Q} hu hv h=>by
  rw[gS hu,gS hv]
  have:decide (a=b)=(a==b):=by cases a<;>cases b<;>rfl
  rw[this]at h
  exact SeqAt.EqAt.bool_bool a b _ _ _ _ h
 «strs»:=fun k x t v h=>by cases h
end PK
namespace L2
open PySem PySem.Spec PyProof.Rows
section
variable{w:World}{K:Type}[DecidableEq K]{knd:KeyKind prog w K}{es:List DictEntry}{k:K}{key dflt:Value}
theorem IG(rD:knd.is k key=true)(d:DX a es s.heap)(hk:KeysOf knd es.toArray)
  (AD:∀e,(es.find? fun e=>knd.is k e.key)=some e->Q e.val { s with toks:=s.toks+1 })
  (qL:(es.find? fun e=>knd.is k e.key)=none->∀h',DX a (es++[⟨knd.hash k,key,dflt⟩]) h'->Heap.SameBut a s.heap h'->Q dflt { s with heap:=h',toks:=s.toks+1 })
  (hz:es.length<=sizeLine):wpAny #[17] A (dictSetDefault a key dflt) Q E s:=by
 obtain⟨o,ep,ho,hc,hd⟩:=d
 unfold dictSetDefault
 try with_reducible refine bZ ?_
 refine ac (knd.pyHash rD ?_)
 refine ac (wpAny_dictFind_of (s:={ s with toks:=s.toks+1 }) rD ho hd hk ?_)
 have ef:(es.toArray.find? fun e=>knd.is k e.key)=es.find? fun e=>knd.is k e.key:=by simp
 cases hi:es.toArray.findIdx? fun e=>knd.is k e.key with
 |some i=>
  refine ac (gE (s:={ s with toks:=s.toks+1 }) ho hd ?_)
  have ju:i<es.toArray.size:=(Array.findIdx?_eq_some_iff_findIdx_eq.mp hi).1
  rw[kH ju]
  have hfi:(es.find? fun e=>knd.is k e.key)=some es.toArray[i]:=by
   have h1:es.findIdx? (fun e=>knd.is k e.key)=some i:=by rw[<- mX];exact hi
   obtain⟨h2,h3,h4⟩:=List.findIdx?_eq_some_iff_getElem.mp h1
   rw[List.find?_eq_some_iff_getElem]
   exact⟨h3,i,h2,by simp,fun j hj=>by simpa using h4 j hj⟩
  exact ac (iz (am (AD _ hfi)))
 |none=>
  have zo:(es.find? fun e=>knd.is k e.key)=none:=by
   have h1:es.findIdx? (fun e=>knd.is k e.key)=none:=by rw[<- mX];exact hi
   rw[iA]
   intro x hx
   have:=kI.mp h1 x hx
   simpa using this
  refine ac (iz (ac (wpAny_updateDictKeys (hz:=by simpa using hz) (s:={ s with toks:=s.toks+1 }) ho hd (am (qL zo _ ⟨_,ep+1,gr _ ho (Obj.isFreed_of_dict (gN hd _)),hc.mapDictKeys _,?_⟩ (b8 ..))))))
  rw[gN hd]
  congr 1
  simp
theorem zY(rD:knd.is k key=true)(hd:(a==sysModules)=false) :
  MeetsIn prog w (Builtin.«dict.setdefault» ⟨[.ref a,key,dflt],[]⟩) (fun _ R s=>∃es,DX a es s.heap/\KeysOf knd es.toArray/\es.length<=sizeLine /\
   (∀e,(es.find? fun e=>knd.is k e.key)=some e->R (.ok (.ret e.val)) { s with toks:=s.toks+1 }) /\
   ((es.find? fun e=>knd.is k e.key)=none->∀h',DX a (es++[⟨knd.hash k,key,dflt⟩]) h'->Heap.SameBut a s.heap h'->R (.ok (.ret dflt)) { s with heap:=h',toks:=s.toks+1 })):=
 .of_wp fun A R s zq=>by
  obtain⟨es,d,hk,hz,h1,h2⟩:=zq
  have ht:s.TypeIs (.ref a) "dict":=let ⟨o,ep,e,c,_⟩:=d;⟨o,e,c.1⟩
  unfold Builtin.«dict.setdefault»
  refine ac ?_
  unfold Builtin.Dict.keyAndDefault
  refine ac (i7 ht ?_)
  show wpAny _ _ (pure (a,key,some dflt)) _ _ s
  refine am ?_
  show wpAny _ _ (if (a==sysModules)=true then _ else(dictSetDefault a key dflt >>= _)) _ _ s
  rw[aC (by rw[hd];exact bC)]
  exact ac (IG rD d hk (fun e he=>am ⟨e.val,rfl,h1 e he⟩) (fun hn h' d' hs=>am ⟨dflt,rfl,h2 hn h' d' hs⟩) hz)
end
section
def EJ(kvs:List (KX×W))(k:KX):Bool:=decide (k.tag=0)&&(kvs.all fun p=>p.1.tag==0)&&decide (kvs.length<kE)
theorem zZ:∀{kvs:List (KX×W)} {es:List DictEntry},Paired (pB X.K μ H) kvs es->(kvs.all fun p=>p.1.tag==0)=true->∀e∈es,∃b,(PK.boolKind X.prog X.w).is b e.key=true/\e.hash=(PK.boolKind X.prog X.w).hash b
 |_,_,.nil,_=>fun e he=>by cases he
 |_,_,.cons (a:=p) (b:=e) r t,h=>fun e' he=>by
  rw[lj,bA]at h
  rcases aK.mp he with rfl|he
  ·obtain⟨hh,⟨v,rk,rv⟩,_⟩:=r
   obtain⟨pk,pw⟩:=p
   cases pk with
   |bo b=>
    cases be.blE rk
    have hk:_=Value.bool b:=rv
    exact⟨b,by rw[hk];simp[PK.boolKind,PK.isBool],hh⟩
   |fl _=>simp[KX.tag]at h
   |pr _ _=>simp[KX.tag]at h
  ·exact zZ t h.2 e' he
theorem we(b:Bool):∀{kvs:List (KX×W)} {es:List DictEntry},Paired (pB X.K μ H) kvs es->(kvs.all fun p=>p.1.tag==0)=true ->
  (∃w e v,gR kvs (.bo b)=some w/\(es.find? fun e=>(PK.boolKind X.prog X.w).is b e.key)=some e/\be X.K μ H w v/\bN v e.val)\/(gR kvs (.bo b)=none/\(es.find? fun e=>(PK.boolKind X.prog X.w).is b e.key)=none)
 |_,_,.nil,_=>.inr ⟨rfl,rfl⟩
 |_,_,.cons (a:=p) (b:=e) (l₁:=kvs) (l₂:=es) r t,h=>by
  rw[lj,bA]at h
  obtain⟨hh,⟨v,rk,rv⟩,u,ru,kQ⟩:=r
  obtain⟨pk,pw⟩:=p
  cases pk with
  |bo c=>
   cases be.blE rk
   have hek:e.key=.bool c:=rv
   by_cases z:c=b
   ·subst z
    refine .inl ⟨pw,e,u,?_,?_,ru,kQ⟩
    ·unfold gR;rw[bH];simp
    ·rw[bH,hek];simp[PK.boolKind,PK.isBool]
   ·have a1:gR ((KX.bo c,pw)::kvs) (.bo b)=gR kvs (.bo b):=by unfold gR;rw[bH];simp[z]
    have a2:((e::es).find? fun e=>(PK.boolKind X.prog X.w).is b e.key)=es.find? fun e=>(PK.boolKind X.prog X.w).is b e.key:=by
     rw[bH,hek,show(PK.boolKind X.prog X.w).is b (.bool c)=false by simp[PK.boolKind,PK.isBool,Ne.symm z]]
    rw[a1,a2]
    exact we b t h.2
  |fl _=>simp[KX.tag]at h
  |pr _ _=>simp[KX.tag]at h
end
section
variable{w:World}{es:List DictEntry}
theorem wf(hd:(a==sysModules)=false):MeetsIn prog w (Builtin.«dict.__len__» ⟨[.ref a],[]⟩) (fun _ R s=>∃es,DX a es s.heap/\R (.ok (.ret (.int es.length s.toks))) { s with toks:=s.toks+1 }):=
 .of_wp fun A R s zq=>by
  obtain⟨es,⟨o,ep,ho,hc,hdat⟩,h⟩:=zq
  show wpAny _ _ (dictSize a >>= _) _ _ s
  unfold dictSize
  refine ac (ac (gE ho hdat (am ?_)))
  show wpAny _ _ (Builtin.Dict.pendingCount a >>= _) _ _ s
  refine ac (wpAny_pendingCount_other hd ?_)
  refine mP ?_
  rw[jP,aO];exact h
theorem yi(hd:(a==sysModules)=false)(d:DX a es s.heap)(Uq:(es.length:Int)<2^63)(h:Q (.int es.length (s.toks+1)) { s with toks:=s.toks+1+1 }):wpAny #[17] A (call (.builtin "len") [.ref a]) Q E s:=by
 have ht:s.TypeIs (.ref a) "dict":=let ⟨o,ep,e,c,_⟩:=d;⟨o,e,c.1⟩
 refine gZ kind_len plain_len entry_len (args_len1 _) ?_
 unfold Builtin.«len»
 refine ac (m:=oneArg "len" _) (am ?_)
 refine ac (m:=callSpecial? (.ref a) (Str.ofString "__len__")) (cN (name:=Str.ofString "__len__") ht F.slot_dict_len
  (mv F.slot_dict_len ht F.entry_dict_len (F.args_dict_len_1 _) (wf hd) ⟨es,d,?_⟩))
 show wpAny _ _ _ _ _ { s with toks:=s.toks+1 }
 refine ac (bZ (am ?_))
 refine ac (kU ?_)
 show wpAny _ _ (if ((es.length:Nat):Int)<0 then _ else _) _ _ _
 rw[aC #[0]]
 show wpAny _ _ (if ((es.length:Nat):Int)≥2^63 then _ else _) _ _ _
 rw[aC #[0]]
 exact ac (wpAny_mkInt (am ⟨_,rfl,h⟩))
end
section
theorem P4{st:List ah}{es:List DictEntry}(D:Dc X μ H s st n kvs a es)(h:(kvs.all fun p=>p.1.tag==0)=true):s.heap.MapOf (PK.boolKind X.prog X.w) a (findBy (PK.boolKind X.prog X.w).is es.toArray):=by
 obtain⟨o,ep,h1,h2,h3⟩:=D.d
 exact⟨o,_,ep,h1,h2,h3,fun e he=>zZ D.p h e (by simpa using he),fun _=>rfl⟩
theorem J'{k:KX}(h:EJ kvs k=true):(∃b,k=.bo b)/\(kvs.all fun p=>p.1.tag==0)=true/\kvs.length<=sizeLine:=by
 unfold EJ at h
 rw[bA,bA,bX,bX]at h
 refine⟨?_,h.1.2,jx (dh h.2)⟩
 cases k with
 |bo b=>exact⟨b,rfl⟩
 |fl _=>simp[KX.tag]at h
 |pr _ _=>simp[KX.tag]at h
def EK(x y:W)(st:List ah):R W:=match eO st x,k_ y with
 |some (_,kvs),some k=>if (wd kvs k||EJ kvs k)=true then m7 (gR kvs k) fun w=>.ok w st else .bad
 |_,_=>.bad
theorem P5{a b:Expr}{pos:Pos}(hr:fR kk X.A)(ha:SE X a fa)(hb:SE X b fb)(hs:DM b:=by intro _ _;rfl):SE X (.Subscript a b pos) (e2 EK fa fb):=⟨(IF ha.h hb.h hs).imp fun σ H Q h=>by
 walk_at "2"
 refine⟨μ,ρ,st,l,RK.bind h l fun μ1 st1 x v H1 p1 x1 l1 q1 h1=>⟨μ1,ρ,st1,l1,RK.bind h1 l1 fun μ2 cV y u H2 p2 x2 l2 q2 h2=>?_⟩⟩
 unfold EK at h2
 cases e1:eO cV x with
 |none=>rw[e1]at h2;exact h2.elim
 |some nk=>
  obtain⟨n,kvs⟩:=nk
  cases e2:k_ y with
  |none=>rw[e1,e2]at h2;exact h2.elim
  |some k=>
   rw[e1,e2]at h2
   simp only at h2
   by_cases hx:(wd kvs k||EJ kvs k)=true
   ·rw[aw hx]at h2
    have:=wc e2
    subst this
    obtain⟨a,ea,_⟩:=zX l2.sto e1 (q1.mono p2 x2)
    refine⟨a,ea,fun pins σ s iv E Qv I ry hq=>?_⟩
    obtain⟨a',es,ea',D⟩:=j0 I l2.sto e1 (q1.mono p2 x2)
    rw[ea]at ea'
    cases ea'
    refine⟨nQ D,?_⟩
    rw[ie]at hx
    rcases hx with hx|hx
    ·refine Be I D hx q2 ry fun K inst G z b xs hk hv hb vG xd vw=>?_
     subst hk;subst hb
     rcases nP z vw with⟨w,p,v',g1,g2,g3,g4⟩|⟨g1,g2⟩
     ·rw[g1]at h2
      exact P1 (G.room (by have:=hr.units;omega)) I xd vG g2 fun s' I'=>hq v' _ s' I' g4 (h2 μ2 v' H2 (af _) dC.refl l2.sto g3)
     ·rw[g1]at h2;exact h2.elim
    ·obtain⟨⟨b,rfl⟩,mS,_⟩:=J' hx
     cases be.blE q2
     obtain rfl:iv=Value.bool b:=ry
     rcases we b D.p mS with⟨w,e,v',g1,g2,g3,g4⟩|⟨g1,g2⟩
     ·rw[g1]at h2
      refine lP (knd:=PK.boolKind X.prog X.w) (k:=b) (by simp[PK.boolKind,PK.isBool]) (P4 D mS) (v:=e.val) ?_ (hq v' _ _ (I.tok _) g4 (h2 μ2 v' H2 (af _) dC.refl l2.sto g3))
      unfold findBy
      rw[show(es.toArray.find? fun e=>(PK.boolKind X.prog X.w).is b e.key)=es.find? fun e=>(PK.boolKind X.prog X.w).is b e.key by simp,g2];rfl
     ·rw[g1]at h2;exact h2.elim
   ·rw[aC hx]at h2;exact h2.elim⟩
def wg(fo fk fd:FE):FE:=fun ρ st=>(fo ρ st).bind fun x st=>match eO st x with
 |some _=>(fk ρ st).bind fun y st=>(fd ρ st).bind fun z st=>(match eO st x,k_ y with
  |some (n,kvs),some k=>if (wd kvs k||EJ kvs k)=true then(match gR kvs k with
   |some w=>.ok w st
   |none=>.ok z (st.set n (.dcx (n5 kvs k z))))else .bad
  |_,_=>.bad)
 |none=>.bad
theorem IH{o f:Expr}{fd:FE}(hr:fR kk X.A)(ho:SE X o fo)(he:SE X e fe)(hf:SE X f fd)(m:M2 X o "setdefault" gi e f dF:=by exact⟨by rfl,by rfl,by rfl,by rfl⟩):SE X (.Call (.Attribute o "setdefault" gi) [e,f] [] dF) (wg fo fe fd):=⟨(EI ho.h he.h hf.h m).imp fun σ H Q h=>by
 walk_at "2"
 walk_at "1"
 cases e0:eO st1 x with
 |none=>rw[e0]at h1;exact h1.elim
 |some nk0=>
  rw[e0]at h1
  simp only at h1
  obtain⟨a0,ea0,_⟩:=zX l1.sto e0 q1
  refine⟨zX l1.sto e0 q1,μ1,ρ,st1,l1,RK.bind h1 l1 fun μ2 cV y u H2 p2 x2 l2 q2 h2=>⟨μ2,ρ,cV,l2,RK.bind h2 l2 fun μ3 jv dW t H3 p3 x3 l3 q3 h3=>?_⟩⟩
  cases e1:eO jv x with
  |none=>rw[e1]at h3;exact h3.elim
  |some nk=>
   obtain⟨n,kvs⟩:=nk
   cases e2:k_ y with
   |none=>rw[e1,e2]at h3;exact h3.elim
   |some k=>
    rw[e1,e2]at h3
    simp only at h3
    by_cases hx:(wd kvs k||EJ kvs k)=true
    ·rw[aw hx]at h3
     have:=wc e2
     subst this
     refine⟨a0,ea0,fun pins σ s iv r E Qv I ry rz hq=>?_⟩
     obtain⟨a',es,ea,D⟩:=j0 I l3.sto e1 ((q1.mono p2 x2).mono p3 x3)
     rw[ea0]at ea
     cases ea
     rw[ie]at hx
     rcases hx with hx|hx
     ·refine Be I D hx (q2.mono p3 x3) ry fun K inst G z b xs hk hv hb vG xd vw=>?_
      subst hk;subst hb
      refine mv PySem.F.slot_dict_setdefault (nQ D) PySem.F.entry_dict_setdefault (PySem.F.args_dict_setdefault_3 _ _ _) (PK.meets_setdefault (knd:=G.knd) a0 b xd.sm r) ⟨G.room (by have:=hr.units;omega),z,xs,vG,Ba xd.d xd.is xd.nd,xd.z,?_,?_⟩
      ·intro p hp
       rcases nP z vw with⟨w,p',v',g1,g2,g3,g4⟩|⟨g1,g2⟩
       ·rw[g1]at h3
        rw[g2]at hp;cases hp
        exact hq v' _ _ _ (I.tok _) g4 (h3 μ3 v' H3 (af _) dC.refl l3.sto g3)
       ·rw[g2]at hp;cases hp
      ·intro hn h' dd hs
       rcases nP z vw with⟨w,p',v',g1,g2,g3,g4⟩|⟨g1,g2⟩
       ·rw[g2]at hn;cases hn
       ·rw[g1]at h3
        have d:=Bb dd
        have I':=l5 (t':=s.toks+G.knd.draws z) I xd.mu hs (let ⟨q,_,hq,_⟩:=d;⟨q,hq⟩) (zV d)
        rw[<- storedH_new g2 b r]at I'
        exact hq t _ _ _ I' rz (h3 μ3 t _ (af _) (D.sq _) (D.put l3.sto vw (by have:=q2.mono p3 x3;rw[hv]at this;exact this) q3 rz) (q3.mono (af _) (D.sq _)))
     ·obtain⟨⟨b,rfl⟩,mS,d7⟩:=J' hx
      cases be.blE q2
      obtain rfl:iv=Value.bool b:=ry
      refine mv PySem.F.slot_dict_setdefault (nQ D) PySem.F.entry_dict_setdefault (PySem.F.args_dict_setdefault_3 _ _ _) (zY (knd:=PK.boolKind X.prog X.w) (k:=b) (by simp[PK.boolKind,PK.isBool]) D.sm) ⟨es,D.d,fun e he=>zZ D.p mS e (by simpa using he),by rw[<- Paired.length D.p];exact d7,?_,?_⟩
      ·intro e he
       rcases we b D.p mS with⟨w,e',v',g1,g2,g3,g4⟩|⟨g1,g2⟩
       ·rw[g1]at h3
        rw[g2]at he;cases he
        exact hq v' _ _ _ (I.tok _) g4 (h3 μ3 v' H3 (af _) dC.refl l3.sto g3)
       ·rw[g2]at he;cases he
      ·intro hn h' d hs
       rcases we b D.p mS with⟨w,e',v',g1,g2,g3,g4⟩|⟨g1,g2⟩
       ·rw[g2]at hn;cases hn
       ·rw[g1]at h3
        have I':=l5 (t':=s.toks+1) I D.mu hs (let ⟨q,_,hq,_⟩:=d;⟨q,hq⟩) (zV d)
        obtain⟨c,hc,rB⟩:=D.c
        obtain⟨o,ho,hf,hg⟩:=D.o
        have ep:n5 kvs (.bo b) dW=kvs++[(.bo b,dW)]:=by unfold n5;rw[g1];rfl
        have S':=l3.sto.setG (c':=.dcx (n5 kvs (.bo b) dW)) hc rB D.m ho hf hg (D.sq (es++[⟨(PK.boolKind X.prog X.w).hash b,.bool b,r⟩])) rfl ⟨_,dB,D.sm,by
         rw[ep]
         exact Paired.snoc (Paired.imp' (fun _ _ q=>q.mono (af _) (D.sq _)) D.p) ⟨rfl,⟨_,.bl,rfl⟩,_,q3.mono (af _) (D.sq _),rz⟩,Bf _ _ D.nd⟩
        exact hq t _ _ _ I' rz (h3 μ3 t _ (af _) (D.sq _) S' (q3.mono (af _) (D.sq _)))
    ·rw[aC hx]at h3;exact h3.elim⟩
def u5(ws:List W)(st:List ah):R W:=match ws with
 |[x]=>(match eO st x with
  |some (_,kvs)=>if kvs.length<=kE then .ok (.int kvs.length) st else .bad
  |none=>cR ws st)
 |_=>cR ws st
theorem Mv:lA X (.builtin "len") u5:=⟨fun pins s σ H vs us Q I rv zq=>by
 obtain⟨μ,st,ws,S,r,q⟩:=zq
 unfold u5 at q
 split at q
 ·rename_i x
  split at q
  ·rename_i n kvs e
   split at q
   ·rename_i hl
    obtain⟨y,rfl,ry⟩:=r.one
    obtain⟨a,es,rfl,D⟩:=j0 I S e ry
    obtain⟨u,rfl,ru⟩:=jk rv
    obtain rfl:u=Value.ref a:=ru
    have hle:es.length=kvs.length:=(Paired.length D.p).symm
    refine yi D.sm D.d (by rw[hle];have:kvs.length<=1000000:=hl;omega) ?_
    refine⟨.int kvs.length,H,I.tok _,⟨_,by rw[hle]⟩,?_⟩
    exact q μ _ H (af _) dC.refl S .int
   ·exact q.elim
  ·exact jl.h pins s σ H _ us Q I rv ⟨μ,st,_,S,r,q⟩
 ·exact jl.h pins s σ H _ us Q I rv ⟨μ,st,_,S,r,q⟩,fun ws st=>by
 unfold u5
 split
 ·split
  ·split<;>trivial
  ·exact(jl (X:=X)).n _ st
 ·exact(jl (X:=X)).n _ st⟩
end
open AutoSeq1 (wpAny_loadPart')
section
variable{w:World}
end
section
end
section
variable{a:Expr}{fs:FA}
end
section
theorem ny:∀{ys:List Int} {bJ:List Value},cH (ys.map V.int) bJ->IntsAre bJ ys
 |[],_,r=>by cases r;exact .nil
 |y::ys,_,r=>by
  cases r with
  |cons r rr=>
   obtain⟨t,rfl⟩:=r
   exact .cons _ _ (ny rr)
theorem s9:∀{bJ:List Value} {ns:List Int},IntsAre bJ ns->cH (ns.map V.int) bJ
 |_,_,.nil=>.nil
 |_,_,.cons y t r=>.cons ⟨t,rfl⟩ (s9 r)
theorem CM(l:List Int):RelWs K μ H (l.map W.int) (l.map V.int):=by
 induction l with
 |nil=>exact .nilI
 |cons a r ih=>exact .consI .int ih
end
section
end
section
end
section
end
theorem wj{w:World}(e:h.get? a=some o):eD P w H h a (ly a o):=⟨e,⟨o,e⟩,fun h1 h2 p k=>k o p⟩
theorem CN{u:Option Value}(e:h.get? a=some o)(hd:o.data=.cell u)(q:Str):ly a o≠iW a q:=fun z=>by
 have:=congrFun (HO.ext.inj z) h
 have t:∃o' vs t,h.get? a=some o'/\o'.data=.fields vs/\vs[1]?=some (.str q t):=cast this e
 obtain⟨o',vs,_,e1,e2,_⟩:=t
 rw[e]at e1;cases e1;rw[hd]at e2;cases e2
def drp(H:Hp)(c:Addr):Hp:=fun b=>if b=c then none else H b
theorem lc{c:Addr}(h:b≠c):drp H c b=H b:=by unfold drp;rw[aC h]
theorem pL{c:Addr}:drp H c c=none:=by unfold drp;rw[aw rfl]
section
variable{st:List ah}{w:World}
theorem dC.drp{c:Addr}(hl:H c=some (.ext φ)):dC K H (drp H c):=by
 have lN:∀{p:Addr} {o:HO},H p=some o->(∀z,o≠.ext z)->p≠c:=fun{p o} q hn z=>by subst z;rw[hl]at q;cases q;exact hn _ rfl
 refine⟨fun p ys h=>?_,fun b o u h=>by rw[lc (lN h #[13])];exact h⟩
 rcases h with(h|⟨o,h⟩)|h
 ·exact .inl (.inl (by rw[lc (lN h #[13])];exact h))
 ·exact .inl (.inr ⟨o,by rw[lc (lN h #[13])];exact h⟩)
 ·exact .inr h
theorem kC.drp{c:Addr}(hok:kC P w H h)(hl:H c=some (.ext φ)):kC P w (drp H c) h:=fun b u e=>by
 by_cases hb:b=c
 ·subst hb;rw[pL]at e;cases e
 ·rw[lc hb]at e
  refine(hok b u e).stay (fun _ _ _ q=>q) (fun x q=>?_) fun x xs q=>?_
  ·rw[lc (by rintro rfl;rw[hl]at q;cases q)];exact q
  ·rw[lc (by rintro rfl;rw[hl]at q;cases q)];exact q
theorem kC.put{c:Addr}(hok:kC P w H h)(hc:H c=none)(e:h.get? c=some o):kC P w (eW H c (ly c o)) h:=fun b u q=>by
 by_cases hb:b=c
 ·subst hb;rw[dB]at q;cases q;exact wj e
 ·rw[cw hb]at q
  refine(hok b u q).stay (fun _ _ _ z=>z) (fun x z=>?_) fun x xs z=>?_
  ·rw[cw (by rintro rfl;rw[hc]at z;cases z)];exact z
  ·rw[cw (by rintro rfl;rw[hc]at z;cases z)];exact z
theorem ma{l:List α}{x d:α}(e:(l.set j x)[i]?=some d):(i=j/\d=x/\j<l.length)\/(i≠j/\l[i]?=some d):=by
 by_cases q:j=i
 ·subst q
  have hl:j<l.length:=by have:=(aa.mp e).1;simpa using this
  rw[bB hl]at e
  exact .inl ⟨rfl,(aU e).symm,hl⟩
 ·rw[bS q]at e;exact .inr ⟨Ne.symm q,e⟩
theorem fW.hide{k:Bool}{c:Addr}{x:W}{u:Option Value}(S:fW K mg μ st H)(hj:st[j]?=some (.pin k c o x))(e:h.get? c=some o)(hd:o.data=.cell u):fW K mg μ (st.set j .gone) (L2.drp H c):=by
 obtain⟨a,hm,rfl,hc,_⟩:=S.get hj
 have xt:dC K H (L2.drp H a):=dC.drp hc
 refine⟨fun i i' b ci cj h1 h2 r1 r2 m1 m2=>?_,by simp[S.len],fun i d b h1 h2=>?_⟩
 ·rcases ma h1 with⟨rfl,rfl,_⟩|⟨_,h1⟩
  ·cases r1
  ·rcases ma h2 with⟨rfl,rfl,_⟩|⟨_,h2⟩
   ·cases r2
   ·exact S.nd i i' b ci cj h1 h2 r1 r2 m1 m2
 ·rcases ma h1 with⟨rfl,rfl,_⟩|⟨hij,h1⟩
  ·trivial
  ·have r:=S.at' i d b h1 h2
   by_cases hrd:d.isRo=true
   ·cases d with
    |ro zs=>
     obtain⟨us,p,q⟩:=r
     refine⟨us,?_,q.mono (af _) xt⟩
     rcases p with⟨o2,p⟩|p
     ·exact .inl ⟨o2,xt.z _ _ _ p⟩
     ·exact .inr p
    |gone=>trivial
    |lst _=>cases hrd
    |exc _=>cases hrd
    |dct _=>cases hrd
    |rod _=>cases hrd
    |dcx _=>cases hrd
    |rox _=>cases hrd
    |obj _ _=>cases hrd
    |tab _ _ _=>cases hrd
    |pin _ _ _ _=>cases hrd
   ·have hb:b≠a:=by
     rintro rfl
     exact hij (S.nd i j b d _ h1 hj (by simpa using hrd) rfl h2 hm)
    refine r.keep (af _) xt (fun o' ho=>by rw[lc hb];exact ho) fun b' q z=>?_
    rw[lc (by rintro rfl;rw[hc]at z;exact CN e hd _ (aU z))];exact z
theorem fW.take'{c:Addr}{x:W}{v:V}(S:fW K mg μ st H)(hj:st[j]?=some .gone)(hm:μ[j]?=some c)(hc:H c=none)(rx:be K μ H x v)(hd:∃u,o.data=.cell (some u)/\bN v u):fW K mg μ (st.set j (.pin true c o x)) (eW H c (ly c o)):=by
 have hs:nY H (eW H c (ly c o)):=cy hc _
 have S':=S.same hs
 refine⟨fun i i' b ci cj h1 h2 r1 r2 m1 m2=>?_,by simp[S.len],fun i d b h1 h2=>?_⟩
 ·rcases ma h1 with⟨y1,y2,_⟩|⟨hi,g1⟩
  ·rcases ma h2 with⟨z1,_,_⟩|⟨hi2,g2⟩
   ·rw[y1,z1]
   ·rw[y1,hm]at m1;cases m1
    obtain⟨o',z⟩:=(S.at' i' cj c g2 m2).ro_ne r2
    rw[hc]at z;cases z
  ·rcases ma h2 with⟨z1,_,_⟩|⟨_,g2⟩
   ·rw[z1,hm]at m2;cases m2
    obtain⟨o',z⟩:=(S.at' i ci c g1 m1).ro_ne r1
    rw[hc]at z;cases z
   ·exact S.nd i i' b ci cj g1 g2 r1 r2 m1 m2
 ·rcases ma h1 with⟨rfl,rfl,_⟩|⟨_,h1⟩
  ·rw[hm]at h2;cases h2
   exact⟨rfl,dB,(fun z=>by cases z),v,rx.mono (af _) (fO.same hs),fun _=>hd⟩
  ·exact S'.at' i d b h1 h2
noncomputable abbrev jn:=Nat×Addr×Obj×W
def pM:List Nat->List ah->Option (List jn×List ah)
 |[],st=>some ([],st)
 |j::js,st=>match st[j]? with
  |some (.pin true c o x)=>(match pM js (st.set j .gone)with
   |some (l,bL)=>some ((j,c,o,x)::l,bL)
   |none=>none)
  |_=>none
def me:List jn->Hp->Hp
 |[],H=>H
 |x::l,H=>me l (drp H x.2.1)
theorem iM:∀{l:List jn} {H:Hp} {b:Addr},(∀x∈l,x.2.1≠b)->me l H b=H b
 |[],_,_,_=>rfl
 |x::l,H,b,n=>by
  show me l (drp H x.2.1) b=_
  rw[iM fun y hy=>n y (ay _ hy),lc (Ne.symm (n x aM))]
theorem rL{l:List jn}(h:∃x∈l,x.2.1=b):me l H b=none:=by
 induction l generalizing H with
 |nil=>obtain⟨y,hy,_⟩:=h;exact absurd hy (by simp)
 |cons x l ih=>
  unfold me
  by_cases q:∃z∈l,z.2.1=b
  ·exact ih q
  ·rw[iM fun z hz e'=>q ⟨z,hz,e'⟩]
   obtain⟨y,hy,e⟩:=h
   rcases aK.mp hy with r|r
   ·rw[<- e,r];exact pL
   ·exact absurd ⟨y,r,e⟩ q
def yj(K:Frag)(μ:List Addr)(H:Hp)(h:Heap)(x:jn):Prop:=μ[x.1]?=some x.2.1/\h.get? x.2.1=some x.2.2.1/\∃u v,x.2.2.1.data=.cell (some u)/\bN v u/\be K μ H x.2.2.2 v
theorem s_:∀{js:List Nat} {st bL:List ah} {H:Hp} {l:List jn},fW K mg μ st H->kC P w H h->pM js st=some (l,bL) ->
  fW K mg μ bL (me l H)/\kC P w (me l H) h/\dC K H (me l H)/\(∀x∈l,yj K μ (me l H) h x/\H x.2.1=some (ly x.2.1 x.2.2.1))/\(l.map fun x=>x.2.1).Nodup
 |[],st,bL,H,l,S,hok,e=>by cases e;exact⟨S,hok,dC.refl,fun _ z=>absurd z (by simp),ku⟩
 |j::js,st,bL,H,l,S,hok,e=>by
  unfold pM at e
  split at e
  ·rename_i c o x hj
   split at e
   ·rename_i l1 st1 h1
    cases e
    obtain⟨a,hm,rfl,hc,_,v,rx,g⟩:=S.get hj
    obtain⟨u,hu,ru⟩:=g rfl
    obtain⟨ge,_⟩:=hok _ _ hc
    have x1:dC K H (L2.drp H a):=dC.drp hc
    obtain⟨r1,r2,r3,r4,r5⟩:=s_ (S.hide hj ge hu) (hok.drp hc) h1
    refine⟨r1,r2,x1.trans r3,fun y hy=>?_,bG.mpr ⟨fun z=>?_,r5⟩⟩
    ·rcases aK.mp hy with rfl|hy
     ·exact⟨⟨hm,ge,u,v,hu,ru,rx.mono (af _) (x1.trans r3)⟩,hc⟩
     ·obtain⟨q1,q2⟩:=r4 y hy
      refine⟨q1,?_⟩
      by_cases hb:y.2.1=a
      ·rw[hb,pL]at q2;cases q2
      ·rw[lc hb]at q2;exact q2
    ·obtain⟨y,hy,e2⟩:=al.mp z
     have:=(r4 y hy).2
     rw[show y.2.1=a from e2,pL]at this;cases this
   ·cases e
  ·cases e
def z4:List jn->List ah->Option (List ah)
 |[],st=>some st
 |(j,c,o,x)::l,st=>match st[j]? with
  |some .gone=>z4 l (st.set j (.pin true c o x))
  |_=>none
def oQ:List jn->Hp->Hp
 |[],H=>H
 |x::l,H=>oQ l (eW H x.2.1 (ly x.2.1 x.2.2.1))
theorem f6:∀{l:List jn} {H:Hp} {b:Addr},(∀x∈l,x.2.1≠b)->oQ l H b=H b
 |[],_,_,_=>rfl
 |x::l,H,b,n=>by
  show oQ l (eW H x.2.1 _) b=_
  rw[f6 fun y hy=>n y (ay _ hy),cw (Ne.symm (n x aM))]
theorem Bg:∀{l:List jn} {st bL:List ah} {H:Hp},fW K mg μ st H->kC P w H h->(∀x∈l,yj K μ H h x/\H x.2.1=none)->(l.map fun x=>x.2.1).Nodup->z4 l st=some bL ->
  fW K mg μ bL (oQ l H)/\kC P w (oQ l H) h/\dC K H (oQ l H)
 |[],st,bL,H,S,hok,_,_,e=>by cases e;exact⟨S,hok,dC.refl⟩
 |(j,c,o,x)::l,st,bL,H,S,hok,ha,nd,e=>by
  unfold z4 at e
  split at e
  ·rename_i hj
   obtain⟨⟨m,g,u,v,d,ru,rx⟩,hn⟩:=ha _ aM
   have hs:nY H (eW H c (ly c o)):=cy hn _
   have x1:dC K H (eW H c (ly c o)):=fO.same hs
   have nK:∀y∈l,yj K μ (eW H c (ly c o)) h y/\eW H c (ly c o) y.2.1=none:=fun y hy=>by
    obtain⟨⟨m',g',u',v',d',ru',rx'⟩,hn'⟩:=ha y (ay _ hy)
    refine⟨⟨m',g',u',v',d',ru',rx'.mono (af _) x1⟩,?_⟩
    rw[cw fun z=>(bG.mp nd).1 (al.mpr ⟨y,hy,z⟩)];exact hn'
   obtain⟨r1,r2,r3⟩:=Bg (l:=l) (S.take' hj m hn rx ⟨u,d,ru⟩) (hok.put hn g) nK (bG.mp nd).2 e
   exact⟨r1,r2,x1.trans r3⟩
  ·cases e
def iB:List jn->List ah:=fun l=>l.map fun x=>.pin true x.2.1 x.2.2.1 x.2.2.2
theorem yk:∀{l:List jn} {st:List ah} {μ:List Addr} {H:Hp},fW K mg μ st H->kC P w H h->(∀x∈l,H x.2.1=none/\h.get? x.2.1=some x.2.2.1/\∃u v,x.2.2.1.data=.cell (some u)/\bN v u/\be K μ H x.2.2.2 v)->(l.map fun x=>x.2.1).Nodup ->
  fW K mg (μ++l.map fun x=>x.2.1) (st++iB l) (oQ l H)/\kC P w (oQ l H) h/\dC K H (oQ l H)
 |[],st,μ,H,S,hok,_,_=>by simp only[iB,dH,bO];exact⟨S,hok,dC.refl⟩
 |(j,c,o,x)::l,st,μ,H,S,hok,ha,nd=>by
  obtain⟨hn,g,u,v,d,ru,rx⟩:=ha _ aM
  have hs:nY H (eW H c (ly c o)):=cy hn _
  have x1:dC K H (eW H c (ly c o)):=fO.same hs
  have S1:fW K mg (μ++[c]) (st++[.pin true c o x]) (eW H c (ly c o)):=S.push hn ⟨rfl,dB,(fun z=>by cases z),v,rx.mono (aJ _ _) x1,fun _=>⟨u,d,ru⟩⟩
  obtain⟨r1,r2,r3⟩:=yk (l:=l) S1 (hok.put hn g) (fun y hy=>by
   obtain⟨hn',g',u',v',d',ru',rx'⟩:=ha y (ay _ hy)
   refine⟨?_,g',u',v',d',ru',rx'.mono (aJ _ _) x1⟩
   rw[cw fun z=>(bG.mp nd).1 (al.mpr ⟨y,hy,z⟩)];exact hn') (bG.mp nd).2
  rw[az,az]at r1
  exact⟨r1,r2,x1.trans r3⟩
end
section
theorem CO{P c:Addr}{pr:Arguments}{fl:Nat}{ps:Array Value}(lM:X.env.code=.ref c)(JH:codeHdIn X.K c P=true)(hB:rh X.base X.mg)
  (jd:closureFor sc X.env=pure cl) (I:bw X pins σ H s) (hP:H P=some (.tbl ps)) (ht:TriplesOk ps.toList) (Og:codeAmong pos ps.toList=none\/∃cd,codeAmong pos ps.toList=some (.ref cd)/\H cd=some (iW cd q))
  (h:∀f cd jc ct h' t H',((codeAmong pos ps.toList=none/\H cd=none/\H'=sT H P cd q ps pos)\/H'=H)->H' f=none->H' cd=some (iW cd q) ->
   bw X pins σ (eW H' f (ly f (fnMade name q pr body sc cl jc ((X.mg "__name__").getD .none) cd ct))) { s with heap:=h',toks:=t }->Q (.ref f) { s with heap:=h',toks:=t }) :
  wpAny #[2] X.A (makeFunction name q pr (.stmts body) sc X.env [] [] [] pos fl) Q E s:=by
 have hPo:s.heap.get? P=some { cls:=.none,data:=.fields ps }:=I.hok P _ hP
 have hgs:s.heap.Ns mainGlobals X.mg:=I.mod.glob.keeps I.bk
 have hgP:mainGlobals≠P:=fun z=>by
  obtain⟨o,es,ep,e,hd,_⟩:=hgs
  rw[z,hPo]at e;cases e;cases hd
 obtain⟨bm,ob,b1,b2,b4,b5,b6,b7⟩:=hB
 have b4':=I.bk _ _ b4
 have hbP:bm≠P:=fun z=>by rw[z,hPo]at b4';cases b4';cases b5
 have b3:bm≠mainGlobals:=fun z=>by
  obtain⟨o,es,ep,e,hd,_⟩:=hgs
  rw[z,e]at b4';cases b4';rw[b7]at hd;cases hd
 have hb:s.heap.BuiltinsAt X.mg P:=⟨bm,ob,b1,b2,b3,hbP,b4',b5,b6,b7⟩
 have CH:=PySem.W.codeHd_of_K I.kIn JH
 rcases Og with hn|⟨cd,hhit,hH⟩
 ·refine PySem.W.makeFunction_K (mg:=X.mg) jd I.ok.glob hgs lM CH hPo ht hn hgP hb fun cd ct jc h' tk hx Dn ju AC Os=>?_
  have hcdn:H cd=none:=I.hok.fresh Dn
  have hPc:P≠cd:=fun z=>by rw[z,hcdn]at hP;cases hP
  have I1:=I.tabbed (t':=tk) hP Dn (fun b o hb e=>hx b o hb e) AC Os
  have I2:=bw.laid (t':=tk) (o:=ly h'.objs.size (fnMade name q pr body sc cl jc ((X.mg "__name__").getD .none) cd ct)) I1 (fun b u e=>ar _ e) (au _) (wj (aL _ rfl))
  exact h _ cd jc ct _ tk _ (.inl ⟨hn,hcdn,rfl⟩) (I1.hok.fresh (au _)) (wa hPc) I2
 ·refine PySem.W.makeFunction_hit (mg:=X.mg) jd I.ok.glob hgs lM CH hPo ht hhit hb fun ct jc h' tk hk hsz=>?_
  have I1:=I.kept (t':=tk) hk
  have I2:=bw.laid (t':=tk) (o:=ly h'.objs.size (fnMade name q pr body sc cl jc ((X.mg "__name__").getD .none) cd ct)) I1 (fun b u e=>ar _ e) (au _) (wj (aL _ rfl))
  exact h _ cd jc ct _ tk _ (.inr rfl) (I1.hok.fresh (au _)) hH I2
end
def Mw(name q:Str)(pr:Arguments)(body:List Stmt)(sc:Scope)(xs:List Str)(o:Obj):Prop:=∃cl jc pm cd ct,cl.map (·.1)=xs/\(cl.map (·.2)).Nodup/\o=fnMade name q pr body sc cl jc pm cd ct
def Mx(X:Cx)(name q:Str)(pr:Arguments)(body:List Stmt)(sc:Scope)(o:Obj):Prop:=∃jc cd ct,o=fnMade name q pr body sc (cD X.env sc.names []) jc ((X.mg "__name__").getD .none) cd ct
open Classical in
noncomputable def II(ok:α->Prop)(f:α->RS):RS:=if h:∃r,∀a,ok a->f a=r then h.choose else .bad
def Bh(st:List ah):RS->RS
 |.rt w bL=>.rt w (iJ st bL [w])
 |_=>.bad
open Classical in
def u6(ok:Obj->Prop)(j:Nat)(P:Addr)(pos:Pos)(q:Str)(i:Nat)(g:Addr->Obj->FS):FS:=fun ρ st=>if qR st j P pos q then
  II (fun p:Addr×Obj=>ok p.2) (fun p=>Bh st (g p.1 p.2 (ρ.set i (some #[5])) (st++[.pin false p.1 p.2 .non])))else .bad
theorem IJ{ok:α->Prop}{f:α->RS}{r:RS}(a0:α)(h0:ok a0)(h:∀a,ok a->f a=r):II ok f=r:=by
 have e:∃r,∀a,ok a->f a=r:=⟨r,h⟩
 unfold II
 rw[my e,<- e.choose_spec a0 h0,h a0 h0]
section
variable{pr:Arguments}{rest:List Stmt}{P c:Addr}{xs:List Str}{g:Addr->Obj->FS}
def P6(X:Cx)(name q:Str)(pr:Arguments)(body:List Stmt)(sc:Scope)(xs:List Str)(j:Nat)(P:Addr)(pos:Pos)(i:Nat):TS:=fun D σ H=>∃μ ρ st,Rl X μ ρ st σ H/\qR st j P pos q /\
 ∀f o H',Mx X name q pr body sc o->Mw name q pr body sc xs o->dC X.K H H'->fW X.K X.mg (μ++[f]) (st++[.pin false f o .non]) H'->D.nx (σ.set i (some (.ref f))) H'
theorem IK(lM:X.env.code=.ref c)(JH:codeHdIn X.K c P=true)(hB:rh X.base X.mg)(fP:X.env.cells=cellsFrom m X.env.scope.names [])(qk:∀x∈sc.names,x.2=.free->X.env.scope.names.lookup x.1=some .cell)
  (K6:(cD X.env sc.names []).map (·.1)=xs) (kG:xs.Nodup) (hq:qualnameIn X.env name name=q) (hN:X.N.Nodup) (hi:X.N[i]?=some name) (hx:B8 X.env.scope name) (hf:X.fn name=true\/X.env.scope.names.lookup name=some .local)
  (R8:pr.defaults=[]:=by rfl) (TB:pr.kw_defaults=[]:=by rfl) (ha:annTrees pr none X.env=[]:=by rfl) :
  PS X (.FunctionDef name pr body [] none [] sc none name pos) (P6 X name q pr body sc xs j P pos i):=fun pins s σ H D I h=>by
 obtain⟨μ,ρ,st,l,e4,h⟩:=h
 obtain⟨aP,hP0,eP,ps,hP,ht,Og⟩:=l.sto.get e4
 subst eP
 have has:∀x∈sc.names,x.2=.free->∃c,X.env.cells.lookup x.1=some c:=fun x hx hf=>by rw[fP];exact iI (qk x hx hf)
 have jd:closureFor sc X.env=pure (cD X.env sc.names []):=AM has
 refine PySem.W.nestDef_K R8 TB ha ?_
 rw[hq]
 refine CO (P:=aP) lM JH hB jd I hP ht Og fun f cd jc ct h' t H' hH zo nJ I2=>?_
 refine rX I2 hN hi hx (v:=.ref f) rfl (fun s' I3=>?_) hf
 have ok:Mx X name q pr body sc (fnMade name q pr body sc (cD X.env sc.names []) jc ((X.mg "__name__").getD .none) cd ct):=⟨jc,cd,ct,rfl⟩
 have hcl':∀y∈cD X.env sc.names [],X.env.cells.lookup y.1=some y.2:=lx sc.names [] has #[7]
 have nd2:((cD X.env sc.names []).map (·.2)).Nodup:=by
  have nd1:((cD X.env sc.names []).map (·.1)).Nodup:=by rw[K6];exact kG
  have gen:∀l:List (Str×Addr),(∀y∈l,X.env.cells.lookup y.1=some y.2)->(l.map (·.1)).Nodup->(l.map (·.2)).Nodup:=by
   intro l
   induction l with
   |nil=>intro _ _;exact ku
   |cons y l ih=>
    intro a b
    rw[aF,bG]at b ⊢
    refine⟨fun z=>b.1 ?_,ih (fun y hy=>a y (ay _ hy)) b.2⟩
    obtain⟨y',zf,e⟩:=al.mp z
    have:=I.ok.inj _ _ _ (a y aM) (by rw[<- e];exact a y' (ay _ zf))
    rw[this]
    exact al.mpr ⟨y',zf,rfl⟩
  exact gen _ hcl' nd1
 have hS':fW X.K X.mg μ st H'/\dC X.K H H':=by
  rcases hH with⟨g1,g2,rfl⟩|rfl
  ·exact l.sto.tabbed e4 hP g2 ht g1
  ·exact⟨l.sto,dC.refl⟩
 obtain⟨S',X'⟩:=hS'
 have hs:nY H' (eW H' f (ly f (fnMade name q pr body sc (cD X.env sc.names []) jc ((X.mg "__name__").getD .none) cd ct))):=cy zo _
 refine⟨_,_,I3,h f _ _ ok ⟨_,jc,_,cd,ct,K6,nd2,rfl⟩ (X'.trans (fO.same hs)) (S'.push zo ⟨rfl,dB,fun _=>⟨_,cd,rfl,rfl,?_⟩,.non,.non,fun z=>by cases z⟩)⟩
 rw[cw (by rintro rfl;rw[zo]at nJ;cases nJ)];exact nJ
theorem IL(hd:PS X (.FunctionDef name pr body [] none [] sc none name pos) (P6 X name q pr body sc xs j P pos i))(uf:∀f o,Mx X name q pr body sc o->SB X rest (g f o)) :
  SB X (.FunctionDef name pr body [] none [] sc none name pos::rest) (u6 (Mw name q pr body sc xs) j P pos q i g):=⟨(xD hd (u:=fun D σ H=>∃f o,Mx X name q pr body sc o/\Pm X (g f o) D σ H) (fun pins s σ H D I h=>by
  obtain⟨f,o,ok,h⟩:=h
  exact(uf f o ok).h pins s σ H D I h)).imp fun D σ H h=>by
 walk_at "2"
 unfold u6 at h
 by_cases e4:qR st j P pos q
 ·rw[aw e4]at h
  refine⟨μ,ρ,st,l,e4,fun f o H' on ok x S=>⟨f,o,on,μ++[f],ρ.set i (some #[5]),st++[.pin false f o .non],⟨pD (.locI (by rw[l.sto.len];simp)) i (qp (aJ _ _) x l.env),S⟩,?_⟩⟩
  unfold II at h
  by_cases he:∃r,∀p:Addr×Obj,Mw name q pr body sc xs p.2->Bh st (g p.1 p.2 (ρ.set i (some #[5])) (st++[.pin false p.1 p.2 .non]))=r
  ·rw[my he]at h
   have hr:=he.choose_spec (f,o) ok
   rw[<- hr]at h
   simp only at h
   cases e:g f o (ρ.set i (some #[5])) (st++[.pin false f o .non])with
   |rt w cV=>
    rw[e]at h
    intro μ' v H2 p x2 S2 r2
    obtain⟨μ2,p2,S3,r3⟩:=jm l.sto S2 ((aJ _ _).trans p) (.consI r2 .nilI)
    obtain⟨_,e2,r4⟩:=r3.one
    cases e2
    exact h μ2 v H2 p2 (x.trans x2) S3 r4
   |nx _ _=>rw[e]at h;exact h.elim
   |bk _ _=>rw[e]at h;exact h.elim
   |ct _ _=>rw[e]at h;exact h.elim
   |ex _ _ _=>rw[e]at h;exact h.elim
   |bad=>rw[e]at h;exact h.elim
  ·rw[dif_neg he]at h;exact h.elim
 ·rw[aC e4]at h;exact h.elim⟩
end
structure z5(N ps xs:List Str)(sc:Scope):Prop where
 kind:sc.kind=.function
 co:sc.isCoroutine=false
 gen:sc.isGenerator=false
 nd:N.Nodup
 pre:N.take ps.length=ps
 mid:(N.drop ps.length).take xs.length=xs
 par:∀x∈ps,sc.names.lookup x=some .local
 nocell:∀y∈sc.names,y.2≠.cell
 fre:∀y∈sc.names,y.2=.free->y.1∈xs
 xfr:∀x∈xs,sc.names.lookup x=some .free
noncomputable abbrev CP(q:Str)(sc:Scope)(L f:Addr)(cd:Value)(cl:List (Str×Addr)):Env:=PySem.W.envX q sc L f cd cl
def qz(CX:Dr)(P:Program)(w:World)(K:Frag)(mg:Str->Option Value)(base:Heap)(N:List Str)(qual:Str)(scope:Scope)(f:Addr)(cd:Value)(cl:List (Str×Addr))(A:Around)(outer:List Env)(s:Shared)(H:Hp)(E:XK):Cx where
 prog:=P
 w:=w
 K:=K
 mg:=mg
 base:=base
 A:=A.deeper (CP qual scope s.heap.objs.size f cd cl)
 N:=N
 s₀:=s
 H₀:=H
 env:=CP qual scope s.heap.objs.size f cd cl
 outer:=outer
 stack:=CP qual scope s.heap.objs.size f cd cl::outer
 ex:=[]
 calm:=true
 fn:=fun _=>false
 pn:=[]
 xe:=fun e s'=>wpAny (model P w) (A.deeper (CP qual scope s.heap.objs.size f cd cl)) (leaving (CP qual scope s.heap.objs.size f cd cl) e) (fun _ s''=>CX outer H s E e s'') (fun e' s''=>CX outer H s E e' s'') s'
theorem nR:∀{l:List (Str×α)} {x:Str} {a:α},(l.map (·.1)).Nodup->(x,a)∈l->l.lookup x=some a
 |[],_,_,_,h=>absurd h (by simp)
 |(y,b)::l,x,a,nd,h=>by
  rw[aF,bG]at nd
  rcases aK.mp h with e|h2
  ·cases e;simp[d8]
  ·have:(x==y)=false:=by
    rw[bP];intro z;exact nd.1 (al.mpr ⟨_,h2,z⟩)
   rw[d8,this];exact nR nd.2 h2
theorem oR{R:α->β->Prop}:∀{l:List α} {m:List β} {i:Nat} {a:α},Paired R l m->l[i]?=some a->∃b,m[i]?=some b/\R a b
 |_,_,_,_,.nil,e=>by simp at e
 |_,_,0,_,.cons r _,e=>by simp at e;subst e;exact⟨_,rfl,r⟩
 |_,_,i+1,_,.cons _ t,e=>by simpa using oR (i:=i) t (by simpa using e)
theorem Bi:∀{l:List (Str×Addr)} {x y:Str} {c:Addr},(l.map (·.2)).Nodup->(x,c)∈l->(y,c)∈l->x=y
 |[],_,_,_,_,h,_=>absurd h (by simp)
 |(z,b)::l,x,y,c,nd,h1,h2=>by
  rw[aF,bG]at nd
  rcases aK.mp h1 with e|h1
  ·rcases aK.mp h2 with e2|h2
   ·cases e;cases e2;rfl
   ·cases e;exact absurd (al.mpr ⟨_,h2,rfl⟩) nd.1
  ·rcases aK.mp h2 with e2|h2
   ·cases e2;exact absurd (al.mpr ⟨_,h1,rfl⟩) nd.1
   ·exact Bi nd.2 h1 h2
section
variable{w:World}
theorem EL{CX:Dr}{N xs:List Str}{cd:Value}{outer:List Env}{h₁:Heap}{tk:Nat}{E:XK}{zh:List Value}{rV:List V}
  (S:z5 N ps xs scope) (hd:A.handled=none) (e0:xE P w K mg base A outer s H) (hl:vs.length=ps.length) (r:cH vs us) (rc:cH rV zh) (hx:cl.map (·.1)=xs) (hn:(cl.map (·.2)).Nodup)
  (hc:Paired (fun(y:Str×Addr) (u:Value)=>s.heap.IsCell y.2 (some u)/\H y.2=none) cl zh)
  (GT:h₁.Ns s.heap.objs.size (fun x=>(ps.zip us).reverse.lookup x)) (hk:∀b o,s.heap.get? b=some o->h₁.get? b=some o) :
  bw (qz CX P w K mg base N qual scope f cd cl A outer s H E) [] (jI N (vs++rV)) H { s with heap:=h₁,toks:=tk }:=by
 have qK:ps.length<=N.length:=by have:=cL List.length S.pre;rw[bf]at this;omega
 have hxl:xs.length<=N.length-ps.length:=by have:=cL List.length S.mid;rw[bf,f7]at this;omega
 have jd:rV.length=xs.length:=by rw[rc.length,<- hc.length,<- hx,ai]
 have ndx:xs.Nodup:=by rw[<- S.mid];exact(S.nd.sublist (List.drop_sublist _ _)).sublist (gA _ _)
 have ndP:ps.Nodup:=by rw[<- S.pre];exact S.nd.sublist (gA _ _)
 have look:∀x∈xs,∃c,cl.lookup x=some c:=fun x qh=>by
  rw[<- hx]at qh
  obtain⟨y,hy,rfl⟩:=al.mp qh
  exact⟨y.2,nR (by rw[hx];exact ndx) hy⟩
 have cellOf:∀x c,cl.lookup x=some c->∃u,s.heap.IsCell c (some u)/\H c=none:=fun x c e=>by
  have hm:=PySem.mem_of_lookup e
  obtain⟨i,hi⟩:=a9 hm
  obtain⟨u,_,q⟩:=oR hc hi
  exact⟨u,q⟩
 have noA:∀b:Addr,b∉(qz CX P w K mg base N qual scope f cd cl A outer s H E).ex:=fun b z=>absurd (show b∈([]:List Addr)from z) #[7]
 refine⟨⟨e0.mod,S.kind,rfl,rfl,au _,fun y z c h1 h2=>?_,fun y hy=>?_,fun y c z _=>?_,fun _=>hd,Around.frames_deeper e0.frames,.inr ⟨rfl,rfl⟩,fun b z=>absurd z (noA b),e0.bs,e0.bsz,fun b _ _=>noA b,fun b z=>absurd z (noA b),e0.funs,e0.frf⟩,
  rfl,e0.bare,Un.kept hk,⟨_,GT,fun i y v h1 h2 h3=>?_⟩,fun y c h=>?_,e0.hok.fresh (au _),fun y c h=>?_,fun p hp=>absurd (show p∈([]:List (Addr×Obj))from hp) #[7],e0.hok.kept hk,?_⟩
 ·exact Bi hn (PySem.mem_of_lookup (show cl.lookup y=some c from h1)) (PySem.mem_of_lookup (show cl.lookup z=some c from h2))
 ·have hy:scope.names.lookup y=some .cell\/scope.names.lookup y=some .free:=hy
  rcases hy with hy|hy
  ·exact absurd rfl (S.nocell _ (PySem.mem_of_lookup hy))
  ·exact look y (S.fre _ (PySem.mem_of_lookup hy) rfl)
 ·cases z
 ·have h1:N[i]?=some y:=h1
  have hi:i<(vs++rV).length:=by
   unfold jI at h2
   by_cases hi:i<(vs++rV).length
   ·exact hi
   ·rw[cQ (by simpa using hi)]at h2
    rw[iG]at h2
    split at h2<;>cases h2
  have ha:(vs++rV)[i]?=some v:=by
   unfold jI at h2
   rw[av (by simpa using hi),ak]at h2
   cases e:(vs++rV)[i]? with
   |none=>rw[e]at h2;cases h2
   |some a=>rw[e]at h2;cases h2;rfl
  obtain⟨u,hu,rv⟩:=(r.append rc).get ha
  refine⟨u,rv,?_⟩
  by_cases hip:i<ps.length
  ·have hp:ps[i]?=some y:=by rw[<- S.pre,aX hip];exact h1
   have hu':us[i]?=some u:=by rw[av (by rw[<- r.length,hl];exact hip)]at hu;exact hu
   refine .inl ⟨S.par y (ao hp),?_⟩
   have hz:(ps.zip us)[i]?=some (y,u):=by rw[g_];exact⟨hp,hu'⟩
   refine nR ?_ (List.mem_reverse.mpr (ao hz))
   rw[List.map_reverse]
   have:(ps.zip us).map (·.1)=ps:=List.map_fst_zip (by rw[<- r.length,hl];exact au _)
   rw[this]
   exact List.pairwise_reverse.mpr (ndP.imp fun h=>Ne.symm h)
  ·have qh:xs[i-ps.length]?=some y:=by
    rw[<- S.mid,aX (by rw[aN,hl,jd]at hi;omega),List.getElem?_drop]
    rw[show ps.length+(i-ps.length)=i by omega];exact h1
   have hu':zh[i-ps.length]?=some u:=by rw[cQ (by rw[<- r.length,hl];omega),<- r.length,hl]at hu;exact hu
   rw[<- hx,ak]at qh
   obtain⟨yc,ey,e2⟩:=a_.mp qh
   obtain⟨u',eu,q1,q2⟩:=oR hc ey
   rw[hu']at eu;cases eu
   have hin:y∈xs:=by rw[<- hx,<- e2];exact al.mpr ⟨yc,ao ey,rfl⟩
   refine .inr ⟨.inr (S.xfr y hin),yc.2,?_,q1.keeps hk⟩
   exact nR (l:=cl) (by rw[hx];exact ndx) (by rw[<- e2];exact ao ey)
 ·obtain⟨u,q,_⟩:=cellOf y c h;exact⟨_,q.keeps hk⟩
 ·obtain⟨u,_,q⟩:=cellOf y c h;exact q
 ·unfold jI
  show _=N.length
  rw[aN,ai,mU,aN,hl,jd]
  omega
noncomputable def lF(o:Obj):List (Str×Addr):=match o.data with
 |.func fd=>fd.closure
 |_=>[]
structure oS(P:Program)(w:World)(K:Frag)(mg:Str->Option Value)(base:Heap)(k n m:Nat)(ok:Obj->Prop)(F:List W->List ah->R W):Prop where
 run:∀(A:Around) (outer:List Env) (s:Shared) (H:Hp) (f:Addr) (o:Obj) (fd:FuncData) (us zh:List Value) (vs rV:List V) (Q:VK) (E:XK),fR k A->xE P w K mg base A outer s H->s.heap.get? f=some o->ok o->o.data=.func fd->s.heap.CodeRec fd.code fd.qualname ->
  cH vs us->cH rV zh->us.length=n->Paired (fun(y:Str×Addr) (u:Value)=>s.heap.IsCell y.2 (some u)/\H y.2=none) (lF o) zh->l8 K mg (n+m) F (vs++rV) H Q E ->
  codeAny (model P w) A (.call (.ref f) ⟨us,[]⟩) (CR (kF P w) outer P w H s Q E) s
theorem oS.mono{k:Nat}{ok:Obj->Prop}(h:oS P w K mg base j n m ok F)(hj:j<=k):oS P w K mg base k n m ok F:=
 ⟨fun A outer s H f o fd us zh vs rV Q E hr=>h.run A outer s H f o fd us zh vs rV Q E (hr.mono hj)⟩
theorem IM{pr:Arguments}{N xs:List Str}{k:Nat}{g:FS}(S:z5 N ps xs scope)(hn:ps.length=n)(hm:xs.length=m)
  (hb:∀(cl:List (Str×Addr)) (jc pm:Value) (cd:Addr) (ct:Value) (us:List Value),us.length=ps.length->bindArgs (PySem.W.fnX name qual pr body scope cl .none .none jc pm none (.ref cd) ct) ⟨us,[]⟩=pure (ps.zip us))
  (ue:∀(f:Addr) (cd:Value) (cl:List (Str×Addr)) (A:Around) (outer:List Env) (s:Shared) (H:Hp) (E:XK),fR k (A.deeper (CP qual scope s.heap.objs.size f cd cl)) ->
   SB (qz (kF P w) P w K mg base N qual scope f cd cl A outer s H E) body g):oS P w K mg base (k+1) n m (Mw name qual pr body scope xs) (fx N.length g):=⟨fun A outer s H f o fd us zh vs rV Q E hr e0 ho ok hd nJ r rc hul hc K7=>by
 obtain⟨cl,jc,pm,cd,ct,hx,kG,rfl⟩:=ok
 cases hd
 have KX:K.In s.heap:=e0.mod.kin.keeps fun b o e=>(e0.bs b o e).1
 have lim:s.heap.NoLimit:=e0.mod.nolimit.keeps fun b o e=>(e0.bs b o e).1
 have hl:vs.length=ps.length:=by rw[r.length,hul,hn]
 refine codeAny_call_def (fd:=PySem.W.fnX name qual pr body scope cl .none .none jc pm none (.ref cd) ct) (body:=body) (binds:=ps.zip us) hr.depth ho rfl lim nJ rfl (.of_eq (hb cl jc pm cd ct us (by rw[hul,hn]))) S.nocell (fun y hy=>S.par _ (jE hy).1) (fun h₁ GT hk=>?_) S.co S.gen S.kind
 have I:bw (qz (kF P w) P w K mg base N qual scope f (.ref cd) cl A outer s H E) [] (jI N (vs++rV)) H { s with heap:=h₁,toks:=s.toks+(ps.zip us).length }:=EL S hr.hd e0 hl r rc hx kG hc GT hk
 obtain⟨hl2,μ,ws,Oc,Sr,rw0,h⟩:=K7
 have hq:Pm (qz (kF P w) P w K mg base N qual scope f (.ref cd) cl A outer s H E) g { nx:=fun _ H'=>Q .non H',rt:=Q } (jI N (vs++rV)) H:=by
  refine⟨μ,ws.map some++List.replicate (N.length-ws.length) none,Oc,⟨?_,Sr⟩,?_⟩
  ·unfold jI
   rw[<- rw0.len]
   have base:∀(ws:List W) (vs:List V) (m:Nat),RelWs K μ H ws vs->Paired (fun(o:Option W) (s:Option V)=>∀w,o=some w->∃v,s=some v/\be K μ H w v) (ws.map some++List.replicate m none) (vs.map some++List.replicate m none):=by
    intro ws
    induction ws with
    |nil=>
     intro vs m r
     rw[r.nilE]
     induction m with
     |zero=>exact .nil
     |succ m ih=>exact .cons (fun w z=>nomatch z) ih
    |cons w ws ih=>
     intro vs m r
     obtain⟨y,ys,rfl,ry,rys⟩:=r.consE
     exact .cons (fun w' z=>⟨y,rfl,by cases z;exact ry⟩) (ih ys m rys)
   exact base ws _ _ rw0
  ·unfold fx at h
   cases e:g (ws.map some++List.replicate (N.length-ws.length) none) Oc with
   |rt w bL=>
    rw[e]at h
    intro μ' v H' p x S' kQ
    obtain⟨μ2,p2,S2,r2⟩:=jm Sr S' p (.consI kQ .nilI)
    obtain⟨_,e2,r3⟩:=r2.one
    cases e2
    exact h μ2 v H' p2 x S2 r3
   |nx ρ' bL=>
    rw[e]at h
    intro μ' σ' H' p x l'
    obtain⟨μ2,p2,S2,_⟩:=jm (ws:=[]) (vs:=[]) Sr l'.sto p .nilI
    exact h μ2 .non H' p2 x S2 .non
   |ex c ρ' bL=>
    rw[e]at h
    intro pins μ' σ' H' ev s' p x l' fl
    obtain⟨μ2,p2,S2,_⟩:=jm (ws:=[]) (vs:=[]) Sr l'.sto p .nilI
    exact fl.leaves rfl rfl fl.inv.ok.frames rfl fun C hC=>h C μ2 H' hC p2 x S2
   |bk ρ' bL=>rw[e]at h;exact h.elim
   |ct ρ' bL=>rw[e]at h;exact h.elim
   |bad=>rw[e]at h;exact h.elim
 refine dG ((ue f (.ref cd) cl A outer s H E (hr.deeper _)).h [] _ (jI N (vs++rV)) H _ I hq) (fun fl s' hs=>?_) fun e s' hs=>hs
 have fin:∀{σ':St} {H':Hp} {v:V} {u:Value},bw (qz (kF P w) P w K mg base N qual scope f (.ref cd) cl A outer s H E) [] σ' H' s'->bN v u->Q v H'->CE outer P w H s Q u s':=
  fun{σ' H' v u} J rv q=>⟨v,H',J.os,J.bare,J.base,J.hok,rv,q⟩
 cases fl with
 |ret u=>
  obtain⟨v,σ',H',J,rv,q⟩:=hs
  exact fin J rv q
 |next=>
  obtain⟨σ',H',J,q⟩:=hs
  exact fin (v:=V.non) (u:=Value.none) J rfl q
 |brk=>
  obtain⟨_,_,_,q⟩:=hs
  exact False.elim q
 |cont=>
  obtain⟨_,_,_,q⟩:=hs
  exact False.elim q⟩
end
noncomputable def mK(c:Addr):ah->Bool
 |.pin true a _ _=>a==c
 |_=>false
open Classical in
def tf(ok:Obj->Prop)(F:List W->List ah->R W)(m:Nat)(ws:List W)(st:List ah):R W:=match st[m]? with
 |some (.pin false _ o _)=>if ok o then(match pM ((lF o).map fun y=>(st.findIdx? (mK y.2)).getD 0) st with
   |some (l,st1)=>if (l.map fun x=>x.2.1)=(lF o).map (·.2)then(match F (ws++l.map fun x=>x.2.2.2) st1 with
     |.ok w cV=>(match z4 l cV with
      |some jv=>.ok w jv
      |none=>.bad)
     |_=>.bad)else .bad
   |none=>.bad)else .bad
 |_=>.bad
def oT(i n:Nat)(ok:Obj->Prop)(F:List W->List ah->R W)(fs:FA):FE:=fun ρ st=>match ρ[i]? with
 |some (some (.loc m))=>(match st[m]? with
  |some (.pin false _ _ _)=>(fs ρ st).bind fun ws st1=>if ws.length=n then tf ok F m ws st1 else .bad
  |_=>.bad)
 |_=>.bad
theorem jT{l:List jn}(h:H b=none):me l H b=none:=by
 by_cases q:∃x∈l,x.2.1=b
 ·exact rL q
 ·rw[iM fun x hx e=>q ⟨x,hx,e⟩];exact h
theorem ym:∀{l:List jn},(∀x∈l,yj K μ H h x)->∃rV zh,cH rV zh/\RelWs K μ H (l.map fun x=>x.2.2.2) rV/\Paired (fun(x:jn) (u:Value)=>h.IsCell x.2.1 (some u)) l zh
 |[],_=>⟨[],[],.nil,.nilI,.nil⟩
 |x::l,ha=>by
  obtain⟨rV,zh,a,b,c⟩:=ym (l:=l) fun y hy=>ha y (ay _ hy)
  obtain⟨_,g,u,v,d,ru,rx⟩:=ha x aM
  exact⟨v::rV,u::zh,.cons ru a,.consI rx b,.cons ⟨_,g,d⟩ c⟩
theorem u7{R:Addr->α->Prop}:∀{l:List jn} {cl:List (Str×Addr)} {m:List α},(l.map fun x=>x.2.1)=cl.map (·.2)->Paired (fun(x:jn) u=>R x.2.1 u) l m->Paired (fun(y:Str×Addr) u=>R y.2 u) cl m
 |[],[],_,_,.nil=>.nil
 |[],_::_,_,e,_=>by simp at e
 |_::_,[],_,e,_=>by simp at e
 |x::l,y::cl,_,e,.cons r t=>by
  simp only[aF,List.cons.injEq]at e
  exact .cons (by rw[<- e.1];exact r) (u7 e.2 t)
theorem yn{R T:α->β->Prop}:∀{l:List α} {m:List β},Paired R l m->(∀a∈l,∀b,T a b)->Paired (fun a b=>R a b/\T a b) l m
 |_,_,.nil,_=>.nil
 |_,_,.cons r t,h=>.cons ⟨r,h _ aM _⟩ (yn t fun a ha=>h a (ay _ ha))
section
variable{fs:FA}
theorem IN(i:Nat){k k':Nat}{ok:Obj->Prop}(Nk:oS X.prog X.w X.K X.mg X.base k n m ok F)(hm:∀o,ok o->(lF o).length=m)(hr:fR k' X.A)(hk:k<=k')(ha:SA X (e::es) fs)
  (hN:X.N[i]?=some x:=by rfl) (hv:Oi X.env.scope x:=by first|exact Or.inl rfl|exact Or.inr (Or.inl rfl)|exact Or.inr (Or.inr rfl)) (zd:(x==("__debug__":Str))=false:=by decide)
  (nJ:(x==("__classdict__":Str))=false:=by decide) (he:starEach (e::es) X.env=(false,eval e X.env)::starEach es X.env:=by rfl) (qK:(backTo pos (starEach es X.env)).any (·.1)=false:=by rfl) :
  SE X (.Call (.Name x p) (e::es) [] pos) (oT i n ok F fs):=⟨by
 intro pins s σ H Q I h
 walk_at "2"
 unfold oT at h
 split at h
 ·rename_i mm e1
  split at h
  ·rename_i f0 o0 w0 e2
   obtain⟨v,hσ,rx⟩:=lz l.env e1
   obtain⟨f,hmu,rfl⟩:=rx.locE
   obtain⟨a0,hmu0,ea,hH0,hf0,_⟩:=l.sto.get e2
   rw[hmu]at hmu0;cases hmu0
   subst ea
   refine fm (gq ((pv i hN hv zd nJ) pins s σ H (fun v H1=>v=.ref f/\H1=H) I ⟨_,hσ,rfl,rfl⟩) fun u s1 zc=>?_)
   obtain⟨v1,H1,I1,ru,rfl,rfl⟩:=zc
   obtain rfl:u=Value.ref f:=ru
   have fnAt:∀{H2:Hp} {h2:Heap} {o:Obj},kC X.prog X.w H2 h2->H2 f=some (ly f o)->(∃fd cd,o.data=.func fd/\fd.code=.ref cd/\H2 cd=some (iW cd fd.qualname))->PySem.W.FnAt f h2:=fun{H2 h2 o} hok q r=>by
    obtain⟨g,_⟩:=hok _ _ q
    obtain⟨fd,_,d,_⟩:=r
    obtain⟨c1,c2,c3,c4⟩:=o
    cases d
    exact⟨c1,c2,fd,c4,g⟩
   have h':Pl X fs σ H1 fun vs H2=>∃μ1 st1 ws,Rl X μ1 ρ st1 σ H2/\μ <+: μ1/\RelWs X.K μ1 H2 ws vs/\RK X (rd X) μ1 σ H2 Q (if ws.length=n then tf ok F mm ws st1 else .bad):=
    ⟨μ,ρ,st,l,RK.bind h l fun μ1 st1 x v H1 p1 x1 l1 q1 h1=>⟨μ1,st1,x,l1,p1,q1,h1⟩⟩
   refine PySem.W.callWith_F (q:=f) (fnAt I1.hok hH0 (hf0 rfl)) (gq (ha.h pos pins s1 σ H1 _ I1 h') fun us s2 ⟨vs,H2,I2,r,μ1,st1,ws,l1,p1,r1,q⟩=>?_) he qK
   by_cases c:ws.length=n
   ·rw[aw c]at q
    unfold tf at q
    split at q
    ·rename_i f1 o1 w1 e3
     obtain⟨a1,hmu1,ea1,hH1,hf1,_⟩:=l1.sto.get e3
     rw[pre_get p1 hmu]at hmu1;cases hmu1
     subst ea1
     have zo:=hf1 rfl
     refine⟨fnAt I2.hok hH1 zo,?_⟩
     obtain⟨go,_⟩:=I2.hok _ _ hH1
     obtain⟨fd,cd,hd,lM,hHc⟩:=zo
     obtain⟨⟨oc,vsc,tc,hoc,hdc,hvc⟩,_⟩:=I2.hok _ _ hHc
     by_cases hok:ok o1
     ·rw[aw hok]at q
      split at q
      ·rename_i lv cV e4
       by_cases had:(lv.map fun x=>x.2.1)=(lF o1).map (·.2)
       ·rw[aw had]at q
        split at q
        ·rename_i wv jv e5
         split at q
         ·rename_i RA e6
          obtain⟨S1,hok1,x1,la,nd⟩:=s_ l1.sto I2.hok e4
          have inH:∀y∈lv,H2 y.2.1≠none:=fun y hy=>by rw[(la y hy).2];simp
          have out:∀{b:Addr},H2 b=none->∀y∈lv,y.2.1≠b:=fun{b} n y hy z=>inH y hy (by rw[z];exact n)
          have outT:∀{b:Addr} {u:HO},H2 b=some u->(∀φ,u≠.ext φ)->∀y∈lv,y.2.1≠b:=fun{b u} n ne y hy z=>by have:=(la y hy).2;rw[z,n]at this;cases this;exact ne _ rfl
          obtain⟨rV,zh,rc,rwc,pc⟩:=ym fun y hy=>(la y hy).1
          have e0:=I2.env0
          have e0':xE X.prog X.w X.K X.mg X.base X.A X.stack s2 (me lv H2):=⟨e0.frames,e0.mod,fun b o q=>⟨(e0.bs b o q).1,jT (e0.bs b o q).2⟩,e0.bsz,e0.funs,fun b hb=>jT (e0.frf b hb),hok1,e0.bare⟩
          have jd:Paired (fun(y:Str×Addr) (u:Value)=>s2.heap.IsCell y.2 (some u)/\me lv H2 y.2=none) (lF o1) zh:=
           u7 (R:=fun a u=>s2.heap.IsCell a (some u)/\me lv H2 a=none) had (yn pc fun y hy _=>rL ⟨y,hy,rfl⟩)
          have d7:(ws++lv.map fun x=>x.2.2.2).length=n+m:=by
           rw[aN,c,ai]
           have:=cL List.length had
           rw[ai,ai,hm o1 hok]at this
           rw[this]
          have rall:RelWs X.K μ1 (me lv H2) (ws++lv.map fun x=>x.2.2.2) (vs++rV):=(RelWs.pr.mpr (Paired.imp' (fun _ _ z=>z.mono (af _) x1) (RelWs.pr.mp r1))).app rwc
          refine mz (iN ((Nk.mono hk).run X.A X.stack s2 (me lv H2) f o1 fd us zh vs rV (fun v H'=>∃μ',μ1 <+: μ'/\dC X.K (me lv H2) H'/\fW X.K X.mg μ' jv H'/\be X.K μ' H' wv v) (fun _ _ _=>False) hr e0' go hok hd ⟨cd,oc,vsc,tc,lM,hoc,hdc,hvc⟩ r rc (by rw[<- r.length,<- r1.len,c]) jd
           ⟨by rw[<- rall.len];exact d7,μ1,_,cV,S1,rall,by rw[e5];exact fun μ' v H' a b c d=>⟨μ',a,b,c,d⟩⟩) fun rr s' hq=>?_)
          cases rr with
          |error ev=>obtain⟨_,_,_,_,_,_,z,_⟩:=hq;exact z.elim
          |ok fl=>
           cases fl with
           |next=>exact False.elim hq
           |brk=>exact False.elim hq
           |cont=>exact False.elim hq
           |ret u=>
            obtain⟨v,H',os,bare,un,hok',rv,μ',pm,xm,Sm,rm⟩:=hq
            have hla:∀y∈lv,yj X.K μ' H' s'.heap y/\H' y.2.1=none:=fun y hy=>by
             obtain⟨⟨g1,g2,u1,v1,g3,g4,g5⟩,_⟩:=la y hy
             have hn:me lv H2 y.2.1=none:=rL ⟨y,hy,rfl⟩
             exact⟨⟨pre_get pm g1,un.keep _ _ g2 hn (fun z=>inH y hy (I2.stkFree _ z)) #[7],u1,v1,g3,g4,g5.mono pm xm⟩,un.free _ _ g2 hn #[7]⟩
            obtain⟨Sp,hokp,xp⟩:=Bg Sm hok' hla nd e6
            have un':Un (uo X.stack) [] H2 (oQ lv H') s2.heap s'.heap:=by
             refine⟨fun b o q n hb hx=>un.keep b o q (jT n) hb hx,fun b o q n hb hx=>un.slot b o q (jT n) hb hx,fun b o q n hx=>?_,un.there,fun b xs q=>?_,fun b o u q=>?_,fun b ps q=>?_⟩
             ·rw[f6 (out n)];exact un.free b o q (jT n) hx
             ·have ot:=outT q #[13]
              rw[f6 ot];exact un.tups b xs (by rw[iM ot];exact q)
             ·have ot:=outT q #[13]
              rw[f6 ot];exact un.frzs b o u (by rw[iM ot];exact q)
             ·have ot:=outT q #[13]
              rw[f6 ot];exact un.tbls b ps (by rw[iM ot];exact q)
            have I3:bw X pins σ (oQ lv H') s':=I2.call' os un' hokp bare fun b hb=>absurd hb #[7]
            exact⟨v,_,I3,rv,q μ' v _ pm (x1.trans (xm.trans xp)) Sp (rm.mono (af _) xp)⟩
         ·exact q.elim
        ·exact q.elim
       ·rw[aC had]at q;exact q.elim
      ·exact q.elim
     ·rw[aC hok]at q;exact q.elim
    ·exact q.elim
   ·rw[aC c]at q;exact q.elim
  ·exact h.elim
 ·exact h.elim⟩
end
open Classical in
noncomputable def u8(ok:α->Prop)(f:α->R W):R W:=if h:∃r,∀a,ok a->f a=r then h.choose else .bad
theorem EM{ok:α->Prop}{f:α->R W}{r:R W}(a0:α)(h0:ok a0)(h:∀a,ok a->f a=r):u8 ok f=r:=by
 have e:∃r,∀a,ok a->f a=r:=⟨r,h⟩
 unfold u8
 rw[my e,<- e.choose_spec a0 h0,h a0 h0]
def lG:List (Str×Addr)->List Obj->List W->List jn
 |y::cl,o::os,w::ws=>(0,y.2,o,w)::lG cl os ws
 |_,_,_=>[]
def u9:List Nat->cu->Option (List W)
 |[],_=>some []
 |i::is,ρ=>match ρ[i]? with
  |some (some w)=>(match u9 is ρ with
   |some ws=>some (w::ws)
   |none=>none)
  |_=>none
theorem EN{ok:α->Prop}{f:α->R W}(a:α)(h:ok a):u8 ok f=f a\/u8 ok f=.bad:=by
 unfold u8
 by_cases e:∃r,∀a,ok a->f a=r
 ·rw[my e];exact .inl (e.choose_spec a h).symm
 ·rw[dif_neg e];exact .inr rfl
open Classical in
def Bj(F:List W->List ah->R W)(C:List (Str×Addr))(cws ws:List W)(st1:List ah)(os:List Obj):R W:=match F ws (st1++iB (lG C os cws))with
  |.ok w cV=>(match pM (List.range' st1.length C.length) cV with
   |some (l',jv)=>if (l'.map fun x=>(x.2.1,x.2.2.1))=(lG C os cws).map fun x=>(x.2.1,x.2.2.1)then .ok w (iJ st1 jv [w])else .bad
   |none=>.bad)
  |_=>.bad
def CQ(F:List W->List ah->R W)(o:Obj)(cws ws:List W)(st1:List ah):R W:=u8 (fun os:List Obj=>os.length=(lF o).length) (Bj F (lF o) cws ws st1)
def u_(n:Nat)(F:List W->List ah->R W)(o:Obj)(is:List Nat)(fs:FA):FE:=fun ρ st=>(fs ρ st).bind fun ws st1=>if ws.length=n then(match u9 is ρ with
  |some cws=>CQ F o cws ws st1
  |none=>.bad)else .bad
section
variable{st:List ah}
theorem EO(I:bw X pins σ H s)(l:Rl X μ ρ st σ H):∀{cl:List (Str×Addr)} {is:List Nat} {cws:List W},(∀y∈cl,X.env.cells.lookup y.1=some y.2/\X.env.scope.names.lookup y.1=some .cell)->Paired (fun(i:Nat) (y:Str×Addr)=>X.N[i]?=some y.1) is cl->u9 is ρ=some cws ->
  ∃os:List Obj,os.length=cl.length/\((lG cl os cws).map fun x=>x.2.1)=cl.map (·.2)/\∀x∈lG cl os cws,H x.2.1=none/\s.heap.get? x.2.1=some x.2.2.1/\∃u v,x.2.2.1.data=.cell (some u)/\bN v u/\be X.K μ H x.2.2.2 v
 |[],[],cws,_,.nil,e=>by cases e;exact⟨[],rfl,rfl,fun _ h=>absurd h (by simp[lG])⟩
 |y::cl,i::is,cws,ha,.cons hi t,e=>by
  unfold u9 at e
  split at e
  ·rename_i w e1
   split at e
   ·rename_i ws e2
    cases e
    obtain⟨os,q1,q2,q3⟩:=EO I l (fun y hy=>ha y (ay _ hy)) t e2
    obtain⟨v,hσ,rx⟩:=lz l.env e1
    obtain⟨hc,hk⟩:=ha y aM
    obtain⟨mm,GT,hlk⟩:=id I.loc
    obtain⟨u,ru,lk⟩:=hlk i y.1 v hi hσ (.inr (.inl hk))
    obtain⟨o,ho,hd⟩:s.heap.IsCell y.2 (some u):=by
     rcases lk with⟨kl,_⟩|⟨_,c1,hc1,hcc⟩
     ·have:X.env.scope.names.lookup y.1=some .local:=kl
      rw[hk]at this;cases this
     ·rw[hc]at hc1;cases hc1;exact hcc
    refine⟨o::os,by simp[q1],by simp only[lG,aF,q2],fun x hx=>?_⟩
    rcases aK.mp (show x∈(0,y.2,o,w)::lG cl os ws from hx)with rfl|hx
    ·exact⟨I.freeC _ _ hc,ho,u,v,hd,ru,rx⟩
    ·exact q3 x hx
   ·cases e
  ·cases e
variable{fs:FA}
theorem My{k k':Nat}{qn:Str}{pr:Arguments}{is:List Nat}(Fn:eX X.prog X.w X.K X.mg X.base k x n F)(hr:fR k' X.A)(hk:k<=k')(ok:Mx X name qn pr body sc o)(ha:SA X (e::es) fs)
  (fP:X.env.cells=cellsFrom m X.env.scope.names []) (qk:∀x∈sc.names,x.2=.free->X.env.scope.names.lookup x.1=some .cell) (kG:((cD X.env sc.names []).map (·.1)).Nodup) (vG:Paired (fun(i:Nat) (y:Str×Addr)=>X.N[i]?=some y.1) is (cD X.env sc.names []))
  (TK:∀y∈cD X.env sc.names [],X.env.scope.names.lookup y.1=some .cell) (zo:∀x,X.fn x=true)
  (hg:Gl X x:=by rfl) (zd:(x==("__debug__":Str))=false:=by decide)
  (he:starEach (e::es) X.env=(false,eval e X.env)::starEach es X.env:=by rfl) (qK:(backTo pos (starEach es X.env)).any (·.1)=false:=by rfl):SE X (.Call (.Name x p) (e::es) [] pos) (u_ n F o is fs):=⟨by
 intro pins s σ H Q I h
 obtain⟨f,fd,ps,hm,hkp,hn,hb,Fo⟩:=(Fn.mono hk).ex
 obtain⟨jc,cd,ct,rfl⟩:=ok
 refine fm (AE I hg hm ?_ zd)
 walk_at "2"
 have h':Pl X fs σ H fun vs H1=>∃μ1 st1 ws,Rl X μ1 ρ st1 σ H1/\RelWs X.K μ1 H1 ws vs/\RK X (rd X) μ1 σ H1 Q (if ws.length=n then(match u9 is ρ with
  |some cws=>CQ F (fnMade name qn pr body sc (cD X.env sc.names []) jc ((X.mg "__name__").getD .none) cd ct) cws ws st1
  |none=>.bad)else .bad):=
  ⟨μ,ρ,st,l,RK.bind h l fun μ1 st1 x v H1 p1 x1 l1 q1 h1=>⟨μ1,st1,x,l1,q1,h1⟩⟩
 refine PySem.W.callWith_K (h₀:=X.base) I.ok.mod.kin hkp (gq (ha.h pos pins s σ H _ I h') fun us s1 ⟨vs,H1,I1,r,μ1,st1,ws,l1,r1,q⟩=>⟨I1.kIn,?_⟩) he qK
 by_cases c:ws.length=n
 ·rw[aw c]at q
  split at q
  ·rename_i cws ec
   have has:∀x∈sc.names,x.2=.free->∃c,X.env.cells.lookup x.1=some c:=fun x hx hf=>by rw[fP];exact iI (qk x hx hf)
   have hcl':∀y∈cD X.env sc.names [],X.env.cells.lookup y.1=some y.2:=lx sc.names [] has #[7]
   obtain⟨os,ol,oa,ol2⟩:=EO I1 l1 (fun y hy=>⟨hcl' y hy,TK y hy⟩) vG ec
   unfold CQ at q
   generalize hC:cD X.env sc.names []=C at *
   have hclo:lF (fnMade name qn pr body sc C jc ((X.mg "__name__").getD .none) cd ct)=C:=rfl
   rw[hclo]at q
   rcases EN (ok:=fun os:List Obj=>os.length=C.length) (f:=Bj F C cws ws st1) os ol with Oa|Oa
   ·rw[Oa]at q
    unfold Bj at q
    have ndc:((lG C os cws).map fun x=>x.2.1).Nodup:=by
     rw[oa]
     have gen:∀l:List (Str×Addr),(∀y∈l,X.env.cells.lookup y.1=some y.2)->(l.map (·.1)).Nodup->(l.map (·.2)).Nodup:=by
      intro l
      induction l with
      |nil=>intro _ _;exact ku
      |cons y l ih=>
       intro a b
       rw[aF,bG]at b ⊢
       refine⟨fun z=>b.1 ?_,ih (fun y hy=>a y (ay _ hy)) b.2⟩
       obtain⟨y',zf,e⟩:=al.mp z
       have:=I.ok.inj _ _ _ (a y aM) (by rw[<- e];exact a y' (ay _ zf))
       rw[this]
       exact al.mpr ⟨y',zf,rfl⟩
     exact gen _ hcl' kG
    split at q
    ·rename_i wv cV e5
     split at q
     ·rename_i l' jv e6
      split at q
      ·rename_i hll
       obtain⟨S1,hok1,x1⟩:=yk l1.sto I1.hok ol2 ndc
       generalize hL:lG C os cws=L at *
       have isCell:∀y∈L,∃z,X.env.cells.lookup z=some y.2.1:=fun y hy=>by
        have:y.2.1∈C.map (·.2):=by rw[<- oa];exact al.mpr ⟨y,hy,rfl⟩
        obtain⟨z,hz,e⟩:=al.mp this
        exact⟨z.1,by rw[<- e];exact hcl' z hz⟩
       have big:∀y∈L,X.s₀.heap.objs.size<=y.2.1:=fun y hy=>by
        obtain⟨z,hz⟩:=isCell y hy
        exact I1.ok.cab z _ (zo z) hz
       have noStk:∀y∈L,y.2.1∉uo X.stack:=fun y hy z=>by
        rcases aK.mp (I1.stkSub _ z)with e|hb
        ·obtain⟨z',hz⟩:=isCell y hy
         exact I1.cne z' _ hz e
        ·obtain⟨_,ob,GR,_⟩:=I1.ok.funs.mem hb
         exact absurd (aV (aE GR) (big y hy)) (bx _)
       have e0:=I1.env0
       have e0':xE X.prog X.w X.K X.mg X.base X.A X.stack s1 (oQ L H1):=⟨e0.frames,e0.mod,fun b o q=>⟨(e0.bs b o q).1,by
        rw[f6 fun y hy z=>?_]
        ·exact(e0.bs b o q).2
        ·have:=aE (I1.ok.bs b o q).1
         rw[<- z]at this
         exact absurd (aV this (big y hy)) (bx _)⟩,e0.bsz,e0.funs,fun b hb=>by rw[f6 fun y hy z=>noStk y hy (by rw[z];exact hb)];exact e0.frf b hb,hok1,e0.bare⟩
       have hl':(us++([]:List Value)).length=ps.length:=by rw[bO,<- r.length,<- r1.len,c,hn]
       have rall:RelWs X.K (μ1++L.map fun x=>x.2.1) (oQ L H1) ws vs:=RelWs.pr.mpr (Paired.imp' (fun _ _ z=>z.mono (aJ _ _) x1) (RelWs.pr.mp r1))
       refine mz (iN (Fo.run X.A X.stack s1 (oQ L H1) ⟨us,[]⟩ us vs (fun v H'=>∃μ',(μ1++L.map fun x=>x.2.1) <+: μ'/\dC X.K (oQ L H1) H'/\fW X.K X.mg μ' cV H'/\be X.K μ' H' wv v) (fun _ _ _=>False) hr e0' (by have:=hb s1 us I1.kIn hl';rwa[bO]at this) r
        ⟨by rw[<- r1.len];exact c,_,ws,_,S1,rall,by rw[e5];exact fun μ' v H' a b c d=>⟨μ',a,b,c,d⟩⟩) fun rr s' hq=>?_)
       cases rr with
       |error ev=>obtain⟨_,_,_,_,_,_,z,_⟩:=hq;exact z.elim
       |ok fl=>
        cases fl with
        |next=>exact False.elim hq
        |brk=>exact False.elim hq
        |cont=>exact False.elim hq
        |ret u=>
         obtain⟨v,H',os',bare,un,hok',rv,μ',pm,xm,Sm,rm⟩:=hq
         obtain⟨Sh,hokh,xh,la,ndl⟩:=s_ Sm hok' e6
         have pm1:μ1 <+: μ':=(aJ _ _).trans pm
         obtain⟨μ2,p2,S2,r2⟩:=jm l1.sto Sh pm1 (.consI (rm.mono (af _) xh) .nilI)
         obtain⟨_,ee,r3⟩:=r2.one
         cases ee
         have both1:∀y∈L,∃z∈l',z.2.1=y.2.1/\z.2.2.1=y.2.2.1:=fun y hy=>by
          have:(y.2.1,y.2.2.1)∈l'.map fun x=>(x.2.1,x.2.2.1):=by rw[hll];exact al.mpr ⟨y,hy,rfl⟩
          obtain⟨z,hz,e⟩:=al.mp this
          exact⟨z,hz,(nL e).1,(nL e).2⟩
         have both2:∀z∈l',∃y∈L,y.2.1=z.2.1:=fun z hz=>by
          have:(z.2.1,z.2.2.1)∈L.map fun x=>(x.2.1,x.2.2.1):=by rw[<- hll];exact al.mpr ⟨z,hz,rfl⟩
          obtain⟨y,hy,e⟩:=al.mp this
          exact⟨y,hy,(nL e).1⟩
         have inL:∀{b:Addr} {u:HO},H1 b=some u->∀y∈L,y.2.1≠b:=fun{b u} e y hy z=>by have:=(ol2 y hy).1;rw[z,e]at this;cases this
         have outT:∀{b:Addr} {u:HO},H' b=some u->(∀φ,u≠.ext φ)->∀y∈l',y.2.1≠b:=fun{b u} n ne y hy z=>by have:=(la y hy).2;rw[z,n]at this;cases this;exact ne _ rfl
         have un':Un (uo X.stack) [] H1 (me l' H') s1.heap s'.heap:=by
          refine⟨fun b o q n hb hx=>?_,fun b o q n hb hx=>?_,fun b o q n hx=>?_,un.there,fun b xs q=>?_,fun b o u q=>?_,fun b ps q=>?_⟩
          ·by_cases hbL:∃y∈L,y.2.1=b
           ·obtain⟨y,hy,rfl⟩:=hbL
            obtain⟨z,hz,z1,z2⟩:=both1 y hy
            have g1:=(ol2 y hy).2.1
            rw[q]at g1;cases g1
            have g2:=(la z hz).1.2.1
            rw[z1,z2]at g2
            exact g2
           ·exact un.keep b o q (by rw[f6 fun y hy z=>hbL ⟨y,hy,z⟩];exact n) hb hx
          ·exact un.slot b o q (by rw[f6 fun y hy z=>noStk y hy (by rw[z];exact hb)];exact n) hb hx
          ·by_cases hbL:∃y∈L,y.2.1=b
           ·obtain⟨y,hy,rfl⟩:=hbL
            obtain⟨z,hz,z1,_⟩:=both1 y hy
            exact rL ⟨z,hz,z1⟩
           ·exact jT (un.free b o q (by rw[f6 fun y hy z=>hbL ⟨y,hy,z⟩];exact n) hx)
          ·have t:=un.tups b xs (by rw[f6 (inL q)];exact q)
           rw[iM (outT t #[13])];exact t
          ·have t:=un.frzs b o u (by rw[f6 (inL q)];exact q)
           rw[iM (outT t #[13])];exact t
          ·obtain⟨j_,t⟩:=un.tbls b ps (by rw[f6 (inL q)];exact q)
           exact⟨j_,by rw[iM (outT t #[13])];exact t⟩
         have I3:bw X pins σ (me l' H') s':=I1.call' os' un' hokh bare fun b hb=>absurd hb #[7]
         exact⟨v,_,I3,rv,q μ2 v _ p2 (x1.trans (xm.trans xh)) S2 r3⟩
      ·exact q.elim
     ·exact q.elim
    ·exact q.elim
   ·rw[Oa]at q;exact q.elim
  ·exact q.elim
 ·rw[aC c]at q;exact q.elim⟩
end
theorem nz:∀{ns:List (Str×NameKind)} {cs:List (Str×Addr)} {y:Str×Addr},y∈cD env ns cs->y∈cs\/∃x∈ns,x.1=y.1/\x.2=.free
 |[],cs,y,h=>.inl h
 |(n,k)::r,cs,y,h=>by
  unfold cD at h
  rcases nz h with h|⟨x,hx,e⟩
  ·by_cases hk:(k==NameKind.free)=true
   ·rw[aw hk]at h
    rcases aK.mp h with rfl|h
    ·exact .inr ⟨(n,k),aM,rfl,jf hk⟩
    ·exact .inl h
   ·rw[aC hk]at h;exact .inl h
  ·exact .inr ⟨x,ay _ hx,e⟩
theorem IO{pr:Arguments}{xs:List Str}(h:xs.length=m)(o:Obj)(ok:Mw name q pr body sc xs o):(lF o).length=m:=by
 obtain⟨cl,jc,pm,cd,ct,hx,_,rfl⟩:=ok
 rw[<- h,<- hx,ai];rfl
noncomputable def Th(a b:List (Str×NameKind)):Bool:=b.all fun x=>!(x.2==.free)||a.lookup x.1==some .cell
theorem z6{a b:List (Str×NameKind)}(h:Th a b=true):∀x∈b,x.2=.free->a.lookup x.1=some .cell:=fun x hx e=>by
 have:=d9.mp h x hx
 rw[e]at this
 have t:(!(NameKind.free==NameKind.free)||a.lookup x.1==some .cell)=true:=this
 simpa using t
abbrev RY(name q:Str)(st:Stmt)(xs:List Str):Obj->Prop:=Mw name q (dO st) (dQ st) (aY st) xs
section
variable{st:Stmt}{rest:List Stmt}{P c:Addr}{xs:List Str}{g:Addr->Obj->FS}
theorem EQ(lM:X.env.code=.ref c)(JH:codeHdIn X.K c P=true)(hB:rh X.base X.mg)(fP:X.env.cells=cellsFrom m X.env.scope.names [])(hN:X.N.Nodup)
  (uf:∀f o,Mx X name q (dO st) (dQ st) (aY st) o->SB X rest (g f o))
  (Ri:st=.FunctionDef name (dO st) (dQ st) [] none [] (aY st) none name pos:=by rfl)
  (qk:Th X.env.scope.names (aY st).names=true:=by first|rfl|kernel_rfl) (K6:(cD X.env (aY st).names []).map (·.1)=xs:=by rfl) (kG:Oo xs=true:=by first|rfl|kernel_rfl) (hq:qualnameIn X.env name name=q:=by rfl)
  (hi:X.N[i]?=some name:=by rfl) (hx:B8 X.env.scope name:=by first|exact Or.inl rfl|exact Or.inr rfl) (hf:X.fn name=true\/X.env.scope.names.lookup name=some .local:=by exact .inl rfl)
  (R8:(dO st).defaults=[]:=by rfl) (TB:(dO st).kw_defaults=[]:=by rfl) (ha:annTrees (dO st) none X.env=[]:=by rfl) :
  SB X (st::rest) (u6 (RY name q st xs) j P pos q i g):=by
 have h1:=IL (j:=j) (P:=P) (pos:=pos) (i:=i) (IK (j:=j) (pos:=pos) lM JH hB fP (z6 qk) K6 (wb kG) hq hN hi hx hf R8 TB ha) uf
 rw[Ri]
 exact h1
variable{fs:FA}
theorem IP{k k':Nat}{is:List Nat}(Fn:eX X.prog X.w X.K X.mg X.base k x n F)(hr:fR k' X.A)(hk:k<=k')(ok:Mx X name q (dO st) (dQ st) (aY st) o)(ha:SA X (e::es) fs)
  (fP:X.env.cells=cellsFrom m X.env.scope.names []) (vG:Paired (fun(i:Nat) (y:Str×Addr)=>X.N[i]?=some y.1) is (cD X.env (aY st).names []))
  (qk:Th X.env.scope.names (aY st).names=true:=by first|rfl|kernel_rfl) (K6:(cD X.env (aY st).names []).map (·.1)=xs:=by rfl) (kG:Oo xs=true:=by first|rfl|kernel_rfl) (zo:∀x,X.fn x=true:=by exact fun _=>rfl)
  (hg:Gl X x:=by rfl) (zd:(x==("__debug__":Str))=false:=by decide)
  (he:starEach (e::es) X.env=(false,eval e X.env)::starEach es X.env:=by rfl) (qK:(backTo pos (starEach es X.env)).any (·.1)=false:=by rfl):SE X (.Call (.Name x p) (e::es) [] pos) (u_ n F o is fs):=
 My Fn hr hk ok ha fP (z6 qk) (by rw[K6];exact wb kG) vG (fun y hy=>by
  rcases nz hy with h|⟨z,hz,e1,e2⟩
  ·exact absurd h #[7]
  ·rw[<- e1];exact z6 qk z hz e2) zo hg zd he qK
end
section
variable{a:Expr}
end
end L2
namespace L2
open PySem PySem.Spec PyProof.Rows PySem.W
def yo(kb:List (DK×W)):List (DK×W)->Option Bool
 |[]=>some true
 |(k,w)::r=>match w,jL kb k with
  |.int _,none=>some false
  |.int i,some (.int j)=>(yo kb r).map fun b=>(i==j)&&b
  |_,_=>none
def z7(x y:W)(st:List ah):R W:=match i3 st x,i3 st y with
 |some (_,ka),some (_,kb)=>if ka.length=kb.length then(match yo kb ka with
  |some b=>.ok (.bl (!b)) st
  |none=>.bad)else .ok (.bl true) st
 |_,_=>uA x y st
section
theorem ER{kb:List (DK×W)}{vb:List V}{ub:List (f'×Value)}(rb:RelWs K μ H (kb.map fun p=>p.2) vb)(qb:KV (dV kb vb) ub) :
  ∀(ka:List (DK×W)) {va:List V} {ua:List (f'×Value)} {b:Bool},RelWs K μ H (ka.map fun p=>p.2) va->KV (dV ka va) ua->yo kb ka=some b->PySem.W.KeqHits A s ub ua b:=by
 intro ka
 induction ka with
 |nil=>
  intro va ua b r q h
  cases q
  cases h
  exact .nil
 |cons p ka ih=>
  intro va ua b r q h
  obtain⟨k,w⟩:=p
  obtain⟨x,xs,rfl,r1,r2⟩:=RelWs.consE r
  unfold KV at q
  cases q with
  |@cons _ q0 _ qs h0 t0=>
   obtain⟨q1,q2⟩:=q0
   obtain⟨e1,e2⟩:=h0
   cases e1
   unfold yo at h
   have hv:=qb.val k.key
   cases w with
   |int i=>
    have:=r1.intE
    subst this
    obtain⟨t,rfl⟩:=e2
    rcases sQ k rb with⟨w',v',g1,g2,g3⟩|⟨g1,g2⟩
    ·rw[g1]at h
     rw[g2]at hv
     cases w' with
     |int j=>
      simp only[a_]at h
      obtain⟨b',h1,rfl⟩:=h
      have:=g3.intE
      subst this
      obtain⟨y,hy,ry⟩:=pe.some_of hv
      obtain⟨u,rfl⟩:=ry
      exact .hit hy (SeqAt.EqAt.int_int i t j u) (ih r2 t0 h1)
     |_=>cases h
    ·rw[g1]at h
     rw[g2]at hv
     cases h
     refine .miss (show valueAt ub k.key=none from ?_)
     cases e:valueAt ub k.key with
     |none=>rfl
     |some y=>rw[e]at hv;exact hv.elim
   |_=>cases h
theorem P7(hr:fR kk X.A):pE X (compareOp .NotEq) z7:=⟨fun pins s σ H x y v u Q I rv ru zq=>by
 walk_at "3"
 unfold z7 at q
 cases e1:i3 st wx with
 |none=>rw[e1]at q;exact(vV hr).h pins s σ H x y v u Q I rv ru ⟨μ,st,wx,wy,S,rx,ry,q⟩
 |some na=>
  cases e2:i3 st wy with
  |none=>rw[e1,e2]at q;exact(vV hr).h pins s σ H x y v u Q I rv ru ⟨μ,st,wx,wy,S,rx,ry,q⟩
  |some nb=>
   obtain⟨n,ka⟩:=na
   obtain⟨m,kb⟩:=nb
   rw[e1,e2]at q
   simp only at q
   obtain⟨a,va,_,_,rfl,ha,ra⟩:=nv S e1 rx
   obtain⟨b,vb,_,_,rfl,hb,rb⟩:=nv S e2 ry
   obtain rfl:v=Value.ref a:=rv
   obtain rfl:u=Value.ref b:=ru
   obtain⟨_,sa,ua,qa,da⟩:=og I.hok ha
   obtain⟨_,sb,ub,qb,db⟩:=og I.hok hb
   have la:ua.length=ka.length:=by rw[<- qa.length,qy ra]
   have lb:ub.length=kb.length:=by rw[<- qb.length,qy rb]
   have hu:X.A.units<cLine:=by have:=hr.units;omega
   by_cases hl:ka.length=kb.length
   ·rw[aw hl]at q
    cases ec:yo kb ka with
    |none=>rw[ec]at q;exact q.elim
    |some r=>
     rw[ec]at q
     refine PySem.W.keq_ne sa sb da db hu (fun _=>ER rb qb ka ra qa ec) ?_
     rw[la,lb,hl,du,oF]
     exact⟨.bl (!r),H,I,rfl,gH S q⟩
   ·rw[aC hl]at q
    refine PySem.W.keq_ne (r:=true) sa sb da db hu (fun z=>absurd (by rw[<- la,<- lb];exact z) hl) ?_
    rw[la,lb,bP.mpr hl]
    exact⟨.bl true,H,I,rfl,gH S q⟩,fun x y st=>by
 unfold z7
 split
 ·split
  ·split<;>trivial
  ·trivial
 ·exact(vV hr).n x y st⟩
end
end L2
namespace L2
open PySem PySem.Spec PyProof.Rows
section
theorem ES:iV X (.type "range") (fun xs H Q=>∃j:Int,xs=[.int j]/\∀l,H l=none->Q (.ref l) (eW H l (.rng 0 j))):=by
 intro pins s σ H xs us Q I r h
 obtain⟨j,rfl,q⟩:=h
 obtain⟨u,rfl,rx⟩:=jk r
 obtain⟨t,rfl⟩:=rx
 exact call_range_1 ⟨.ref s.heap.objs.size,_,I.laid (fun b o e=>ar _ e) (au _) (show eD X.prog X.w _ _ _ (.rng 0 j)from⟨_,_,_,aL _ rfl⟩),rfl,q _ (I.hok.fresh (au _))⟩
theorem z8(hh:X.A.handled=none):iV X (.type "list") (fun xs H Q=>∃(p:Addr) (n:Nat),xs=[.ref p]/\H p=some (.rng 0 n)/\n<=1000000/\∀l,H l=none->Q (.ref l) (eW H l (.lst ((List.range n).map fun i:Nat=>V.int (i:Int))))):=by
 intro pins s σ H xs us Q I r h
 obtain⟨p,n,rfl,hp,hn,q⟩:=h
 obtain⟨u,rfl,rx⟩:=jk r
 cases rx
 obtain⟨t,u,v,ho⟩:=(show eD X.prog X.w H s.heap p (.rng 0 n)from I.hok p _ hp)
 have hsz:Builtin.Range.rangeSize 0 (n:Int) 1=(n:Int):=by
  rw[rangeSize_one]
  split<;>omega
 refine call_list_range hh ho (small_one #[0] #[0] #[0] #[0]) hsz (a8 hn #[8]) fun h' tk acc c hk hS hacc=>?_
 obtain⟨ha1,ha2⟩:=hacc
 refine⟨.ref s.heap.objs.size,_,I.laid (t':=tk) hk (au _) (show eD X.prog X.w _ h' _ (.lst ((List.range n).map fun i:Nat=>V.int (i:Int)))from⟨by rw[ai,cB];exact a8 hn #[8],acc.toList,c,?_,by rw[hS]⟩),rfl,q _ (I.hok.fresh (au _))⟩
 obtain⟨l⟩:=acc
 have hl:l.length=n:=ha1
 have key:∀(k:Nat) (l:List Value),(∀j v,l[j]?=some v->∃t,v=Value.int (((k+j:Nat):Int)) t)->cH ((List.range' k l.length).map fun i:Nat=>V.int (i:Int)) l:=by
  intro k l
  induction l generalizing k with
  |nil=>intro;exact .nil
  |cons a r ih=>
   intro h
   refine .cons (h 0 a rfl) (ih (k+1) fun j v e=>?_)
   have:=h (j+1) v e
   rw[show k+1+j=k+(j+1) by omega]
   exact this
 have:=key 0 l fun j v e=>by
  obtain⟨t,e⟩:=ha2 j v (by simpa using e)
  exact⟨t,by rw[e];congr 1;omega⟩
 rw[hl,<- List.range_eq_range']at this
 exact this
def wm(ws:List W)(st:List ah):R W:=match ws with
 |[.int q]=>if 0<=q/\q<=1000000 then .ok (.loc st.length) (st++[.lst (bt 0 q.toNat)])else .bad
 |_=>.bad
theorem CS(n:Nat):RelWs K μ H (bt 0 n) ((List.range n).map fun i:Nat=>V.int (i:Int)):=by
 unfold bt
 generalize List.range n=l
 induction l with
 |nil=>exact .nilI
 |cons a r ih=>
  refine .consI ?_ ih
  show be K μ H (.int (0+(a:Int))) (.int (a:Int))
  rw[fM]
  exact .int
theorem IQ{a:Expr}{fs:FA}{p p2 pos JK:Pos}(hr:fR kk X.A)(hl:X.mg "list"=none)(hm:X.mg "range"=none)(ha:SA X [a] fs)(hg:Gl X "list":=by rfl)(Uo:Gl X "range":=by rfl)
  (he:starEach [a] X.env=[(false,eval a X.env)]:=by rfl) (Ox:starEach [Expr.Call (.Name "range" p2) [a] [] JK] X.env=[(false,eval (.Call (.Name "range" p2) [a] [] JK) X.env)]:=by rfl) :
  SE X (.Call (.Name "list" p) [.Call (.Name "range" p2) [a] [] JK] [] pos) (bh wm fs):=⟨(qm (z8 hr.hd) hg hl qN (ph (qm ES Uo hm boot_range ha.h #[8] #[8] he rfl) vK Ox) #[8] #[8] Ox rfl).imp fun σ H Q h=>by
 walk_at "2"
 walk_at "1"
 unfold wm at h1
 split at h1
 ·rename_i q
  obtain⟨y,rfl,ry⟩:=q1.one
  split at h1
  ·rename_i c
   refine⟨q,by rw[ry.intE],fun l0 hl0=>⟨l0,q.toNat,rfl,?_,by omega,fun l2 hl2=>?_⟩⟩
   ·unfold eW;rw[aw rfl,Int.toNat_of_nonneg c.1]
   ·have S':=l1.sto.same (cy hl0 (.rng 0 q))
    exact h1 (μ1++[l2]) _ _ (aJ _ _) (fO.same fun b u z=>cy hl2 _ b u (cy hl0 _ b u z)) (S'.newLst hl2 (CS _)) (no S')
  ·exact h1.elim
 ·exact h1.elim⟩
end
def yp(x y:W)(st:List ah):R W:=match x,y with
 |.loc n,.loc m=>m7 (lstOf st n) fun a=>m7 (lstOf st m) fun b=>m7 (fy a) fun i=>m7 (fy b) fun j=>.ok (.bl (!decide (i=j))) st
 |_,_=>.bad
section
theorem Bm{st:List ah}{zs:List W}{l:List Int}{x:V}(I:bw X pins σ H s)(S:fW X.K X.mg μ st H)(h:lstOf st n=some zs)(h2:fy zs=some l)(r:be X.K μ H (.loc n) x)(rv:bN x v) :
  ∃(a:Addr) (bJ:List Value),v=.ref a/\s.heap.IsList a bJ.toArray/\IntsAre bJ l:=by
 obtain⟨a,vs,g,hS,rz⟩:=S.lstOf h
 obtain⟨b1,f1,rfl⟩:=r.locE
 rw[g]at f1;cases f1
 have ev:=lD h2 rz
 subst ev
 cases rv
 obtain⟨bJ,rv',pl,hz⟩:=I.list hS
 exact⟨a,bJ,rfl,pl.isList,ny (by simpa using rv')⟩
theorem Ka(hr:fR kk X.A):pE X (compareOp .NotEq) yp:=⟨fun pins s σ H x y v u Q I rv ru zq=>by
 walk_at "3"
 unfold yp at q
 split at q
 ·rename_i n m
  cases e1:lstOf st n with
  |none=>rw[e1]at q;exact q.elim
  |some a=>
   rw[e1,bE]at q
   cases e2:lstOf st m with
   |none=>rw[e2]at q;exact q.elim
   |some b=>
    rw[e2,bE]at q
    cases e3:fy a with
    |none=>rw[e3]at q;exact q.elim
    |some i=>
     rw[e3,bE]at q
     cases e4:fy b with
     |none=>rw[e4]at q;exact q.elim
     |some j=>
      rw[e4,bE]at q
      obtain⟨p,bJ,rfl,l1,i1⟩:=Bm I S e1 e3 rx rv
      obtain⟨p',its',rfl,l2,i2⟩:=Bm I S e2 e4 ry ru
      exact PySem.W.ke_ne_ints l1 l2 i1 i2 hr.units ⟨.bl (!decide (i=j)),H,I,rfl,gH S q⟩
 ·exact q.elim,fun x y st=>by
 unfold yp
 split
 ·exact hZ fun _=>hZ fun _=>hZ fun _=>hZ fun _=>trivial
 ·trivial⟩
end
section
end
section
variable{pr:Arguments}{Uw ul:Pos}{P:Addr}{xs:List Str}{UD:Stmt}
end
section
variable{cs:List Expr}{JK:Pos}{y:Str}{fs:FA}{Uy:Obj->Prop}{G:List W->List ah->R (List W)}
variable{ea eb:Expr}
end
open AutoSeq1 (wpAny_loadPart')
section
variable{w:World}
variable{n c:Addr}{k:Nat}{xs ys zs:Array Value}{x y t:Value}
end
section
variable{w:World}
end
section
variable{a b:Expr}{fs:FA}
end
section
variable{w:World}{d:Addr}{es:Array DictEntry}{ep:Nat}
end
section
variable{st:List ah}
end
open AutoSeq1 (wpAny_loadPart')
section
end
section
variable{st:Stmt}{P c:Addr}{xs:List Str}
end
section
variable{w:World}{k:Nat}{st:Stmt}{Uy:Obj->Prop}{G:List W->List ah->R (List W)}
end
section
variable{fi:TX}{f:FG}
end
section
end
section
variable{w:World}
end
noncomputable def MA(dn:List (Str×NameKind))(sn:List (Str×NameKind))(nm:List Str)(cap:List (Option Nat))(N:List Str):Bool:=
 (sn.all fun x=>!(x.2==.local)||sn.lookup x.1==some .local)&&(sn.all fun y=>!(y.2==.cell)||sn.all fun z=>!(z.1==y.1)||z.2==.cell)&&(sn.all fun x=>!(x.2==.free)||dn.lookup x.1==some .cell)&&(cap.length==nm.length) &&
 ((List.range cap.length).all fun i=>match cap[i]? with
  |some (some j)=>(match nm[i]?,N[j]? with
   |some x,some y=>x==y&&dn.lookup x==some .cell&&sn.lookup x==some .free
   |_,_=>false)
  |_=>true)
theorem z9{l:List (Str×NameKind)}{k:NameKind}(hm:(x,k)∈l)(h:∀z∈l,z.1=x->z.2=k):l.lookup x=some k:=by
 induction l with
 |nil=>cases hm
 |cons y r ih=>
  obtain⟨a,b⟩:=y
  by_cases e:x=a
  ·subst e
   have:b=k:=h (x,b) aM rfl
   subst this
   simp[d8]
  ·have hb:(x==a)=false:=by simpa using e
   rw[d8,hb]
   rcases aK.mp hm with q|q
   ·cases q;exact absurd rfl e
   ·exact ih q fun z hz=>h z (ay _ hz)
theorem IR{pos:Pos}{g:TG}(fz:X.calm=true)
  (fA:scope.kind=.function) (hB:MA X.env.scope.names scope.names nm cap X.N=true)
  (hi:QI X tg iter wi) (hg:∀cl C s0 H0 fp,QG (cG X nm scope cl C s0 H0 fp) tg g) (ht:∀cl C s0 H0 fp,Ph (cG X nm scope cl C s0 H0 fp) iU tc)
  (he:∀cl C s0 H0 fp,QE (cG X nm scope cl C s0 H0 fp) jV te) (hs:∀x,foldedSetIterable iter X.env x=pure x:=by intro _;rfl) :
  QE X #[4] (pq cap wi g tc te):=by
 simp only[MA,bA,d9,ie,iR,eN,bP]at hB
 obtain⟨⟨⟨⟨b1,b2⟩,b3⟩,b4⟩,b5⟩:=hB
 have allc:∀x,(x,NameKind.cell)∈scope.names->∀z∈scope.names,z.1=x->z.2=.cell:=fun x hx z hz e=>by
  rcases b2 _ hx with q|q
  ·exact absurd rfl q
  ·rcases q z hz with q|q
   ·exact absurd e q
   ·exact q
 refine⟨fun pins s σ H Q I h=>?_⟩
 have has:∀x∈scope.names,x.2=.free->∃c,X.env.cells.lookup x.1=some c:=fun x hx hk=>by
  rcases b3 x hx with z|z
  ·exact absurd hk z
  ·exact I.ok.has x.1 (.inl z)
 have jd:∀x c,(cD X.env scope.names []).lookup x=some c->X.env.cells.lookup x=some c:=fun x c h=>lx scope.names [] has #[7] (x,c) (dL h)
 have hin:∀x,(x,NameKind.free)∈scope.names->∃c,(cD X.env scope.names []).lookup x=some c:=fun x h=>let ⟨_,q⟩:=oK (env:=X.env) scope.names [] x h;oM q
 have hmap:(relabel scope X.env).names=scope.names.map fun y=>if (y.2==.free&&X.env.scope.kind==.function&&X.env.kindOf y.1==some .cell)then(y.1,NameKind.cell)else y:=by
  show scope.names.map _=_
  refine bb fun y _=>?_
  obtain⟨a,b⟩:=y
  rfl
 have fr:∀x,scope.names.lookup x≠some .cell->#[6]->(x,NameKind.free)∈scope.names:=fun x hn h=>by
  have h':∃k,(x,k)∈(relabel scope X.env).names/\(k=.cell\/k=.free):=by
   rcases h with h|h
   ·exact⟨_,dL h,.inl rfl⟩
   ·exact⟨_,dL h,.inr rfl⟩
  obtain⟨k,hm,hk⟩:=h'
  rw[hmap]at hm
  obtain⟨y,hy,e⟩:=al.mp hm
  obtain⟨a,b⟩:=y
  by_cases hb:b=.free
  ·subst hb
   have:a=x:=by split at e<;>(cases e;rfl)
   subst this;exact hy
  ·rw[aC (by simp[hb])]at e
   cases e
   rcases hk with rfl|rfl
   ·exact absurd (z9 hy (allc _ hy)) hn
   ·exact absurd rfl hb
 have Ru:∀y∈scope.names,y.2=.cell->(cD X.env scope.names []).lookup y.1=none:=fun y hy e=>by
  obtain⟨a,b⟩:=y
  have e:b=.cell:=e
  subst e
  cases h:(cD X.env scope.names []).lookup a with
  |none=>rfl
  |some c=>
   rcases nz (dL h)with q|⟨z,hz,e1,e2⟩
   ·exact absurd q #[7]
   ·have:=allc a hy z hz e1
    rw[e2]at this;cases this
 rw[eval_ListComp]
 refine si (cl:=cD X.env scope.names []) (cap:=cap) (nm:=nm) fz (AM has) jd fA (fun x hx hk=>(b1 x hx).resolve_left fun z=>z hk) Ru (fun x hn hx=>hin x (fr x hn hx)) (fun i j e=>?_) b4 hi.h (fun ow C s0 H0 fp=>(hg _ C s0 H0 fp).h) (fun ow C s0 H0 fp=>(ht _ C s0 H0 fp).h) (fun ow C s0 H0 fp=>(he _ C s0 H0 fp).h) hs I h fun s4 C D m4 Hn I4 B q=>⟨m4,B.ns,fun h' hs'=>⟨.ref D,Hn,B.off I4 hs',rfl,q⟩⟩
 have hi':i<cap.length:=(aa.mp e).1
 have q:=b5 i (aT.mpr hi')
 rw[e]at q
 dsimp only at q
 cases hx:nm[i]? with
 |none=>rw[hx]at q;simp at q
 |some x=>
  cases hy:X.N[j]? with
  |none=>rw[hx,hy]at q;simp at q
  |some y=>
   rw[hx,hy]at q
   simp only[bA,eN]at q
   obtain⟨⟨rfl,q1⟩,q2⟩:=q
   refine⟨x,rfl,rfl,⟨.inr (.inl q1),(by rw[q1];decide),?_,?_⟩,fun z=>?_⟩
   ·obtain⟨c,hc⟩:=hin x (dL q2)
    rw[hc,jd _ _ hc]
   ·rw[hmap];exact nh (env:=X.env) q2
   ·have:=allc x z _ (dL q2) rfl
    cases this
section
variable{f:FG}
theorem IS(hB:MA X.env.scope.names scope.names nm cap X.N=true)(hi:SI X tg iter fi)(hg:∀cl C s0 H0 fp,SG (cG X nm scope cl C s0 H0 fp) tg f)(ht:∀cl C s0 H0 fp,Io (cG X nm scope cl C s0 H0 fp) iU t)
  (he:∀cl C s0 H0 fp,SE (cG X nm scope cl C s0 H0 fp) jV el) (fz:X.calm=true:=by rfl) (fA:scope.kind=.function:=by rfl) (hs:∀x,foldedSetIterable iter X.env x=pure x:=by intro _;rfl) :
  SE X #[4] (cW cap fi f t el):=
 ⟨(IR fz fA hB ⟨hi.h⟩ (fun cl C s0 H0 fp=>RU (X:=X) rfl rfl (hg cl C s0 H0 fp)) (fun cl C s0 H0 fp=>RT (X:=X) rfl rfl (ht cl C s0 H0 fp)) (fun cl C s0 H0 fp=>RR (X:=X) rfl rfl (he cl C s0 H0 fp)) hs).h.imp fun _ _ _ h=>vY h⟩
end
section
theorem sO{cl:List (Str×Addr)}{C s0 H0 fp}(i:Nat)(hN:nm.Nodup:=by decide +kernel)(hi:nm[i]?=some x:=by rfl)(hx:B8 (cG X nm scope cl C s0 H0 fp).env.scope x:=by first|exact .inl rfl|exact .inr rfl)(hf:(cG X nm scope cl C s0 H0 fp).fn x=true\/(cG X nm scope cl C s0 H0 fp).env.scope.names.lookup x=some .local:=by first|exact .inl rfl|exact .inr rfl|assumption) :
  SG (cG X nm scope cl C s0 H0 fp) (.Name x pos) (eG i):=rG (X:=cG X nm scope cl C s0 H0 fp) hN hi hx hf
end
end L2
namespace L2
open PySem PyProof.Rows
section
variable{w:World}{xs0:Array Keyed}
theorem vc:∀f n r:Nat,r<=1->minRun' f n r<=n+r
 |0,n,r,_=>au _
 |f+1,n,r,hr=>by
  rw[minRun'_succ]
  by_cases h:n<64
  ·rw[aw h];exact au _
  ·rw[aC h]
   have:=vc f (n/2) (max r (n%2)) #[0]
   omega
theorem MB{x:SortSt}{Q:Option Nat->SortSt->Prop}(hk:IntKeys xs0)(hx:SBase xs0 x)(hu:SortedTo (arrOf x) xs0.size)(h1:1<=xs0.size)(h:Q (some xs0.size) x):wpS #[17] A E s (countRun' 0 xs0.size) Q x:=by
 rw[countRun0_eq]
 refine kw (wpS_ascLoop hk (au _) (au 1) h1 hx (fun i j hij hj=>?_) fun n a b _ hor=>?_)
 ·obtain rfl:i=j:=by omega
  exact Int.le_refl _
 ·have e:n=xs0.size:=by
   rcases hor with e|e
   ·exact e
   ·by_cases hn:n<xs0.size
    ·have:=hu (n-1) n #[0] hn;omega
    ·omega
  subst e
  dsimp only
  rw[aw #[7]]
  exact qe h
theorem IT{x:SortSt}{Q:Unit->SortSt->Prop}(hk:IntKeys xs0)(hx:SBase xs0 x)(hu:SortedTo (arrOf x) xs0.size)(h2:2<=xs0.size)
  (h:∀y,(arrOf y).Perm xs0->failedOf y=none->SortedTo (arrOf y) xs0.size->Q () y):wpS #[17] A E s sortRuns' Q x:=by
 rw[sortRuns'_eq]
 refine kw (wpS_get ?_)
 dsimp only
 have hm:minRun' xs0.size xs0.size 0<=xs0.size:=vc _ _ 0 (cJ 1)
 simp only[hx.size]
 generalize minRun' xs0.size xs0.size 0=mr at hm
 refine kw (wpS_mono (wpS_forRange
  (I:=fun i c y=>(i=0/\c=(none,0)/\y=x)\/(1<=i/\c=(none,xs0.size)/\SDone xs0 y))
  (Q:=fun c y=>c=(none,xs0.size)/\SDone xs0 y) ?a ?b (.inl ⟨rfl,rfl,rfl⟩)) ?c)
 case b=>
  rintro c y (⟨z,_,_⟩|⟨_,e,z⟩)
  ·omega
  ·exact⟨e,z⟩
 case a=>
  rintro i c y _ hi (⟨rfl,rfl,rfl⟩|⟨_,rfl,z⟩)
  ·dsimp only
   rw[aC #[0]]
   simp only[Nat.sub_zero,fN]
   refine kw (MB hk hx hu #[0] ?_)
   dsimp only
   rw[aC (jh.mpr hm)]
   refine kw (wpS_get ?_)
   rw[show(pendingOf y).back?=none by rw[hx.pend];rfl]
   dsimp only
   exact kw (wpS_modify (qe (.inr ⟨au 1,rfl,hx.done hu⟩)))
  ·dsimp only
   rw[aw (au _)]
   exact qe ⟨rfl,z⟩
 case c=>
  rintro c y ⟨rfl,z⟩
  dsimp only
  refine kw (wpS_mono (wpS_forRange (I:=fun _ c q=>q=y/\c=(none,())) (Q:=fun c q=>q=y/\c=(none,())) ?_ (fun _ _ e=>e) ⟨rfl,rfl⟩) ?_)
  ·rintro i c q _ _ ⟨rfl,rfl⟩
   refine kw (wpS_get ?_)
   rw[aw (by rw[z.2.2.1];exact au 1)]
   exact qe ⟨rfl,rfl⟩
  ·rintro c q ⟨rfl,rfl⟩
   exact qe (h _ z.1 z.2.1 z.2.2.2)
theorem CU(hI:IntsAre us ns)(hr:ns.Pairwise (· <= ·)):SortedTo (pairsOf us) (pairsOf us).size:=by
 intro i j hij hj
 rw[pairsOf_size]at hj
 have key:∀k (hk:k<us.length),K (pairsOf us) k=numOf us[k]:=fun k hk=>by
  have e:(pairsOf us)[k]?=some (us[k],us[k]):=by
   rw[<- mY,pairsOf_toList,g_]
   exact⟨ae hk,ae hk⟩
  unfold K
  rw[e]
 rw[key i #[0],key j hj]
 rw[<- hI.nums]at hr
 by_cases e:i=j
 ·subst e;exact Int.le_refl _
 ·have:=hG.mp hr i j (by rw[ai];omega) (by rw[ai];exact hj) #[0]
  rwa[dw,dw]at this
theorem wn{l:Addr}{R:Fin->Shared->Prop}(hl:s.heap.get? l=some (seqObj "list" us.toArray m))(hI:IntsAre us ns)(hn:us.length<=100000)
  (hr:us.length<64\/ns.Pairwise (· <= ·))
  (h:∀(zs:Array Value) (ks:List Int),IntsAre zs.toList ks->ks.Perm ns->ks.Pairwise (· <= ·)->R (.done (.ret .none)) { s with heap:=sortedHeap s.heap l us zs }) :
  wpAny #[17] A (Builtin.«list.sort» ⟨[.ref l],[]⟩) R E s:=by
 by_cases h64:us.length<64
 ·exact list_sort_tree hl hI h64 h
 have hq:=hr.resolve_left h64
 clear hr
 rw[list_sort_plain]
 have hls:l<s.heap.objs.size:=aE hl
 have big:us.length<=sizeLine:=by rw[iF];omega
 have hz:us.toArray.size=us.length:=by simp
 refine ac (listItems_at hl rfl (ac (listUpdate_at hl rfl ?_ (hsz:=by rw[hz];exact big))))
 obtain⟨e,he⟩:∃e,(s.heap.update l (Obj.mapSeq fun _=>#[])).get? l=some (seqObj "list" #[] e):=⟨_,mO hl (fun _=>#[])⟩
 refine ac (seqEpoch_at he rfl (ac (wpAny_newTuple (ac (ll (bZ ?_))))))
 have h6:(((s.heap.update l (Obj.mapSeq fun _=>#[])).push (seqObj "tuple" us.toArray 0)).push (seqObj "list" #[] 0)).get? l=some (seqObj "list" #[] e):=by
  have q1:l≠((s.heap.update l (Obj.mapSeq fun _=>#[])).push (seqObj "tuple" us.toArray 0)).objs.size:=by
   rw[size_push',lT];exact bq (gC hls)
  have q2:l≠(s.heap.update l (Obj.mapSeq fun _=>#[])).objs.size:=by
   rw[lT];exact bq hls
  rw[kT _ _ _ q1,kT _ _ _ q2]
  exact he
 show wpAny _ _ _ R E { s with heap:=((s.heap.update l (Obj.mapSeq fun _=>#[])).push (seqObj "tuple" us.toArray 0)).push (seqObj "list" #[] 0) }
 dsimp only
 obtain⟨u,v,r,rfl⟩:∃u v r,us=u::v::r:=by
  match us,h64 with
  |[],z=>simp at z
  |[_],z=>simp at z
  |u::v::r,_=>exact⟨u,v,r,rfl⟩
 have h2:¬ (u::v::r).toArray.size<2:=by simp
 rw[aC h2,aC h2,keyKind_ints hI]
 have hps:=pairsOf_size (u::v::r)
 refine ac (am (ac (dG (IT (xs0:=pairsOf (u::v::r)) (x:=SortSt.mk' oneType' ((u::v::r).toArray.zip (u::v::r).toArray) #[] 7 none)
  (Q:=fun _ y=>(arrOf y).Perm (pairsOf (u::v::r))/\failedOf y=none/\SortedTo (arrOf y) (pairsOf (u::v::r)).size) hI.intKeys ⟨Array.Perm.refl _,rfl,rfl,rfl⟩ ?_ (by rw[hps];simp) fun y a b c=>⟨a,b,c⟩) ?_ fun _ _ z=>z)))
 ·exact CU hI hq
 ·rintro⟨⟨⟩,y⟩ s' ⟨rfl,hp,hf,hs⟩
  dsimp only
  have hys:(Array.map (fun x:Keyed=>x.2) (arrOf y)).size<=sizeLine+1:=by
   rw[Array.size_map,hp.size_eq,hps];exact Nat.le_succ_of_le big
  refine ac (seqEpoch_at h6 rfl (ac (listUpdate_at h6 rfl ?_ (hsz:=cJ _) (hsz2:=hys))))
  rw[hf]
  simp only[bne_self_eq_false,bV,eR]
  obtain⟨ks,b1,b2,b3⟩:=sorted_out hI hp hs
  exact am (h _ ks b1 b2 b3)
theorem CV{l:Addr}{ns:List Int}{R:Value->Shared->Prop}(hl:s.heap.IsList l us.toArray)(hI:IntsAre us ns)(hn:us.length<=100000)(hr:us.length<64\/ns.Pairwise (· <= ·))
  (h:∀(zs:Array Value) (ks:List Int),IntsAre zs.toList ks->ks.Perm ns->ks.Pairwise (· <= ·)->R (.ref (s.heap.objs.size+1)) { s with heap:=sortedAll s.heap us zs }) :
  wpAny #[17] A (call (.builtin "sorted") [.ref l]) R E s:=by
 refine gZ kind_sorted plain_sorted entry_sorted (args_sorted1 _) ?_
 unfold Builtin.«sorted»
 refine ac (m:=checkCount "sorted" 1 1 _) (am (ac (collect_list hl (ac (ll ?_)) (by rw[iF];omega))))
 obtain⟨g,hg⟩:∃g,g=(s.heap.push (seqObj "list" #[] 0)).update s.heap.objs.size (Obj.mapSeq (·++us.toArray)):=⟨_,rfl⟩
 have gs:g.objs.size=s.heap.objs.size+1:=by rw[hg,lT,size_push']
 have go:(g.push (seqObj "list" us.toArray 0)).get? (s.heap.objs.size+1)=some (seqObj "list" us.toArray 0):=by
  rw[<- gs];exact aL _ rfl
 rw[hg]at gs go
 show wpAny _ _ _ _ _ { s with heap:=((s.heap.push (seqObj "list" #[] 0)).update s.heap.objs.size (Obj.mapSeq (·++us.toArray))).push (seqObj "list" us.toArray 0) }
 rw[gs]
 exact ac (bZ (cA slot_list_sort ⟨_,go,rfl⟩ entry_list_sort (wn go hI hn hr fun zs ks a b c=>⟨_,rfl,am ⟨_,rfl,h zs ks a b c⟩⟩) (args_list_sort _)))
end
end L2
namespace L2
open PySem PySem.Spec PyProof.Rows
section
def nA(ws:List W)(st:List ah):R W:=match ws with
 |[.loc n]=>m7 (lstOf st n) fun zs=>m7 (fy zs) fun l=>if l.length<64\/l.length<=10000/\sortI l=l then .ok (.loc st.length) (st++[.lst ((sortI l).map W.int)])else .bad
 |_=>.bad
theorem Bn:lA X (.builtin "sorted") nA:=⟨fun pins s σ H vs us Q I rv zq=>by
 obtain⟨μ,st,ws,S,r,q⟩:=zq
 unfold nA at q
 split at q
 ·rename_i n
  obtain⟨y,rfl,ry⟩:=r.one
  cases e1:lstOf st n with
  |none=>rw[e1]at q;exact q.elim
  |some zs=>
   rw[e1,bE]at q
   cases e2:fy zs with
   |none=>rw[e2]at q;exact q.elim
   |some l=>
    rw[e2,bE]at q
    split at q
    ·rename_i c
     obtain⟨a,vs,g,hS,rz⟩:=S.lstOf e1
     obtain⟨b1,f1,rfl⟩:=ry.locE
     rw[g]at f1;cases f1
     have ev:=lD e2 rz
     subst ev
     obtain⟨u,rfl,ru⟩:=jk rv
     cases ru
     obtain⟨bJ,rv',pl,hz⟩:=I.list hS
     have hl:=rv'.length
     rw[ai]at hl
     have c1:l.length<=10000:=by rcases c with c|c<;>omega
     refine CV (ns:=l) pl.isList (ny (by simpa using rv')) #[0] (c.imp (fun c=>by omega) fun c=>by rw[<- c.2];exact PySem.W.sortI_rises l) fun out NM h1 h2 h3=>?_
     have en:=PySem.W.eq_sortI h2 h3
     subst en
     obtain⟨ep,hat⟩:=sortedAll_at s.heap bJ out
     have qk:H (s.heap.objs.size+1)=none:=I.hok.fresh (iH _)
     refine⟨.ref (s.heap.objs.size+1),_,I.laid (o:=.lst ((sortI l).map V.int)) (t':=s.toks) (fun b o e=>sortedAll_old e) (iH _) ?_,rfl,q (μ++[s.heap.objs.size+1]) _ _ (aJ _ _) (fO.same (cy qk _)) (S.newLst qk (CM _)) (no S)⟩
     refine⟨?_,out.toList,ep,s9 h1,hat⟩
     rw[ai,h2.length_eq]
     exact a8 c1 #[8]
    ·exact q.elim
 ·exact q.elim,fun ws st=>by
 unfold nA
 split
 ·exact hZ fun _=>hZ fun _=>by split<;>trivial
 ·trivial⟩
end
section
variable{w:World}{d:Addr}{es:Array DictEntry}{ep:Nat}
theorem IU(hs:(d==sysModules)=false)(ho:s.heap.get? d=some o)(hc:o.ExactDict)(hd:o.data=.dict es ep)
  (hQ:Q (.ref s.heap.objs.size) { s with heap:=s.heap.push { cls:=.type "dict_keyiterator",data:=.fields #[.ref d,.int 0 0,.int es.size 0,.int ep 0] } }) :
  wpAny #[17] A (pyIter (.ref d)) Q E s:=by
 have T:s.TypeIs (.ref d) "dict":=⟨o,ho,hc.1⟩
 refine wpAny_pyIter_slot T F.slot_dict_iter (cA F.slot_dict_iter T F.entry_dict_iter ?_ (F.args_dict_iter_1 _))
 unfold Builtin.«dict.__iter__» Builtin.Dict.dictSlotNone
 refine ac (ac (i7 T ?_))
 show wpAny _ _ (pure (Value.ref d)) _ _ s
 refine am ?_
 show wpAny _ _ (Builtin.Dict.showsAll d >>= _) _ _ s
 unfold Builtin.Dict.showsAll
 rw[aC (by rw[hs];exact bC)]
 refine ac (am (ac (gE ho hd (ac (wpAny_dictEpoch ho hd (ac (cM (am ⟨_,rfl,"dict_keyiterator",_,⟨_,aL _ rfl,rfl⟩,jH.lookup,?_⟩))))))))
 simpa[rawInt]using hQ
theorem Bo{Q:Option Value->Shared->Prop}(hit:s.heap.IsKeyIter it d i es.size ep)(ho:s.heap.get? d=some o)(hd:o.data=.dict es ep)
  (hg:∀e,es[i]?=some e->∀g,g.IsKeyIter it d (i+1) es.size ep->Heap.SameBut it s.heap g->Q (some e.key) { s with heap:=g })
  (hn:es[i]?=none->A.handled=none/\∀g,Heap.ExtBut it s.heap g->Q none { s with heap:=g }):wpAny #[17] A (pyNext (.ref it)) Q E s:=by
 obtain⟨p,hp,jd,hf⟩:=id hit
 have T:=hit.typeIs
 unfold pyNext
 refine ac (wpAny_attempt (cN (name:=Str.ofString "__next__") T jH (cA jH T F.entry_dict_keyiterator_next ?_ (F.args_dict_keyiterator_next_1 _))))
 refine ac (am (ac (ac (ac ?_))))
 refine gb T (am (ac (wpAny_fieldsOf hp hf ?_)))
 simp only[show Builtin.Dict_items.ownsTuple "dict_keyiterator"=false by decide,bV,eR]
 show wpAny _ _ (if (Value.ref d==Value.none)=true then _ else _) _ _ s
 rw[aC (show ¬ ((Value.ref d==Value.none)=true)from bC)]
 refine ac (am (ac (gE ho hd ?_)))
 rw[aC #[7]]
 refine ac (am (ac (wpAny_dictEpoch ho hd ?_)))
 rw[aC #[7]]
 refine am ?_
 simp only[show ¬ ((i:Int)<0)from by omega,eR,aG]
 cases e:es[i]? with
 |some x=>
  refine ac (ac (gb T (am (ac (mZ T ?_)))))
  show wpAny _ _ (setField (.ref it) 1 (rawInt ((i:Int)+1)) >>= _) _ _ s
  refine ac (kj hp hf #[7] ?_)
  have h':(s.heap.update it (Obj.mapFields (·.setIfInBounds 1 (rawInt ((i:Int)+1))))).IsKeyIter it d (i+1) es.size ep:=
   ⟨_,gr _ hp (mV (iy hf _)),(Obj.cls_mapFields ..).trans jd,by rw[iy hf];simp[rawInt]⟩
  refine ac (bZ (ac (mZ (s:={ s with heap:=s.heap.update it (Obj.mapFields (·.setIfInBounds 1 (rawInt ((i:Int)+1)))) }) h'.typeIs ?_)))
  show wpAny _ _ (pure x.key) _ _ _
  exact am (am ⟨_,rfl,am (hg x e _ h' (b8 ..))⟩)
 |none=>
  obtain⟨hh,hQ⟩:=hn e
  refine ac (ac (gb T (am ?_)))
  show wpAny _ _ (setField (.ref it) 0 .none >>= _) _ _ s
  refine ac (kj hp hf #[7] ?_)
  show wpAny _ _ (newExc (.type "StopIteration") [] >>= _) _ _ _
  refine ac ?_
  simp only[newExc,newTuple]
  refine ac (cM ?_ (by size_fits))
  refine ac (m:=firstArgMember _ _) (wpAny_of_eq (a:=Value.none) (by first|rfl|(simp only[firstArgMember];rfl)) ?_)
  refine cM ?_ (by size_fits)
  simp only[raiseNew]
  refine ac (wpAny_handled ?_)
  rw[show A.in1.handled=none from hh]
  refine ac (am (wpAny_throw ?_))
  refine ac (gX (T:="StopIteration") (b:=true) ⟨_,aL _ rfl,rfl⟩ isSubtype_stop ?_)
  exact am (hQ _ (((b8 ..).extBut.push _).push _))
theorem IV(hh:A.handled=none)(I:Addr)(lN:d≠I):Walks prog w A I [I,d] [I] es.size (fun i v=>∃e,es[i]?=some e/\v=e.key) (fun i h=>h.IsKeyIter I d i es.size ep/\∃o,h.get? d=some o/\o.data=.dict es ep) where
 sub:=fun b hb=>by simp at hb;simp[hb]
 frame:=fun _ _ _ st hk=>⟨st.1.at fun o e=>hk I #[7] o e,by obtain⟨o,h1,h2⟩:=st.2;exact⟨o,hk d #[7] o h1,h2⟩⟩
 item:=fun i s Q E hi st hQ=>by
  obtain⟨hit,o,ho,hd⟩:=st
  refine Bo hit ho hd (fun e he g hg sb=>?_) fun hn=>absurd hn (by simp;omega)
  exact hQ e.key g s.toks ⟨e,he,rfl⟩ ⟨hg,o,sb.extBut d o lN ho,hd⟩ fun b o hb e=>sb.extBut b o (fun h=>hb (by simp[h])) e
 done:=fun s Q E st hQ=>by
  obtain⟨hit,o,ho,hd⟩:=st
  refine Bo hit ho hd (fun e he=>absurd he #[7]) fun _=>⟨hh,fun g eb=>hQ g s.toks fun b o hb e=>eb b o (fun h=>hb (by simp[h])) e⟩
 self:=fun _ _ _ _ st hQ=>wpAny_pyIter_keyiter st.1 hQ
theorem P8(l:List DictEntry)(hs:(d==sysModules)=false):PySem.W.KdlSrc prog w "dict" d d l.length (fun i v=>∃e,l[i]?=some e/\v=e.key) (DX d l) where
 type:=fun s ⟨o,ep,e,c,_⟩=>⟨o,e,c.1⟩
 there:=fun h ⟨o,ep,e,_⟩=>⟨aE e,aE e⟩
 keep:=fun h h' ⟨o,ep,e,c⟩ k=>⟨o,ep,k d (.inl rfl) o e,c⟩
 notList:=by decide
 notTuple:=by decide
 hint:=fun A E s Q ⟨o,ep,e,c,_⟩ h=>PySem.W.kdl_hint_dict ⟨o,e,c.1⟩ h
 iter:=fun A s hh zq=>by
  obtain⟨o,ep,e,c,dd⟩:=zq
  have W:=IV (prog:=prog) (w:=w) (es:=l.toArray) (ep:=ep) hh s.heap.objs.size (bq (aE e))
  simp only[aO,List.getElem?_toArray]at W
  refine⟨_,_,fun E Q q=>IU hs e c dd (by simpa using q),W,?_,o,ar _ e,dd⟩
  exact⟨_,aL _ rfl,rfl,rfl⟩
end
section
def nB(ws:List W)(st:List ah):R W:=match ws with
 |[x]=>m7 (eO st x) fun p=>if p.2.length<=1000000 then .ok (.loc st.length) (st++[.lst (p.2.map fun q=>q.1.w)])else .bad
 |_=>.bad
theorem yq:∀{kvs:List (KX×W)} {es:List DictEntry},Paired (pB K μ H) kvs es->∃vs,RelWs K μ H (kvs.map fun q=>q.1.w) vs/\cH vs (es.map fun e=>e.key)
 |_,_,.nil=>⟨[],.nilI,.nil⟩
 |_,_,.cons r t=>by
  obtain⟨vs,h1,h2⟩:=yq t
  obtain⟨_,⟨v,a,b⟩,_⟩:=r
  exact⟨v::vs,.consI a h1,.cons b h2⟩
theorem Bp(hr:fR kk X.A):lA X (.type "list") nB:=⟨fun pins s σ H vs us Q I rv zq=>by
 obtain⟨μ,st,ws,S,r,q⟩:=zq
 unfold nB at q
 split at q
 ·rename_i x
  obtain⟨y,rfl,ry⟩:=r.one
  cases e:eO st x with
  |none=>rw[e]at q;exact q.elim
  |some p=>
   obtain⟨n,kvs⟩:=p
   rw[e,bE]at q
   split at q
   ·rename_i hl
    obtain⟨a,es,rfl,D⟩:=j0 I S e ry
    obtain⟨u,rfl,ru⟩:=jk rv
    obtain rfl:u=Value.ref a:=ru
    have hle:=D.p.length
    refine PySem.W.kdl_call (P8 es D.sm) hr.hd D.d (a8 (by rw[<- hle];exact hl) #[8]) fun h' tk acc c hk hS hacc=>?_
    obtain⟨zs,z1,z2⟩:=yq D.p
    have ea:acc.toList=es.map fun e=>e.key:=by
     refine gD fun i=>?_
     rw[ak]
     cases he:es[i]? with
     |none=>exact de (by rw[eQ,hacc.1];exact kJ.mp he)
     |some e'=>
      have hi:=(aa.mp he).1
      have hi':i<acc.size:=by rw[hacc.1];exact hi
      have:acc[i]?=some acc[i]:=kH hi'
      obtain⟨e2,g1,g2⟩:=hacc.2 i _ this
      rw[he]at g1;cases g1
      rw[mY,this,g2];rfl
    have qk:H s.heap.objs.size=none:=I.hok.fresh (au _)
    refine⟨.ref s.heap.objs.size,_,I.laid (o:=.lst zs) (t':=tk) hk (au _) ?_,rfl,q (μ++[s.heap.objs.size]) _ _ (aJ _ _) (fO.same (cy qk _)) (S.newLst qk z1) (no S)⟩
    refine⟨?_,acc.toList,c,by rw[ea];exact z2,by rw[hS]⟩
    have e1:=z2.length
    rw[ai,<- hle]at e1
    rw[e1];exact a8 hl #[8]
   ·exact q.elim
 ·exact q.elim,fun ws st=>by
 unfold nB
 split
 ·exact hZ fun _=>by split<;>trivial
 ·trivial⟩
end
def CW(x y:W)(st:List ah):R W:=match x,y with
 |.loc n,.loc m=>m7 (lstOf st n) fun a=>m7 (lstOf st m) fun b=>m7 (nu a) fun i=>m7 (nu b) fun j=>.ok (.bl (!decide (i=j))) st
 |_,_=>.bad
theorem vd:∀ns:List Bool,PyData.canLayAll0 (ns.map PyData.bool)=true
 |[]=>rfl
 |_::r=>by simp[PyData.canLayAll0,PyData.canLay0,vd r]
theorem yr:∀ns:List Bool,PyData.depthAll (ns.map PyData.bool)=0
 |[]=>rfl
 |_::r=>by simp[PyData.depthAll,PyData.depth,yr r]
theorem ve(ns:List Bool):SeqAt.shaped (.list (ns.map PyData.bool))=true:=by
 simp[SeqAt.shaped,PyData.canLay0,PyData.depth,vd,yr]
theorem Bq:∀ns ms:List Bool,PySem.Spec.sameAll (ns.map PyData.bool) (ms.map PyData.bool)=decide (ns=ms)
 |[],[]=>by simp[PySem.Spec.sameAll]
 |[],_::_=>by simp[PySem.Spec.sameAll]
 |_::_,[]=>by simp[PySem.Spec.sameAll]
 |a::r,b::t=>by
  simp only[aF,PySem.Spec.sameAll,PySem.Spec.same,Bq r t]
  by_cases h:a=b<;>by_cases h':r=t<;>simp[h,h']
theorem tj:∀{vs:List Value} {ns:List Bool},cH (ns.map V.bl) vs->CarriedAll vs (ns.map PyData.bool)
 |vs,[],h=>by cases h;exact .nil
 |vs,b::r,h=>by
  cases h with
  |cons a t=>cases a;exact .cons (.bool _) (tj t)
section
theorem ET{st:List ah}{zs:List W}{l:List Bool}{x:V}(I:bw X pins σ H s)(S:fW X.K X.mg μ st H)(h:lstOf st n=some zs)(h2:nu zs=some l)(r:be X.K μ H (.loc n) x)(rv:bN x v) :
  ∃(a:Addr) (bJ:List Value),v=.ref a/\s.heap.IsList a bJ.toArray/\CarriedAll bJ (l.map PyData.bool):=by
 obtain⟨a,vs,g,hS,rz⟩:=S.lstOf h
 obtain⟨b1,f1,rfl⟩:=r.locE
 rw[g]at f1;cases f1
 have ev:=v5 h2 rz
 subst ev
 cases rv
 obtain⟨bJ,rv',pl,hz⟩:=I.list hS
 exact⟨a,bJ,rfl,pl.isList,tj rv'⟩
theorem P9(hr:fR kk X.A):pE X (compareOp .NotEq) CW:=⟨fun pins s σ H x y v u Q I rv ru zq=>by
 walk_at "3"
 unfold CW at q
 split at q
 ·rename_i n m
  cases e1:lstOf st n with
  |none=>rw[e1]at q;exact q.elim
  |some a=>
   rw[e1,bE]at q
   cases e2:lstOf st m with
   |none=>rw[e2]at q;exact q.elim
   |some b=>
    rw[e2,bE]at q
    cases e3:nu a with
    |none=>rw[e3]at q;exact q.elim
    |some i=>
     rw[e3,bE]at q
     cases e4:nu b with
     |none=>rw[e4]at q;exact q.elim
     |some j=>
      rw[e4,bE]at q
      obtain⟨p,bJ,rfl,l1,i1⟩:=ET I S e1 e3 rx rv
      obtain⟨p',its',rfl,l2,i2⟩:=ET I S e2 e4 ry ru
      refine ne_dataH_same (reads_newData l1 i1) (reads_newData l2 i2) (ve _) (ve _) hr.units (SeqAt.noMix_of_shape (.list .bool) rfl _ _ (list_map_has fun _=>rfl) (list_map_has fun _=>rfl)) ?_
      have e:PySem.Spec.same (.list (i.map PyData.bool)) (.list (j.map PyData.bool))=decide (i=j):=by
       simp only[PySem.Spec.same];exact Bq i j
      rw[e]
      exact⟨.bl (!decide (i=j)),H,I,rfl,gH S q⟩
 ·exact q.elim,fun x y st=>by
 unfold CW
 split
 ·exact hZ fun _=>hZ fun _=>hZ fun _=>hZ fun _=>trivial
 ·trivial⟩
end
section
variable{w:World}{R:Result->Shared->Prop}{K:Type}[DecidableEq K]{knd:KeyKind prog w K}
end
section
variable{w:World}
variable{K:Type}[DecidableEq K]{knd:KeyKind prog w K}
end
def qA:List W->Option (List (DK×W))
 |[]=>some []
 |.tup [k,v]::r=>match iZ k,qA r with
  |some k,some r=>some ((k,v)::r)
  |_,_=>none
 |_=>none
theorem yt{x:W}{r:List W}{kvs:List (DK×W)}(h:qA (x::r)=some kvs):∃k v k' r',x=.tup [k,v]/\iZ k=some k'/\qA r=some r'/\kvs=(k',v)::r':=by
 unfold qA at h
 split at h
 ·rename_i he;cases he
 ·rename_i k v r0 he
  cases he
  cases e1:iZ k with
  |none=>rw[e1]at h;cases h
  |some k'=>
   cases e2:qA r with
   |none=>rw[e1,e2]at h;cases h
   |some r'=>rw[e1,e2]at h;cases h;exact⟨k,v,k',r',rfl,e1,rfl,rfl⟩
 ·cases h
section
theorem tm(I:bw X pins σ H s):∀{ys:List W} {kvs:List (DK×W)} {vs:List V} {bJ:List Value},qA ys=some kvs->RelWs X.K μ H ys vs->cH vs bJ ->
  ∃(us:List V) (ps:List (f'×Value)),RelWs X.K μ H (kvs.map fun p=>p.2) us/\KV (dV kvs us) ps/\bJ.length=ps.length /\
   ∀(j:Nat) (x:Value),bJ[j]?=some x->∃p key k v,x=.ref p/\(∃o m,s.heap.get? p=some o/\o.cls=.type "tuple"/\o.data=.seq #[key,v] m)/\ps[j]?=some (k,v)/\(eF X.prog X.w).is k key=true
 |[],kvs,vs,bJ,h,r,hv=>by
  cases h
  have e:vs=[]:=r.nilE
  subst e
  cases hv
  exact⟨[],[],.nilI,.nil,rfl,fun j x h=>by simp at h⟩
 |y::ys,kvs,vs,bJ,h,r,hv=>by
  obtain⟨k,w,k',r',rfl,ek,er,rfl⟩:=yt h
  obtain⟨x,xs,rfl,rx,rxs⟩:=r.consE
  cases hv with
  |cons hx K6=>
  rename_i u bJ
  obtain⟨us,ps,a1,a2,a3,a4⟩:=tm I er rxs K6
  obtain⟨p,zs,rfl,hS,rz⟩:=id rx.tupE
  obtain⟨z1,z2,rfl,rk,rz2⟩:=rz.consE
  obtain⟨z3,rfl,kQ⟩:=rz2.one
  obtain⟨its2,hv2,hT,_⟩:=I.tuple hS
  cases hv2 with
  |cons g1 g2=>
  cases g2 with
  |cons g2 g3=>
  cases g3
  rename_i k1 v1
  have:=nO ek rk
  subst this
  obtain⟨o,e1,e2,m,e3⟩:=hT
  refine⟨z3::us,(k'.key,v1)::ps,.consI kQ a1,.cons ⟨rfl,g2⟩ a2,by simp[a3],fun j x hj=>?_⟩
  cases j with
  |zero=>
   cases hj
   obtain rfl:u=Value.ref p:=hx
   exact⟨p,k1,k'.key,v1,rfl,⟨o,m,e1,e2,e3⟩,rfl,qP g1⟩
  |succ j=>exact a4 j x hj
end
section
variable{st:List ah}
end
section
variable{a o value:Expr}{c f m:Str}{fl:List Str}{fs:FA}
end
section
variable{w:World}{k:Nat}{c m:Str}{st:Stmt}{C:Addr}
end
open AutoSeq1 (wpAny_loadPart')
section
variable{c:Bool}{n d:Addr}{k:Nat}{xs:Array Value}
end
section
variable{w:World}{c:Bool}
variable{c1 c2:Bool}{n:Addr}{k:Nat}{xs ys:Array Value}{x y:Value}
end
section
variable{w:World}
end
section
variable{xs ys:List V}{c:Bool}
end
section
variable{a b:Expr}{fs:FA}
end
theorem eA(st x:List ah)(k:Nat):(st++x)[st.length+k]?=x[k]?:=by rw[cQ #[0]];congr 1;omega
theorem cv(st x:List ah):(st++x)[st.length]?=x[0]?:=eA st x 0
theorem j3(st x:List ah)(k:Nat)(c:ah):(st++x).set (st.length+k) c=st++x.set k c:=by rw[gv _ _ #[0]];congr 2;omega
theorem eJ(st x:List ah)(c:ah):(st++x).set st.length c=st++x.set 0 c:=j3 st x 0 c
theorem ax{st x:List ah}{c:ah}(h:st[n]?=some c):(st++x)[n]?=some c:=by
 rw[av (aa.mp h).1];exact h
theorem z_(st:List ah)(ws:List W):iJ st st ws=st:=by unfold iJ;split<;>simp
theorem CY{st x:List ah}(h:undWs st.length ws=true):iJ st (st++x) ws=st:=by
 unfold iJ
 rw[aw ⟨h,by simp,fun i hi=>.inl (av hi)⟩]
 simp
theorem CZ{st:List ah}(h:undWs st.length ws=false):iJ st bL ws=bL:=by
 unfold iJ
 rw[aC fun k=>by have:=k.1;rw[h]at this;cases this]
theorem rM{body:FS}{st:List ah}{w:W}(h:body #[12] st=.rt w bL):fx N body ws st=.ok w (iJ st bL [w]):=by
 unfold fx;rw[h]
theorem nS{body:FS}{st:List ah}{w:W}(h:body #[12] st=.rt w st):fx N body ws st=.ok w st:=by
 rw[rM h,z_]
theorem yu{body:FS}{st x:List ah}{w:W}(h:body #[12] st=.rt w (st++x))(hu:undWs st.length [w]=true):fx N body ws st=.ok w st:=by
 rw[rM h,CY hu]
theorem yv{N:Nat}{body:FS}{ws:List W}{st x:List ah}{k:Nat}(h:body #[12] st=.rt (.loc (st.length+k)) (st++x)):fx N body ws st=.ok (.loc (st.length+k)) (st++x):=by
 rw[rM h,CZ (by simp[undWs,W.und])]
theorem Aa{g g':FS}{ρ':cu}{st:List ah}(h:g ρ st=.nx ρ' bL):a7 g g' ρ st=g' ρ' bL:=by unfold a7;rw[h]
theorem Br{f:FG}{body:FS}{st:List ah}{k:zK}(h:fi ρ st=.ok k bL):fg fi f body ρ st=sE f body k.2 k.1 ρ bL:=by unfold fg;rw[h];rfl
theorem tu{f:FG}{body:FS}{ck:Option (Nat×List W)}(I:Nat->cu->List ah->Prop):∀{ws:List W} {ρ:cu} {st:List ah} (i0:Nat),I i0 ρ st->(∀i ρ st,I i ρ st->iY st ck) ->
  (∀i w ρ st,ws[i]?=some w->I (i0+i) ρ st->∃ρ' ρ2 cV,f w ρ=some ρ'/\body ρ' st=.nx ρ2 cV/\I (i0+i+1) ρ2 cV) ->
  ∃ρ2 cV,sE f body ck ws ρ st=.nx ρ2 cV/\I (i0+ws.length) ρ2 cV
 |[],ρ,st,i0,h0,hc,hs=>⟨ρ,st,by unfold sE;rw[aw (hc _ _ _ h0)],h0⟩
 |w::ws,ρ,st,i0,h0,hc,hs=>by
  obtain⟨ρ',ρ2,cV,e1,e2,h1⟩:=hs 0 w ρ st rfl h0
  obtain⟨ρ3,jv,e3,h3⟩:=tu I (ws:=ws) (ρ:=ρ2) (st:=cV) (i0+1) h1 hc fun i w ρ st hw hI=>by
   obtain⟨a,b,c,d,e,g⟩:=hs (i+1) w ρ st (by simpa using hw) (by rw[show i0+(i+1)=i0+1+i by omega];exact hI)
   exact⟨a,b,c,d,e,by rw[show i0+1+i+1=i0+(i+1)+1 by omega];exact g⟩
  refine⟨ρ3,jv,?_,by rw[bz,show i0+(ws.length+1)=i0+1+ws.length by omega];exact h3⟩
  unfold sE
  rw[aw (hc _ _ _ h0),e1]
  simp only[e2]
  exact e3
theorem C0{t:FT}{g:FS}(I:Nat->cu->List ah->Prop):∀(n:Nat) {ρ:cu} {st:List ah},I n ρ st ->
  (∀n ρ st,I n ρ st->t ρ st=.ok false st\/(t ρ st=.ok true st/\∃ρ2 cV m,g ρ st=.nx ρ2 cV/\m<n/\I m ρ2 cV)) ->
  ∃m ρ2 cV,l7 t g ρ st=.nx ρ2 cV/\I m ρ2 cV/\t ρ2 cV=.ok false cV:=by
 intro n ρ st h hs
 have key:∀(k n:Nat) (ρ:cu) (st:List ah),n<k->I n ρ st->∃m ρ2 cV,fY t g k ρ st=.nx ρ2 cV/\I m ρ2 cV/\t ρ2 cV=.ok false cV:=by
  intro k
  induction k with
  |zero=>intro n _ _ h;exact absurd h (cE _)
  |succ k ih=>
   intro n ρ st hk hI
   rcases hs n ρ st hI with e|⟨e,ρ2,cV,m,e2,hm,h2⟩
   ·exact⟨n,ρ,st,by unfold fY;rw[e];rfl,hI,e⟩
   ·obtain⟨m',ρ3,jv,e3,h3⟩:=ih m ρ2 cV #[0] h2
    exact⟨m',ρ3,jv,by unfold fY;rw[e];simp only[R.stmt_ok,dS,e2];exact e3,h3⟩
 obtain⟨m,ρ2,cV,e,h2⟩:=key (n+1) n ρ st (jg n) h
 exact⟨m,ρ2,cV,Cz e #[7],h2⟩
section
variable{ρ':cu}{st cV jv RA:List ah}{fi:FE}{fs:FA}{u:FT}{x y z w v:W}{xs zs:List W}{a b k:Bool}{g g':FS}
theorem iC(h:ρ[i]?=some (some w)):ag i ρ st=.ok w st:=by unfold ag;rw[h]
theorem dY:eC w ρ st=.ok w st:=rfl
theorem bT{f:W->W->List ah->R W}(h1:fa ρ st=.ok x st1)(h2:fb ρ st1=.ok y cV)(h3:f x y cV=.ok z jv):e2 f fa fb ρ st=.ok z jv:=by unfold e2;rw[h1];simp only[R.bind_ok];rw[h2];exact h3
theorem bF:aI ρ st=.ok [] st:=rfl
theorem aA(h1:fa ρ st=.ok x st1)(h2:fs ρ st1=.ok xs cV):aj fa fs ρ st=.ok (x::xs) cV:=by unfold aj;rw[h1];simp only[R.bind_ok];rw[h2];rfl
theorem MC:Pp ls ρ st=.ok (ls.map W.str) st:=rfl
theorem lH(h1:fs ρ st=.ok ws st1)(h2:ws.length<=kE):kZ fs ρ st=.ok (.tup ws) st1:=by unfold kZ;rw[h1];simp only[R.bind_ok,pF];rw[aw h2]
theorem nC(h1:fs ρ st=.ok ws st1)(h2:ws.length<=kE):k6 fs ρ st=.ok (.loc st1.length) (st1++[.lst ws]):=by unfold k6;rw[h1];simp only[R.bind_ok,mH];rw[aw h2]
theorem bu(h1:fs ρ st=.ok ws st1)(h2:F ws st1=.ok w cV):bh F fs ρ st=.ok w cV:=by unfold bh;rw[h1];exact h2
theorem dz(h1:fs ρ st=.ok ws st1)(h2:F ws st1=.ok w cV)(hn:ws.length=n):ej n F fs ρ st=.ok w cV:=by unfold ej;rw[h1];simp only[R.bind_ok];rw[aw hn];exact h2
theorem b_(h:fa ρ st=.ok (.bl k) st1):fQ fa ρ st=.ok k st1:=by unfold fQ;rw[h];rfl
theorem pO(h1:t ρ st=.ok true st1)(h2:u ρ st1=.ok k cV):L_ t u ρ st=.ok k cV:=by unfold L_;rw[h1];exact h2
theorem wp(h1:t ρ st=.ok false st1):L_ t u ρ st=.ok false st1:=by unfold L_;rw[h1];rfl
theorem dR(h1:t ρ st=.ok false st1)(h2:u ρ st1=.ok k cV):re t u ρ st=.ok k cV:=by unfold re;rw[h1];exact h2
theorem wq(h1:t ρ st=.ok true st1):re t u ρ st=.ok true st1:=by unfold re;rw[h1];rfl
theorem iD(h1:t ρ st=.ok a st1)(h2:(!a)=k):rF t ρ st=.ok k st1:=by unfold rF;rw[h1,<- h2];rfl
theorem nT(h1:fa ρ st=.ok (.bl true) st1)(h2:fb ρ st1=.ok w cV):uz fa fb ρ st=.ok w cV:=by unfold uz;rw[h1];exact h2
theorem EU(h1:fa ρ st=.ok (.bl a) st1)(h2:(!a)=k):zG fa ρ st=.ok (.bl k) st1:=by unfold zG;rw[h1,<- h2];rfl
theorem rp{F:W->List W->List ah->R W}(h1:fo ρ st=.ok x st1)(hl:sI st1 x=true)(h2:fs ρ st1=.ok ws cV)(h3:F x ws cV=.ok w jv):uB F fo fs ρ st=.ok w jv:=by unfold uB;rw[h1];simp only[R.bind_ok];rw[aw hl,h2];exact h3
theorem IW{F:W->List W->List ah->R W}(h1:fo ρ st=.ok x st1)(hl:Ej x=true)(h2:fs ρ st1=.ok ws cV)(h3:F x ws cV=.ok w jv):Mi F fo fs ρ st=.ok w jv:=by unfold Mi;rw[h1];simp only[R.bind_ok];rw[aw hl,h2];exact h3
theorem gT(h:st[n]?=some (.lst ws)):sI st (.loc n)=true:=by simp only[sI,h]
theorem P_{q:Int}(h:fa ρ st=.ok (.int q) st1):PP fa ρ st=.ok (.int (-q)) st1:=by unfold PP;rw[h];rfl
theorem j4{T c:String}(h:fa ρ st=.ok x st1)(hx:x.ty=some c)(hk:Iu c T=k):jA T fa ρ st=.ok (.bl k) st1:=by unfold jA;rw[h];simp only[R.bind_ok,hx,hk]
theorem P'(h:fa ρ st=.ok x st1)(hk:x.isNon=k):zH fa ρ st=.ok (.bl k) st1:=by unfold zH;rw[h,<- hk];rfl
theorem MD(h:fa ρ st=.ok x st1)(hk:(!x.isNon)=k):J0 fa ρ st=.ok (.bl k) st1:=by unfold J0;rw[h,<- hk];rfl
theorem Ti:AY ρ st=.ok none st:=rfl
theorem Tj{q:Int}(h:fa ρ st=.ok (.int q) st1):xX fa ρ st=.ok (some q) st1:=by unfold xX;rw[h];rfl
theorem Tk{fl fh:FO}{l h:Option Int}(h1:fa ρ st=.ok x st1)(h2:fl ρ st1=.ok l cV)(h3:fh ρ cV=.ok h jv)(h4:Hf x l h jv=.ok w RA):PD fa fl fh ρ st=.ok w RA:=by unfold PD;rw[h1];simp only[R.bind_ok];rw[h2];simp only[R.bind_ok];rw[h3];exact h4
theorem cx(h:fe ρ st=.ok w st1):cC i fe ρ st=.nx (ρ.set i (some w)) st1:=by unfold cC;rw[h];rfl
theorem hJ(h:fe ρ st=.ok w st1):ga fe ρ st=.nx ρ st1:=by unfold ga;rw[h];rfl
theorem oz(h:fe ρ st=.ok w st1):cO fe ρ st=.rt w st1:=by unfold cO;rw[h];rfl
theorem qT{f:W->W->W->List ah->Option (List ah)}(h1:fe ρ st=.ok v st1)(h2:fo ρ st1=.ok x cV)(h3:fi ρ cV=.ok y jv)(h4:f x y v jv=some RA):rf fo fi fe f ρ st=.nx ρ RA:=by
 unfold rf;rw[h1];simp only[R.stmt_ok];rw[h2];simp only[R.stmt_ok];rw[h3];simp only[R.stmt_ok];rw[h4]
theorem tD{r:RS}(h1:t ρ st=.ok true st1)(h2:g ρ st1=r):iX t g g' ρ st=r:=by unfold iX;rw[h1];exact h2
theorem tF{r:RS}(h1:t ρ st=.ok false st1)(h2:g' ρ st1=r):iX t g g' ρ st=r:=by unfold iX;rw[h1];exact h2
theorem qB:cK ρ st=.nx ρ st:=rfl
theorem Kb{r:RS}(h:g ρ st=.nx ρ' st1)(h2:g' ρ' st1=r):a7 g g' ρ st=r:=by rw[Aa h];exact h2
theorem EV(h:g ρ st=.rt w st1):a7 g g' ρ st=.rt w st1:=by unfold a7;rw[h]
theorem il{p q:Int}:fD (.int p) (.int q) st=.ok (.int (p+q)) st:=rfl
theorem EW{p q:List Nat}(h:p.length+q.length<=kE):fD (.str p) (.str q) st=.ok (.str (p++q)) st:=by simp only[fD];rw[aw h]
theorem ME(h1:st[n]?=some (.lst ws))(h2:st[m]?=some (.lst xs))(h:(ws++xs).length<=kE):fD (.loc n) (.loc m) st=.ok #[5] (st++[.lst (ws++xs)]):=by
 unfold fD;simp only[h1,h2,mH];rw[aw h]
theorem oU{C:Int->Int->Prop}[∀i j,Decidable (C i j)]{f:Int->Int->Int}{p q:Int}(h:C p q):Cu C f (.int p) (.int q) st=.ok (.int (f p q)) st:=by simp only[Cu];rw[aw h]
theorem wt{p q:Int}(h:Mb p q):iL (.int p) (.int q) st=.ok (.int (p*q)) st:=by simp only[iL];rw[aw h]
theorem MF{q:Int}(h:-(2^62)<=q/\q<2^62/\l.length*q.toNat<=kE):iL (.str l) (.int q) st=.ok (.str (List.replicate q.toNat l).flatten) st:=by simp only[iL];rw[aw h]
theorem qU{f:Int->Int->Bool}{p q:Int}(h:f p q=k):Cv f (.int p) (.int q) st=.ok (.bl k) st:=by rw[<- h];rfl
theorem EX{p q:Int}(h:decide (p<=q)=k):Tb (.int p) (.int q) st=.ok (.bl k) st:=by rw[<- h];rfl
theorem oA{p q:Int}(h:(p==q)=k):pd (.int p) (.int q) st=.ok (.bl k) st:=by rw[<- h];rfl
theorem oB{p q:Int}(h:(!(p==q))=k):uA (.int p) (.int q) st=.ok (.bl k) st:=by rw[<- h];rfl
theorem EY{p q:List Nat}(h:(p==q)=k):pd (.str p) (.str q) st=.ok (.bl k) st:=by rw[<- h];rfl
theorem gk{q:Int}(h:n_ ws q=some w):bM (.tup ws) (.int q) st=.ok w st:=by unfold bM;simp only[h,bE]
theorem kv(h:ρ[i]?=some (some w):=by rfl):ag i ρ st=.ok w st:=iC h
theorem ox{q:Int}(h:n_ ws q=some w:=by rfl):bM (.tup ws) (.int q) st=.ok w st:=gk h
theorem kn(h:ρ[i]?=some (some w):=by rfl):aj (ag i) aI ρ st=.ok [w] st:=aA (iC h) bF
theorem kx{q:Int}(h:ρ[i]?=some (some (.tup ws)):=by rfl)(h2:n_ ws q=some w:=by rfl):e2 bM (ag i) (eC (.int q)) ρ st=.ok w st:=bT (iC h) dY (gk h2)
theorem Kc{q:Int}{c:Nat}(hl:l.length<=kE)(h:n_ l q=some c):bM (.str l) (.int q) st=.ok (.str [c]) st:=by unfold bM;simp only[h,bE];rw[aw hl]
theorem jo{q:Int}(hl:lstOf st n=some ws)(h:n_ ws q=some w):bM (.loc n) (.int q) st=.ok w st:=by unfold bM;simp only[hl,h,bE]
theorem nD:cR [.tup ws] st=.ok (.int ws.length) st:=rfl
theorem qC(h:l.length<=kE):cR [.str l] st=.ok (.int l.length) st:=by unfold cR;simp only;rw[aw h]
theorem jB(hl:lstOf st n=some ws):cR [.loc n] st=.ok (.int ws.length) st:=by unfold cR;simp only[hl,bE]
theorem aR(h:st[n]?=some (.lst ws)):lstOf st n=some ws:=by unfold lstOf;rw[h]
theorem rN(h:st[n]?=some (.ro ws)):lstOf st n=some ws:=by unfold lstOf;rw[h]
theorem qV(h:st[n]?=some (.lst ws))(hl:ws.length<kE):dE (.loc n) [y] st=.ok .non (st.set n (.lst (ws++[y]))):=by unfold dE;simp only[h];rw[aw hl]
theorem Ab{sep:List Nat}(h:lstOf st n=some (ls.map W.str))(hl:(ls.map List.length).sum+ls.length*sep.length<=kE):pI (.str sep) [.loc n] st=.ok (.str (ng sep ls)) st:=by
 unfold pI;simp only[h,bE,uY];rw[aw hl]
theorem Qa{l h:Option Int}{z:List Nat}(hl:z.length<=kE):Hf (.str z) l h st=.ok (.str (nZ z l h)) st:=by unfold Hf;simp only;rw[aw hl]
theorem Qb{l h:Option Int}:Hf (.tup ws) l h st=.ok (.tup (nZ ws l h)) st:=rfl
theorem gw(h:fe ρ st=.ok (.tup ws) st1):ce fe ρ st=.ok (ws,none) st1:=by unfold ce;rw[h];rfl
theorem gy(h:fe ρ st=.ok (.loc n) st1)(hl:lstOf st1 n=some ws):ce fe ρ st=.ok (ws,some (n,ws)) st1:=by unfold ce;rw[h];simp only[R.bind_ok,hl]
theorem cX{q:Int}(h:fs ρ st=.ok [.int q] st1)(hq:-(2^62)<=q/\q<2^62):bp fs ρ st=.ok (bt 0 q.toNat,none) st1:=by unfold bp;rw[h];simp only[R.bind_ok];rw[aw hq]
theorem eM{l:List α}{q:Nat}{x:α}(h:l[q]?=some x):n_ l (q:Int)=some x:=by
 have hq:q<l.length:=(aa.mp h).1
 unfold n_ Ol
 rw[aw #[0],aw #[0]]
 simpa using h
def hU(P:RS->Prop)(r:RS):Prop:=P r
def IX(I:cu->List ah->Prop):RS->Prop:=fun r=>∃ρ st,r=.nx ρ st/\I ρ st
def yw(I:W->List ah->Prop):RS->Prop:=fun r=>∃w st,r=.rt w st/\I w st
variable{P:RS->Prop}{rest:FS}
theorem ja{r r':RS}(h:r=r')(h2:P r'):hU P r:=by rw[h];exact h2
theorem aS(h:g ρ st=.nx ρ' st1)(h2:hU P (g' ρ' st1)):hU P (a7 g g' ρ st):=by rw[Aa h];exact h2
theorem yx(h1:t ρ st=.ok true st1)(h2:hU P (g ρ st1)):hU P (iX t g g' ρ st):=by rw[tD h1 rfl];exact h2
theorem mL(h1:t ρ st=.ok false st1)(h2:hU P (g' ρ st1)):hU P (iX t g g' ρ st):=by rw[tF h1 rfl];exact h2
theorem jb(h1:t ρ st=.ok true st1)(h2:hU P (a7 g rest ρ st1)):hU P (a7 (iX t g g') rest ρ st):=by
 unfold a7 at h2 ⊢;rw[tD h1 rfl];exact h2
theorem bU(h1:t ρ st=.ok false st1)(h2:hU P (a7 g' rest ρ st1)):hU P (a7 (iX t g g') rest ρ st):=by
 unfold a7 at h2 ⊢;rw[tF h1 rfl];exact h2
theorem vf{h:FS}(h2:hU P (a7 g (a7 g' h) ρ st)):hU P (a7 (a7 g g') h ρ st):=by
 unfold a7 at h2 ⊢
 cases e:g ρ st<;>simp only[e]at h2 ⊢ <;> exact h2
theorem cz(h2:hU P (rest ρ st)):hU P (a7 cK rest ρ st):=h2
theorem eK(h:fe ρ st=.ok w st1)(h2:P (.rt w st1)):hU P (cO fe ρ st):=by rw[oz h];exact h2
theorem iE(h:fe ρ st=.ok w st1)(h2:P (.rt w st1)):hU P (a7 (cO fe) rest ρ st):=by rw[EV (oz h)];exact h2
theorem dy{fi:FI}{f:FG}{body:FS}{k:zK}(I:Nat->cu->List ah->Prop)(h:fi ρ st=.ok k st1)(h0:I 0 ρ st1)(hc:∀i ρ st,I i ρ st->iY st k.2)
  (hs:∀i w ρ st,k.1[i]?=some w->I i ρ st->∃ρ',f w ρ=some ρ'/\hU (IX (I (i+1))) (body ρ' st)) (he:∀ρ st,I k.1.length ρ st->hU P (rest ρ st)):hU P (a7 (fg fi f body) rest ρ st):=by
 obtain⟨ρ2,cV,e,h2⟩:=tu (f:=f) (body:=body) (ck:=k.2) I (ws:=k.1) (ρ:=ρ) (st:=st1) 0 h0 hc fun i w ρ st hw hI=>by
  rw[fN]at hI ⊢
  obtain⟨ρ',e1,ρ2,cV,e2,h2⟩:=hs i w ρ st hw hI
  exact⟨ρ',ρ2,cV,e1,e2,h2⟩
 rw[fN]at h2
 exact aS (by rw[Br h];exact e) (he _ _ h2)
theorem qD{body:FS}(I:Nat->cu->List ah->Prop)(n:Nat)(h0:I n ρ st)
  (hs:∀n ρ st,I n ρ st->t ρ st=.ok false st\/(t ρ st=.ok true st/\hU (IX fun ρ2 cV=>∃m,m<n/\I m ρ2 cV) (body ρ st))) (he:∀m ρ st,I m ρ st->t ρ st=.ok false st->hU P (rest ρ st)):hU P (a7 (l7 t body) rest ρ st):=by
 obtain⟨m,ρ2,cV,e,h2,h3⟩:=C0 (t:=t) (g:=body) I n h0 fun n ρ st hI=>by
  rcases hs n ρ st hI with e|⟨e,ρ2,cV,e2,m,hm,h2⟩
  ·exact .inl e
  ·exact .inr ⟨e,ρ2,cV,m,e2,hm,h2⟩
 exact aS e (he _ _ _ h2 h3)
theorem wu{body:FS}{Q:W->Prop}(h:hU (yw fun w bL=>(∃x,bL=st++x)/\undWs st.length [w]=true/\Q w) (body #[12] st)):∃w,Q w/\fx N body ws st=.ok w st:=by
 obtain⟨w,bL,e,⟨x,rfl⟩,hu,q⟩:=h
 exact⟨w,q,yu e hu⟩
theorem hV{N:Nat}{body:FS}(h:hU (yw fun w' bL=>w'=w/\∃x,bL=st++x) (body #[12] st))(hu:undWs st.length [w]=true):fx N body ws st=.ok w st:=by
 obtain⟨w,bL,e,rfl,x,rfl⟩:=h
 exact yu e hu
theorem kO{body:FS}{Q:Nat->List ah->Prop}(h:hU (yw fun w bL=>∃j x,w=.loc (st.length+j)/\bL=st++x/\Q j x) (body #[12] st)):∃j x,Q j x/\fx N body ws st=.ok (.loc (st.length+j)) (st++x):=by
 obtain⟨w,bL,e,j,x,rfl,rfl,q⟩:=h
 exact⟨j,x,q,yv e⟩
theorem fF{q:Nat}{lo:Int}(h:(bt lo q)[i]?=some w):i<q/\w=.int (lo+i):=by
 unfold bt at h
 obtain⟨h1,h2⟩:=aa.mp h
 simp only[ai,cB]at h1
 exact⟨h1,by rw[<- h2];simp⟩
theorem ww{l:List α}{q:Nat}(h:q<=l.length):nZ l none (some (q:Int))=l.take q:=by
 unfold nZ;rw[HT.sIx_none,HT.sIx_nat,Nat.min_eq_left h];simp
theorem wz{l:List α}{q:Nat}(h:q<=l.length):nZ l (some (q:Int)) none=l.drop q:=by
 unfold nZ;rw[HT.sIx_none,HT.sIx_nat,Nat.min_eq_left h];rw[cU #[7]]
theorem mf{q:Int}{n:Nat}(h:0<n):∃m:Nat,m<n/\q%(n:Int)=m:=by
 have h0:0<=q%(n:Int):=ii _ #[0]
 have h1:q%(n:Int)<n:=ky _ #[0]
 exact⟨(q%(n:Int)).toNat,by omega,by omega⟩
end
section
variable{st:List ah}{u:FT}{a b k:Bool}{P:RS->Prop}{g g' rest:FS}{w:W}
theorem MG(h1:t ρ st=.ok a st)(h2:u ρ st=.ok b st):L_ t u ρ st=.ok (a&&b) st:=by cases a;exact wp h1;exact pO h1 h2
theorem MH(h1:t ρ st=.ok a st)(h2:u ρ st=.ok b st):re t u ρ st=.ok (a||b) st:=by cases a;exact dR h1 h2;exact wq h1
theorem MI(h1:t ρ st=.ok a st):rF t ρ st=.ok (!a) st:=iD h1 rfl
theorem C1(h:t ρ st=.ok k st1)(h1:k=true->hU P (a7 g rest ρ st1))(h2:k=false->hU P (a7 g' rest ρ st1)):hU P (a7 (iX t g g') rest ρ st):=by
 cases k;exact bU h (h2 rfl);exact jb h (h1 rfl)
theorem C2{N:Nat}{body:FS}(h:hU (yw fun w' bL=>w'=w/\bL=st) (body #[12] st)):fx N body ws st=.ok w st:=by
 obtain⟨w,bL,e,rfl,rfl⟩:=h
 exact nS e
end
end L2
open L2
local macro_rules | `(tactic| walk_at "ev1") => `(tactic| first
 | (with_reducible apply iC) <;> rfl
 | (with_reducible apply gk) <;> rfl
 | with_reducible first
  | exact dY | exact bF | exact MC | exact Ti | exact il | exact nD | exact qB | exact Qb
  | apply bT | apply aA | apply lH | apply nC | apply bu | apply dz | apply b_ | apply iD | apply EU
  | apply rp | apply IW | apply P_ | apply j4 | apply P' | apply MD | apply Tj | apply Tk | apply cx | apply hJ | apply oz | apply qT
  | apply oU | apply wt | apply qU | apply EX | apply oA | apply oB | apply EY | apply EW
 | decide
 | (show List.length _ <= kE; exact fw rfl)
 | (show @Eq Nat _ _; exact rfl)
 | (show @Eq Bool _ _; exact rfl)
 | (show @Eq (Option String) _ _; exact rfl)
 | (show @Eq _ _ _; with_reducible assumption))
local macro_rules | `(tactic| walk_at "evs") => `(tactic| repeat' walk_at "ev1")
local macro_rules | `(tactic| walk_at "tst") => `(tactic| first
 | (walk_at "evs"; done)
 | (apply wp; (focus walk_at "tst"); done)
 | (apply pO; (focus walk_at "tst"); (focus walk_at "tst"); done)
 | (apply wq; (focus walk_at "tst"); done)
 | (apply dR; (focus walk_at "tst"); (focus walk_at "tst"); done))
local macro_rules | `(tactic| walk_at "go1") => `(tactic| first
 | apply cz
 | (apply iE; (focus (walk_at "evs"; done)))
 | (apply eK; (focus (walk_at "evs"; done)))
 | (apply jb; (focus walk_at "tst"))
 | (apply bU; (focus walk_at "tst"))
 | (apply yx; (focus walk_at "tst"))
 | (apply mL; (focus walk_at "tst"))
 | (apply aS; (focus (walk_at "evs"; done))))
local macro_rules | `(tactic| walk_at "go") => `(tactic| repeat walk_at "go1")
local macro_rules | `(tactic| walk_at "tb") => `(tactic| repeat' (first | with_reducible apply MG | with_reducible apply MH | with_reducible apply MI | walk_at "ev1"))
local macro_rules | `(tactic| walk_at "len") => `(tactic| (simp only [aN, bz, dM]; show _ <= 1000000; omega))
namespace L2
open PySem PySem.Spec PyProof.Rows
section
variable{ρ' ρ2:cu}{st cV:List ah}{fs:FA}{g gh rest:FS}{w:W}{c:Str}{cs:List Str}{P:RS->Prop}{b:Bool}
theorem Kd{p q:Bool}(h:(p==q)=b):pd (.bl p) (.bl q) st=.ok (.bl b) st:=by rw[<- h];rfl
end
section
variable{st:List ah}{f:FG}
theorem yy{ρ0:cu}(hc:iY st ck)(T:W->Bool)(Y:W->W):∀(ws acc:List W),(∀w∈ws,∃ρ',f w ρ0=some ρ'/\t ρ' st=.ok (T w) st/\(T w=true->el ρ' st=.ok (Y w) st)) ->
  mJ f t el ck ρ0 ws acc st=.ok (acc++(ws.filter T).map Y) st
 |[],acc,_=>by unfold mJ;rw[aw hc];simp
 |w::ws,acc,h=>by
  obtain⟨ρ',e1,e2,e3⟩:=h w #[7]
  have ih:=fun acc=>yy hc T Y ws acc fun w' hw'=>h w' (by simp[hw'])
  unfold mJ
  rw[aw hc,e1]
  simp only[e2]
  cases hT:T w with
  |true=>
   simp only[e3 hT]
   rw[ih]
   simp[cS,hT]
  |false=>
   simp only
   rw[ih]
   simp[cS,hT]
theorem EZ(T:W->Bool)(Y:W->W)(h:fi ρ st=.ok (ws,ck) st1)(hl:ws.length<=kE)(hc:iY st1 ck)
  (hs:∀w∈ws,∃ρ',f w (pJ cap ρ)=some ρ'/\t ρ' st1=.ok (T w) st1/\(T w=true->el ρ' st1=.ok (Y w) st1)):cW cap fi f t el ρ st=.ok (.loc st1.length) (st1++[.lst ((ws.filter T).map Y)]):=by
 unfold cW
 rw[h]
 simp only[R.bind_ok]
 rw[aw hl,yy hc T Y ws [] hs]
 simp only[R.bind_ok,mM,mH]
 rw[aw]
 rw[ai]
 exact a8 (i5 _ _) hl
theorem fU(Y:W->W)(h:fi ρ st=.ok (ws,ck) st1)(hl:ws.length<=kE)(hc:iY st1 ck)
  (hs:∀w∈ws,∃ρ',f w (pJ cap ρ)=some ρ'/\el ρ' st1=.ok (Y w) st1):cW cap fi f gG el ρ st=.ok (.loc st1.length) (st1++[.lst (ws.map Y)]):=by
 have:=EZ (fi:=fi) (f:=f) (t:=gG) (el:=el) (cap:=cap) (fun _=>true) Y h hl hc fun w hw=>by
  obtain⟨ρ',e1,e2⟩:=hs w hw
  exact⟨ρ',e1,rfl,fun _=>e2⟩
 rw[List.filter_eq_self.mpr (fun _ _=>rfl)]at this
 exact this
theorem vg{q:Nat}{lo:Int}{w:W}(h:w∈bt lo q):∃i:Nat,i<q/\w=.int (lo+i):=by
 unfold bt at h
 obtain⟨i,hi,rfl⟩:=al.mp h
 exact⟨i,aT.mp hi,rfl⟩
theorem hW(h:lstOf st n=some ws):dD [.loc n] st=.ok (.tup ws) st:=by unfold dD;simp only[h,bE]
theorem Qc{p q:Int}:Cy [.int p,.int q] st=.ok (.int (if q>p then q else p)) st:=rfl
end
def qW:Nat->List jn->List jn
 |_,[]=>[]
 |n,(_,c,o,w)::l=>(n,c,o,w)::qW (n+1) l
def Bs(l:List jn):List ah:=l.map fun _=>.gone
theorem Bt(a b:List α)(x y:α):(a++x::b).set a.length y=a++y::b:=by
 rw[gv _ _ (au _),qf];rfl
theorem Bu(a b:List α)(x:α):(a++x::b)[a.length]?=some x:=by rw[cQ (au _),qf];rfl
theorem oV:∀(l:List jn) (a b:List ah),pM (List.range' a.length l.length) (a++(iB l++b))=some (qW a.length l,a++(Bs l++b))
 |[],a,b=>rfl
 |(j,c,o,w)::l,a,b=>by
  show pM (List.range' a.length (l.length+1)) (a++(.pin true c o w::(iB l++b)))=_
  rw[List.range'_succ]
  unfold pM
  rw[Bu,Bt]
  have ih:=oV l (a++[.gone]) b
  rw[aN,az,az]at ih
  have ih:pM (List.range' (a.length+1) l.length) (a++(.gone::(iB l++b)))=some (qW (a.length+1) l,a++(.gone::(Bs l++b))):=ih
  simp only[ih]
  rfl
theorem vh:∀(l:List jn) (a b:List ah),z4 (qW a.length l) (a++(Bs l++b))=some (a++(iB l++b))
 |[],a,b=>rfl
 |(j,c,o,w)::l,a,b=>by
  show z4 ((a.length,c,o,w)::qW (a.length+1) l) (a++(.gone::(Bs l++b)))=_
  unfold z4
  rw[Bu,Bt]
  have ih:=vh l (a++[.pin true c o w]) b
  rw[aN,az,az]at ih
  exact ih
theorem nU(f:Addr×Obj×W->α):∀(n:Nat) (l:List jn),((qW n l).map fun x=>f x.2)=l.map fun x=>f x.2
 |_,[]=>rfl
 |n,(j,c,o,w)::l=>by show f (c,o,w)::_=f (c,o,w)::_;rw[nU f (n+1) l]
def cY(st:List ah):Prop:=∀d∈st,∀c,mK c d=false
theorem vi:∀(l:List jn) (a b:List ah),(∀d∈a,∀x∈l,mK x.2.1 d=false)->(l.map fun x=>x.2.1).Nodup->(l.map fun x=>(((a++(iB l++b))).findIdx? (mK x.2.1)).getD 0)=List.range' a.length l.length
 |[],a,b,_,_=>rfl
 |(j,c,o,w)::l,a,b,hn,nd=>by
  rw[aF,bG]at nd
  show((a++(.pin true c o w::(iB l++b))).findIdx? (mK c)).getD 0::(l.map fun x=>((a++(.pin true c o w::(iB l++b))).findIdx? (mK x.2.1)).getD 0)=List.range' a.length (l.length+1)
  rw[List.range'_succ]
  have h1:(a++(.pin true c o w::(iB l++b))).findIdx? (mK c)=some a.length:=by
   rw[List.findIdx?_append,kI.mpr fun x hx=>by simp[hn x hx (j,c,o,w) aM]]
   rw[List.findIdx?_cons,show mK c (.pin true c o w)=true from du _];simp
  rw[h1]
  have ih:=vi l (a++[.pin true c o w]) b (fun d hd x hx=>by
   rcases a6.mp hd with hd|hd
   ·exact hn d hd x (ay _ hx)
   ·rw[bj.mp hd]
    show(c==x.2.1)=false
    rw[bP];intro z;exact nd.1 (al.mpr ⟨x,hx,z.symm⟩)) nd.2
  rw[aN,az]at ih
  have ih:(l.map fun x=>((a++(.pin true c o w::(iB l++b))).findIdx? (mK x.2.1)).getD 0)=List.range' (a.length+1) l.length:=ih
  rw[ih];rfl
theorem vj{st x:List ah}(h:undWs st.length ws=true):iJ st (st++x) ws=st:=by
 unfold iJ
 rw[aw ⟨h,by simp,fun i hi=>.inl (by rw[av hi])⟩]
 simp
theorem E0{os:List Obj}(h1:os.length=C.length)(h2:cws.length=C.length):(lG C os cws).length=C.length:=by
 induction C generalizing os cws with
 |nil=>cases os with
  |nil=>cases cws with
   |nil=>rfl
   |cons w ws=>simp at h2
  |cons o os=>simp at h1
 |cons y C ih=>cases os with
  |nil=>simp at h1
  |cons o os=>cases cws with
   |nil=>simp at h2
   |cons w ws=>
    have e:=ih (os:=os) (cws:=ws) (by simpa using h1) (by simpa using h2)
    show(lG C os ws).length+1=C.length+1
    rw[e]
theorem MJ{C:List (Str×Addr)}{os:List Obj}{cws:List W}(h1:os.length=C.length)(h2:cws.length=C.length):((lG C os cws).map fun x=>x.2.1)=C.map (·.2):=by
 induction C generalizing os cws with
 |nil=>cases os with
  |nil=>cases cws with
   |nil=>rfl
   |cons w ws=>simp at h2
  |cons o os=>simp at h1
 |cons y C ih=>cases os with
  |nil=>simp at h1
  |cons o os=>cases cws with
   |nil=>simp at h2
   |cons w ws=>
    have e:=ih (os:=os) (cws:=ws) (by simpa using h1) (by simpa using h2)
    show y.2::((lG C os ws).map fun x=>x.2.1)=y.2::C.map (·.2)
    rw[e]
theorem MK{C:List (Str×Addr)}{os:List Obj}{cws:List W}(h1:os.length=C.length)(h2:cws.length=C.length):((lG C os cws).map fun x=>x.2.2.2)=cws:=by
 induction C generalizing os cws with
 |nil=>cases os with
  |nil=>cases cws with
   |nil=>rfl
   |cons w ws=>simp at h2
  |cons o os=>simp at h1
 |cons y C ih=>cases os with
  |nil=>simp at h1
  |cons o os=>cases cws with
   |nil=>simp at h2
   |cons w ws=>
    have e:=ih (os:=os) (cws:=ws) (by simpa using h1) (by simpa using h2)
    show w::((lG C os ws).map fun x=>x.2.2.2)=w::ws
    rw[e]
theorem IY{st:List ah}{w:W}(hl:cws.length=(lF o).length)(hu:undWs st.length [w]=true)
  (hF:∀os:List Obj,os.length=(lF o).length->F ws (st++(iB (lG (lF o) os cws)++[]))=.ok w (st++(iB (lG (lF o) os cws)++[]))):CQ F o cws ws st=.ok w st:=by
 unfold CQ
 refine EM (List.replicate (lF o).length { cls:=.none,data:=.cell none }) #[7] fun os ho=>?_
 have e:=hF os ho
 unfold Bj
 rw[bO]at e
 rw[e]
 simp only
 have h:=oV (lG (lF o) os cws) st []
 rw[E0 ho hl,bO,bO]at h
 rw[h]
 simp only
 rw[aw (nU (fun y=>(y.1,y.2.1)) _ _),vj hu]
theorem ML(name q:Str)(pr:Arguments)(body:List Stmt)(sc:Scope)(xs:List Str):∃o,Mw name q pr body sc xs o:=by
 refine⟨_,xs.zip (List.range xs.length),.none,.none,0,.none,?_,?_,rfl⟩
 ·exact List.map_fst_zip #[7]
 ·rw[List.map_snd_zip #[7]];exact lU
theorem E5{st:Stmt}{xs:List Str}{P:Addr}{g:Addr->Obj->FS}{s:List ah}{w:W}(ht:qR s j P pos q)(hu:undWs s.length [w]=true)
  (h:∀f o,RY name q st xs o->∃x,g f o (ρ.set i (some (.loc s.length))) (s++[.pin false f o .non])=.rt w (s++x)):u6 (RY name q st xs) j P pos q i g ρ s=.rt w s:=by
 obtain⟨o0,h0⟩:=ML name q (dO st) (dQ st) (aY st) xs
 unfold u6
 rw[aw ht]
 refine IJ (0,o0) h0 fun p hp=>?_
 obtain⟨x,e⟩:=h p.1 p.2 hp
 rw[e]
 show RS.rt w (iJ s (s++x) [w])=_
 rw[vj hu]
theorem IZ{m:Nat}{ok:Obj->Prop}{fs:FA}{st:List ah}{w0 v:W}(hi:ρ[i]?=some (some (.loc m)))(hm:st[m]?=some (.pin false f o w0))(ha:fs ρ st=.ok ws st1)(hl:ws.length=n)(h:tf ok F m ws st1=.ok v st1) :
  oT i n ok F fs ρ st=.ok v st1:=by
 unfold oT
 rw[hi];simp only
 rw[hm];simp only
 rw[ha];simp only[R.bind_ok]
 rw[aw hl,h]
theorem MM{is:List Nat}{fs:FA}{st:List ah}{w:W}(ha:fs ρ st=.ok ws st1)(hl:ws.length=n)(hc:u9 is ρ=some cws)(h:CQ F o cws ws st1=.ok w st1):u_ n F o is fs ρ st=.ok w st1:=by
 unfold u_
 rw[ha];simp only[R.bind_ok]
 rw[aw hl,hc];simp only
 rw[h]
section
variable{st:List ah}
theorem Bv:∀l:List Bool,nu (l.map W.bl)=some l
 |[]=>rfl
 |b::l=>by simp only[aF,nu,Bv l,fI]
theorem Ke{l:List Bool}(h:lstOf st n=some (l.map W.bl)):x8 [.loc n] st=.ok (.bl (l.all id)) st:=by
 unfold x8
 simp only[h,bE,Bv]
theorem E6{y v:W}{k:KX}(hd:eO st (.loc n)=some (n,kvs))(hk:k_ y=some k)(ok:wd kvs k=true):sZ (.loc n) y v st=some (st.set n (.dcx (n5 kvs k v))):=by
 unfold sZ
 simp only[hd,hk]
 rw[aw ok]
end
end L2
namespace P
open PySem L2
open PyProof.Rows (boot_sorted boot_set boot_ord boot_all boot_enumerate boot_int boot_str boot_bool boot_list boot_tuple boot_isinstance boot_max boot_min)
noncomputable def top(i:Nat):Stmt:=PySem.Challenge.pw_trunksay_k30_not_paper.main.body.getD i (.Pass ⟨0,0,0,0⟩)
abbrev MN:Stmt:=top 1
noncomputable abbrev Ac:List Str:=["letters","rooms","lead","table","letter","leads","left"]
noncomputable abbrev Qd:List Str:=["letters","rooms","lead"]
theorem yz:b9 Ac Qd (aY MN):=pK
abbrev MO:Stmt:=top 3
noncomputable abbrev wA:List Str:=["newest"]
noncomputable abbrev Qe:List Str:=["newest"]
theorem Kf:b9 wA Qe (aY MO):=pK
abbrev MP:Stmt:=top 4
noncomputable abbrev MQ:List Str:=["word","truths"]
noncomputable abbrev Qf:List Str:=["word","truths"]
theorem Kg:b9 MQ Qf (aY MP):=pK
abbrev MR:Stmt:=top 5
noncomputable abbrev Ad:List Str:=["rooms","keys","numbers","blocks","room"]
noncomputable abbrev Qg:List Str:=["rooms","keys"]
theorem Kh:b9 Ad Qg (aY MR):=pK
abbrev MS:Stmt:=top 6
noncomputable abbrev uC:List Str:=["machine","rooms","keys","room"]
noncomputable abbrev Qh:List Str:=["machine","rooms"]
theorem Ki:b9 uC Qh (aY MS):=pK
abbrev MT:Stmt:=top 7
noncomputable abbrev Ae:List Str:=["machine","rooms","blocks","views","room","view","leads"]
noncomputable abbrev Qi:List Str:=["machine","rooms","blocks"]
theorem Kj:b9 Ae Qi (aY MT):=pK
abbrev MU:Stmt:=top 8
noncomputable abbrev tH:List Str:=["rooms","blocks","views","keys","room"]
noncomputable abbrev Qj:List Str:=["rooms","blocks","views"]
theorem Kk:b9 tH Qj (aY MU):=pK
abbrev MV:Stmt:=top 10
noncomputable abbrev Af:List Str:=["machine","rows","told","best","left","right","size","letter","leads","room","way"]
noncomputable abbrev Ql:List Str:=["machine","rows","told","best"]
theorem Kl:b9 Af Ql (aY MV):=pK
abbrev C3:Stmt:=top 11
noncomputable abbrev yA:List Str:=["machine","rows","told","best","room","way"]
noncomputable abbrev Qm:List Str:=["machine"]
theorem vk:b9 yA Qm (aY C3):=pK
abbrev MW:Stmt:=top 13
noncomputable abbrev uD:List Str:=["machine","rooms","blocks","finer"]
noncomputable abbrev Qn:List Str:=["machine","rooms"]
theorem yB:b9 uD Qn (aY MW):=pK
abbrev E7:Stmt:=top 14
noncomputable abbrev Ag:List Str:=["rooms","blocks","heads","room"]
noncomputable abbrev Km:List Str:=["rooms","blocks"]
theorem E8:b9 Ag Km (aY E7):=pK
abbrev tI:Stmt:=top 15
noncomputable abbrev Ah:List Str:=["machine","rooms","blocks","heads","good","lead","paper"]
noncomputable abbrev Kn:List Str:=["machine"]
theorem oW:b9 Ah Kn (aY tI):=pK
abbrev E9:Stmt:=top 17
noncomputable abbrev C4:List Str:=["machine","good"]
noncomputable abbrev Ko:List Str:=["machine"]
theorem E_:b9 C4 Ko (aY E9):=pK
abbrev Fa:Stmt:=top 19
noncomputable abbrev yC:List Str:=["_law_script","_law_k"]
noncomputable abbrev Kp:List Str:=["_law_script","_law_k"]
theorem Fb:b9 yC Kp (aY Fa):=pK
abbrev Fc:Stmt:=top 20
noncomputable abbrev wB:List Str:=["_law_cell_here","_law_k","_law_salt","_law_first"]
noncomputable abbrev Kq:List Str:=["_law_cell_here","_law_k","_law_salt"]
theorem Fd:b9 wB Kq (aY Fc):=pK
abbrev Fe:Stmt:=top 21
noncomputable abbrev wC:List Str:=["_law_cell_here","_law_many","_law_salt","_law_found","_law_rest","_law_k"]
noncomputable abbrev Kr:List Str:=["_law_cell_here","_law_many","_law_salt"]
theorem Ff:b9 wC Kr (aY Fe):=pK
abbrev Fg:Stmt:=top 22
noncomputable abbrev yD:List Str:=["_law_found","_law_due","_law_k"]
noncomputable abbrev Fh:List Str:=["_law_found","_law_due"]
theorem Fi:b9 yD Fh (aY Fg):=pK
abbrev Fj:Stmt:=top 23
noncomputable abbrev yE:List Str:=["_law_cell_here","_law_many","_law_salt","_law_rest","_law_found","_law_d","_law_at"]
noncomputable abbrev Ks:List Str:=["_law_cell_here","_law_many","_law_salt"]
theorem Fk:b9 yE Ks (aY Fj):=pK
abbrev Fl:Stmt:=top 24
noncomputable abbrev wD:List Str:=["_law_pool_here","_law_number"]
noncomputable abbrev Kt:List Str:=["_law_pool_here","_law_number"]
theorem Fm:b9 wD Kt (aY Fl):=pK
abbrev Fp:Stmt:=top 25
noncomputable abbrev tJ:List Str:=["_law_names","_law_many","_law_top","_law_draws_here","_law_good","_law_table","_law_at","_law_letter_here","_law_rows","_law_l"]
noncomputable abbrev Ku:List Str:=["_law_names","_law_many","_law_top","_law_draws_here"]
theorem Fq:b9 tJ Ku (aY Fp):=pK
abbrev Fr:Stmt:=top 26
noncomputable abbrev uE:List Str:=["_law_names","_law_marks_here","_law_found","_law_name"]
noncomputable abbrev Kv:List Str:=["_law_names","_law_marks_here"]
theorem Fs:b9 uE Kv (aY Fr):=pK
abbrev Ft:Stmt:=top 27
noncomputable abbrev yF:List Str:=["_law_machine_here","_law_names","_law_good","_law_truth","_law_rows","_law_row","_law_room"]
noncomputable abbrev Kw:List Str:=["_law_machine_here","_law_names"]
theorem Fu:b9 yF Kw (aY Ft):=pK
abbrev Fv:Stmt:=top 28
noncomputable abbrev Ai:List Str:=["_law_machine_here","_law_met_here","_law_at","_law_other","_law_rows","_law_room"]
noncomputable abbrev Kx:List Str:=["_law_machine_here"]
theorem Fw:b9 Ai Kx (aY Fv):=pK
abbrev Fx:Stmt:=top 29
noncomputable abbrev rq:List Str:=["_law_rows","_law_machines","_law_row","_law_k"]
noncomputable abbrev Ky:List Str:=["_law_rows","_law_machines"]
theorem Fy:b9 rq Ky (aY Fx):=pK
abbrev Fz:Stmt:=top 30
noncomputable abbrev wE:List Str:=["_law_machines","_law_names","_law_rows","_law_known","_law_row","_law_number","_law_marks_here","_law_letters","_law_one","_law_two","_law_led","_law_k","_law_table"]
noncomputable abbrev Kz:List Str:=["_law_machines","_law_names","_law_rows"]
theorem j5:b9 wE Kz (aY Fz):=pK
abbrev FB:Stmt:=top 31
noncomputable abbrev yG:List Str:=["_law_found"]
noncomputable abbrev KA:List Str:=["_law_found"]
theorem FC:b9 yG KA (aY FB):=pK
abbrev FD:Stmt:=top 32
noncomputable abbrev qE:List Str:=["_law_rows","_law_told","_law_home","_law_l","_law_r","_law_led"]
noncomputable abbrev KB:List Str:=["_law_rows","_law_told","_law_home"]
theorem FF:b9 qE KB (aY FD):=pK
abbrev FH:Stmt:=top 33
noncomputable abbrev wF:List Str:=["_law_size","_law_letter_here","_law_names","_law_many","_law_table","_law_worn","_law_step","_law_machine_here","_law_found","_law_made","_law_home","_law_truths"]
noncomputable abbrev KC:List Str:=["_law_size","_law_letter_here"]
theorem j6:b9 wF KC (aY FH):=pK
abbrev pP:Stmt:=top 34
noncomputable abbrev Qo:List Str:=["_law_script","_law_size","_law_count","_law_names","_law_many","_law_top","_law_draws_here","_law_machine_here","_law_found","_law_made","_law_rows","_law_a","_law_c","_law_again"]
noncomputable abbrev FJ:List Str:=["_law_script"]
theorem im:b9 Qo FJ (aY pP):=pK
structure Bl(mg:Str->Option Value):Prop where
 all:mg "all"=Option.none
 bool:mg "bool"=Option.none
 enumerate:mg "enumerate"=Option.none
 int:mg "int"=Option.none
 isinstance:mg "isinstance"=Option.none
 len:mg "len"=Option.none
 list:mg "list"=Option.none
 max:mg "max"=Option.none
 min:mg "min"=Option.none
 range:mg "range"=Option.none
 sorted:mg "sorted"=Option.none
 str:mg "str"=Option.none
 tuple:mg "tuple"=Option.none
noncomputable def tabL:List (Addr×Pos×Str):=[(66,⟨64,29,64,52⟩,"firsts_of.<locals>.<lambda>"),(87,⟨90,4,91,68⟩,"least_of.<locals>.lead")]
section
variable{w:World}
local macro_rules | `(tactic| walk_at "w1") => `(tactic| first | exact aB _ | refine aq ?_ ?_ | exact bD | exact aQ | refine bd ?_ ?_ | refine dk ?_ ?_ | refine df ?_ | refine sS _ ‹_› ?_ | refine jy (by first | exact sB | exact AS | exact v6 | exact ou | exact Md | exact Pu | exact AT | exact Pv | exact Me) ?_ ?_ | refine dU ‹_› ‹_› (by omega) ?_ | refine fX ?_ | refine oo ?_ | exact sG _ ‹_› | refine eS jl ‹Bl _›.len ia ?_ | refine eS Mv ‹Bl _›.len ia ?_ | refine eS J2 ‹Bl _›.max boot_max ?_ | refine eS Bn ‹Bl _›.sorted kW ?_ | refine eS A5 ‹Bl _›.sorted kW ?_ | refine eS J7 ‹Bl _›.all boot_all ?_ | refine i9 (by first | exact Ed ‹_› | exact vV ‹_› | exact Py ‹_› | exact AW ‹_› | exact J9 ‹_› | exact sY ‹_› | exact w_lt | exact Mf | exact Px | exact ya ‹_› (AW ‹_›)) ?_ ?_ | refine JW (by first | exact Ed ‹_› | exact vV ‹_› | exact Py ‹_› | exact AW ‹_› | exact J9 ‹_› | exact sY ‹_› | exact w_lt | exact Mf | exact Px | exact ya ‹_› (AW ‹_›)) ?_ ?_ | refine lB ?_ ?_ ?_ | exact i_ | refine k7 ?_ ?_ ?_ | refine sD ?_ ?_ | exact A1 | refine Ef rfl ?_ | refine kM ?_ | refine Er ‹_› ?_ ?_ | refine P5 ‹_› ?_ ?_ | refine oq ?_ | exact oN | exact JV | refine e_ PF ‹Bl _›.int boot_int ?_ | refine e_ ib ‹Bl _›.tuple d_ ?_ | refine zN PySem.F.slot_list_append PySem.F.type_list_append jS ?_ ?_ | refine zN PySem.F.slot_list_extend PySem.F.type_list_extend zQ ?_ ?_ | refine PM PySem.F.slot_str_join PySem.F.type_str_join A2 ?_ ?_ | refine fZ ‹Bl _›.range ?_ | refine Iq ‹Bl _›.enumerate ?_ | refine A' rfl ?_ (fun _ _ _ _ _ => ?_) (fun _ _ _ _ _ => ?_) (fun _ _ _ _ _ => ?_) | refine qS (sG _ ‹_›) rfl ?_ (fun _ _ _ _ _ => ?_) (fun _ _ _ _ _ => ?_) (fun _ _ _ _ _ => ?_) | refine A' (m := 0) rfl ?_ (fun _ _ _ _ _ => ?_) (fun _ _ _ _ _ => ?_) (fun _ _ _ _ _ => ?_) | refine qS (sG _ ‹_›) (m := 0) rfl ?_ (fun _ _ _ _ _ => ?_) (fun _ _ _ _ _ => ?_) (fun _ _ _ _ _ => ?_) | exact Ud _ | exact gc | refine Ip ?_ | refine iK ?_ | refine L' ?_ | refine Po ?_ | refine nj ?_ | refine zF (D5 ?_ ?_) | refine zF (sv ?_ ?_) | refine D5 ?_ ?_ | refine sv ?_ ?_ | refine Ig ?_ | refine qt ?_ | refine ni ?_ | refine JZ ?_ | refine JY ?_ ?_ | refine SV ?_ ?_ | refine JX ?_ | refine Im ?_ | exact Il | refine S_ ?_ ?_ ?_ | refine vW (Es ‹_›) ?_ ?_ ?_ | refine vW (EH ‹_›) ?_ ?_ ?_ | refine sF ?_ ?_ | exact zR | refine IH ‹_› ?_ ?_ ?_ | refine A4 ‹Bl _›.isinstance ‹Bl _›.bool boot_bool ?_ | refine A4 ‹Bl _›.isinstance ‹Bl _›.int boot_int ?_ | refine A4 ‹Bl _›.isinstance ‹Bl _›.str boot_str ?_ | refine A4 ‹Bl _›.isinstance ‹Bl _›.tuple d_ ?_)
local macro_rules | `(tactic| walk_at "w") => `(tactic| repeat' walk_at "w1")
abbrev dZ:Stmt:=(dQ tI).getD 4 (.Pass ⟨0,0,0,0⟩)
abbrev cI:Obj->Prop:=RY "lead" "least_of.<locals>.lead" dZ ["machine","heads","blocks"]
theorem pQ:z5 ["letter","left","right","machine","heads","blocks"] ["letter","left","right"] ["machine","heads","blocks"] (aY dZ):=⟨rfl,rfl,rfl,by decide +kernel,rfl,rfl,by decide +kernel,by decide +kernel,by decide +kernel,by decide +kernel⟩
def j7:FS:=(cO (e2 lE (ag 5) (e2 bM (e2 bM (e2 bM (e2 bM (ag 3) (eI 2)) (ag 0)) (e2 bM (ag 4) (ag 1))) (e2 bM (ag 4) (ag 2)))))
def dm:List W->List ah->R W:=fx 6 j7
theorem n6  :oS P w K mg base 1 3 3 cI dm:=
 IM (k:=0) pQ rfl rfl (fun _ _ _ _ _ us hl=>match us,hl with|[_,_,_],_=>rfl) fun f cd cl A outer s H E hr=>(df (fX (Er hr (aB 5) (dk (dk (dk (dk (aB 3) bD) (aB 0)) (dk (aB 4) (aB 1))) (dk (aB 4) (aB 2))))))
def Qp:FS:=(a7 (cC 3 (k6 aI)) (a7 (fg (bp (aj (ag 0) aI)) (eG 4) (a7 (cC 5 (k6 aI)) (a7 (fg (bp (aj (ag 1) aI)) (eG 6) (ga (uB dE (ag 5) (aj (bh dD (aj (cW [none,some 2,some 4,some 6] (bp (aj (ag 1) aI)) (eG 0) gG (oT 1 3 cI dm (aj (ag 2) (aj (ag 3) (aj (ag 0) aI))))) aI)) aI)))) (ga (uB dE (ag 3) (aj (bh dD (aj (ag 5) aI)) aI)))))) (cO (bh dD (aj (ag 3) aI)))))
def FK:List W->List ah->R W:=fx 7 Qp
theorem Qq(F:lZ K "table_by" "table_by" MN f fd)(B:Bl mg)(je:oS P w K mg base 1 3 3 cI dm) :fS P w K mg base (kF P w) 2 f fd Qd (l8 K mg 3 FK):=
 dX (k:=1) F yz rfl fun gU A outer s H E hr=>(bd (sS 3 yz (oq aQ)) (bd (k7 (fZ B.range (aq (aB 0) aQ)) (sG 4 yz) (bd (sS 5 yz (oq aQ)) (bd (k7 (fZ B.range (aq (aB 1) aQ)) (sG 6 yz) (df (kM (zN PySem.F.slot_list_append PySem.F.type_list_append jS (aB 5) (aq (e_ ib B.tuple d_ (aq (k8 (nm:=["right","lead","letter","left"]) (cap:=[none,some 2,some 4,some 6]) (by first|rfl|kernel_rfl) rfl (fZ B.range (aq (aB 1) aQ)) (fun _ _ _ _ _=>(sC 0)) (fun _ _ _ _ _=>gc) (fun _ _ _ _ _=>(IN 1 je (IO rfl) hr #[0] (aq (aB 2) (aq (aB 3) (aq (aB 0) aQ)))))) aQ)) aQ))))) (df (kM (zN PySem.F.slot_list_append PySem.F.type_list_append jS (aB 3) (aq (e_ ib B.tuple d_ (aq (aB 5) aQ)) aQ))))))) (df (fX (e_ ib B.tuple d_ (aq (aB 3) aQ))))))
def Qr:FS:=(cO (e2 fD (cW [none,some 0] (bp (aj (e2 fD (ag 0) (eI 1)) aI)) (eG 0) gG (kZ (aj (ag 1) (aj (ag 0) aI)))) (cW [none,some 0] (bp (aj (ag 0) aI)) (eG 0) gG (kZ (aj (ag 0) (aj (ag 1) aI))))))
def FL:List W->List ah->R W:=fx 1 Qr
theorem Qs(F:lZ K "pairs_with" "pairs_with" MO f fd)(B:Bl mg) :fS P w K mg base (kF P w) 1 f fd Qe (l8 K mg 1 FL):=
 dX (k:=0) F Kf rfl fun gU A outer s H E hr=>by have sc:=Kf;walk_at "w"
def Qt:FS:=(a7 (iX (fQ (e2 pd (ag 0) (eC (.str [115,97,109,101])))) (cO (e2 bM (ag 1) (eI 0))) cK) (a7 (iX (fQ (e2 pd (ag 0) (eC (.str [110,111,116])))) (cO (zG (e2 bM (ag 1) (eI 0)))) cK) (a7 (iX (fQ (e2 pd (ag 0) (eC (.str [97,110,100])))) (cO (uz (e2 bM (ag 1) (eI 0)) (e2 bM (ag 1) (eI 1)))) cK) (a7 (iX (fQ (e2 pd (ag 0) (eC (.str [111,114])))) (cO (TV (e2 bM (ag 1) (eI 0)) (e2 bM (ag 1) (eI 1)))) cK) (cO (e2 uA (e2 bM (ag 1) (eI 0)) (e2 bM (ag 1) (eI 1))))))))
def FM:List W->List ah->R W:=fx 2 Qt
theorem Qu(F:lZ K "says" "says" MP f fd)  :fS P w K mg base (kF P w) 1 f fd Qf (l8 K mg 2 FM):=
 dX (k:=0) F Kg rfl fun gU A outer s H E hr=>by have sc:=Kg;walk_at "w"
def Qw:FS:=(a7 (cC 2 oy) (a7 (cC 3 oy) (a7 (fg (ce (ag 0)) (eG 4) (a7 (ga (wg (ag 2) (e2 lE (ag 1) (ag 4)) (bh u5 (aj (ag 2) aI)))) (rf (ag 3) (ag 4) (e2 EK (ag 2) (e2 lE (ag 1) (ag 4))) kN))) (cO (ag 3)))))
def C5:List W->List ah->R W:=fx 5 Qw
theorem Qx(F:lZ K "numbered" "numbered" MR f fd)(B:Bl mg) :fS P w K mg base (kF P w) 1 f fd Qg (l8 K mg 2 C5):=
 dX (k:=0) F Kh rfl fun gU A outer s H E hr=>by have sc:=Kh;walk_at "w"
def Qy:FS:=(a7 (cC 2 oy) (a7 (fg (ce (ag 1)) (eG 3) (rf (ag 2) (ag 3) (e2 bM (e2 bM (ag 0) (eI 1)) (ag 3)) kN)) (cO (ej 2 C5 (aj (ag 1) (aj (ag 2) aI))))))
def I0:List W->List ah->R W:=fx 4 Qy
theorem Qz(F:lZ K "good_blocks" "good_blocks" MS f fd) (JI:eX P w K mg base 1 "numbered" 2 C5):fS P w K mg base (kF P w) 2 f fd Qh (l8 K mg 2 I0):=
 dX (k:=1) F Ki rfl fun gU A outer s H E hr=>by have sc:=Ki;walk_at "w"
def QB:FS:=(a7 (cC 3 oy) (a7 (fg (ce (ag 1)) (eG 4) (a7 (cC 5 (k6 aI)) (a7 (fg (ce (e2 bM (ag 0) (eI 2))) (eG 6) (a7 (ga (uB jX (ag 5) (aj (cW [none,some 2,some 6,some 4] (ce (ag 1)) (eG 0) gG (e2 lE (ag 1) (e2 bM (e2 bM (ag 2) (ag 3)) (ag 0)))) aI))) (ga (uB jX (ag 5) (aj (cW [none,some 2,some 4,some 6] (ce (ag 1)) (eG 0) gG (e2 lE (ag 1) (e2 bM (e2 bM (ag 3) (ag 0)) (ag 2)))) aI))))) (rf (ag 3) (ag 4) (bh dD (aj (ag 5) aI)) kN)))) (cO (ag 3))))
def C6:List W->List ah->R W:=fx 7 QB
theorem QC(F:lZ K "views_of" "views_of" MT f fd)(B:Bl mg) :fS P w K mg base (kF P w) 1 f fd Qi (l8 K mg 3 C6):=
 dX (k:=0) F Kj rfl fun gU A outer s H E hr=>by have sc:=Kj;walk_at "w"
def QD:FS:=(a7 (cC 3 oy) (a7 (fg (ce (ag 0)) (eG 4) (rf (ag 3) (ag 4) (kZ (aj (e2 lE (ag 1) (ag 4)) (aj (e2 lE (ag 2) (ag 4)) aI))) kN)) (cO (ej 2 C5 (aj (ag 0) (aj (ag 3) aI))))))
def C7:List W->List ah->R W:=fx 5 QD
theorem QF(F:lZ K "split_blocks" "split_blocks" MU f fd) (JI:eX P w K mg base 1 "numbered" 2 C5):fS P w K mg base (kF P w) 2 f fd Qj (l8 K mg 3 C7):=
 dX (k:=1) F Kk rfl fun gU A outer s H E hr=>by have sc:=Kk;walk_at "w"
def QH:FS:=(fg (ce (ej 1 FL (aj (e2 vU (bh cR (aj (ag 1) aI)) (eI 1)) aI))) (PH 2 (nq (eG 4) (nq (eG 5) A0))) (a7 (cC 6 (e2 fD (e2 fD (e2 bM (e2 bM (ag 1) (ag 4)) (eI 1)) (e2 bM (e2 bM (ag 1) (ag 5)) (eI 1))) (eI 1))) (fg (vZ (aj (e2 bM (ag 0) (eI 2)) aI)) (PH 2 (nq (eG 7) (nq (eG 8) A0))) (a7 (cC 9 (e2 bM (e2 bM (ag 8) (e2 bM (e2 bM (ag 1) (ag 4)) (eI 0))) (e2 bM (e2 bM (ag 1) (ag 5)) (eI 0)))) (a7 (cC 10 (kZ (aj (ag 6) (aj (ag 4) (aj (ag 5) (aj (ag 7) aI)))))) (iX (L_ (fQ (e2 (v7 true) (ag 9) (ag 2))) (re (fQ (e2 (v7 true) (ag 9) (ag 3))) (fQ (e2 CG (ag 10) (e2 lE (ag 3) (ag 9)))))) (rf (ag 3) (ag 9) (ag 10) kN) cK))))))
def FN:List W->List ah->R W:=fx 11 QH
theorem QJ(F:lZ K "put_ways" "put_ways" MV f fd)(B:Bl mg)(Rh:eX P w K mg base 1 "pairs_with" 1 FL):fS P w K mg base (kF P w) 2 f fd Ql (l8 K mg 4 FN):=
 dX (k:=1) F Kl rfl fun gU A outer s H E hr=>by have sc:=Kl;walk_at "w"
theorem uF(p2 p3 p4:Pos):Eu "each" "best" ⟨[],[⟨"each",none,⟨64,36,64,40⟩⟩],none,[],[],none,[]⟩ (.Subscript (.Name "best" p2) (.Name "each" p3) p4) (Ex [("each",.local),("best",.free)]):=⟨rfl,rfl,rfl,by decide,rfl,rfl,fun _ _ _ _ _ _ _=>rfl,by decide,by decide,by decide⟩
def QK:FS:=(a7 (cC 1 (k6 (aj (kZ (aj (eI 0) (aj (eI 0) (aj (kZ aI) aI)))) aI))) (a7 (cC 2 (A8 (v8 (eI 0) (eC (.bl true)) A7))) (a7 (cC 3 oy) (a7 (ga (ej 4 FN (aj (ag 0) (aj (ag 1) (aj (ag 2) (aj (ag 3) aI)))))) (a7 (l7 (fQ (e2 Pw (bh sR (aj (ag 3) aI)) (eI 0))) (a7 (cC 4 (sU 3 1 66 ⟨64,29,64,52⟩ "firsts_of.<locals>.<lambda>")) (a7 (cC 5 (A9 (ag 3) (ag 4))) (a7 (ga (uB dE (ag 1) (aj (kZ (aj (ag 4) (aj (e2 bM (ag 5) (eI 0)) (aj (kZ (aj (e2 bM (e2 bM (ag 1) (e2 bM (ag 5) (eI 1))) (eI 0)) (aj (e2 bM (e2 bM (ag 1) (e2 bM (ag 5) (eI 2))) (eI 0)) (aj (e2 bM (ag 5) (eI 3)) aI)))) aI)))) aI))) (a7 (rf (ag 2) (ag 4) (eC (.bl true)) kN) (ga (ej 4 FN (aj (ag 0) (aj (ag 1) (aj (ag 2) (aj (ag 3) aI))))))))))) (cO (bh dD (aj (ag 1) aI))))))))
def C8:List W->List ah->R W:=fx 6 QK
theorem QL(F:lZ K "firsts_of" "firsts_of" C3 f fd)(Tc:PU K fd 66)(Bk:rh base mg)(B:Bl mg)(JF:eX P w K mg base 2 "put_ways" 4 FN):fS P w K mg base (kF P w) 3 f fd Qm (l8 K mg 1 C8):=
 Tc.elim fun cT hT=>vX (k:=2) F vk rfl fun gU A outer s H E nJ hr=>(bd (sS 1 vk (oq (aq (oo (aq bD (aq bD (aq (oo aQ) aQ)))) aQ))) (bd (sS 2 vk (Mn (Iz bD oN Mm))) (bd (sS 3 vk zR) (bd (kM (dU JF hr #[0] (aq (aB 0) (aq (aB 1) (aq (aB 2) (aq (aB 3) aQ)))))) (bd (sF (i9 Mf (eS Ml B.len ia (aq (aB 3) aQ)) bD) (bd (sS 4 vk (IA (i:=3) (j:=1) hr (uF _ _ _) (nJ.symm.trans hT.1) hT.2.1 hT.2.2 Bk B.min rfl)) (bd (sS 5 vk (Mo (aB 3) (aB 4))) (bd (kM (zN PySem.F.slot_list_append PySem.F.type_list_append jS (aB 1) (aq (oo (aq (aB 4) (aq (dk (aB 5) bD) (aq (oo (aq (dk (dk (aB 1) (dk (aB 5) bD)) bD) (aq (dk (dk (aB 1) (dk (aB 5) bD)) bD) (aq (dk (aB 5) bD) aQ)))) aQ)))) aQ))) (bd (vW (Es hr) oN (aB 2) (aB 4)) (df (kM (dU JF hr #[0] (aq (aB 0) (aq (aB 1) (aq (aB 2) (aq (aB 3) aQ)))))))))))) (df (fX (e_ ib B.tuple d_ (aq (aB 1) aQ)))))))))
def QM:FS:=(a7 (cC 2 (ej 2 I0 (aj (ag 0) (aj (ag 1) aI)))) (a7 (cC 3 (ej 3 C7 (aj (ag 1) (aj (ag 2) (aj (ej 3 C6 (aj (ag 0) (aj (ag 1) (aj (ag 2) aI)))) aI))))) (a7 (l7 (fQ (e2 z7 (ag 3) (ag 2))) (a7 (cC 2 (ag 3)) (cC 3 (ej 3 C7 (aj (ag 1) (aj (ag 2) (aj (ej 3 C6 (aj (ag 0) (aj (ag 1) (aj (ag 2) aI)))) aI))))))) (cO (ag 2)))))
def I_:List W->List ah->R W:=fx 4 QM
theorem QN(F:lZ K "last_blocks" "last_blocks" MW f fd) (NQ:eX P w K mg base 2 "good_blocks" 2 I0)(JL:eX P w K mg base 2 "split_blocks" 3 C7)(JJ:eX P w K mg base 1 "views_of" 3 C6):fS P w K mg base (kF P w) 3 f fd Qn (l8 K mg 2 I_):=
 dX (k:=2) F yB rfl fun gU A outer s H E hr=>(bd (sS 2 yB (dU NQ hr #[0] (aq (aB 0) (aq (aB 1) aQ)))) (bd (sS 3 yB (dU JL hr #[0] (aq (aB 1) (aq (aB 2) (aq (dU JJ hr #[0] (aq (aB 0) (aq (aB 1) (aq (aB 2) aQ)))) aQ))))) (bd (sF (i9 (P7 hr) (aB 3) (aB 2)) (bd (sS 2 yB (aB 3)) (df (sS 3 yB (dU JL hr #[0] (aq (aB 1) (aq (aB 2) (aq (dU JJ hr #[0] (aq (aB 0) (aq (aB 1) (aq (aB 2) aQ)))) aQ)))))))) (df (fX (aB 2))))))
def KD:FS:=(a7 (cC 2 (k6 aI)) (a7 (fg (ce (ag 0)) (eG 3) (iX (fQ (e2 pd (e2 lE (ag 1) (ag 3)) (bh cR (aj (ag 2) aI)))) (ga (uB dE (ag 2) (aj (ag 3) aI))) cK)) (cO (ag 2))))
def Bw:List W->List ah->R W:=fx 4 KD
theorem MX(F:lZ K "heads_of" "heads_of" E7 f fd)(B:Bl mg) :fS P w K mg base (kF P w) 1 f fd Km (l8 K mg 2 Bw):=
 dX (k:=0) F E8 rfl fun gU A outer s H E hr=>by have sc:=E8;walk_at "w"
def KF:FS:=(a7 (zJ (cW [none] (ce (ej 1 C8 (aj (ag 0) aI))) (eG 0) gG (e2 bM (ag 0) (eI 0))) (eG 1)) (a7 (cC 2 (ej 2 I_ (aj (ag 0) (aj (ag 1) aI)))) (a7 (cC 3 (ej 2 Bw (aj (ag 1) (aj (ag 2) aI)))) (a7 (cC 4 (bh dD (aj (cW [none,some 0] (ce (ag 3)) (eG 0) gG (e2 bM (e2 bM (ag 1) (eI 1)) (ag 0))) aI))) (u6 cI 2 87 ⟨90,4,91,68⟩ "least_of.<locals>.lead" 5 fun f o=>(a7 (cC 6 (bh dD (aj (cW [none,some 2] (ce (bh nA (aj (ag 1) aI))) (eG 0) gG (kZ (aj (ag 0) (aj (e2 lE (ag 1) (ag 0)) aI)))) aI))) (cO (kZ (aj (kZ (aj (e2 bM (ag 0) (eI 0)) (aj (ag 4) (aj (u_ 3 FK o [0,3,2] (aj (bh cR (aj (e2 bM (ag 0) (eI 2)) aI)) (aj (bh cR (aj (ag 3) aI)) (aj (ag 5) aI)))) aI)))) (aj (ag 6) aI))))))))))
def tK:List W->List ah->R W:=fx 7 KF
theorem MY(F:lZ K "least_of" "least_of" tI f fd)(Tc:PU K fd 87)(Bk:rh base mg)(B:Bl mg)(NX:eX P w K mg base 3 "firsts_of" 1 C8)(G6:eX P w K mg base 1 "heads_of" 2 Bw)(N7:eX P w K mg base 3 "last_blocks" 2 I_)(NT:eX P w K mg base 2 "table_by" 3 FK):fS P w K mg base (kF P w) 4 f fd Kn (l8 K mg 1 tK):=
 Tc.elim fun cT hT=>vX (k:=3) F oW rfl fun gU A outer s H E nJ hr=>(bd (l9 (sG 1 oW) (nm:=["row"]) (cap:=[none]) (by first|rfl|kernel_rfl) rfl (iK (dU NX hr #[0] (aq (aB 0) aQ))) (fun _ _ _ _ _=>(sC 0)) (fun _ _ _ _ _=>gc) (fun _ _ _ _ _=>(dk (aB 0) bD))) (bd (sS 2 oW (dU N7 hr #[0] (aq (aB 0) (aq (aB 1) aQ)))) (bd (sS 3 oW (dU G6 hr #[0] (aq (aB 1) (aq (aB 2) aQ)))) (bd (sS 4 oW (e_ ib B.tuple d_ (aq (k8 (nm:=["room","machine"]) (cap:=[none,some 0]) (by first|rfl|kernel_rfl) rfl (iK (aB 3)) (fun _ _ _ _ _=>(sC 0)) (fun _ _ _ _ _=>gc) (fun _ _ _ _ _=>(dk (dk (aB 1) bD) (aB 0)))) aQ))) (EQ (st:=dZ) (nJ.symm.trans hT.1) hT.2.1 Bk rfl oW.nd (fun f o okN=>(bd (sS 6 oW (e_ ib B.tuple d_ (aq (k8 (nm:=["room","blocks"]) (cap:=[none,some 2]) (by first|rfl|kernel_rfl) rfl (iK (eS Bn B.sorted kW (aq (aB 1) aQ))) (fun _ _ _ _ _=>(sC 0)) (fun _ _ _ _ _=>gc) (fun _ _ _ _ _=>(oo (aq (aB 0) (aq (Er hr (aB 1) (aB 0)) aQ))))) aQ))) (df (fX (oo (aq (oo (aq (dk (aB 0) bD) (aq (aB 4) (aq (IP (st:=dZ) (xs:=["machine","heads","blocks"]) NT hr #[0] okN (aq (eS jl B.len ia (aq (dk (aB 0) bD) aQ)) (aq (eS jl B.len ia (aq (aB 3) aQ)) (aq (aB 5) aQ))) rfl (.cons rfl (.cons rfl (.cons rfl (.nil))))) aQ)))) (aq (aB 6) aQ))))))))))))
def KG:FS:=(a7 (cC 1 (bh dD (aj (cW [none] (ce (e2 bM (ag 0) (eI 1))) (eG 0) gG (ej 2 FM (aj (eC (.str [110,111,116])) (aj (k6 (aj (ag 0) aI)) aI)))) aI))) (cO (ej 1 tK (aj (kZ (aj (e2 bM (ag 0) (eI 0)) (aj (ag 1) (aj (e2 bM (ag 0) (eI 2)) aI)))) aI))))
def vm:List W->List ah->R W:=fx 2 KG
theorem MZ(F:lZ K "flipped" "flipped" E9 f fd)(B:Bl mg)(ze:eX P w K mg base 4 "least_of" 1 tK)(Rg:eX P w K mg base 1 "says" 2 FM):fS P w K mg base (kF P w) 5 f fd Ko (l8 K mg 1 vm):=
 dX (k:=4) F E_ rfl fun gU A outer s H E hr=>by have sc:=E_;walk_at "w"
def QO:FS:=(a7 (iX (fQ (e2 pd (bh cR (aj (ag 0) aI)) (eI 0))) (cO (eI 0)) cK) (cO (e2 bM (ag 0) (e2 gQ (ag 1) (bh cR (aj (ag 0) aI))))))
def tL:List W->List ah->R W:=fx 2 QO
theorem M4(F:lZ K "_law_cell" "_law_cell" Fa f fd)(B:Bl mg) :fS P w K mg base (kF P w) 1 f fd Kp (l8 K mg 2 tL):=
 dX (k:=0) F Fb rfl fun gU A outer s H E hr=>by have sc:=Fb;walk_at "w"
def QP:FS:=(a7 (cC 3 (e2 gQ (e2 iL (e2 fD (e2 fD (e2 fD (ag 0) (e2 iL (e2 iL (eI 7) (ag 1)) (ag 1))) (e2 iL (eI 13) (ag 1))) (ag 2)) (eI 69621)) (eI 2147483647))) (cO (e2 gQ (e2 iL (e2 gQ (e2 fD (e2 fD (e2 iL (ag 3) (e2 fD (e2 AQ (ag 3) (eI 1009)) (eI 3))) (e2 iL (eI 31) (ag 1))) (ag 2)) (eI 2147483629)) (eI 48271)) (eI 1000000007))))
def yH:List W->List ah->R W:=fx 4 QP
theorem M5(F:lZ K "_law_mixed" "_law_mixed" Fc f fd)  :fS P w K mg base (kF P w) 1 f fd Kq (l8 K mg 3 yH):=
 dX (k:=0) F Fd rfl fun gU A outer s H E hr=>by have sc:=Fd;walk_at "w"
def KH:FS:=(a7 (cC 3 (k6 aI)) (a7 (cC 4 (eI 0)) (a7 (iX (fQ (e2 Om (ag 0) (e2 Ps (eI 10) (eI 18)))) (cC 4 (ag 0)) cK) (a7 (fg (bp (aj (ag 1) aI)) (eG 5) (iX (fQ (e2 Pw (ag 4) (eI 0))) (a7 (ga (uB dE (ag 3) (aj (e2 gQ (ag 4) (eI 64)) aI))) (cC 4 (e2 AQ (ag 4) (eI 64)))) (ga (uB dE (ag 3) (aj (ej 3 yH (aj (ag 0) (aj (ag 5) (aj (ag 2) aI)))) aI))))) (cO (ag 3))))))
def tM:List W->List ah->R W:=fx 6 KH
theorem M6(F:lZ K "_law_draws" "_law_draws" Fe f fd)(B:Bl mg)(K':eX P w K mg base 1 "_law_mixed" 3 yH):fS P w K mg base (kF P w) 2 f fd Kr (l8 K mg 3 tM):=
 dX (k:=1) F Ff rfl fun gU A outer s H E hr=>by have sc:=Ff;walk_at "w"
def yI(RB:List W->List ah->R W):FS:=(a7 (iX (fQ (jA "tuple" (ag 1))) (a7 (iX (re (rF (fQ (jA "tuple" (ag 0)))) (fQ (e2 uA (bh cR (aj (ag 0) aI)) (bh cR (aj (ag 1) aI))))) #[11] cK) (a7 (fg (bp (aj (bh cR (aj (ag 1) aI)) aI)) (eG 2) (iX (rF (fQ (ej 2 RB (aj (e2 bM (ag 0) (ag 2)) (aj (e2 bM (ag 1) (ag 2)) aI))))) #[11] cK)) (cO (eC (.bl true))))) cK) (a7 (iX (fQ (zH (ag 1))) (cO (zH (ag 0))) cK) (a7 (iX (fQ (jA "bool" (ag 1))) (cO (uz (jA "bool" (ag 0)) (e2 pd (ag 0) (ag 1)))) cK) (a7 (iX (fQ (jA "int" (ag 1))) (cO (uz (jA "int" (ag 0)) (uz (zG (jA "bool" (ag 0))) (e2 pd (ag 0) (ag 1))))) cK) (cO (uz (jA "str" (ag 0)) (e2 pd (ag 0) (ag 1))))))))
def j8:Nat->List W->List ah->R W
 |0=>fun _ _=>.bad
 |k+1=>fx 3 (yI (j8 k))
theorem Bx{Ha:Addr}{N9:FuncData}(vC:lZ K "_law_same" "_law_same" Fg Ha N9)(zk:mg "_law_same"=some (.ref Ha))(B:Bl mg) :∀k:Nat,eX P w K mg base (0+k) "_law_same" 2 (j8 k)
 |0=>El (ps:=Fh) vC zk rfl (fun _ _ _ _ _ _ us hl=>match us,hl with|[_,_],_=>rfl)
 |k+1=>by
  have BW:=Bx vC zk B  k
  exact rH (ps:=Fh) vC zk rfl (fun _ _ _ _ _ _ us hl=>match us,hl with|[_,_],_=>rfl) (dX (k:=0+k) vC Fi rfl fun gU A outer s H E hr=>by have sc:=Fi;walk_at "w")
def KI:FS:=(a7 (cC 3 (eC (.str [65,66,67,68,69,70,71,72,73,74,75,76,77,78,79,80,81,82,83,84,85,86,87,88,89,90,97,98,99,100,101,102,103,104,105,106,107,108,109,110,111,112,113,114,115,116,117,118,119,120,121,122]))) (a7 (cC 4 (eC (.str []))) (a7 (fg (ce (ej 3 tM (aj (ag 0) (aj (ag 1) (aj (ag 2) aI))))) (eG 5) (a7 (cC 6 (e2 gQ (ag 5) (bh cR (aj (ag 3) aI)))) (a7 (cC 4 (e2 fD (ag 4) (e2 bM (ag 3) (ag 6)))) (cC 3 (e2 fD (PD (ag 3) AY (xX (ag 6))) (PD (ag 3) (xX (e2 fD (ag 6) (eI 1))) AY)))))) (cO (ag 4)))))
def yJ:List W->List ah->R W:=fx 7 KI
theorem M7(F:lZ K "_law_pool" "_law_pool" Fj f fd)(B:Bl mg)(vz:eX P w K mg base 2 "_law_draws" 3 tM):fS P w K mg base (kF P w) 3 f fd Ks (l8 K mg 3 yJ):=
 dX (k:=2) F Fk rfl fun gU A outer s H E hr=>by have sc:=Fk;walk_at "w"
def KJ:FS:=(cO (Mi pI (eC (.str [])) (aj (bh k9 (aj (cW [none,some 0,some 1] (bp (aj (bh cR (aj (ag 0) aI)) aI)) (eG 0) (fQ (e2 pd (e2 AR (e2 Ih (ag 2) (ag 0)) (eI 1)) (eI 1))) (e2 bM (ag 1) (ag 0))) aI)) aI)))
def By:List W->List ah->R W:=fx 2 KJ
theorem M8(F:lZ K "_law_marks" "_law_marks" Fl f fd)(B:Bl mg) :fS P w K mg base (kF P w) 1 f fd Kt (l8 K mg 2 By):=
 dX (k:=0) F Fm rfl fun gU A outer s H E hr=>by have sc:=Fm;walk_at "w"
def KK:FS:=(a7 (cC 4 (bh dD (aj (cW [none,some 3] (bp (aj (ag 1) aI)) (eG 0) gG (e2 pd (e2 gQ (e2 bM (ag 1) (ag 0)) (eI 2)) (eI 1))) aI))) (a7 (cC 5 (k6 aI)) (a7 (cC 6 (ag 1)) (a7 (fg (bp (aj (e2 sA (eI 1) (bh cR (aj (ag 0) aI))) aI)) (eG 7) (a7 (cC 8 (k6 aI)) (a7 (fg (bp (aj (ag 1) aI)) (eG 9) (a7 (ga (uB dE (ag 8) (aj (bh dD (aj (cW [none,some 2,some 3,some 6] (bp (aj (ag 1) aI)) (eG 0) gG (e2 gQ (e2 bM (ag 2) (e2 fD (ag 3) (ag 0))) (ag 1))) aI)) aI))) (cC 6 (e2 fD (ag 6) (ag 1))))) (ga (uB dE (ag 5) (aj (bh dD (aj (ag 8) aI)) aI)))))) (cO (kZ (aj (ag 0) (aj (ag 4) (aj (bh dD (aj (ag 5) aI)) aI)))))))))
def Bz:List W->List ah->R W:=fx 10 KK
theorem M9(F:lZ K "_law_machine" "_law_machine" Fp f fd)(B:Bl mg) :fS P w K mg base (kF P w) 1 f fd Ku (l8 K mg 4 Bz):=
 dX (k:=0) F Fq rfl fun gU A outer s H E hr=>by have sc:=Fq;walk_at "w"
def KL:FS:=(a7 (cC 2 (eI 0)) (a7 (fg (ce (ag 0)) (eG 3) (cC 2 (e2 fD (e2 iL (eI 2) (ag 2)) (bh Ee (aj (e2 (uV false) (ag 3) (ag 1)) aI))))) (cO (ag 2))))
def yK:List W->List ah->R W:=fx 4 KL
theorem M_(F:lZ K "_law_letter" "_law_letter" Fr f fd)(B:Bl mg) :fS P w K mg base (kF P w) 1 f fd Kv (l8 K mg 2 yK):=
 dX (k:=0) F Fs rfl fun gU A outer s H E hr=>by have sc:=Fs;walk_at "w"
def KM:FS:=(a7 (iX (re (rF (fQ (jA "tuple" (ag 0)))) (fQ (e2 uA (bh cR (aj (ag 0) aI)) (eI 3)))) #[11] cK) (a7 (iX (re (rF (fQ (jA "str" (e2 bM (ag 0) (eI 0))))) (fQ (e2 uA (e2 bM (ag 0) (eI 0)) (ag 1)))) #[11] cK) (a7 (cC 2 (e2 bM (ag 0) (eI 1))) (a7 (iX (re (rF (fQ (jA "tuple" (ag 2)))) (re (fQ (e2 pd (bh cR (aj (ag 2) aI)) (eI 0))) (rF (fQ (jA "tuple" (e2 bM (ag 0) (eI 2))))))) #[11] cK) (a7 (fg (ce (ag 2)) (eG 3) (iX (rF (fQ (jA "bool" (ag 3)))) #[11] cK)) (a7 (iX (fQ (e2 uA (bh cR (aj (e2 bM (ag 0) (eI 2)) aI)) (e2 sA (eI 1) (bh cR (aj (ag 1) aI))))) #[11] cK) (a7 (fg (ce (e2 bM (ag 0) (eI 2))) (eG 4) (a7 (iX (re (rF (fQ (jA "tuple" (ag 4)))) (fQ (e2 uA (bh cR (aj (ag 4) aI)) (bh cR (aj (ag 2) aI))))) #[11] cK) (fg (ce (ag 4)) (eG 5) (a7 (iX (re (rF (fQ (jA "tuple" (ag 5)))) (fQ (e2 uA (bh cR (aj (ag 5) aI)) (bh cR (aj (ag 2) aI))))) #[11] cK) (fg (ce (ag 5)) (eG 6) (iX (re (rF (fQ (jA "int" (ag 6)))) (re (fQ (jA "bool" (ag 6))) (re (fQ (e2 D9 (ag 6) (eI 0))) (fQ (e2 Om (ag 6) (bh cR (aj (ag 2) aI))))))) #[11] cK)))))) (cO (eC (.bl true))))))))))
def vn:List W->List ah->R W:=fx 7 KM
theorem Na(F:lZ K "_law_fits" "_law_fits" Ft f fd)(B:Bl mg) :fS P w K mg base (kF P w) 1 f fd Kw (l8 K mg 2 vn):=
 dX (k:=0) F Fu rfl fun gU A outer s H E hr=>by have sc:=Fu;walk_at "w"
def KN:FS:=(a7 (cC 1 (k6 (aj (eI 0) aI))) (a7 (cC 2 (eI 0)) (a7 (l7 (fQ (e2 D9 (ag 2) (bh cR (aj (ag 1) aI)))) (a7 (fg (bp (aj (e2 fD (ag 2) (eI 1)) aI)) (eG 3) (fg (ce (e2 bM (ag 0) (eI 2))) (eG 4) (fg (ce (kZ (aj (e2 bM (e2 bM (ag 4) (e2 bM (ag 1) (ag 2))) (e2 bM (ag 1) (ag 3))) (aj (e2 bM (e2 bM (ag 4) (e2 bM (ag 1) (ag 3))) (e2 bM (ag 1) (ag 2))) aI)))) (eG 5) (iX (fQ (e2 (uV true) (ag 5) (ag 1))) (ga (uB dE (ag 1) (aj (ag 5) aI))) cK)))) (cC 2 (e2 fD (ag 2) (eI 1))))) (cO (bh nA (aj (ag 1) aI))))))
def BA:List W->List ah->R W:=fx 6 KN
theorem Nb(F:lZ K "_law_met" "_law_met" Fv f fd)(B:Bl mg) :fS P w K mg base (kF P w) 1 f fd Kx (l8 K mg 1 BA):=
 dX (k:=0) F Fw rfl fun gU A outer s H E hr=>by have sc:=Fw;walk_at "w"
def KO:FS:=(a7 (iX (rF (fQ (jA "tuple" (ag 0)))) #[11] cK) (a7 (fg (ce (ag 0)) (eG 2) (a7 (iX (re (rF (fQ (jA "tuple" (ag 2)))) (fQ (e2 uA (bh cR (aj (ag 2) aI)) (bh cR (aj (ag 1) aI))))) #[11] cK) (fg (bp (aj (bh cR (aj (ag 2) aI)) aI)) (eG 3) (a7 (iX (re (rF (fQ (jA "int" (e2 bM (ag 2) (ag 3))))) (fQ (jA "bool" (e2 bM (ag 2) (ag 3))))) #[11] cK) (iX (re (fQ (e2 D9 (e2 bM (ag 2) (ag 3)) (eI 0))) (fQ (e2 Om (e2 bM (ag 2) (ag 3)) (bh cR (aj (e2 bM (e2 bM (ag 1) (ag 3)) (eI 1)) aI))))) #[11] cK))))) (cO (eC (.bl true)))))
def vo:List W->List ah->R W:=fx 4 KO
theorem Nc(F:lZ K "_law_rows_fit" "_law_rows_fit" Fx f fd)(B:Bl mg) :fS P w K mg base (kF P w) 1 f fd Ky (l8 K mg 2 vo):=
 dX (k:=0) F Fy rfl fun gU A outer s H E hr=>by have sc:=Fy;walk_at "w"
def KP:FS:=(a7 (cC 3 oy) (a7 (fg (ce (ag 2)) (eG 4) (rf (ag 3) (ag 4) (eC (.bl true)) sZ)) (a7 (fg (bp (aj (e2 sA (eI 1) (bh cR (aj (ag 1) aI))) aI)) (eG 5) (a7 (cC 6 (ej 2 By (aj (ag 1) (aj (ag 5) aI)))) (a7 (zJ (cW [none,some 6] (ce (ag 0)) (eG 0) gG (ej 2 yK (aj (e2 bM (ag 0) (eI 0)) (aj (ag 1) aI)))) (eG 7)) (fg (ce (bh nB (aj (ag 3) aI))) (eG 8) (fg (ce (bh nB (aj (ag 3) aI))) (eG 9) (a7 (cC 10 (k6 aI)) (a7 (fg (bp (aj (bh cR (aj (ag 0) aI)) aI)) (eG 11) (a7 (cC 12 (e2 bM (e2 bM (e2 bM (ag 0) (ag 11)) (eI 2)) (e2 bM (ag 7) (ag 11)))) (ga (uB dE (ag 10) (aj (e2 bM (e2 bM (ag 12) (e2 bM (ag 8) (ag 11))) (e2 bM (ag 9) (ag 11))) aI))))) (iX (fQ (e2 (yh true) (bh dD (aj (ag 10) aI)) (ag 3))) #[11] cK)))))))) (cO (eC (.bl true))))))
def BB:List W->List ah->R W:=fx 13 KP
theorem Nd(F:lZ K "_law_shuts" "_law_shuts" Fz f fd)(B:Bl mg)(G_:eX P w K mg base 1 "_law_letter" 2 yK)(GU:eX P w K mg base 1 "_law_marks" 2 By):fS P w K mg base (kF P w) 2 f fd Kz (l8 K mg 3 BB):=
 dX (k:=1) F j5 rfl fun gU A outer s H E hr=>(bd (sS 3 j5 zR) (bd (k7 (iK (aB 2)) (sG 4 j5) (df (vW (EH hr) oN (aB 3) (aB 4)))) (bd (k7 (fZ B.range (aq (jy AT bD (eS jl B.len ia (aq (aB 1) aQ))) aQ)) (sG 5 j5) (bd (sS 6 j5 (dU GU hr #[0] (aq (aB 1) (aq (aB 5) aQ)))) (bd (l9 (sG 7 j5) (nm:=["_law_machine_here","_law_marks_here"]) (cap:=[none,some 6]) (by first|rfl|kernel_rfl) rfl (iK (aB 0)) (fun _ _ _ _ _=>(sC 0)) (fun _ _ _ _ _=>gc) (fun _ _ _ _ _=>(dU G_ hr #[0] (aq (dk (aB 0) bD) (aq (aB 1) aQ))))) (df (k7 (iK (e_ (Bp hr) B.list qN (aq (aB 3) aQ))) (sG 8 j5) (df (k7 (iK (e_ (Bp hr) B.list qN (aq (aB 3) aQ))) (sG 9 j5) (bd (sS 10 j5 (oq aQ)) (bd (k7 (fZ B.range (aq (eS jl B.len ia (aq (aB 0) aQ)) aQ)) (sG 11 j5) (bd (sS 12 j5 (dk (dk (dk (aB 0) (aB 11)) bD) (dk (aB 7) (aB 11)))) (df (kM (zN PySem.F.slot_list_append PySem.F.type_list_append jS (aB 10) (aq (dk (dk (aB 12) (dk (aB 8) (aB 11))) (dk (aB 9) (aB 11))) aQ)))))) (df (lB (i9 (sY hr) (e_ ib B.tuple d_ (aq (aB 10) aQ)) (aB 3)) (df (fX oN)) i_))))))))))) (df (fX oN)))))
def KQ:FS:=(cO (uz (jA "tuple" (ag 0)) (e2 pd (bh cR (aj (ag 0) aI)) (eI 2))))
def tN:List W->List ah->R W:=fx 1 KQ
theorem Nf(F:lZ K "_law_pair" "_law_pair" FB f fd)(B:Bl mg) :fS P w K mg base (kF P w) 1 f fd KA (l8 K mg 1 tN):=
 dX (k:=0) F FC rfl fun gU A outer s H E hr=>by have sc:=FC;walk_at "w"
def KR:FS:=(a7 (fg (bp (aj (bh cR (aj (ag 2) aI)) aI)) (eG 3) (fg (bp (aj (bh cR (aj (ag 2) aI)) aI)) (eG 4) (a7 (cC 5 (e2 bM (ag 2) (e2 bM (e2 bM (ag 0) (ag 3)) (ag 4)))) (iX (fQ (e2 uA (e2 bM (e2 bM (ag 1) (e2 bM (ag 2) (ag 3))) (e2 bM (ag 2) (ag 4))) (ag 5))) #[11] cK)))) (cO (eC (.bl true))))
def yL:List W->List ah->R W:=fx 6 KR
theorem Ng(F:lZ K "_law_led_alike" "_law_led_alike" FD f fd)(B:Bl mg) :fS P w K mg base (kF P w) 1 f fd KB (l8 K mg 3 yL):=
 dX (k:=0) F FF rfl fun gU A outer s H E hr=>by have sc:=FF;walk_at "w"
def KS:FS:=(a7 (cC 2 (e2 iL (ag 1) (e2 gQ (e2 bM (ag 0) (eI 4)) (eI 2)))) (a7 (cC 3 (e2 vU (e2 fD (eI 95) (e2 gQ (e2 bM (ag 0) (eI 5)) (eI 6))) (e2 iL (eI 30) (e2 gQ (e2 bM (ag 0) (eI 4)) (eI 2))))) (a7 (cC 4 (k6 aI)) (a7 (fg (bp (aj (e2 sA (eI 1) (bh cR (aj (ag 2) aI))) aI)) (eG 5) (a7 (cC 6 (e2 fD (e2 vU (eI 1) (bh cR (aj (ag 2) aI))) (ag 5))) (ga (uB dE (ag 4) (aj (bh dD (aj (cW [none,some 3,some 6] (bp (aj (ag 3) aI)) (eG 0) gG (bh dD (aj (cW [none,some 1,some 2,some 0] (bp (aj (ag 1) aI)) (eG 0) gG (e2 gQ (e2 fD (e2 fD (ag 3) (ag 0)) (ag 2)) (ag 1))) aI))) aI)) aI))))) (a7 (cC 7 (kZ (aj (ag 2) (aj (bh dD (aj (cW [none,some 3,some 0] (bp (aj (ag 3) aI)) (eG 0) gG (e2 uA (ag 0) (e2 gQ (e2 bM (ag 2) (eI 6)) (ag 1)))) aI)) (aj (bh dD (aj (ag 4) aI)) aI))))) (a7 (cC 8 (ej 1 vm (aj (ag 7) aI))) (a7 (iX (re (rF (fQ (ej 1 tN (aj (ag 8) aI)))) (rF (fQ (ej 2 vn (aj (e2 bM (ag 8) (eI 0)) (aj (ag 2) aI)))))) #[11] cK) (a7 (cC 9 (e2 bM (ag 8) (eI 0))) (a7 (iX (re (fQ (e2 uA (bh cR (aj (e2 bM (ag 9) (eI 1)) aI)) (ag 3))) (rF (fQ (ej 2 vo (aj (e2 bM (ag 8) (eI 1)) (aj (k6 (aj (ag 7) (aj (ag 9) aI))) aI)))))) #[11] cK) (a7 (iX (fQ (e2 yp (cW [none] (ce (e2 bM (ag 8) (eI 1))) (eG 0) gG (e2 bM (ag 0) (eI 0))) (bh wm (aj (ag 3) aI)))) #[11] cK) (a7 (cC 10 (cW [none] (ce (e2 bM (ag 8) (eI 1))) (eG 0) gG (e2 bM (ag 0) (eI 1)))) (a7 (zJ (cW [none,some 9] (ce (ag 10)) (eG 0) gG (e2 bM (e2 bM (ag 1) (eI 1)) (ag 0))) (eG 11)) (a7 (iX (re (fQ (e2 uA (e2 bM (ag 10) (eI 0)) (eI 0))) (fQ (e2 CW (ag 11) (cW [none] (ce (e2 bM (ag 7) (eI 1))) (eG 0) gG (zG (ag 0)))))) #[11] cK) (cO (bh x8 (aj (cW [none,some 10,some 4,some 9] (bp (aj (bh cR (aj (ag 4) aI)) aI)) (eG 0) gG (ej 3 yL (aj (e2 bM (ag 2) (ag 0)) (aj (e2 bM (e2 bM (ag 3) (eI 2)) (ag 0)) (aj (ag 1) aI))))) aI))))))))))))))))
def BC:List W->List ah->R W:=fx 12 KS
theorem Nh(F:lZ K "_law_large" "_law_large" FH f fd)(B:Bl mg)(vF:eX P w K mg base 1 "_law_fits" 2 vn)(G4:eX P w K mg base 1 "_law_led_alike" 3 yL)(ui:eX P w K mg base 1 "_law_pair" 1 tN)(vE:eX P w K mg base 1 "_law_rows_fit" 2 vo)(vB:eX P w K mg base 5 "flipped" 1 vm):fS P w K mg base (kF P w) 6 f fd KC (l8 K mg 2 BC):=
 dX (k:=5) F j6 rfl fun gU A outer s H E hr=>(bd (sS 2 j6 (jy v6 (aB 1) (jy ou (dk (aB 0) bD) bD))) (bd (sS 3 j6 (jy AS (jy sB bD (jy ou (dk (aB 0) bD) bD)) (jy v6 bD (jy ou (dk (aB 0) bD) bD)))) (bd (sS 4 j6 (oq aQ)) (bd (k7 (fZ B.range (aq (jy AT bD (eS jl B.len ia (aq (aB 2) aQ))) aQ)) (sG 5 j6) (bd (sS 6 j6 (jy sB (jy AS bD (eS jl B.len ia (aq (aB 2) aQ))) (aB 5))) (df (kM (zN PySem.F.slot_list_append PySem.F.type_list_append jS (aB 4) (aq (e_ ib B.tuple d_ (aq (IS (nm:=["_law_l","_law_many","_law_step"]) (cap:=[none,some 3,some 6]) (by first|rfl|kernel_rfl) (fZ B.range (aq (aB 3) aQ)) (fun _ _ _ _ _=>(sO 0)) (fun _ _ _ _ _=>gc) (fun _ _ _ _ _=>(e_ ib B.tuple d_ (aq (Iy (nm:=["_law_r","_law_many","_law_step","_law_l"]) (cap:=[none,some 1,some 2,some 0]) (by first|rfl|kernel_rfl) (fZ B.range (aq (aB 1) aQ)) (fun _ _ _ _ _=>(sC 0)) (fun _ _ _ _ _=>gc) (fun _ _ _ _ _=>(jy ou (jy sB (jy sB (aB 3) (aB 0)) (aB 2)) (aB 1)))) aQ)))) aQ)) aQ)))))) (bd (sS 7 j6 (oo (aq (aB 2) (aq (e_ ib B.tuple d_ (aq (k8 (nm:=["_law_room","_law_many","_law_size"]) (cap:=[none,some 3,some 0]) (by first|rfl|kernel_rfl) rfl (fZ B.range (aq (aB 3) aQ)) (fun _ _ _ _ _=>(sC 0)) (fun _ _ _ _ _=>gc) (fun _ _ _ _ _=>(JW (vV hr) (aB 0) (jy ou (dk (aB 2) bD) (aB 1))))) aQ)) (aq (e_ ib B.tuple d_ (aq (aB 4) aQ)) aQ))))) (bd (sS 8 j6 (dU vB hr #[0] (aq (aB 7) aQ))) (bd (lB (zF (sv (nj (ni (dU ui hr #[0] (aq (aB 8) aQ)))) (qt (nj (ni (dU vF hr #[0] (aq (dk (aB 8) bD) (aq (aB 2) aQ)))))))) (df (fX oN)) i_) (bd (sS 9 j6 (dk (aB 8) bD)) (bd (lB (zF (sv (i9 (vV hr) (eS jl B.len ia (aq (dk (aB 9) bD) aQ)) (aB 3)) (qt (nj (ni (dU vE hr #[0] (aq (dk (aB 8) bD) (aq (oq (aq (aB 7) (aq (aB 9) aQ))) aQ)))))))) (df (fX oN)) i_) (bd (lB (i9 (Ka hr) (k8 (nm:=["_law_row"]) (cap:=[none]) (by first|rfl|kernel_rfl) rfl (iK (dk (aB 8) bD)) (fun _ _ _ _ _=>(sC 0)) (fun _ _ _ _ _=>gc) (fun _ _ _ _ _=>(dk (aB 0) bD))) (IQ hr B.list B.range (aq (aB 3) aQ))) (df (fX oN)) i_) (bd (sS 10 j6 (k8 (nm:=["_law_row"]) (cap:=[none]) (by first|rfl|kernel_rfl) rfl (iK (dk (aB 8) bD)) (fun _ _ _ _ _=>(sC 0)) (fun _ _ _ _ _=>gc) (fun _ _ _ _ _=>(dk (aB 0) bD)))) (bd (l9 (sG 11 j6) (nm:=["_law_c","_law_made"]) (cap:=[none,some 9]) (by first|rfl|kernel_rfl) rfl (iK (aB 10)) (fun _ _ _ _ _=>(sC 0)) (fun _ _ _ _ _=>gc) (fun _ _ _ _ _=>(dk (dk (aB 1) bD) (aB 0)))) (bd (lB (zF (sv (i9 (vV hr) (dk (aB 10) bD) bD) (qt (i9 (P9 hr) (aB 11) (k8 (nm:=["_law_truth"]) (cap:=[none]) (by first|rfl|kernel_rfl) rfl (iK (dk (aB 7) bD)) (fun _ _ _ _ _=>(sC 0)) (fun _ _ _ _ _=>gc) (fun _ _ _ _ _=>(JZ (aB 0)))))))) (df (fX oN)) i_) (df (fX (eS J7 B.all boot_all (aq (k8 (nm:=["_law_number","_law_home","_law_table","_law_made"]) (cap:=[none,some 10,some 4,some 9]) (by first|rfl|kernel_rfl) rfl (fZ B.range (aq (eS jl B.len ia (aq (aB 4) aQ)) aQ)) (fun _ _ _ _ _=>(sC 0)) (fun _ _ _ _ _=>gc) (fun _ _ _ _ _=>(dU G4 hr #[0] (aq (dk (aB 2) (aB 0)) (aq (dk (dk (aB 3) bD) (aB 0)) (aq (aB 1) aQ)))))) aQ)))))))))))))))))
def KU:FS:=(a7 (cC 1 (ej 3 tM (aj (ej 2 tL (aj (ag 0) (aj (eI 0) aI))) (aj (eI 7) (aj (eI 100003) aI))))) (a7 (iX (fQ (e2 pd (e2 gQ (e2 bM (ag 1) (eI 3)) (eI 16)) (eI 5))) (cO (ej 2 BC (aj (ag 1) (aj (ej 3 yJ (aj (ej 2 tL (aj (ag 0) (aj (eI 1) aI))) (aj (eI 1) (aj (eI 200017) aI)))) aI)))) cK) (a7 (cC 2 (e2 gQ (e2 bM (ag 1) (eI 0)) (eI 3))) (a7 (cC 3 (Mi pI (eC (.str [])) (aj (bh k9 (aj (ej 3 yJ (aj (ej 2 tL (aj (ag 0) (aj (eI 1) aI))) (aj (ag 2) (aj (eI 200017) aI)))) aI)) aI))) (a7 (cC 4 (e2 fD (eI 1) (e2 gQ (e2 bM (ag 1) (eI 1)) (e2 bM (k6 (aj (eI 7) (aj (eI 5) (aj (eI 3) aI)))) (ag 2))))) (a7 (cC 5 (ag 4)) (a7 (iX (fQ (e2 pd (e2 gQ (e2 bM (ag 1) (eI 2)) (eI 3)) (eI 1))) (cC 5 (bh Cy (aj (eI 1) (aj (e2 vU (ag 4) (eI 1)) aI)))) cK) (a7 (cC 6 (ej 3 tM (aj (ej 2 tL (aj (ag 0) (aj (eI 2) aI))) (aj (e2 fD (ag 4) (e2 sA (e2 iL (ag 4) (ag 4)) (ag 2))) (aj (eI 300007) aI))))) (a7 (cC 7 (ej 4 Bz (aj (ag 3) (aj (ag 4) (aj (ag 5) (aj (ag 6) aI)))))) (a7 (cC 8 (ej 1 vm (aj (ag 7) aI))) (a7 (iX (re (rF (fQ (ej 1 tN (aj (ag 8) aI)))) (rF (fQ (ej 2 vn (aj (e2 bM (ag 8) (eI 0)) (aj (ag 3) aI)))))) #[11] cK) (a7 (cC 9 (e2 bM (ag 8) (eI 0))) (a7 (cC 10 (e2 bM (ag 8) (eI 1))) (a7 (iX (re (rF (fQ (ej 2 vo (aj (ag 10) (aj (k6 (aj (ag 7) (aj (ag 9) aI))) aI))))) (fQ (e2 yp (cW [none] (ce (ag 10)) (eG 0) gG (e2 bM (ag 0) (eI 0))) (ej 1 BA (aj (ag 7) aI))))) #[11] cK) (a7 (iX (fQ (e2 uA (e2 bM (ag 10) (eI 0)) (kZ (aj (eI 0) (aj (eI 0) aI))))) #[11] cK) (a7 (fg (ce (ag 10)) (PH 2 (nq (eG 11) (nq (eG 12) A0))) (iX (fQ (e2 pd (e2 bM (e2 bM (ag 9) (eI 1)) (ag 12)) (e2 bM (e2 bM (ag 7) (eI 1)) (ag 11)))) #[11] cK)) (a7 (iX (rF (fQ (ej 3 BB (aj (k6 (aj (ag 7) (aj (ag 9) aI))) (aj (ag 3) (aj (ag 10) aI)))))) #[11] cK) (a7 (cC 13 (ej 1 tK (aj (ag 9) aI))) (cO (uz (ej 1 tN (aj (ag 13) aI)) (ej 2 (j8 40) (aj (e2 bM (ag 13) (eI 0)) (aj (ag 9) aI)))))))))))))))))))))))
def f_q28:List W->List ah->R W:=fx 14 KU
theorem Ni(F:lZ K "law" "law" pP f fd)(B:Bl mg)(vA:eX P w K mg base 1 "_law_cell" 2 tL)(vz:eX P w K mg base 2 "_law_draws" 3 tM)(vF:eX P w K mg base 1 "_law_fits" 2 vn)(GW:eX P w K mg base 6 "_law_large" 2 BC)(G0:eX P w K mg base 1 "_law_machine" 4 Bz)(GN:eX P w K mg base 1 "_law_met" 1 BA)(ui:eX P w K mg base 1 "_law_pair" 1 tN)(BX:eX P w K mg base 3 "_law_pool" 3 yJ)(vE:eX P w K mg base 1 "_law_rows_fit" 2 vo)(BW:eX P w K mg base 40 "_law_same" 2 (j8 40))(GY:eX P w K mg base 2 "_law_shuts" 3 BB)(vB:eX P w K mg base 5 "flipped" 1 vm)(ze:eX P w K mg base 4 "least_of" 1 tK):fS P w K mg base (kF P w) 41 f fd FJ (l8 K mg 1 f_q28):=
 dX (k:=40) F im rfl fun gU A outer s H E hr=>(bd (sS 1 im (dU vz hr #[0] (aq (dU vA hr #[0] (aq (aB 0) (aq bD aQ))) (aq bD (aq bD aQ))))) (bd (lB (i9 (Ed hr) (jy ou (dk (aB 1) bD) bD) bD) (df (fX (dU GW hr #[0] (aq (aB 1) (aq (dU BX hr #[0] (aq (dU vA hr #[0] (aq (aB 0) (aq bD aQ))) (aq bD (aq bD aQ)))) aQ))))) i_) (bd (sS 2 im (jy ou (dk (aB 1) bD) bD)) (bd (sS 3 im (PM PySem.F.slot_str_join PySem.F.type_str_join A2 JV (aq (eS A5 B.sorted kW (aq (dU BX hr #[0] (aq (dU vA hr #[0] (aq (aB 0) (aq bD aQ))) (aq (aB 2) (aq bD aQ)))) aQ)) aQ))) (bd (sS 4 im (jy sB bD (jy ou (dk (aB 1) bD) (dk (oq (aq bD (aq bD (aq bD aQ)))) (aB 2))))) (bd (sS 5 im (aB 4)) (bd (lB (i9 (Ed hr) (jy ou (dk (aB 1) bD) bD) bD) (df (sS 5 im (eS J2 B.max boot_max (aq bD (aq (jy AS (aB 4) bD) aQ))))) i_) (bd (sS 6 im (dU vz hr #[0] (aq (dU vA hr #[0] (aq (aB 0) (aq bD aQ))) (aq (jy sB (aB 4) (jy AT (jy v6 (aB 4) (aB 4)) (aB 2))) (aq bD aQ))))) (bd (sS 7 im (dU G0 hr #[0] (aq (aB 3) (aq (aB 4) (aq (aB 5) (aq (aB 6) aQ)))))) (bd (sS 8 im (dU vB hr #[0] (aq (aB 7) aQ))) (bd (lB (zF (sv (nj (ni (dU ui hr #[0] (aq (aB 8) aQ)))) (qt (nj (ni (dU vF hr #[0] (aq (dk (aB 8) bD) (aq (aB 3) aQ)))))))) (df (fX oN)) i_) (bd (sS 9 im (dk (aB 8) bD)) (bd (sS 10 im (dk (aB 8) bD)) (bd (lB (zF (sv (nj (ni (dU vE hr #[0] (aq (aB 10) (aq (oq (aq (aB 7) (aq (aB 9) aQ))) aQ))))) (qt (i9 (Ka hr) (k8 (m:=0) (nm:=["_law_row"]) (cap:=[none]) (by first|rfl|kernel_rfl) rfl (iK (aB 10)) (fun _ _ _ _ _=>(sC 0)) (fun _ _ _ _ _=>gc) (fun _ _ _ _ _=>(dk (aB 0) bD))) (dU GN hr #[0] (aq (aB 7) aQ)))))) (df (fX oN)) i_) (bd (lB (i9 (vV hr) (dk (aB 10) bD) (oo (aq bD (aq bD aQ)))) (df (fX oN)) i_) (bd (k7 (iK (aB 10)) (Ef rfl (sD (sG 11 im) (sD (sG 12 im) A1))) (df (lB (i9 (Ed hr) (dk (dk (aB 9) bD) (aB 12)) (dk (dk (aB 7) bD) (aB 11))) (df (fX oN)) i_))) (bd (lB (nj (ni (dU GY hr #[0] (aq (oq (aq (aB 7) (aq (aB 9) aQ))) (aq (aB 3) (aq (aB 10) aQ)))))) (df (fX oN)) i_) (bd (sS 13 im (dU ze hr #[0] (aq (aB 9) aQ))) (df (fX (JY (dU ui hr #[0] (aq (aB 13) aQ)) (JX (dU BW hr #[0] (aq (dk (aB 13) bD) (aq (aB 9) aQ)))))))))))))))))))))))))
end
theorem Nj(ns:List α)(hl:0<ns.length)(k:Int):∃c∈ns,n_ ns (k%((ns.length:Nat):Int))=some c:=by
 have h0:0<=k%((ns.length:Nat):Int):=ii _ #[0]
 have h1:k%((ns.length:Nat):Int)<ns.length:=ky _ #[0]
 obtain⟨m,hm⟩:=Int.eq_ofNat_of_zero_le h0
 rw[hm]at h1 ⊢
 have h2:m<ns.length:=by omega
 exact⟨ns[m],gY _,eM (by simp[h2])⟩
theorem wG{st:List ah}(h:st[n]?=some (.ro (ns.map W.int)))(k:Int):∃c,tL [.loc n,.int k] st=.ok (.int c) st:=by
 by_cases hn:ns=[]
 ·subst hn
  refine⟨0,?_⟩
  apply nS;apply EV;apply tD
  ·(repeat' (first|with_reducible exact jB (rN h)|walk_at "ev1"))
  ·(walk_at "evs")
 ·have hl:0<ns.length:=List.length_pos_iff.mpr hn
  obtain⟨c,hc,e⟩:=Nj (ns.map W.int) (by simpa using hl) k
  obtain⟨c,_,rfl⟩:=al.mp hc
  refine⟨c,?_⟩
  apply nS;apply Kb
  ·apply tF
   ·(repeat' (first|with_reducible exact jB (rN h)|walk_at "ev1"))
    rw[bP,ai];omega
   ·(walk_at "evs")
  ·(repeat' (first|with_reducible exact jB (rN h)|with_reducible exact jo (rN h) e|walk_at "ev1"))
   rw[ai];omega
theorem FQ(c k s:Int)(hk:-(2^64)<k/\k<2^64)(st:List ah):∃r,0<=r/\yH [.int c,.int k,.int s] st=.ok (.int r) st:=by
 have big:∀q:Int,0<=q%2147483647/\q%2147483647<2147483647:=fun q=>⟨ii _ #[8],ky _ #[8]⟩
 refine⟨(((c+7*k*k+13*k+s)*69621%2147483647*((c+7*k*k+13*k+s)*69621%2147483647/1009+3)+31*k+s)%2147483629*48271)%1000000007,ii _ #[8],?_⟩
 apply nS;apply Kb
 ·(walk_at "evs")<;>first|exact .inl #[8]|exact .inr #[8]|exact .inr hk
 ·(walk_at "evs")<;>first|exact .inl #[8]|exact .inr #[8]|exact .inl (by have:=big ((c+7*k*k+13*k+s)*69621);omega)
theorem tO(c s:Int)(m:Nat)(hm:m<=1000)(st:List ah):∃ds:List Int,ds.length=m/\(∀d∈ds,0<=d)/\tM [.int c,.int m,.int s] st=.ok #[5] (st++[.lst (ds.map W.int)]):=by
 suffices hh:hU (yw fun w bL=>∃j x,w=.loc (st.length+j)/\bL=st++x/\j=0/\∃ds:List Int,x=[.lst (ds.map W.int)]/\ds.length=m/\∀d∈ds,0<=d) (KH ([W.int c,.int m,.int s].map some++List.replicate (6-3) none) st) by
  obtain⟨j,x,⟨rfl,ds,rfl,h1,h2⟩,e⟩:=kO hh
  exact⟨ds,h1,h2,e⟩
 apply aS
 ·(walk_at "evs")
 apply aS
 ·(walk_at "evs")
 have main:∀r0:Int,hU (yw fun w bL=>∃j x,w=.loc (st.length+j)/\bL=st++x/\j=0/\∃ds:List Int,x=[.lst (ds.map W.int)]/\ds.length=m/\∀d∈ds,0<=d)
   (a7 (fg (bp (aj (ag 1) aI)) (eG 5) (iX (fQ (e2 Pw (ag 4) (eI 0))) (a7 (ga (uB dE (ag 3) (aj (e2 gQ (ag 4) (eI 64)) aI))) (cC 4 (e2 AQ (ag 4) (eI 64)))) (ga (uB dE (ag 3) (aj (ej 3 yH (aj (ag 0) (aj (ag 5) (aj (ag 2) aI)))) aI))))) (cO (ag 3))
   [some (.int c),some (.int m),some (.int s),some #[5],some (.int r0),none] (st++[.lst []])):=by
  intro r0
  refine dy (fun i ρ bL=>∃(r:Int) (o:Option W) (ds:List Int),ρ=[some (.int c),some (.int m),some (.int s),some #[5],some (.int r),o]/\bL=st++[.lst (ds.map W.int)]/\ds.length=i/\∀d∈ds,0<=d) (cX (by(walk_at "evs");rfl) #[0])
   ⟨r0,none,[],rfl,rfl,rfl,by simp⟩ #[9] ?_ ?_
  ·rintro i w ρ bL hw ⟨r,o,ds,rfl,rfl,hd,h⟩
   obtain⟨hi,rfl⟩:=fF hw
   refine⟨_,rfl,?_⟩
   have fC:(st++[ah.lst (ds.map W.int)])[st.length]?=some (.lst (ds.map W.int)):=by rw[cv];rfl
   have hsh:(ds.map W.int).length<kE:=by rw[ai,hd];show i<1000000;omega
   by_cases hr:0<r
   ·apply yx
    ·(walk_at "evs");simpa using hr
    apply aS
    ·(repeat' (first|with_reducible exact gT fC|with_reducible exact qV fC hsh|walk_at "ev1"))
    rw[eJ]
    apply ja
    ·(walk_at "evs")
    ·refine⟨_,_,rfl,r/64,_,ds++[r%64],rfl,by simp,by simp[hd],fun d hd'=>?_⟩
     rcases a6.mp hd' with hd'|hd'
     ·exact h d hd'
     ·rw[bj.mp hd'];exact ii _ #[8]
   ·obtain⟨q,hq,e⟩:=FQ c (0+i) s #[0] (st++[ah.lst (ds.map W.int)])
    apply mL
    ·(walk_at "evs");simpa using hr
    apply ja
    ·(repeat' (first|with_reducible exact gT fC|with_reducible exact qV fC hsh|with_reducible exact e|walk_at "ev1"))
    ·refine⟨_,_,rfl,r,_,ds++[q],rfl,by rw[eJ];simp,by simp[hd],fun d hd'=>?_⟩
     rcases a6.mp hd' with hd'|hd'
     ·exact h d hd'
     ·rw[bj.mp hd'];exact hq
  ·rintro ρ bL ⟨r,o,ds,rfl,rfl,hd,h⟩
   apply eK
   ·(walk_at "evs")
   ·exact⟨_,_,rfl,0,_,rfl,rfl,rfl,ds,rfl,by rw[hd];simpa using bQ 0 m,h⟩
 by_cases hc:(10:Int)^18<=c
 ·apply aS
  ·apply tD
   ·(walk_at "evs")<;>simpa using hc
   ·(walk_at "evs")
  ·exact main c
 ·apply aS
  ·apply tF
   ·(walk_at "evs")<;>simpa using hc
   ·(walk_at "evs")
  ·exact main 0
noncomputable abbrev LL:List Nat:=[65,66,67,68,69,70,71,72,73,74,75,76,77,78,79,80,81,82,83,84,85,86,87,88,89,90,97,98,99,100,101,102,103,104,105,106,107,108,109,110,111,112,113,114,115,116,117,118,119,120,121,122]
theorem BD(c s:Int)(m:Nat)(hm:m<=52)(st:List ah):∃l:List Nat,l.length=m/\l.Nodup/\(∀d∈l,d∈LL)/\yJ [.int c,.int m,.int s] st=.ok (.str l) st:=by
 suffices hh:hU (yw fun w bL=>(∃x,bL=st++x)/\undWs st.length [w]=true/\∃l:List Nat,w=.str l/\l.length=m/\l.Nodup/\∀d∈l,d∈LL) (KI ([W.int c,.int m,.int s].map some++List.replicate (7-3) none) st) by
  obtain⟨w,⟨l,rfl,h1,h2,h3⟩,e⟩:=wu hh
  exact⟨l,h1,h2,h3,e⟩
 obtain⟨ds,h1,h2,e⟩:=tO c s m #[0] st
 apply aS
 ·(walk_at "evs")
 apply aS
 ·(walk_at "evs")
 have fC:lstOf (st++[ah.lst (ds.map W.int)]) st.length=some (ds.map W.int):=aR (by rw[cv];rfl)
 refine dy (fun i ρ bL=>∃(r f:List Nat) (o o2:Option W),ρ=[some (.int c),some (.int m),some (.int s),some (.str r),some (.str f),o,o2]/\bL=st++[.lst (ds.map W.int)]/\f.length=i/\r.length+i=52/\(f++r).Perm LL) (gy (by(repeat' (first|with_reducible exact e|walk_at "ev1"))) fC)
  ⟨LL,[],none,none,rfl,rfl,rfl,rfl,.refl _⟩ (fun i ρ bL h=>?_) ?_ ?_
 ·obtain⟨r,f,o,o2,rfl,rfl,_⟩:=h
  exact fC
 ·rintro i w ρ bL hw ⟨r,f,o,o2,rfl,rfl,hf,hr,hfl⟩
  obtain⟨d,hd,rfl⟩:∃d,ds[i]?=some d/\w=.int d:=by
   simp only[ak,a_]at hw
   obtain⟨d,h1,rfl⟩:=hw
   exact⟨d,h1,rfl⟩
  have hi:i<m:=by rw[<- h1];exact(aa.mp hd).1
  obtain⟨q,hq,eq⟩:=mf (q:=d) (n:=r.length) #[0]
  have hL:r.length<=kE:=by show _<=1000000;omega
  have hLf:f.length<=kE:=by show _<=1000000;omega
  have hat:n_ r (d%(r.length:Int))=some r[q]:=by rw[eq];exact eM (by simp[hq])
  refine⟨_,rfl,?_⟩
  apply aS
  ·(repeat' (first|with_reducible exact qC hL|walk_at "ev1"))
   show 0<(r.length:Int);omega
  apply aS
  ·have ha:f.length+[r[q]].length<=kE:=by show _+1<=1000000;omega
   (repeat' (first|with_reducible exact Kc hL hat|with_reducible exact EW ha|walk_at "ev1"))
  apply ja
  ·(repeat' (first|with_reducible exact Qa hL|walk_at "ev1"))
   rw[eq,ww #[0],show((q:Int)+1)=((q+1:Nat):Int)from rfl,wz #[0],bf,f7]
   show _<=1000000;omega
  ·refine⟨_,_,rfl,_,_,_,_,rfl,rfl,by simp[hf],?_,?_⟩
   ·rw[eq,ww #[0],show((q:Int)+1)=((q+1:Nat):Int)from rfl,wz #[0],aN,bf,f7]
    omega
   ·rw[eq,ww #[0],show((q:Int)+1)=((q+1:Nat):Int)from rfl,wz #[0]]
    refine List.Perm.trans ?_ hfl
    rw[az]
    refine List.Perm.append_left f ?_
    have e:r=r.take q++r[q]::r.drop (q+1):=by rw[<- fE hq,List.take_append_drop]
    have e2:(r[q]::(r.take q++r.drop (q+1))).Perm r:=(List.perm_middle.symm).trans (by rw[<- e])
    exact e2
 ·rintro ρ bL ⟨r,f,o,o2,rfl,rfl,hf,hr,hfl⟩
  apply eK
  ·(walk_at "evs")
  ·exact⟨_,_,rfl,⟨_,rfl⟩,rfl,f,rfl,by rw[hf];simpa using h1,(c_.mp (hfl.nodup_iff.mpr #[8])).1,fun d hd=>hfl.mem_iff.mp (cP _ hd)⟩
theorem rO{st s:List ah}{p:Nat}{c:ah}(h:st <+: s)(hp:st.length<=p):st <+: s.set p c:=by
 obtain⟨x,rfl⟩:=h
 rw[show p=st.length+(p-st.length) by omega,j3]
 exact aJ _ _
theorem BE{st s y:List ah}(h:st <+: s):st <+: s++y:=h.trans (aJ _ _)
theorem pre_get{st s:List ah}{c:ah}(h:st <+: s)(e:st[i]?=some c):s[i]?=some c:=by
 obtain⟨x,rfl⟩:=h
 exact ax e
theorem wH{s:List ah}{p:Nat}{c d:ah}(h:s[p]?=some d):(s.set p c)[p]?=some c:=by
 rw[bB (aa.mp h).1]
theorem bK{s:List ah}{c:ah}:(s++[c])[s.length]?=some c:=by rw[cv];rfl
noncomputable def wI(l:List Int):List W:=l.map W.int
theorem jj{s:List ah}{p:Nat}{ds:List Int}{d:Int}(h:s[p]?=some (.lst (wI ds)))(e:ds[i]?=some d):bM (.loc p) (.int i) s=.ok (.int d) s:=jo (aR h) (eM (by rw[wI,ak,e];rfl))
theorem yM{st:List ah}(h:lstOf st n=some (ls.map W.str))(hl:ls.length<64):k9 [.loc n] st=.ok #[5] (st++[.lst ((fJ ls).map W.str)]):=by
 show nN [.loc n] st=_
 unfold nN
 simp only[h,bE,uY]
 rw[aw hl]
theorem pR{a b:List (List Nat)}(h:a.Perm b):(a.map List.length).sum=(b.map List.length).sum:=by
 induction h with
 |nil=>rfl
 |cons x _ ih=>simp only[aF,lu,ih]
 |swap x y l=>simp only[aF,lu];omega
 |trans _ _ ih1 ih2=>rw[ih1,ih2]
theorem tP(l:List Nat):(((l.map fun c=>[c])).map List.length).sum=l.length:=by
 induction l with
 |nil=>rfl
 |cons a r ih=>simp only[aF,lu,bz,ih,dM];omega
def Hg(l:List Nat):List Nat:=ng [] (fJ (l.map fun c=>[c]))
theorem Ja(l:List Nat):(Hg l).length=l.length:=by
 unfold Hg;rw[qo,List.length_flatten,pR (gI _),tP]
theorem RZ{st s1:List ah}(h:fe ρ st=.ok (.loc n) s1)(hc:lstOf s1 n=some ((l.map fun c=>[c]).map W.str))(hl:l.length<64) :
  Mi pI (eC (.str [])) (aj (bh k9 (aj fe aI)) aI) ρ st=.ok (.str (Hg l)) (s1++[.lst ((fJ (l.map fun c=>[c])).map W.str)]):=by
 have hs:=yM hc (by simpa using hl)
 have hcell2:lstOf (s1++[ah.lst ((fJ (l.map fun c=>[c])).map W.str)]) s1.length=some ((fJ (l.map fun c=>[c])).map W.str):=aR bK
 have hj:=Ab (sep:=[]) hcell2 (by rw[pR (gI _),tP];show _<=1000000;simp;omega)
 exact IW dY rfl (aA (bu (aA h bF) hs) bF) hj
section
variable{st:List ah}{fs:FA}
theorem Jb(V:β->W)(Pb:Nat->β->Prop)(hr:fs ρ st=.ok [.int n] st)(hn:n<=100000)(h:∀i:Nat,i<n->∃b,Pb i b/\el ((pJ cap ρ).set 0 (some (.int i))) st=.ok (V b) st) :
  ∃r:List β,r.length=n/\(∀i b,r[i]?=some b->Pb i b)/\cW cap (bp fs) (eG 0) gG el ρ st=.ok #[5] (st++[.lst (r.map V)]):=by
 let f:Fin n->β:=fun i=>Classical.choose (h i i.2)
 have hf:∀i:Fin n,Pb i (f i)/\el ((pJ cap ρ).set 0 (some (.int (i:Nat)))) st=.ok (V (f i)) st:=fun i=>Classical.choose_spec (h i i.2)
 let Y:W->W:=fun w=>match w with
  |.int z=>if hz:z.toNat<n then V (f ⟨z.toNat,hz⟩)else .non
  |_=>.non
 have ir:bp fs ρ st=.ok (bt 0 n,none) st:=by
  have:=cX hr #[0]
  rw[aG]at this
  exact this
 have hc:=fU (fi:=bp fs) (f:=eG 0) (el:=el) (cap:=cap) (ρ:=ρ) Y ir (by rw[bQ];show _<=1000000;omega) trivial fun w hw=>by
  obtain⟨i,hi,rfl⟩:=vg hw
  refine⟨_,rfl,?_⟩
  rw[show((0:Int)+(i:Int))=(i:Int) by omega]
  show _=R.ok (if hz:(i:Int).toNat<n then V (f ⟨(i:Int).toNat,hz⟩)else .non) st
  rw[my (show(i:Int).toNat<n by omega)]
  exact(hf ⟨i,hi⟩).2
 refine⟨List.ofFn f,by simp,fun i b hb=>?_,?_⟩
 ·obtain⟨h1,h2⟩:=aa.mp hb
  rw[List.getElem_ofFn]at h2
  rw[<- h2]
  exact(hf ⟨i,by simpa using h1⟩).1
 ·rw[hc]
  have e:(bt 0 n).map Y=(List.ofFn f).map V:=by
   refine List.ext_getElem (by simp[bQ]) fun i h1 h2=>?_
   have hi:i<n:=by simpa[bQ]using h1
   rw[dw,dw,List.getElem_ofFn]
   unfold bt
   rw[dw,List.getElem_range,show((0:Int)+(i:Int))=(i:Int) by omega]
   show(if hz:(i:Int).toNat<n then V (f ⟨(i:Int).toNat,hz⟩)else .non)=_
   rw[my (show(i:Int).toNat<n by omega)]
  rw[e]
theorem FR(V:β->W)(Pb:Nat->β->Prop)(hr:fs ρ st=.ok [.int n] st)(hn:n<=100000)(h:∀i:Nat,i<n->∃b,Pb i b/\el ((pJ cap ρ).set 0 (some (.int i))) st=.ok (V b) st) :
  ∃r:List β,r.length=n/\(∀i b,r[i]?=some b->Pb i b)/\bh dD (aj (cW cap (bp fs) (eG 0) gG el) aI) ρ st=.ok (.tup (r.map V)) (st++[.lst (r.map V)]):=by
 obtain⟨r,h1,h2,e⟩:=Jb (cap:=cap) (el:=el) V Pb hr hn h
 exact⟨r,h1,h2,bu (aA e bF) (hW (aR bK))⟩
end
structure Mc where
 nm:List Nat
 gd:List Bool
 tb:List (List (List Nat))
noncomputable def lI(r:List Nat):W:=.tup (r.map fun k=>W.int (k:Nat))
def dA(t:List (List Nat)):W:=.tup (t.map lI)
def Mc.w(M:Mc):W:=.tup [.str M.nm,.tup (M.gd.map W.bl),.tup (M.tb.map dA)]
def T0(n:Nat)(t:List (List Nat)):Prop:=t.length=n/\∀r∈t,r.length=n/\∀k∈r,k<n
structure oX(M:Mc)(n:Nat):Prop where
 gd:M.gd.length=n
 tb:M.tb.length=2^M.nm.length
 t:∀t∈M.tb,T0 n t
theorem Jc(r:List Nat)(n:Nat):(lI r).und n=true:=by
 unfold lI W.und
 induction r with
 |nil=>rfl
 |cons x r ih=>simp only[aF,undWs,ih,eV];rfl
theorem Jd(t:List (List Nat))(n:Nat):(dA t).und n=true:=by
 unfold dA W.und
 induction t with
 |nil=>rfl
 |cons x r ih=>simp only[aF,undWs,ih,eV];exact Jc x n
theorem FU(t:List (List (List Nat)))(n:Nat):undWs n (t.map dA)=true:=by
 induction t with
 |nil=>rfl
 |cons x r ih=>simp only[aF,undWs,ih,eV];exact Jd x n
theorem Je(t:List Bool)(n:Nat):undWs n (t.map W.bl)=true:=by
 induction t with
 |nil=>rfl
 |cons x r ih=>simp only[aF,undWs,ih,eV];rfl
theorem FV(M:Mc)(n:Nat):M.w.und n=true:=by
 unfold Mc.w
 simp[W.und,undWs,FU,Je]
theorem xR{c:Nat}{st:List ah}(h:c<=100):sA (.int 1) (.int c) st=.ok (.int ((2^c:Nat):Int)) st:=by
 have:=oU (C:=fun i j=>0<=j/\j<=1000000/\i.natAbs<2^64) (f:=fun i j=>i*2^j.toNat) (p:=1) (q:=(c:Int)) (st:=st) ⟨by omega,by omega,by decide⟩
 rw[show sA (.int 1) (.int c) st=_ from this]
 simp
theorem wJ{s:List ah}{p:Nat}{y:W}(h:s[p]?=some (.lst ws))(hl:ws.length<1000000):dE (.loc p) [y] s=.ok .non (s.set p (.lst (ws++[y]))):=qV h hl
theorem Aj(nm:List Nat)(n top dl:Nat)(ds:List Int)(st:List ah)(R9:nm.length<=6)(hn:1<=n)(Uz:n<=9)(UB:1<=top)(UF:top<=n)(hd:st[dl]?=some (.lst (wI ds)))(JO:n+2^nm.length*(n*n)<=ds.length) :
  ∃M:Mc,M.nm=nm/\oX M n/\Bz [.str nm,.int n,.int top,.loc dl] st=.ok M.w st:=by
 suffices hh:hU (yw fun w bL=>(∃x,bL=st++x)/\undWs st.length [w]=true/\∃M:Mc,w=M.w/\M.nm=nm/\oX M n) (KK ([W.str nm,.int n,.int top,.loc dl].map some++List.replicate (10-4) none) st) by
  obtain⟨w,⟨M,rfl,h1,h2⟩,e⟩:=wu hh
  exact⟨M,h1,h2,e⟩
 have d7:∀s:List ah,cR [.str nm] s=.ok (.int nm.length) s:=fun s=>qC (by show _<=1000000;omega)
 have p2:2^nm.length<=64:=Nat.pow_le_pow_right #[0] R9
 obtain⟨N,hN⟩:∃N,N=2^nm.length:=⟨_,rfl⟩
 have sh:∀s:List ah,sA (.int 1) (.int nm.length) s=.ok (.int N) s:=fun s=>by rw[hN];exact xR #[0]
 rw[<- hN]at p2 JO
 have hdn:n<=ds.length:=by omega
 obtain⟨gd,hgl,_,eg⟩:=FR (cap:=[none,some 3]) (ρ:=[some (.str nm),some (.int n),some (.int top),some (.loc dl),none,none,none,none,none,none]) (st:=st) (fs:=aj (ag 1) aI) (n:=n)
  (el:=e2 pd (e2 gQ (e2 bM (ag 1) (ag 0)) (eI 2)) (eI 1)) W.bl (fun _ _=>True) kn #[0] fun q hq=>by
   obtain⟨d,hdd⟩:∃d,ds[q]?=some d:=⟨_,ae #[0]⟩
   exact⟨_,trivial,bT (bT (bT kv kv (jj hd hdd)) dY (oU #[8])) dY (oA rfl)⟩
 apply aS
 ·exact cx eg
 generalize Tu:st++[ah.lst (gd.map W.bl)]=s0
 have hst0:st <+: s0:=by rw[<- Tu];exact aJ _ _
 apply aS
 ·(walk_at "evs")
 apply aS
 ·(walk_at "evs")
 refine dy (fun i ρ s=>∃(tb:List (List (List Nat))) (a:Nat) (o7 o8 o9:Option W),ρ=[some (.str nm),some (.int n),some (.int top),some (.loc dl),some (.tup (gd.map W.bl)),some (.loc s0.length),some (.int a),o7,o8,o9]/\s0 <+: s/\s[s0.length]?=some (.lst (tb.map dA))/\tb.length=i/\(∀t∈tb,T0 n t)/\a+(N-i)*(n*n)<=ds.length)
  (cX (q:=(N:Int)) (st1:=s0++[ah.lst []]) (aA (bT dY (bu kn (d7 _)) (sh _)) bF) #[0])
  ⟨[],n,none,none,none,rfl,aJ _ _,bK,rfl,by simp,by simpa using JO⟩ #[9] ?_ ?_
 ·rintro i w ρ s hw ⟨tb,a,o7,o8,o9,rfl,hp,hc,hl,ht,hal⟩
  obtain⟨hi,rfl⟩:=fF hw
  rw[aG]at hi
  refine⟨_,rfl,?_⟩
  rw[show N-i=(N-(i+1))+1 by omega,Nat.succ_mul]at hal
  apply aS
  ·(walk_at "evs")
  refine dy (fun j ρ z=>∃(xc:List (List Nat)) (a:Nat) (o9:Option W),ρ=[some (.str nm),some (.int n),some (.int top),some (.loc dl),some (.tup (gd.map W.bl)),some (.loc s0.length),some (.int a),some (.int (0+(i:Int))),some (.loc s.length),o9]/\s <+: z/\z[s.length]?=some (.lst (xc.map lI))/\xc.length=j/\(∀r∈xc,r.length=n/\∀k∈r,k<n)/\a+((N-(i+1))*(n*n)+(n-j)*n)<=ds.length)
   (cX (q:=(n:Int)) (st1:=s++[ah.lst []]) (by(walk_at "evs")) #[0]) ⟨[],a,_,rfl,aJ _ _,bK,rfl,by simp,by simpa using hal⟩ #[9] ?_ ?_
  ·rintro j w ρ z hw ⟨xc,a,o9,rfl,hz,hcz,hrl,hr,hal⟩
   obtain⟨hj,rfl⟩:=fF hw
   rw[aG]at hj
   refine⟨_,rfl,?_⟩
   rw[show n-j=(n-(j+1))+1 by omega,Nat.succ_mul]at hal
   have pt:(0:Int)<(top:Int):=by omega
   obtain⟨r,hrn,hrb,er⟩:=FR (cap:=[none,some 2,some 3,some 6]) (ρ:=[some (.str nm),some (.int n),some (.int top),some (.loc dl),some (.tup (gd.map W.bl)),some (.loc s0.length),some (.int a),some (.int (0+(i:Int))),some (.loc s.length),some (.int (0+(j:Int)))]) (st:=z) (fs:=aj (ag 1) aI) (n:=n)
    (el:=e2 gQ (e2 bM (ag 2) (e2 fD (ag 3) (ag 0))) (ag 1)) (fun k:Nat=>W.int (k:Nat)) (fun _ k=>k<n) kn #[0] fun q hq=>by
     obtain⟨d,hdd⟩:∃d,ds[a+q]?=some d:=⟨_,ae #[0]⟩
     obtain⟨k,hk,ek⟩:=mf (q:=d) (n:=top) #[0]
     refine⟨k,by omega,?_⟩
     rw[<- ek]
     exact bT (bT kv (bT kv kv il) (jj (pre_get (hst0.trans (hp.trans hz)) hd) hdd)) kv (oU pt)
   have ap:=wJ (y:=lI r) (pre_get (s:=z++[.lst (r.map fun k:Nat=>W.int k)]) (aJ _ _) hcz) (by rw[ai];omega)
   apply aS
   ·exact hJ (rp kv (gT hcz) (aA er bF) ap)
   apply ja
   ·exact cx (bT kv kv il)
   ·refine⟨_,_,rfl,xc++[r],a+n,_,rfl,rO (BE hz) (au _),?_,by simp[hrl],?_,by omega⟩
    ·rw[wH (pre_get (aJ _ _) hcz)];simp
    ·intro x hx
     rcases a6.mp hx with y|y
     ·exact hr x y
     ·simp at y;subst y
      refine⟨hrn,fun k hk=>?_⟩
      obtain⟨q,hq⟩:=a9 hk
      exact hrb q k hq
  ·rintro ρ z ⟨xc,a,o9,rfl,hz,hcz,hrl,hr,hal⟩
   have hrl:xc.length=n:=by rw[hrl];simp[bQ]
   have hcp:=pre_get hz hc
   have ap:=wJ (y:=dA xc) hcp (by rw[ai,hl];omega)
   apply ja
   ·exact hJ (rp kv (gT hcp) (aA (bu kn (hW (aR hcz))) bF) ap)
   ·refine⟨_,_,rfl,tb++[xc],a,_,_,_,rfl,rO (hp.trans hz) (au _),?_,by simp[hl],?_,by omega⟩
    ·rw[wH hcp];simp
    ·intro x hx
     rcases a6.mp hx with y|y
     ·exact ht x y
     ·simp at y;subst y
      exact⟨hrl,hr⟩
 ·rintro ρ s ⟨tb,a,o7,o8,o9,rfl,hp,hc,hl,ht,hal⟩
  have hl:tb.length=N:=by rw[hl];simp[bQ]
  obtain⟨x,rfl⟩:=hst0.trans hp
  apply eK
  ·exact lH (aA kv (aA kv (aA (bu kn (hW (aR hc))) bF))) (fw rfl)
  ·exact⟨_,_,rfl,⟨_,rfl⟩,by simp only[undWs,eV];exact FV ⟨nm,gd,tb⟩ _,⟨nm,gd,tb⟩,rfl,rfl,hgl,by rw[hl,hN],ht⟩
structure Wy where
 s:Nat
 l:Nat
 r:Nat
 a:Nat
noncomputable def Wy.z(p:Wy):List Int:=[(p.s:Int),(p.l:Int),(p.r:Int),(p.a:Int)]
def Wy.lt(p q:Wy):Prop:=p.s<q.s\/p.s=q.s/\(p.l<q.l\/p.l=q.l/\(p.r<q.r\/p.r=q.r/\p.a<q.a))
theorem Wy.lex(p q:Wy):HT.lexLt p.z q.z=true↔p.lt q:=by
 obtain⟨a,b,c,d⟩:=p
 obtain⟨e,f,g,h⟩:=q
 simp only[Wy.z,Wy.lt,HT.lexLt_cons,HT.lexLt_nil_nil]
 by_cases h1:(a:Int)=e
 ·rw[aw h1]
  by_cases h2:(b:Int)=f
  ·rw[aw h2]
   by_cases h3:(c:Int)=g
   ·rw[aw h3]
    by_cases h4:(d:Int)=h
    ·rw[aw h4];constructor
     ·intro z;cases z
     ·intro z;omega
    ·rw[aC h4,bX];omega
   ·rw[aC h3,bX];omega
  ·rw[aC h2,bX];omega
 ·rw[aC h1,bX];omega
theorem Nl{a b c:Nat}{A B C:Prop}(t:A->B->C)(h1:a<b\/a=b/\A)(h2:b<c\/b=c/\B):a<c\/a=c/\C:=by
 rcases h1 with z|⟨rfl,p⟩
 ·rcases h2 with y|⟨rfl,_⟩
  ·exact .inl (p_ z y)
  ·exact .inl z
 ·rcases h2 with y|⟨rfl,q⟩
  ·exact .inl y
  ·exact .inr ⟨rfl,t p q⟩
theorem Wy.trans{p q r:Wy}(h1:p.lt q)(h2:q.lt r):p.lt r:=Nl (Nl (Nl p_)) h1 h2
theorem Wy.irr(p:Wy):¬ p.lt p:=fun h=>by
 rcases h with z|⟨_,z|⟨_,z|⟨_,z⟩⟩⟩<;>exact bx _ z
theorem Wy.tri{p q:Wy}(h1:¬ p.lt q)(h2:¬ q.lt p):p=q:=by
 obtain⟨a,b,c,d⟩:=p
 obtain⟨e,f,g,h⟩:=q
 obtain rfl:a=e:=gp (dq fun z=>h2 (.inl z)) (dq fun z=>h1 (.inl z))
 obtain rfl:b=f:=gp (dq fun z=>h2 (.inr ⟨rfl,.inl z⟩)) (dq fun z=>h1 (.inr ⟨rfl,.inl z⟩))
 obtain rfl:c=g:=gp (dq fun z=>h2 (.inr ⟨rfl,.inr ⟨rfl,.inl z⟩⟩)) (dq fun z=>h1 (.inr ⟨rfl,.inr ⟨rfl,.inl z⟩⟩))
 obtain rfl:d=h:=gp (dq fun z=>h2 (.inr ⟨rfl,.inr ⟨rfl,.inr ⟨rfl,z⟩⟩⟩)) (dq fun z=>h1 (.inr ⟨rfl,.inr ⟨rfl,.inr ⟨rfl,z⟩⟩⟩))
 rfl
theorem Wy.ge{p q r:Wy}(h:p.lt q)(n:¬ r.lt q):p.lt r:=by
 by_cases z:q.lt r
 ·exact Wy.trans h z
 ·exact Wy.tri z n▸h
theorem Wy.gt{p q r:Wy}(n:¬ q.lt p)(h:q.lt r):p.lt r:=by
 by_cases z:p.lt q
 ·exact Wy.trans z h
 ·exact Wy.tri z n▸h
noncomputable abbrev Ro:=Nat×Wy
abbrev Nm(T:Nat->Nat->Nat->Nat)(L:Nat)(E:List Ro)(p:Ro):Prop:=∃el er:Ro,E[p.2.l]?=some el/\E[p.2.r]?=some er/\p.2.a<L/\T p.2.a el.1 er.1=p.1/\p.2.s=el.2.s+er.2.s+1
structure ip(T:Nat->Nat->Nat->Nat)(L N:Nat)(E:List Ro):Prop where
 zero:∃r,E=(0,⟨0,0,0,0⟩)::r
 lt:∀e∈E,e.1<N
 nd:(E.map Prod.fst).Nodup
 row:∀(i:Nat) (e:Ro),E[i]?=some e->0<i->e.2.l<i/\e.2.r<i/\Nm T L E e
 rise:∀(i:Nat) (e f:Ro),E[i]?=some e->E[i+1]?=some f->e.2.lt f.2
structure yN(T:Nat->Nat->Nat->Nat)(L N:Nat)(E B:List Ro):Prop where
 nd:(B.map Prod.fst).Nodup
 ok:∀p∈B,Nm T L E p/\p.1∉E.map Prod.fst/\p.1<N
 up:∀p∈B,∀e,E[E.length-1]?=some e->e.2.lt p.2
abbrev n9(l r a:Nat)(el er:Ro):Wy:=⟨el.2.s+er.2.s+1,l,r,a⟩
def Hh(T:Nat->Nat->Nat->Nat)(E B:List Ro)(l r a:Nat):Prop:=∀el er,E[l]?=some el->E[r]?=some er->(∃(i:Nat) (e:Ro),E[i]?=some e/\e.1=T a el.1 er.1/\¬ (n9 l r a el er).lt e.2)\/∃p∈B,p.1=T a el.1 er.1/\¬ (n9 l r a el er).lt p.2
section
variable{E B:List Ro}
theorem ip.mono(h:ip T L N E):∀(k i:Nat) (e f:Ro),E[i]?=some e->E[i+k]?=some f->e.2.s<=f.2.s
 |0,i,e,f,h1,h2=>by rw[jP,h1]at h2;cases h2;exact au _
 |k+1,i,e,f,h1,h2=>by
  have hk:i+k<E.length:=by have:=(aa.mp h2).1;omega
  have e1:E[i+k]?=some E[i+k]:=ae hk
  have a:=h.mono k i e _ h1 e1
  have b:=h.rise (i+k) _ f e1 (by rw[<- h2];congr 1)
  unfold Wy.lt at b
  omega
theorem ip.top(h:ip T L N E){e f:Ro}(h1:E[i]?=some e)(h2:E[E.length-1]?=some f):e.2.s<=f.2.s:=by
 have hi:=(aa.mp h1).1
 exact h.mono (E.length-1-i) i e f h1 (by rw[show i+(E.length-1-i)=E.length-1 by omega];exact h2)
theorem ip.len(h:ip T L N E):E.length<=N:=by
 have:=h_ (l:=List.range N) h.nd fun c hc=>by
  obtain⟨e,he,rfl⟩:=al.mp hc
  exact aT.mpr (h.lt e he)
 simpa using this
theorem ip.len0(h:ip T L N E):0<E.length:=by obtain⟨r,e⟩:=h.zero;rw[e];simp
theorem yN.len(h:yN T L N E B):B.length<=N:=by
 have:=h_ (l:=List.range N) h.nd fun c hc=>by
  obtain⟨e,he,rfl⟩:=al.mp hc
  exact aT.mpr (h.ok e he).2.2
 simpa using this
theorem BF(h:(B.map Prod.fst).Nodup):∀{p q:Ro},p∈B->q∈B->p.1=q.1->p=q:=by
 induction B with
 |nil=>intro p q hp;cases hp
 |cons b B ih=>
  intro p q hp hq e
  simp only[aF,bG]at h
  rcases aK.mp hp with rfl|hp'<;>rcases aK.mp hq with rfl|At
  ·rfl
  ·exact(h.1 (al.mpr ⟨q,At,e.symm⟩)).elim
  ·exact(h.1 (al.mpr ⟨p,hp',e⟩)).elim
  ·exact ih h.2 hp' At e
theorem Nm.app{x:List Ro}{p:Ro}(h:Nm T L E p):Nm T L (E++x) p:=by
 obtain⟨el,er,h1,h2,h3⟩:=h
 exact⟨el,er,by rw[av (aa.mp h1).1];exact h1,by rw[av (aa.mp h2).1];exact h2,h3⟩
def qF(B:List Ro)(p:Ro):List Ro:=if p.1∈B.map Prod.fst then B.map fun q=>if q.1=p.1 then p else q else B++[p]
theorem yO{p q:Ro}(h:q∈qF B p):q=p\/q∈B/\q.1≠p.1:=by
 unfold qF at h
 split at h
 ·obtain⟨x,hx,e⟩:=al.mp h
  split at e
  ·exact .inl e.symm
  ·rename_i hn;subst e;exact .inr ⟨hx,hn⟩
 ·rename_i hn
  rcases a6.mp h with h|h
  ·exact .inr ⟨h,fun e=>hn (al.mpr ⟨q,h,e⟩)⟩
  ·exact .inl (bj.mp h)
theorem yP{p:Ro}:p∈qF B p:=by
 unfold qF
 split
 ·rename_i h
  obtain⟨x,hx,e⟩:=al.mp h
  exact al.mpr ⟨x,hx,by rw[aw e]⟩
 ·exact a6.mpr (.inr (bj.mpr rfl))
theorem FW{p q:Ro}(h:q∈B)(hn:q.1≠p.1):q∈qF B p:=by
 unfold qF
 split
 ·exact al.mpr ⟨q,h,by rw[aC hn]⟩
 ·exact a6.mpr (.inl h)
theorem Jf{p:Ro}(h:(B.map Prod.fst).Nodup):((qF B p).map Prod.fst).Nodup:=by
 unfold qF
 split
 ·rw[aH]
  have e:B.map (Prod.fst∘fun q:Ro=>if q.1=p.1 then p else q)=B.map Prod.fst:=by
   refine bb fun q _=>?_
   show(if q.1=p.1 then p else q).1=q.1
   split
   ·rename_i e;exact e.symm
   ·rfl
  rw[e];exact h
 ·rename_i hn
  rw[cF,c_]
  refine⟨h,by simp,fun a ha b hb=>?_⟩
  simp only[aF,dH,bj]at hb
  subst hb
  exact fun z=>hn (z▸ha)
def FX(E B:List Ro)(p:Ro)(B':List Ro):Prop:=(p.1∈E.map Prod.fst/\B'=B)\/(p.1∉E.map Prod.fst/\(∃q∈B,q.1=p.1/\¬ p.2.lt q.2)/\B'=B)\/(p.1∉E.map Prod.fst/\(∀q∈B,q.1=p.1->p.2.lt q.2)/\B'=qF B p)
theorem FY(h:ip T L N E)(b:yN T L N E B){B':List Ro}{p:Ro}(hw:Nm T L E p)(hN:p.1<N)(qL:p.2.l=E.length-1\/p.2.r=E.length-1)(o:FX E B p B'):yN T L N E B':=by
 rcases o with⟨_,rfl⟩|⟨_,_,rfl⟩|⟨h1,h2,rfl⟩
 ·exact b
 ·exact b
 ·refine⟨Jf b.nd,fun q hq=>?_,fun q hq e he=>?_⟩
  ·rcases yO hq with rfl|⟨hq,_⟩
   ·exact⟨hw,h1,hN⟩
   ·exact b.ok q hq
  ·rcases yO hq with rfl|⟨hq,_⟩
   ·obtain⟨el,er,e1,e2,_,_,e5⟩:=hw
    rcases qL with z|z
    ·rw[z,he]at e1;cases e1
     unfold Wy.lt;omega
    ·rw[z,he]at e2;cases e2
     unfold Wy.lt;omega
   ·exact b.up q hq e he
theorem Jg{l r a:Nat}{B':List Ro}{p:Ro}(o:FX E B p B')(b:(B.map Prod.fst).Nodup)(c:Hh T E B l r a):Hh T E B' l r a:=by
 rcases o with⟨_,rfl⟩|⟨_,_,rfl⟩|⟨h1,h2,rfl⟩
 ·exact c
 ·exact c
 ·intro el er e1 e2
  rcases c el er e1 e2 with x|⟨q,hq,e,n⟩
  ·exact .inl x
  ·by_cases z:q.1=p.1
   ·have:=h2 q hq z
    exact .inr ⟨p,yP,z▸e,fun y=>n (Wy.trans y this)⟩
   ·exact .inr ⟨q,FW hq z,e,n⟩
theorem FZ(h:ip T L N E){l r a:Nat}{B':List Ro}{el er:Ro}(e1:E[l]?=some el)(e2:E[r]?=some er)(qL:l=E.length-1\/r=E.length-1)(o:FX E B (T a el.1 er.1,n9 l r a el er) B'):Hh T E B' l r a:=by
 intro el' er' f1 f2
 rw[e1]at f1;rw[e2]at f2
 cases f1;cases f2
 rcases o with⟨h1,rfl⟩|⟨_,⟨q,hq,e,n⟩,rfl⟩|⟨h1,h2,rfl⟩
 ·obtain⟨x,hx,e⟩:=al.mp h1
  obtain⟨i,hi⟩:=a9 hx
  refine .inl ⟨i,x,hi,e,fun z=>?_⟩
  rcases qL with y|y
  ·have:=h.top hi (by rw[<- y];exact e1)
   unfold Wy.lt at z;simp only at z;omega
  ·have:=h.top hi (by rw[<- y];exact e2)
   unfold Wy.lt at z;simp only at z;omega
 ·exact .inr ⟨q,hq,e,n⟩
 ·exact .inr ⟨_,yP,rfl,fun z=>by unfold Wy.lt at z;simp only at z;omega⟩
theorem C9(h:ip T L N E)(b:yN T L N E B){p:Ro}(hp:p∈B):ip T L N (E++[p]):=by
 obtain⟨w,hn,hN⟩:=b.ok p hp
 obtain⟨r,hr⟩:=h.zero
 refine⟨⟨r++[p],by rw[hr];rfl⟩,fun e he=>?_,?_,fun i e he hi=>?_,fun i e f h1 h2=>?_⟩
 ·rcases a6.mp he with he|he
  ·exact h.lt e he
  ·rw[bj.mp he];exact hN
 ·rw[cF,c_]
  refine⟨h.nd,by simp,fun a ha c hc=>?_⟩
  simp only[aF,dH,bj]at hc
  subst hc
  exact fun z=>hn (z▸ha)
 ·by_cases hl:i<E.length
  ·rw[av hl]at he
   obtain⟨a,c,d⟩:=h.row i e he hi
   exact⟨a,c,d.app⟩
  ·have:i=E.length:=by have:=(aa.mp he).1;simp at this;omega
   subst this
   rw[bR]at he;cases he
   obtain⟨el,er,e1,e2,e3⟩:=w
   exact⟨(aa.mp e1).1,(aa.mp e2).1,Nm.app ⟨el,er,e1,e2,e3⟩⟩
 ·by_cases hl:i+1<E.length
  ·rw[av hl]at h2
   rw[av #[0]]at h1
   exact h.rise i e f h1 h2
  ·have:i+1=E.length:=by have:=(aa.mp h2).1;simp at this;omega
   rw[this,bR]at h2;cases h2
   rw[av #[0]]at h1
   exact b.up p hp e (by rw[<- h1];congr 1;omega)
theorem C_(h:ip T L N E)(b:yN T L N E B){p:Ro}(hp:p∈B)(N5:∀q∈B,¬ q.2.lt p.2):yN T L N (E++[p]) (B.filter fun q=>decide (q.1≠p.1)):=by
 refine⟨(List.Nodup.sublist (List.filter_sublist.map _) b.nd),fun q hq=>?_,fun q hq e he=>?_⟩
 ·obtain⟨hq,lN⟩:=gn.mp hq
  obtain⟨w,hn,hN⟩:=b.ok q hq
  refine⟨w.app,?_,hN⟩
  rw[cF,a6]
  rintro(z|z)
  ·exact hn z
  ·simp only[aF,dH,bj]at z
   exact fL lN z
 ·obtain⟨hq,lN⟩:=gn.mp hq
  have he:(E++[p])[E.length]?=some e:=by rw[<- he];congr 1;simp
  rw[bR]at he;cases he
  have h1:=N5 q hq
  obtain⟨el,er,a1,a2,a3,a4,a5⟩:=(b.ok q hq).1
  obtain⟨fl,fr,c1,c2,c3,c4,c5⟩:=(b.ok p hp).1
  obtain⟨q1,⟨s,l,r,a⟩⟩:=q
  obtain⟨p1,⟨s',l',r',a'⟩⟩:=p
  simp only at a1 a2 a3 a4 a5 c1 c2 c3 c4 c5
  by_cases z:l=l'/\r=r'/\a=a'
  ·obtain⟨rfl,rfl,rfl⟩:=z
   rw[a1]at c1;rw[a2]at c2
   cases c1;cases c2
   exact(fL lN (a4.symm.trans c4)).elim
  ·by_cases y:Wy.lt ⟨s',l',r',a'⟩ ⟨s,l,r,a⟩
   ·exact y
   ·have:=Wy.tri h1 y
    cases this
    exact(z ⟨rfl,rfl,rfl⟩).elim
theorem F0{l r a:Nat}{p:Ro}(hp:p∈B)(nd:(B.map Prod.fst).Nodup)(hl:l<E.length)(hr:r<E.length)(c:Hh T E B l r a):Hh T (E++[p]) (B.filter fun q=>decide (q.1≠p.1)) l r a:=by
 intro el er e1 e2
 rw[av hl]at e1
 rw[av hr]at e2
 rcases c el er e1 e2 with⟨i,e,f1,f2,f3⟩|⟨q,hq,f2,f3⟩
 ·exact .inl ⟨i,e,by rw[av (aa.mp f1).1];exact f1,f2,f3⟩
 ·by_cases z:q.1=p.1
  ·obtain rfl:=BF nd hq hp z
   exact .inl ⟨E.length,q,bR,f2,f3⟩
  ·exact .inr ⟨q,gn.mpr ⟨hq,br z⟩,f2,f3⟩
end
noncomputable def dI(f:α->Nat)(g:α->W)(l:List α):List (DK×W):=l.map fun a=>(DK.i (f a:Nat),g a)
section
variable{f:α->Nat}{g:α->W}{l:List α}
theorem Ak(q:Nat)(a:α):decide ((DK.i (f a:Nat))=DK.i (q:Nat))=decide (f a=q):=by
 rw[ij,bX,bX]
 constructor
 ·intro h;injection h with h;omega
 ·intro h;rw[h]
theorem F3(q:Nat):jL (dI f g l) (.i q)=(l.find? fun a=>decide (f a=q)).map g:=by
 unfold jL dI
 rw[List.find?_map]
 simp only[dJ,Ak,Option.map_map]
theorem BG(q:Nat):(jL (dI f g l) (.i q)).isSome=decide (q∈l.map f):=by
 rw[F3,iO,ij,List.find?_isSome,bX,al]
 simp
theorem F4{a:α}(h:(l.map f).Nodup)(ha:a∈l):jL (dI f g l) (.i (f a:Nat))=some (g a):=by
 rw[F3]
 induction l with
 |nil=>cases ha
 |cons b l ih=>
  simp only[aF,bG]at h
  rw[bH]
  rcases aK.mp ha with rfl|nK
  ·simp
  ·have:f b≠f a:=fun z=>h.1 (z▸al.mpr ⟨a,nK,rfl⟩)
   rw[show decide (f b=f a)=false from aZ this]
   exact ih h.2 nK
theorem wK{a:α}(h:f a∉l.map f):sP (dI f g l) (.i (f a:Nat)) (g a)=dI f g (l++[a]):=by
 unfold sP
 rw[aC]
 ·unfold dI;rw[cF];rfl
 ·intro z
  unfold dI at z
  rw[List.any_map,lQ]at z
  obtain⟨x,hx,e⟩:=z
  simp only[dJ,Ak,bX]at e
  exact h (al.mpr ⟨x,hx,e⟩)
theorem Jh(q:Nat):jY (dI f g l) (.i q)=dI f g (l.filter fun a=>decide (f a≠q)):=by
 unfold jY dI
 rw[List.filter_map]
 congr 1
 refine List.filter_congr fun a _=>?_
 show decide ((DK.i (f a:Nat))≠DK.i (q:Nat))=decide (f a≠q)
 rw[decide_not,Ak,decide_not]
theorem nE:(dI f g l).length=l.length:=by simp[dI]
end
noncomputable def wL(w:Wy):W:=.tup (w.z.map W.int)
abbrev bW(B:List Ro):List (DK×W):=dI (fun p:Ro=>p.1) (fun p=>wL p.2) B
abbrev tW(E:List Ro):List (DK×W):=dI (fun p:Ro=>p.1) (fun _=>W.bl true) E
theorem Nn(B:List Ro)(p:Ro):sP (bW B) (.i (p.1:Nat)) (wL p.2)=bW (qF B p):=by
 by_cases h:p.1∈B.map Prod.fst
 ·unfold qF
  rw[aw h]
  unfold sP
  rw[aw]
  ·unfold bW dI
   rw[aH,aH]
   refine bb fun q _=>?_
   show(if DK.i (q.1:Nat)=DK.i (p.1:Nat)then _ else _)=_
   by_cases e:q.1=p.1
   ·rw[aw (by rw[e])]
    show _=(DK.i ((if q.1=p.1 then p else q).1:Nat),wL (if q.1=p.1 then p else q).2)
    rw[aw e];show(DK.i (q.1:Nat),_)=_;rw[e]
   ·rw[aC (by intro z;injection z with z;omega)]
    show _=(DK.i ((if q.1=p.1 then p else q).1:Nat),wL (if q.1=p.1 then p else q).2)
    rw[aC e]
  ·unfold bW dI
   rw[List.any_map,lQ]
   obtain⟨x,hx,e⟩:=al.mp h
   exact⟨x,hx,by simp only[dJ,bX];rw[e]⟩
 ·unfold qF
  rw[aC h]
  exact wK (f:=fun p:Ro=>p.1) (g:=fun p=>wL p.2) (a:=p) h
theorem tQ:∀B:List Ro,jM (bW B)=some (B.map fun p=>p.2.z)
 |[]=>rfl
 |p::B=>by
  show(match zT (wL p.2),jM (bW B)with|some a,some b=>some (a::b)|_,_=>none)=_
  rw[tQ B];rfl
theorem yQ(B:List Ro):∀j,j<B.length->∃p,B[jZ (fun a=>(B.map fun p=>p.2.z).getD a []) j]?=some p/\∀i q,i<=j->B[i]?=some q->¬ q.2.lt p.2
 |0,h=>⟨B[0],ae h,fun i q hi hq=>by
   obtain rfl:i=0:=by omega
   rw[ae h]at hq;cases hq
   exact Wy.irr _⟩
 |j+1,h=>by
  obtain⟨p,hp,hm⟩:=yQ B j #[0]
  have hj:B[j+1]?=some B[j+1]:=ae h
  have kz:∀(i:Nat) (q:Ro),B[i]?=some q->(B.map fun p=>p.2.z).getD i []=q.2.z:=fun i q e=>by
   rw[aD,ak,e];rfl
  unfold jZ
  simp only[kz _ _ hj,kz _ _ hp]
  split
  ·rename_i z
   rw[Wy.lex]at z
   refine⟨B[j+1],hj,fun i q hi hq=>?_⟩
   rcases ca i (j+1)with y|y
   ·have:=hm i q #[0] hq
    exact fun y=>this (Wy.trans y z)
   ·obtain rfl:i=j+1:=by omega
    rw[hj]at hq;cases hq
    exact Wy.irr _
  ·rename_i z
   refine⟨p,hp,fun i q hi hq=>?_⟩
   rcases ca i (j+1)with y|y
   ·exact hm i q #[0] hq
   ·obtain rfl:i=j+1:=by omega
    rw[hj]at hq;cases hq
    intro y;exact z ((Wy.lex _ _).mpr y)
section
variable{st:List ah}{kvs:List (DK×W)}
theorem gf(h:st[n]?=some (.dct kvs)):i3 st (.loc n)=some (n,kvs):=by simp only[i3,h]
theorem wM(h:st[n]?=some (.dct kvs)):rg st (.loc n)=some (n,kvs):=by simp only[rg,h]
theorem BH{q:Nat}{Ao b:Bool}(h:i3 st (.loc n)=some (n,kvs))(hb:(if Ao then !(jL kvs (.i q)).isSome else(jL kvs (.i q)).isSome)=b):v7 Ao (.int q) (.loc n) st=.ok (.bl b) st:=by
 rw[<- hb];simp only[v7,h,iZ]
theorem pS{q:Nat}{w:W}(h:i3 st (.loc n)=some (n,kvs))(hb:jL kvs (.i q)=some w):lE (.loc n) (.int q) st=.ok w st:=by
 simp only[lE,h,iZ,hb,bE]
theorem wN{q:Nat}{v:W}(h:st[n]?=some (.dct kvs))(hl:kvs.length<kE):kN (.loc n) (.int q) v st=some (st.set n (.dct (sP kvs (.i q) v))):=by
 simp only[kN,wM h,iZ];rw[aw hl]
theorem Al(h:i3 st (.loc n)=some (n,kvs)):sR [.loc n] st=.ok (.int kvs.length) st:=by
 simp only[sR,h]
theorem No{fk:FE}{q:Nat}{w:W}(h1:fo ρ st=.ok (.loc n) st)(h2:fk ρ st=.ok (.int q) st)(h:st[n]?=some (.dct kvs))(hg:jL kvs (.i q)=some w):A9 fo fk ρ st=.ok w (st.set n (.dct (jY kvs (.i q)))):=by
 unfold A9
 rw[h1];simp only[R.bind_ok,wM h]
 rw[h2];simp only[R.bind_ok,wM h,iZ,hg,bE]
theorem Ji{T:Addr}{ks:List (List Int)}{p:DK×W}(h0:ρ[i]?=some (some (.loc n)))(h:st[n]?=some (.dct kvs))(hk:jM kvs=some ks)(ht:st[j]?=some (.tab T pos q))(hp:kvs[jZ (fun a=>ks.getD a []) (kvs.length-1)]?=some p) :
  sU i j T pos q ρ st=.ok p.1.w st:=by
 unfold sU
 rw[h0];simp only[wM h,hk]
 rw[aw (show qR st j T pos q from ht),hp];rfl
theorem QQ{w v:Wy}{b:Bool}(h:HT.lexLt w.z v.z=b):CG (wL w) (wL v) st=.ok (.bl b) st:=by
 rw[<- h];rfl
theorem Jj{body:FS}{c:Nat}{d:ah}(hc:c<st.length)(hd:d.und st.length=true)(h:hU (IX fun _ bL=>∃x,bL=st.set c d++x) (body #[12] st)):fx N body ws st=.ok .non (st.set c d):=by
 obtain⟨ρ',bL,e,x,rfl⟩:=h
 unfold fx
 rw[e]
 show R.ok W.non (iJ st (st.set c d++x) [.non])=_
 unfold iJ
 rw[aw]
 ·congr 1
  rw[List.take_append_of_le_length #[7],cU #[7]]
 ·refine⟨rfl,by simp,fun i hi=>?_⟩
  rw[av (by simpa using hi)]
  by_cases z:c=i
  ·subst z
   exact .inr ⟨d,by rw[bB hi],hd⟩
  ·exact .inl (by rw[bS z])
end
theorem pT{st:List ah}{P:RS->Prop}{f:FG}{body:FS}{k:zK}(I:Nat->cu->List ah->Prop)(h:fi ρ st=.ok k st1)(h0:I 0 ρ st1)(hc:∀i ρ st,I i ρ st->iY st k.2)
  (hs:∀i w ρ st,k.1[i]?=some w->I i ρ st->∃ρ',f w ρ=some ρ'/\hU (IX (I (i+1))) (body ρ' st)) (he:∀ρ st,I k.1.length ρ st->P (.nx ρ st)):hU P (fg fi f body ρ st):=by
 obtain⟨ρ2,cV,e,h2⟩:=tu (f:=f) (body:=body) (ck:=k.2) I (ws:=k.1) (ρ:=ρ) (st:=st1) 0 h0 hc fun i w ρ st hw hI=>by
  rw[fN]at hI ⊢
  obtain⟨ρ',e1,ρ2,cV,e2,h2⟩:=hs i w ρ st hw hI
  exact⟨ρ',ρ2,cV,e1,e2,h2⟩
 rw[fN]at h2
 rw[Br h,e];exact he _ _ h2
noncomputable def xn(n:Nat):List (Nat×Nat):=(List.range (n+1)).map (fun o=>(n,o))++(List.range n).map (fun o=>(o,n))
noncomputable def Np(p:Nat×Nat):W:=.tup [.int (p.1:Nat),.int (p.2:Nat)]
theorem tR(q:Nat)(F:W->β):(bt 0 q).map F=(List.range q).map fun i=>F (.int (i:Nat)):=by
 unfold bt
 rw[aH]
 refine bb fun i _=>?_
 show F (.int (0+(i:Int)))=_
 rw[fM]
theorem tm(n:Nat)(hn:n<=1000)(st:List ah):∃x y,FL [.int n] st=.ok (.loc (st.length+2)) (st++[.lst x,.lst y,.lst ((xn n).map Np)]):=by
 refine⟨List.map (fun w=>W.tup [.int n,w]) (bt 0 ((n:Int)+1).toNat),List.map (fun w=>W.tup [w,.int n]) (bt 0 (n:Int).toNat),yv (N:=1) (body:=Qr) (ws:=[.int n]) (k:=2) ?_⟩
 refine oz ?_
 refine bT (fU (fun w=>.tup [.int n,w]) (cX (aA (bT kv dY il) bF) #[0]) ?_ trivial ?_) (fU (fun w=>.tup [w,.int n]) (cX kn #[0]) ?_ trivial ?_) ?_
 ·rw[bt,ai,cB];show _<=1000000;omega
 ·intro w hw
  exact⟨_,rfl,(by(walk_at "evs"))⟩
 ·rw[bt,ai,cB];show _<=1000000;omega
 ·intro w hw
  exact⟨_,rfl,(by(walk_at "evs"))⟩
 ·have ea:(xn n).map Np=List.map (fun w=>W.tup [.int n,w]) (bt 0 ((n:Int)+1).toNat)++List.map (fun w=>W.tup [w,.int n]) (bt 0 (n:Int).toNat):=by
   rw[tR,tR,xn,cF,aH,aH]
   rfl
  rw[ME (ws:=List.map (fun w=>W.tup [.int n,w]) (bt 0 ((n:Int)+1).toNat)) (xs:=List.map (fun w=>W.tup [w,.int n]) (bt 0 (n:Int).toNat)) (ax (by rw[cv];rfl)) (by rw[cv];rfl),ea]
  ·simp
  ·simp[bt];show _<=1000000;omega
theorem Nq{p:Nat×Nat}(h:(xn n)[i]?=some p):p.1<=n/\p.2<=n/\(p.1=n\/p.2=n):=by
 have:=ao h
 unfold xn at this
 rcases a6.mp this with h|h
 ·obtain⟨o,ho,rfl⟩:=al.mp h
  have:=aT.mp ho
  exact⟨au _,by simp only;omega,.inl rfl⟩
 ·obtain⟨o,ho,rfl⟩:=al.mp h
  have:=aT.mp ho
  exact⟨by simp only;omega,au _,.inr rfl⟩
theorem Jk{n l r:Nat}(hl:l<=n)(hr:r<=n)(h:l=n\/r=n):∃i:Nat,i<(xn n).length/\(xn n)[i]?=some (l,r):=by
 have:(l,r)∈xn n:=by
  unfold xn
  rw[a6]
  by_cases z:l=n
  ·subst z
   exact .inl (al.mpr ⟨r,aT.mpr #[0],rfl⟩)
  ·have:r=n:=by omega
   subst this
   exact .inr (al.mpr ⟨l,aT.mpr #[0],rfl⟩)
 obtain⟨i,hi⟩:=a9 this
 exact⟨i,(aa.mp hi).1,hi⟩
def vp(E:List Ro)(i:Nat)(e:Ro)(w:W):Prop:=(i=0/\w=.tup [.int (e.1:Nat),.int (e.2.s:Nat),.tup []])\/(0<i/\∃el er:Ro,E[e.2.l]?=some el/\E[e.2.r]?=some er/\w=.tup [.int (e.1:Nat),.int (e.2.s:Nat),.tup [.int (el.1:Nat),.int (er.1:Nat),.int (e.2.a:Nat)]])
structure Rows(E:List Ro)(R:List W):Prop where
 len:R.length=E.length
 at':∀(i:Nat) (e:Ro),E[i]?=some e->∃w,R[i]?=some w/\vp E i e w
theorem vp.sh{E:List Ro}{e:Ro}{w:W}(h:vp E i e w):∃t,w=.tup [.int (e.1:Nat),.int (e.2.s:Nat),t]:=by
 rcases h with⟨_,rfl⟩|⟨_,_,_,_,_,rfl⟩<;>exact⟨_,rfl⟩
theorem vp.app{E x:List Ro}{e:Ro}{w:W}(h:vp E i e w):vp (E++x) i e w:=by
 rcases h with h|⟨h0,el,er,h1,h2,h3⟩
 ·exact .inl h
 ·exact .inr ⟨h0,el,er,by rw[av (aa.mp h1).1];exact h1,by rw[av (aa.mp h2).1];exact h2,h3⟩
noncomputable def bg(M:Mc)(a l r:Nat):Nat:=((M.tb.getD a []).getD l []).getD r 0
section
variable{M:Mc}
theorem pU(hM:oX M N){a:Nat}{t:List (List Nat)}(ht:M.tb[a]?=some t){l r:Nat}(hl:l<N)(hr:r<N):∃row,t[l]?=some row/\row[r]?=some (bg M a l r)/\bg M a l r<N:=by
 obtain⟨t1,t2⟩:=hM.t t (ao ht)
 have hl':l<t.length:=by omega
 have e1:t[l]?=some t[l]:=ae hl'
 obtain⟨r1,r2⟩:=t2 t[l] (gY hl')
 have hr':r<t[l].length:=by omega
 have e2:t[l][r]?=some t[l][r]:=ae hr'
 have e3:bg M a l r=t[l][r]:=by
  unfold bg
  rw[aD,aD,aD,ht]
  simp only[lV,e1,e2]
 exact⟨t[l],e1,by rw[e2,e3],by rw[e3];exact r2 _ (gY hr')⟩
theorem pV{t:List (List Nat)}{l:Nat}{row:List Nat}{st:List ah}(h:t[l]?=some row):bM (dA t) (.int (l:Nat)) st=.ok (lI row) st:=by
 unfold dA;exact gk (eM (by rw[ak,h];rfl))
theorem pW{row:List Nat}{r k:Nat}{st:List ah}(h:row[r]?=some k):bM (lI row) (.int (r:Nat)) st=.ok (.int (k:Nat)) st:=by
 unfold lI;exact gk (eM (by rw[ak,h];rfl))
end
structure Go(T:Nat->Nat->Nat->Nat)(L N:Nat)(E B:List Ro)(D:Nat->Nat->Nat->Prop):Prop where
 best:yN T L N E B
 cov:∀l r a,D l r a->Hh T E B l r a
theorem Go.imp{E B:List Ro}{D D':Nat->Nat->Nat->Prop}(g:Go T L N E B D)(h:∀l r a,D' l r a->D l r a):Go T L N E B D':=⟨g.best,fun l r a d=>g.cov l r a (h l r a d)⟩
theorem Go.one{N:Nat}{E B B':List Ro}{D:Nat->Nat->Nat->Prop}(h:ip T L N E)(g:Go T L N E B D){l r a:Nat}{el er:Ro}(e1:E[l]?=some el)(e2:E[r]?=some er)(ha:a<L)(hN:T a el.1 er.1<N)
  (qL:l=E.length-1\/r=E.length-1) (o:FX E B (T a el.1 er.1,n9 l r a el er) B'):Go T L N E B' (fun l' r' a'=>D l' r' a'\/l'=l/\r'=r/\a'=a):=
 ⟨FY h g.best ⟨el,er,e1,e2,ha,rfl,rfl⟩ hN qL o,fun l' r' a' d=>by
  rcases d with d|⟨rfl,rfl,rfl⟩
  ·exact Jg o g.best.nd (g.cov _ _ _ d)
  ·exact FZ h e1 e2 qL o⟩
theorem yR(n:Nat):∀l:List Int,undWs n (l.map W.int)=true
 |[]=>rfl
 |_::l=>by simp only[aF,undWs,yR n l,eV];rfl
theorem Nr(n:Nat)(B:List Ro):(ah.dct (bW B)).und n=true:=by
 show undWs n ((bW B).map fun p=>p.2)=true
 unfold bW dI
 rw[aH]
 induction B with
 |nil=>rfl
 |cons b B ih=>
  simp only[aF,undWs,ih,eV]
  show(wL b.2).und n=true
  unfold wL W.und
  exact yR n _
section
variable{M:Mc}{E B:List Ro}{R:List W}{st:List ah}{ra rb rc:Nat}
theorem BI(hM:oX M N)(hN:N<=100)(Ob:st[ra]?=some (.lst R))(RI:st[rb]?=some (.dct (tW E)))(GQ:st[rc]?=some (.dct (bW B)))(n1:rc≠ra)(n2:rc≠rb)(hR:Rows E R)(h:ip (bg M) M.tb.length N E)
  (g:Go (bg M) M.tb.length N E B fun l r a=>l<E.length-1/\r<E.length-1/\a<M.tb.length) :
  ∃B',Go (bg M) M.tb.length N E B' (fun l r a=>l<E.length/\r<E.length/\a<M.tb.length)/\FN [M.w,.loc ra,.loc rb,.loc rc] st=.ok .non (st.set rc (.dct (bW B'))):=by
 have hE:=h.len
 have hE0:=h.len0
 suffices hh:hU (IX fun _ bL=>∃B',Go (bg M) M.tb.length N E B' (fun l r a=>l<E.length/\r<E.length/\a<M.tb.length)/\∃x,bL=st.set rc (.dct (bW B'))++x) (QH ([M.w,W.loc ra,.loc rb,.loc rc].map some++List.replicate (11-4) none) st) by
  obtain⟨ρ',bL,e,B',hg,hx⟩:=hh
  exact⟨B',hg,Jj (aa.mp GQ).1 (Nr _ _) ⟨ρ',bL,e,hx⟩⟩
 obtain⟨x,y,ep⟩:=tm (E.length-1) #[0] st
 have hc:=(aa.mp GQ).1
 have elen:((R.length:Int)-1)=((E.length-1:Nat):Int):=by rw[hR.len];omega
 generalize zc:st++[ah.lst x,.lst y,.lst ((xn (E.length-1)).map Np)]=s1 at ep
 have qK:s1[st.length+2]?=some (.lst ((xn (E.length-1)).map Np)):=by rw[<- zc,eA];rfl
 have p1:st <+: s1:=by rw[<- zc];exact aJ _ _
 have hq:∀(B':List Ro) (i:Nat) (c:ah),i≠rc->s1[i]?=some c->(s1.set rc (.dct (bW B')))[i]?=some c:=fun B' i c hi e=>by rw[bS (Ne.symm hi)];exact e
 have At:∀(B':List Ro),(s1.set rc (.dct (bW B')))[rc]?=some (.dct (bW B')):=fun B'=>bB (aV hc p1.length_le)
 have zg:s1.set rc (.dct (bW B))=s1:=by
  refine gD fun i=>?_
  by_cases z:rc=i
  ·subst z;rw[At,pre_get p1 GQ]
  ·rw[bS z]
 refine pT (fun i ρ s=>∃(B':List Ro) (o4 o5 o6 o7 o8 o9 qj:Option W),ρ=[some M.w,some (.loc ra),some (.loc rb),some (.loc rc),o4,o5,o6,o7,o8,o9,qj]/\s=s1.set rc (.dct (bW B')) /\
   Go (bg M) M.tb.length N E B' fun l r a=>(l<E.length-1/\r<E.length-1\/∃j,j<i/\(xn (E.length-1))[j]?=some (l,r))/\a<M.tb.length) (k:=((xn (E.length-1)).map Np,some (st.length+2,(xn (E.length-1)).map Np))) (st1:=s1)
  (gy (dz (aA (bT (bu kn (jB (aR Ob))) dY rfl) bF) (by show FL [W.int ((R.length:Int)-1)] st=_;rw[elen];exact ep) rfl) (aR qK))
  ⟨B,_,_,_,_,_,_,_,rfl,zg.symm,g.imp fun l r a d=>?_⟩ ?_ ?_ ?_
 ·obtain⟨d|⟨j,z,_⟩,da⟩:=d
  ·exact⟨d.1,d.2,da⟩
  ·exact absurd z (cE _)
 ·rintro i ρ s ⟨B',o4,o5,o6,o7,o8,o9,qj,rfl,rfl,gg⟩
  exact aR (hq B' _ _ #[0] qK)
 ·rintro i w ρ s hw ⟨B0,o4,o5,o6,o7,o8,o9,qj,rfl,rfl,gg⟩
  rw[ak]at hw
  cases hp:(xn (E.length-1))[i]? with
  |none=>rw[hp]at hw;cases hw
  |some p=>
   obtain⟨l,r⟩:=p
   rw[hp]at hw
   cases hw
   obtain⟨hl,hr,qL⟩:=Nq hp
   simp only at hl hr qL
   have hl':l<E.length:=by omega
   have hr':r<E.length:=by omega
   obtain⟨el,hel⟩:∃el,E[l]?=some el:=⟨_,ae hl'⟩
   obtain⟨er,her⟩:∃er,E[r]?=some er:=⟨_,ae hr'⟩
   obtain⟨wl,Rn,rl⟩:=hR.at' l el hel
   obtain⟨wr,hwr,rr⟩:=hR.at' r er her
   obtain⟨tl,rfl⟩:=rl.sh
   obtain⟨tr,rfl⟩:=rr.sh
   clear rl rr
   have hlN:el.1<N:=h.lt el (ao hel)
   have R6:er.1<N:=h.lt er (ao her)
   have xl:∀B',bM (.loc ra) (.int (l:Nat)) (s1.set rc (.dct (bW B')))=.ok _ _:=fun B'=>jo (aR (hq B' _ _ (Ne.symm n1) (pre_get p1 Ob))) (eM Rn)
   have xr:∀B',bM (.loc ra) (.int (r:Nat)) (s1.set rc (.dct (bW B')))=.ok _ _:=fun B'=>jo (aR (hq B' _ _ (Ne.symm n1) (pre_get p1 Ob))) (eM hwr)
   refine⟨_,rfl,?_⟩
   apply aS
   ·exact cx (bT (bT (bT (bT kv kv (xl B0)) dY ox) (bT (bT kv kv (xr B0)) dY ox) il) dY il)
   refine pT (fun k ρ s=>∃(B':List Ro) (o7 o8 o9 qj:Option W),ρ=[some M.w,some (.loc ra),some (.loc rb),some (.loc rc),some (.int (l:Nat)),some (.int (r:Nat)),some (.int ((el.2.s:Int)+(er.2.s:Int)+1)),o7,o8,o9,qj]/\s=s1.set rc (.dct (bW B')) /\
     Go (bg M) M.tb.length N E B' fun l' r' a'=>((l'<E.length-1/\r'<E.length-1\/∃j,j<i/\(xn (E.length-1))[j]?=some (l',r'))/\a'<M.tb.length)\/l'=l/\r'=r/\a'<k) (k:=(sK (M.tb.map dA),none)) (st1:=s1.set rc (.dct (bW B0)))
    (by show vZ (aj (e2 bM (ag 0) (eI 2)) aI) _ _=_;unfold vZ;rfl) ⟨B0,_,_,_,_,rfl,rfl,gg.imp fun l' r' a' d=>?_⟩ #[9] ?_ ?_
   ·rcases d with d|⟨_,_,d⟩
    ·exact d
    ·exact absurd d (cE _)
   ·rintro k w ρ s hw ⟨B1,o7,o8,o9,qj,rfl,rfl,gg⟩
    obtain⟨y,hy,rfl⟩:=uZ hw
    rw[ak]at hy
    cases ht:M.tb[k]? with
    |none=>rw[ht]at hy;cases hy
    |some t=>
     rw[ht]at hy
     cases hy
     have hk:k<M.tb.length:=(aa.mp ht).1
     obtain⟨row,t1e,t2e,t3e⟩:=pU hM ht hlN R6
     refine⟨_,rfl,?_⟩
     apply aS
     ·exact cx (bT (bT kv (bT (bT kv kv (xl B1)) dY ox) (pV t1e)) (bT (bT kv kv (xr B1)) dY ox) (pW t2e))
     apply aS
     ·exact cx (lH (aA kv (aA kv (aA kv kn))) (fw rfl))
     have ew:W.tup [.int ((el.2.s:Int)+(er.2.s:Int)+1),.int (l:Nat),.int (r:Nat),.int (k:Nat)]=wL (n9 l r k el er):=by
      unfold wL Wy.z
      simp only[aF,dH,ik];rfl
     have hto:i3 (s1.set rc (.dct (bW B1))) (.loc rb)=some (rb,tW E):=gf (hq B1 _ _ (Ne.symm n2) (pre_get p1 RI))
     have hbo:i3 (s1.set rc (.dct (bW B1))) (.loc rc)=some (rc,bW B1):=gf (At B1)
     have fin:∀B',FX E B1 (bg M k el.1 er.1,n9 l r k el er) B'->Go (bg M) M.tb.length N E B' fun l' r' a'=>((l'<E.length-1/\r'<E.length-1\/∃j,j<i/\(xn (E.length-1))[j]?=some (l',r'))/\a'<M.tb.length)\/l'=l/\r'=r/\a'<k+1:=fun B' o=>
      (Go.one h gg hel her hk t3e qL o).imp fun l' r' a' d=>by
       rcases d with d|⟨rfl,rfl,d⟩
       ·exact .inl (.inl d)
       ·rcases ca a' k with z|z
        ·exact .inl (.inr ⟨rfl,rfl,z⟩)
        ·exact .inr ⟨rfl,rfl,by omega⟩
     have put:∀ρ:cu,ρ[3]?=some (some (.loc rc))->ρ[9]?=some (some (.int (bg M k el.1 er.1:Nat)))->ρ[10]?=some (some (wL (n9 l r k el er)))->rf (ag 3) (ag 9) (ag 10) kN ρ (s1.set rc (.dct (bW B1)))=.nx ρ (s1.set rc (.dct (bW (qF B1 (bg M k el.1 er.1,n9 l r k el er))))):=fun ρ r3 r9 r10=>by
      refine qT (iC r10) (iC r3) (iC r9) ?_
      rw[wN (At B1) (by rw[nE];have:=gg.best.len;show _<1000000;omega),List.set_set,Nn B1 (bg M k el.1 er.1,n9 l r k el er)]
     rw[ew]
     by_cases c1:bg M k el.1 er.1∈E.map Prod.fst
     ·refine mL (wp (b_ (bT kv kv (BH (b:=false) hto (by rw[BG];simp only[dS];rw[br c1];rfl))))) ?_
      exact⟨_,_,rfl,B1,_,_,_,_,rfl,rfl,fin B1 (.inl ⟨c1,rfl⟩)⟩
     ·have t1:∀ρ:cu,ρ[9]?=some (some (.int (bg M k el.1 er.1:Nat)))->ρ[2]?=some (some (.loc rb))->fQ (e2 (v7 true) (ag 9) (ag 2)) ρ (s1.set rc (.dct (bW B1)))=.ok true _:=fun ρ r9 r2=>
       b_ (bT (iC r9) (iC r2) (BH (b:=true) hto (by rw[BG];simp only[dS];rw[aZ c1];rfl)))
      by_cases c2:bg M k el.1 er.1∈B1.map Prod.fst
      ·obtain⟨q,hqB,hq1⟩:=al.mp c2
       have t2:∀ρ:cu,ρ[9]?=some (some (.int (bg M k el.1 er.1:Nat)))->ρ[3]?=some (some (.loc rc))->fQ (e2 (v7 true) (ag 9) (ag 3)) ρ (s1.set rc (.dct (bW B1)))=.ok false _:=fun ρ r9 r2=>
        b_ (bT (iC r9) (iC r2) (BH (b:=false) hbo (by rw[BG];simp only[dS];rw[br c2];rfl)))
       have gt:jL (bW B1) (.i (bg M k el.1 er.1:Nat))=some (wL q.2):=by
        rw[<- hq1];exact F4 (f:=fun p:Ro=>p.1) (g:=fun p=>wL p.2) gg.best.nd hqB
       have t3:∀(b:Bool) (ρ:cu),HT.lexLt (n9 l r k el er).z q.2.z=b->ρ[9]?=some (some (.int (bg M k el.1 er.1:Nat)))->ρ[3]?=some (some (.loc rc))->ρ[10]?=some (some (wL (n9 l r k el er)))->fQ (e2 CG (ag 10) (e2 lE (ag 3) (ag 9))) ρ (s1.set rc (.dct (bW B1)))=.ok b _:=fun b ρ hb r9 r3 r10=>
        b_ (bT (iC r10) (bT (iC r3) (iC r9) (pS hbo gt)) (QQ hb))
       cases hb:HT.lexLt (n9 l r k el er).z q.2.z with
       |true=>
        refine yx (pO (t1 _ rfl rfl) (dR (t2 _ rfl rfl) (t3 true _ hb rfl rfl rfl))) ?_
        exact⟨_,_,put _ rfl rfl rfl,_,_,_,_,_,rfl,rfl,fin _ (.inr (.inr ⟨c1,fun q' At e'=>by
         obtain rfl:=BF gg.best.nd hqB At (hq1.trans e'.symm)
         exact(Wy.lex _ _).mp hb,rfl⟩))⟩
       |false=>
        refine mL (pO (t1 _ rfl rfl) (dR (t2 _ rfl rfl) (t3 false _ hb rfl rfl rfl))) ?_
        exact⟨_,_,rfl,B1,_,_,_,_,rfl,rfl,fin B1 (.inr (.inl ⟨c1,⟨q,hqB,hq1,fun z=>by rw[(Wy.lex _ _).mpr z]at hb;cases hb⟩,rfl⟩))⟩
      ·refine yx (pO (t1 _ rfl rfl) (wq (b_ (bT kv kv (BH (b:=true) hbo (by rw[BG];simp only[dS];rw[aZ c2];rfl)))))) ?_
       exact⟨_,_,put _ rfl rfl rfl,_,_,_,_,_,rfl,rfl,fin _ (.inr (.inr ⟨c1,fun q' At e'=>(c2 (al.mpr ⟨q',At,e'⟩)).elim,rfl⟩))⟩
   ·rintro ρ s ⟨B1,o7,o8,o9,qj,rfl,rfl,gg⟩
    refine⟨_,_,rfl,B1,_,_,_,_,_,_,_,rfl,rfl,gg.imp fun l' r' a' d=>?_⟩
    obtain⟨d|⟨j,hj,d⟩,da⟩:=d
    ·exact .inl ⟨.inl d,da⟩
    ·rcases ca j i with z|z
     ·exact .inl ⟨.inr ⟨j,z,d⟩,da⟩
     ·obtain rfl:j=i:=by omega
      rw[hp]at d;cases d
      exact .inr ⟨rfl,rfl,by simpa[sK]using da⟩
 ·rintro ρ s ⟨B',o4,o5,o6,o7,o8,o9,qj,rfl,rfl,gg⟩
  refine⟨_,_,rfl,B',gg.imp fun l r a d=>?_,[ah.lst x,.lst y,.lst ((xn (E.length-1)).map Np)],by rw[<- zc,List.set_append_left _ _ hc]⟩
  obtain⟨dl,dr,da⟩:=d
  refine⟨?_,da⟩
  by_cases z:l<E.length-1/\r<E.length-1
  ·exact .inl z
  ·obtain⟨j,hj,e⟩:=Jk (n:=E.length-1) (l:=l) (r:=r) #[0] #[0] #[0]
   exact .inr ⟨j,by simpa using hj,e⟩
end
theorem Jl{st:List ah}{z:Int}{v:W}:A8 (v8 (eC (.int z)) (eC v) A7) ρ st=.ok #[5] (st++[.dct [(.i z,v)]]):=by
 unfold A8
 have e1:v8 (eC (.int z)) (eC v) A7 ρ (st++[.dct []])=.ok [(.int z,v)] (st++[.dct []]):=rfl
 rw[e1]
 simp only[R.bind_ok,cv,eJ]
 rfl
theorem Nt{st:List ah}:oy ρ st=.ok #[5] (st++[.dct []]):=rfl
theorem F5{E:List Ro}{R:List W}(h:Rows E R)(n:Nat):undWs n R=true:=by
 have mS:∀w∈R,w.und n=true:=fun w hw=>by
  obtain⟨i,hi⟩:=a9 hw
  have hl:=(aa.mp hi).1
  obtain⟨w',hw',ro⟩:=h.at' i (E[i]'(by rw[<- h.len];exact hl)) (ae (by rw[<- h.len];exact hl))
  rw[hi]at hw';cases hw'
  rcases ro with⟨_,rfl⟩|⟨_,_,_,_,_,rfl⟩<;>simp[W.und,undWs]
 clear h
 induction R with
 |nil=>rfl
 |cons w R ih=>
  simp only[undWs,bA]
  exact⟨mS w (aM ..),ih fun w hw=>mS w (ay _ hw)⟩
theorem Rows.next{E:List Ro}{R:List W}(h:Rows E R)(h0:0<E.length){p el er:Ro}(e1:E[p.2.l]?=some el)(e2:E[p.2.r]?=some er):Rows (E++[p]) (R++[.tup [.int (p.1:Nat),.int (p.2.s:Nat),.tup [.int (el.1:Nat),.int (er.1:Nat),.int (p.2.a:Nat)]]]):=
 ⟨by simp[h.len],fun i e he=>by
  by_cases hl:i<E.length
  ·rw[av hl]at he
   obtain⟨w,hw,ro⟩:=h.at' i e he
   exact⟨w,by rw[av (by rw[h.len];exact hl)];exact hw,ro.app⟩
  ·have:i=E.length:=by have:=(aa.mp he).1;simp at this;omega
   subst this
   rw[bR]at he;cases he
   exact⟨_,by rw[<- h.len,bR],.inr ⟨h0,el,er,by rw[av (aa.mp e1).1];exact e1,by rw[av (aa.mp e2).1];exact e2,rfl⟩⟩⟩
section
variable{M:Mc}{st:List ah}
theorem Da(hM:oX M N)(Ot:1<=N)(hN:N<=100)(ht:st[1]?=some (.tab 66 ⟨64,29,64,52⟩ "firsts_of.<locals>.<lambda>")) :
  ∃(E:List Ro) (R:List W),ip (bg M) M.tb.length N E/\Rows E R/\(∀l r a,l<E.length->r<E.length->a<M.tb.length->Hh (bg M) E [] l r a)/\C8 [M.w] st=.ok (.tup R) st:=by
 suffices hh:hU (yw fun w bL=>(∃x,bL=st++x)/\undWs st.length [w]=true/\∃(E:List Ro) (R:List W),w=.tup R/\ip (bg M) M.tb.length N E/\Rows E R/\∀l r a,l<E.length->r<E.length->a<M.tb.length->Hh (bg M) E [] l r a) (QK ([M.w].map some++List.replicate (6-1) none) st) by
  obtain⟨w,⟨E,R,rfl,h1,h2,h3⟩,e⟩:=wu hh
  exact⟨E,R,h1,h2,h3,e⟩
 apply aS
 ·(walk_at "evs")
 apply aS
 ·exact cx Jl
 apply aS
 ·exact cx Nt
 have ju:1<st.length:=(aa.mp ht).1
 rw[show(st++[ah.lst [W.tup [.int 0,.int 0,.tup []]]]++[ah.dct [(DK.i 0,W.bl true)]]).length=st.length+2 by simp,show(st++[ah.lst [W.tup [.int 0,.int 0,.tup []]]]).length=st.length+1 by simp,
  show st++[ah.lst [W.tup [.int 0,.int 0,.tup []]]]++[ah.dct [(DK.i 0,W.bl true)]]++[ah.dct []]=st++[ah.lst [W.tup [.int 0,.int 0,.tup []]],.dct (tW [(0,⟨0,0,0,0⟩)]),.dct (bW [])] by simp only[az];rfl]
 have hT0:ip (bg M) M.tb.length N [(0,⟨0,0,0,0⟩)]:=by
  refine⟨⟨[],rfl⟩,fun e he=>?_,by simp,fun i e he hi=>?_,fun i e f h1 h2=>?_⟩
  ·rw[bj.mp he];exact Ot
  ·have:=(aa.mp he).1;simp at this;omega
  ·have:=(aa.mp h2).1;simp at this
 have hR0:Rows [(0,⟨0,0,0,0⟩)] [W.tup [.int 0,.int 0,.tup []]]:=⟨rfl,fun i e he=>by
  have:i=0:=by have:=(aa.mp he).1;simp at this;omega
  subst this
  cases he
  exact⟨_,rfl,.inl ⟨rfl,rfl⟩⟩⟩
 have g0:Go (bg M) M.tb.length N [(0,⟨0,0,0,0⟩)] [] fun l r a=>l<[((0:Nat),(⟨0,0,0,0⟩:Wy))].length-1/\r<[((0:Nat),(⟨0,0,0,0⟩:Wy))].length-1/\a<M.tb.length:=
  ⟨⟨by simp,fun p hp=>by simp at hp,fun p hp=>by simp at hp⟩,fun l r a d=>absurd d.1 #[7]⟩
 obtain⟨B1,g1,ew⟩:=BI (st:=st++[ah.lst [W.tup [.int 0,.int 0,.tup []]],.dct (tW [(0,⟨0,0,0,0⟩)]),.dct (bW [])]) (ra:=st.length) (rb:=st.length+1) (rc:=st.length+2) hM hN (by rw[cv];rfl) (by rw[eA];rfl) (by rw[eA];rfl) #[0] #[0] hR0 hT0 g0
 rw[j3]at ew
 apply aS
 ·exact hJ (dz (aA kv (aA kv (aA kv kn))) ew rfl)
 clear ew g0
 refine qD (fun m ρ s=>∃(E B:List Ro) (R:List W) (o4 o5:Option W),m=N-E.length/\ρ=[some M.w,some #[5],some (.loc (st.length+1)),some (.loc (st.length+2)),o4,o5]/\s=st++[.lst R,.dct (tW E),.dct (bW B)] /\
   Rows E R/\ip (bg M) M.tb.length N E/\Go (bg M) M.tb.length N E B fun l r a=>l<E.length/\r<E.length/\a<M.tb.length) _ ⟨_,B1,_,_,_,rfl,rfl,rfl,hR0,hT0,g1⟩ ?_ ?_
 ·rintro m ρ s ⟨E,B,R,o4,o5,rfl,rfl,rfl,hR,hT,g⟩
  have hb:(st++[ah.lst R,.dct (tW E),.dct (bW B)])[st.length+2]?=some (.dct (bW B)):=by rw[eA];rfl
  cases B with
  |nil=>exact .inl (b_ (bT (bu kn (Al (gf hb))) dY (qU rfl)))
  |cons b B=>
   refine .inr ⟨b_ (bT (bu kn (Al (gf hb))) dY (qU (by rw[nE];exact br (by simp only[bz];omega)))),?_⟩
   obtain⟨p,hp,N5⟩:=yQ (b::B) B.length #[7]
   have hpB:p∈b::B:=ao hp
   have hmin':∀q∈b::B,¬ q.2.lt p.2:=fun q hq=>by
    obtain⟨i,hi⟩:=a9 hq
    exact N5 i q (by have:=(aa.mp hi).1;simp at this;omega) hi
   apply aS
   ·refine cx (Ji (p:=(DK.i (p.1:Nat),wL p.2)) rfl hb (tQ _) (ax ht) ?_)
    rw[nE,show(b::B).length-1=B.length from rfl]
    show((b::B).map _)[_]?=_
    rw[ak,hp];rfl
   apply aS
   ·exact cx (No (n:=st.length+2) (q:=p.1) kv kv hb (F4 (f:=fun p:Ro=>p.1) (g:=fun p=>wL p.2) g.best.nd hpB))
   rw[j3,Jh]
   obtain⟨⟨el,er,w1,w2,w3,w4,w5⟩,pn,pN⟩:=g.best.ok p hpB
   obtain⟨vl,hvl,rl⟩:=hR.at' _ _ w1
   obtain⟨vr,hvr,rr⟩:=hR.at' _ _ w2
   obtain⟨tl,rfl⟩:=rl.sh
   obtain⟨tr,rfl⟩:=rr.sh
   clear rl rr
   have hT2:=C9 hT g.best hpB
   have b2:=C_ hT g.best hpB hmin'
   have hR2:=hR.next hT.len0 w1 w2
   have hel:E.length<N:=by have:=hT2.len;simp at this;omega
   generalize hB2:List.filter (fun q:Ro=>decide (q.1≠p.1)) (b::B)=B2 at b2
   have g2:Go (bg M) M.tb.length N (E++[p]) B2 fun l r a=>l<(E++[p]).length-1/\r<(E++[p]).length-1/\a<M.tb.length:=⟨b2,fun l r a d=>by
    rw[<- hB2]
    simp only[aN,bz,dM]at d
    exact F0 hpB g.best.nd #[0] #[0] (g.cov l r a ⟨by omega,by omega,d.2.2⟩)⟩
   show hU _ (a7 _ _ _ (st++[ah.lst R,.dct (tW E),.dct (bW B2)]))
   have hr0:(st++[ah.lst R,.dct (tW E),.dct (bW B2)])[st.length]?=some (.lst R):=by rw[cv];rfl
   have xl:bM #[5] (.int (p.2.l:Nat)) (st++[ah.lst R,.dct (tW E),.dct (bW B2)])=.ok _ _:=jo (aR hr0) (eM hvl)
   have xr:bM #[5] (.int (p.2.r:Nat)) (st++[ah.lst R,.dct (tW E),.dct (bW B2)])=.ok _ _:=jo (aR hr0) (eM hvr)
   have xw:∀(i:Int) (w:W) (s:List ah),n_ (p.2.z.map W.int) i=some w->bM (wL p.2) (.int i) s=.ok w s:=fun i w s e=>gk e
   apply aS
   ·exact hJ (rp kv (gT hr0) (aA (lH (aA kv (aA (bT kv dY (xw 0 _ _ rfl)) (aA (lH (aA (bT (bT kv (bT kv dY (xw 1 _ _ rfl)) xl) dY ox) (aA (bT (bT kv (bT kv dY (xw 2 _ _ rfl)) xr) dY ox) (aA (bT kv dY (xw 3 _ _ rfl)) bF))) (fw rfl)) bF))) (fw rfl)) bF) (qV hr0 (by rw[hR.len];show _<1000000;omega)))
   rw[eJ]
   show hU _ (a7 _ _ _ (st++[ah.lst (R++[_]),.dct (tW E),.dct (bW B2)]))
   apply aS
   ·refine qT dY kv kv (wN (kvs:=tW E) (q:=p.1) (by rw[eA];rfl) (by rw[nE];show _<1000000;omega))
   rw[j3,show sP (tW E) (.i (p.1:Nat)) (W.bl true)=tW (E++[p])from wK (f:=fun p:Ro=>p.1) (g:=fun _=>W.bl true) (a:=p) pn]
   show hU _ (ga _ _ (st++[ah.lst (R++[_]),.dct (tW (E++[p])),.dct (bW B2)]))
   obtain⟨B3,g3,e3⟩:=BI (st:=st++[ah.lst (R++[W.tup [.int (p.1:Nat),.int (p.2.s:Nat),.tup [.int (el.1:Nat),.int (er.1:Nat),.int (p.2.a:Nat)]]]),.dct (tW (E++[p])),.dct (bW B2)]) (ra:=st.length) (rb:=st.length+1) (rc:=st.length+2) hM hN (by rw[cv];rfl) (by rw[eA];rfl) (by rw[eA];rfl) #[0] #[0] hR2 hT2 g2
   rw[j3]at e3
   exact⟨_,_,hJ (dz (aA kv (aA kv (aA kv kn))) e3 rfl),N-(E++[p]).length,by simp only[aN,bz,dM];omega,E++[p],B3,_,_,_,rfl,rfl,rfl,hR2,hT2,g3⟩
 ·rintro m ρ s ⟨E,B,R,o4,o5,rfl,rfl,rfl,hR,hT,g⟩ hf
  have hb:(st++[ah.lst R,.dct (tW E),.dct (bW B)])[st.length+2]?=some (.dct (bW B)):=by rw[eA];rfl
  have hB:B=[]:=by
   cases B with
   |nil=>rfl
   |cons b B=>
    have t:fQ (e2 Pw (bh sR (aj (ag 3) aI)) (eI 0)) [some M.w,some #[5],some (.loc (st.length+1)),some (.loc (st.length+2)),o4,o5] (st++[ah.lst R,.dct (tW E),.dct (bW (b::B))])=.ok true _:=
     b_ (bT (bu kn (Al (gf hb))) dY (qU (by rw[nE];exact br (by simp only[bz];omega))))
    rw[t]at hf
    cases hf
  subst hB
  refine eK (bu kn (hW (aR (by rw[cv];rfl)))) ⟨_,_,rfl,⟨_,rfl⟩,?_,E,R,rfl,hT,hR,fun l r a h1 h2 h3=>g.cov l r a ⟨h1,h2,h3⟩⟩
  simp only[undWs,eV]
  unfold W.und
  exact F5 hR _
end
theorem BJ{l:List Ro}(h:(l.map Prod.fst).Nodup){e f:Ro}(hi:l[i]?=some e)(hj:l[j]?=some f)(ju:i<j):e.1≠f.1:=by
 obtain⟨a1,a2⟩:=aa.mp hi
 obtain⟨b1,b2⟩:=aa.mp hj
 have:=hG.mp h i j (by simpa using a1) (by simpa using b1) ju
 rw[dw,dw,a2,b2]at this
 exact this
structure jC(T:Nat->Nat->Nat->Nat)(L N:Nat)(E:List Ro):Prop where
 told:ip T L N E
 cov:∀l r a,l<E.length->r<E.length->a<L->Hh T E [] l r a
section
variable{E E':List Ro}
theorem ip.up(h:ip T L N E):∀(k i:Nat) (e f:Ro),E[i]?=some e->E[i+k]?=some f->¬ f.2.lt e.2
 |0,i,e,f,h1,h2=>by rw[jP,h1]at h2;cases h2;exact Wy.irr _
 |k+1,i,e,f,h1,h2=>by
  have hk:i+k<E.length:=by have:=(aa.mp h2).1;omega
  have e1:E[i+k]?=some E[i+k]:=ae hk
  have a:=h.up k i e _ h1 e1
  have b:=h.rise (i+k) _ f e1 (by rw[<- h2];congr 1)
  exact fun z=>a (Wy.trans b z)
theorem jC.least(h:jC T L N E)(hi:0<i){l r a:Nat}{el er:Ro}(h1:E[l]?=some el)(h2:E[r]?=some er)(hl:l<i)(hr:r<i)(ha:a<L)(hn:T a el.1 er.1∉(E.take i).map Prod.fst) :
  ∃e,E[i]?=some e/\¬ (n9 l r a el er).lt e.2:=by
 rcases h.cov l r a (aa.mp h1).1 (aa.mp h2).1 ha el er h1 h2 with⟨m,f,hm,e1,e2⟩|⟨p,hp,_⟩
 ·have hmi:i<=m:=by
   rcases ca m i with z|z
   ·exact(hn (e1▸al.mpr ⟨f,ao (i:=m) (by rw[aX z];exact hm),rfl⟩)).elim
   ·exact z
  have hil:i<E.length:=by have:=(aa.mp hm).1;omega
  have he:E[i]?=some E[i]:=ae hil
  have:=h.told.up (m-i) i _ f he (by rw[show i+(m-i)=m by omega];exact hm)
  exact⟨_,he,fun z=>e2 (Wy.ge z this)⟩
 ·cases hp
theorem F6(h:ip T L N E){e:Ro}(he:E[i]?=some e):e.1∉(E.take i).map Prod.fst:=fun z=>by
 obtain⟨f,hf,e1⟩:=al.mp z
 obtain⟨j,hj⟩:=a9 hf
 have hji:j<i:=by have:=(aa.mp hj).1;rw[bf]at this;omega
 rw[aX hji]at hj
 exact BJ h.nd hj he hji e1
theorem qG(h:jC T L N E)(h':jC T L N E')(e0:E.take i=E'.take i){e:Ro}(hi:0<i)(he:E[i]?=some e):∃e',E'[i]?=some e'/\¬ e.2.lt e'.2:=by
 obtain⟨hl,hr,el,er,h1,h2,ha,hT,hs⟩:=h.told.row i e he hi
 have t1:E'[e.2.l]?=some el:=by rw[<- h1,<- aX hl,<- e0,aX hl]
 have t2:E'[e.2.r]?=some er:=by rw[<- h2,<- aX hr,<- e0,aX hr]
 obtain⟨e',h3,h4⟩:=h'.least hi t1 t2 hl hr ha (by rw[hT,<- e0];exact F6 h.told he)
 refine⟨e',h3,fun z=>h4 ?_⟩
 rw[show n9 e.2.l e.2.r e.2.a el er=e.2 by rw[n9,<- hs]]
 exact z
theorem jC.uniq(h:jC T L N E)(h':jC T L N E'):E=E':=by
 have key:∀n,E.take n=E'.take n:=by
  intro n
  induction n with
  |zero=>simp
  |succ n ih=>
   rw[gF,gF,ih]
   congr 2
   cases n with
   |zero=>
    obtain⟨r,hr⟩:=h.told.zero
    obtain⟨r',hr'⟩:=h'.told.zero
    rw[hr,hr'];rfl
   |succ n=>
    cases e1:E[n+1]? with
    |none=>
     cases e2:E'[n+1]? with
     |none=>rfl
     |some e'=>
      obtain⟨e,h3,_⟩:=qG h' h ih.symm #[0] e2
      rw[e1]at h3;cases h3
    |some e=>
     obtain⟨e',h3,h4⟩:=qG h h' ih #[0] e1
     obtain⟨e'',h5,h6⟩:=qG h' h ih.symm #[0] h3
     rw[e1]at h5;cases h5
     obtain⟨hl,hr,el,er,a1,a2,_,a4,a5⟩:=h.told.row _ _ e1 #[0]
     obtain⟨hl',hr',el',er',b1,b2,_,b4,b5⟩:=h'.told.row _ _ h3 #[0]
     rw[h3]
     have hw:=Wy.tri h4 h6
     obtain⟨q,w⟩:=e
     obtain⟨q',w'⟩:=e'
     obtain rfl:w=w':=hw
     simp only at a1 a2 a4 b1 b2 b4 hl hr
     rw[<- aX hl,ih,aX hl,b1]at a1
     rw[<- aX hr,ih,aX hr,b2]at a2
     cases a1;cases a2
     rw[<- a4,<- b4]
 have:=key (max E.length E'.length)
 rw[cU #[0],cU #[0]]at this
 exact this
end
noncomputable abbrev zW:Wy:=⟨0,0,0,0⟩
structure yS(T:Nat->Nat->Nat->Nat)(L N:Nat)(E:List Ro)(B h:Nat->Nat)(hd:Nat->Ro)(m:Nat):Prop where
 full:jC T L N E
 at':∀j,j<m->E[h j]?=some (hd j)/\B (hd j).1=j
 fst:∀i e,E[i]?=some e->B e.1<m/\h (B e.1)<=i
 up:∀j k,j<k->k<m->h j<h k
 cg:∀a x x' y y',a<L->x∈E.map Prod.fst->x'∈E.map Prod.fst->y∈E.map Prod.fst->y'∈E.map Prod.fst->B x=B x'->B y=B y'->B (T a x y)=B (T a x' y')
section
variable{E:List Ro}{h:Nat->Nat}{hd:Nat->Ro}
def bI(E:List Ro)(B:Nat->Nat)(i:Nat):Nat:=B (E.getD i (0,zW)).1
def QR(E:List Ro)(B:Nat->Nat)(hd:Nat->Ro)(j:Nat):Wy:=⟨(hd j).2.s,bI E B (hd j).2.l,bI E B (hd j).2.r,(hd j).2.a⟩
def rA(E:List Ro)(B:Nat->Nat)(hd:Nat->Ro)(m:Nat):List Ro:=(List.range m).map fun j=>(j,QR E B hd j)
def Nu(T:Nat->Nat->Nat->Nat)(B:Nat->Nat)(hd:Nat->Ro)(a l r:Nat):Nat:=B (T a (hd l).1 (hd r).1)
theorem vq{e:Ro}(he:E[i]?=some e):bI E B i=B e.1:=by unfold bI;rw[aD,he];rfl
theorem yS.mem(q:yS T L N E B h hd m){e:Ro}(he:E[i]?=some e):e.1∈E.map Prod.fst:=al.mpr ⟨e,ao he,rfl⟩
theorem ip.lt'(t:ip T L N E){k:Nat}{e f:Ro}(he:E[i]?=some e)(hf:E[k]?=some f)(T5:i<k):e.2.lt f.2:=by
 have hk:i+1<E.length:=by have:=(aa.mp hf).1;omega
 have e1:E[i+1]?=some E[i+1]:=ae hk
 have a:=t.rise i e _ he e1
 have b:=t.up (k-(i+1)) (i+1) _ f e1 (by rw[show i+1+(k-(i+1))=k by omega];exact hf)
 exact Wy.ge a b
theorem ip.le'(t:ip T L N E){k:Nat}{e f:Ro}(he:E[i]?=some e)(hf:E[k]?=some f)(T5:i<=k):¬ f.2.lt e.2:=t.up (k-i) i e f he (by rw[show i+(k-i)=k by omega];exact hf)
theorem ip.sz(t:ip T L N E){k:Nat}{e f:Ro}(he:E[i]?=some e)(hf:E[k]?=some f)(T5:i<=k):e.2.s<=f.2.s:=t.mono (k-i) i e f he (by rw[show i+(k-i)=k by omega];exact hf)
theorem yS.lt_iff(q:yS T L N E B h hd m){k:Nat}(hj:j<m)(hk:k<m):h j<h k↔j<k:=by
 constructor
 ·intro z
  rcases iT j k with y|y|y
  ·exact y
  ·subst y;omega
  ·have:=q.up k j y hj;omega
 ·exact fun z=>q.up j k z hk
theorem yS.eq_iff(q:yS T L N E B h hd m){k:Nat}(hj:j<m)(hk:k<m):h j=h k↔j=k:=by
 have a:=q.lt_iff hj hk
 have b:=q.lt_iff hk hj
 omega
theorem yS.heads(q:yS T L N E B h hd m)(hj:j<m)(h0:0<h j):h (bI E B (hd j).2.l)=(hd j).2.l/\h (bI E B (hd j).2.r)=(hd j).2.r/\(hd j).2.l<h j/\(hd j).2.r<h j:=by
 obtain⟨a1,a2⟩:=q.at' j hj
 obtain⟨hl,hr,el,er,e1,e2,ea,eT,es⟩:=q.full.told.row (h j) (hd j) a1 h0
 obtain⟨l1,l2⟩:=q.fst _ el e1
 obtain⟨r1,r2⟩:=q.fst _ er e2
 rw[vq e1,vq e2]
 have use:∀(x y:Nat) (ex ey:Ro),E[x]?=some ex->E[y]?=some ey->B ex.1=B el.1->B ey.1=B er.1->(n9 x y (hd j).2.a ex ey).lt (hd j).2->False:=fun x y ex ey g1 g2 b1 b2 hw=>by
  rcases q.full.cov x y (hd j).2.a (aa.mp g1).1 (aa.mp g2).1 ea ex ey g1 g2 with⟨i,f,f1,f2,f3⟩|⟨p,hp,_⟩
  ·have hB:B f.1=j:=by
    rw[f2,q.cg _ _ _ _ _ ea (q.mem g1) (q.mem e1) (q.mem g2) (q.mem e2) b1 b2,eT,a2]
   have:=(q.fst i f f1).2
   rw[hB]at this
   exact q.full.told.le' a1 f1 this (Wy.gt f3 hw)
  ·cases hp
 refine⟨?_,?_,hl,hr⟩
 ·rcases ca (h (B el.1)) (hd j).2.l with z|z
  ·obtain⟨p1,p2⟩:=q.at' _ l1
   have ps:=q.full.told.sz p1 e1 (dh z)
   refine(use _ _ _ _ p1 e2 p2 rfl ?_).elim
   show(_:Nat)<_\/_
   rcases ca ((hd (B el.1)).2.s+er.2.s+1) (hd j).2.s with y|y
   ·exact .inl y
   ·exact .inr ⟨by show(hd (B el.1)).2.s+er.2.s+1=_;omega,.inl z⟩
  ·omega
 ·rcases ca (h (B er.1)) (hd j).2.r with z|z
  ·obtain⟨p1,p2⟩:=q.at' _ r1
   have ps:=q.full.told.sz p1 e2 (dh z)
   refine(use _ _ _ _ e1 p1 rfl p2 ?_).elim
   show(_:Nat)<_\/_
   rcases ca (el.2.s+(hd (B er.1)).2.s+1) (hd j).2.s with y|y
   ·exact .inl y
   ·exact .inr ⟨by show el.2.s+(hd (B er.1)).2.s+1=_;omega,.inr ⟨rfl,.inl z⟩⟩
  ·omega
theorem yS.zero(q:yS T L N E B h hd m):0<m/\h 0=0/\hd 0=(0,zW):=by
 obtain⟨r,hr⟩:=q.full.told.zero
 have e0:E[0]?=some (0,zW):=by rw[hr];rfl
 obtain⟨b1,b2⟩:=q.fst 0 _ e0
 have hb:B 0=0:=by
  rcases gj (B 0)with z|z
  ·exact z
  ·have:=q.up 0 (B 0) z b1
   have:h (B 0)<=0:=b2
   omega
 have b1:B 0<m:=b1
 have b2:h (B 0)<=0:=b2
 rw[hb]at b1 b2
 have h00:h 0=0:=by omega
 refine⟨b1,h00,?_⟩
 have:=(q.at' 0 b1).1
 rw[h00,e0]at this
 exact(aU this).symm
theorem yS.lr(q:yS T L N E B h hd m)(hj:j<m):h (bI E B (hd j).2.l)=(hd j).2.l/\h (bI E B (hd j).2.r)=(hd j).2.r/\bI E B (hd j).2.l<m/\bI E B (hd j).2.r<m:=by
 obtain⟨z1,z2,z3⟩:=q.zero
 rcases gj (h j)with z|z
 ·have:j=0:=(q.eq_iff hj z1).mp #[0]
  subst this
  rw[z3]
  have e0:E[0]?=some (0,zW):=by have:=(q.at' 0 z1).1;rw[z2,z3]at this;exact this
  have hb:bI E B 0=0:=by rw[vq e0];have:=(q.at' 0 z1).2;rw[z3]at this;exact this
  show h (bI E B 0)=0/\h (bI E B 0)=0/\bI E B 0<m/\bI E B 0<m
  rw[hb]
  exact⟨z2,z2,z1,z1⟩
 ·obtain⟨a,b,c,d⟩:=q.heads hj z
  obtain⟨_,_,el,er,e1,e2,_⟩:=q.full.told.row (h j) (hd j) (q.at' j hj).1 z
  refine⟨a,b,?_,?_⟩
  ·rw[vq e1];exact(q.fst _ el e1).1
  ·rw[vq e2];exact(q.fst _ er e2).1
theorem yS.wy_lt(q:yS T L N E B h hd m)(hj:j<m){s l r a:Nat}(hl:l<m)(hr:r<m):(Wy.mk s l r a).lt (QR E B hd j)↔(Wy.mk s (h l) (h r) a).lt (hd j).2:=by
 obtain⟨a1,a2,a3,a4⟩:=q.lr hj
 have x1:=q.lt_iff hl a3
 have x2:=q.eq_iff hl a3
 have x3:=q.lt_iff hr a4
 have x4:=q.eq_iff hr a4
 rw[a1]at x1 x2
 rw[a2]at x3 x4
 show(s<(hd j).2.s\/s=(hd j).2.s/\(l<bI E B (hd j).2.l\/l=bI E B (hd j).2.l/\(r<bI E B (hd j).2.r\/r=bI E B (hd j).2.r/\a<(hd j).2.a)))↔(s<(hd j).2.s\/s=(hd j).2.s/\(h l<(hd j).2.l\/h l=(hd j).2.l/\(h r<(hd j).2.r\/h r=(hd j).2.r/\a<(hd j).2.a)))
 rw[x1,x2,x3,x4]
theorem wO(hj:j<m):(rA E B hd m)[j]?=some (j,QR E B hd j):=by unfold rA;rw[ak,bn hj];rfl
theorem tS{e:Ro}(he:(rA E B hd m)[i]?=some e):i<m/\e=(i,QR E B hd i):=by
 have hi:i<m:=by have:=(aa.mp he).1;simpa[rA]using this
 rw[wO hi]at he
 exact⟨hi,(aU he).symm⟩
theorem yS.ok(q:yS T L N E B h hd m):jC (Nu T B hd) L m (rA E B hd m):=by
 obtain⟨z1,z2,z3⟩:=q.zero
 refine⟨⟨?_,?_,?_,?_,?_⟩,?_⟩
 ·obtain⟨k,rfl⟩:∃k,m=k+1:=⟨m-1,by omega⟩
  have e0:E[0]?=some (0,zW):=by have:=(q.at' 0 z1).1;rw[z2,z3]at this;exact this
  have hb:bI E B 0=0:=by rw[vq e0];have:=(q.at' 0 z1).2;rw[z3]at this;exact this
  refine⟨((List.range k).map Nat.succ).map fun j=>(j,QR E B hd j),?_⟩
  unfold rA
  rw[iQ,aF]
  congr 1
  show(0,Wy.mk (hd 0).2.s (bI E B (hd 0).2.l) (bI E B (hd 0).2.r) (hd 0).2.a)=_
  rw[z3]
  show(0,Wy.mk 0 (bI E B 0) (bI E B 0) 0)=_
  rw[hb]
 ·intro e he
  obtain⟨j,hj,rfl⟩:=al.mp he
  exact aT.mp hj
 ·unfold rA
  rw[aH]
  show((List.range m).map fun j=>j).Nodup
  rw[List.map_id']
  exact lU
 ·intro i e he hi
  obtain⟨him,rfl⟩:=tS he
  have hh:0<h i:=by have:=q.up 0 i hi him;omega
  obtain⟨a1,a2,a3,a4⟩:=q.heads him hh
  obtain⟨_,_,b3,b4⟩:=q.lr him
  obtain⟨_,_,el,er,e1,e2,ea,eT,es⟩:=q.full.told.row (h i) (hd i) (q.at' i him).1 hh
  have l1:bI E B (hd i).2.l<i:=(q.lt_iff b3 him).mp #[0]
  have r1:bI E B (hd i).2.r<i:=(q.lt_iff b4 him).mp #[0]
  have hel:hd (bI E B (hd i).2.l)=el:=by
   have:=(q.at' _ b3).1
   rw[a1,e1]at this;exact(aU this).symm
  have her:hd (bI E B (hd i).2.r)=er:=by
   have:=(q.at' _ b4).1
   rw[a2,e2]at this;exact(aU this).symm
  refine⟨l1,r1,_,_,wO b3,wO b4,ea,?_,?_⟩
  ·show B (T (hd i).2.a (hd (bI E B (hd i).2.l)).1 (hd (bI E B (hd i).2.r)).1)=i
   rw[hel,her,eT];exact(q.at' i him).2
  ·show(hd i).2.s=(hd (bI E B (hd i).2.l)).2.s+(hd (bI E B (hd i).2.r)).2.s+1
   rw[hel,her];exact es
 ·intro i e f he hf
  obtain⟨him,rfl⟩:=tS he
  obtain⟨hfm,rfl⟩:=tS hf
  have:=q.full.told.lt' (q.at' i him).1 (q.at' _ hfm).1 (q.up i (i+1) #[0] hfm)
  obtain⟨a1,a2,a3,a4⟩:=q.lr him
  refine(q.wy_lt hfm a3 a4).mpr ?_
  rw[a1,a2]
  exact this
 ·intro l r a hl hr ha el er h1 h2
  obtain⟨hlm,rfl⟩:=tS h1
  obtain⟨hrm,rfl⟩:=tS h2
  left
  obtain⟨p1,p2⟩:=q.at' l hlm
  obtain⟨r1,r2⟩:=q.at' r hrm
  rcases q.full.cov (h l) (h r) a (aa.mp p1).1 (aa.mp r1).1 ha _ _ p1 r1 with⟨i,f,f1,f2,f3⟩|⟨p,hp,_⟩
  ·obtain⟨k1,k2⟩:=q.fst i f f1
   have hk:Nu T B hd a l r=B f.1:=by unfold Nu;rw[f2]
   refine⟨B f.1,_,wO k1,hk.symm,fun z=>?_⟩
   have z:=(q.wy_lt k1 hlm hrm).mp z
   have:=q.full.told.le' (q.at' _ k1).1 f1 k2
   exact f3 (Wy.ge z this)
  ·cases hp
end
section
variable(T:Nat->Nat->Nat->Nat)(L:Nat)(g:Nat->Bool)(rs:List Nat)
noncomputable def qH:List (Nat×Nat×Nat):=(List.range L).flatMap fun a=>rs.map (fun t=>(a,0,t))++rs.map (fun t=>(a,1,t))
noncomputable def led(p:Nat×Nat×Nat)(x:Nat):Nat:=if p.2.1=0 then T p.1 x p.2.2 else T p.1 p.2.2 x
def ap:Nat->Nat->Nat->Bool
 |0,a,b=>g a != g b
 |s+1,a,b=>ap s a b||(qH L rs).any fun p=>ap s (led T p a) (led T p b)
noncomputable def lJ:List Nat->List (Nat×Nat)
 |[]=>[]
 |x::r=>r.map (fun y=>(x,y))++lJ r
def uG:Nat->Nat->Nat->Bool
 |0,_,_=>true
 |s+1,a,b=>!ap T L g rs s a b
def Jm(s:Nat):List (Nat×Nat):=(lJ rs).filter fun p=>uG T L g rs s p.1 p.2&&ap T L g rs s p.1 p.2
end
section
variable{g:Nat->Bool}
theorem Am:∀(s a:Nat),ap T L g rs s a a=false
 |0,a=>by simp[ap]
 |s+1,a=>by
  unfold ap
  rw[Am s a,Bool.false_or,fK]
  intro p _;rw[Am s];simp
theorem rP:∀(s a b:Nat),ap T L g rs s a b=ap T L g rs s b a
 |0,a,b=>by simp only[ap];cases g a<;>cases g b<;>rfl
 |s+1,a,b=>by
  unfold ap
  rw[rP s a b]
  congr 1
  refine cL _ (funext fun p=>?_)
  exact rP s _ _
theorem nF{s a b:Nat}(h:ap T L g rs (s+1) a b=false):ap T L g rs s a b=false/\∀p∈qH L rs,ap T L g rs s (led T p a) (led T p b)=false:=by
 unfold ap at h
 rw[Bool.or_eq_false_iff,fK]at h
 exact⟨h.1,fun p hp=>by have:=h.2 p hp;simpa using this⟩
theorem yT{s a b:Nat}(h:ap T L g rs s a b=false)(h2:∀p∈qH L rs,ap T L g rs s (led T p a) (led T p b)=false):ap T L g rs (s+1) a b=false:=by
 unfold ap
 rw[Bool.or_eq_false_iff,fK]
 exact⟨h,fun p hp=>by rw[h2 p hp];simp⟩
theorem F7{a b:Nat}:∀(d k:Nat),ap T L g rs (k+d) a b=false->ap T L g rs k a b=false
 |0,_,h=>h
 |d+1,k,h=>F7 d k (nF h).1
theorem Tl{s a b k:Nat}(h:uG T L g rs s a b=true)(hk:k<s):ap T L g rs k a b=false:=by
 cases s with
 |zero=>omega
 |succ s=>
  have h':ap T L g rs s a b=false:=by simpa[uG]using h
  exact F7 (s-k) k (by rw[show k+(s-k)=s by omega];exact h')
theorem Tm{s a b:Nat}(h:∀k,k<s->ap T L g rs k a b=false):uG T L g rs s a b=true:=by
 cases s with
 |zero=>rfl
 |succ s=>simp only[uG];rw[h s (by omega)];rfl
def R0(T:Nat->Nat->Nat->Nat)(L:Nat)(g:Nat->Bool)(rs:List Nat)(s:Nat):Nat:=((lJ rs).filter fun p=>uG T L g rs s p.1 p.2).length
theorem F8(s a b:Nat):uG T L g rs (s+1) a b=(uG T L g rs s a b&&!ap T L g rs s a b):=by
 cases s with
 |zero=>simp[uG]
 |succ s=>
  show(!ap T L g rs (s+1) a b)=((!ap T L g rs s a b)&&!ap T L g rs (s+1) a b)
  cases e:ap T L g rs (s+1) a b with
  |true=>simp
  |false=>rw[(nF e).1];rfl
theorem pX(p q:α->Bool):∀l:List α,(l.filter p).length=(l.filter fun x=>p x&&q x).length+(l.filter fun x=>p x&&!q x).length
 |[]=>rfl
 |x::l=>by
  have:=pX p q l
  simp only[cS]
  cases p x<;>cases q x<;>simp<;>omega
theorem QT{s:Nat}(h:Jm T L g rs s≠[]):R0 T L g rs (s+1)<R0 T L g rs s:=by
 have e:=pX (fun p:Nat×Nat=>uG T L g rs s p.1 p.2) (fun p=>ap T L g rs s p.1 p.2) (lJ rs)
 have h1:0<(Jm T L g rs s).length:=List.length_pos_iff.mpr h
 unfold Jm at h1
 unfold R0
 simp only[F8]
 omega
theorem Jn:∀l:List Nat,(lJ l).length<=l.length*l.length
 |[]=>au _
 |x::r=>by
  have:=Jn r
  simp only[lJ,aN,ai,bz,Nat.add_mul,Nat.mul_add];omega
theorem Nv:∀{l:List Nat},l.Pairwise (· < ·)->∀{a b:Nat},(a,b)∈lJ l↔a∈l/\b∈l/\a<b
 |[],_,a,b=>by simp[lJ]
 |x::r,h,a,b=>by
  obtain⟨h1,h2⟩:=cf.mp h
  simp only[lJ,a6,al,Nv h2,aK]
  constructor
  ·rintro(⟨y,hy,e⟩|⟨q1,q2,q3⟩)
   ·cases e;exact⟨.inl rfl,.inr hy,h1 _ hy⟩
   ·exact⟨.inr q1,.inr q2,q3⟩
  ·rintro⟨q1,q2,q3⟩
   rcases q1 with rfl|q1
   ·rcases q2 with rfl|q2
    ·omega
    ·exact .inl ⟨b,q2,rfl⟩
   ·rcases q2 with rfl|q2
    ·have:=h1 _ q1;omega
    ·exact .inr ⟨q1,q2,q3⟩
theorem Jo(L:Nat)(rs:List Nat):(qH L rs).length=L*(2*rs.length):=by
 unfold qH
 rw[List.length_flatMap]
 simp only[aN,ai]
 rw[List.map_const',cB,List.sum_replicate_nat]
 congr 1;omega
theorem F9(L:Nat)(rs:List Nat):qH (L+1) rs=qH L rs++(rs.map (fun t=>(L,0,t))++rs.map (fun t=>(L,1,t))):=by
 unfold qH;rw[List.range_succ,List.flatMap_append];simp
end
section
variable{g:Nat->Bool}
theorem F_:∀(s a b c:Nat),ap T L g rs s a b=false->ap T L g rs s b c=false->ap T L g rs s a c=false
 |0,a,b,c,h1,h2=>by
  simp only[ap,bne_eq_false_iff_eq]at h1 h2 ⊢
  rw[h1,h2]
 |s+1,a,b,c,h1,h2=>by
  obtain⟨x1,x2⟩:=nF h1
  obtain⟨y1,y2⟩:=nF h2
  exact yT (F_ s a b c x1 y1) fun p hp=>F_ s _ _ _ (x2 p hp) (y2 p hp)
theorem nV{p:Nat×Nat×Nat}:p∈qH L rs↔p.1<L/\(p.2.1=0\/p.2.1=1)/\p.2.2∈rs:=by
 obtain⟨a,d,t⟩:=p
 unfold qH
 simp only[List.mem_flatMap,aT,a6,al,Prod.mk.injEq]
 constructor
 ·rintro⟨x,hx,⟨y,hy,rfl,rfl,rfl⟩|⟨y,hy,rfl,rfl,rfl⟩⟩
  ·exact⟨hx,.inl rfl,hy⟩
  ·exact⟨hx,.inr rfl,hy⟩
 ·rintro⟨h1,rfl|rfl,h3⟩
  ·exact⟨a,h1,.inl ⟨t,h3,rfl,rfl,rfl⟩⟩
  ·exact⟨a,h1,.inr ⟨t,h3,rfl,rfl,rfl⟩⟩
end
section
variable{g:Nat->Bool}{hd:Nat->Nat}
end
noncomputable def jJ:Nat->List KX->List (KX×W)
 |_,[]=>[]
 |n,k::ks=>(k,.int (n:Nat))::jJ (n+1) ks
theorem lK:∀(ks:List KX) (n:Nat),(jJ n ks).length=ks.length
 |[],_=>rfl
 |k::ks,n=>by simp only[jJ,bz,lK ks]
theorem vt(k:KX):∀(ks:List KX) (n:Nat),jJ n (ks++[k])=jJ n ks++[(k,.int ((n+ks.length:Nat):Int))]
 |[],n=>rfl
 |x::ks,n=>by
  simp only[List.cons_append,jJ,vt k ks,bz]
  rw[show n+1+ks.length=n+(ks.length+1) by omega]
theorem Db(p:KX×W)(l:List (KX×W))(k:KX):gR (p::l) k=if p.1=k then some p.2 else gR l k:=by
 unfold gR
 rw[bH]
 by_cases h:p.1=k
 ·rw[aw h];simp[h]
 ·rw[aC h];simp[h]
theorem jU(k:KX):∀(ks:List KX) (n:Nat),gR (jJ n ks) k=if k∈ks then some (.int ((n+ks.idxOf k:Nat):Int))else none
 |[],n=>rfl
 |x::ks,n=>by
  simp only[jJ]
  rw[Db]
  by_cases h:x=k
  ·subst h;simp
  ·rw[aC h,jU k ks]
   have e:(x::ks).idxOf k=ks.idxOf k+1:=by rw[List.idxOf_cons,show(x==k)=false from bP.mpr h];rfl
   rw[e]
   by_cases h2:k∈ks
   ·rw[aw h2,aw (ay _ h2)];rw[show n+1+ks.idxOf k=n+(ks.idxOf k+1) by omega]
   ·rw[aC h2,aC (by simp[h2];exact fun z=>h z.symm)]
theorem nG:∀l:List Int,fy (l.map W.int)=some l
 |[]=>rfl
 |z::l=>by simp only[aF,fy,nG l,fI]
theorem BK(l:List Int):k_ (.tup (l.map W.int))=some (.fl l):=by simp only[k_,nG]
theorem Jp(i:Int)(l:List Int):k_ (.tup [.int i,.tup (l.map W.int)])=some (.pr i l):=by
 simp only[k_,fy,Option.map_none,nG,fI]
theorem rQ(k:KX):k_ k.w=some k:=by
 cases k with
 |bo b=>rfl
 |fl l=>exact BK l
 |pr i l=>exact Jp i l
theorem Nw{k:KX}(h:∀p∈kvs,p.1.tag=k.tag)(hl:kvs.length<kE):(wd kvs k||EJ kvs k)=true:=by
 unfold wd EJ yg
 have a:(kvs.all fun p=>p.1.tag==k.tag)=true:=by rw[d9];intro p hp;rw[h p hp];simp
 by_cases z:k.tag=0
 ·have b:(kvs.all fun p=>p.1.tag==0)=true:=by rw[d9];intro p hp;rw[h p hp,z];simp
  rw[b];simp[z];exact hl
 ·rw[a];simp[z];exact hl
theorem tU:∀{ks:List KX} {n:Nat} {p:KX×W},p∈jJ n ks->p.1∈ks
 |k::ks,n,p,h=>by
  rcases aK.mp h with rfl|h
  ·exact aM
  ·exact ay _ (tU h)
section
variable{st:List ah}{fk fd:FE}{y z:W}{k:KX}
theorem BL(h1:fo ρ st=.ok (.loc n) st)(hd:eO st (.loc n)=some (n,kvs))(h2:fk ρ st=.ok y st)(hk:k_ y=some k)(h3:fd ρ st=.ok z st)(ok:(wd kvs k||EJ kvs k)=true) :
  wg fo fk fd ρ st=match gR kvs k with|some w=>.ok w st|none=>.ok z (st.set n (.dcx (n5 kvs k z))):=by
 unfold wg
 rw[h1];simp only[R.bind_ok,hd]
 rw[h2];simp only[R.bind_ok]
 rw[h3];simp only[R.bind_ok,hd,hk,ok,dS]
 all_goals rfl
theorem KW{w:W}(hd:eO st (.loc n)=some (n,kvs))(hk:k_ y=some k)(ok:(wd kvs k||EJ kvs k)=true)(hg:gR kvs k=some w):EK (.loc n) y st=.ok w st:=by
 unfold EK
 simp only[hd,hk,ok,dS,hg,bE]
theorem F'(hd:eO st (.loc n)=some (n,kvs))(hl:kvs.length<=kE):u5 [.loc n] st=.ok (.int kvs.length) st:=by
 unfold u5;simp only[hd];rw[aw hl]
end
def tV:List KX->ah
 |[]=>.dct []
 |k::ks=>.dcx (jJ 0 (k::ks))
theorem BM{st:List ah}{ks:List KX}(h:st[n]?=some (tV ks)):eO st (.loc n)=some (n,jJ 0 ks):=by
 unfold eO
 simp only[h]
 cases ks<;>rfl
theorem Ga{ks:List KX}{a b:KX}(ha:a∈ks)(h:ks.idxOf a=ks.idxOf b):a=b:=by
 have hl:=jR ha
 have e1:ks[ks.idxOf a]?=some a:=by rw[ae hl];simp
 have hl2:ks.idxOf b<ks.length:=by omega
 have e2:ks[ks.idxOf b]?=some b:=by rw[ae hl2];simp
 rw[h,e2]at e1;cases e1;rfl
abbrev jN(B:Nat->Nat)(l:List Nat):List (DK×W):=dI (fun a:Nat=>a) (fun a=>W.int (B a:Nat)) l
theorem fj{a b:List ah}(h:cY a)(h2:cY b):cY (a++b):=fun d hd=>by
 rcases a6.mp hd with z|z
 ·exact h d z
 ·exact h2 d z
theorem rR{a:ah}{b:List ah}(h:∀c,mK c a=false)(h2:cY b):cY (a::b):=fun d hd=>by
 rcases aK.mp hd with z|z
 ·rw[z];exact h
 ·exact h2 d z
theorem tX:cY []:=fun d hd=>by cases hd
theorem QU(ks:List KX):cY [tV ks]:=rR (fun c=>by cases ks<;>rfl) tX
noncomputable def kD(kf:Nat->KX)(l:List Nat):List KX:=l.foldl (fun ks a=>if kf a∈ks then ks else ks++[kf a]) []
theorem wP(kf:Nat->KX)(l:List Nat)(a:Nat):kD kf (l++[a])=if kf a∈kD kf l then kD kf l else kD kf l++[kf a]:=by unfold kD;rw[List.foldl_append];rfl
theorem qX{st:List ah}{r q:Nat}{kvs:List (DK×W)}{kf:Nat->KX}{tg:Nat}(hr:st[r]?=some (.lst (rs.map fun a=>W.int (a:Nat))))(hq:st[q]?=some (.dct kvs))(hk:∀a∈rs,jL kvs (.i (a:Nat))=some (kf a).w)(ht:∀a∈rs,(kf a).tag=tg)(kG:rs.Nodup)(hl:rs.length<=1000) :
  ∃(B:Nat->Nat) (c:ah),(∀a∈rs,∀b∈rs,(B a=B b↔kf a=kf b))/\(B=fun a=>(kD kf rs).idxOf (kf a))/\cY [c]/\C5 [.loc r,.loc q] st=.ok (.loc (st.length+1)) (st++[c,.dct (jN B rs)]):=by
 suffices hh:hU (yw fun w bL=>∃j x,w=.loc (st.length+j)/\bL=st++x/\∃(B:Nat->Nat) (c:ah),(∀a∈rs,∀b∈rs,(B a=B b↔kf a=kf b))/\(B=fun a=>(kD kf rs).idxOf (kf a))/\cY [c]/\j=1/\x=[c,.dct (jN B rs)]) (Qw ([W.loc r,.loc q].map some++List.replicate (5-2) none) st) by
  obtain⟨j,x,⟨B,c,h1,hB,hp,rfl,rfl⟩,e⟩:=kO hh
  exact⟨B,c,h1,hB,hp,e⟩
 have hrl:=(aa.mp hr).1
 have hql:=(aa.mp hq).1
 apply aS
 ·exact cx rfl
 apply aS
 ·exact cx rfl
 refine dy (k:=(rs.map fun a=>W.int (a:Nat),some (r,rs.map fun a=>W.int (a:Nat)))) (fun i ρ s=>∃(ks:List KX) (o4:Option W),ks=kD kf (rs.take i)/\ks.Nodup/\ks.length<=i/\(∀k∈ks,k.tag=tg)/\(∀a∈rs.take i,kf a∈ks) /\
   ρ=[some (.loc r),some (.loc q),some #[5],some (.loc (st.length+1)),o4]/\s=st++[tV ks,.dct (jN (fun a=>ks.idxOf (kf a)) (rs.take i))]) (gy kv (aR (ax (ax hr)))) ?_ ?_ ?_ ?_
 ·refine⟨[],none,by simp[kD],.nil,cJ _,fun _ h=>(by cases h),fun a h=>(by simp at h),?_,?_⟩
  ·simp
  ·simp[tV,dI]
 ·rintro i ρ s ⟨ks,o4,_,_,_,_,_,rfl,rfl⟩
  exact aR (ax hr)
 ·rintro i w ρ s hw ⟨ks,o4,h0,h1,h2,h3,h4,rfl,rfl⟩
  rw[ak]at hw
  obtain⟨a,ha,rfl⟩:=a_.mp hw
  have hi:i<rs.length:=(aa.mp ha).1
  have ham:a∈rs:=ao ha
  have w9:rs.take (i+1)=rs.take i++[a]:=by rw[gF,ha];rfl
  have hant:a∉rs.take i:=fun z=>by
   have:(rs.take (i+1)).Nodup:=kG.sublist (gA _ _)
   rw[w9,c_]at this
   exact this.2.2 a z a #[7] rfl
  refine⟨_,rfl,?_⟩
  generalize hs:st++[tV ks,.dct (jN (fun a=>ks.idxOf (kf a)) (rs.take i))]=s
  have c2:s[st.length]?=some (tV ks):=by rw[<- hs,cv];rfl
  have c3:s[st.length+1]?=some (.dct (jN (fun a=>ks.idxOf (kf a)) (rs.take i))):=by rw[<- hs,eA];rfl
  have cq:s[q]?=some (.dct kvs):=by rw[<- hs];exact ax hq
  have hd:=BM c2
  have ix:∀{s':List ah},s'[q]?=some (.dct kvs)->lE (.loc q) (.int (a:Nat)) s'=.ok (kf a).w s':=fun z=>pS (gf z) (hk a ham)
  have okk:∀G5:List KX,(∀k∈G5,k.tag=tg)->G5.length<=i+1->(wd (jJ 0 G5) (kf a)||EJ (jJ 0 G5) (kf a))=true:=fun G5 z1 z2=>Nw (fun p hp=>by rw[z1 _ (tU hp),ht a ham]) (by rw[lK];show _<1000000;omega)
  have hb:∀f:Nat->W,(f a)=(fun x=>f x) a:=fun f=>rfl
  have put:∀(G5:List KX) (s':List ah),s'[st.length+1]?=some (.dct (jN (fun a=>G5.idxOf (kf a)) (rs.take i)))->kN (.loc (st.length+1)) (.int (a:Nat)) (.int (G5.idxOf (kf a):Nat)) s'=some (s'.set (st.length+1) (.dct (jN (fun a=>G5.idxOf (kf a)) (rs.take (i+1))))):=fun G5 s' z=>by
   rw[wN z (by rw[nE,bf];show _<1000000;omega),w9]
   congr 3
   exact wK (f:=fun a:Nat=>a) (g:=fun a=>W.int (G5.idxOf (kf a):Nat)) (a:=a) (by simpa using hant)
  by_cases hm:kf a∈ks
  ·apply aS
   ·refine hJ (w:=.int ((0+ks.idxOf (kf a):Nat):Int)) (st1:=s) ?_
    rw[BL kv hd (bT kv kv (ix cq)) (rQ _) (bu kn (F' hd (by rw[lK];show _<=1000000;omega))) (okk ks h3 #[0]),jU,aw hm]
   refine⟨_,_,qT (bT kv (bT kv kv (ix cq)) (KW hd (rQ _) (okk ks h3 #[0]) (by rw[jU,aw hm]))) kv kv (by rw[fN];exact put ks s c3),ks,_,by rw[w9,wP,<- h0,aw hm],h1,by omega,h3,fun b hb=>?_,rfl,?_⟩
   ·rw[w9]at hb
    rcases a6.mp hb with z|z
    ·exact h4 b z
    ·simp at z;subst z;exact hm
   ·rw[<- hs,gv _ _ #[0],show st.length+1-st.length=1 by omega];rfl
  ·have wW:s.set st.length (.dcx (jJ 0 (ks++[kf a])))=st++[tV (ks++[kf a]),.dct (jN (fun a=>ks.idxOf (kf a)) (rs.take i))]:=by
    rw[<- hs,gv _ _ #[0],qf]
    have:tV (ks++[kf a])=.dcx (jJ 0 (ks++[kf a])):=by cases ks<;>rfl
    rw[this];rfl
   apply aS
   ·refine hJ (w:=.int (ks.length:Nat)) (st1:=s.set st.length (.dcx (jJ 0 (ks++[kf a])))) ?_
    rw[BL kv hd (bT kv kv (ix cq)) (rQ _) (bu kn (F' hd (by rw[lK];show _<=1000000;omega))) (okk ks h3 #[0]),jU,aC hm]
    simp only[lK]
    congr 3
    unfold n5
    rw[jU,aC hm,vt,fN];rfl
   rw[wW]
   have bks:jN (fun b=>ks.idxOf (kf b)) (rs.take i)=jN (fun b=>(ks++[kf a]).idxOf (kf b)) (rs.take i):=by
    unfold jN dI
    refine bb fun b hb=>?_
    show(DK.i (b:Nat),W.int ((ks.idxOf (kf b):Nat):Int))=(DK.i (b:Nat),W.int (((ks++[kf a]).idxOf (kf b):Nat):Int))
    rw[kX,aw (h4 b hb)]
   rw[bks]
   have h3':∀k∈ks++[kf a],k.tag=tg:=fun k hk=>by
    rcases a6.mp hk with z|z
    ·exact h3 k z
    ·simp at z;subst z;exact ht a ham
   have hm':kf a∈ks++[kf a]:=by simp
   generalize hs':st++[tV (ks++[kf a]),.dct (jN (fun b=>(ks++[kf a]).idxOf (kf b)) (rs.take i))]=s'
   have c2':s'[st.length]?=some (tV (ks++[kf a])):=by rw[<- hs',cv];rfl
   have c3':s'[st.length+1]?=some (.dct (jN (fun b=>(ks++[kf a]).idxOf (kf b)) (rs.take i))):=by rw[<- hs',eA];rfl
   have cq':s'[q]?=some (.dct kvs):=by rw[<- hs'];exact ax hq
   have hd':=BM c2'
   refine⟨_,_,qT (bT kv (bT kv kv (ix cq')) (KW hd' (rQ _) (okk (ks++[kf a]) h3' (by simp;omega)) (by rw[jU,aw hm']))) kv kv (by rw[fN];exact put (ks++[kf a]) s' c3'),ks++[kf a],_,by rw[w9,wP,<- h0,aC hm],?_,by simp;omega,h3',fun b hb=>?_,rfl,?_⟩
   ·rw[c_]
    exact⟨h1,by simp,fun x hx y hy z=>by simp at hy;subst hy;subst z;exact hm hx⟩
   ·rw[w9]at hb
    rcases a6.mp hb with z|z
    ·exact cP _ (h4 b z)
    ·simp at z;subst z;exact hm'
   ·rw[<- hs',j3];rfl
 ·rintro ρ s ⟨ks,o4,h0,h1,h2,h3,h4,rfl,rfl⟩
  rw[ai,eY]at h4 h0 ⊢
  refine⟨_,_,oz kv,1,_,rfl,rfl,fun a=>ks.idxOf (kf a),tV ks,fun a ha b hb=>⟨fun z=>Ga (h4 a ha) z,fun z=>by simp only[z]⟩,by rw[h0],QU ks,rfl,rfl⟩
structure qI(rs:List Nat)(B:Nat->Nat)(m:Nat)(h:Nat->Nat):Prop where
 hd:∀j,j<m->∃x,rs[h j]?=some x/\B x=j
 fst:∀i a,rs[i]?=some a->B a<m/\h (B a)<=i
 up:∀j k,j<k->k<m->h j<h k
theorem wQ{ks:List KX}{k:KX}(h:k∈ks):ks.idxOf k<ks.length:=jR h
theorem Gb(kf:Nat->KX):∀(n:Nat) (l:List Nat),l.length=n->(∀a∈l,kf a∈kD kf l)/\∃h,qI l (fun a=>(kD kf l).idxOf (kf a)) (kD kf l).length h:=by
 intro n
 induction n with
 |zero=>
  intro l hl
  obtain rfl:=lR.mp hl
  exact⟨fun a h=>(by cases h),fun _=>0,fun j h=>absurd h (cE _),fun i a h=>(by cases h),fun j k _ h=>absurd h (cE _)⟩
 |succ n ih=>
  intro l0 hl0
  obtain e0|⟨l,x,e0⟩:=List.eq_nil_or_concat l0
  ·rw[e0]at hl0;cases hl0
  rw[List.concat_eq_append]at e0
  subst e0
  have hln:l.length=n:=by rw[aN,i4]at hl0;omega
  obtain⟨hm,h,c⟩:=ih l hln
  have ju:∀j,j<(kD kf l).length->h j<l.length:=fun j hj=>by
   obtain⟨y,hy,_⟩:=c.hd j hj
   exact(aa.mp hy).1
  have atx:∀{i a},(l++[x])[i]?=some a->(i<l.length/\l[i]?=some a)\/(i=l.length/\a=x):=fun{i a} e=>by
   rcases ca i l.length with z|z
   ·rw[av z]at e;exact .inl ⟨z,e⟩
   ·have:i=l.length:=by have:=(aa.mp e).1;rw[aN,i4]at this;omega
    subst this
    rw[bR]at e
    exact .inr ⟨rfl,(aU e).symm⟩
  rw[wP]
  by_cases hx:kf x∈kD kf l
  ·rw[aw hx]
   refine⟨fun a ha=>?_,h,fun j hj=>?_,fun i a e=>?_,c.up⟩
   ·rcases a6.mp ha with z|z
    ·exact hm a z
    ·rw[bj.mp z];exact hx
   ·obtain⟨y,h1,h2⟩:=c.hd j hj
    exact⟨y,by rw[av (ju j hj)];exact h1,h2⟩
   ·rcases atx e with⟨_,e⟩|⟨rfl,rfl⟩
    ·exact c.fst i a e
    ·exact⟨wQ hx,dh (ju _ (wQ hx))⟩
  ·rw[aC hx]
   have old:∀{k:KX},k∈kD kf l->(kD kf l++[kf x]).idxOf k=(kD kf l).idxOf k:=fun{k} hk=>by rw[kX,aw hk]
   have new:(kD kf l++[kf x]).idxOf (kf x)=(kD kf l).length:=by rw[kX,aC hx];simp
   have len:(kD kf l++[kf x]).length=(kD kf l).length+1:=by simp
   refine⟨fun a ha=>?_,fun j=>if j<(kD kf l).length then h j else l.length,fun j hj=>?_,fun i a e=>?_,fun j k hjk hk=>?_⟩
   ·rcases a6.mp ha with z|z
    ·exact cP _ (hm a z)
    ·rw[bj.mp z];simp
   ·by_cases z:j<(kD kf l).length
    ·obtain⟨y,h1,h2⟩:=c.hd j z
     have hy:kf y∈kD kf l:=hm y (ao h1)
     refine⟨y,?_,?_⟩
     ·show(l++[x])[if j<(kD kf l).length then h j else l.length]?=some y
      rw[aw z,av (ju j z)];exact h1
     ·show(kD kf l++[kf x]).idxOf (kf y)=j
      rw[old hy];exact h2
    ·have:j=(kD kf l).length:=by rw[len]at hj;omega
     refine⟨x,?_,?_⟩
     ·show(l++[x])[if j<(kD kf l).length then h j else l.length]?=some x
      rw[aC z,bR]
     ·show(kD kf l++[kf x]).idxOf (kf x)=j
      rw[new,this]
   ·show(kD kf l++[kf x]).idxOf (kf a)<_/\(if (kD kf l++[kf x]).idxOf (kf a)<(kD kf l).length then h ((kD kf l++[kf x]).idxOf (kf a))else l.length)<=i
    rcases atx e with⟨_,e⟩|⟨rfl,rfl⟩
    ·have hy:kf a∈kD kf l:=hm a (ao e)
     rw[old hy,aw (wQ hy),len]
     have:=c.fst i a e
     exact⟨gC this.1,this.2⟩
    ·rw[new,aC (bx _),len]
     exact⟨jg _,au _⟩
   ·show(if j<(kD kf l).length then h j else l.length)<(if k<(kD kf l).length then h k else l.length)
    rw[len]at hk
    have hj:j<(kD kf l).length:=by omega
    rw[aw hj]
    by_cases z:k<(kD kf l).length
    ·rw[aw z];exact c.up j k hjk z
    ·rw[aC z];exact ju j hj
theorem Gc{m':Nat}{h h':Nat->Nat}(c:qI rs B m h)(c':qI rs B' m' h')(e:∀a∈rs,∀b∈rs,(B a=B b↔B' a=B' b)):∀a∈rs,B a=B' a:=by
 have same:∀a∈rs,h (B a)=h' (B' a):=by
  have half:∀{B B':Nat->Nat} {m m':Nat} {h h':Nat->Nat},qI rs B m h->qI rs B' m' h'->(∀a∈rs,∀b∈rs,(B a=B b↔B' a=B' b))->∀a∈rs,h' (B' a)<=h (B a):=fun{B B' m m' h h'} c c' e a ha=>by
   obtain⟨i,hi⟩:=a9 ha
   obtain⟨x,h1,h2⟩:=c.hd (B a) (c.fst i a hi).1
   have:=(c'.fst _ x h1).2
   rw[(e x (ao h1) a ha).mp h2]at this
   exact this
  exact fun a ha=>gp (half c' c (fun a ha b hb=>(e a ha b hb).symm) a ha) (half c c' e a ha)
 have inj:∀{B:Nat->Nat} {m:Nat} {h:Nat->Nat},qI rs B m h->∀{j k},j<m->k<m->h j=h k->j=k:=fun{B m h} c {j k} hj hk z=>by
  rcases iT j k with y|y|y
  ·have:=c.up j k y hk;omega
  ·exact y
  ·have:=c.up k j y hj;omega
 have key:∀j,j<m->j<m'/\h j=h' j:=by
  intro j
  induction j using Nat.strongRecOn with
  |_ j ih=>
   intro hj
   obtain⟨x,x1,x2⟩:=c.hd j hj
   have hx:=ao x1
   have sx:=same x hx
   rw[x2]at sx
   have km:=(c'.fst _ x x1).1
   rcases iT (B' x) j with z|z|z
   ·obtain⟨_,i2⟩:=ih (B' x) z #[0]
    have:=inj c #[0] hj (i2.trans sx.symm)
    omega
   ·rw[z]at sx km
    exact⟨km,sx⟩
   ·obtain⟨y,y1,y2⟩:=c'.hd j #[0]
    have hy:=ao y1
    have sy:=same y hy
    rw[y2]at sy
    have u:=c'.up j (B' x) z km
    have bm:=(c.fst _ y y1).1
    have lt:B y<j:=by
     rcases ca (B y) j with w|w
     ·exact w
     ·rcases kA w with w|w
      ·rw[<- w]at sy;omega
      ·have:=c.up j (B y) w bm;omega
    obtain⟨q1,q2⟩:=ih (B y) lt bm
    have:=inj c' q1 (by omega:j<m') (q2.symm.trans sy)
    omega
 intro a ha
 obtain⟨i,hi⟩:=a9 ha
 obtain⟨k1,k2⟩:=key (B a) (c.fst i a hi).1
 exact inj c' k1 (c'.fst i a hi).1 (k2.symm.trans (same a ha))
noncomputable abbrev dg(rs:List Nat):List W:=rs.map fun a=>W.int (a:Nat)
abbrev vD(V:Nat->W)(l:List Nat):List (DK×W):=dI (fun a:Nat=>a) V l
theorem ld{V:Nat->W}{a:Nat}(hn:l.Nodup)(h:a∈l):jL (vD V l) (.i (a:Nat))=some (V a):=F4 (f:=fun a:Nat=>a) (g:=V) (by simpa using hn) h
theorem nW{a:Nat}(kG:rs.Nodup)(ha:rs[i]?=some a):i<rs.length/\a∈rs/\rs.take (i+1)=rs.take i++[a]/\a∉rs.take i:=by
 have w9:rs.take (i+1)=rs.take i++[a]:=by rw[gF,ha];rfl
 refine⟨(aa.mp ha).1,ao ha,w9,fun z=>?_⟩
 have:(rs.take (i+1)).Nodup:=kG.sublist (gA _ _)
 rw[w9,c_]at this
 exact this.2.2 a z a #[7] rfl
theorem Gd{V:Nat->W}{a:Nat}{s:List ah}(kG:rs.Nodup)(ha:rs[i]?=some a)(hl:rs.length<=1000)(hs:s[n]?=some (.dct (vD V (rs.take i)))):kN (.loc n) (.int (a:Nat)) (V a) s=some (s.set n (.dct (vD V (rs.take (i+1))))):=by
 obtain⟨_,_,w9,hant⟩:=nW kG ha
 rw[wN hs (by rw[nE,bf];show _<1000000;omega),w9]
 congr 3
 exact wK (f:=fun a:Nat=>a) (g:=V) (a:=a) (by simpa using hant)
theorem yU{st:List ah}{r rv dv iv:Nat}{V:Nat->W}{e:FE}{P:RS->Prop}{rest:FS}(hr:st[r]?=some (.lst (dg rs)))(kG:rs.Nodup)(hl:rs.length<=1000)
  (Uv:∀o,(ρ.set iv o)[rv]?=some (some (.loc r))) (Uk:∀o,(ρ.set iv o)[dv]?=some (some #[5])) (T8:iv<ρ.length)
  (he:∀a∈rs,∀c,e (ρ.set iv (some (.int (a:Nat)))) (st++[c])=.ok (V a) (st++[c]))
  (uf:∀o,hU P (rest (ρ.set iv o) (st++[.dct (vD V rs)]))) :
  hU P (a7 (fg (ce (ag rv)) (eG iv) (rf (ag dv) (ag iv) e kN)) rest ρ (st++[.dct []])):=by
 have h0:ρ=ρ.set iv ρ[iv]:=by simp
 refine dy (k:=(dg rs,some (r,dg rs))) (fun i ρ' s=>∃o,ρ'=ρ.set iv o/\s=st++[.dct (vD V (rs.take i))]) (gy (iC (by have:=Uv ρ[iv];rwa[<- h0]at this)) (aR (ax hr))) ⟨_,h0,rfl⟩ ?_ ?_ ?_
 ·rintro i ρ' s ⟨o,rfl,rfl⟩
  exact aR (ax hr)
 ·rintro i w ρ' s hw ⟨o,rfl,rfl⟩
  rw[ak]at hw
  obtain⟨a,ha,rfl⟩:=a_.mp hw
  obtain⟨hi,ham,_,_⟩:=nW kG ha
  refine⟨ρ.set iv (some (.int (a:Nat))),?_,?_⟩
  ·show eG iv _ _=_
   unfold eG
   simp[T8]
  ·refine⟨_,_,qT (he a ham _) (iC (Uk _)) (iC (by rw[bB T8])) (Gd kG ha hl bK),_,rfl,?_⟩
   rw[eJ];rfl
 ·rintro ρ' s ⟨o,rfl,rfl⟩
  rw[ai,eY]
  exact uf o
noncomputable def gM(M:Mc)(a:Nat):Bool:=M.gd.getD a false
theorem Jq{M:Mc}{st:List ah}{r:Nat}(hM:oX M N)(hr:st[r]?=some (.lst (dg rs)))(R6:∀a∈rs,a<N)(kG:rs.Nodup)(hl:rs.length<=1000) :
  ∃(B:Nat->Nat) (x:List ah),(∀a∈rs,∀b∈rs,(B a=B b↔gM M a=gM M b))/\(∃m h,qI rs B m h)/\cY x/\x[2]?=some (.dct (jN B rs))/\I0 [M.w,.loc r] st=.ok (.loc (st.length+2)) (st++x):=by
 suffices hh:hU (yw fun w bL=>∃j x,w=.loc (st.length+j)/\bL=st++x/\j=2/\∃(B:Nat->Nat),(∀a∈rs,∀b∈rs,(B a=B b↔gM M a=gM M b))/\(∃m h,qI rs B m h)/\cY x/\x[2]?=some (.dct (jN B rs))) (Qy ([M.w,.loc r].map some++List.replicate (4-2) none) st) by
  obtain⟨j,x,⟨rfl,B,h1,hc,hp,h2⟩,e⟩:=kO hh
  exact⟨B,x,h1,hc,hp,h2,e⟩
 apply aS
 ·exact cx rfl
 refine yU (V:=fun a=>W.bl (gM M a)) hr kG hl (fun o=>rfl) (fun o=>rfl) #[7] (fun a ha c=>?_) fun o=>?_
 ·refine bT kx kv (gk (eM ?_))
  rw[ak,ae (by rw[hM.gd];exact R6 a ha)]
  simp[gM,aD,ae (show a<M.gd.length by rw[hM.gd];exact R6 a ha)]
 ·obtain⟨B,c,hB,hk,hp,e⟩:=qX (st:=st++[.dct (vD (fun a=>W.bl (gM M a)) rs)]) (r:=r) (q:=st.length) (rs:=rs) (kf:=fun a=>.bo (gM M a)) (tg:=0) (ax hr) bK (fun a ha=>ld kG ha) (fun _ _=>rfl) kG hl
  refine⟨_,_,oz (dz (aA kv kn) e rfl),2,[.dct (vD (fun a=>W.bl (gM M a)) rs),c,.dct (jN B rs)],by simp,by simp,rfl,B,fun a ha b hb=>?_,by rw[hk];exact⟨_,(Gb _ _ rs rfl).2⟩,rR (fun _=>rfl) (fj hp (rR (fun _=>rfl) tX)),rfl⟩
  rw[hB a ha b hb]
  simp
theorem Ge{st:List ah}{r b v:Nat}{vw:Nat->List Int}(hr:st[r]?=some (.lst (dg rs)))(hb:st[b]?=some (.dct (jN B rs)))(hv:st[v]?=some (.dct (vD (fun a=>.tup ((vw a).map W.int)) rs)))(kG:rs.Nodup)(hl:rs.length<=1000) :
  ∃(B':Nat->Nat) (x:List ah),(∀a∈rs,∀b∈rs,(B' a=B' b↔B a=B b/\vw a=vw b))/\(∃m h,qI rs B' m h)/\cY x/\x[2]?=some (.dct (jN B' rs))/\C7 [.loc r,.loc b,.loc v] st=.ok (.loc (st.length+2)) (st++x):=by
 suffices hh:hU (yw fun w bL=>∃j x,w=.loc (st.length+j)/\bL=st++x/\j=2/\∃(B':Nat->Nat),(∀a∈rs,∀b∈rs,(B' a=B' b↔B a=B b/\vw a=vw b))/\(∃m h,qI rs B' m h)/\cY x/\x[2]?=some (.dct (jN B' rs))) (QD ([W.loc r,.loc b,.loc v].map some++List.replicate (5-3) none) st) by
  obtain⟨j,x,⟨rfl,B,h1,hc,hp,h2⟩,e⟩:=kO hh
  exact⟨B,x,h1,hc,hp,h2,e⟩
 apply aS
 ·exact cx rfl
 refine yU (V:=fun a=>(KX.pr (B a:Nat) (vw a)).w) hr kG hl (fun o=>rfl) (fun o=>rfl) #[7] (fun a ha c=>?_) fun o=>?_
 ·exact lH (aA (bT kv kv (pS (gf (ax hb)) (ld kG ha))) (aA (bT kv kv (pS (gf (ax hv)) (ld kG ha))) bF)) (by show 2<=1000000;decide)
 ·obtain⟨B',c,hB,hk,hp,e⟩:=qX (st:=st++[.dct (vD (fun a=>(KX.pr (B a:Nat) (vw a)).w) rs)]) (r:=r) (q:=st.length) (rs:=rs) (kf:=fun a=>.pr (B a:Nat) (vw a)) (tg:=2) (ax hr) bK (fun a ha=>ld kG ha) (fun _ _=>rfl) kG hl
  refine⟨_,_,oz (dz (aA kv kn) e rfl),2,[.dct (vD (fun a=>(KX.pr (B a:Nat) (vw a)).w) rs),c,.dct (jN B' rs)],by simp,by simp,rfl,B',fun a ha b hb=>?_,by rw[hk];exact⟨_,(Gb _ _ rs rfl).2⟩,rR (fun _=>rfl) (fj hp (rR (fun _=>rfl) tX)),rfl⟩
  rw[hB a ha b hb,KX.pr.injEq]
  exact⟨fun z=>⟨by omega,z.2⟩,fun z=>⟨by rw[z.1],z.2⟩⟩
theorem Gf{st:List ah}{zs ys:List W}(h:st[n]?=some (.lst zs))(h2:st[m]?=some (.lst ys))(hl:zs.length+ys.length<=1000000):jX (.loc n) [.loc m] st=.ok .non (st.set n (.lst (zs++ys))):=by
 unfold jX pH
 simp only[h,h2,aR h2,bE]
 rw[aw hl]
noncomputable def Gg:W->Nat
 |.int z=>z.toNat
 |_=>0
theorem tY(a:Nat):Gg (.int (a:Nat))=a:=by show((a:Int)).toNat=a;omega
theorem Gh(rs:List Nat)(f:Nat->W):(dg rs).map (fun w=>f (Gg w))=rs.map f:=by
 unfold dg;rw[aH];exact bb fun a _=>by show f (Gg (.int (a:Nat)))=f a;rw[tY]
theorem Gi{w:W}(h:w∈dg rs):∃a∈rs,w=.int (a:Nat):=by
 obtain⟨a,ha,rfl⟩:=al.mp h;exact⟨a,ha,rfl⟩
def yV(M:Mc)(rs:List Nat)(B:Nat->Nat)(a:Nat):List Int:=(qH M.tb.length rs).map fun p=>((B (led (bg M) p a):Nat):Int)
structure Rm(M:Mc)(N:Nat)(rs:List Nat):Prop where
 ok:oX M N
 lt:∀a∈rs,a<N
 nd:rs.Nodup
 len:rs.length<=100
 sz:M.tb.length*(2*rs.length)<=10000
 cl:∀k,k<M.tb.length->∀a∈rs,∀b∈rs,bg M k a b∈rs
theorem Gj{M:Mc}{st:List ah}{r b:Nat}(hM:Rm M N rs)(hr:st[r]?=some (.lst (dg rs)))(hb:st[b]?=some (.dct (jN B rs))) :
  ∃x:List ah,cY x/\x[0]?=some (.dct (vD #[15] rs))/\C6 [M.w,.loc r,.loc b] st=.ok #[5] (st++x):=by
 suffices hh:hU (yw fun w bL=>∃j x,w=.loc (st.length+j)/\bL=st++x/\j=0/\cY x/\x[0]?=some (.dct (vD #[15] rs))) (QB ([M.w,.loc r,.loc b].map some++List.replicate (7-3) none) st) by
  obtain⟨j,x,⟨rfl,hp,h1⟩,e⟩:=kO hh
  exact⟨x,hp,h1,e⟩
 have d7:=hM.len
 apply aS
 ·exact cx rfl
 refine dy (k:=(dg rs,some (r,dg rs))) (fun i ρ s=>∃x o4 o5 o6,cY x/\ρ=[some M.w,some (.loc r),some (.loc b),some #[5],o4,o5,o6]/\s=st++.dct (vD #[15] (rs.take i))::x) (gy kv (aR (ax hr))) ⟨[],none,none,none,tX,rfl,rfl⟩ ?_ ?_ ?_
 ·rintro i ρ' s ⟨x,o4,o5,o6,_,rfl,rfl⟩
  exact aR (ax hr)
 ·rintro i w ρ' s hw ⟨x,o4,o5,o6,npx,rfl,rfl⟩
  rw[ak]at hw
  obtain⟨a,ha,rfl⟩:=a_.mp hw
  obtain⟨hi,ham,_,_⟩:=nW hM.nd ha
  refine⟨_,rfl,?_⟩
  have c3:(st++.dct (vD #[15] (rs.take i))::x)[st.length]?=some (.dct (vD #[15] (rs.take i))):=by rw[cv];rfl
  have cr:(st++.dct (vD #[15] (rs.take i))::x)[r]?=some (.lst (dg rs)):=ax hr
  have cb:(st++.dct (vD #[15] (rs.take i))::x)[b]?=some (.dct (jN B rs)):=ax hb
  have hss:∀(y:List ah) (c:ah),cY y->∃x',cY x'/\(st++.dct (vD #[15] (rs.take i))::x++y).set st.length c=st++c::x':=fun y c npy=>⟨x++y,fj npx npy,by rw[az,eJ];rfl⟩
  generalize st++.dct (vD #[15] (rs.take i))::x=s0 at c3 cr cb hss
  apply aS
  ·exact cx (nC bF (cJ _))
  refine dy (k:=(M.tb.map dA,none)) (fun k ρ s=>∃y o6,cY y/\ρ=[some M.w,some (.loc r),some (.loc b),some #[5],some (.int (a:Nat)),some (.loc s0.length),o6]/\s=s0++.lst ((qH k rs).map fun p=>W.int (B (led (bg M) p a):Nat))::y) (gw kx) ⟨[],_,tX,rfl,rfl⟩ #[9] ?_ ?_
  ·rintro k w ρ' s hw ⟨y,o6,npy,rfl,rfl⟩
   rw[ak]at hw
   obtain⟨t,ht,rfl⟩:=a_.mp hw
   have hk:k<M.tb.length:=(aa.mp ht).1
   refine⟨_,rfl,?_⟩
   have qK:(qH k rs).length<=10000:=by
    rw[Jo]
    refine a8 (Nat.mul_le_mul_right _ (dh hk)) hM.sz
   have c5:(s0++.lst ((qH k rs).map fun p=>W.int (B (led (bg M) p a):Nat))::y)[s0.length]?=some (.lst ((qH k rs).map fun p=>W.int (B (led (bg M) p a):Nat))):=by rw[cv];rfl
   have cr':(s0++.lst ((qH k rs).map fun p=>W.int (B (led (bg M) p a):Nat))::y)[r]?=some (.lst (dg rs)):=ax cr
   have cb':(s0++.lst ((qH k rs).map fun p=>W.int (B (led (bg M) p a):Nat))::y)[b]?=some (.dct (jN B rs)):=ax cb
   apply aS
   ·refine hJ (rp kv (gT c5) (aA (fU (fun w=>W.int (B (bg M k a (Gg w)):Nat)) (gy kv (aR cr')) (by rw[ai];show _<=1000000;omega) (aR cr') fun w hw=>?_) bF) (Gf (ax c5) bK (by rw[ai,ai,ai];omega)))
    obtain⟨z,hz,rfl⟩:=Gi hw
    obtain⟨row,e1,e2,_⟩:=pU hM.ok ht (hM.lt a ham) (hM.lt z hz)
    rw[tY]
    exact⟨_,rfl,bT kv (bT (bT kv kv (pV e1)) kv (pW e2)) (pS (gf cb') (ld hM.nd (hM.cl k hk a ham z hz)))⟩
   rw[az,eJ,Gh rs fun t=>W.int (B (bg M k a t):Nat)]
   generalize hy:(y++[.lst (rs.map fun t=>W.int (B (bg M k a t):Nat))]:List ah)=y1
   generalize hL1:((qH k rs).map fun p=>W.int (B (led (bg M) p a):Nat))++(rs.map fun t=>W.int (B (bg M k a t):Nat))=L1
   have hl1:L1.length<=20000:=by rw[<- hL1];simp;omega
   show hU _ (ga _ _ (s0++.lst L1::(y++[_])))
   rw[hy]
   have c5':(s0++.lst L1::y1)[s0.length]?=some (.lst L1):=by rw[cv];rfl
   have cr2:(s0++.lst L1::y1)[r]?=some (.lst (dg rs)):=ax cr
   have cb2:(s0++.lst L1::y1)[b]?=some (.dct (jN B rs)):=ax cb
   refine⟨_,_,hJ (rp kv (gT c5') (aA (fU (fun w=>W.int (B (bg M k (Gg w) a):Nat)) (gy kv (aR cr2)) (by rw[ai];show _<=1000000;omega) (aR cr2) fun w hw=>?_) bF) (Gf (ax c5') bK (by rw[ai,ai];omega))),y1++[.lst (rs.map fun t=>W.int (B (bg M k t a):Nat))],_,fj (by rw[<- hy];exact fj npy (rR (fun _=>rfl) tX)) (rR (fun _=>rfl) tX),rfl,?_⟩
   ·obtain⟨z,hz,rfl⟩:=Gi hw
    obtain⟨row,e1,e2,_⟩:=pU hM.ok ht (hM.lt z hz) (hM.lt a ham)
    rw[tY]
    exact⟨_,rfl,bT kv (bT (bT kv kv (pV e1)) kv (pW e2)) (pS (gf cb2) (ld hM.nd (hM.cl k hk z hz a ham)))⟩
   ·rw[az,eJ,Gh rs fun t=>W.int (B (bg M k t a):Nat)]
    show s0++.lst (L1++_)::(y1++_)=s0++.lst _::_
    congr 3
    rw[F9,<- hL1]
    simp[led,aH,dJ]
  ·rintro ρ' s ⟨y,o6,npy,rfl,rfl⟩
   rw[ai]
   have c5:(s0++.lst ((qH M.tb.length rs).map fun p=>W.int (B (led (bg M) p a):Nat))::y)[s0.length]?=some (.lst ((qH M.tb.length rs).map fun p=>W.int (B (led (bg M) p a):Nat))):=by rw[cv];rfl
   have ev:W.tup ((qH M.tb.length rs).map fun p=>W.int (B (led (bg M) p a):Nat))=.tup ((yV M rs B a).map W.int):=by
    unfold yV;rw[aH];rfl
   obtain⟨x',npx',hx⟩:=hss (.lst ((qH M.tb.length rs).map fun p=>W.int (B (led (bg M) p a):Nat))::y) (.dct (vD #[15] (rs.take (i+1)))) (rR (fun _=>rfl) npy)
   refine⟨_,_,qT (bu kn (hW (aR c5))) kv kv (by rw[ev];exact Gd (V:=fun a=>.tup ((yV M rs B a).map W.int)) hM.nd ha #[0] (ax c3)),x',_,_,_,npx',rfl,hx⟩
 ·rintro ρ' s ⟨x,o4,o5,o6,npx,rfl,rfl⟩
  rw[ai,eY]
  exact⟨_,_,oz kv,0,_,rfl,rfl,rfl,rR (fun _=>rfl) npx,rfl⟩
theorem Jr{p:Nat×Nat×Nat}(h:p∈qH L rs):p.1<L/\p.2.2∈rs:=by
 unfold qH at h
 rw[List.mem_flatMap]at h
 obtain⟨a,ha,h⟩:=h
 have:=aT.mp ha
 rcases a6.mp h with h|h<;>(obtain⟨t,ht,rfl⟩:=al.mp h;exact⟨this,ht⟩)
section
variable{M:Mc}{s:Nat}
theorem Rm.led(hM:Rm M N rs){p:Nat×Nat×Nat}(hp:p∈qH M.tb.length rs){a:Nat}(ha:a∈rs):led (bg M) p a∈rs:=by
 obtain⟨h1,h2⟩:=Jr hp
 unfold P.led
 split
 ·exact hM.cl _ h1 _ ha _ h2
 ·exact hM.cl _ h1 _ h2 _ ha
abbrev Dd(M:Mc)(rs:List Nat)(s a b:Nat):Bool:=ap (bg M) M.tb.length (gM M) rs s a b
abbrev Nx(M:Mc)(rs:List Nat)(s:Nat):List (Nat×Nat):=Jm (bg M) M.tb.length (gM M) rs s
def Dt(M:Mc)(rs:List Nat)(s:Nat)(B:Nat->Nat):Prop:=∀a∈rs,∀b∈rs,(B a=B b↔Dd M rs s a b=false)
theorem QV(h:∀a∈rs,∀b∈rs,(B a=B b↔gM M a=gM M b)):Dt M rs 0 B:=fun a ha b hb=>by
 rw[h a ha b hb];unfold Dd ap;simp
theorem QW(hM:Rm M N rs)(h:Dt M rs s B)(h':∀a∈rs,∀b∈rs,(B' a=B' b↔B a=B b/\yV M rs B a=yV M rs B b)):Dt M rs (s+1) B':=fun a ha b hb=>by
 rw[h' a ha b hb,h a ha b hb]
 unfold yV
 rw[List.map_inj_left]
 constructor
 ·rintro⟨z1,z2⟩
  exact yT z1 fun p hp=>(h _ (hM.led hp ha) _ (hM.led hp hb)).mp (by have:=z2 p hp;omega)
 ·intro z
  obtain⟨z1,z2⟩:=nF z
  exact⟨z1,fun p hp=>by rw[(h _ (hM.led hp ha) _ (hM.led hp hb)).mpr (z2 p hp)]⟩
end
theorem Gk{f:cu->List ah->R Bool}{st a b:List ah}(h1:f ρ st=.ok false a)(h2:f ρ st=.ok true b):False:=by
 rw[h1]at h2;cases h2
theorem BN:∀{l:List Nat} {a b:Nat},a∈l->b∈l->a≠b->(a,b)∈lJ l\/(b,a)∈lJ l
 |[],_,_,h,_,_=>by cases h
 |x::r,a,b,ha,hb,hab=>by
  unfold lJ
  rcases aK.mp ha with z1|z1
  ·rcases aK.mp hb with z2|z2
   ·exact absurd (z1.trans z2.symm) hab
   ·exact .inl (cP _ (al.mpr ⟨b,z2,by rw[z1]⟩))
  ·rcases aK.mp hb with z2|z2
   ·exact .inr (cP _ (al.mpr ⟨a,z1,by rw[z2]⟩))
   ·rcases BN z1 z2 hab with z|z
    ·exact .inl (aW _ z)
    ·exact .inr (aW _ z)
theorem Gm{B B':Nat->Nat}(kG:rs.Nodup):∀l:List Nat,(∀a∈l,a∈rs)->yo (jN B rs) (jN B' l)=some (l.all fun a=>B' a==B a)
 |[],_=>rfl
 |a::l,h=>by
  have hg:jL (jN B rs) (.i (a:Nat))=some (.int (B a:Nat)):=ld (V:=fun a=>W.int (B a:Nat)) kG (h a #[7])
  have ih:=Gm (B:=B) (B':=B') kG l fun b hb=>h b (by simp[hb])
  show yo (jN B rs) ((DK.i (a:Nat),W.int (B' a:Nat))::jN B' l)=_
  unfold yo
  simp only[hg,ih,fI,lj]
  congr 2
  rw[ij,eN,eN]
  omega
theorem QX{st:List ah}{p q:Nat}(kG:rs.Nodup)(hp:st[p]?=some (.dct (jN B' rs)))(hq:st[q]?=some (.dct (jN B rs))):z7 (.loc p) (.loc q) st=.ok (.bl (!(rs.all fun a=>B' a==B a))) st:=by
 unfold z7
 rw[gf hp,gf hq]
 simp only[nE,dS]
 rw[Gm kG rs fun _ h=>h]
section
variable{M:Mc}
structure pY(M:Mc)(rs:List Nat)(B:Nat->Nat):Prop where
 can:∃m h,qI rs B m h
 ok:∃s,Dt M rs s B/\Dt M rs (s+1) B
theorem Ny{s:Nat}(c:∃m h,qI rs B m h)(c':∃m h,qI rs B' m h)(h:Dt M rs s B)(h':Dt M rs (s+1) B')(hn:Nx M rs (s+1)=[]):∀a∈rs,B a=B' a:=by
 obtain⟨m,hh,c⟩:=c
 obtain⟨m',hh',c'⟩:=c'
 refine Gc c c' fun a ha b hb=>?_
 rw[h a ha b hb,h' a ha b hb]
 have pr:∀a b,(a,b)∈lJ rs->Dd M rs s a b=false->Dd M rs (s+1) a b=false:=fun a b hp z=>by
  cases e:Dd M rs (s+1) a b with
  |false=>rfl
  |true=>
   have:(a,b)∈Nx M rs (s+1):=gn.mpr ⟨hp,by show((!Dd M rs s a b)&&Dd M rs (s+1) a b)=true;rw[z,e];rfl⟩
   rw[hn]at this;cases this
 constructor
 ·intro z
  by_cases hab:a=b
  ·subst hab;exact Am _ _
  ·rcases BN ha hb hab with y|y
   ·exact pr a b y z
   ·have:=pr b a y (by show ap _ _ _ _ _ _ _=_;rw[rP];exact z)
    show ap _ _ _ _ _ _ _=_
    rw[rP];exact this
 ·exact fun z=>(nF z).1
theorem tZ(hM:Rm M N rs){st:List ah}{r b:Nat}{s:Nat}(hr:st[r]?=some (.lst (dg rs)))(hb:st[b]?=some (.dct (jN B rs)))(h:Dt M rs s B){fv fr:FE}(e1:fv ρ st=.ok M.w st)(e2:fr ρ st=.ok (.loc r) st)(e3:fb ρ st=.ok (.loc b) st) :
  ∃(B':Nat->Nat) (p:Nat) (y:List ah),Dt M rs (s+1) B'/\(∃m h,qI rs B' m h)/\cY y/\y[p]?=some (.dct (jN B' rs)) /\
   ej 3 C7 (aj fr (aj fb (aj (ej 3 C6 (aj fv (aj fr (aj fb aI)))) aI))) ρ st=.ok (.loc (st.length+p)) (st++y):=by
 have hl:=hM.len
 obtain⟨x,npx,x0,ev⟩:=Gj hM hr hb
 have hv:(st++x)[st.length]?=some (.dct (vD #[15] rs)):=by rw[cv];exact x0
 obtain⟨B',y,hB,can,npy,y2,es⟩:=Ge (st:=st++x) (ax hr) (ax hb) hv hM.nd #[0]
 refine⟨B',x.length+2,x++y,QW hM h fun a ha b hb=>hB a ha b hb,can,fj npx npy,?_,?_⟩
 ·rw[eA];exact y2
 ·rw[<- az,show st.length+(x.length+2)=(st++x).length+2 by rw[aN];omega]
  exact dz (aA e2 (aA e3 (aA (dz (aA e1 (aA e2 (aA e3 bF))) ev rfl) bF))) es rfl
theorem Js(hM:Rm M N rs){st:List ah}{r:Nat}(hr:st[r]?=some (.lst (dg rs))):∃(B:Nat->Nat) (j:Nat) (x:List ah),pY M rs B/\cY x/\x[j]?=some (.dct (jN B rs))/\I_ [M.w,.loc r] st=.ok (.loc (st.length+j)) (st++x):=by
 have hl:=hM.len
 suffices hh:hU (yw fun w bL=>∃j x,w=.loc (st.length+j)/\bL=st++x/\cY x/\∃B,pY M rs B/\x[j]?=some (.dct (jN B rs))) (QM ([M.w,.loc r].map some++List.replicate (4-2) none) st) by
  obtain⟨j,x,⟨np,B,h1,h2⟩,e⟩:=kO hh
  exact⟨B,j,x,h1,np,h2,e⟩
 obtain⟨B,x,hB,can,npx,x2,eg⟩:=Jq hM.ok hr hM.lt hM.nd #[0]
 refine aS (cx (dz (aA kv kn) eg rfl)) ?_
 have b0:Dt M rs 0 B:=QV hB
 have hb:(st++x)[st.length+2]?=some (.dct (jN B rs)):=by rw[eA];exact x2
 obtain⟨B',p,y,b1,can',npy,hp,es⟩:=tZ hM (st:=st++x) (r:=r) (b:=st.length+2) (ax hr) hb b0 (fv:=ag 0) (fr:=ag 1) (fb:=ag 2) (ρ:=[some M.w,some (.loc r),some (.loc (st.length+2)),none]) kv kv kv
 refine aS (cx es) ?_
 have tq':∀{S:List ah} {B B':Nat->Nat} {u v:Nat},S[v]?=some (.dct (jN B' rs))->S[u]?=some (.dct (jN B rs))->fQ (e2 z7 (ag 3) (ag 2)) [some M.w,some (.loc r),some (.loc u),some (.loc v)] S=.ok (!(rs.all fun a=>B' a==B a)) S:=fun h h'=>b_ (bT kv kv (QX hM.nd h h'))
 refine qD (fun n ρ s=>∃(B B':Nat->Nat) (k j p:Nat) (x:List ah),n=R0 (bg M) M.tb.length (gM M) rs (k+1)/\Dt M rs k B/\Dt M rs (k+1) B'/\(∃m h,qI rs B m h)/\(∃m h,qI rs B' m h)/\cY x/\x[j]?=some (.dct (jN B rs))/\x[p]?=some (.dct (jN B' rs)) /\
   ρ=[some M.w,some (.loc r),some (.loc (st.length+j)),some (.loc (st.length+p))]/\s=st++x) _ ⟨B,B',0,2,x.length+p,x++y,rfl,b0,b1,can,can',fj npx npy,?_,?_,?_,?_⟩ ?_ ?_
 ·rw[av (aa.mp x2).1];exact x2
 ·rw[eA];exact hp
 ·rw[show st.length+(x.length+p)=(st++x).length+p by rw[aN];omega];rfl
 ·rw[az]
 ·rintro n ρ s ⟨B,B',k,j,p,x,rfl,b0,b1,can,can',npx,xj,xp,rfl,rfl⟩
  have hj:(st++x)[st.length+j]?=some (.dct (jN B rs)):=by rw[eA];exact xj
  have hp:(st++x)[st.length+p]?=some (.dct (jN B' rs)):=by rw[eA];exact xp
  have tt:=tq' hp hj
  cases e:rs.all fun a=>B' a==B a with
  |true=>rw[e]at tt;exact .inl tt
  |false=>
   rw[e]at tt
   refine .inr ⟨tt,?_⟩
   have lN:Nx M rs (k+1)≠[]:=fun z=>by
    have:=Ny can can' b0 b1 z
    rw[List.all_eq_false]at e
    obtain⟨a,ha,h2⟩:=e
    exact h2 (by rw[this a ha];exact du _)
   refine aS (cx kv) ?_
   obtain⟨B2,p2,y,b2,can2,npy,hp2,es⟩:=tZ hM (st:=st++x) (r:=r) (b:=st.length+p) (ax hr) hp b1 (fv:=ag 0) (fr:=ag 1) (fb:=ag 2) (ρ:=[some M.w,some (.loc r),some (.loc (st.length+p)),some (.loc (st.length+p))]) kv kv kv
   refine ja (cx es) ⟨_,_,rfl,_,QT lN,B',B2,k+1,p,x.length+p2,x++y,rfl,b1,b2,can',can2,fj npx npy,?_,?_,?_,?_⟩
   ·rw[av (aa.mp xp).1];exact xp
   ·rw[eA];exact hp2
   ·rw[show st.length+(x.length+p2)=(st++x).length+p2 by rw[aN];omega];rfl
   ·rw[az]
 ·rintro n ρ s ⟨B,B',k,j,p,x,rfl,b0,b1,can,can',npx,xj,xp,rfl,rfl⟩ hno
  have hj:(st++x)[st.length+j]?=some (.dct (jN B rs)):=by rw[eA];exact xj
  have hp:(st++x)[st.length+p]?=some (.dct (jN B' rs)):=by rw[eA];exact xp
  have tt:=tq' hp hj
  cases e:rs.all fun a=>B' a==B a with
  |false=>rw[e]at tt;exact(Gk hno tt).elim
  |true=>
   rw[d9]at e
   refine eK kv ⟨_,_,rfl,j,x,rfl,rfl,npx,B,⟨can,k,b0,fun a ha b hb=>?_⟩,xj⟩
   rw[<- b1 a ha b hb,eN.mp (e a ha),eN.mp (e b hb)]
end
section
variable{h:Nat->Nat}
noncomputable def oY(rs:List Nat)(h:Nat->Nat)(j:Nat):Nat:=rs.getD (h j) 0
def qJ(rs:List Nat)(h:Nat->Nat)(m:Nat):List Nat:=(List.range m).map (oY rs h)
theorem Gn{x:Nat}(e:rs[h j]?=some x):oY rs h j=x:=by unfold oY;rw[aD,e];rfl
theorem qI.at'(c:qI rs B m h){j:Nat}(hj:j<m):rs[h j]?=some (oY rs h j)/\oY rs h j∈rs/\B (oY rs h j)=j:=by
 obtain⟨x,h1,h2⟩:=c.hd j hj
 rw[Gn h1]
 exact⟨h1,ao h1,h2⟩
theorem qI.m_le(c:qI rs B m h)(hl:rs.length<=1000):∀j,j<m->j<=h j:=by
 intro j
 induction j with
 |zero=>intro _;exact cJ _
 |succ j ih=>
  intro hj
  have:=ih #[0]
  have:=c.up j (j+1) #[0] hj
  omega
theorem qI.len(c:qI rs B m h)(hl:rs.length<=1000):m<=rs.length:=by
 rcases gj m with z|z
 ·omega
 ·have:=c.m_le hl (m-1) #[0]
  have:=(aa.mp (c.at' (j:=m-1) #[0]).1).1
  omega
theorem Gp(c:qI rs B m h)(kG:rs.Nodup)(hl:rs.length<=1000){st:List ah}{r b:Nat}(hr:st[r]?=some (.lst (dg rs)))(hb:st[b]?=some (.dct (jN B rs))):Bw [.loc r,.loc b] st=.ok #[5] (st++[.lst (dg (qJ rs h m))]):=by
 suffices hh:hU (yw fun w bL=>∃j x,w=.loc (st.length+j)/\bL=st++x/\j=0/\x=[.lst (dg (qJ rs h m))]) (KD ([W.loc r,.loc b].map some++List.replicate (4-2) none) st) by
  obtain⟨j,x,⟨rfl,rfl⟩,e⟩:=kO hh
  exact e
 have hml:=c.len hl
 refine aS (cx (nC bF (cJ _))) ?_
 refine dy (k:=(dg rs,some (r,dg rs))) (fun i ρ s=>∃(n:Nat) (o3:Option W),n<=m/\(∀j,j<n->h j<i)/\(∀j,n<=j->j<m->i<=h j)/\ρ=[some (.loc r),some (.loc b),some #[5],o3]/\s=st++[.lst (dg (qJ rs h n))]) (gy kv (aR (ax hr))) ⟨0,none,cJ _,fun j z=>absurd z (cE _),fun j _ _=>cJ _,rfl,rfl⟩ ?_ ?_ ?_
 ·rintro i ρ s ⟨n,o3,_,_,_,rfl,rfl⟩
  exact aR (ax hr)
 ·rintro i w ρ s hw ⟨n,o3,hn,h1,h2,rfl,rfl⟩
  rw[ak]at hw
  obtain⟨a,ha,rfl⟩:=a_.mp hw
  obtain⟨f1,f2⟩:=c.fst i a ha
  have ham:a∈rs:=ao ha
  refine⟨_,rfl,?_⟩
  have hc:(st++[ah.lst (dg (qJ rs h n))])[st.length]?=some (.lst (dg (qJ rs h n))):=by rw[cv];rfl
  have ln:cR [.loc st.length] (st++[ah.lst (dg (qJ rs h n))])=.ok (.int (n:Nat)) (st++[ah.lst (dg (qJ rs h n))]):=by
   rw[jB (aR hc)];simp[qJ]
  have ix:lE (.loc b) (.int (a:Nat)) (st++[ah.lst (dg (qJ rs h n))])=.ok (.int (B a:Nat)) (st++[ah.lst (dg (qJ rs h n))]):=pS (gf (ax hb)) (ld (V:=fun a=>W.int (B a:Nat)) kG ham)
  by_cases e:B a=n
  ·refine yx (b_ (bT (bT kv kv ix) (bu kn ln) (oA (by rw[eN];omega)))) ?_
   have hi:h n=i:=by
    have:=h2 n (au _) #[0]
    rw[e]at f2;omega
   have hd:oY rs h n=a:=Gn (by rw[hi];exact ha)
   refine ja (hJ (rp kv (gT hc) kn (qV hc (by simp[qJ];show _<1000000;omega)))) ⟨_,_,rfl,n+1,_,by omega,fun j hj=>?_,fun j hj hjm=>?_,rfl,?_⟩
   ·rcases ca j n with z|z
    ·have:=h1 j z;omega
    ·have:j=n:=by omega
     rw[this,hi];omega
   ·have:=c.up n j #[0] hjm;omega
   ·rw[eJ]
    simp[qJ,List.range_succ,hd]
  ·refine mL (b_ (bT (bT kv kv ix) (bu kn ln) (oA (by rw[bP];omega)))) ⟨_,_,rfl,n,_,hn,fun j hj=>by have:=h1 j hj;omega,fun j hj hjm=>?_,rfl,rfl⟩
   have h3:=h2 j hj hjm
   rcases ca i (h j)with z|z
   ·exact z
   ·exfalso
    have hij:h j=i:=by omega
    have ba:B a=j:=by
     obtain⟨g1,_,g3⟩:=c.at' hjm
     rw[hij,ha]at g1
     cases g1;exact g3
    rcases kA hj with y|y
    ·omega
    ·have:=c.up n j y hjm
     have:=h2 n (au _) #[0]
     omega
 ·rintro ρ s ⟨n,o3,hn,h1,h2,rfl,rfl⟩
  rw[ai]at h2
  have:n=m:=by
   rcases kA hn with z|z
   ·exact z
   ·have a1:=h2 n (au _) z
    have a2:=(aa.mp (c.at' z).1).1
    omega
  subst this
  exact eK kv ⟨_,_,rfl,0,_,rfl,rfl,rfl,rfl⟩
end
section
variable{M:Mc}{h:Nat->Nat}
theorem pY.cg(l:pY M rs B)(hM:Rm M N rs){a x x' y y':Nat}(ha:a<M.tb.length)(hx:x∈rs)(qh:x'∈rs)(hy:y∈rs)(zf:y'∈rs)(e1:B x=B x')(e2:B y=B y'):B (bg M a x y)=B (bg M a x' y'):=by
 obtain⟨s,b0,b1⟩:=l.ok
 have h1:=(nF ((b1 x hx x' qh).mp e1)).2 (a,0,y) (nV.mpr ⟨ha,.inl rfl,hy⟩)
 have h2:=(nF ((b1 y hy y' zf).mp e2)).2 (a,1,x') (nV.mpr ⟨ha,.inr rfl,qh⟩)
 have h1:Dd M rs s (bg M a x y) (bg M a x' y)=false:=h1
 have h2:Dd M rs s (bg M a x' y) (bg M a x' y')=false:=h2
 exact(b0 _ (hM.cl a ha x hx y hy) _ (hM.cl a ha x' qh y' zf)).mpr (F_ s _ _ _ h1 h2)
theorem pY.st(l:pY M rs B)(hM:Rm M N rs):∀(k:Nat) (a b:Nat),a∈rs->b∈rs->B a=B b->Dd M rs k a b=false:=by
 obtain⟨s,b0,b1⟩:=l.ok
 intro k
 induction k with
 |zero=>intro a b ha hb e;exact F7 s 0 (by rw[fN];exact(b0 a ha b hb).mp e)
 |succ k ih=>
  intro a b ha hb e
  refine yT (ih a b ha hb e) fun p hp=>?_
  refine ih _ _ (hM.led hp ha) (hM.led hp hb) ?_
  exact(b0 _ (hM.led hp ha) _ (hM.led hp hb)).mpr ((nF ((b1 a ha b hb).mp e)).2 p hp)
theorem pY.quo{E:List Ro}(f:jC (bg M) M.tb.length N E)(l:pY M (E.map Prod.fst) B)(hM:Rm M N (E.map Prod.fst))(c:qI (E.map Prod.fst) B m h):yS (bg M) M.tb.length N E B h (fun j=>E.getD (h j) (0,zW)) m:=by
 have at':∀j,j<m->E[h j]?=some (E.getD (h j) (0,zW))/\(E.getD (h j) (0,zW)).1=oY (E.map Prod.fst) h j:=fun j hj=>by
  obtain⟨h1,_,_⟩:=c.at' hj
  rw[ak]at h1
  obtain⟨e,he,h2⟩:=a_.mp h1
  rw[aD,he]
  exact⟨rfl,h2⟩
 refine⟨f,fun j hj=>⟨(at' j hj).1,?_⟩,fun i e he=>?_,c.up,fun a x x' y y' ha hx qh hy zf e1 e2=>l.cg hM ha hx qh hy zf e1 e2⟩
 ·show B (E.getD (h j) (0,zW)).1=j
  rw[(at' j hj).2];exact(c.at' hj).2.2
 ·exact c.fst i e.1 (by rw[ak,he];rfl)
def vx(M:Mc)(rs:List Nat)(B h:Nat->Nat)(m:Nat):Mc:=⟨M.nm,(List.range m).map fun j=>gM M (oY rs h j),(List.range M.tb.length).map fun a=>(List.range m).map fun l=>(List.range m).map fun r=>B (bg M a (oY rs h l) (oY rs h r))⟩
theorem Nz(hM:Rm M N rs)(c:qI rs B m h):oX (vx M rs B h m) m:=by
 refine⟨by simp[vx],by simp[vx,hM.ok.tb],fun t ht=>?_⟩
 simp only[vx,al]at ht
 obtain⟨a,ha,rfl⟩:=ht
 have ha:=aT.mp ha
 refine⟨by simp,fun r hr=>?_⟩
 obtain⟨l,hl,rfl⟩:=al.mp hr
 refine⟨by simp,fun v hv=>?_⟩
 obtain⟨q,hq,rfl⟩:=al.mp hv
 obtain⟨i,hi⟩:=a9 (hM.cl a ha _ (c.at' (aT.mp hl)).2.1 _ (c.at' (aT.mp hq)).2.1)
 exact(c.fst i _ hi).1
theorem rS{a l r:Nat}(ha:a<M.tb.length)(hl:l<m)(hr:r<m):bg (vx M rs B h m) a l r=B (bg M a (oY rs h l) (oY rs h r)):=by
 have gm:∀{α:Type} (f:Nat->α) (n i:Nat) (d:α),i<n->((List.range n).map f).getD i d=f i:=fun f n i d hi=>by
  rw[aD,ak,bn hi];rfl
 show((((List.range M.tb.length).map fun a=>(List.range m).map fun l=>(List.range m).map fun r=>B (bg M a (oY rs h l) (oY rs h r))).getD a []).getD l []).getD r 0=_
 rw[gm _ _ _ _ ha,gm _ _ _ _ hl,gm _ _ _ _ hr]
end
section
variable{M:Mc}{h:Nat->Nat}
theorem Jt(hM:Rm M N rs)(c:qI rs B m h){st:List ah}{p q:Nat}(hp:st[p]?=some (.lst (dg (qJ rs h m))))(hq:st[q]?=some (.dct (jN B rs))){a l r:Nat}(ha:a<M.tb.length)(hl:l<m)(hr:r<m) :
  dm [.int (a:Int),.int (l:Int),.int (r:Int),M.w,.loc p,.loc q] st=.ok (.int (B (bg M a (oY rs h l) (oY rs h r)):Nat)) st:=by
 have ht:=ae ha
 obtain⟨_,l1,_⟩:=c.at' hl
 obtain⟨_,r1,_⟩:=c.at' hr
 obtain⟨row,e1,G3,_⟩:=pU hM.ok ht (hM.lt _ l1) (hM.lt _ r1)
 have ixh:∀{j:Nat},j<m->bM (.loc p) (.int (j:Int)) st=.ok (.int (oY rs h j:Nat)) st:=fun{j} hj=>jo (aR hp) (eM (by unfold qJ dg;rw[ak,ak,bn hj];rfl))
 have g2:bM M.w (.int 2) st=.ok (.tup (M.tb.map dA)) st:=rfl
 have it:bM (.tup (M.tb.map dA)) (.int (a:Int)) st=.ok (dA M.tb[a]) st:=gk (eM (by rw[ak,ht];rfl))
 have ixd:lE (.loc q) (.int (bg M a (oY rs h l) (oY rs h r):Nat)) st=.ok (.int (B (bg M a (oY rs h l) (oY rs h r)):Nat)) st:=pS (gf hq) (ld (V:=fun a=>W.int (B a:Nat)) hM.nd (hM.cl a ha _ l1 _ r1))
 refine C2 (N:=6) (ws:=[.int (a:Int),.int (l:Int),.int (r:Int),M.w,.loc p,.loc q]) (body:=j7) ?_
 exact eK (bT kv (bT (bT (bT (bT kv dY g2) kv it) (bT kv kv (ixh hl)) (pV e1)) (bT kv kv (ixh hr)) (pW G3)) ixd) ⟨_,_,rfl,rfl,rfl⟩
end
section
variable{M:Mc}{st:List ah}
end
structure yW(M:Mc)(N:Nat)(rs:List Nat):Prop where
 up:rs.Pairwise (· < ·)
 zero:0∈rs
 lt:∀a∈rs,a<N
 cl:∀k,k<M.tb.length->∀a∈rs,∀b∈rs,bg M k a b∈rs
 least:∀C:Nat->Prop,C 0->(∀k,k<M.tb.length->∀a b,C a->C b->C (bg M k a b))->∀a∈rs,C a
theorem BO(h:rs.Pairwise (· < ·)):rs.Nodup:=h.imp fun z=>bq z
noncomputable abbrev zI(l:List Nat):List Int:=l.map fun a=>((a:Nat):Int)
theorem NA{l':List Nat}(h:zI l=zI l'):l=l':=by
 have:=cL (List.map Int.toNat) h
 simpa[zI,aH,dJ]using this
theorem qw{l':List Nat}(h:l.Pairwise (· < ·))(h':l'.Pairwise (· < ·))(hm:∀a,a∈l↔a∈l'):l=l':=by
 have hp:l.Perm l':=(List.perm_ext_iff_of_nodup (BO h) (BO h')).mpr hm
 have p1:(zI l).Pairwise (· <= ·):=eL.mpr (h.imp fun z=>by omega)
 have p2:(zI l').Pairwise (· <= ·):=eL.mpr (h'.imp fun z=>by omega)
 exact NA ((PySem.W.eq_sortI (hp.map _) p1).trans (PySem.W.eq_sortI (kq _) p2).symm)
theorem yW.one{M:Mc}{N:Nat}{xa:List Nat}(h:yW M N rs)(h':yW M N xa):rs=xa:=
 qw h.up h'.up fun a=>⟨fun z=>h.least (· ∈ xa) h'.zero (fun k hk a b=>fun x y=>h'.cl k hk a x b y) a z,fun z=>h'.least (· ∈ rs) h.zero (fun k hk a b=>fun x y=>h.cl k hk a x b y) a z⟩
theorem KY(hn:l.Nodup):∃rs,sortI (zI l)=zI rs/\rs.Perm l/\rs.Pairwise (· < ·):=by
 have hp:=PySem.W.sortI_perm (zI l)
 have e:zI ((sortI (zI l)).map Int.toNat)=sortI (zI l):=by
  unfold zI
  rw[aH]
  conv=>rhs;rw[<- kS (sortI _)]
  refine bb fun z hz=>?_
  obtain⟨a,_,rfl⟩:=al.mp (hp.mem_iff.mp hz)
  show((((a:Int)).toNat:Nat):Int)=(a:Int)
  omega
 have hq:((sortI (zI l)).map Int.toNat).Perm l:=by
  have:=hp.map Int.toNat
  rw[show(zI l).map Int.toNat=l by simp[zI,aH,dJ]]at this
  exact this
 refine⟨(sortI (zI l)).map Int.toNat,e.symm,hq,?_⟩
 have h1:=PySem.W.sortI_rises (zI l)
 rw[<- e]at h1
 have h2:=eL.mp h1
 have h3:((sortI (zI l)).map Int.toNat).Nodup:=hq.nodup_iff.mpr hn
 exact(List.pairwise_and_iff.mpr ⟨h2,h3⟩).imp fun{a b} z=>by have:=z.1;have:=z.2;omega
theorem BP{st:List ah}{n:Nat}{l rs:List Nat}(h:st[n]?=some (.lst (dg l)))(hl:l.length<64\/l.length<=10000/\rs=l)(hs:sortI (zI l)=zI rs):nA [.loc n] st=.ok #[5] (st++[.lst (dg rs)]):=by
 unfold nA
 simp only[aR h,bE]
 rw[show dg l=(zI l).map W.int by unfold dg zI;rw[aH];rfl,nG,bE,aw (by rcases hl with hl|⟨h1,h2⟩;exact .inl (by simpa[zI]using hl);exact .inr ⟨by simpa[zI]using h1,by rw[hs,h2]⟩),hs]
 unfold zI dg
 rw[aH];rfl
theorem KZ{M:Mc}{E:List Ro}(t:ip (bg M) M.tb.length N E)(cov:∀l r a,l<E.length->r<E.length->a<M.tb.length->Hh (bg M) E [] l r a)(hp:rs.Perm (E.map Prod.fst))(hu:rs.Pairwise (· < ·)):yW M N rs:=by
 have hm:∀a,a∈rs↔∃e∈E,e.1=a:=fun a=>by rw[hp.mem_iff,al]
 refine⟨hu,?_,fun a ha=>?_,fun k hk a ha b hb=>?_,fun C c0 cc a ha=>?_⟩
 ·obtain⟨r,e⟩:=t.zero
  exact(hm 0).mpr ⟨_,by rw[e];exact aM,rfl⟩
 ·obtain⟨e,he,rfl⟩:=(hm a).mp ha
  exact t.lt e he
 ·obtain⟨e,he,rfl⟩:=(hm a).mp ha
  obtain⟨f,hf,rfl⟩:=(hm b).mp hb
  obtain⟨i,hi⟩:=a9 he
  obtain⟨j,hj⟩:=a9 hf
  rcases cov i j k (aa.mp hi).1 (aa.mp hj).1 hk e f hi hj with⟨m,g,hg,e1,_⟩|⟨p,hp,_⟩
  ·exact(hm _).mpr ⟨g,ao hg,e1⟩
  ·cases hp
 ·have key:∀(n i:Nat) (e:Ro),i<n->E[i]?=some e->C e.1:=by
   intro n
   induction n with
   |zero=>intro i e h;omega
   |succ n ih=>
    intro i e hi he
    rcases gj i with z|z
    ·subst z
     obtain⟨r,e0⟩:=t.zero
     rw[e0]at he;cases he;exact c0
    ·obtain⟨h1,h2,el,er,h3,h4,h5,h6,_⟩:=t.row i e he z
     rw[<- h6]
     exact cc _ h5 _ _ (ih _ el #[0] h3) (ih _ er #[0] h4)
  obtain⟨e,he,rfl⟩:=(hm a).mp ha
  obtain⟨i,hi⟩:=a9 he
  exact key (i+1) i e #[0] hi
theorem BQ:∀{ws:List W},(∀w∈ws,w.und n=true)->undWs n ws=true
 |[],_=>rfl
 |w::ws,h=>by simp only[undWs,h w aM,oF];exact BQ fun v hv=>h v (ay _ hv)
def NB(E:W->W->W->W)(R:Nat)(x l:W):W:=.tup ((bt 0 R).map (E x l))
def Op(E:W->W->W->W)(R:Nat)(x:W):W:=.tup ((bt 0 R).map (NB E R x))
def Gq(E:W->W->W->W)(L R:Nat):W:=.tup ((bt 0 L).map (Op E R))
theorem vy{l:List α}{x:α}(h:l[i]?=some x):l.take (i+1)=l.take i++[x]:=by rw[List.take_succ,h];rfl
theorem rT{f:W->W}:∀{l:List W},(∀x∈l,(f x).und n=true)->undWs n (l.map f)=true
 |[],_=>rfl
 |x::l,h=>by
  show((f x).und n&&undWs n (l.map f))=true
  rw[h x aM,rT fun y hy=>h y (ay _ hy)];rfl
theorem BR{E:W->W->W->W}{R:Nat}(hu:∀x l r,(E x l r).und n=true):(Gq E L R).und n=true:=by
 unfold Gq W.und
 refine rT fun x _=>?_
 unfold Op W.und
 refine rT fun l _=>?_
 unfold NB W.und
 exact rT fun r _=>hu x l r
theorem Gr{E:W->W->W->W}{R:Nat}{st:List ah}{w0:W}(hL:L<=64)(hR:R<=1000)(hm:st[m]?=some (.pin false f o w0))(hu:∀x l r,(E x l r).und st.length=true)
  (hc:∀s,st <+: s->∀x∈bt 0 L,∀l∈bt 0 R,∀r∈bt 0 R,tf cI dm m [x,l,r] s=.ok (E x l r) s):FK [.int L,.int R,.loc m] st=.ok (Gq E L R) st:=by
 refine hV (N:=7) (ws:=[.int L,.int R,.loc m]) (body:=Qp) ?_ (by show(_&&true)=true;rw[BR hu];rfl)
 apply aS
 ·(walk_at "evs")
 refine dy (fun i ρ s=>∃o4 o5 o6:Option W,ρ=[some (.int L),some (.int R),some (.loc m),some #[5],o4,o5,o6]/\st <+: s/\s[st.length]?=some (.lst (((bt 0 L).take i).map (Op E R))))
  (cX (q:=(L:Int)) (st1:=st++[ah.lst []]) kn #[0]) ⟨none,none,none,rfl,aJ _ _,by rw[bK];rfl⟩ #[9] ?_ ?_
 ·rintro i w ρ s hw ⟨o4,o5,o6,rfl,hp,fC⟩
  rw[aG]at hw
  have hwm:w∈bt 0 L:=ao hw
  have hi:i<L:=by have:=(aa.mp hw).1;rw[bQ]at this;exact this
  refine⟨_,rfl,?_⟩
  apply aS
  ·(walk_at "evs")
  refine dy (fun j ρ z=>∃o6:Option W,ρ=[some (.int L),some (.int R),some (.loc m),some #[5],some w,some (.loc s.length),o6]/\s <+: z/\z[s.length]?=some (.lst (((bt 0 R).take j).map (NB E R w))))
   (cX (q:=(R:Int)) (st1:=s++[ah.lst []]) kn #[0]) ⟨_,rfl,aJ _ _,by rw[bK];rfl⟩ #[9] ?_ ?_
  ·rintro j v ρ z hv ⟨o6,rfl,hz,hcz⟩
   rw[aG]at hv
   have hvm:v∈bt 0 R:=ao hv
   have hj:j<R:=by have:=(aa.mp hv).1;rw[bQ]at this;exact this
   refine⟨_,rfl,?_⟩
   have hmz:z[m]?=some (.pin false f o w0):=pre_get (hp.trans hz) hm
   have ec:=fU (cap:=[none,some 2,some 4,some 6]) (fi:=bp (aj (ag 1) aI)) (f:=eG 0) (el:=oT 1 3 cI dm (aj (ag 2) (aj (ag 3) (aj (ag 0) aI)))) (ρ:=[some (.int L),some (.int R),some (.loc m),some #[5],some w,some (.loc s.length),some v]) (st:=z) (st1:=z)
    (ws:=bt 0 (R:Int).toNat) (ck:=none) (E w v) (cX (q:=(R:Int)) kn #[0]) (by rw[bQ,aG];show R<=1000000;omega) trivial fun r hr=>by
     rw[aG]at hr
     exact⟨_,rfl,IZ (m:=m) rfl hmz (aA kv (aA kv kn)) rfl (hc z (hp.trans hz) w hwm v hvm r hr)⟩
   rw[aG]at ec
   have et:bh dD (aj (cW [none,some 2,some 4,some 6] (bp (aj (ag 1) aI)) (eG 0) gG (oT 1 3 cI dm (aj (ag 2) (aj (ag 3) (aj (ag 0) aI))))) aI) [some (.int L),some (.int R),some (.loc m),some #[5],some w,some (.loc s.length),some v] z=.ok (NB E R w v) (z++[.lst ((bt 0 R).map (E w v))]):=
    bu (aA ec bF) (hW (aR bK))
   have ap:=wJ (y:=NB E R w v) (pre_get (s:=z++[.lst ((bt 0 R).map (E w v))]) (aJ _ _) hcz) (by rw[ai,bf];omega)
   apply ja
   ·exact hJ (rp kv (gT hcz) (aA et bF) ap)
   ·refine⟨_,_,rfl,_,rfl,rO (BE hz) (au _),?_⟩
    rw[wH (pre_get (aJ _ _) hcz),vy hv,cF];rfl
  ·rintro ρ z ⟨o6,rfl,hz,hcz⟩
   rw[aG,bQ,cU (by rw[bQ];exact au _)]at hcz
   have hcp:=pre_get hz fC
   have ap:=wJ (y:=Op E R w) hcp (by rw[ai,bf];omega)
   apply ja
   ·exact hJ (rp kv (gT hcp) (aA (bu kn (hW (aR hcz))) bF) ap)
   ·refine⟨_,_,rfl,_,_,_,rfl,rO (hp.trans hz) (au _),?_⟩
    rw[wH hcp,vy hw,cF];rfl
 ·rintro ρ s ⟨o4,o5,o6,rfl,hp,fC⟩
  rw[aG,bQ,cU (by rw[bQ];exact au _)]at fC
  obtain⟨x,rfl⟩:=hp
  apply eK
  ·exact bu kn (hW (aR fC))
  ·exact⟨_,_,rfl,rfl,_,rfl⟩
theorem Gu{f:FG}{ρ':cu}{st:List ah}{w:W}(h:fe ρ st=.ok w st1)(h2:f w ρ=some ρ'):zJ fe f ρ st=.nx ρ' st1:=by
 unfold zJ;rw[h];simp only[R.stmt_ok];rw[h2]
noncomputable def T1:W->W
 |.tup (x::_)=>x
 |w=>w
noncomputable abbrev Ju:ah:=.tab 66 ⟨64,29,64,52⟩ "firsts_of.<locals>.<lambda>"
noncomputable abbrev Gv:ah:=.tab 87 ⟨90,4,91,68⟩ "least_of.<locals>.lead"
noncomputable def fT(B:Nat->Nat)(rs:List Nat):W:=.tup #[10]
structure jK(M:Mc)(N:Nat)(E:List Ro)(B h:Nat->Nat)(m:Nat)(rs:List Nat):Prop where
 full:jC (bg M) M.tb.length N E
 rm:Rm M N (E.map Prod.fst)
 last:pY M (E.map Prod.fst) B
 can:qI (E.map Prod.fst) B m h
 perm:rs.Perm (E.map Prod.fst)
 up:rs.Pairwise (· < ·)
def t9(M:Mc)(E:List Ro)(B h:Nat->Nat)(m:Nat)(rs:List Nat):W:=.tup [(vx M (E.map Prod.fst) B h m).w,fT B rs]
theorem De{ok:Obj->Prop}{a b:List ah}{l:List jn}{w0 v:W}(hm:(a++(iB l++b))[m]?=some (.pin false f o w0))(ho:ok o)(hc:(lF o).map (·.2)=l.map fun x=>x.2.1)(nd:(l.map fun x=>x.2.1).Nodup)(hn:cY a)
  (hF:∀s,F (ws++l.map fun x=>x.2.2.2) (a++s)=.ok v (a++s)):tf ok F m ws (a++(iB l++b))=.ok v (a++(iB l++b)):=by
 have e1:((lF o).map fun y=>((a++(iB l++b)).findIdx? (mK y.2)).getD 0)=List.range' a.length l.length:=by
  rw[<- vi l a b (fun d hd x _=>hn d hd _) nd]
  have:∀(g:Addr->Nat),(lF o).map (fun y=>g y.2)=l.map fun x=>g x.2.1:=fun g=>by
   have:=cL (List.map g) hc
   rw[aH,aH]at this;exact this
  exact this fun c=>((a++(iB l++b)).findIdx? (mK c)).getD 0
 unfold tf
 rw[hm]
 simp only
 rw[aw ho,e1,oV]
 simp only
 have e2:((qW a.length l).map fun x=>x.2.1)=l.map fun x=>x.2.1:=nU (fun y=>y.1) _ _
 have e3:((qW a.length l).map fun x=>x.2.2.2)=l.map fun x=>x.2.2.2:=nU (fun y=>y.2.2) _ _
 rw[aw (by rw[e2,hc]),e3,hF]
 simp only[vh]
def Eb(M:Mc)(F:List Nat)(B h:Nat->Nat):W->W->W->W
 |.int x,.int l,.int r=>.int (B (bg M x.toNat (oY F h l.toNat) (oY F h r.toNat)):Nat)
 |_,_,_=>.non
theorem Gw(M:Mc)(F:List Nat)(B h:Nat->Nat)(x l r:W)(n:Nat):(Eb M F B h x l r).und n=true:=by
 unfold Eb
 split<;>rfl
theorem nX{f:W->W}{g:Nat->W}(h:∀i:Nat,f (.int (i:Int))=g i):(bt 0 n).map f=(List.range n).map g:=by
 unfold bt
 rw[aH]
 refine bb fun i _=>?_
 show f (.int (0+(i:Int)))=_
 rw[fM];exact h i
theorem NC(M:Mc)(F:List Nat)(B h:Nat->Nat)(m:Nat):Gq (Eb M F B h) M.tb.length m=.tup ((vx M F B h m).tb.map dA):=by
 unfold Gq vx
 simp only[aH]
 congr 1
 refine nX fun a=>?_
 show Op _ _ _=dA _
 unfold Op dA
 congr 1
 rw[aH]
 refine nX fun l=>?_
 show NB _ _ _ _=lI _
 unfold NB lI
 congr 1
 rw[aH]
 exact nX fun r=>rfl
theorem Jv(B:Nat->Nat)(rs:List Nat)(n:Nat):(fT B rs).und n=true:=by
 unfold fT W.und
 exact BQ fun w hw=>by obtain⟨a,_,rfl⟩:=al.mp hw;rfl
theorem BS(M:Mc)(E:List Ro)(B h:Nat->Nat)(m:Nat)(rs:List Nat)(n:Nat):undWs n [t9 M E B h m rs]=true:=by
 unfold t9
 simp only[undWs,W.und,FV,Jv,eV]
theorem oZ{w:W}(h:w∈bt 0 n):∃i:Nat,i<n/\w=.int (i:Int):=by
 obtain⟨i,hi⟩:=a9 h
 obtain⟨h1,rfl⟩:=fF hi
 exact⟨i,h1,by rw[fM]⟩
noncomputable def xo:W->Nat
 |.int z=>z.toNat
 |_=>0
theorem yX{M:Mc}{st:List ah}(hM:oX M N)(Ot:1<=N)(hN:N<=100)(hr:N<64\/∀E,jC (bg M) M.tb.length N E->(E.map Prod.fst).Pairwise (· < ·))(hsz:M.tb.length*(2*N)<=10000)(hL:M.tb.length<=64)(K5:cY st)(ht:st[1]?=some Ju)(Hl:st[2]?=some Gv) :
  ∃E B h m rs,jK M N E B h m rs/\tK [M.w] st=.ok (t9 M E B h m rs) st:=by
 obtain⟨E,R,t,hR,cov,ef⟩:=Da hM Ot #[0] ht
 obtain⟨rs,hsrt,hperm,hup⟩:=KY t.nd
 have hrs:=KZ t cov hperm hup
 have hlE:=t.len
 obtain⟨F,hF⟩:∃F,F=E.map Prod.fst:=⟨_,rfl⟩
 have hFl:F.length=E.length:=by rw[hF,ai]
 have hmem:∀{a},a∈F↔a∈rs:=fun{a}=>by rw[hF];exact hperm.mem_iff.symm
 have hRm:Rm M N F:=⟨hM,fun a ha=>hrs.lt a (hmem.mp ha),by rw[hF];exact t.nd,by omega,a8 (Nat.mul_le_mul_left _ #[0]) hsz,fun k hk a ha b hb=>hmem.mpr (hrs.cl k hk a (hmem.mp ha) b (hmem.mp hb))⟩
 have hRE:R.map T1=dg F:=by
  rw[hF]
  refine gD fun i=>?_
  rw[ak,ak,ak]
  cases he:E[i]? with
  |none=>
   rw[de (by rw[hR.len];exact kJ.mp he)];rfl
  |some e=>
   obtain⟨w,hw,rB⟩:=hR.at' i e he
   obtain⟨tt,rfl⟩:=rB.sh
   rw[hw];rfl
 have ec:=fU (cap:=[none]) (fi:=ce (ej 1 C8 (aj (ag 0) aI))) (f:=eG 0) (el:=e2 bM (ag 0) (eI 0)) (ρ:=[M.w].map some++List.replicate (7-1) none) (st:=st) (st1:=st) T1 (gw (dz kn ef rfl)) (by rw[hR.len];show _<=1000000;omega) trivial fun w hw=>by
  obtain⟨i,hi⟩:=a9 hw
  have hiE:i<E.length:=by rw[<- hR.len];exact(aa.mp hi).1
  obtain⟨w',hw',rB⟩:=hR.at' i _ (ae hiE)
  rw[hi]at hw';cases hw'
  obtain⟨tt,rfl⟩:=rB.sh
  exact⟨_,rfl,bT kv dY ox⟩
 rw[hRE]at ec
 have c1:(st++[ah.lst (dg F)])[st.length]?=some (.lst (dg F)):=bK
 obtain⟨B,j,x,hLB,npx,hxj,el⟩:=Js hRm c1
 obtain⟨m,h,c⟩:=hLB.can
 have hml:=c.len #[0]
 refine⟨E,B,h,m,rs,⟨⟨t,cov⟩,hF▸hRm,hF▸hLB,hF▸c,hperm,hup⟩,?_⟩
 unfold t9
 rw[<- hF]
 have hund:∀n,undWs n [W.tup [(vx M F B h m).w,fT B rs]]=true:=fun n=>by have:=BS M E B h m rs n;unfold t9 at this;rw[<- hF]at this;exact this
 refine hV (N:=7) (ws:=[M.w]) (body:=KF) ?_ (hund _)
 refine aS (Gu ec rfl) ?_
 generalize hS1:st++[ah.lst (dg F)]=S1 at c1 el
 have np1:cY S1:=by rw[<- hS1];exact fj K5 (rR (fun _=>rfl) tX)
 refine aS (cx (dz (aA kv kn) el rfl)) ?_
 have c2:(S1++x)[S1.length+j]?=some (.dct (jN B F)):=by rw[eA];exact hxj
 have e3:=Gp c hRm.nd #[0] (ax c1) c2
 refine aS (cx (dz (aA kv kn) e3 rfl)) ?_
 have hd3:(S1++x++[ah.lst (dg (qJ F h m))])[(S1++x).length]?=some (.lst (dg (qJ F h m))):=bK
 have hhl:(qJ F h m).length=m:=by simp[qJ]
 have hhm:∀a∈qJ F h m,a∈F:=fun a ha=>by
  obtain⟨k,hk,rfl⟩:=al.mp ha
  exact(c.at' (aT.mp hk)).2.1
 have ec4:=fU (cap:=[none,some 0]) (fi:=ce (ag 3)) (f:=eG 0) (el:=e2 bM (e2 bM (ag 1) (eI 1)) (ag 0)) (ρ:=[some M.w,some #[5],some (.loc (S1.length+j)),some (.loc (S1++x).length),none,none,none]) (st:=S1++x++[ah.lst (dg (qJ F h m))]) (st1:=S1++x++[ah.lst (dg (qJ F h m))]) (fun w=>.bl (gM M (xo w))) (gy kv (aR hd3)) (by rw[ai,hhl];show _<=1000000;omega) (aR hd3) fun w hw=>by
  obtain⟨a,ha,rfl⟩:=al.mp hw
  have ju:a<M.gd.length:=by rw[hM.gd];exact hRm.lt a (hhm a ha)
  exact⟨_,rfl,bT kx kv (gk (eM (by
   rw[ak,ae ju]
   show some (W.bl M.gd[a])=some (W.bl (gM M ((a:Nat):Int).toNat))
   rw[aG];unfold gM;rw[aD,ae ju];rfl)))⟩
 have eg:(dg (qJ F h m)).map (fun w=>W.bl (gM M (xo w)))=(vx M F B h m).gd.map W.bl:=by
  unfold dg qJ vx
  simp only[aH]
  refine bb fun k _=>?_
  show W.bl (gM M (((oY F h k:Nat):Int).toNat))=W.bl (gM M (oY F h k))
  rw[aG]
 rw[eg]at ec4
 refine aS (cx (bu (aA ec4 bF) (hW (aR bK)))) ?_
 obtain⟨S4,hS4⟩:∃S4:List ah,S1++x++[ah.lst (dg (qJ F h m))]++[ah.lst ((vx M F B h m).gd.map W.bl)]=S4:=⟨_,rfl⟩
 rw[hS4]
 have c4:∀{i:Nat} {d:ah},S1[i]?=some d->S4[i]?=some d:=fun e=>by rw[<- hS4];exact ax (ax (ax e))
 have hd4:S4[(S1++x).length]?=some (.lst (dg (qJ F h m))):=by rw[<- hS4];exact ax hd3
 have bk4:S4[S1.length+j]?=some (.dct (jN B F)):=by rw[<- hS4];exact ax (ax c2)
 have np4:cY S4:=by rw[<- hS4];exact fj (fj (fj np1 npx) (rR (fun _=>rfl) tX)) (rR (fun _=>rfl) tX)
 obtain⟨y4,hy4⟩:∃y,S4=st++y:=⟨_,by rw[<- hS4,<- hS1,az,az,az]⟩
 have hr4:=c4 c1
 have ht4:=c4 (i:=2) (d:=Gv) (by rw[<- hS1];exact ax Hl)
 generalize hp:(S1++x).length=p at hd4
 generalize hq:S1.length+j=q at bk4
 refine ja (E5 (w:=W.tup [(vx M F B h m).w,fT B rs]) (show qR S4 2 87 ⟨90,4,91,68⟩ "least_of.<locals>.lead" from ht4) (hund _) fun f o ok=>⟨[.pin false f o .non]++[.lst (dg rs)]++[.lst #[10]],?_⟩) ⟨_,_,rfl,rfl,y4,hy4⟩
 obtain⟨cl,jc,pm,cd,ct,hx,kG,rfl⟩:=ok
 generalize ho:fnMade "lead" "least_of.<locals>.lead" (dO dZ) (dQ dZ) (aY dZ) cl jc pm cd ct=o
 have hok:cI o:=⟨cl,jc,pm,cd,ct,hx,kG,ho.symm⟩
 have hclo:lF o=cl:=by rw[<- ho];rfl
 have jd:cl.length=3:=by have:=cL List.length hx;rw[ai]at this;exact this
 have Hg:=BP (st:=S4++[.pin false f o .non]) (n:=st.length) (l:=F) (rs:=rs) (ax hr4) (by rcases hr with z|z;exact .inl #[0];exact .inr ⟨by omega,qw hup (hF▸z E ⟨t,cov⟩) fun a=>hmem.symm⟩) (by rw[hF];exact hsrt)
 have cs:(S4++[.pin false f o .non]++[ah.lst (dg rs)])[(S4++[ah.pin false f o .non]).length]?=some (.lst (dg rs)):=bK
 have hrl:rs.length=E.length:=by rw[hperm.length_eq,ai]
 have ec6:=fU (cap:=[none,some 2]) (fi:=ce (bh nA (aj (ag 1) aI))) (f:=eG 0) (el:=kZ (aj (ag 0) (aj (e2 lE (ag 1) (ag 0)) aI))) (ρ:=[some M.w,some #[5],some (.loc q),some (.loc p),some (.tup ((vx M F B h m).gd.map W.bl)),some (.loc S4.length),none]) (st:=S4++[.pin false f o .non]) (st1:=S4++[.pin false f o .non]++[ah.lst (dg rs)]) (fun w=>W.tup [w,.int (B (xo w):Nat)]) (gy (bu kn Hg) (aR cs)) (by rw[ai];show _<=1000000;omega) (aR cs) fun w hw=>by
  obtain⟨a,ha,rfl⟩:=al.mp hw
  have ix:lE (.loc q) (.int (a:Nat)) (S4++[.pin false f o .non]++[ah.lst (dg rs)])=.ok (.int (B a:Nat)) (S4++[.pin false f o .non]++[ah.lst (dg rs)]):=pS (gf (ax (ax bk4))) (ld (V:=fun a=>W.int (B a:Nat)) hRm.nd (hmem.mpr ha))
  refine⟨_,rfl,?_⟩
  show _=L2.R.ok (W.tup [.int (a:Nat),.int (B ((a:Nat):Int).toNat:Nat)]) _
  rw[aG]
  exact lH (aA kv (aA (bT kv kv ix) bF)) (by show 2<=1000000;decide)
 have eq6:(dg rs).map (fun w=>W.tup [w,.int (B (xo w):Nat)])=rs.map fun a=>W.tup [.int (a:Nat),.int (B a:Nat)]:=by
  unfold dg
  rw[aH]
  refine bb fun a _=>?_
  show W.tup [.int (a:Nat),.int (B ((a:Nat):Int).toNat:Nat)]=_
  rw[aG]
 rw[eq6]at ec6
 refine(Aa (cx (bu (aA ec6 bF) (hW (aR bK))))).trans ?_
 obtain⟨S6,hS6⟩:∃S6:List ah,S4++[ah.pin false f o .non]++[ah.lst (dg rs)]++[ah.lst #[10]]=S6:=⟨_,rfl⟩
 have hm6:S6[S4.length]?=some (.pin false f o .non):=by rw[<- hS6];exact ax (ax bK)
 have hd6:S6[p]?=some (.lst (dg (qJ F h m))):=by rw[<- hS6];exact ax (ax (ax hd4))
 have bk6:S6[q]?=some (.dct (jN B F)):=by rw[<- hS6];exact ax (ax (ax bk4))
 have np6:cY S6:=by rw[<- hS6];exact fj (fj (fj np4 (rR (fun _=>rfl) tX)) (rR (fun _=>rfl) tX)) (rR (fun _=>rfl) tX)
 rw[<- az,<- az,hS6]
 have PY:cR [.tup (M.tb.map dA)] S6=.ok (.int (M.tb.length:Nat)) S6:=by rw[nD,ai]
 have PZ:cR [.loc p] S6=.ok (.int (m:Nat)) S6:=by rw[jB (aR hd6)];simp[qJ]
 refine oz ?_
 have e7:u_ 3 FK o [0,3,2] (aj (bh cR (aj (e2 bM (ag 0) (eI 2)) aI)) (aj (bh cR (aj (ag 3) aI)) (aj (ag 5) aI))) [some M.w,some #[5],some (.loc q),some (.loc p),some (.tup ((vx M F B h m).gd.map W.bl)),some (.loc S4.length),some (fT B rs)] S6=.ok (.tup ((vx M F B h m).tb.map dA)) S6:=by
  rw[<- NC]
  refine MM (ws:=[.int (M.tb.length:Nat),.int (m:Nat),.loc S4.length]) (cws:=[M.w,.loc p,.loc q]) (aA (bu (aA kx bF) PY) (aA (bu kn PZ) kn)) rfl rfl ?_
  refine IY (by rw[hclo,jd];rfl) (by show(_&&true)=true;rw[BR fun x l r=>Gw _ _ _ _ x l r _];rfl) fun os hos=>?_
  rw[hclo]at hos ⊢
  have hz1:=MJ (C:=cl) (os:=os) (cws:=[M.w,.loc p,.loc q]) hos (by rw[jd];rfl)
  have hz2:=MK (C:=cl) (os:=os) (cws:=[M.w,.loc p,.loc q]) hos (by rw[jd];rfl)
  generalize lG cl os [M.w,.loc p,.loc q]=Lz at hz1 hz2
  have hmz:∀y,(S6++(iB Lz++y))[S4.length]?=some (.pin false f o .non):=fun y=>ax hm6
  refine Gr (E:=Eb M F B h) hL #[0] (hmz _) (fun x l r=>Gw _ _ _ _ x l r _) fun s hs x qh l hl' r hr'=>?_
  obtain⟨y,rfl⟩:=hs
  rw[bO,az]
  obtain⟨xi,hxi,rfl⟩:=oZ qh
  obtain⟨li,hli,rfl⟩:=oZ hl'
  obtain⟨ri,hri,rfl⟩:=oZ hr'
  refine De (hmz y) hok (by rw[hclo,hz1]) (by rw[hz1];exact kG) np6 fun s=>?_
  rw[hz2]
  exact Jt hRm c (ax hd6) (ax bk6) hxi hli hri
 exact lH (aA (lH (aA kx (aA kv (aA e7 bF))) (by show 3<=1000000;decide)) kn) (by show 2<=1000000;decide)
theorem ND(g:FS)(ρ:cu)(st:List ah):a7 g cK ρ st=g ρ st:=by
 unfold a7
 cases g ρ st<;>rfl
theorem lL{f:FG}{body:FS}{k:zK}{st:List ah}{Q:RS->Prop}(I:Nat->cu->List ah->Prop)(h:fi ρ st=.ok k st1)(h0:I 0 ρ st1)(hc:∀i ρ st,I i ρ st->iY st k.2)
  (hs:∀i w ρ st,k.1[i]?=some w->I i ρ st->∃ρ',f w ρ=some ρ'/\hU (IX (I (i+1))) (body ρ' st)) (he:∀ρ st,I k.1.length ρ st->Q (.nx ρ st)):hU Q (fg fi f body ρ st):=by
 rw[<- ND (fg fi f body)]
 exact dy (rest:=cK) I h h0 hc hs fun ρ st hI=>ja (r':=.nx ρ st) qB (he ρ st hI)
theorem BT{M:Mc}(hM:oX M n)(hn:1<=n)(Dv:n<=1000)(hl:M.nm.length<=20)(st:List ah):vn [M.w,.str M.nm] st=.ok (.bl true) st:=by
 have g0:bM M.w (.int 0) st=.ok (.str M.nm) st:=rfl
 have g1:bM M.w (.int 1) st=.ok (.tup (M.gd.map W.bl)) st:=rfl
 have g2:bM M.w (.int 2) st=.ok (.tup (M.tb.map dA)) st:=rfl
 have ln:cR [.tup (M.gd.map W.bl)] st=.ok (.int (n:Nat)) st:=by rw[nD,ai,hM.gd]
 have tl:cR [.tup (M.tb.map dA)] st=.ok (.int ((2^M.nm.length:Nat):Int)) st:=by rw[nD,ai,hM.tb]
 have lN:uA (.str M.nm) (.str M.nm) st=.ok (.bl false) st:=by
  show R.ok (W.bl (!(M.nm==M.nm))) st=_
  rw[du];rfl
 have n0:((n:Int)==0)=false:=by rw[bP];omega
 have nn:(!((n:Int)==(n:Int)))=false:=by rw[du];rfl
 refine hV (N:=7) (ws:=[M.w,.str M.nm]) (body:=KM) ?_ rfl
 refine bU (dR (iD (b_ (j4 kv rfl rfl)) rfl) (b_ (bT (bu kn (w:=.int 3) rfl) dY (oB rfl)))) (cz ?_)
 refine bU (dR (iD (b_ (j4 (bT kv dY g0) rfl rfl)) rfl) (b_ (bT (bT kv dY g0) kv lN))) (cz ?_)
 refine aS (cx (bT kv dY g1)) ?_
 refine bU (dR (iD (b_ (j4 kv rfl rfl)) rfl) (dR (b_ (bT (bu kn ln) dY (oA n0))) (iD (b_ (j4 (bT kv dY g2) rfl rfl)) rfl))) (cz ?_)
 refine dy (fun i ρ s=>∃o3,ρ=[some M.w,some (.str M.nm),some (.tup (M.gd.map W.bl)),o3,none,none,none]/\s=st) (gw kv) ⟨none,rfl,rfl⟩ #[9] ?_ ?_
 ·rintro i w ρ s hw ⟨o3,rfl,rfl⟩
  obtain⟨b,_,rfl⟩:=al.mp (ao hw)
  exact⟨_,rfl,mL (iD (b_ (j4 kv rfl rfl)) rfl) ⟨_,_,rfl,_,rfl,rfl⟩⟩
 rintro ρ s ⟨o3,rfl,rfl⟩
 refine bU (b_ (bT (bu (aA (bT kv dY g2) bF) tl) (bT dY (bu kn (qC (by show _<=1000000;omega))) (xR #[0])) (oB (k:=false) (by rw[du];rfl)))) (cz ?_)
 refine dy (fun i ρ s'=>∃o4 o5 o6,ρ=[some M.w,some (.str M.nm),some (.tup (M.gd.map W.bl)),o3,o4,o5,o6]/\s'=s) (gw (bT kv dY g2)) ⟨none,none,none,rfl,rfl⟩ #[9] ?_ ?_
 ·rintro i w ρ s' hw ⟨o4,o5,o6,rfl,rfl⟩
  obtain⟨t,ht,rfl⟩:=al.mp (ao hw)
  obtain⟨t1,t2⟩:=hM.t t ht
  have tn:cR [dA t] s'=.ok (.int (n:Nat)) s':=by unfold dA;rw[nD,ai,t1]
  refine⟨_,rfl,bU (dR (iD (b_ (j4 kv rfl rfl)) rfl) (b_ (bT (bu kn tn) (bu kn ln) (oB nn)))) (cz ?_)⟩
  refine lL (fun i ρ s=>∃o5 o6,ρ=[some M.w,some (.str M.nm),some (.tup (M.gd.map W.bl)),o3,some (dA t),o5,o6]/\s=s') (gw (ws:=t.map lI) kv) ⟨_,_,rfl,rfl⟩ #[9] ?_ ?_
  ·rintro i w ρ s hw ⟨o5,o6,rfl,rfl⟩
   obtain⟨r,hr,rfl⟩:=al.mp (ao hw)
   obtain⟨r1,r2⟩:=t2 r hr
   have rn:cR [lI r] s=.ok (.int (n:Nat)) s:=by unfold lI;rw[nD,ai,r1]
   refine⟨_,rfl,bU (dR (iD (b_ (j4 kv rfl rfl)) rfl) (b_ (bT (bu kn rn) (bu kn ln) (oB nn)))) (cz ?_)⟩
   refine lL (fun i ρ s'=>∃o6,ρ=[some M.w,some (.str M.nm),some (.tup (M.gd.map W.bl)),o3,some (dA t),some (lI r),o6]/\s'=s) (gw (ws:=r.map fun k=>W.int (k:Nat)) kv) ⟨_,rfl,rfl⟩ #[9] ?_ ?_
   ·rintro i w ρ s' hw ⟨o6,rfl,rfl⟩
    obtain⟨v,hv,rfl⟩:=al.mp (ao hw)
    have hv':=r2 v hv
    have c1:decide ((v:Int)<0)=false:=aZ #[0]
    have c2:decide ((n:Int)<=(v:Int))=false:=aZ #[0]
    have Dn:Om (.int ((v:Nat):Int)) (.int ((n:Nat):Int)) s'=.ok (.bl false) s':=EX c2
    exact⟨_,rfl,mL (dR (iD (b_ (j4 kv rfl rfl)) rfl) (dR (b_ (j4 kv rfl rfl)) (dR (b_ (bT kv dY (qU c1))) (b_ (bT kv (bu kn ln) Dn))))) ⟨_,_,rfl,_,rfl,rfl⟩⟩
   ·rintro ρ s' ⟨o6,rfl,rfl⟩
    exact⟨_,_,rfl,_,_,rfl,rfl⟩
  ·rintro ρ s ⟨o5,o6,rfl,rfl⟩
   exact⟨_,_,rfl,_,_,_,rfl,rfl⟩
 ·rintro ρ s' ⟨o4,o5,o6,rfl,rfl⟩
  exact eK dY ⟨_,_,rfl,rfl,[],by simp⟩
section
variable{T':Nat->Nat->Nat->Nat}{g g':Nat->Bool}{E:List Ro}
theorem jC.congr(h:jC T L N E)(hT:∀a x y,a<L->x<N->y<N->T a x y=T' a x y):jC T' L N E:=by
 refine⟨⟨h.told.zero,h.told.lt,h.told.nd,fun i e he hi=>?_,h.told.rise⟩,fun l r a hl hr ha el er h1 h2=>?_⟩
 ·obtain⟨q1,q2,el,er,q3,q4,q5,q6,q7⟩:=h.told.row i e he hi
  exact⟨q1,q2,el,er,q3,q4,q5,by rw[<- hT _ _ _ q5 (h.told.lt _ (ao q3)) (h.told.lt _ (ao q4))];exact q6,q7⟩
 ·rcases h.cov l r a hl hr ha el er h1 h2 with⟨i,e,q1,q2,q3⟩|⟨p,hp,_⟩
  ·exact .inl ⟨i,e,q1,by rw[<- hT _ _ _ ha (h.told.lt _ (ao h1)) (h.told.lt _ (ao h2))];exact q2,q3⟩
  ·cases hp
end
section
variable{M:Mc}{E:List Ro}{h:Nat->Nat}
abbrev Oq(E:List Ro)(h:Nat->Nat)(j:Nat):Ro:=E.getD (h j) (0,zW)
abbrev mB(M:Mc)(E:List Ro)(B h:Nat->Nat)(m:Nat):Mc:=vx M (E.map Prod.fst) B h m
theorem wR:(mB M E B h m).tb.length=M.tb.length:=by simp[vx]
theorem jK.m_le(l:jK M N E B h m rs):m<=N/\1<=m:=by
 have h1:=l.rm.len
 have h2:=l.can.len #[0]
 have h3:=l.full.told.len
 rw[ai]at h2
 have h4:=l.full.told.len0
 obtain⟨r,e⟩:=l.full.told.zero
 have:=(l.can.fst 0 0 (by rw[e];rfl)).1
 omega
theorem jK.at'(l:jK M N E B h m rs){j:Nat}(hj:j<m):(Oq E h j).1=oY (E.map Prod.fst) h j:=by
 obtain⟨h1,_,_⟩:=l.can.at' hj
 rw[ak]at h1
 obtain⟨e,he,h2⟩:=a_.mp h1
 unfold Oq
 rw[aD,he]
 exact h2
theorem jK.fullB(l:jK M N E B h m rs):jC (bg (mB M E B h m)) (mB M E B h m).tb.length m (rA E B (Oq E h) m):=by
 rw[wR]
 refine(l.last.quo l.full l.rm l.can).ok.congr fun a x y ha hx hy=>?_
 rw[rS ha hx hy,<- l.at' hx,<- l.at' hy];rfl
theorem wS:(rA E B (Oq E h) m).map Prod.fst=List.range m:=by
 unfold rA
 rw[aH]
 exact(bb fun _ _=>rfl).trans (kS _)
theorem jK.okB(l:jK M N E B h m rs):oX (mB M E B h m) m:=Nz l.rm l.can
theorem jK.gB(l:jK M N E B h m rs)(hj:j<m):gM (mB M E B h m) j=gM M (oY (E.map Prod.fst) h j):=by
 show((List.range m).map fun j=>gM M (oY (E.map Prod.fst) h j)).getD j false=_
 rw[aD,ak,bn hj];rfl
end
theorem Gx(z:Nat):∀l:List Nat,oP (.int (z:Nat)) (dg l)=some (decide (z∈l))
 |[]=>rfl
 |a::l=>by
  have ih:=Gx z l
  by_cases h:a=z
  ·subst h
   simp[oP,jz,ih]
  ·have h2:¬ z=a:=fun e=>h e.symm
   have h3:¬ ((a:Int)=(z:Int)):=by omega
   simp[oP,jz,ih,h2,h3]
theorem Gy:∀l:List Nat,depWs (dg l)<=63
 |[]=>by decide
 |a::l=>by
  have:=Gy l
  simp only[dg,aF,depWs,W.dep]at this ⊢
  omega
theorem QY{z:Nat}(h:S[n]?=some (.lst (dg l))):uV true (.int (z:Nat)) (.loc n) S=.ok (.bl (!decide (z∈l))) S:=by
 unfold uV
 simp only[h,Gx,Gy,dS]
theorem t_{l':List Nat}{a:Nat}(h:l <+: l')(e:l[i]?=some a):l'[i]?=some a:=by
 obtain⟨t,rfl⟩:=h
 rw[av (aa.mp e).1];exact e
structure Mt(M:Mc)(N:Nat)(mt:List Nat):Prop where
 zero:∃r,mt=0::r
 nd:mt.Nodup
 lt:∀a∈mt,a<N
 least:∀C:Nat->Prop,C 0->(∀k,k<M.tb.length->∀a b,C a->C b->C (bg M k a b))->∀a∈mt,C a
theorem Mt.len{M:Mc}(h:Mt M N mt):mt.length<=N:=by
 have:=h_ h.nd (l:=List.range N) fun c hc=>aT.mpr (h.lt c hc)
 rwa[cB]at this
noncomputable def uH(mt:List Nat)(z:Nat):List Nat:=if z∈mt then mt else mt++[z]
theorem nH(mt:List Nat)(z:Nat):mt <+: uH mt z:=by unfold uH;split;exact af _;exact aJ _ _
theorem yY(mt:List Nat)(z:Nat):z∈uH mt z:=by
 unfold uH;split
 ·assumption
 ·simp
theorem Mt.ext{M:Mc}(h:Mt M N mt){k a b:Nat}(hk:k<M.tb.length)(ha:a∈mt)(hb:b∈mt)(hN:bg M k a b<N):Mt M N (uH mt (bg M k a b)):=by
 unfold uH
 split
 ·exact h
 ·rename_i hn
  obtain⟨r,hr⟩:=h.zero
  refine⟨⟨r++[bg M k a b],by rw[hr];rfl⟩,?_,fun c hc=>?_,fun C c0 cc c hc=>?_⟩
  ·rw[c_]
   exact⟨h.nd,by simp,fun x hx y hy z=>by simp at hy;subst hy;subst z;exact hn hx⟩
  ·rcases a6.mp hc with z|z
   ·exact h.lt c z
   ·simp at z;subst z;exact hN
  ·rcases a6.mp hc with z|z
   ·exact h.least C c0 cc c z
   ·simp at z;subst z;exact cc k hk a b (h.least C c0 cc a ha) (h.least C c0 cc b hb)
section
variable{M:Mc}{st:List ah}
abbrev T2:FS:=(fg (ce (kZ (aj (e2 bM (e2 bM (ag 4) (e2 bM (ag 1) (ag 2))) (e2 bM (ag 1) (ag 3))) (aj (e2 bM (e2 bM (ag 4) (e2 bM (ag 1) (ag 3))) (e2 bM (ag 1) (ag 2))) aI)))) (eG 5) (iX (fQ (e2 (uV true) (ag 5) (ag 1))) (ga (uB dE (ag 1) (aj (ag 5) aI))) cK))
abbrev Uf:FS:=(fg (ce (e2 bM (ag 0) (eI 2))) (eG 4) T2)
theorem QZ(hM:oX M N)(hN:N<=1000){x:List ah}(hm:Mt M N mt){k q c o p:Nat}{t:List (List Nat)}(ht:M.tb[k]?=some t)(hc:mt[q]?=some c)(hq:mt[p]?=some o)(o5:Option W) :
  hU (IX fun ρ S=>∃mt' o5,mt <+: mt'/\Mt M N mt'/\bg M k c o∈mt'/\bg M k o c∈mt'/\ρ=[some M.w,some #[5],some (.int (q:Nat)),some (.int (p:Nat)),some (dA t),o5]/\S=st++.lst (dg mt')::x)
   (T2 [some M.w,some #[5],some (.int (q:Nat)),some (.int (p:Nat)),some (dA t),o5] (st++.lst (dg mt)::x)):=by
 have hk:k<M.tb.length:=(aa.mp ht).1
 have hcm:c∈mt:=ao hc
 have ho:o∈mt:=ao hq
 obtain⟨r1,a1,a2,a3⟩:=pU hM ht (hm.lt c hcm) (hm.lt o ho)
 obtain⟨r2,b1,b2,b3⟩:=pU hM ht (hm.lt o ho) (hm.lt c hcm)
 have cm:(st++.lst (dg mt)::x)[st.length]?=some (.lst (dg mt)):=by rw[cv];rfl
 have ic:bM #[5] (.int (q:Nat)) (st++.lst (dg mt)::x)=.ok (.int (c:Nat)) (st++.lst (dg mt)::x):=jo (aR cm) (eM (by rw[ak,hc];rfl))
 have io:bM #[5] (.int (p:Nat)) (st++.lst (dg mt)::x)=.ok (.int (o:Nat)) (st++.lst (dg mt)::x):=jo (aR cm) (eM (by rw[ak,hq];rfl))
 have one:∀{m1:List Nat} {z:Nat} (o5:Option W),m1.length<=1000->(iX (fQ (e2 (uV true) (ag 5) (ag 1))) (ga (uB dE (ag 1) (aj (ag 5) aI))) cK) [some M.w,some #[5],some (.int (q:Nat)),some (.int (p:Nat)),some (dA t),some (.int (z:Nat))] (st++.lst (dg m1)::x)=.nx [some M.w,some #[5],some (.int (q:Nat)),some (.int (p:Nat)),some (dA t),some (.int (z:Nat))] (st++.lst (dg (uH m1 z))::x):=fun{m1 z} _ hl=>by
  have c1:(st++.lst (dg m1)::x)[st.length]?=some (.lst (dg m1)):=by rw[cv];rfl
  have tsx:=b_ (bT (f:=uV true) (fa:=ag 5) (fb:=ag 1) (ρ:=[some M.w,some #[5],some (.int (q:Nat)),some (.int (p:Nat)),some (dA t),some (.int (z:Nat))]) kv kv (QY (z:=z) c1))
  unfold uH
  by_cases h:z∈m1
  ·rw[br h]at tsx
   rw[aw h]
   exact tF tsx qB
  ·rw[aZ h]at tsx
   rw[aC h]
   refine tD tsx ?_
   rw[hJ (rp (F:=dE) (iC (i:=1) rfl) (gT c1) (aA (fa:=ag 5) kv bF) (qV c1 (by rw[ai];show _<1000000;omega))),eJ]
   simp[dg]
 have e1:=hm.len
 have m1:=hm.ext hk hcm ho a3
 have G3:=m1.len
 have m2:=m1.ext hk ((nH _ _).subset ho) ((nH _ _).subset hcm) b3
 refine pT (k:=([W.int (bg M k c o:Nat),W.int (bg M k o c:Nat)],none)) (fun j ρ S=>∃o5,ρ=[some M.w,some #[5],some (.int (q:Nat)),some (.int (p:Nat)),some (dA t),o5]/\S=st++.lst (dg (([bg M k c o,bg M k o c].take j).foldl uH mt))::x) (gw (lH (aA (bT (bT kv (bT kv kv ic) (pV a1)) (bT kv kv io) (pW a2)) (aA (bT (bT kv (bT kv kv io) (pV b1)) (bT kv kv ic) (pW b2)) bF)) (by show 2<=1000000;decide))) ⟨o5,rfl,rfl⟩ #[9] ?_ ?_
 ·rintro j w ρ S hw ⟨o5,rfl,rfl⟩
  refine⟨_,rfl,?_⟩
  match j,hw with
  |0,hw=>
   cases hw
   exact⟨_,_,one (m1:=mt) none #[0],_,rfl,rfl⟩
  |1,hw=>
   cases hw
   exact⟨_,_,one (m1:=uH mt (bg M k c o)) none #[0],_,rfl,rfl⟩
 ·rintro ρ S ⟨o5,rfl,rfl⟩
  exact⟨_,_,rfl,_,o5,(nH _ _).trans (nH _ _),m2,(nH _ _).subset (yY _ _),yY _ _,rfl,rfl⟩
theorem Q0(hM:oX M N)(hN:N<=1000){x:List ah}(hm:Mt M N mt){q c o p:Nat}(hc:mt[q]?=some c)(hq:mt[p]?=some o)(o4 o5:Option W) :
  hU (IX fun ρ S=>∃mt' o4 o5,mt <+: mt'/\Mt M N mt'/\(∀k,k<M.tb.length->bg M k c o∈mt'/\bg M k o c∈mt')/\ρ=[some M.w,some #[5],some (.int (q:Nat)),some (.int (p:Nat)),o4,o5]/\S=st++.lst (dg mt')::x)
   (Uf [some M.w,some #[5],some (.int (q:Nat)),some (.int (p:Nat)),o4,o5] (st++.lst (dg mt)::x)):=by
 refine pT (k:=(M.tb.map dA,none)) (fun i ρ S=>∃mt' o4 o5,mt <+: mt'/\Mt M N mt'/\(∀k,k<i->bg M k c o∈mt'/\bg M k o c∈mt')/\ρ=[some M.w,some #[5],some (.int (q:Nat)),some (.int (p:Nat)),o4,o5]/\S=st++.lst (dg mt')::x) (gw kx) ⟨mt,o4,o5,af _,hm,fun k hk=>absurd hk (cE _),rfl,rfl⟩ #[9] ?_ ?_
 ·rintro i w ρ S hw ⟨mt',o4,o5,hp,hm',jd,rfl,rfl⟩
  rw[ak]at hw
  obtain⟨t,ht,rfl⟩:=a_.mp hw
  refine⟨_,rfl,?_⟩
  obtain⟨ρ2,S2,e,mt2,o5',p2,m2,z1,z2,rfl,rfl⟩:=QZ (st:=st) (x:=x) hM hN hm' ht (t_ hp hc) (t_ hp hq) o5
  refine⟨_,_,e,mt2,_,_,hp.trans p2,m2,fun k hk=>?_,rfl,rfl⟩
  rcases lw.mp hk with z|z
  ·exact⟨p2.subset (jd k z).1,p2.subset (jd k z).2⟩
  ·subst z;exact⟨z1,z2⟩
 ·rintro ρ S ⟨mt',o4,o5,hp,hm',jd,rfl,rfl⟩
  rw[ai]at jd
  exact⟨_,_,rfl,mt',o4,o5,hp,hm',jd,rfl,rfl⟩
theorem NE(hM:oX M N)(Ot:1<=N)(hN:N<64):∃(rs:List Nat) (j:Nat) (x:List ah),cY x/\yW M N rs/\x[j]?=some (.lst (dg rs))/\BA [M.w] st=.ok (.loc (st.length+j)) (st++x):=by
 have hN':N<=1000:=by omega
 suffices hh:hU (yw fun w bL=>∃j x,w=.loc (st.length+j)/\bL=st++x/\cY x/\∃rs,yW M N rs/\x[j]?=some (.lst (dg rs))) (KN ([M.w].map some++List.replicate (6-1) none) st) by
  obtain⟨j,x,⟨hn,rs,h1,h2⟩,e⟩:=kO hh
  exact⟨rs,j,x,hn,h1,h2,e⟩
 apply aS
 ·exact cx (nC (aA dY bF) (by show 1<=1000000;decide))
 apply aS
 ·exact cx dY
 have m0:Mt M N [0]:=⟨⟨[],rfl⟩,by simp,fun a ha=>by simp at ha;omega,fun C c0 _ a ha=>by simp at ha;subst ha;exact c0⟩
 refine qD (fun n ρ S=>∃q mt x o3 o4 o5,cY x/\n+q=N/\q<=mt.length/\Mt M N mt/\(∀i j a b,i<q->j<q->mt[i]?=some a->mt[j]?=some b->∀k,k<M.tb.length->bg M k a b∈mt)/\ρ=[some M.w,some #[5],some (.int (q:Nat)),o3,o4,o5]/\S=st++.lst (dg mt)::x) N ⟨0,[0],[],none,none,none,tX,by omega,by simp,m0,fun i j a b hi=>absurd hi (cE _),rfl,rfl⟩ ?_ ?_
 ·rintro n ρ S ⟨q,mt,x,o3,o4,o5,hnx,hnq,hq,hm,jd,rfl,rfl⟩
  have hlm:=hm.len
  have cm:(st++.lst (dg mt)::x)[st.length]?=some (.lst (dg mt)):=by rw[cv];rfl
  have ln:=jB (aR cm)
  rw[ai]at ln
  have tsx:fQ (e2 D9 (ag 2) (bh cR (aj (ag 1) aI))) [some M.w,some #[5],some (.int (q:Nat)),o3,o4,o5] (st++.lst (dg mt)::x)=.ok (decide (q<mt.length)) (st++.lst (dg mt)::x):=b_ (bT kv (bu kn ln) (qU (by rw[ij];simp)))
  by_cases ju:q<mt.length
  ·refine .inr ⟨by rw[tsx,br ju],?_⟩
   obtain⟨c,hc⟩:∃c,mt[q]?=some c:=⟨_,ae ju⟩
   refine dy (fun i ρ S=>∃mt' o3 o4 o5,mt <+: mt'/\Mt M N mt'/\(∀i' o,i'<i->mt[i']?=some o->i'<q+1->∀k,k<M.tb.length->bg M k c o∈mt'/\bg M k o c∈mt')/\ρ=[some M.w,some #[5],some (.int (q:Nat)),o3,o4,o5]/\S=st++.lst (dg mt')::x) (cX (q:=(q:Int)+1) (aA (bT kv dY il) bF) #[0]) ⟨mt,o3,o4,o5,af _,hm,fun i' o hi=>absurd hi (cE _),rfl,rfl⟩ #[9] ?_ ?_
   ·rintro i w ρ S hw ⟨mt',o3,o4,o5,hp,hm',hc',rfl,rfl⟩
    obtain⟨hi,rfl⟩:=fF hw
    rw[show((q:Int)+1).toNat=q+1 by omega]at hi
    rw[fM]
    obtain⟨o,ho'⟩:∃o,mt[i]?=some o:=⟨_,ae #[0]⟩
    refine⟨_,rfl,?_⟩
    obtain⟨ρ2,S2,e,mt2,o4',o5',p2,m2,z,rfl,rfl⟩:=Q0 (st:=st) (x:=x) hM hN' hm' (t_ hp hc) (t_ hp ho') o4 o5
    refine⟨_,_,e,mt2,_,_,_,hp.trans p2,m2,fun i' o' hi' he' At k hk=>?_,rfl,rfl⟩
    rcases lw.mp hi' with y|y
    ·exact⟨p2.subset (hc' i' o' y he' At k hk).1,p2.subset (hc' i' o' y he' At k hk).2⟩
    ·subst y;rw[ho']at he';cases he';exact z k hk
   ·rintro ρ S ⟨mt',o3,o4,o5,hp,hm',hc',rfl,rfl⟩
    rw[bQ,show((q:Int)+1).toNat=q+1 by omega]at hc'
    have hlm':=hm'.len
    refine⟨_,_,cx (bT kv dY il),n-1,by omega,q+1,mt',x,o3,o4,o5,hnx,by omega,?_,hm',fun i j a b hi hj ha hb k hk=>?_,by rw[show((q+1:Nat):Int)=(q:Int)+1 by omega];rfl,rfl⟩
    ·have:=hp.length_le;omega
    ·have old:∀{i a:Nat},i<q+1->mt'[i]?=some a->mt[i]?=some a:=fun{i a} hi he=>by
      have hl:i<mt.length:=by omega
      have:=t_ hp (ae hl)
      rw[he]at this;rw[ae hl,this]
     have nK:=old hi ha
     have uk:=old hj hb
     by_cases zi:i=q
     ·subst zi
      rw[hc]at nK;cases nK
      exact(hc' j b hj uk hj k hk).1
     ·by_cases zj:j=q
      ·subst zj
       rw[hc]at uk;cases uk
       exact(hc' i a hi nK hi k hk).2
      ·exact hp.subset (jd i j a b #[0] #[0] nK uk k hk)
  ·exact .inl (by rw[tsx,aZ ju])
 ·rintro n ρ S ⟨q,mt,x,o3,o4,o5,hnx,hnq,hq,hm,jd,rfl,rfl⟩ hf
  have cm:(st++.lst (dg mt)::x)[st.length]?=some (.lst (dg mt)):=by rw[cv];rfl
  have ln:=jB (aR cm)
  rw[ai]at ln
  have Dn:mt.length<=q:=by
   rcases ca q mt.length with z|z
   ·exact(Gk hf (b_ (bT kv (bu kn ln) (qU (br #[0]))))).elim
   ·exact z
  obtain⟨rs,h1,h2,h3⟩:=KY hm.nd
  have hlm:=hm.len
  have Hg:=BP cm (.inl #[0]) h1
  have hx:(st++ah.lst (dg mt)::x).length=st.length+(x.length+1):=by simp
  refine⟨_,_,oz (bu kn Hg),x.length+1,ah.lst (dg mt)::x++[.lst (dg rs)],by rw[hx],by simp,fj (rR (fun _=>rfl) hnx) (rR (fun _=>rfl) tX),rs,⟨h3,?_,fun a ha=>hm.lt a (h2.mem_iff.mp ha),fun k hk a ha b hb=>?_,fun C c0 cc a ha=>?_⟩,by simp⟩
  ·obtain⟨r,e⟩:=hm.zero
   exact h2.mem_iff.mpr (by rw[e];exact aM)
  ·obtain⟨i,hi⟩:=a9 (h2.mem_iff.mp ha)
   obtain⟨j,hj⟩:=a9 (h2.mem_iff.mp hb)
   exact h2.mem_iff.mpr (jd i j a b (by have:=(aa.mp hi).1;omega) (by have:=(aa.mp hj).1;omega) hi hj k hk)
  ·exact hm.least C c0 cc a (h2.mem_iff.mp ha)
end
section
variable{T':Nat->Nat->Nat->Nat}{N':Nat}{E:List Ro}
theorem jC.image(h:jC T L N E)(φ:Nat->Nat)(h0:φ 0=0)(ju:∀x,x<N->φ x<N')(Tq:∀x y,x<N->y<N->φ x=φ y->x=y)(hT:∀a x y,a<L->x<N->y<N->T' a (φ x) (φ y)=φ (T a x y)):jC T' L N' (E.map fun e=>(φ e.1,e.2)):=by
 have lt:=h.told.lt
 have at':∀{i:Nat} {e':Ro},(E.map fun e=>(φ e.1,e.2))[i]?=some e'->∃e,E[i]?=some e/\e'=(φ e.1,e.2):=fun{i e'} q=>by
  rw[ak]at q
  obtain⟨e,h1,h2⟩:=a_.mp q
  exact⟨e,h1,h2.symm⟩
 have to:∀{i:Nat} {e:Ro},E[i]?=some e->(E.map fun e=>(φ e.1,e.2))[i]?=some (φ e.1,e.2):=fun q=>by rw[ak,q];rfl
 refine⟨⟨?_,fun e he=>?_,?_,fun i e he hi=>?_,fun i e f he hf=>?_⟩,fun l r a hl hr ha el er h1 h2=>?_⟩
 ·obtain⟨r,e⟩:=h.told.zero
  exact⟨r.map fun e=>(φ e.1,e.2),by rw[e,aF,h0]⟩
 ·obtain⟨f,hf,rfl⟩:=al.mp he
  exact ju _ (lt f hf)
 ·rw[aH]
  refine eL.mpr ((eL.mp h.told.nd).imp_of_mem fun{a b} ha hb lN z=>lN (Tq _ _ (lt _ ha) (lt _ hb) z))
 ·obtain⟨f,hf,rfl⟩:=at' he
  obtain⟨q1,q2,el,er,q3,q4,q5,q6,q7⟩:=h.told.row i f hf hi
  refine⟨q1,q2,_,_,to q3,to q4,q5,?_,q7⟩
  show T' _ (φ el.1) (φ er.1)=φ f.1
  rw[hT _ _ _ q5 (lt _ (ao q3)) (lt _ (ao q4))]
  exact cL φ q6
 ·obtain⟨e1,k1,rfl⟩:=at' he
  obtain⟨e2,k2,rfl⟩:=at' hf
  exact h.told.rise i e1 e2 k1 k2
 ·obtain⟨e1,k1,rfl⟩:=at' h1
  obtain⟨e2,k2,rfl⟩:=at' h2
  rcases h.cov l r a (by simpa using hl) (by simpa using hr) ha e1 e2 k1 k2 with⟨i,e,q1,q2,q3⟩|⟨p,hp,_⟩
  ·refine .inl ⟨i,_,to q1,?_,q3⟩
   show φ e.1=T' a (φ e1.1) (φ e2.1)
   rw[hT _ _ _ ha (lt _ (ao k1)) (lt _ (ao k2)),q2]
  ·cases hp
end
section
variable{M:Mc}{E:List Ro}{h:Nat->Nat}
abbrev fs(E:List Ro):List Nat:=E.map Prod.fst
theorem jK.rso(l:jK M N E B h m rs):yW M N rs:=KZ l.full.told l.full.cov l.perm l.up
theorem jK.mem(l:jK M N E B h m rs){a:Nat}:a∈fs E↔a∈rs:=l.perm.mem_iff.symm
theorem jK.z(l:jK M N E B h m rs):0∈fs E:=l.mem.mpr l.rso.zero
theorem jK.least(l:jK M N E B h m rs)(C:Nat->Prop)(c0:C 0)(cc:∀k,k<M.tb.length->∀a b,a∈fs E->b∈fs E->C a->C b->C (bg M k a b)):∀a∈fs E,C a:=fun a ha=>
 (l.rso.least (fun a=>a∈fs E/\C a) ⟨l.z,c0⟩ (fun k hk a b x y=>⟨l.rm.cl k hk a x.1 b y.1,cc k hk a b x.1 y.1 x.2 y.2⟩) a (l.mem.mp ha)).2
theorem jK.blt(l:jK M N E B h m rs){a:Nat}(ha:a∈fs E):B a<m:=by
 obtain⟨i,hi⟩:=a9 ha
 exact(l.can.fst i a hi).1
theorem jK.b0(l:jK M N E B h m rs):B 0=0:=by
 have q:=l.last.quo l.full l.rm l.can
 obtain⟨z1,z2,z3⟩:=q.zero
 have:=(q.at' 0 z1).2
 rw[z3]at this
 exact this
theorem jK.eq_iff(l:jK M N E B h m rs){a b:Nat}(ha:a∈fs E)(hb:b∈fs E):B a=B b↔∀s,Dd M (fs E) s a b=false:=by
 refine⟨fun e s=>l.last.st l.rm s a b ha hb e,fun z=>?_⟩
 obtain⟨s,b0,_⟩:=l.last.ok
 exact(b0 a ha b hb).mpr (z s)
theorem jK.good(l:jK M N E B h m rs){a b:Nat}(ha:a∈fs E)(hb:b∈fs E)(e:B a=B b):gM M a=gM M b:=by
 have:=(l.eq_iff ha hb).mp e 0
 have h2:(gM M a != gM M b)=false:=this
 exact bne_eq_false_iff_eq.mp h2
end
structure Df(M2 M1:Mc)(F2 F1:List Nat)(S:Nat->Nat->Prop):Prop where
 zero:S 0 0
 step:∀k a b a' b',k<M1.tb.length->a∈F2->b∈F2->a'∈F1->b'∈F1->S a a'->S b b'->S (bg M2 k a b) (bg M1 k a' b')
 good:∀a a',a∈F2->a'∈F1->S a a'->gM M2 a=gM M1 a'
 nm:M2.nm=M1.nm
 len:M2.tb.length=M1.tb.length
section
variable{M2 M1:Mc}{N2 N1 m2 m1:Nat}{E2 E1:List Ro}{B2 h2 B1 h1:Nat->Nat}{Ra Rs:List Nat}{S:Nat->Nat->Prop}
theorem Df.to(q:Df M2 M1 (fs E2) (fs E1) S)(l2:jK M2 N2 E2 B2 h2 m2 Ra)(l1:jK M1 N1 E1 B1 h1 m1 Rs):∀a∈fs E2,∃a',a'∈fs E1/\S a a':=
 l2.least (fun a=>∃a',a'∈fs E1/\S a a') ⟨0,l1.z,q.zero⟩ fun k hk a b ha hb x y=>by
  obtain⟨a',x1,x2⟩:=x
  obtain⟨b',y1,y2⟩:=y
  rw[q.len]at hk
  exact⟨_,l1.rm.cl k hk a' x1 b' y1,q.step k a b a' b' hk ha hb x1 y1 x2 y2⟩
theorem Df.fro(q:Df M2 M1 (fs E2) (fs E1) S)(l2:jK M2 N2 E2 B2 h2 m2 Ra)(l1:jK M1 N1 E1 B1 h1 m1 Rs):∀a'∈fs E1,∃a,a∈fs E2/\S a a':=
 l1.least (fun a'=>∃a,a∈fs E2/\S a a') ⟨0,l2.z,q.zero⟩ fun k hk a' b' ha hb x y=>by
  obtain⟨a,x1,x2⟩:=x
  obtain⟨b,y1,y2⟩:=y
  exact⟨_,l2.rm.cl k (by rw[q.len];exact hk) a x1 b y1,q.step k a b a' b' hk x1 y1 ha hb x2 y2⟩
theorem Df.led(q:Df M2 M1 (fs E2) (fs E1) S){p p':Nat×Nat×Nat}(e1:p.1=p'.1)(e2:p.2.1=p'.2.1)(hk:p'.1<M1.tb.length)(t2:p.2.2∈fs E2)(t1:p'.2.2∈fs E1)(ts:S p.2.2 p'.2.2){a a':Nat}(ha:a∈fs E2)(nK:a'∈fs E1)(hs:S a a'):S (led (bg M2) p a) (led (bg M1) p' a'):=by
 obtain⟨k,d,t⟩:=p
 obtain⟨k',d',t'⟩:=p'
 simp only at e1 e2 hk t2 t1 ts
 subst e1;subst e2
 unfold P.led
 by_cases z:d=0
 ·simp only[z,dS]
  exact q.step _ _ _ _ _ hk ha t2 nK t1 hs ts
 ·simp only[z,eR]
  exact q.step _ _ _ _ _ hk t2 ha t1 nK ts hs
theorem Df.ap(q:Df M2 M1 (fs E2) (fs E1) S)(l2:jK M2 N2 E2 B2 h2 m2 Ra)(l1:jK M1 N1 E1 B1 h1 m1 Rs):∀(s a b a' b':Nat),a∈fs E2->b∈fs E2->a'∈fs E1->b'∈fs E1->S a a'->S b b'->(Dd M2 (fs E2) s a b=false↔Dd M1 (fs E1) s a' b'=false)
 |0,a,b,a',b',ha,hb,nK,uk,sa,sb=>by
  show(gM M2 a != gM M2 b)=false↔(gM M1 a' != gM M1 b')=false
  rw[q.good a a' ha nK sa,q.good b b' hb uk sb]
 |s+1,a,b,a',b',ha,hb,nK,uk,sa,sb=>by
  have ih:=q.ap l2 l1 s
  constructor
  ·intro z
   obtain⟨z1,z2⟩:=nF z
   refine yT ((ih a b a' b' ha hb nK uk sa sb).mp z1) fun p' hp'=>?_
   obtain⟨p1,p2,p3⟩:=nV.mp hp'
   obtain⟨t,t1,t2⟩:=q.fro l2 l1 _ p3
   have hp:(p'.1,p'.2.1,t)∈qH M2.tb.length (fs E2):=nV.mpr ⟨by rw[q.len];exact p1,p2,t1⟩
   exact(ih _ _ _ _ (l2.rm.led hp ha) (l2.rm.led hp hb) (l1.rm.led hp' nK) (l1.rm.led hp' uk) (q.led (p:=(p'.1,p'.2.1,t)) (p':=p') rfl rfl p1 t1 p3 t2 ha nK sa) (q.led (p:=(p'.1,p'.2.1,t)) (p':=p') rfl rfl p1 t1 p3 t2 hb uk sb)).mp (z2 _ hp)
  ·intro z
   obtain⟨z1,z2⟩:=nF z
   refine yT ((ih a b a' b' ha hb nK uk sa sb).mpr z1) fun p hp=>?_
   obtain⟨p1,p2,p3⟩:=nV.mp hp
   obtain⟨t,t1,t2⟩:=q.to l2 l1 _ p3
   have p1':p.1<M1.tb.length:=by rw[<- q.len];exact p1
   have hp':(p.1,p.2.1,t)∈qH M1.tb.length (fs E1):=nV.mpr ⟨p1',p2,t1⟩
   exact(ih _ _ _ _ (l2.rm.led hp ha) (l2.rm.led hp hb) (l1.rm.led hp' nK) (l1.rm.led hp' uk) (q.led (p:=p) (p':=(p.1,p.2.1,t)) rfl rfl p1' p3 t1 t2 ha nK sa) (q.led (p:=p) (p':=(p.1,p.2.1,t)) rfl rfl p1' p3 t1 t2 hb uk sb)).mpr (z2 _ hp')
theorem Df.eqB(q:Df M2 M1 (fs E2) (fs E1) S)(l2:jK M2 N2 E2 B2 h2 m2 Ra)(l1:jK M1 N1 E1 B1 h1 m1 Rs){a b a' b':Nat}(ha:a∈fs E2)(hb:b∈fs E2)(nK:a'∈fs E1)(uk:b'∈fs E1)(sa:S a a')(sb:S b b'):B2 a=B2 b↔B1 a'=B1 b':=by
 rw[l2.eq_iff ha hb,l1.eq_iff nK uk]
 exact⟨fun z s=>(q.ap l2 l1 s a b a' b' ha hb nK uk sa sb).mp (z s),fun z s=>(q.ap l2 l1 s a b a' b' ha hb nK uk sa sb).mpr (z s)⟩
theorem Df.one(q:Df M2 M1 (fs E2) (fs E1) S)(l2:jK M2 N2 E2 B2 h2 m2 Ra)(l1:jK M1 N1 E1 B1 h1 m1 Rs) :
  (∀a a',a∈fs E2->a'∈fs E1->S a a'->B2 a=B1 a')/\m2=m1/\mB M2 E2 B2 h2 m2=mB M1 E1 B1 h1 m1:=by
 have ch:∀j,∃c,j<m2->c∈fs E1/\S (oY (fs E2) h2 j) c:=fun j=>by
  by_cases hj:j<m2
  ·obtain⟨c,c1,c2⟩:=q.to l2 l1 _ (l2.can.at' hj).2.1
   exact⟨c,fun _=>⟨c1,c2⟩⟩
  ·exact⟨0,fun z=>absurd z hj⟩
 obtain⟨c,hc⟩:=Classical.skolem.mp ch
 obtain⟨φ,hφ⟩:∃φ:Nat->Nat,∀j,φ j=B1 (c j):=⟨fun j=>B1 (c j),fun _=>rfl⟩
 have key:∀a a',a∈fs E2->a'∈fs E1->S a a'->φ (B2 a)=B1 a':=fun a a' ha nK sa=>by
  have hl:=l2.blt ha
  obtain⟨_,g1,g2⟩:=l2.can.at' hl
  obtain⟨c1,c2⟩:=hc _ hl
  rw[hφ]
  exact(q.eqB l2 l1 g1 ha c1 nK c2 sa).mp g2
 have len1:M1.tb.length=M2.tb.length:=q.len.symm
 have fB:jC (bg (mB M1 E1 B1 h1 m1)) M1.tb.length m1 ((rA E2 B2 (Oq E2 h2) m2).map fun e=>(φ e.1,e.2)):=by
  have f2:=l2.fullB
  rw[wR,q.len]at f2
  refine f2.image φ ?_ ?_ ?_ ?_
  ·have:=key 0 0 l2.z l1.z q.zero
   rw[l2.b0,l1.b0]at this;exact this
  ·intro x hx
   rw[hφ];exact l1.blt (hc x hx).1
  ·intro x y hx hy z
   rw[hφ,hφ]at z
   have:=(q.eqB l2 l1 (l2.can.at' hx).2.1 (l2.can.at' hy).2.1 (hc x hx).1 (hc y hy).1 (hc x hx).2 (hc y hy).2).mpr z
   rw[(l2.can.at' hx).2.2,(l2.can.at' hy).2.2]at this
   exact this
  ·intro k x y hk hx hy
   obtain⟨x1,x2⟩:=hc x hx
   obtain⟨y1,y2⟩:=hc y hy
   have qh:φ x<m1:=by rw[hφ];exact l1.blt x1
   have zf:φ y<m1:=by rw[hφ];exact l1.blt y1
   rw[rS hk qh zf,rS (by rw[q.len];exact hk) hx hy,key _ _ (l2.rm.cl k (by rw[q.len];exact hk) _ (l2.can.at' hx).2.1 _ (l2.can.at' hy).2.1) (l1.rm.cl k hk _ x1 _ y1) (q.step k _ _ _ _ hk (l2.can.at' hx).2.1 (l2.can.at' hy).2.1 x1 y1 x2 y2)]
   refine l1.last.cg l1.rm hk (l1.can.at' qh).2.1 x1 (l1.can.at' zf).2.1 y1 ?_ ?_
   ·rw[(l1.can.at' qh).2.2,hφ]
   ·rw[(l1.can.at' zf).2.2,hφ]
 have f1:=l1.fullB
 rw[wR]at f1
 have ee:=cL (List.map Prod.fst) (fB.uniq f1)
 rw[wS,aH]at ee
 have e3:(rA E2 B2 (Oq E2 h2) m2).map (Prod.fst∘fun e=>(φ e.1,e.2))=(List.range m2).map φ:=by
  rw[<- wS (E:=E2) (B:=B2) (h:=h2) (m:=m2),aH];rfl
 rw[e3]at ee
 have hm:m2=m1:=by have:=cL List.length ee;simpa using this
 have hid:∀j,j<m2->φ j=j:=fun j hj=>by
  have:=cL (fun l:List Nat=>l[j]?) ee
  simp only[ak,bn hj,bn (hm▸hj)]at this
  exact aU this
 have hB:∀a a',a∈fs E2->a'∈fs E1->S a a'->B2 a=B1 a':=fun a a' ha nK sa=>by
  rw[<- key a a' ha nK sa,hid _ (l2.blt ha)]
 refine⟨hB,hm,?_⟩
 subst hm
 have bc:∀j,j<m2->B1 (c j)=B1 (oY (fs E1) h1 j):=fun j hj=>by
  rw[(l1.can.at' hj).2.2,<- hφ,hid j hj]
 unfold mB vx
 rw[Mc.mk.injEq]
 refine⟨q.nm,bb fun j hj=>?_,?_⟩
 ·have hj:=aT.mp hj
  rw[q.good _ _ (l2.can.at' hj).2.1 (hc j hj).1 (hc j hj).2]
  exact l1.good (hc j hj).1 (l1.can.at' hj).2.1 (bc j hj)
 ·rw[q.len]
  refine bb fun k hk=>bb fun x hx=>bb fun y hy=>?_
  have hk:=aT.mp hk
  have hx:=aT.mp hx
  have hy:=aT.mp hy
  obtain⟨x1,x2⟩:=hc x hx
  obtain⟨y1,y2⟩:=hc y hy
  rw[hB _ _ (l2.rm.cl k (by rw[q.len];exact hk) _ (l2.can.at' hx).2.1 _ (l2.can.at' hy).2.1) (l1.rm.cl k hk _ x1 _ y1) (q.step k _ _ _ _ hk (l2.can.at' hx).2.1 (l2.can.at' hy).2.1 x1 y1 x2 y2)]
  exact l1.last.cg l1.rm hk x1 (l1.can.at' hx).2.1 y1 (l1.can.at' hy).2.1 (bc x hx) (bc y hy)
end
theorem Gz(l:List Nat)(k:Nat)(st:List ah):j8 (k+1) [.str l,.str l] st=.ok (.bl true) st:=by
 refine hV (N:=3) (ws:=[.str l,.str l]) (body:=yI (j8 k)) ?_ rfl
 (walk_at "go")
 apply eK
 ·apply nT
  ·(walk_at "evs")
  ·(walk_at "evs")
 ·exact⟨_,_,rfl,by simp,[],by simp⟩
theorem nI{k:Nat}{st:List ah}(hl:ws.length<=1000)(h:∀w∈ws,j8 k [w,w] st=.ok (.bl true) st):j8 (k+1) [.tup ws,.tup ws] st=.ok (.bl true) st:=by
 refine hV (N:=3) (ws:=[.tup ws,.tup ws]) (body:=yI (j8 k)) ?_ rfl
 apply jb
 ·(walk_at "evs")
 apply vf
 apply bU
 ·apply dR
  ·(walk_at "evs")
  ·(walk_at "evs")
   simp
 apply cz
 apply vf
 refine dy (fun i ρ bL=>∃o,ρ=[some (.tup ws),some (.tup ws),o]/\bL=st) (cX (by(walk_at "evs")) #[0]) ⟨none,rfl,rfl⟩ #[9] ?_ ?_
 ·rintro i w ρ bL hw ⟨o,rfl,rfl⟩
  obtain⟨hi,rfl⟩:=fF hw
  refine⟨_,rfl,?_⟩
  have hi':i<ws.length:=by simpa using hi
  have hat:bM (.tup ws) (.int (0+(i:Int))) bL=.ok ws[i] bL:=gk (by rw[fM];exact eM (by simp[hi']))
  have hs:=h ws[i] (gY _)
  apply mL
  ·(walk_at "evs")
  apply ja
  ·(walk_at "evs")
  ·exact⟨_,_,rfl,_,rfl,rfl⟩
 ·rintro ρ bL ⟨o,rfl,rfl⟩
  apply iE
  ·(walk_at "evs")
  ·exact⟨_,_,rfl,rfl,[],by simp⟩
theorem Dg(b:Bool)(k:Nat)(st:List ah):j8 (k+1) [.bl b,.bl b] st=.ok (.bl true) st:=by
 have hb:pd (.bl b) (.bl b) st=.ok (.bl true) st:=Kd #[7]
 refine hV (N:=3) (ws:=[.bl b,.bl b]) (body:=yI (j8 k)) ?_ rfl
 apply bU
 ·(walk_at "evs")
 apply cz
 apply bU
 ·(walk_at "evs")
 apply cz
 apply jb
 ·(walk_at "evs")
 apply iE
 ·apply nT
  ·(walk_at "evs")
  ·(walk_at "evs")
 ·exact⟨_,_,rfl,rfl,[],by simp⟩
theorem GA(z:Int)(k:Nat)(st:List ah):j8 (k+1) [.int z,.int z] st=.ok (.bl true) st:=by
 have hb:pd (.int z) (.int z) st=.ok (.bl true) st:=oA #[7]
 refine hV (N:=3) (ws:=[.int z,.int z]) (body:=yI (j8 k)) ?_ rfl
 apply bU
 ·(walk_at "evs")
 apply cz
 apply bU
 ·(walk_at "evs")
 apply cz
 apply bU
 ·(walk_at "evs")
 apply cz
 apply jb
 ·(walk_at "evs")
 apply iE
 ·apply nT
  ·(walk_at "evs")
  ·apply nT
   ·(walk_at "evs")
   ·(walk_at "evs")
 ·exact⟨_,_,rfl,by simp,[],by simp⟩
theorem Jw(M:Mc)(k:Nat)(h1:M.gd.length<=1000)(h2:M.tb.length<=1000)(h3:∀t∈M.tb,t.length<=1000/\∀r∈t,r.length<=1000)(st:List ah):j8 (k+5) [M.w,M.w] st=.ok (.bl true) st:=
 nI (k:=k+4) #[7] fun w hw=>by
  simp at hw
  rcases hw with rfl|rfl|rfl
  ·exact Gz _ _ _
  ·refine nI (k:=k+3) (by simpa using h1) fun w hw=>?_
   obtain⟨b,_,rfl⟩:=al.mp hw
   exact Dg _ _ _
  ·refine nI (k:=k+3) (by simpa using h2) fun w hw=>?_
   obtain⟨t,ht,rfl⟩:=al.mp hw
   obtain⟨t1,t2⟩:=h3 t ht
   refine nI (k:=k+2) (by simpa using t1) fun w hw=>?_
   obtain⟨r,hr,rfl⟩:=al.mp hw
   refine nI (k:=k+1) (by simpa using t2 r hr) fun w hw=>?_
   obtain⟨z,_,rfl⟩:=al.mp hw
   exact GA _ _ _
section
variable{M:Mc}{E:List Ro}{h:Nat->Nat}
theorem jK.hom(l:jK M N E B h m rs){k a b:Nat}(hk:k<M.tb.length)(ha:a∈fs E)(hb:b∈fs E):bg (mB M E B h m) k (B a) (B b)=B (bg M k a b):=by
 rw[rS hk (l.blt ha) (l.blt hb)]
 exact l.last.cg l.rm hk (l.can.at' (l.blt ha)).2.1 ha (l.can.at' (l.blt hb)).2.1 hb (l.can.at' (l.blt ha)).2.2 (l.can.at' (l.blt hb)).2.2
theorem jK.gdB(l:jK M N E B h m rs){a:Nat}(ha:a∈fs E):gM (mB M E B h m) (B a)=gM M a:=by
 rw[l.gB (l.blt ha)]
 exact l.good (l.can.at' (l.blt ha)).2.1 ha (l.can.at' (l.blt ha)).2.2
theorem jK.self(l:jK M N E B h m rs)(F:List Nat):Df (mB M E B h m) M F (fs E) (fun i a=>i=B a):=by
 refine⟨l.b0.symm,fun k a b a' b' hk _ _ nK uk ea eb=>?_,fun a a' _ nK ea=>?_,rfl,wR⟩
 ·subst ea;subst eb;exact l.hom hk nK uk
 ·subst ea;exact l.gdB nK
variable{m3:Nat}{E3:List Ro}{B3 h3:Nat->Nat}{Rt:List Nat}
theorem jK.twice(l:jK M N E B h m rs)(l3:jK (mB M E B h m) m E3 B3 h3 m3 Rt):t9 (mB M E B h m) E3 B3 h3 m3 Rt=.tup [(mB M E B h m).w,fT (fun j=>j) (List.range m)]:=by
 obtain⟨hB,hm,hq⟩:=(l.self (fs E3)).one l3 l
 have eE:fs E3=List.range m:=by
  have:=l3.full.uniq l.fullB
  rw[this];exact wS
 have er:Rt=List.range m:=qw l3.up mE fun a=>by rw[<- l3.mem,eE]
 unfold t9
 rw[show vx (mB M E B h m) (E3.map Prod.fst) B3 h3 m3=mB M E B h m from hq,er]
 congr 3
 unfold fT
 congr 1
 refine bb fun i hi=>?_
 have hi':=aT.mp hi
 have e:=(l.can.at' hi').2.2
 have:=hB i _ (by rw[eE];exact hi) (l.can.at' hi').2.1 e.symm
 rw[this,e]
variable{N4 m4:Nat}{E4:List Ro}{B4 h4:Nat->Nat}{UA:List Nat}
end
theorem GB{M:Mc}(hM:oX M n)(hn:n<=100)(hL:M.tb.length<=64)(k:Nat)(st:List ah):j8 (k+5) [M.w,M.w] st=.ok (.bl true) st:=by
 refine Jw M k (by rw[hM.gd];omega) #[0] (fun t ht=>?_) st
 obtain⟨t1,t2⟩:=hM.t t ht
 exact⟨by omega,fun r hr=>by rw[(t2 r hr).1];omega⟩
theorem Q1{c:Nat}{st:List ah}:uV false (.str [c]) (.str l) st=.ok (.bl (decide (c∈l))) st:=rfl
theorem Jx{st st1:List ah}(h:fe ρ st=.ok (.str l) st1):ce fe ρ st=.ok (l_ l,none) st1:=by unfold ce;rw[h];rfl
theorem GC{w:W}(h:(l_ l)[i]?=some w):∃c,l[i]?=some c/\w=.str [c]:=by
 simp only[l_,ak,a_]at h
 obtain⟨c,h1,rfl⟩:=h
 exact⟨c,h1,rfl⟩
theorem Dh(l:List Nat):(l_ l).length=l.length:=by simp[l_]
theorem Di{l:List α}{c:α}(h:l[i]?=some c):l.take (i+1)=l.take i++[c]:=by
 rw[List.take_succ,h];rfl
noncomputable def yZ(m:List Nat)(l:List Nat):Nat:=l.foldl (fun a c=>2*a+if c∈m then 1 else 0) 0
theorem Dj(m l:List Nat)(c:Nat):yZ m (l++[c])=2*yZ m l+if c∈m then 1 else 0:=by unfold yZ;rw[List.foldl_append];rfl
theorem Jy(m:List Nat)(l:List Nat):yZ m l<2^l.length:=by
 have key:∀(l:List Nat) (a k:Nat),a<2^k->l.foldl (fun a c=>2*a+if c∈m then 1 else 0) a<2^(k+l.length):=by
  intro l
  induction l with
  |nil=>intro a k h;simpa using h
  |cons c r ih=>
   intro a k h
   have:=ih (2*a+if c∈m then 1 else 0) (k+1) (by rw[Nat.pow_succ];split<;>omega)
   rw[List.foldl_cons,bz,show k+(r.length+1)=k+1+r.length by omega];exact this
 have:=key l 0 0 #[7]
 simpa[yZ]using this
theorem An(names m:List Nat)(st:List ah):yK [.str names,.str m] st=.ok (.int (yZ m names:Nat)) st:=by
 refine hV (N:=4) (ws:=[.str names,.str m]) (body:=KL) ?_ rfl
 apply aS
 ·(walk_at "evs")
 refine dy (fun i ρ s=>∃o3:Option W,ρ=[some (.str names),some (.str m),some (.int (yZ m (names.take i):Nat)),o3]/\s=st) (Jx (st1:=st) kv) ⟨none,rfl,rfl⟩ #[9] ?_ ?_
 ·rintro i w ρ s hw ⟨o3,rfl,rfl⟩
  obtain⟨c,hc,rfl⟩:=GC hw
  refine⟨_,rfl,?_⟩
  have e:=Dj m (names.take i) c
  rw[<- Di hc]at e
  have bi:Ee [.bl (decide (c∈m))] s=.ok (.int ((if c∈m then 1 else 0:Nat):Int)) s:=by
   by_cases h:c∈m
   ·rw[br h,aw h];rfl
   ·rw[aZ h,aC h];rfl
  apply ja
  ·exact cx (bT (bT dY kv (wt (.inl #[8]))) (bu (aA (bT kv kv Q1) bF) bi) il)
  ·exact⟨_,_,rfl,_,by rw[e,ik,ig];rfl,rfl⟩
 ·rintro ρ s ⟨o3,rfl,rfl⟩
  apply eK
  ·(walk_at "evs")
  ·exact⟨_,_,rfl,by rw[show(l_ names,(none:Option (Nat×List W))).fst.length=names.length from Dh names,eY],[],by simp⟩
noncomputable def GD:W->Nat
 |.int i=>i.toNat
 |_=>0
theorem GE(p6:List Nat)(hp:p6.length<=50)(d:Int)(st:List ah):∃m:List Nat,m.length<=50/\By [.str p6,.int d] st=.ok (.str m) st:=by
 let T:W->Bool:=fun w=>Builtin.bitAnd (d/2^(GD w)) 1==1
 let yl:W->List Nat:=fun w=>[p6.getD (GD w) 0]
 have hL:p6.length<=kE:=by show _<=1000000;omega
 obtain⟨ls,hls⟩:∃ls,ls=((bt 0 p6.length).filter T).map yl:=⟨_,rfl⟩
 have d7:ls.length<=50:=by
  rw[hls,ai]
  refine a8 (i5 _ _) ?_
  rw[bQ];omega
 have G8:∀x∈ls,x.length=1:=by
  rw[hls];intro x hx
  obtain⟨w,_,rfl⟩:=al.mp hx;rfl
 have hsum:∀l:List (List Nat),(∀x∈l,x.length=1)->(l.map List.length).sum=l.length:=by
  intro l
  induction l with
  |nil=>intro;rfl
  |cons x r ih=>
   intro h
   simp only[aF,lu,bz]
   rw[h x #[7],ih fun y hy=>h y (by simp[hy])];omega
 have hc:cW [none,some 0,some 1] (bp (aj (bh cR (aj (ag 0) aI)) aI)) (eG 0) (fQ (e2 pd (e2 AR (e2 Ih (ag 2) (ag 0)) (eI 1)) (eI 1))) (e2 bM (ag 1) (ag 0)) [some (.str p6),some (.int d)] st=.ok #[5] (st++[.lst (ls.map W.str)]):=by
  have:=EZ (fi:=bp (aj (bh cR (aj (ag 0) aI)) aI)) (f:=eG 0) (t:=fQ (e2 pd (e2 AR (e2 Ih (ag 2) (ag 0)) (eI 1)) (eI 1))) (el:=e2 bM (ag 1) (ag 0)) (cap:=[none,some 0,some 1]) (ρ:=[some (.str p6),some (.int d)]) (st:=st) (st1:=st) (ws:=bt 0 p6.length) (ck:=none) T (fun w=>.str (yl w))
   (by
    have:=cX (fs:=aj (bh cR (aj (ag 0) aI)) aI) (ρ:=[some (.str p6),some (.int d)]) (st:=st) (st1:=st) (q:=(p6.length:Int)) (aA (bu kn (qC hL)) bF) #[0]
    rw[aG]at this
    exact this) (by rw[bQ];show _<=1000000;omega) trivial ?_
  ·rw[this,hls,aH];rfl
  ·intro w hw
   obtain⟨i,hi,rfl⟩:=vg hw
   have ei:GD (.int (0+(i:Int)))=i:=by simp[GD]
   refine⟨[some (.int (0+(i:Int))),some (.str p6),some (.int d)],rfl,?_,fun _=>?_⟩
   ·have h0:(0:Int)<=0+(i:Int):=by omega
    have hk:(Builtin.bitAnd (d/2^(0+(i:Int)).toNat) 1==1)=T (.int (0+(i:Int))):=rfl
    exact b_ (bT (bT (bT kv kv (oU h0)) dY (oU trivial)) dY (oA hk))
   ·refine bT kv kv ?_
    rw[show((0:Int)+(i:Int))=(i:Int) by omega]
    have e2:n_ p6 (i:Int)=some (p6.getD i 0):=eM (by rw[aD,ae hi];rfl)
    rw[Kc hL e2]
    simp[yl,GD]
 have fC:lstOf (st++[ah.lst (ls.map W.str)]) st.length=some (ls.map W.str):=aR (by rw[cv];rfl)
 have hs:=yM fC #[0]
 have hcell2:lstOf (st++[ah.lst (ls.map W.str)]++[ah.lst ((fJ ls).map W.str)]) (st++[ah.lst (ls.map W.str)]).length=some ((fJ ls).map W.str):=aR (by rw[cv];rfl)
 have hsl:(fJ ls).length=ls.length:=(gI ls).length_eq
 have hss:((fJ ls).map List.length).sum=ls.length:=by rw[pR (gI ls),hsum ls G8]
 have hj:=Ab (sep:=[]) hcell2 (by rw[hss];show _<=1000000;simp;omega)
 refine⟨ng [] (fJ ls),?_,?_⟩
 ·rw[qo,List.length_flatten,hss];omega
 ·refine hV (N:=2) (ws:=[.str p6,.int d]) (body:=KJ) ?_ rfl
  apply eK
  ·exact IW dY rfl (aA (bu (aA hc bF) hs) bF) hj
  ·exact⟨_,_,rfl,rfl,_,by rw[az]⟩
theorem uc{f:FG}{ρ0:cu}(Y:W->W):∀(ws acc:List W) (s:List ah),(∀x,iY (s++x) ck)->(∀w∈ws,∀x,∃ρ' y,f w ρ0=some ρ'/\el ρ' (s++x)=.ok (Y w) (s++x++y)/\cY y) ->
  ∃z,mJ f gG el ck ρ0 ws acc s=.ok (acc++ws.map Y) (s++z)/\cY z
 |[],acc,s,hc,_=>by
  have:=hc [];rw[bO]at this
  refine⟨[],?_,tX⟩
  unfold mJ;rw[aw this];simp
 |w::ws,acc,s,hc,h=>by
  obtain⟨ρ',y,e1,e3,hy⟩:=h w aM []
  rw[bO]at e3
  have Du:=hc []
  rw[bO]at Du
  obtain⟨z,e,hz⟩:=uc Y ws (acc++[Y w]) (s++y) (fun x=>by rw[az];exact hc _) fun v hv x=>by
   obtain⟨ρ2,y2,a,b,c⟩:=h v (ay _ hv) (y++x)
   exact⟨ρ2,y2,a,by rw[az s y x];exact b,c⟩
  refine⟨y++z,?_,fj hy hz⟩
  unfold mJ
  rw[aw Du,e1]
  simp only[show gG ρ' s=.ok true s from rfl,e3]
  rw[e]
  simp
theorem BU{st s1:List ah}{f:FG}{cap:List (Option Nat)}(Y:W->W)(h:fi ρ st=.ok (ws,ck) s1)(hl:ws.length<=100000)(hc:∀x,iY (s1++x) ck)
  (hs:∀w∈ws,∀x,∃ρ' y,f w (pJ cap ρ)=some ρ'/\el ρ' (s1++x)=.ok (Y w) (s1++x++y)/\cY y) :
  ∃z,cW cap fi f gG el ρ st=.ok (.loc (s1++z).length) (s1++z++[.lst (ws.map Y)])/\cY z:=by
 obtain⟨z,e,hz⟩:=uc Y ws [] s1 hc hs
 refine⟨z,?_,hz⟩
 unfold cW
 rw[h]
 simp only[R.bind_ok]
 rw[aw (show ws.length<=1000000 by omega),e]
 simp only[R.bind_ok,mM,mH]
 rw[aw (by rw[ai];show ws.length<=1000000;omega)]
theorem Jz{st:List ah}{p:Nat}{b:Bool}(h:st[p]?=some (.lst [.bl b])):FM [.str [110,111,116],.loc p] st=.ok (.bl !b) st:=by
 refine hV (N:=2) (ws:=[.str [110,111,116],.loc p]) (body:=Qt) ?_ rfl
 refine bU (b_ (bT kv dY (EY rfl))) (cz ?_)
 refine jb (b_ (bT kv dY (EY rfl))) ?_
 exact iE (EU (bT kv dY (jo (aR h) rfl)) rfl) ⟨_,_,rfl,rfl,[],by simp⟩
noncomputable def xq(M:Mc):Mc:=⟨M.nm,M.gd.map fun b=>!b,M.tb⟩
theorem NF{M:Mc}(h:oX M N):oX (xq M) N:=⟨by simp[xq,h.gd],h.tb,h.t⟩
theorem GF{M:Mc}{a:Nat}(h:oX M N)(ha:a<N):gM (xq M) a=!gM M a:=by
 have:a<M.gd.length:=by rw[h.gd];exact ha
 unfold gM xq
 rw[aD,aD,ak,ae this];rfl
theorem ud{M:Mc}{st:List ah}(hM:oX M N)(Ot:1<=N)(hN:N<=100)(hr:N<64\/∀E,jC (bg M) M.tb.length N E->(E.map Prod.fst).Pairwise (· < ·))(hsz:M.tb.length*(2*N)<=10000)(hL:M.tb.length<=64)(K5:cY st)(ht:st[1]?=some Ju)(Hl:st[2]?=some Gv) :
  ∃E B h m rs,jK (xq M) N E B h m rs/\vm [M.w] st=.ok (t9 (xq M) E B h m rs) st:=by
 obtain⟨z,ez,hz⟩:=BU (cap:=[none]) (fi:=ce (e2 bM (ag 0) (eI 1))) (f:=eG 0) (el:=ej 2 FM (aj (eC (.str [110,111,116])) (aj (k6 (aj (ag 0) aI)) aI))) (ρ:=[some M.w,none]) (st:=st) (s1:=st) (ws:=M.gd.map W.bl) (ck:=none)
  (fun w=>match w with|.bl b=>.bl !b|w=>w) (gw kx) (by rw[ai,hM.gd];omega) (fun _=>trivial) fun w hw x=>by
   obtain⟨b,_,rfl⟩:=al.mp hw
   exact⟨_,[.lst [.bl b]],rfl,dz (aA dY (aA (nC kn (by show 1<=1000000;decide)) bF)) (Jz bK) rfl,rR (fun _=>rfl) tX⟩
 have eg:(M.gd.map W.bl).map (fun w=>match w with|.bl b=>.bl !b|w=>w)=(xq M).gd.map W.bl:=by
  unfold xq;rw[aH,aH];rfl
 rw[eg]at ez
 have np:cY (st++z++[ah.lst ((xq M).gd.map W.bl)]):=fj (fj K5 hz) (rR (fun _=>rfl) tX)
 obtain⟨E,B,h,m,rs,l,el⟩:=yX (M:=xq M) (NF hM) Ot hN hr hsz hL np (ax (ax ht)) (ax (ax Hl))
 refine⟨E,B,h,m,rs,l,?_⟩
 refine hV (N:=2) (ws:=[M.w]) (body:=KG) ?_ (BS ..)
 refine aS (cx (bu (aA ez bF) (hW (aR bK)))) ?_
 exact eK (dz (aA (lH (aA kx (aA kv (aA kx bF))) (by show 3<=1000000;decide)) bF) el rfl) ⟨_,_,rfl,rfl,_,by rw[az]⟩
theorem wT(x y:W)(st:List ah):tN [.tup [x,y]] st=.ok (.bl true) st:=by
 refine hV (N:=1) (ws:=[.tup [x,y]]) (body:=KQ) ?_ rfl
 exact eK (nT (j4 kv rfl rfl) (bT (bu kn (w:=.int 2) rfl) dY (oA rfl))) ⟨_,_,rfl,rfl,[],by simp⟩
theorem qY{M M':Mc}{B:Nat->Nat}{rs:List Nat}{p:Nat}{st:List ah}(hp:st[p]?=some (.lst [M.w,M'.w]))(h:∀a∈rs,a<M.gd.length/\B a<M'.gd.length):vo [fT B rs,.loc p] st=.ok (.bl true) st:=by
 refine hV (N:=4) (ws:=[fT B rs,.loc p]) (body:=KO) ?_ rfl
 refine bU (iD (b_ (j4 kv rfl rfl)) rfl) (cz ?_)
 refine dy (fun i ρ s=>∃o2 o3,ρ=[some (fT B rs),some (.loc p),o2,o3]/\s=st) (gw kv) ⟨none,none,rfl,rfl⟩ #[9] ?_ ?_
 ·rintro i w ρ s hw ⟨o2,o3,rfl,rfl⟩
  obtain⟨a,ha,rfl⟩:=al.mp (ao hw)
  obtain⟨h1,h2⟩:=h a ha
  have lp:cR [.loc p] s=.ok (.int 2) s:=jB (aR hp)
  refine⟨_,rfl,bU (dR (iD (b_ (j4 kv rfl rfl)) rfl) (b_ (bT (bu kn (w:=.int 2) rfl) (bu kn lp) (oB rfl)))) (cz ?_)⟩
  refine lL (fun i ρ s'=>∃o3,ρ=[some (fT B rs),some (.loc p),some (.tup [.int (a:Nat),.int (B a:Nat)]),o3]/\s'=s) (cX (q:=2) (aA (bu kn (w:=.int 2) rfl) bF) #[8]) ⟨_,rfl,rfl⟩ #[9] ?_ ?_
  ·rintro i w ρ s' hw ⟨o3,rfl,rfl⟩
   obtain⟨hi,rfl⟩:=fF hw
   obtain⟨z,Mz,g1,g2,g3⟩:∃(z:Nat) (Mz:Mc),n_ [W.int (a:Nat),.int (B a:Nat)] (0+(i:Int))=some (.int (z:Nat))/\n_ [M.w,M'.w] (0+(i:Int))=some Mz.w/\z<Mz.gd.length:=by
    rcases i with _|_|i
    ·exact⟨a,M,rfl,rfl,h1⟩
    ·exact⟨B a,M',rfl,rfl,h2⟩
    ·have:i+2<2:=hi
     omega
   have gx:e2 bM (ag 2) (ag 3) [some (fT B rs),some (.loc p),some (.tup [.int (a:Nat),.int (B a:Nat)]),some (.int (0+(i:Int)))] s'=.ok (.int (z:Nat)) s':=bT kv kv (gk g1)
   have ln:cR [.tup (Mz.gd.map W.bl)] s'=.ok (.int (Mz.gd.length:Nat)) s':=by rw[nD,ai]
   have Dn:Om (.int ((z:Nat):Int)) (.int ((Mz.gd.length:Nat):Int)) s'=.ok (.bl false) s':=EX (aZ #[0])
   refine⟨_,rfl,bU (dR (iD (b_ (j4 gx rfl rfl)) rfl) (b_ (j4 gx rfl rfl))) (cz ?_)⟩
   exact mL (dR (b_ (bT gx dY (qU (aZ #[0])))) (b_ (bT gx (bu (aA (bT (bT kv kv (jo (aR hp) g2)) dY ox) bF) ln) Dn))) ⟨_,_,rfl,_,rfl,rfl⟩
  ·rintro ρ s' ⟨o3,rfl,rfl⟩
   exact⟨_,_,rfl,_,_,rfl,rfl⟩
 ·rintro ρ s ⟨o2,o3,rfl,rfl⟩
  exact eK dY ⟨_,_,rfl,rfl,[],by simp⟩
theorem pZ{y:List ah}{z:Nat×List (KX×W)}(h:eO S (.loc n)=some z):eO (S++y) (.loc n)=some z:=by
 unfold eO at h ⊢
 cases e:S[n]? with
 |none=>simp only[e]at h;cases h
 |some c=>simp only[e]at h;simp only[ax e];exact h
theorem Q2{k:KX}{y:W}{b:Bool}(hd:eO S (.loc n)=some (n,kvs))(hk:k_ y=some k)(ok:wd kvs k=true)(hb:(!(gR kvs k).isSome)=b):yh true y (.loc n) S=.ok (.bl b) S:=by
 unfold yh
 simp only[hd,hk,ok,dS,hb]
theorem E6{k:KX}{y v:W}(hd:eO S (.loc n)=some (n,kvs))(hk:k_ y=some k)(ok:wd kvs k=true):sZ (.loc n) y v S=some (S.set n (.dcx (n5 kvs k v))):=by
 unfold sZ
 simp only[hd,hk,ok,dS]
theorem Q3(a b:Nat):W.tup [.int (a:Nat),.int (b:Nat)]=.tup (([(a:Nat),(b:Nat)]:List Int).map W.int):=rfl
theorem GG(a b:Nat):k_ (.tup [.int (a:Nat),.int (b:Nat)])=some (.fl [(a:Nat),(b:Nat)]):=by rw[Q3];exact BK _
noncomputable def dP(B:Nat->Nat)(l:List Nat):List (KX×W):=l.map fun a=>(KX.fl [((a:Nat):Int),((B a:Nat):Int)],W.bl true)
section
theorem NG{x:Nat}(h:x∈l):(gR (dP B l) (.fl [(x:Nat),(B x:Nat)])).isSome=true:=by
 unfold gR dP
 rw[iO,List.find?_isSome]
 exact⟨_,al.mpr ⟨x,h,rfl⟩,by simp⟩
theorem NH{x:Nat}(h:x∉l):gR (dP B l) (.fl [(x:Nat),(B x:Nat)])=none:=by
 unfold gR dP
 rw[mD,iA]
 rintro p hp
 obtain⟨a,ha,rfl⟩:=al.mp hp
 intro e
 have:=fL e
 injection this with e
 injection e with e _
 have e:a=x:=by omega
 subst e;exact h ha
theorem GH{x:Nat}(h:x∉l):n5 (dP B l) (.fl [(x:Nat),(B x:Nat)]) (.bl true)=dP B (l++[x]):=by
 unfold n5
 rw[NH h]
 simp[dP]
theorem K0(h:l.length<1000000)(ks:List Int):wd (dP B l) (.fl ks)=true:=by
 unfold wd yg dP
 rw[ai,qc]
 simp only[bA,decide_eq_true_eq]
 refine⟨⟨by simp[KX.tag],?_⟩,h⟩
 rw[d9]
 exact fun a _=>rfl
theorem Tn:(dP B l).map (fun q=>q.1.w)=l.map fun a=>W.tup [.int (a:Nat),.int (B a:Nat)]:=by
 unfold dP;rw[aH];rfl
end
abbrev Ug:FS:=(a7 (cC 12 (e2 bM (e2 bM (e2 bM (ag 0) (ag 11)) (eI 2)) (e2 bM (ag 7) (ag 11)))) (ga (uB dE (ag 10) (aj (e2 bM (e2 bM (ag 12) (e2 bM (ag 8) (ag 11))) (e2 bM (ag 9) (ag 11))) aI))))
abbrev Uh:FS:=(a7 (cC 10 (k6 aI)) (a7 (fg (bp (aj (bh cR (aj (ag 0) aI)) aI)) (eG 11) Ug) (iX (fQ (e2 (yh true) (bh dD (aj (ag 10) aI)) (ag 3))) #[11] cK)))
section
variable{M M':Mc}{N':Nat}{nm:List Nat}{p d lt:Nat}{w2:W}
theorem GI(hM:oX M N)(R1:oX M' N')(hp:S[p]?=some (.lst [M.w,M'.w]))(hd:eO S (.loc d)=some (d,dP B rs))(hl:rs.length<=1000)(ju:∀a∈rs,a<N/\B a<N')
  {q:Nat} (hq:q<M.tb.length) (At:q<M'.tb.length) (jd:∀a∈rs,∀b∈rs,bg M q a b∈rs/\bg M' q (B a) (B b)=B (bg M q a b)) (Tz:S[lt]?=some (.lst [.int (q:Nat),.int (q:Nat)])) {a b:Nat} (ha:a∈rs) (hb:b∈rs) (o4 o5 o6 qj qi qg:Option W) :
  hU (IX fun ρ S'=>∃qj qi qg x,ρ=[some (.loc p),some (.str nm),some w2,some (.loc d),o4,o5,o6,some (.loc lt),some (.tup [.int (a:Nat),.int (B a:Nat)]),some (.tup [.int (b:Nat),.int (B b:Nat)]),qj,qi,qg]/\S'=S++x)
   (Uh [some (.loc p),some (.str nm),some w2,some (.loc d),o4,o5,o6,some (.loc lt),some (.tup [.int (a:Nat),.int (B a:Nat)]),some (.tup [.int (b:Nat),.int (B b:Nat)]),qj,qi,qg] S):=by
 obtain⟨a1,a2⟩:=ju a ha
 obtain⟨b1,b2⟩:=ju b hb
 obtain⟨r1,r2⟩:=jd a ha b hb
 obtain⟨t,ht⟩:∃t,M.tb[q]?=some t:=⟨_,ae hq⟩
 obtain⟨t',ht'⟩:∃t,M'.tb[q]?=some t:=⟨_,ae At⟩
 have hx:(S++[ah.lst []])[S.length]?=some (.lst []):=bK
 refine aS (cx (nC bF (cJ _))) ?_
 refine dy (fun i ρ S'=>∃qi qg,ρ=[some (.loc p),some (.str nm),some w2,some (.loc d),o4,o5,o6,some (.loc lt),some (.tup [.int (a:Nat),.int (B a:Nat)]),some (.tup [.int (b:Nat),.int (B b:Nat)]),some (.loc S.length),qi,qg]/\S'=S++[.lst ([W.int (bg M q a b:Nat),.int (bg M' q (B a) (B b):Nat)].take i)])
  (cX (q:=2) (aA (bu kn (jB (aR (ax hp)))) bF) #[8]) ⟨qi,qg,rfl,rfl⟩ #[9] ?_ ?_
 ·rintro i w ρ S' hw ⟨qi,qg,rfl,rfl⟩
  obtain⟨hi,rfl⟩:=fF hw
  obtain⟨Mz,NN,tz,z1,z2,g1,g2,g3,g4,g5,g6,g7,g8,g9⟩:∃(Mz:Mc) (NN:Nat) (tz:List (List Nat)) (z1 z2:Nat),oX Mz NN/\Mz.tb[q]?=some tz/\z1<NN/\z2<NN/\n_ [M.w,M'.w] (0+(i:Int))=some Mz.w/\n_ [W.int (q:Nat),.int (q:Nat)] (0+(i:Int))=some (.int (q:Nat))/\n_ [W.int (a:Nat),.int (B a:Nat)] (0+(i:Int))=some (.int (z1:Nat))/\n_ [W.int (b:Nat),.int (B b:Nat)] (0+(i:Int))=some (.int (z2:Nat)) /\
    [W.int (bg M q a b:Nat),.int (bg M' q (B a) (B b):Nat)].take (i+1)=[W.int (bg M q a b:Nat),.int (bg M' q (B a) (B b):Nat)].take i++[.int (bg Mz q z1 z2:Nat)]:=by
   rcases i with _|_|i
   ·exact⟨M,N,t,a,b,hM,ht,a1,b1,rfl,rfl,rfl,rfl,rfl⟩
   ·exact⟨M',N',t',B a,B b,R1,ht',a2,b2,rfl,rfl,rfl,rfl,rfl⟩
   ·have:i+2<2:=hi
    omega
  obtain⟨row,c1,c2,_⟩:=pU g1 g2 g3 g4
  have hi2:i<2:=hi
  have cn:∀ws:List W,(S++[ah.lst ws])[S.length]?=some (.lst ws):=fun ws=>bK
  refine⟨_,rfl,?_⟩
  refine aS (cx (bT (bT (bT kv kv (jo (aR (ax hp)) g5)) dY ox) (bT kv kv (jo (aR (ax Tz)) g6)) (gk (eM (by rw[ak,g2];rfl))))) ?_
  refine⟨_,_,hJ (rp kv (gT (cn _)) (aA (bT (bT kv (bT kv kv (gk g7)) (pV c1)) (bT kv kv (gk g8)) (pW c2)) bF) (qV (cn _) (by rw[bf];show _<1000000;omega))),_,_,rfl,?_⟩
  rw[eJ,g9];rfl
 ·rintro ρ S' ⟨qi,qg,rfl,rfl⟩
  have c1:(S++[ah.lst [W.int (bg M q a b:Nat),.int (bg M' q (B a) (B b):Nat)]])[S.length]?=some (.lst [W.int (bg M q a b:Nat),.int (bg M' q (B a) (B b):Nat)]):=bK
  have hin:=Q2 (y:=.tup [.int (bg M q a b:Nat),.int (bg M' q (B a) (B b):Nat)]) (b:=false) (pZ (y:=[ah.lst [W.int (bg M q a b:Nat),.int (bg M' q (B a) (B b):Nat)]]) hd) (GG _ _) (K0 #[0] _) (by rw[r2,NG r1];rfl)
  exact mL (b_ (bT (bu kn (hW (aR c1))) kv hin)) ⟨_,_,qB,_,_,_,_,rfl,rfl⟩
end
theorem JA{d:Nat}(h:eO S (.loc d)=some (d,kvs))(hl:kvs.length<=1000000):nB [.loc d] S=.ok (.loc S.length) (S++[.lst (kvs.map fun q=>q.1.w)]):=by
 unfold nB
 simp only[h,bE,aw hl]
theorem GJ{M M':Mc}{N':Nat}{B:Nat->Nat}{rs nm:List Nat}{p:Nat}{st:List ah}(hM:oX M N)(R1:oX M' N')(e1:M.nm=nm)(G3:M'.nm=nm)(Tx:nm.length<=6)(hp:st[p]?=some (.lst [M.w,M'.w]))(kG:rs.Nodup)(hl:rs.length<=1000)
  (ju:∀a∈rs,a<N/\B a<N') (jd:∀k,k<M.tb.length->∀a∈rs,∀b∈rs,bg M k a b∈rs/\bg M' k (B a) (B b)=B (bg M k a b)):BB [.loc p,.str nm,fT B rs] st=.ok (.bl true) st:=by
 have hL:M.tb.length=2^nm.length:=by rw[hM.tb,e1]
 have hL':M'.tb.length=2^nm.length:=by rw[R1.tb,G3]
 refine hV (N:=13) (ws:=[.loc p,.str nm,fT B rs]) (body:=KP) ?_ rfl
 refine aS (cx (show oy _ st=.ok #[5] (st++[.dct []])from rfl)) ?_
 refine dy (fun i ρ s=>∃o4 c,ρ=[some (.loc p),some (.str nm),some (fT B rs),some #[5],o4,none,none,none,none,none,none,none,none]/\s=st++[c]/\eO s #[5]=some (st.length,dP B (rs.take i))) (gw kv) ⟨none,.dct [],rfl,rfl,by unfold eO;simp only[cv];rfl⟩ #[9] ?_ ?_
 ·rintro i w ρ s hw ⟨o4,c,rfl,rfl,hd⟩
  rw[ak]at hw
  obtain⟨a,ha,rfl⟩:=a_.mp hw
  obtain⟨hi,_,w9,hna⟩:=nW kG ha
  refine⟨_,rfl,_,_,qT dY kv kv (E6 hd (GG a (B a)) (K0 (by rw[bf];omega) _)),some (.tup [.int (a:Nat),.int (B a:Nat)]),.dcx (dP B (rs.take (i+1))),rfl,?_,?_⟩
  ·rw[eJ,GH hna,<- w9];rfl
  ·rw[eJ,GH hna,<- w9]
   unfold eO;simp only[cv];rfl
 ·rintro ρ s ⟨o4,c,rfl,rfl,hd⟩
  rw[ai,eY]at hd
  have hp':=ax (x:=[c]) hp
  generalize hS0:st++[c]=S0 at hd hp'
  refine dy (fun i ρ s=>∃o5 o6 o7 o8 o9 qj qi qg x,ρ=[some (.loc p),some (.str nm),some (fT B rs),some #[5],o4,o5,o6,o7,o8,o9,qj,qi,qg]/\s=S0++x)
   (cX (q:=((2^nm.length:Nat):Int)) (aA (bT dY (bu kn (qC (by show _<=1000000;omega))) (xR #[0])) bF) (by have:(2:Nat)^nm.length<=2^6:=Nat.pow_le_pow_right #[0] Tx;omega)) ⟨none,none,none,none,none,none,none,none,[],rfl,by simp⟩ #[9] ?_ ?_
  ·rintro i w ρ s hw ⟨o5,o6,o7,o8,o9,qj,qi,qg,x,rfl,rfl⟩
   obtain⟨hi,rfl⟩:=fF hw
   obtain⟨mk,_,em⟩:=GE nm #[0] (0+(i:Int)) (S0++x)
   have hq:=Jy mk nm
   generalize hqn:yZ mk nm=q at hq
   refine⟨_,rfl,?_⟩
   refine aS (cx (dz (aA kv kn) em rfl)) ?_
   have ec:=fU (cap:=[none,some 6]) (fi:=ce (ag 0)) (f:=eG 0) (el:=ej 2 yK (aj (e2 bM (ag 0) (eI 0)) (aj (ag 1) aI))) (ρ:=[some (.loc p),some (.str nm),some (fT B rs),some #[5],o4,some (.int (0+(i:Int))),some (.str mk),o7,o8,o9,qj,qi,qg]) (st:=S0++x) (st1:=S0++x) (fun _=>.int (q:Nat)) (gy kv (aR (ax hp'))) (by show 2<=1000000;decide) (aR (ax hp')) fun w hw=>by
    obtain⟨Mz,rfl,ez⟩:∃Mz:Mc,w=Mz.w/\Mz.nm=nm:=by
     rcases aK.mp hw with rfl|hw
     ·exact⟨M,rfl,e1⟩
     ·rw[bj.mp hw];exact⟨M',rfl,G3⟩
    refine⟨_,rfl,dz (aA (bT kv dY (show bM Mz.w (.int 0) _=.ok (.str nm) _ by rw[<- ez];rfl)) kn) ?_ rfl⟩
    rw[An,hqn]
   refine aS (Gu ec rfl) ?_
   have hx1:=ax (x:=[ah.lst [W.int (q:Nat),.int (q:Nat)]]) (ax (x:=x) hp')
   have hx2:(S0++x++[ah.lst [W.int (q:Nat),.int (q:Nat)]])[(S0++x).length]?=some (.lst [W.int (q:Nat),.int (q:Nat)]):=bK
   have hx3:=pZ (y:=[ah.lst [W.int (q:Nat),.int (q:Nat)]]) (pZ (y:=x) hd)
   show hU _ (fg _ _ _ _ (S0++x++[ah.lst [W.int (q:Nat),.int (q:Nat)]]))
   obtain⟨x1,hx4⟩:∃x1,S0++x++[ah.lst [W.int (q:Nat),.int (q:Nat)]]=S0++x1:=⟨_,az ..⟩
   rw[hx4]at hx1 hx2 hx3 ⊢
   generalize hS1:S0++x1=S1 at hx1 hx2 hx3
   generalize (S0++x).length=lt at hx2
   have ls:∀z,nB [.loc st.length] (S1++z)=.ok (.loc (S1++z).length) (S1++z++[.lst #[10]]):=fun z=>by
    rw[JA (pZ (y:=z) hx3) (by unfold dP;rw[ai];omega),Tn]
   have ls0:=ls []
   rw[bO]at ls0
   refine lL (fun i' ρ s=>∃o8 o9 qj qi qg z,ρ=[some (.loc p),some (.str nm),some (fT B rs),some #[5],o4,some (.int (0+(i:Int))),some (.str mk),some (.loc lt),o8,o9,qj,qi,qg]/\s=S1++[.lst #[10]]++z) (gy (bu kn ls0) (aR bK)) ⟨o8,o9,qj,qi,qg,[],rfl,by simp⟩ ?_ ?_ ?_
   ·rintro i' ρ s ⟨_,_,_,_,_,z,_,rfl⟩
    exact aR (ax bK)
   ·rintro i' w ρ s hw ⟨o8,o9,qj,qi,qg,z,rfl,rfl⟩
    obtain⟨a,ha,rfl⟩:=al.mp (ao hw)
    refine⟨_,rfl,?_⟩
    generalize hS2:S1++[ah.lst #[10]]=S2
    obtain⟨y2,hy2⟩:∃y2,S2++z=S1++y2:=⟨_,by rw[<- hS2,az]⟩
    have ls2:=ls y2
    rw[<- hy2]at ls2
    refine lL (fun i' ρ s=>∃o9 qj qi qg y,ρ=[some (.loc p),some (.str nm),some (fT B rs),some #[5],o4,some (.int (0+(i:Int))),some (.str mk),some (.loc lt),some (.tup [.int (a:Nat),.int (B a:Nat)]),o9,qj,qi,qg]/\s=S2++z++[.lst #[10]]++y) (gy (bu kn ls2) (aR bK)) ⟨o9,qj,qi,qg,[],rfl,by simp⟩ ?_ ?_ ?_
    ·rintro i' ρ s ⟨_,_,_,_,y,_,rfl⟩
     exact aR (ax bK)
    ·rintro i' w ρ s hw ⟨o9,qj,qi,qg,y,rfl,rfl⟩
     obtain⟨b,hb,rfl⟩:=al.mp (ao hw)
     refine⟨_,rfl,?_⟩
     have hy3:∃y3,S2++z++[ah.lst #[10]]++y=S1++y3:=⟨_,by rw[hy2,az,az]⟩
     obtain⟨y3,hy3⟩:=hy3
     obtain⟨ρ2,s2,e,o10',o11',o12',x2,rfl,rfl⟩:=GI (nm:=nm) (w2:=fT B rs) hM R1 (ax (x:=y3) hx1) (pZ (y:=y3) hx3) hl ju (q:=q) #[0] #[0] (jd q #[0]) (ax (x:=y3) hx2) ha hb o4 (some (.int (0+(i:Int)))) (some (.str mk)) qj qi qg
     rw[hy3]
     exact⟨_,_,e,_,_,_,_,y++x2,rfl,by rw[<- hy3,az _ y x2]⟩
    ·rintro ρ s ⟨o9,qj,qi,qg,y,rfl,rfl⟩
     exact⟨_,_,rfl,_,_,_,_,_,z++[.lst #[10]]++y,rfl,by simp⟩
   ·rintro ρ s ⟨o8,o9,qj,qi,qg,z,rfl,rfl⟩
    exact⟨_,_,rfl,_,_,_,_,_,_,_,_,x1++[.lst #[10]]++z,rfl,by rw[<- hS1];simp⟩
  ·rintro ρ s ⟨o5,o6,o7,o8,o9,qj,qi,qg,x,rfl,rfl⟩
   exact eK dY ⟨_,_,rfl,rfl,[c]++x,by rw[<- hS0];simp⟩
theorem md{y n:Nat}(h:y<2*n):y<n/\y%n=y\/n<=y/\y%n=y-n:=by
 rcases ca y n with z|z
 ·exact .inl ⟨z,lW z⟩
 ·exact .inr ⟨z,by rw[Nat.mod_eq_sub_mod z,lW #[0]]⟩
structure mh(T:Nat->Nat->Nat->Nat)(L n:Nat)(sf:Nat->Nat)(k0:Nat):Prop where
 t:∀a l r,a<L->l<n->r<n->T a l r=(l+r+sf a)%n
 s:∀a,a<L->sf a<=1
 k:k0<L/\sf k0=1
section
variable{sf:Nat->Nat}{k0:Nat}{E:List Ro}
theorem mh.ge(q:mh T L n sf k0)(t:ip T L n E):∀(k i:Nat) (e:Ro),i<k->E[i]?=some e->e.1<=e.2.s:=by
 intro k
 induction k with
 |zero=>intro i e h;omega
 |succ k ih=>
  intro i e hi he
  rcases gj i with z|z
  ·subst z
   obtain⟨r,e0⟩:=t.zero
   rw[e0]at he;cases he;exact au _
  ·obtain⟨h1,h2,el,er,h3,h4,h5,h6,h7⟩:=t.row i e he z
   have a1:=ih _ el #[0] h3
   have a2:=ih _ er #[0] h4
   have b:=q.s _ h5
   rw[<- h6,q.t _ _ _ h5 (t.lt _ (ao h3)) (t.lt _ (ao h4)),h7]
   have:=Nat.mod_le (el.1+er.1+sf e.2.a) n
   omega
theorem mh.le(q:mh T L n sf k0)(f:jC T L n E):∀k,k<n->∃(i:Nat) (e:Ro),E[i]?=some e/\e.1=k/\e.2.s<=k:=by
 intro k
 induction k with
 |zero=>
  intro _
  obtain⟨r,e0⟩:=f.told.zero
  exact⟨0,_,by rw[e0];rfl,rfl,au _⟩
 |succ k ih=>
  intro hk
  obtain⟨i,e,h1,h2,h3⟩:=ih #[0]
  obtain⟨r,e0⟩:=f.told.zero
  have z0:E[0]?=some ((0,⟨0,0,0,0⟩):Ro):=by rw[e0];rfl
  rcases f.cov 0 i k0 f.told.len0 (aa.mp h1).1 q.k.1 _ e z0 h1 with⟨j,g,g1,g2,g3⟩|⟨p,hp,_⟩
  ·refine⟨j,g,g1,?_,?_⟩
   ·rw[g2,q.t _ _ _ q.k.1 #[0] #[0],q.k.2,h2]
    show(0+k+1)%n=_
    rw[lW #[0]];omega
   ·rcases ca (k+1) g.2.s with z|z
    ·exact(g3 (.inl (by show 0+e.2.s+1<g.2.s;omega))).elim
    ·exact z
  ·cases hp
theorem mh.sz(q:mh T L n sf k0)(f:jC T L n E){e:Ro}(he:E[i]?=some e):e.2.s=e.1:=by
 obtain⟨j,g,g1,g2,g3⟩:=q.le f e.1 (f.told.lt _ (ao he))
 have:i=j:=by
  rcases iT i j with z|z|z
  ·exact(BJ f.told.nd he g1 z g2.symm).elim
  ·exact z
  ·exact(BJ f.told.nd g1 he z g2).elim
 subst this
 rw[he]at g1;cases g1
 have:=q.ge f.told (i+1) i e #[0] he
 omega
theorem mh.rise(q:mh T L n sf k0)(f:jC T L n E):(E.map Prod.fst).Pairwise (· < ·):=by
 refine hG.mpr fun i j hi hj hij=>?_
 rw[ai]at hi hj
 have a:=ae hi
 have b:=ae hj
 rw[dw,dw]
 have:=q.sz f a
 have:=q.sz f b
 have:=f.told.sz a b (dh hij)
 have:=BJ f.told.nd a b hij
 omega
theorem mh.all(q:mh T L n sf k0)(f:jC T L n E){k:Nat}(hk:k<n):k∈E.map Prod.fst:=by
 obtain⟨i,e,h1,rfl,_⟩:=q.le f k hk
 exact al.mpr ⟨e,ao h1,rfl⟩
end
section
variable{M:Mc}{t:Nat}{sf:Nat->Nat}{k0:Nat}{E:List Ro}{h:Nat->Nat}
theorem mh.rsN(q:mh (bg M) M.tb.length n sf k0)(l:jK M n E B h m rs):rs=List.range n:=
 qw l.up mE fun a=>⟨fun ha=>aT.mpr (l.rso.lt a ha),fun ha=>l.mem.mp (q.all l.full (aT.mp ha))⟩
theorem mh.inj(q:mh (bg M) M.tb.length n sf k0)(l:jK M n E B h m rs)(ht:t<n)(hg:∀a,a<n->gM M a=decide (a=t)){a b:Nat}(ha:a<n)(hb:b<n)(e:B a=B b):a=b:=by
 obtain⟨x,hx,ex⟩:∃x,x<n/\(a+x+1=t\/a+x+1=t+n):=by
  rcases ca a t with z|z
  ·exact⟨t-a-1,by omega,by omega⟩
  ·exact⟨t+n-a-1,by omega,by omega⟩
 have mem:∀{k},k<n->k∈fs E:=fun hk=>q.all l.full hk
 have ea:=q.t k0 a x q.k.1 ha hx
 have eb:=q.t k0 b x q.k.1 hb hx
 rw[q.k.2]at ea eb
 have c:=l.last.cg l.rm q.k.1 (mem ha) (mem hb) (mem hx) (mem hx) e rfl
 have la:bg M k0 a x<n:=by rw[ea];exact Nat.mod_lt _ #[0]
 have lb:bg M k0 b x<n:=by rw[eb];exact Nat.mod_lt _ #[0]
 have g:=l.good (mem la) (mem lb) c
 rw[hg _ la,hg _ lb]at g
 have ta:bg M k0 a x=t:=by
  rw[ea]
  rcases md (y:=a+x+1) (n:=n) #[0]with⟨_,z⟩|⟨_,z⟩<;>omega
 rw[ta,br rfl]at g
 have tq:=fL g.symm
 rw[eb]at tq
 rcases md (y:=b+x+1) (n:=n) #[0]with⟨_,z⟩|⟨_,z⟩<;>omega
theorem mh.many(q:mh (bg M) M.tb.length n sf k0)(l:jK M n E B h m rs)(ht:t<n)(hg:∀a,a<n->gM M a=decide (a=t)):m=n:=by
 have h1:=l.m_le.1
 have kG:((List.range n).map B).Nodup:=by
  rw[kB,eL]
  exact List.Pairwise.imp_of_mem (fun ha hb z e=>z (q.inj l ht hg (aT.mp ha) (aT.mp hb) e)) (kB.mp lU)
 have:=h_ (l:=List.range m) kG fun c hc=>by
  obtain⟨a,ha,rfl⟩:=al.mp hc
  exact aT.mpr (l.blt (q.all l.full (aT.mp ha)))
 simp only[ai,cB]at this
 omega
end
theorem wU{M M2:Mc}{k h0:Nat}{t t2:List (List Nat)}{st:List ah}(hM:oX M n)(BY:oX M2 m)(ht:M.tb[k]?=some t)(Hl:M2.tb[k]?=some t2)(hB:∀a,a<n->B a<m)
  (hom:∀a b,a<n->b<n->bg M2 k (B a) (B b)=B (bg M k a b)) (hn:n<=1000) (hh:st[h0]?=some (.lst (dg ((List.range n).map B)))):yL [dA t,dA t2,.loc h0] st=.ok (.bl true) st:=by
 have ln:cR [.loc h0] st=.ok (.int (n:Nat)) st:=by rw[jB (aR hh)];simp
 have hx:∀{a:Nat},a<n->bM (.loc h0) (.int (a:Nat)) st=.ok (.int (B a:Nat)) st:=fun{a} ha=>jo (aR hh) (eM (by rw[ak,ak,bn ha];rfl))
 refine hV (N:=6) (ws:=[dA t,dA t2,.loc h0]) (body:=KR) ?_ rfl
 refine dy (fun i ρ s=>∃o3 o4 o5,ρ=[some (dA t),some (dA t2),some (.loc h0),o3,o4,o5]/\s=st) (cX (q:=(n:Int)) (aA (bu kn ln) bF) #[0]) ⟨none,none,none,rfl,rfl⟩ #[9] ?_ ?_
 ·rintro i w ρ s hw ⟨o3,o4,o5,rfl,rfl⟩
  obtain⟨hi,rfl⟩:=fF hw
  rw[aG]at hi
  rw[fM]
  refine⟨_,rfl,?_⟩
  refine lL (fun j ρ s'=>∃o4 o5,ρ=[some (dA t),some (dA t2),some (.loc h0),some (.int (i:Nat)),o4,o5]/\s'=s) (cX (q:=(n:Int)) (aA (bu kn ln) bF) #[0]) ⟨o4,o5,rfl,rfl⟩ #[9] ?_ ?_
  ·rintro j w ρ s' hw ⟨o4,o5,rfl,rfl⟩
   obtain⟨hj,rfl⟩:=fF hw
   rw[aG]at hj
   rw[fM]
   obtain⟨row,c1,c2,c3⟩:=pU hM ht hi hj
   obtain⟨row2,d1,d2,_⟩:=pU BY Hl (hB i hi) (hB j hj)
   rw[hom i j hi hj]at d2
   refine⟨_,rfl,aS (cx (bT kv (bT (bT kv kv (pV c1)) kv (pW c2)) (hx c3))) ?_⟩
   exact mL (b_ (bT (bT (bT kv (bT kv kv (hx hi)) (pV d1)) (bT kv kv (hx hj)) (pW d2)) kv (oB (k:=false) (by rw[du];rfl)))) ⟨_,_,qB,_,_,rfl,rfl⟩
  ·rintro ρ s' ⟨o4,o5,rfl,rfl⟩
   exact⟨_,_,rfl,_,_,_,rfl,rfl⟩
 ·rintro ρ s ⟨o3,o4,o5,rfl,rfl⟩
  exact eK dY ⟨_,_,rfl,rfl,[],by simp⟩
noncomputable def Dk(n s l:Nat):List Nat:=(List.range n).map fun r=>(l+r+s)%n
def JB(n s:Nat):List (List Nat):=(List.range n).map (Dk n s)
def mR(nm:List Nat)(n t:Nat):Mc:=⟨nm,(List.range n).map fun(k:Nat)=>!((k:Int)==(t:Int)),(List.range (2^nm.length)).map fun a=>JB n (a+1-nm.length)⟩
section
variable{nm:List Nat}{t:Nat}
theorem K3(hn:1<=n):oX (mR nm n t) n:=by
 refine⟨by simp[mR],by simp[mR],fun tt ht=>?_⟩
 obtain⟨a,_,rfl⟩:=al.mp ht
 refine⟨by simp[JB],fun r hr=>?_⟩
 obtain⟨l,_,rfl⟩:=al.mp hr
 refine⟨by simp[Dk],fun k hk=>?_⟩
 obtain⟨x,_,rfl⟩:=al.mp hk
 exact Nat.mod_lt _ #[0]
theorem NI{a l r:Nat}(ha:a<2^nm.length)(hl:l<n)(hr:r<n):bg (mR nm n t) a l r=(l+r+(a+1-nm.length))%n:=by
 unfold bg mR JB Dk
 simp only[aD,ak,bn ha,bn hl,bn hr,fI,lV]
theorem JC(hl:nm.length<=1)(hn:1<=n):mh (bg (mR nm n t)) (mR nm n t).tb.length n (fun a=>a+1-nm.length) nm.length:=by
 have e:(mR nm n t).tb.length=2^nm.length:=by simp[mR]
 rw[e]
 refine⟨fun a l r ha hl hr=>NI ha hl hr,fun a ha=>?_,?_⟩
 ·rcases Nat.le_one_iff_eq_zero_or_eq_one.mp hl with z|z<;>rw[z]at ha ⊢ <;> simp at ha<;>omega
 ·exact⟨Nat.lt_two_pow_self,by omega⟩
theorem To{a:Nat}(ha:a<n)(hn:1<=n):gM (xq (mR nm n t)) a=decide (a=t):=by
 rw[GF (K3 hn) ha]
 unfold gM mR
 simp only[aD,ak,bn ha,fI,lV,Bool.not_not]
 rw[ij];simp;omega
theorem GK(s l:Nat)(hn:1<=n)(Dv:n<=1000)(z:List ah):cW [none,some 1,some 2,some 0] (bp (aj (ag 1) aI)) (eG 0) gG (e2 gQ (e2 fD (e2 fD (ag 3) (ag 0)) (ag 2)) (ag 1)) [some (.int (l:Nat)),some (.int (n:Nat)),some (.int (s:Nat))] z=.ok (.loc z.length) (z++[.lst ((Dk n s l).map fun k:Nat=>W.int (k:Nat))]):=by
 have hp:(0:Int)<((n:Nat):Int):=by omega
 have e:=fU (cap:=[none,some 1,some 2,some 0]) (fi:=bp (aj (ag 1) aI)) (f:=eG 0) (el:=e2 gQ (e2 fD (e2 fD (ag 3) (ag 0)) (ag 2)) (ag 1)) (ρ:=[some (.int (l:Nat)),some (.int (n:Nat)),some (.int (s:Nat))]) (st:=z) (st1:=z) (ws:=bt 0 n) (ck:=none) (fun w=>.int (((l+xo w+s)%n:Nat):Int))
  (by have:=cX (fs:=aj (ag 1) aI) (ρ:=[some (.int (l:Nat)),some (.int (n:Nat)),some (.int (s:Nat))]) (st:=z) (st1:=z) (q:=(n:Int)) kn #[0];rw[aG]at this;exact this) (by rw[bQ];show n<=1000000;omega) trivial fun w hw=>by
   obtain⟨i,_,rfl⟩:=oZ hw
   refine⟨_,rfl,?_⟩
   have:(((l+xo (.int (i:Int))+s)%n:Nat):Int)=((l:Int)+(i:Int)+(s:Int))%(n:Int):=by
    show(((l+((i:Int)).toNat+s)%n:Nat):Int)=_
    rw[aG,Int.natCast_emod,ik,ik]
   rw[this]
   exact bT (bT (bT kv kv il) kv il) kv (oU hp)
 have e2:(bt 0 n).map (fun w=>W.int (((l+xo w+s)%n:Nat):Int))=(Dk n s l).map fun k:Nat=>W.int (k:Nat):=by
  unfold Dk
  rw[aH]
  exact nX (f:=fun w=>W.int (((l+xo w+s)%n:Nat):Int)) fun i=>rfl
 rw[e,e2]
theorem GL(s:Nat)(hn:1<=n)(Dv:n<=1000)(h3:ρ[3]?=some (some (.int (n:Nat))))(h6:ρ[6]?=some (some (.int (s:Nat))))(z:List ah) :
  ∃x,bh dD (aj (cW [none,some 3,some 6] (bp (aj (ag 3) aI)) (eG 0) gG (bh dD (aj (cW [none,some 1,some 2,some 0] (bp (aj (ag 1) aI)) (eG 0) gG (e2 gQ (e2 fD (e2 fD (ag 3) (ag 0)) (ag 2)) (ag 1))) aI))) aI) ρ z=.ok (dA (JB n s)) (z++x)/\cY x:=by
 obtain⟨y,e,hy⟩:=BU (cap:=[none,some 3,some 6]) (fi:=bp (aj (ag 3) aI)) (f:=eG 0) (el:=bh dD (aj (cW [none,some 1,some 2,some 0] (bp (aj (ag 1) aI)) (eG 0) gG (e2 gQ (e2 fD (e2 fD (ag 3) (ag 0)) (ag 2)) (ag 1))) aI)) (ρ:=ρ) (st:=z) (s1:=z) (ws:=bt 0 n) (ck:=none) (fun w=>lI (Dk n s (xo w)))
  (by have:=cX (fs:=aj (ag 3) aI) (ρ:=ρ) (st:=z) (st1:=z) (q:=(n:Int)) (aA (iC h3) bF) #[0];rw[aG]at this;exact this) (by rw[bQ];omega) (fun _=>trivial) fun w hw x=>by
   obtain⟨i,_,rfl⟩:=oZ hw
   have ec:pJ [none,some 3,some 6] ρ=[none,some (.int (n:Nat)),some (.int (s:Nat))]:=by
    simp only[pJ,List.map,h3,h6,Option.bind,Option.join,Option.getD];rfl
   refine⟨[some (.int (i:Int)),some (.int (n:Nat)),some (.int (s:Nat))],[.lst ((Dk n s i).map fun k:Nat=>W.int (k:Nat))],by rw[ec];rfl,?_,rR (fun _=>rfl) tX⟩
   show _=L2.R.ok (lI (Dk n s ((i:Int)).toNat)) _
   rw[aG]
   exact bu (aA (GK s i hn Dv (z++x)) bF) (hW (aR bK))
 refine⟨y++[.lst ((bt 0 n).map fun w=>lI (Dk n s (xo w)))],?_,fj hy (rR (fun _=>rfl) tX)⟩
 have:dA (JB n s)=.tup ((bt 0 n).map fun w=>lI (Dk n s (xo w))):=by
  unfold dA JB
  rw[aH]
  exact cL W.tup (nX (f:=fun w=>lI (Dk n s (xo w))) (g:=lI∘Dk n s) fun i=>rfl).symm
 rw[this,<- az]
 exact bu (aA e bF) (hW (aR bK))
end
theorem K4{st:List ah}{p q:Nat}{l l':List Int}{b:Bool}(h:st[p]?=some (.lst (l.map W.int)))(h':st[q]?=some (.lst (l'.map W.int)))(e:(!decide (l=l'))=b):yp (.loc p) (.loc q) st=.ok (.bl b) st:=by
 unfold yp
 simp only[aR h,aR h',bE,nG,e]
theorem wV:∀l:List Bool,nu (l.map W.bl)=some l
 |[]=>rfl
 |b::l=>by simp only[aF,nu,wV l,fI]
theorem Q4{st:List ah}{p q:Nat}{l l':List Bool}{b:Bool}(h:st[p]?=some (.lst (l.map W.bl)))(h':st[q]?=some (.lst (l'.map W.bl)))(e:(!decide (l=l'))=b):CW (.loc p) (.loc q) st=.ok (.bl b) st:=by
 unfold CW
 simp only[aR h,aR h',bE,wV,e]
theorem Ke{st:List ah}{p:Nat}{l:List Bool}(h:st[p]?=some (.lst (l.map W.bl))):x8 [.loc p] st=.ok (.bl (l.all id)) st:=by
 unfold x8
 simp only[aR h,bE,wV]
theorem Q5{nm:List Nat}{t:Nat}(hi:i<2^nm.length):(mR nm n t).tb[i]?=some (JB n (i+1-nm.length)):=by
 show((List.range (2^nm.length)).map _)[i]?=_
 rw[ak,bn hi];rfl
theorem y0{B:Nat->Nat}{rs:List Nat}{fe:FE}{st:List ah}(h:fe ρ st=.ok (fT B rs) st)(hl:rs.length<=1000)(k:Nat)(hk:k<2):cW [none] (ce fe) (eG 0) gG (e2 bM (ag 0) (eC (.int (k:Nat)))) ρ st=.ok #[5] (st++[.lst (dg (if k=0 then rs else rs.map B))]):=by
 have e:=fU (cap:=[none]) (fi:=ce fe) (f:=eG 0) (el:=e2 bM (ag 0) (eC (.int (k:Nat)))) (ρ:=ρ) (st:=st) (st1:=st) (ws:=rs.map fun a=>W.tup [.int (a:Nat),.int (B a:Nat)]) (ck:=none) (fun w=>match w with|.tup [x,y]=>if k=0 then x else y|w=>w) (gw h) (by rw[ai];show _<=1000000;omega) trivial fun w hw=>by
  obtain⟨a,_,rfl⟩:=al.mp hw
  refine⟨_,rfl,bT kv dY (gk ?_)⟩
  rcases(show k=0\/k=1 by omega)with rfl|rfl<;>rfl
 rw[e]
 congr 3
 rcases(show k=0\/k=1 by omega)with rfl|rfl<;>simp[dg,aH,dJ]
theorem GM{p c:Nat}{ds:List Int}{st:List ah}(hp:st[p]?=some (.lst (wI ds)))(JO:ds.length=7)(K5:cY st)(ht:st[1]?=some Ju)(Hl:st[2]?=some Gv):BC [.loc p,.str [c]] st=.ok (.bl true) st:=by
 obtain⟨d4,g4⟩:∃d,ds[4]?=some d:=⟨_,ae #[0]⟩
 obtain⟨d5,g5⟩:∃d,ds[5]?=some d:=⟨_,ae #[0]⟩
 obtain⟨d6,g6⟩:∃d,ds[6]?=some d:=⟨_,ae #[0]⟩
 obtain⟨b,hb,eb⟩:=mf (q:=d4) (n:=2) #[0]
 obtain⟨f,hf,ef⟩:=mf (q:=d5) (n:=6) #[0]
 obtain⟨n,hn⟩:∃n,n=95+f-30*b:=⟨_,rfl⟩
 have hn1:65<=n/\n<=100:=by omega
 obtain⟨t,ht3,et⟩:=mf (q:=d6) (n:=n) #[0]
 obtain⟨nm,R9⟩:∃nm,nm=(List.replicate b [c]).flatten:=⟨_,rfl⟩
 have Tx:nm.length=b:=by rw[R9];rcases(show b=0\/b=1 by omega)with rfl|rfl<;>rfl
 have m4:∀s:List ah,gQ (.int d4) (.int 2) s=.ok (.int (b:Nat)) s:=fun s=>by rw[<- eb];exact oU #[8]
 have m5:∀s:List ah,gQ (.int d5) (.int 6) s=.ok (.int (f:Nat)) s:=fun s=>by rw[<- ef];exact oU #[8]
 have m6:∀s:List ah,gQ (.int d6) (.int (n:Nat)) s=.ok (.int (t:Nat)) s:=fun s=>by rw[<- et];exact oU #[0]
 have x1:iL (.str [c]) (.int (b:Nat)) st=.ok (.str nm) st:=by
  rw[MF ⟨by omega,by omega,by rw[aG];show 1*b<=1000000;omega⟩,aG,R9]
 refine hV (N:=12) (ws:=[.loc p,.str [c]]) (body:=KS) ?_ rfl
 refine aS (cx (bT kv (bT (bT kv dY (jj hp g4)) dY (m4 st)) x1)) ?_
 have x2:vU (.int (95+(f:Int))) (.int (30*(b:Int))) st=.ok (.int (n:Nat)) st:=by
  rw[show((n:Nat):Int)=95+(f:Int)-30*(b:Int) by omega];rfl
 refine aS (cx (bT (bT dY (bT (bT kv dY (jj hp g5)) dY (m5 st)) il) (bT dY (bT (bT kv dY (jj hp g4)) dY (m4 st)) (wt (.inl #[8]))) x2)) ?_
 refine aS (cx (nC bF (cJ _))) ?_
 have ln:∀s,cR [.str nm] s=.ok (.int (nm.length:Nat)) s:=fun s=>qC (by show _<=1000000;omega)
 obtain⟨M,hMe⟩:∃M,M=mR nm n t:=⟨_,rfl⟩
 have hM:oX M n:=by rw[hMe];exact K3 #[0]
 have hML:M.tb.length=2^nm.length:=by rw[hMe];simp[mR]
 have hMn:M.nm=nm:=by rw[hMe];rfl
 have hR:mh (bg M) M.tb.length n (fun a=>a+1-nm.length) nm.length:=by rw[hMe];exact JC #[0] #[0]
 have hpow:2^nm.length<=2:=by rw[Tx];rcases(show b=0\/b=1 by omega)with rfl|rfl<;>decide
 refine dy (fun i ρ s=>∃o5 o6 x,ρ=[some (.loc p),some (.str [c]),some (.str nm),some (.int (n:Nat)),some #[5],o5,o6,none,none,none,none,none]/\s=st++.lst ((M.tb.take i).map dA)::x/\cY x)
  (cX (q:=((2^nm.length:Nat):Int)) (aA (bT dY (bu kn (ln _)) (xR #[0])) bF) #[0]) ⟨none,none,[],rfl,rfl,tX⟩ #[9] ?_ ?_
 ·rintro i w ρ s hw ⟨o5,o6,x,rfl,rfl,hx⟩
  obtain⟨hi,rfl⟩:=fF hw
  rw[aG]at hi
  refine⟨_,rfl,?_⟩
  have es:fD (.int (1-(nm.length:Int))) (.int (0+(i:Int))) (st++.lst ((M.tb.take i).map dA)::x)=.ok (.int ((i+1-nm.length:Nat):Int)) (st++.lst ((M.tb.take i).map dA)::x):=by
   rw[show((i+1-nm.length:Nat):Int)=(1-(nm.length:Int))+(0+(i:Int)) by omega];exact il
  have TL:vU (.int 1) (.int (nm.length:Nat)) (st++.lst ((M.tb.take i).map dA)::x)=.ok (.int (1-(nm.length:Int))) (st++.lst ((M.tb.take i).map dA)::x):=rfl
  refine aS (cx (bT (bT dY (bu kn (ln _)) TL) kv es)) ?_
  obtain⟨y,ey,hy⟩:=GL (i+1-nm.length) (n:=n) #[0] #[0] (ρ:=[some (.loc p),some (.str [c]),some (.str nm),some (.int (n:Nat)),some #[5],some (.int (0+(i:Int))),some (.int ((i+1-nm.length:Nat):Int)),none,none,none,none,none]) rfl rfl (st++.lst ((M.tb.take i).map dA)::x)
  have cl:(st++.lst ((M.tb.take i).map dA)::x)[st.length]?=some (.lst ((M.tb.take i).map dA)):=by rw[cv];rfl
  refine⟨_,_,hJ (rp kv (gT cl) (aA ey bF) (qV (ax cl) (by rw[ai,bf];show _<1000000;omega))),_,_,x++y,rfl,?_,fj hx hy⟩
  have w9:M.tb.take (i+1)=M.tb.take i++[JB n (i+1-nm.length)]:=by
   rw[gF,show M.tb[i]?=some (JB n (i+1-nm.length))from hMe▸Q5 hi];rfl
  rw[w9,cF,az,List.cons_append,eJ];rfl
 rintro ρ s ⟨o5,o6,x,rfl,rfl,hx⟩
 have hrl:(bt 0 (((2^nm.length:Nat):Int)).toNat).length=M.tb.length:=by rw[bQ,aG,hML]
 rw[hrl,eY]
 have c4:(st++.lst (M.tb.map dA)::x)[st.length]?=some (.lst (M.tb.map dA)):=by rw[cv];rfl
 have np4:cY (st++.lst (M.tb.map dA)::x):=fj K5 (rR (fun _=>rfl) hx)
 have hp4:=ax (x:=.lst (M.tb.map dA)::x) hp
 have t4:=ax (x:=.lst (M.tb.map dA)::x) ht
 have t4':=ax (x:=.lst (M.tb.map dA)::x) Hl
 generalize hS:st++ah.lst (M.tb.map dA)::x=S at c4 np4 hp4 t4 t4'
 have eg:=fU (cap:=[none,some 3,some 0]) (fi:=bp (aj (ag 3) aI)) (f:=eG 0) (el:=e2 uA (ag 0) (e2 gQ (e2 bM (ag 2) (eI 6)) (ag 1))) (ρ:=[some (.loc p),some (.str [c]),some (.str nm),some (.int (n:Nat)),some #[5],o5,o6,none,none,none,none,none]) (st:=S) (st1:=S) (ws:=bt 0 n) (ck:=none) (fun w=>.bl (!((xo w:Int)==(t:Int))))
  (by have:=cX (fs:=aj (ag 3) aI) (ρ:=[some (.loc p),some (.str [c]),some (.str nm),some (.int (n:Nat)),some #[5],o5,o6,none,none,none,none,none]) (st:=S) (st1:=S) (q:=(n:Int)) kn #[0];rw[aG]at this;exact this) (by rw[bQ];show n<=1000000;omega) trivial fun w hw=>by
   obtain⟨i,_,rfl⟩:=oZ hw
   exact⟨_,rfl,bT kv (bT (bT kv dY (jj hp4 g6)) kv (m6 S)) (oB rfl)⟩
 have eg2:(bt 0 n).map (fun w=>W.bl (!((xo w:Int)==(t:Int))))=M.gd.map W.bl:=by
  rw[hMe];unfold mR
  rw[aH]
  exact nX (f:=fun w=>W.bl (!((xo w:Int)==(t:Int)))) fun i=>rfl
 rw[eg2]at eg
 have etb:dD [.loc st.length] (S++[ah.lst (M.gd.map W.bl)])=.ok (.tup (M.tb.map dA)) (S++[ah.lst (M.gd.map W.bl)]):=hW (aR (ax c4))
 have ew:W.tup [.str nm,.tup (M.gd.map W.bl),.tup (M.tb.map dA)]=M.w:=by unfold Mc.w;rw[hMn]
 refine aS (cx (lH (aA kv (aA (bu (aA eg bF) (hW (aR bK))) (aA (bu kn etb) bF))) (by show 3<=1000000;decide))) ?_
 rw[ew]
 have np5:cY (S++[ah.lst (M.gd.map W.bl)]):=fj np4 (rR (fun _=>rfl) tX)
 have t5:=ax (x:=[ah.lst (M.gd.map W.bl)]) t4
 have t5':=ax (x:=[ah.lst (M.gd.map W.bl)]) t4'
 have c5:=ax (x:=[ah.lst (M.gd.map W.bl)]) c4
 obtain⟨y5,h5⟩:∃y5,S++[ah.lst (M.gd.map W.bl)]=st++y5:=⟨_,by rw[<- hS,az]⟩
 generalize hS5:S++[ah.lst (M.gd.map W.bl)]=S5 at np5 t5 t5' c5 h5
 obtain⟨E,B,h,m,rs,l,el⟩:=ud hM #[0] hn1.2 (.inr fun E f=>hR.rise f) (a8 (gO (hML▸hpow) (Nat.mul_le_mul_left 2 hn1.2)) #[8]) #[0] np5 t5 t5'
 have hR':mh (bg (xq M)) (xq M).tb.length n (fun a=>a+1-nm.length) nm.length:=hR
 have hmn:m=n:=hR'.many l ht3 fun a ha=>by rw[hMe];exact To ha #[0]
 have hrs:rs=List.range n:=hR'.rsN l
 have hB:∀a,a<n->B a<m:=fun a ha=>l.blt (hR'.all l.full ha)
 obtain⟨M2,BY⟩:∃M2,M2=mB (xq M) E B h m:=⟨_,rfl⟩
 have hMo:oX M2 m:=BY▸l.okB
 have hw:t9 (xq M) E B h m rs=.tup [M2.w,fT B rs]:=by rw[BY];rfl
 have Dv:M2.nm=nm:=by rw[BY];exact hMn
 have hom:∀k a b,k<M.tb.length->a<n->b<n->bg M2 k (B a) (B b)=B (bg M k a b):=fun k a b hk ha hb=>by rw[BY];exact l.hom hk (hR'.all l.full ha) (hR'.all l.full hb)
 rw[hw]at el
 refine aS (cx (dz kn el rfl)) ?_
 have i0:∀s,bM (.tup [M2.w,fT B rs]) (.int 0) s=.ok M2.w s:=fun s=>gk rfl
 have i1:∀s,bM (.tup [M2.w,fT B rs]) (.int 1) s=.ok (fT B rs) s:=fun s=>gk rfl
 have rU:=BT hMo #[0] #[0] (by rw[Dv];omega) S5
 rw[Dv]at rU
 refine bU (dR (iD (a:=true) (b_ (dz kn (wT _ _ _) rfl)) rfl) (iD (a:=true) (b_ (dz (aA (bT kv dY (i0 _)) kn) rU rfl)) rfl)) (cz ?_)
 refine aS (cx (bT kv dY (i0 _))) ?_
 have j1:∀s,bM M2.w (.int 1) s=.ok (.tup (M2.gd.map W.bl)) s:=fun s=>gk rfl
 have lg:∀s,cR [.tup (M2.gd.map W.bl)] s=.ok (.int (n:Nat)) s:=fun s=>by rw[nD,ai,hMo.gd,hmn]
 have fr:=qY (M:=M) (M':=M2) (B:=B) (rs:=rs) (p:=S5.length) (st:=S5++[.lst [M.w,M2.w]]) bK fun a ha=>by
  rw[hrs]at ha
  rw[hM.gd,hMo.gd];exact⟨aT.mp ha,hB a (aT.mp ha)⟩
 refine bU (dR (b_ (bT (bu (aA (bT kv dY (j1 _)) bF) (lg _)) kv (oB (k:=false) (by rw[du];rfl)))) (iD (a:=true) (b_ (dz (aA (bT kv dY (i1 _)) (aA (nC (aA kv kn) (by show 2<=1000000;decide)) bF)) fr rfl)) rfl)) (cz ?_)
 have c6:=ax (x:=[ah.lst [M.w,M2.w]]) c5
 obtain⟨y6,h6⟩:∃y6,S5++[ah.lst [M.w,M2.w]]=st++y6:=⟨_,by rw[h5,az]⟩
 generalize hS6:S5++[ah.lst [M.w,M2.w]]=S6 at c6 h6
 have hrl2:rs.length=n:=by rw[hrs,cB]
 have pc:∀(k:Nat),k<2->∀(ρ:cu) (s:List ah),ρ[8]?=some (some (.tup [M2.w,fT B rs]))->cW [none] (ce (e2 bM (ag 8) (eI 1))) (eG 0) gG (e2 bM (ag 0) (eC (.int (k:Nat)))) ρ s=.ok (.loc s.length) (s++[.lst (dg (if k=0 then rs else rs.map B))]):=fun k hk ρ s hρ=>y0 (bT (iC hρ) dY (i1 s)) #[0] k hk
 have lr:wm [.int (n:Nat)] (S6++[.lst (dg rs)])=.ok (.loc (S6++[ah.lst (dg rs)]).length) (S6++[.lst (dg rs)]++[.lst (bt 0 n)]):=by
  show(if (0:Int)<=((n:Nat):Int)/\((n:Nat):Int)<=1000000 then _ else _)=_
  rw[aw ⟨by omega,by omega⟩,aG]
 have hzr:∀l:List Nat,dg l=(zI l).map W.int:=fun l=>by unfold dg zI;rw[aH];rfl
 have hrg:bt 0 n=(zI (List.range n)).map W.int:=by
  unfold bt zI;rw[aH]
  exact bb fun i _=>by show W.int (0+(i:Int))=W.int (i:Int);rw[fM]
 have nl:yp (.loc S6.length) (.loc (S6++[ah.lst (dg rs)]).length) (S6++[.lst (dg rs)]++[.lst (bt 0 n)])=.ok (.bl false) (S6++[.lst (dg rs)]++[.lst (bt 0 n)]):=
  K4 (l:=zI rs) (l':=zI (List.range n)) (ax (by rw[<- hzr];exact bK)) (by rw[<- hrg];exact bK) (by rw[hrs];simp)
 refine bU (b_ (bT (pc 0 #[0] _ S6 rfl) (bu kn lr) nl)) (cz ?_)
 have c7:=ax (x:=[ah.lst (bt 0 n)]) (ax (x:=[ah.lst (dg rs)]) c6)
 obtain⟨y7,h7⟩:∃y7,S6++[ah.lst (dg rs)]++[ah.lst (bt 0 n)]=st++y7:=⟨_,by rw[h6,az,az]⟩
 show hU _ (a7 _ _ _ (S6++[ah.lst (dg rs)]++[ah.lst (bt 0 n)]))
 generalize hS7:S6++[ah.lst (dg rs)]++[ah.lst (bt 0 n)]=S7 at c7 h7
 have e10:=pc 1 #[0] [some (.loc p),some (.str [c]),some (.str nm),some (.int (n:Nat)),some #[5],o5,o6,some M.w,some (.tup [M2.w,fT B rs]),some M2.w,none,none] S7 rfl
 refine aS (cx e10) ?_
 show hU _ (a7 _ _ _ (S7++[ah.lst (dg (rs.map B))]))
 have c10:(S7++[ah.lst (dg (rs.map B))])[S7.length]?=some (.lst (dg (rs.map B))):=bK
 have e11:=fU (cap:=[none,some 9]) (fi:=ce (ag 10)) (f:=eG 0) (el:=e2 bM (e2 bM (ag 1) (eI 1)) (ag 0)) (ρ:=[some (.loc p),some (.str [c]),some (.str nm),some (.int (n:Nat)),some #[5],o5,o6,some M.w,some (.tup [M2.w,fT B rs]),some M2.w,some (.loc S7.length),none]) (st:=S7++[ah.lst (dg (rs.map B))]) (st1:=S7++[ah.lst (dg (rs.map B))]) (fun w=>.bl (gM M2 (xo w))) (gy kv (aR c10)) (by simp only[ai];show _<=1000000;omega) (aR c10) fun w hw=>by
  obtain⟨a,ha,rfl⟩:=al.mp hw
  obtain⟨a0,ha0,rfl⟩:=al.mp ha
  rw[hrs]at ha0
  have ju:B a0<M2.gd.length:=by rw[hMo.gd];exact hB a0 (aT.mp ha0)
  refine⟨_,rfl,bT (bT kv dY (j1 _)) kv (gk (eM (?_:(M2.gd.map W.bl)[B a0]?=some (W.bl (gM M2 (xo (.int (B a0:Nat)))))))) ⟩
  rw[ak,ae ju]
  show some (W.bl M2.gd[B a0])=some (W.bl (gM M2 ((B a0:Nat):Int).toNat))
  rw[aG];unfold gM;rw[aD,ae ju];rfl
 refine aS (Gu e11 rfl) ?_
 have e13:(dg (rs.map B)).map (fun w=>W.bl (gM M2 (xo w)))=(M.gd.map fun b=>!b).map W.bl:=by
  have:(M.gd.map fun b=>!b)=(List.range n).map fun a=>gM M2 (B a):=by
   refine gD fun i=>?_
   rw[ak,ak]
   rcases ca i n with z|z
   ·have hi:i<M.gd.length:=by rw[hM.gd];exact z
    rw[bn z,ae hi]
    show some (!M.gd[i])=some (gM M2 (B i))
    rw[BY,l.gdB (hR'.all l.full z),GF hM z]
    unfold gM;rw[aD,ae hi];rfl
   ·rw[de (by rw[hM.gd];exact z),de (by rw[cB];exact z)];rfl
  rw[this,hrs]
  simp only[dg,aH]
  exact bb fun a _=>by show W.bl (gM M2 ((B a:Nat):Int).toNat)=_;rw[aG];rfl
 rw[e13]
 have c11:(S7++[ah.lst (dg (rs.map B))]++[ah.lst ((M.gd.map fun b=>!b).map W.bl)])[(S7++[ah.lst (dg (rs.map B))]).length]?=some (.lst ((M.gd.map fun b=>!b).map W.bl)):=bK
 have c10':=ax (x:=[ah.lst ((M.gd.map fun b=>!b).map W.bl)]) c10
 have c8:=ax (x:=[ah.lst ((M.gd.map fun b=>!b).map W.bl)]) (ax (x:=[ah.lst (dg (rs.map B))]) c7)
 obtain⟨y8,h8⟩:∃y8,S7++[ah.lst (dg (rs.map B))]++[ah.lst ((M.gd.map fun b=>!b).map W.bl)]=st++y8:=⟨_,by rw[h7,az,az]⟩
 generalize hS8:S7++[ah.lst (dg (rs.map B))]++[ah.lst ((M.gd.map fun b=>!b).map W.bl)]=S8 at c11 c10' c8 h8
 generalize (S7++[ah.lst (dg (rs.map B))]).length=q11 at c11
 generalize S7.length=q10 at c10'
 have e12:=fU (cap:=[none]) (fi:=ce (e2 bM (ag 7) (eI 1))) (f:=eG 0) (el:=zG (ag 0)) (ρ:=[some (.loc p),some (.str [c]),some (.str nm),some (.int (n:Nat)),some #[5],o5,o6,some M.w,some (.tup [M2.w,fT B rs]),some M2.w,some (.loc q10),some (.loc q11)]) (st:=S8) (st1:=S8) (ws:=M.gd.map W.bl) (ck:=none) (fun w=>match w with|.bl b=>.bl !b|w=>w) (gw kx) (by rw[ai,hM.gd];show n<=1000000;omega) trivial fun w hw=>by
  obtain⟨b,_,rfl⟩:=al.mp hw
  exact⟨_,rfl,EU kv rfl⟩
 have e14:(M.gd.map W.bl).map (fun w=>match w with|.bl b=>.bl !b|w=>w)=(M.gd.map fun b=>!b).map W.bl:=by rw[aH,aH];rfl
 rw[e14]at e12
 have h00:bM (.loc q10) (.int 0) S8=.ok (.int 0) S8:=by
  refine jo (aR c10') (eM (q:=0) ?_)
  rw[hrs,ak,ak,bn (show 0<n by omega)]
  show some (W.int (B 0:Nat))=_
  rw[l.b0];rfl
 refine bU (dR (b_ (bT (bT kv dY h00) dY (oB rfl))) (b_ (bT kv e12 (Q4 (b:=false) (ax c11) bK #[7])))) (cz ?_)
 have c9:=ax (x:=[ah.lst ((M.gd.map fun b=>!b).map W.bl)]) c8
 have c12:=ax (x:=[ah.lst ((M.gd.map fun b=>!b).map W.bl)]) c10'
 obtain⟨y9,h9⟩:∃y9,S8++[ah.lst ((M.gd.map fun b=>!b).map W.bl)]=st++y9:=⟨_,by rw[h8,az]⟩
 generalize hS9:S8++[ah.lst ((M.gd.map fun b=>!b).map W.bl)]=S9 at c9 c12 h9
 have lt:cR [.loc st.length] S9=.ok (.int (M.tb.length:Nat)) S9:=by rw[jB (aR c9),ai]
 have e15:=fU (cap:=[none,some 10,some 4,some 9]) (fi:=bp (aj (bh cR (aj (ag 4) aI)) aI)) (f:=eG 0) (el:=ej 3 yL (aj (e2 bM (ag 2) (ag 0)) (aj (e2 bM (e2 bM (ag 3) (eI 2)) (ag 0)) (aj (ag 1) aI)))) (ρ:=[some (.loc p),some (.str [c]),some (.str nm),some (.int (n:Nat)),some #[5],o5,o6,some M.w,some (.tup [M2.w,fT B rs]),some M2.w,some (.loc q10),some (.loc q11)]) (st:=S9) (st1:=S9) (ws:=bt 0 M.tb.length) (ck:=none) (fun _=>.bl true)
  (by have:=cX (fs:=aj (bh cR (aj (ag 4) aI)) aI) (ρ:=[some (.loc p),some (.str [c]),some (.str nm),some (.int (n:Nat)),some #[5],o5,o6,some M.w,some (.tup [M2.w,fT B rs]),some M2.w,some (.loc q10),some (.loc q11)]) (st:=S9) (st1:=S9) (q:=(M.tb.length:Int)) (aA (bu kn lt) bF) #[0];rw[aG]at this;exact this) (by rw[bQ];show _<=1000000;omega) trivial fun w hw=>by
   obtain⟨k,hk,rfl⟩:=oZ hw
   have g1:=ae hk
   have hk2:k<M2.tb.length:=by rw[hMo.tb,Dv,<- hML];exact hk
   have g2:=ae hk2
   refine⟨_,rfl,dz (aA (bT kv kv (jo (aR c9) (eM (by rw[ak,g1];rfl)))) (aA (bT (bT kv dY (show bM M2.w (.int 2) S9=.ok (.tup (M2.tb.map dA)) S9 from gk rfl)) kv (gk (eM (by rw[ak,g2];rfl)))) kn)) (wU hM hMo g1 g2 hB (fun a b ha hb=>hom k a b hk ha hb) #[0] (by rw[<- hrs];exact c12)) rfl⟩
 have e16:(bt 0 M.tb.length).map (fun _=>W.bl true)=(List.replicate M.tb.length true).map W.bl:=by
  rw[List.map_const',bQ,List.map_replicate]
 rw[e16]at e15
 have e17:(List.replicate M.tb.length true).all id=true:=by simp
 exact eK (bu (aA e15 bF) (Ke bK)) ⟨_,_,rfl,by rw[e17],_,by rw[h9,az]⟩
theorem JD{st:List ah}(h:l.length<64):k9 [.str l] st=.ok #[5] (st++[.lst ((fJ (l.map fun c=>[c])).map W.str)]):=by
 unfold k9;simp only;rw[aw h]
theorem JE{st s1:List ah}{l:List Nat}(h:fe ρ st=.ok (.str l) s1)(hl:l.length<64) :
  Mi pI (eC (.str [])) (aj (bh k9 (aj fe aI)) aI) ρ st=.ok (.str (Hg l)) (s1++[.lst ((fJ (l.map fun c=>[c])).map W.str)]):=by
 have hcell2:lstOf (s1++[ah.lst ((fJ (l.map fun c=>[c])).map W.str)]) s1.length=some ((fJ (l.map fun c=>[c])).map W.str):=aR bK
 have hj:=Ab (sep:=[]) hcell2 (by rw[pR (gI _),tP];show _<=1000000;simp;omega)
 exact IW dY rfl (aA (bu (aA h bF) (JD hl)) bF) hj
theorem Ui(ns:List Int):cY (.ro (ns.map W.int)::rj tabL):=fun d hd c=>by
 simp only[rj,tabL,List.map,aK,lX,or_false]at hd
 rcases hd with rfl|rfl|rfl<;>rfl
theorem NJ{l:List W}:cY [ah.lst l]:=rR (fun _=>rfl) tX
theorem law_ok:Et (rj tabL) f_q28:=by
 intro ns GT
 suffices hh:hU (yw fun w bL=>w=.bl true) (KU ([W.loc 0].map some++List.replicate (14-1) none) (.ro (ns.map W.int)::rj tabL)) by
  obtain⟨w,bL,e,rfl⟩:=hh
  exact⟨_,rM e⟩
 have h0:(ah.ro (ns.map W.int)::rj tabL)[0]?=some (.ro (ns.map W.int)):=rfl
 have ht:(ah.ro (ns.map W.int)::rj tabL)[1]?=some Ju:=rfl
 have Hl:(ah.ro (ns.map W.int)::rj tabL)[2]?=some Gv:=rfl
 have K5:=Ui ns
 generalize Tu:(ah.ro (ns.map W.int)::rj tabL:List ah)=s0 at h0 ht Hl K5
 obtain⟨c0,e0⟩:=wG h0 0
 obtain⟨ds,hdl,R8,e1⟩:=tO c0 100003 7 #[0] s0
 refine aS (cx (dz (aA (dz (aA kv (aA dY bF)) e0 rfl) (aA dY (aA dY bF))) e1 rfl)) ?_
 show hU _ (a7 _ _ _ (s0++[ah.lst (wI ds)]))
 have cd:(s0++[ah.lst (wI ds)])[s0.length]?=some (.lst (wI ds)):=bK
 have h1:=ax (x:=[ah.lst (wI ds)]) h0
 have t1:=ax (x:=[ah.lst (wI ds)]) ht
 have t1':=ax (x:=[ah.lst (wI ds)]) Hl
 have np1:=fj K5 (NJ (l:=wI ds))
 show hU _ (a7 _ _ [some (.loc 0),some (.loc s0.length),none,none,none,none,none,none,none,none,none,none,none,none] _)
 generalize s0.length=p at cd
 generalize s0++[ah.lst (wI ds)]=s1 at cd h1 t1 t1' np1
 obtain⟨d0,g0⟩:∃d,ds[0]?=some d:=⟨_,ae #[0]⟩
 obtain⟨d1,g1⟩:∃d,ds[1]?=some d:=⟨_,ae #[0]⟩
 obtain⟨d2,g2⟩:∃d,ds[2]?=some d:=⟨_,ae #[0]⟩
 obtain⟨d3,g3⟩:∃d,ds[3]?=some d:=⟨_,ae #[0]⟩
 obtain⟨c1,ec1⟩:=wG h1 1
 have tsy:fQ (e2 pd (e2 gQ (e2 bM (ag 1) (eI 3)) (eI 16)) (eI 5)) [some (.loc 0),some (.loc p),none,none,none,none,none,none,none,none,none,none,none,none] s1=.ok (d3%16==5) s1:=
  b_ (bT (bT (bT kv dY (jj cd g3)) dY (oU #[8])) dY (oA rfl))
 refine C1 tsy (fun _=>?_) (fun _=>cz ?_)
 ·obtain⟨pl,qK,_,_,ep⟩:=BD c1 200017 1 #[0] s1
  obtain⟨ch,rfl⟩:∃ch,pl=[ch]:=by
   match pl,qK with
   |[ch],_=>exact⟨ch,rfl⟩
  exact iE (dz (aA kv (aA (dz (aA (dz (aA kv (aA dY bF)) ec1 rfl) (aA dY (aA dY bF))) ep rfl) bF)) (GM cd hdl np1 t1 t1') rfl) ⟨_,_,rfl,rfl⟩
 obtain⟨cn,hcn,ecn⟩:=mf (q:=d0) (n:=3) #[0]
 have m0:gQ (.int d0) (.int 3) s1=.ok (.int (cn:Nat)) s1:=by rw[<- ecn];exact oU #[8]
 refine aS (cx (bT (bT kv dY (jj cd g0)) dY m0)) ?_
 obtain⟨pl,qK,_,_,ep⟩:=BD c1 200017 cn #[0] s1
 have hpl2:(Hg pl).length=cn:=by rw[Ja,qK]
 refine aS (cx (JE (l:=pl) (dz (aA (dz (aA kv (aA dY bF)) ec1 rfl) (aA kv (aA dY bF))) ep rfl) #[0])) ?_
 generalize Hg pl=nm at hpl2
 have cd2:=ax (x:=[ah.lst ((fJ (pl.map fun c=>[c])).map W.str)]) cd
 have h2:=ax (x:=[ah.lst ((fJ (pl.map fun c=>[c])).map W.str)]) h1
 have t2:=ax (x:=[ah.lst ((fJ (pl.map fun c=>[c])).map W.str)]) t1
 have t2':=ax (x:=[ah.lst ((fJ (pl.map fun c=>[c])).map W.str)]) t1'
 have np2:=fj np1 (NJ (l:=(fJ (pl.map fun c=>[c])).map W.str))
 show hU _ (a7 _ _ _ (s1++[ah.lst ((fJ (pl.map fun c=>[c])).map W.str)]))
 generalize s1++[ah.lst ((fJ (pl.map fun c=>[c])).map W.str)]=s2 at cd2 h2 t2 t2' np2
 obtain⟨q,hq1,hq7,hqs,eq⟩:∃q:Nat,1<=q/\q<=7/\True/\n_ [W.int 7,.int 5,.int 3] ((cn:Nat):Int)=some (.int (q:Nat)):=by
  rcases(show cn=0\/cn=1\/cn=2 by omega)with rfl|rfl|rfl
  ·exact⟨7,by omega,by omega,trivial,rfl⟩
  ·exact⟨5,by omega,by omega,trivial,rfl⟩
  ·exact⟨3,by omega,by omega,trivial,rfl⟩
 obtain⟨n0,hn0,en0⟩:=mf (q:=d1) (n:=q) #[0]
 have cd3:=ax (x:=[ah.lst [W.int 7,.int 5,.int 3]]) cd2
 have h3:=ax (x:=[ah.lst [W.int 7,.int 5,.int 3]]) h2
 have t3:=ax (x:=[ah.lst [W.int 7,.int 5,.int 3]]) t2
 have t3':=ax (x:=[ah.lst [W.int 7,.int 5,.int 3]]) t2'
 have np3:=fj np2 (NJ (l:=[W.int 7,.int 5,.int 3]))
 have m1:gQ (.int d1) (.int (q:Nat)) (s2++[ah.lst [W.int 7,.int 5,.int 3]])=.ok (.int (n0:Nat)) (s2++[ah.lst [W.int 7,.int 5,.int 3]]):=by rw[<- en0];exact oU #[0]
 have ad:fD (.int 1) (.int (n0:Nat)) (s2++[ah.lst [W.int 7,.int 5,.int 3]])=.ok (.int ((1+n0:Nat):Int)) (s2++[ah.lst [W.int 7,.int 5,.int 3]]):=by
  rw[show((1+n0:Nat):Int)=1+(n0:Int) by omega];exact il
 refine aS (cx (bT dY (bT (bT kv dY (jj cd2 g1)) (bT (nC (aA dY (aA dY (aA dY bF))) (by show 3<=1000000;decide)) kv (jo (aR bK) eq)) m1) ad)) ?_
 obtain⟨n,hn⟩:∃n,n=1+n0:=⟨_,rfl⟩
 rw[<- hn]
 generalize s2++[ah.lst [W.int 7,.int 5,.int 3]]=s3 at cd3 h3 t3 t3' np3
 refine aS (cx kv) ?_
 obtain⟨tp,htp1,htpn,hsat⟩:∃tp:Nat,1<=tp/\tp<=n/\∀{Q:RS->Prop} {rest:FS},hU Q (rest [some (.loc 0),some (.loc p),some (.int (cn:Nat)),some (.str nm),some (.int (n:Nat)),some (.int (tp:Nat)),none,none,none,none,none,none,none,none] s3)->hU Q (a7 (iX (fQ (e2 pd (e2 gQ (e2 bM (ag 1) (eI 2)) (eI 3)) (eI 1))) (cC 5 (bh Cy (aj (eI 1) (aj (e2 vU (ag 4) (eI 1)) aI)))) cK) rest [some (.loc 0),some (.loc p),some (.int (cn:Nat)),some (.str nm),some (.int (n:Nat)),some (.int (n:Nat)),none,none,none,none,none,none,none,none] s3):=by
  have tsx:fQ (e2 pd (e2 gQ (e2 bM (ag 1) (eI 2)) (eI 3)) (eI 1)) [some (.loc 0),some (.loc p),some (.int (cn:Nat)),some (.str nm),some (.int (n:Nat)),some (.int (n:Nat)),none,none,none,none,none,none,none,none] s3=.ok (d2%3==1) s3:=
   b_ (bT (bT (bT kv dY (jj cd3 g2)) dY (oU #[8])) dY (oA rfl))
  cases hb:(d2%3==1)with
  |true=>
   rw[hb]at tsx
   refine⟨max 1 (n-1),by omega,by omega,fun{Q rest} hQ=>jb tsx (aS (cx (bu (aA dY (aA (bT kv dY (show vU (.int (n:Nat)) (.int 1) s3=.ok (.int ((n:Int)-1)) s3 from rfl)) bF)) Qc)) ?_)⟩
   rw[show(if (n:Int)-1>1 then(n:Int)-1 else 1)=((max 1 (n-1):Nat):Int) by split<;>omega]
   exact hQ
  |false=>
   rw[hb]at tsx
   exact⟨n,by omega,by omega,fun{Q rest} hQ=>bU tsx (cz hQ)⟩
 refine hsat ?_
 clear hsat
 obtain⟨c2,ec2⟩:=wG h3 2
 have hpow:2^cn<=4:=by rcases(show cn=0\/cn=1\/cn=2 by omega)with rfl|rfl|rfl<;>decide
 have hnn:n*n*2^cn<=200:=a8 (gO (gO (show n<=7 by omega) (show n<=7 by omega)) hpow) #[8]
 obtain⟨es,hel,_,e6⟩:=tO c2 300007 (n+n*n*2^cn) #[0] s3
 have sh:sA (.int ((n:Int)*(n:Int))) (.int (cn:Nat)) s3=.ok (.int ((n*n*2^cn:Nat):Int)) s3:=by
  have hab:((n:Int)*(n:Int)).natAbs<2^64:=by
   rw[<- ig,Int.natAbs_natCast]
   exact iu (gO (show n<=7 by omega) (show n<=7 by omega)) #[8]
  have e:=oU (C:=fun i j=>0<=j/\j<=1000000/\i.natAbs<2^64) (f:=fun i j=>i*2^j.toNat) (p:=(n:Int)*(n:Int)) (q:=(cn:Int)) (st:=s3) ⟨by omega,by omega,hab⟩
  rw[show sA (.int ((n:Int)*(n:Int))) (.int (cn:Nat)) s3=_ from e,aG,ig,ig,Int.natCast_pow];rfl
 have ad2:fD (.int (n:Nat)) (.int ((n*n*2^cn:Nat):Int)) s3=.ok (.int ((n+n*n*2^cn:Nat):Int)) s3:=by
  rw[ik];exact il
 refine aS (cx (dz (aA (dz (aA kv (aA dY bF)) ec2 rfl) (aA (bT kv (bT (bT kv kv (wt (.inl ⟨by omega,by omega⟩))) kv sh) ad2) (aA dY bF))) e6 rfl)) ?_
 have cd4:(s3++[ah.lst (wI es)])[s3.length]?=some (.lst (wI es)):=bK
 have t4:=ax (x:=[ah.lst (wI es)]) t3
 have t4':=ax (x:=[ah.lst (wI es)]) t3'
 have np4:=fj np3 (NJ (l:=wI es))
 show hU _ (a7 _ _ [some (.loc 0),some (.loc p),some (.int (cn:Nat)),some (.str nm),some (.int (n:Nat)),some (.int (tp:Nat)),some (.loc s3.length),none,none,none,none,none,none,none] (s3++[ah.lst (wI es)]))
 generalize s3.length=p4 at cd4
 generalize s3++[ah.lst (wI es)]=s4 at cd4 t4 t4' np4
 obtain⟨M,hMn,hM,em⟩:=Aj nm n tp p4 es s4 #[0] #[0] #[0] htp1 htpn cd4 (by rw[hel,hpl2,Nat.mul_comm (2^cn)];exact au _)
 refine aS (cx (dz (aA kv (aA kv (aA kv kn))) em rfl)) ?_
 have hML:M.tb.length<=4:=by rw[hM.tb,hMn,hpl2];exact hpow
 have sz:∀{k:Nat},k<=7->M.tb.length*(2*k)<=10000:=fun{k} hk=>a8 (gO hML (show 2*k<=14 by omega)) #[8]
 obtain⟨E,B,h,m,rs,l,el⟩:=ud hM #[0] #[0] (.inl #[0]) (sz #[0]) #[0] np4 t4 t4'
 obtain⟨hmn,hm1⟩:=l.m_le
 obtain⟨M2,BY⟩:∃M2,M2=mB (xq M) E B h m:=⟨_,rfl⟩
 have hMo:oX M2 m:=BY▸l.okB
 have hw:t9 (xq M) E B h m rs=.tup [M2.w,fT B rs]:=by rw[BY];rfl
 have Dv:M2.nm=nm:=by rw[BY];exact hMn
 have hL2:M2.tb.length<=4:=by rw[hMo.tb,Dv,hpl2];exact hpow
 have hrs:∀{a},a∈rs->a<n/\a∈fs E:=fun ha=>⟨l.rso.lt _ ha,l.mem.mpr ha⟩
 have hrl:rs.length<=n:=by
  have:=h_ (BO l.up) (l:=List.range n) fun c hc=>aT.mpr (hrs hc).1
  rwa[cB]at this
 rw[hw]at el
 refine aS (cx (dz kn el rfl)) ?_
 have i0:∀s,bM (.tup [M2.w,fT B rs]) (.int 0) s=.ok M2.w s:=fun s=>gk rfl
 have i1:∀s,bM (.tup [M2.w,fT B rs]) (.int 1) s=.ok (fT B rs) s:=fun s=>gk rfl
 have rU:=BT hMo hm1 #[0] (by rw[Dv];omega) s4
 rw[Dv]at rU
 refine bU (dR (iD (a:=true) (b_ (dz kn (wT _ _ _) rfl)) rfl) (iD (a:=true) (b_ (dz (aA (bT kv dY (i0 _)) kn) rU rfl)) rfl)) (cz ?_)
 refine aS (cx (bT kv dY (i0 _))) ?_
 refine aS (cx (bT kv dY (i1 _))) ?_
 have fr:=qY (M:=M) (M':=M2) (B:=B) (rs:=rs) (p:=s4.length) (st:=s4++[.lst [M.w,M2.w]]) bK fun a ha=>by
  rw[hM.gd,hMo.gd];exact⟨(hrs ha).1,l.blt (hrs ha).2⟩
 have np5:=fj np4 (NJ (l:=[M.w,M2.w]))
 have t5:=ax (x:=[ah.lst [M.w,M2.w]]) t4
 have t5':=ax (x:=[ah.lst [M.w,M2.w]]) t4'
 have np6:=fj np5 (NJ (l:=dg rs))
 have t6:=ax (x:=[ah.lst (dg rs)]) t5
 have t6':=ax (x:=[ah.lst (dg rs)]) t5'
 obtain⟨xa,j,x,hx,hr',hxj,emt⟩:=NE (st:=s4++[ah.lst [M.w,M2.w]]++[ah.lst (dg rs)]) hM #[0] #[0]
 have G8:xa=rs:=yW.one (M:=xq M) (N:=n) ⟨hr'.up,hr'.zero,hr'.lt,hr'.cl,hr'.least⟩ l.rso
 subst G8
 have hzr:∀l:List Nat,dg l=(zI l).map W.int:=fun l=>by unfold dg zI;rw[aH];rfl
 have pc:=y0 (B:=B) (rs:=xa) (fe:=ag 10) (ρ:=[some (.loc 0),some (.loc p),some (.int (cn:Nat)),some (.str nm),some (.int (n:Nat)),some (.int (tp:Nat)),some (.loc p4),some M.w,some (.tup [M2.w,fT B xa]),some M2.w,some (fT B xa),none,none,none]) (st:=s4++[.lst [M.w,M2.w]]) kv #[0] 0 #[0]
 have nl:=K4 (b:=false) (l:=zI xa) (l':=zI xa) (p:=(s4++[ah.lst [M.w,M2.w]]).length) (q:=(s4++[ah.lst [M.w,M2.w]]++[ah.lst (dg xa)]).length+j) (st:=s4++[ah.lst [M.w,M2.w]]++[ah.lst (dg xa)]++x) (ax (by rw[<- hzr];exact bK)) (by rw[eA,<- hzr];exact hxj) #[7]
 refine bU (dR (iD (a:=true) (b_ (dz (aA kv (aA (nC (aA kv kn) (by show 2<=1000000;decide)) bF)) fr rfl)) rfl) (b_ (bT pc (dz kn emt rfl) nl))) (cz ?_)
 have np7:=fj np6 hx
 have t7:=ax (x:=x) t6
 have t7':=ax (x:=x) t6'
 generalize s4++[ah.lst [M.w,M2.w]]++[ah.lst (dg xa)]++x=s7 at np7 t7 t7'
 have r0:xa[0]?=some 0:=by
  have hz:=hr'.zero
  have hu:=hr'.up
  match xa,hz,hu with
  |a::r,hz,hu=>
   rcases aK.mp hz with e|e
   ·rw[<- e];rfl
   ·have:=(cf.mp hu).1 0 e;omega
 have p0:bM (fT B xa) (.int 0) s7=.ok (.tup [.int 0,.int 0]) s7:=by
  refine gk (eM (q:=0) ?_)
  rw[ak,r0]
  show some (W.tup [.int ((0:Nat):Int),.int (B 0:Nat)])=_
  rw[l.b0];rfl
 refine bU (b_ (bT (bT kv dY p0) (lH (aA dY (aA dY bF)) (by show 2<=1000000;decide)) (show uA (.tup [.int 0,.int 0]) (.tup [.int 0,.int 0]) s7=.ok (.bl false) s7 from rfl))) (cz ?_)
 have gat:∀{K:Mc} {k a:Nat} {s:List ah},oX K k->a<k->bM (.tup (K.gd.map W.bl)) (.int (a:Nat)) s=.ok (.bl (gM K a)) s:=fun{K k a s} hK ha=>gk (eM (by
  have ju:a<K.gd.length:=by rw[hK.gd];exact ha
  rw[ak,ae ju]
  show some (W.bl K.gd[a])=some (W.bl (gM K a))
  unfold gM;rw[aD,ae ju];rfl))
 refine dy (fun i ρ s=>∃qi qg,ρ=[some (.loc 0),some (.loc p),some (.int (cn:Nat)),some (.str nm),some (.int (n:Nat)),some (.int (tp:Nat)),some (.loc p4),some M.w,some (.tup [M2.w,fT B xa]),some M2.w,some (fT B xa),qi,qg,none]/\s=s7) (gw kv) ⟨none,none,rfl,rfl⟩ #[9] ?_ ?_
 ·rintro i w ρ s hw ⟨qi,qg,rfl,rfl⟩
  obtain⟨a,ha,rfl⟩:=al.mp (ao hw)
  obtain⟨ha1,ha2⟩:=hrs ha
  have gne:(gM M2 (B a)==gM M a)=false:=by
   rw[BY,l.gdB ha2,GF hM ha1]
   cases gM M a<;>rfl
  exact⟨_,rfl,mL (b_ (bT (bT kx kv (gat hMo (l.blt ha2))) (bT kx kv (gat hM ha1)) (Kd gne))) ⟨_,_,qB,_,_,rfl,rfl⟩⟩
 rintro ρ s ⟨qi,qg,rfl,rfl⟩
 have sh2:=GJ (M:=M) (M':=M2) (B:=B) (rs:=xa) (nm:=nm) (p:=s.length) (st:=s++[.lst [M.w,M2.w]]) hM hMo hMn Dv #[0] bK (BO l.up) #[0] (fun a ha=>⟨(hrs ha).1,l.blt (hrs ha).2⟩) fun k hk a ha b hb=>⟨l.rso.cl k hk a ha b hb,by rw[BY];exact l.hom hk (hrs ha).2 (hrs hb).2⟩
 refine bU (iD (a:=true) (b_ (dz (aA (nC (aA kv kn) (by show 2<=1000000;decide)) (aA kv kn)) sh2 rfl)) rfl) (cz ?_)
 have np8:=fj np7 (NJ (l:=[M.w,M2.w]))
 have t8:=ax (x:=[ah.lst [M.w,M2.w]]) t7
 have t8':=ax (x:=[ah.lst [M.w,M2.w]]) t7'
 generalize s++[ah.lst [M.w,M2.w]]=s8 at np8 t8 t8'
 obtain⟨E3,B3,h3',m3,Rt,l3,el3⟩:=yX hMo hm1 #[0] (.inl #[0]) (a8 (gO hL2 (show 2*m<=14 by omega)) #[8]) #[0] np8 t8 t8'
 have tw:t9 M2 E3 B3 h3' m3 Rt=.tup [M2.w,fT (fun j=>j) (List.range m)]:=by
  subst BY;exact l.twice l3
 rw[tw]at el3
 refine aS (cx (dz kn el3 rfl)) ?_
 exact eK (nT (dz kn (wT _ _ _) rfl) (dz (aA kx kn) (GB hMo #[0] #[0] 35 s8) rfl)) ⟨_,_,rfl,rfl⟩
theorem all_mk{l:PySem.W.OpenLaw}{w:World}{fa:Addr}(X:K.In h)(G:h.Ns mainGlobals mg)(Ul:mg "law"=some (.ref fa))
  {G7 Aw AB:Addr} {Rb Rv NZ N3 NK GX:Option Addr} {RG N6 NU:Array (Option Value)} {RC RE Rz RD Rx NS NP NV NW Od NL GV G9 GS AA GO:Value} {jO kP:Addr}
  (Aq:DefIn K "table_by" MN)
  (wZ:DefIn K "pairs_with" MO)
  (N_:DefIn K "says" MP)
  (Az:DefIn K "numbered" MR)
  (uJ:DefIn K "good_blocks" MS)
  (Ar:DefIn K "views_of" MT)
  (um:DefIn K "split_blocks" MU)
  (As:DefIn K "put_ways" MV)
  (uK:DefIn K "last_blocks" MW)
  (Au:DefIn K "heads_of" E7)
  (Dp:DefIn K "flipped" E9)
  (za:DefIn K "_law_cell" Fa)
  (xk:DefIn K "_law_mixed" Fc)
  (w_:DefIn K "_law_draws" Fe)
  (zb:DefIn K "_law_same" Fg)
  (zm:DefIn K "_law_pool" Fj)
  (wY:DefIn K "_law_marks" Fl)
  (ug:DefIn K "_law_machine" Fp)
  (uI:DefIn K "_law_letter" Fr)
  (zl:DefIn K "_law_fits" Ft)
  (Av:DefIn K "_law_met" Fv)
  (rC:DefIn K "_law_rows_fit" Fx)
  (w6:DefIn K "_law_shuts" Fz)
  (y_:DefIn K "_law_pair" FB)
  (qM:DefIn K "_law_led_alike" FD)
  (wX:DefIn K "_law_large" FH)
  (Tw:nsIn K mainGlobals "firsts_of"=some (some (.ref G7)))
  (TJ:K.lookup G7=some ⟨RC,Rb,.func (fnOf "firsts_of" "firsts_of" (dO C3) (dQ C3) (aY C3) .none RE Rz RD Rv (.ref jO) Rx),RG⟩)
  (GZ:codeIn K (.ref jO) "firsts_of"=true)
  (TF:keepIn K (.ref G7)=true)
  (tc_firsts_of:codeHdIn K jO 66=true)
  (tk_firsts_of:K.lookup 66=none)
  (Rq:nsIn K mainGlobals "least_of"=some (some (.ref Aw)))
  (Rw:K.lookup Aw=some ⟨NS,NZ,.func (fnOf "least_of" "least_of" (dO tI) (dQ tI) (aY tI) .none NP NV NW N3 (.ref kP) Od),N6⟩)
  (Do:codeIn K (.ref kP) "least_of"=true)
  (RH:keepIn K (.ref Aw)=true)
  (tc_least_of:codeHdIn K kP 87=true)
  (tk_least_of:K.lookup 87=none)
  (K8:nsIn K mainGlobals "law"=some (some (.ref AB)))
  (Ry:K.lookup AB=some ⟨NL,NK,.func (fnOf "law" "law" (dO pP) (dQ pP) (aY pP) .none GV G9 GS GX AA GO),NU⟩)
  (Dl:codeIn K AA "law"=true)
  (Rp:keepIn K (.ref AB)=true)
  (Rk:nsIn K mainGlobals "all"=some none)
  (NO:nsIn K mainGlobals "bool"=some none)
  (zn:nsIn K mainGlobals "enumerate"=some none)
  (Q8:nsIn K mainGlobals "int"=some none)
  (xg:nsIn K mainGlobals "isinstance"=some none)
  (Q6:nsIn K mainGlobals "len"=some none)
  (NR:nsIn K mainGlobals "list"=some none)
  (Q7:nsIn K mainGlobals "max"=some none)
  (Re:nsIn K mainGlobals "min"=some none)
  (JM:nsIn K mainGlobals "range"=some none)
  (Hb:nsIn K mainGlobals "sorted"=some none)
  (Q_:nsIn K mainGlobals "str"=some none)
  (JN:nsIn K mainGlobals "tuple"=some none) :
  ∃fd:FuncData,(∀(s:Shared) (v:Value),BindsTo s fd ⟨[v],[]⟩ [("_law_script",v)])/\∀base:Heap,K.In base->base.Ns mainGlobals mg->rh base mg->fS l.prog w K mg base (kF l.prog w) 41 fa fd FJ (l8 K mg 1 f_q28):=by
 have e:=Ul.symm.trans (mg_of X G K8)
 cases e
 have F_q8:=vO (st:=C3) TJ GZ TF
 have m_q8:=mg_of X G Tw
 have F_q11:=vO (st:=tI) Rw Do RH
 have m_q11:=mg_of X G Rq
 obtain⟨_,_,vC,zk⟩:=zb.fn X G
 have F_q28:=vO (st:=pP) Ry Dl Rp
 have m_q28:=mg_of X G K8
 have B:Bl mg:=⟨mg_none_of X G Rk,mg_none_of X G NO,mg_none_of X G zn,mg_none_of X G Q8,mg_none_of X G xg,mg_none_of X G Q6,mg_none_of X G NR,mg_none_of X G Q7,mg_none_of X G Re,mg_none_of X G JM,mg_none_of X G Hb,mg_none_of X G Q_,mg_none_of X G JN⟩
 refine⟨fnOf "law" "law" (dO pP) (dQ pP) (aY pP) .none GV G9 GS GX AA GO,fun s v=>.of_eq rfl,fun base _ _ Bk=>?_⟩
 have qd:=@Mp l.prog w K mg base
 have je:=n6 (P:=l.prog) (w:=w) (K:=K) (mg:=mg) (base:=base)  
 have NT:=qd Aq X G fun F=>Qq F B je 
 have Rh:=qd wZ X G fun F=>Qs F B  
 have Rg:=qd N_ X G fun F=>Qu F   
 have JI:=qd Az X G fun F=>Qx F B  
 have NQ:=qd uJ X G fun F=>Qz F   JI
 have JJ:=qd Ar X G fun F=>QC F B  
 have JL:=qd um X G fun F=>QF F   JI
 have JF:=qd As X G fun F=>QJ F B  Rh
 have NX:eX l.prog w K mg base 3 "firsts_of" 1 C8:=EC F_q8 m_q8 (QL F_q8 ⟨jO,rfl,tc_firsts_of,tk_firsts_of⟩ Bk B  JF)
 have N7:=qd uK X G fun F=>QN F   NQ JL JJ
 have G6:=qd Au X G fun F=>MX F B  
 have ze:eX l.prog w K mg base 4 "least_of" 1 tK:=EC F_q11 m_q11 (MY F_q11 ⟨kP,rfl,tc_least_of,tk_least_of⟩ Bk B  NX G6 N7 NT)
 have vB:=qd Dp X G fun F=>MZ F B  ze Rg
 have vA:=qd za X G fun F=>M4 F B  
 have K':=qd xk X G fun F=>M5 F   
 have vz:=qd w_ X G fun F=>M6 F B  K'
 have BW:=Bx (P:=l.prog) (w:=w) (base:=base) vC zk B  40
 have BX:=qd zm X G fun F=>M7 F B  vz
 have GU:=qd wY X G fun F=>M8 F B  
 have G0:=qd ug X G fun F=>M9 F B  
 have G_:=qd uI X G fun F=>M_ F B  
 have vF:=qd zl X G fun F=>Na F B  
 have GN:=qd Av X G fun F=>Nb F B  
 have vE:=qd rC X G fun F=>Nc F B  
 have GY:=qd w6 X G fun F=>Nd F B  G_ GU
 have ui:=qd y_ X G fun F=>Nf F B  
 have G4:=qd qM X G fun F=>Ng F B  
 have GW:=qd wX X G fun F=>Nh F B  vF G4 ui vE vB
 exact Ni F_q28 B  vA vz vF GW G0 GN ui BX vE BW GY vB ze
end P
end
namespace PySem.W.Fast
def tw17717562796085471135:=tv0
def tw5547295060160282911:=tv0
def tw4848445890210961338:=tv0
def tw6110480904807013688:=tv0
def tw4257067752550325747:=tv0
def tw7394447299096422547:=tv0
def tw4414032445585226089:=tv0
def tw14132240572059257192:=tv0
def tw5047038575305642180:=tv0
def tw10225326282189559457:=tv0
def tw16146417099438067840:=tv0
def tw9974914271961493279:=tv0
def tw11272225761565600485:=tv0
def tw5643594309251325136:=tv0
def tw4363122915426505433:=tv0
def tw1963352119561464494:=tv0
def tw1485919347079311174:=tv0
def tw5905696777591126496:=tv0
def tw16628865320544931849:=tv0
def tw479323112567935003:=tv0
def tw18443702016889898810:=tv0
def tw5291448875831403263:=tv0
def tw15560714272802733250:=tv0
def tw3406493737825595664:=tv0
def tw11173136784379525886:=tv0
def tw12629205469404682796:=tv0
def tw3998243231429876704:=tv0
def tw8270990209073481517:=tv0
def tw96862527011832189:=tv0
def tw8375899468835917813:=tv0
def tw2851702931496949882:=tv0
def tw9971590460732086828:=tv0
def tw9632433433533488721:=tv0
def tw8389974915369424818:=tv0
def tw2741330049922957269:=tv0
def tw11257956889284228501:=tv0
def tw7742962028422271953:=tv0
def tw15891252552166343335:=tv0
def tw7683244282522090225:=tv0
def tw13497434496856374136:=tv0
def tw6590787201780166625:=tv0
def tw2743488953274560741:=tv0
def tw10089993143116563323:=tv0
def tw4929356093770092164:=tv0
def tw6691801366498897934:=tv0
def tw3263027241004965538:=tv0
def tw11327542353285205793:=tv0
def tw5332066494211621125:=tv0
def tw5627596171475889706:=tv0
def tw8203669690290090163:=tv0
def tw8561441656898109415:=tv0
def tw7014370277935410450:=tv0
def tw12065302242928910470:=tv0
def tw6810168509613506732:=tv0
def tw5457296320438532981:=tv0
def tw6832932450269498753:=tv0
def tw15223637926936029429:=tv0
def tw15779261281172870918:=tv0
def tw14983275439129319540:=tv0
def tw10059490630785087032:=tv0
def tw13194753803649005290:=tv0
def tw2536702639259355565:=tv0
def tw10256967194993506429:=tv0
def tw10691420288856178393:=tv0
def tw16106213945232143800:=tv0
def tw6073093564805961244:=tv0
def tw3450716841991134697:=tv0
def tw14623871409842300784:=tv0
def tw11804524843043715386:=tv0
def tw10986326201900297526:=tv0
def tw17945453381756299228:=tv0
def tw9419490211436955560:=tv0
def tw2385062413844843908:=tv0
def tw17406211618872439723:=tv0
def tw5307503214627996765:=tv0
def tw10291149718974595816:=tv0
def tw273077729919992244:=tv0
def tw574086097191087982:=tv0
def tw15390383309364494307:=tv0
def tw16338620540945434786:=tv0
def tw6305637390517598605:=tv0
def tw1405179913104076666:=tv0
def tw17935322060532595495:=tv0
def tw15330154292543541678:=tv0
def tw15029721366390196134:=tv0
def tw17157602225414551903:=tv0
def tw1650260057129139069:=tv0
def tw2572036838871166589:=tv0
def tw15564802282070025493:=tv0
def tw4541228932593445824:=tv0
def tw4158638356456779008:=tv0
def tw1008871713578379065:=tv0
def tw3601635615899931807:=tv0
def tw3670499357416075643:=tv0
def tw407819363590529663:=tv0
def tw8676000944211032281:=tv0
def tw3529434793974748337:=tv0
def tw13179873861043242044:=tv0
def tw8651255286977635149:=tv0
def tw17532857033671469105:=tv0
def tw11347739120131537706:=tv0
def tw9177810720714120601:=tv0
def tw8943892304596924903:=tv0
def tw1975384756527794463:=tv0
def tw17654331583465624636:=tv0
def tw10148942739240668834:=tv0
def tw8328986244967346459:=tv0
def tw9474707687800854716:=tv0
def tw56462898387316626:=tv0
def tw4306304230842029264:=tv0
def tw13098446068665811192:=tv0
def tw9013175728863359727:=tv0
def tw665168798251469753:=tv0
def tw16967146557491254087:=tv0
def tw9636584131700160804:=tv0
def tw1529103260542666170:=tv0
def tw10908097473607462166:=tv0
def tw4312401694646551615:=tv0
def tw8624138583317698856:=tv0
def tw7102025694630109364:=tv0
def tw6015655252550269603:=tv0
def tw6898729684576548163:=tv0
def tw17376354492393892713:=tv0
def tw2955376430089894227:=tv0
def tw4602899970632071723:=tv0
def tw1801186943304992391:=tv0
def tw9962091773107424906:=tv0
def tw9708967262711767849:=tv0
def tw9613544620822470990:=tv0
def tw9133902330970666879:=tv0
def tw8001881159999289596:=tv0
def tw7825406265908000271:=tv0
def tw741499953623724310:=tv0
def tw7393107645943160118:=tv0
def tw7376474754197266097:=tv0
def tw7210410319385849332:=tv0
def tw6939155767211564113:=tv0
def tw6574655850242445536:=tv0
def tw651212552615104014:=tv0
def tw6327356984514024378:=tv0
def tw6169981287305359117:=tv0
def tw5994095860053998211:=tv0
def tw562130327525007039:=tv0
def tw5587137788070235860:=tv0
def tw5107811911951402981:=tv0
def tw4947302112235518207:=tv0
def tw3836609654153934994:=tv0
def tw3820464170270815008:=tv0
def tw3748084985234481923:=tv0
def tw3002457626167232586:=tv0
def tw2778301098391208395:=tv0
def tw2528865540753797715:=tv0
def tw18177145361359784506:=tv0
def tw17980482675450263378:=tv0
def tw17525390461618466421:=tv0
def tw17355616324813651470:=tv0
def tw17095988328114207839:=tv0
def tw15924356076593581308:=tv0
def tw15871924261366116682:=tv0
def tw15500277823388856022:=tv0
def tw15251767709833859274:=tv0
def tw15159779732156904551:=tv0
def tw15081959028371333388:=tv0
def tw15049603127546200130:=tv0
def tw14864213284812508356:=tv0
def tw13718002186354018422:=tv0
def tw13351743606985518809:=tv0
def tw13350355457514430269:=tv0
def tw12641774834488935199:=tv0
def tw12306396553635948268:=tv0
def tw12246884164125076554:=tv0
def tw11466433311028106473:=tv0
def tw10388047638132785868:=tv0
def tw10054819175268564519:=tv0
end PySem.W.Fast
open PySem PySem.W PyProof.Rows
set_option maxRecDepth 100000 in
set_option maxHeartbeats 0 in
theorem PySem.Challenge.cw_trunksay_k30_not_paper_holds : PySem.Challenge.rw_trunksay_k30_not_paper.Holds := by
 w_on; o_law; k_head; (case hw => w_witness2)
 k_fill
 refine L2.walkT (l := PySem.Challenge.rw_trunksay_k30_not_paper) (k := 41) (x := "_law_script") (G := P.f_q28) P.tabL (by decide) rfl rfl ⟨rfl, by decide, by decide⟩ (fun w h Y => PySem.W.km_in_of Y) (fun w h Y T hT => PySem.W.km_tabs_of Y T hT) (fun w T hT => ?KT) (fun w T hT => ?CT) ?F P.law_ok
 case KT =>
  simp only [P.tabL, aF, dH, aK, lX, or_false] at hT
  rcases hT with rfl | rfl
  ·kernel_rfl
  ·kernel_rfl
 case CT =>
  simp only [P.tabL, aF, dH, aK, lX, or_false] at hT
  rcases hT with rfl | rfl
  ·exact ⟨70, by kernel_rfl⟩
  ·exact ⟨89, by kernel_rfl⟩
 case F =>
  intro w mg fa h KX G hmg
  refine' P.all_mk KX G hmg ?_ ?_ ?_ ?_ ?_ ?_ ?_ ?_ ?_ ?_ ?_ ?_ ?_ ?_ ?_ ?_ ?_ ?_ ?_ ?_ ?_ ?_ ?_ ?_ ?_ ?_ ?_ ?_ ?_ ?_ ?tc_firsts_of ?tk_firsts_of ?_ ?_ ?_ ?_ ?tc_least_of ?tk_least_of ?_ ?_ ?_ ?_ ?_ ?_ ?_ ?_ ?_ ?_ ?_ ?_ ?_ ?_ ?_ ?_ ?_
  any_goals (refine' L2.DefIn.mk ?a ?l ?c ?k; (case a => k_is); (case l => k_is); (case c => k_is); (case k => k_is))
  any_goals k_is
  (case tc_firsts_of => kernel_rfl)
  (case tk_firsts_of => kernel_rfl)
  (case tc_least_of => kernel_rfl)
  (case tk_least_of => kernel_rfl)
