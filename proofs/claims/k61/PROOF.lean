import PyProof.Rows.All
import Wide.All
import OpenK.AllK
import Wide.FinOn
import Lean
import PyProof.EqAt
import PyProof.EqKinds
import PyProof.TupleCall
import PyProof.NeKinds
import PyProof.WalksEnum
import PyProof.EnumMake
import KE.KTryMore
import PyProof.NsDelKeeps
import PyProof.SumWalkG
import PyProof.SeqI3
import KE.KDictSum
import PyProof.AttrMiss
import PyProof.IsiH_list
import KE.KDictOf
import PyProof.ZipIter
import PyProof.TupleIter
import PyProof.EnumIter
import PyProof.StrCalls
import PySem.Challenge.RW_fewcounters_k61_wrong_words
import PyProof.StrWalks
import PyProof.StrCalls2
import PyProof.StrCalls3
import PyProof.StrLawsTight
import PyProof.StrLawsChain
import PyProof.StrLawsJoin
import PyProof.Rows.StrItems
import PyProof.FString5
import PyProof.Rows.Range3
import KE.KRevIter
import PyProof.MeetsDict
set_option Elab.async false
set_option linter.all false
set_option maxRecDepth 100000
set_option maxHeartbeats 4000000
abbrev Kp:=PySem.Str->Option PySem.Value
abbrev Kq:=List (PySem.Addr×PySem.Obj)
abbrev Kr:=List Int
abbrev Ks:=List PySem.Str
abbrev Kt:=Option PySem.Value
abbrev Ku:=List PySem.Addr
abbrev Kv:=List PySem.Value
abbrev Kw:=List PySem.Expr
abbrev Kx:=List (Int×Int)
theorem QE{a b:Prop}(h:a)(g:¬a):b:=absurd h g
theorem QF{c:Prop}[Decidable c](n:¬c){α:Type _}{t e:α}:(ite c t e)=e:=if_neg n
theorem QG{c:Prop}[Decidable c](n:c){α:Type _}{t e:α}:(ite c t e)=t:=if_pos n
theorem QH{p:Prop}[Decidable p](h:decide p=true):p:=of_decide_eq_true h
theorem QI{p:Prop}[Decidable p](h:decide p=false):¬p:=of_decide_eq_false h
theorem QJ{p:Prop}[Decidable p](h:¬p):decide p=false:=decide_eq_false h
open Array renaming length_toList→Kz,getD_eq_getD_getElem?→KA
open Bool renaming false_ne_true→KC,and_eq_true→KD,eq_iff_iff→KG,and_eq_true_iff→KH,or_eq_false_iff→KI,or_eq_true_iff→KJ,false_eq_true→KL,or_true→KN
open False renaming elim→KO
open ForInStep renaming yield→KP
open Int renaming emod_lt_of_pos→KQ,emod_nonneg→KR,le_trans→KS,le_refl→KU
open List renaming getElem?_eq_some_iff→KW,length_map→KY,mem_singleton→KZ,mem_cons_of_mem→K0,getElem?_eq_getElem→K2,length_append→K3,mem_cons_self→K4,getD_eq_getElem?_getD→K5,size_toArray→K6,mem_of_getElem?→K7,mem_cons→K8,getElem?_map→K9,mem_append_right→La,getElem?_set_self→Lb,length_take→Lc,not_mem_nil→Le,mem_append→Lf,length_cons→Lg,append_nil→Lh,dropLast_concat_getLast→Li,map_append→Lj,mem_append_left→Lk,getElem?_set_ne→Ll,map_cons→Lm,Nodup→Ln,getElem?_append_right→Lo,filterMap_cons→Lp,range→Lq,getElem?_append_left→Lr,mem_map→Lu,length_drop→Lv,take_succ→Lw,lookup_cons→Lx,length_filter_le→Ly,mem_iff_getElem?→Lz,take_length→LA,length_set→LC,length_replicate→LD,length_singleton→LG,filter_eq_self→LH,lookup→LJ,map_map→LL,length_range→LM,nodup_cons→LO,find?_cons→LP,mem_of_mem_drop→LQ,all_eq_true→LU,foldl_append→LV,append_assoc→LX,mem_range→LY,getElem_mem→LZ,mem_of_mem_take→L3,dropLast_concat→L4,getElem?_replicate→L5,mem_filter→L6,length_pos_iff→L7,getElem?_range→L8,length_reverse→L9,take_of_length_le→Ma,take_append_drop→Mb,replicate→Mc,any_cons→Md,map_congr_left→Me,getElem_of_mem→Mf,cons_append→Mg,mem_filterMap→Mh,mem_replicate→Mi,map_singleton→Mj,set_set→Ml,length_dropLast→Mm,mem_iff_getElem→Mn,any_eq_true→Mo,isEmpty_iff→Mp,map_nil→Mq,of_mem_zip→Mr,all_cons→Ms,length_nil→Mt,forIn_cons→Mu,length_zip→Mv,filter_map→Mw,filter_append→Mx
open Nat renaming le_refl→My,le_trans→Mz,lt_of_lt_of_le→MA,ne_of_lt→MB,zero_le→MC,lt_of_le_of_lt→ME,lt_irrefl→MF,lt_or_ge→MG,le_succ→MH,lt_succ_self→MI,le_add_right→MJ,ne_of_gt→ML,not_lt→MM,min_le_right→MN,min_le_left→MO,le_of_lt→MP
open Ne renaming symm→MQ
open Option renaming some_ne_none→MR,map_eq_some_iff→MT,map_some→MU,isSome_map→MV
open PyProof.Rows renaming envOfC→MW,callWith_type1→MY,slot_tuple_getitem→MZ,AllBare→M0,boot_isinstance→M4,boot_range→M5,IntsAre→M7,subscriptTail→M8
open PySem renaming Shared→M9,wpAny_bind→Na,sizeLine→Nb,starEach→Nc,wpAny_pure→Nd,Program→Nf,mainGlobals→Ng,Around→Nh,attributeBase→Ni,wpAny_mono→Nj,backTo→Nk,swapsWith→Nl,FuncData→Nm,compareOp→Nn,wpAny_truthy_bool→Np,mem_of_lookup→Nq,wpAny_field→Nr,Keyword→Nt,wpAny_execs_cons→Nu,wpAny_holding→Nv,sysModules→Nw,wpAny_callSpecial?_slot→Nx,bootBuiltins→Ny,IsPair→Nz,keywordEach→ND,foldedSetIterable→NF,wpAny_newObj_type→NG,valueAt→NH,wpAny_seqItems→NI,wpAny_Call_Name_kw→NJ,wpAny_setField_rec→NK,wpAny_passesOwn→NN,behindInMarks→NO,holding→NQ,boot_len→NR,binaryOp→NS,wpAny_call_entry→NT,wpAny_execs_nil→NU,assignEach→NV,call_meets→NX,backToKw→NY,wpAny_loadPart_at→NZ,assign→N2,NameKind→N3,codeAny_call_builtin→N4,sliceBounds→N5,isTrue→N6,codeAny_mono→N7,tupleKind_room_in1→N8,wpAny_call→N9,getItem→Oa,wpAny_pyIter_list→Ob,sizeLine_eq→Oc,wpAny_standAt→Od,wpAny_attempt→Oe,checkBuiltinCall→Of,letOwnedTupleGo→Og,IsPart→Oh,typeIs_str→Oi,wpAny_rule→Oj,wpAny_updateSeq_pair→Ol,standAt→Om,codeAny→Oo,boundAndCalled→Oq,Builtin→Ot,swapsWithSole→Ou,swappedStores→Ov,intBits_le_64→Ow,wpAny_onRaise→Ox,isInstance→Oz,callerA→OA,GenState→OB,rawInt→OC,wpAny_typeOf→OE,tupleKind→OF,PassesOwn→OG,strValues→OH,IsRangeIter→OI,subscripted→OJ,excClassObj→OK,pyNext→OL,wpAny_loadPart→OM,BindsTo→ON,dictSetDefault→OO,IntMulOk→OP,bindArgs→OQ,ZipApart→OR,frameOf→OS,Str→OT,Within→OU
open PySem.Around renaming under→OW
open PySem.Builtin.List renaming listTooLong→OX
open PySem.Builtin.Range renaming rangeSize→OY
open PySem.Builtin.Slice renaming slicePlaces→OZ,sliceAdjust→O0
open PySem.Builtin.SmallTypes renaming nextOf→O2,ownedTupleIsFree→O3
open PySem.Builtin.Str renaming occurrences→O4
open PySem.Builtin.Tuple renaming tupleExact→O5
open PySem.Calls renaming callWith_builtin→O6,spliced_cons→O7
open PySem.Code renaming quiet_builtin→O8,isFrame→O9
open PySem.F renaming plainAttrs_list→Pa,slot_tuple_iterator_next→Pb,attr_ValueError→Pc,slot_zip_next→Pe,args_str_split_2→Pf,entry_str_split→Pg,slot_str_split→Ph
open PySem.Heap renaming get?_push_of_some→Pj,lt_size→Pl,get?_push_size→Pm,size_push→Po,get?_update_self→Pp,SameBut→Pq,get?_none_of_le→Pr,FlyingW→Pt,get?_update_ne→Pu,dictOf_iff→Pw,MadeExcOf→Px
open PySem.Heap.SameBut renaming update→Py
open PySem.NameKind renaming cell→Pz
open PySem.Obj renaming mapSeq→PD
open PySem.PyData renaming keyHash→PH
open PySem.Sem renaming wp→PJ
open PySem.Str renaming ofString→PK
open PySem.Value renaming ref→PM,builtin→PN,none→PQ,int→PR,str→PU,bool→PX,float→PZ,type→P0
open PySem.W renaming Frag→P1,nsIn→P2,findIn→P4,mg_none_of→P6,keepIn→P8,mg_of→P9,hideAll→Qa,fnOf→Qb,kia_one→Qc,hideAll_none→Qd,emptyDict→Qe,kitOne→Qg,codeIn→Qh,instObj→Qi,hideAll_get→Qj,hasDictIn→Qk,plainGet→Ql,of_hideAll→Qm,callWith_K→Qn,looks_findIn→Qo,plainOver→Qp,makesIn→Qq,isFn→Qr,tailIn→Qs,exmOne→Qt,methodObj→Qu,takerIn→Qv,OpenLaw→Qw,lookIn→Qx,findIn→Qy,nsOkIn→Qz,clsIn→QA,excIn→QB
open PySem.W.Looks renaming here→QC
open True renaming intro→QD
open List(sum_cons forIn_nil any_map cons_ne_nil take_nil flatMap_cons foldl_cons)
abbrev Q0(x:OT):Prop:=(x==("__debug__":OT))=false
abbrev Rn(x:OT):Prop:=(x==("__classdict__":OT))=false
def Rt:Lean.Syntax:=Lean.Unhygienic.run `(Lean.Parser.Tactic.tacticSeq|first | exact Or.inl rfl | exact Or.inr (Or.inl rfl) | exact Or.inr (Or.inr rfl))
def SW:Lean.Syntax:=Lean.Unhygienic.run `(Lean.Parser.Tactic.tacticSeq|first | exact Or.inl rfl | exact Or.inr rfl)
def SV:Lean.Syntax:=Lean.Unhygienic.run `(Lean.Parser.Tactic.tacticSeq|first | exact .inl rfl | exact .inr rfl)
namespace L2
open PySem PySem.Spec PyProof.Rows
variable {a b:Addr}
abbrev Key:=Sum Int Str
def kZ:Key->Value->Bool
 | .inl k,v=>Value.isInt k v
 | .inr x,v=>Value.isStrOf x v
def Kk (w:World):Key->Int
 | .inl k=>hashInt k
 | .inr x=>hashStr w x
theorem cW:∀{k:Key}{v:Value},kZ k v=true->(∃i t,k=Sum.inl i/\v=PR i t)∨(∃x t,k=Sum.inr x/\v=PU x t)
 | .inl i,v,h=>by
   obtain⟨t,e⟩:=Value.isInt_shape (k:=i) (v:=v) h;exact .inl ⟨i,t,rfl,e⟩
 | .inr x,v,h=>by
   obtain⟨t,e⟩:=Value.isStrOf_shape (x:=x) (v:=v) h;exact .inr ⟨x,t,rfl,e⟩
theorem wM (i:Int)(t:Tok):kZ (.inl i) (.int i t)=true:=by simp[kZ,Value.isInt]
theorem ya (x:Str)(t:Tok):kZ (.inr x) (.str x t)=true:=by simp[kZ,Value.isStrOf]
theorem DQ (a b:Int):decide ((Sum.inl a:Key)=Sum.inl b)=(a==b):=by
 by_cases e:a=b
 ·subst e;simp
 ·have h:¬(Sum.inl a:Key)=Sum.inl b:=λq=>e (Sum.inl.inj q);rw[QJ h];exact(beq_eq_false_iff_ne.mpr e).symm
theorem EU (a b:Str):decide ((Sum.inr a:Key)=Sum.inr b)=decide (a=b):=by
 by_cases e:a=b
 ·subst e;simp
 ·have h:¬(Sum.inr a:Key)=Sum.inr b:=λq=>e (Sum.inr.inj q);rw[QJ h,QJ e]
theorem Es (a:Int)(b:Str):decide ((Sum.inl a:Key)=Sum.inr b)=false:=QJ (λq=>nomatch q)
theorem Gg (a:Str)(b:Int):decide ((Sum.inr a:Key)=Sum.inl b)=false:=QJ (λq=>nomatch q)
def bP (prog:Nf)(w:World):PySem.KeyKind prog w Key where
 is:=kZ
 hash:=Kk w
 inj:=λv a b ha hb=>by
  rcases cW ha with⟨i,t,rfl,rfl⟩ | ⟨x,t,rfl,rfl⟩
  ·rcases cW hb with⟨j,u,rfl,e⟩ | ⟨y,u,rfl,e⟩
   ·injection e with e1 _;rw[e1]
   ·exact nomatch e
  ·rcases cW hb with⟨j,u,rfl,e⟩ | ⟨y,u,rfl,e⟩
   ·exact nomatch e
   ·injection e with e1 _;rw[e1]
 byValue:=λk v h=>by
  rcases cW h with⟨i,t,rfl,rfl⟩ | ⟨x,t,rfl,rfl⟩<;>rfl
 pyHash:=λhv h=>by
  rcases cW hv with⟨i,t,rfl,rfl⟩ | ⟨x,t,rfl,rfl⟩
  ·exact wpAny_pyHash_int h
  ·exact wpAny_pyHash_str h
 eqBool:=λhu hv h=>by
  rcases cW hu with⟨i,t,rfl,rfl⟩ | ⟨x,t,rfl,rfl⟩
  ·rcases cW hv with⟨j,u,rfl,rfl⟩ | ⟨y,u,rfl,rfl⟩
   ·rw[DQ] at h;exact wpAny_eqBool_int h
   ·rw[Es] at h;exact SeqAt.EqAt.int_str i t y u _ _ _ _ h
  ·rcases cW hv with⟨j,u,rfl,rfl⟩ | ⟨y,u,rfl,rfl⟩
   ·rw[Gg] at h;exact SeqAt.EqAt.str_int x t j u _ _ _ _ h
   ·rw[EU] at h;exact wpAny_eqBool_str h
 «strs»:=λk x t v h=>by
  rcases cW h with⟨i,u,rfl,e⟩ | ⟨y,u,rfl,e⟩
  ·exact nomatch e
  ·injection e with e1 _;subst e1;cases v<;>rfl
theorem tF (prog:Nf)(w:World)(i:Int)(t:Tok):(bP prog w).is (.inl i) (.int i t)=true:=wM i t
theorem cV (prog:Nf)(w:World)(x:Str)(t:Tok):(bP prog w).is (.inr x) (.str x t)=true:=ya x t
inductive V where
 | QY | bl (b:Bool) | int (i:Int) | str (x:Str) | SS (b:Array UInt8) | UN (b:UInt64) | ref (a:Addr) | ty (n:String)
 deriving DecidableEq
def RelV:V->Value->Prop
 | .QY,u=>u=PQ
 | .bl b,u=>u=PX b
 | .int i,u=>∃t,u=PR i t
 | .str x,u=>∃t,u=PU x t
 | .SS b,u=>∃t,u=Value.bytes b t
 | .UN b,u=>∃t,u=PZ b t
 | .ref a,u=>u=PM a
 | .ty n,u=>u=P0 n
abbrev Vals:List V->Kv->Prop:=Paired RelV
theorem Vals.length {xs:List V}{us:Kv}(r:Vals xs us):xs.length=us.length:=Paired.length r
theorem Vals.get:∀{xs:List V}{us:Kv}{i:Nat}{x:V},Vals xs us->xs[i]?=some x->∃u,us[i]?=some u/\RelV x u
 | _,_,_,_,.nil,e=>by simp at e
 | _,_,0,_,.cons r _,e=>by simp at e;subst e;exact⟨_,rfl,r⟩
 | _,_,i+1,x,.cons _ t,e=>by
   obtain⟨u,h1,h2⟩:=Vals.get (i:=i) (x:=x) t (by simpa using e);exact⟨u,by simpa using h1,h2⟩
theorem Vals.set {x:V}{u:Value}(r:RelV x u):∀{xs:List V}{us:Kv}(i:Nat),Vals xs us->Vals (xs.set i x) (us.set i u)
 | _,_,_,.nil=>.nil
 | _,_,0,.cons _ t=>.cons r t
 | _,_,i+1,.cons q t=>.cons q (Vals.set r i t)
theorem Vals.append:∀{xs ys:List V}{us ws:Kv},Vals xs us->Vals ys ws->Vals (xs++ys) (us++ws)
 | _,_,_,_,.nil,s=>s
 | _,_,_,_,.cons r t,s=>.cons r (Vals.append t s)
theorem Vals.take:∀{xs:List V}{us:Kv}(n:Nat),Vals xs us->Vals (xs.take n) (us.take n)
 | _,_,0,_=>.nil
 | _,_,_+1,.nil=>.nil
 | _,_,n+1,.cons r t=>.cons r (Vals.take n t)
theorem Vals.drop:∀{xs:List V}{us:Kv}(n:Nat),Vals xs us->Vals (xs.drop n) (us.drop n)
 | _,_,0,r=>r
 | _,_,_+1,.nil=>.nil
 | _,_,n+1,.cons _ t=>Vals.drop n t
def fL:Option V->Kt->Prop
 | some v,some u=>RelV v u
 | none,none=>True
 | _,_=>False
def KV {κ:Type}:List (κ×V)->List (κ×Value)->Prop:=Paired λ(p:κ×V)(q:κ×Value)=>p.1=q.1/\RelV p.2 q.2
def kV:Key->V
 | .inl i=>.int i
 | .inr x=>.str x
inductive HO where
 | lst (xs:List V)
 | tup (xs:List V)
 | dK (kvs:List (Key×V)) | dT (kvs:List (List Key×V))
 | set (S:Int->Bool) (n:Nat)
 | ins (C dx:Addr) (fs:List (Str×V))
 | own (x:Addr)
 | xd (fs:List (Str×V))
 | met (f x:Addr)
 | Tc (lo hi:Int)
 | RO (o:Obj) (u:HO)
 | T4 (ps:Array Value)
 | ext (φ:Heap->Prop)
abbrev Hp:=Addr->Option HO
def upd (H:Hp)(a:Addr)(o:HO):Hp:=λb=>if b=a then some o else H b
theorem aD {H:Hp}{o:HO}:upd H a o a=some o:=by unfold upd;rw[QG rfl]
theorem aA {H:Hp}{o:HO}(h:b≠a):upd H a o b=H b:=by unfold upd;rw[QF h]
theorem HP {H:Hp}{o u:HO}(h:H a=some o)(h':H b=some u)(d:o≠u):a≠b:=by
 intro e;subst e;rw[h] at h';exact d (Option.some.inj h')
theorem cB {H:Hp}{o:HO}(h:H a=some o)(h':H b=none):a≠b:=by
 intro e;subst e;rw[h] at h';cases h'
section
variable (P:Nf)(w:World)
def bQ (H:Hp)(h:Heap)(a:Addr):HO->Prop
 | .lst xs=>xs.length<=Nb/\∃(QO:Kv)(n:Nat),Vals xs QO/\h.get? a=some {cls:=.type "list",data:=.seq QO.toArray n}
 | .tup xs=>xs.length<=Nb/\∃QO:Kv,Vals xs QO/\IsTup h a QO.toArray
 | .dK kvs=>kvs.length<=Nb/\(a==Nw)=false/\∃vs,KV kvs vs/\h.DictOf (bP P w) a vs
 | .dT kvs=>kvs.length<=Nb/\(a==Nw)=false/\∃xs:List (List Key×Addr×Value),
  Paired (λ(p:List Key×V)(q:List Key×Addr×Value)=>p.1=q.1/\H q.2.1=some (.tup (p.1.map kV))/\RelV p.2 q.2.2) kvs xs/\
  ∃o es ep,h.get? a=some o/\o.ExactDict/\o.data= .dict es ep/\es.toList=xs.map (entryOfKey (OF (bP P w)))/\(xs.map (·.1)).Nodup
 | .set S n=>h.SetOf (intKind P w) a S n
 | .ins C dx fs=>H dx=some (.own a)/\fs.length<=1000/\dx≠a/\h.get? a=some (Qi C dx)/\
  ∃mA,h.Ns1 dx mA/\(∀f,fL (fs.lookup f) (mA f))/\OU mA (fs.map (·.1))
 | .own _=>∃o,h.get? a=some o
 | .xd fs=>∃mA,h.Ns1 a mA/\∀f,fL (fs.lookup f) (mA f)
 | .Tc lo hi=>∃t u v,h.get? a=some {cls:=.type "range",data:=.fields #[.int lo t,.int hi u,.int 1 v]}
 | .RO o u=>h.get? a=some o/\bQ H h a u
 | .T4 ps=>h.get? a=some {cls:=.none,data:=.fields ps}
 | .met f x=>h.get? a=some (Qu (.ref f) (.ref x))
 | .ext φ=>φ h/\(∃o,h.get? a=some o)/\∀h1 h2:Heap,φ h1->(∀o,h1.get? a=some o->h2.get? a=some o)->φ h2
def bW (H:Hp)(h:Heap):Prop:=∀a o,H a=some o->bQ P w H h a o
end
variable {H:Hp}{P:Nf}{w:World}{H':Hp}{h h':Heap}
section
variable {o:HO}
theorem bQ.lt (x:bQ P w H h a o):a<h.objs.size:=by
 cases o with
 | lst xs=>obtain⟨_,_,_,_,e⟩:=x;exact Pl e
 | tup xs=>obtain⟨_,_,_,p⟩:=x;exact p.lt
 | dK kvs=>obtain⟨_,_,_,_,o,_,_,e,_⟩:=x;exact Pl e
 | dT kvs=>obtain⟨_,_,_,_,o,_,_,e,_⟩:=x;exact Pl e
 | set S n=>obtain⟨o,_,_,_,e,_⟩:=x;exact Pl e
 | ins C dx fs=>obtain⟨_,_,_,e,_⟩:=x;exact Pl e
 | own y=>obtain⟨_,e⟩:=x;exact Pl e
 | xd fs=>obtain⟨_,⟨_,_,_,e,_⟩,_⟩:=x;exact Pl e
 | Tc lo hi=>obtain⟨_,_,_,e⟩:=x;exact Pl e
 | RO ob u=>obtain⟨e,_⟩:=x;exact Pl e
 | T4 ps=>exact Pl (show h.get? a=some _ from x)
 | met f y=>exact Pl (show h.get? a=some _ from x)
 | ext φ=>obtain⟨_,⟨_,e⟩,_⟩:=x;exact Pl e
theorem Paired.zL {α β:Type}{F G:α->β->Prop}:∀{l₁:List α}{l₂:List β},Paired F l₁ l₂->(∀a b,F a b->G a b)->Paired G l₁ l₂
 | _,_,.nil,_=>.nil
 | _,_,.cons r t,f=>.cons (f _ _ r) (Paired.zL t f)
theorem bQ.Q7 (x:bQ P w H h a o)(k:∀b u,(b=a∨H b=some (.own a))->h.get? b=some u->h'.get? b=some u)(ho:∀b,H b=some (.own a)->H' b=some (.own a))(ht:∀b xs,H b=some (.tup xs)->H' b=some (.tup xs)):bQ P w H' h' a o:=by
 induction o with
 | lst xs=>obtain⟨z,QO,n,r,e⟩:=x;exact⟨z,QO,n,r,k _ _ (.inl rfl) e⟩
 | tup xs=>obtain⟨z,QO,r,ob,e,c⟩:=x;exact⟨z,QO,r,ob,k _ _ (.inl rfl) e,c⟩
 | dK kvs=>obtain⟨z,y,vs,r,ob,es,ep,e,c⟩:=x;exact⟨z,y,vs,r,ob,es,ep,k _ _ (.inl rfl) e,c⟩
 | dT kvs=>
   obtain⟨z,y,xs,r,ob,es,ep,e,c⟩:=x;exact⟨z,y,xs,Paired.zL r λp q z=>⟨z.1,ht _ _ z.2.1,z.2.2⟩,ob,es,ep,k _ _ (.inl rfl) e,c⟩
 | set S n=>obtain⟨ob,es,ep,t,e,c⟩:=x;exact⟨ob,es,ep,t,k _ _ (.inl rfl) e,c⟩
 | ins C dx fs=>
   obtain⟨d,z,ne,e,mA,⟨od,es,ep,e2,c⟩,r⟩:=x;exact⟨ho _ d,z,ne,k _ _ (.inl rfl) e,mA,⟨od,es,ep,k _ _ (.inr d) e2,c⟩,r⟩
 | own y=>obtain⟨ob,e⟩:=x;exact⟨ob,k _ _ (.inl rfl) e⟩
 | xd fs=>obtain⟨mA,⟨od,es,ep,e,c⟩,r⟩:=x;exact⟨mA,⟨od,es,ep,k _ _ (.inl rfl) e,c⟩,r⟩
 | Tc lo hi=>obtain⟨t,u,v,e⟩:=x;exact⟨t,u,v,k _ _ (.inl rfl) e⟩
 | RO ob u ih=>obtain⟨e,q⟩:=x;exact⟨k _ _ (.inl rfl) e,ih q⟩
 | T4 ps=>
   have e:h.get? a=some {cls:=.none,data:=.fields ps}:=x;show h'.get? a=some {cls:=.none,data:=.fields ps};exact k a _ (.inl rfl) e
 | met f y=>
   have e:h.get? a=some (Qu (.ref f) (.ref y)):=x;show h'.get? a=some (Qu (.ref f) (.ref y));exact k a _ (.inl rfl) e
 | ext φ=>obtain⟨p,⟨o,e⟩,st⟩:=x;exact⟨st _ _ p λo q=>k _ _ (.inl rfl) q,⟨o,k _ _ (.inl rfl) e⟩,st⟩
theorem bW.lt (x:bW P w H h)(e:H a=some o):a<h.objs.size:=(x a o e).lt
theorem bW.fresh (x:bW P w H h)(e:h.objs.size<=a):H a=none:=by
 cases q:H a with
 | none=>rfl
 | some u=>exact QE (MA (x.lt q) e) (MF _)
theorem bW.kept (x:bW P w H h)(k:∀b u,h.get? b=some u->h'.get? b=some u):bW P w H h':=λa o e=>
 (x a o e).Q7 (λb u _ q=>k b u q) (λ_ q=>q) λ_ _ q=>q
theorem bW.laid (x:bW P w H h)(k:∀b u,h.get? b=some u->h'.get? b=some u)(hp:h.objs.size<=a)(new:bQ P w (upd H a o) h' a o):bW P w (upd H a o) h':=λb u e=>by
 have hn:=x.fresh hp;by_cases hb:b=a
 ·subst hb;rw[aD] at e;cases e;exact new
 ·rw[aA hb] at e;exact(x b u e).Q7 (λc v _ q=>k c v q) (λc q=>by rw[aA (cB q hn)];exact q) λc xs q=>by rw[aA (cB q hn)];exact q
end
def Rd (H:Hp)(a:Addr)(u:HO):Prop:=H a=some u∨∃o,H a=some (.RO o u)
theorem Rd.ok {u:HO}(r:Rd H a u)(x:bW P w H h):bQ P w H h a u:=by
 rcases r with r | ⟨o,r⟩
 ·exact x a u r
 ·obtain⟨_,q⟩:=x a _ r;exact q
def yx:Option HO->Prop
 | some (.lst _)=>True
 | some (.dK _)=>True
 | some (.dT _)=>True
 | some (.set _ _)=>True
 | some (.ins _ _ _)=>True
 | some (.ext _)=>True
 | _=>False
section
variable {x e:Addr}{o':HO}
theorem bW.write (ok:bW P w H h)(mu:yx (H x))(he:e=x∨H e=some (.own x))(k:∀b u,b≠e->h.get? b=some u->h'.get? b=some u)(UZ:∃u,h'.get? e=some u)(new:bQ P w (upd H x o') h' x o'):bW P w (upd H x o') h':=λb u q=>by
 have Vd:∀c y,H c=some (.own y)->c≠x:=λc y r z=>by subst z;rw[r] at mu;exact mu
 have ntup:∀c xs,H c=some (.tup xs)->c≠x:=λc xs r z=>by subst z;rw[r] at mu;exact mu
 by_cases hb:b=x
 ·subst hb;rw[aD] at q;cases q;exact new
 ·rw[aA hb] at q;by_cases TB:b=e
  ·have q':H b=some (.own x):=by
    rcases he with z | z
    ·exact QE (TB.trans z) hb
    ·rw[TB];exact z
   rw[q] at q';cases q'
   obtain⟨v,hv⟩:=UZ;exact⟨v,by rw[TB];exact hv⟩
  ·refine(ok b u q).Q7 (λc v hc r=>k c v ?_ r) (λc r=>by rw[aA (Vd c b r)];exact r) λc xs r=>by rw[aA (ntup c xs r)];exact r
   rcases hc with rfl | hc
   ·exact TB
   ·rintro rfl;rcases he with z | z
    ·exact Vd c b hc z
    ·rw[hc] at z;cases z;exact hb rfl
end
structure Un (fs ex:Ku)(H H':Hp)(h h':Heap):Prop where
 keep:∀b o,h.get? b=some o->H b=none->b∉fs->b∉ex->h'.get? b=some o
 slot:∀b o,h.get? b=some o->H b=none->b∈fs->b∉ex->∃sl,h'.get? b=some {o with slots:=sl}
 free:∀b o,h.get? b=some o->H b=none->b∉ex->H' b=none
 there:∀b o,h.get? b=some o->b∉ex->∃o',h'.get? b=some o'
 Rf:∀b xs,H b=some (.tup xs)->H' b=some (.tup xs)
 Rb:∀b o u,H b=some (.RO o u)->H' b=some (.RO o u)
 Rg:∀b ps,H b=some (.T4 ps)->∃more,H' b=some (.T4 (ps++more))
section
variable {fs fs' ex ex':Ku}{H1 H2:Hp}{h1 h2:Heap}{x e:Addr}{o:HO}
theorem Un.any (u:Un fs ex H H1 h h1){ob:Obj}(q:h.get? b=some ob)(n:H b=none)(hx:b∉ex):∃sl,h1.get? b=some {ob with slots:=sl}:=by
 by_cases hb:b∈fs
 ·exact u.slot b ob q n hb hx
 ·exact⟨ob.slots,u.keep b ob q n hb hx⟩
theorem Un.trans (a:Un fs ex H H1 h h1)(b:Un fs ex H1 H2 h1 h2):Un fs ex H H2 h h2 where
 keep:=λc ob q n hc hx=>b.keep c ob (a.keep c ob q n hc hx) (a.free c ob q n hx) hc hx
 slot:=λc ob q n hc hx=>by
  obtain⟨sl,e1⟩:=a.slot c ob q n hc hx;obtain⟨Tq,e2⟩:=b.slot c _ e1 (a.free c ob q n hx) hc hx;exact⟨Tq,e2⟩
 free:=λc ob q n hx=>by
  obtain⟨o',e1⟩:=a.there c ob q hx;exact b.free c o' e1 (a.free c ob q n hx) hx
 there:=λc ob q hx=>by
  obtain⟨o',e1⟩:=a.there c ob q hx;exact b.there c o' e1 hx
 Rf:=λc xs q=>b.Rf c xs (a.Rf c xs q)
 Rb:=λc ob xs q=>b.Rb c ob xs (a.Rb c ob xs q)
 Rg:=λc ps q=>by
  obtain⟨m1,e1⟩:=a.Rg c ps q;obtain⟨m2,e2⟩:=b.Rg c _ e1;exact⟨m1++m2,by rw[e2,Array.append_assoc]⟩
theorem Un.kept (k:∀b u,h.get? b=some u->h'.get? b=some u):Un fs ex H H h h':=
 ⟨λb ob q _ _ _=>k b ob q,λb ob q _ _ _=>⟨ob.slots,k b ob q⟩,λ_ _ _ n _=>n,λb ob q _=>⟨ob,k b ob q⟩,λ_ _ q=>q,λ_ _ _ q=>q,λ_ ps q=>⟨#[],by rw[q];simp⟩⟩
theorem Un.refl:Un fs ex H H h h:=Un.kept λ_ _ q=>q
theorem Un.laid (k:∀b u,h.get? b=some u->h'.get? b=some u)(hp:h.objs.size<=a)(hn:H a=none):Un fs ex H (upd H a o) h h' where
 keep:=λb u q _ _ _=>k b u q
 slot:=λb u q _ _ _=>⟨u.slots,k b u q⟩
 free:=λb u q n _=>by rw[aA (MB (MA (Pl q) hp))];exact n
 there:=λb u q _=>⟨u,k b u q⟩
 Rf:=λb xs q=>by rw[aA (cB q hn)];exact q
 Rb:=λb u xs q=>by rw[aA (cB q hn)];exact q
 Rg:=λb ps q=>⟨#[],by rw[aA (cB q hn),q];simp⟩
theorem Un.write (mu:yx (H x))(he:e=x∨H e=some (.own x))(k:∀b u,b≠e->h.get? b=some u->h'.get? b=some u)(UZ:∃u,h'.get? e=some u):Un fs ex H (upd H x o) h h':=by
 have hx:∀b,H b=none->b≠x:=λb n z=>by subst z;rw[n] at mu;exact mu
 have hb:∀b,H b=none->b≠e:=λb n z=>by
  subst z;rcases he with r | r
  ·exact hx b n r
  ·rw[n] at r;cases r
 have hm:∀b u,H b=some u->¬yx (some u)->b≠x:=λb u q nm z=>by subst z;rw[q] at mu;exact nm mu
 refine⟨λb u q n _ _=>k b u (hb b n) q,λb u q n _ _=>⟨u.slots,k b u (hb b n) q⟩,λb u q n _=>by rw[aA (hx b n)];exact n,λb u q _=>?_,
  λb xs q=>by rw[aA (hm b _ q λz=>z)];exact q,λb u xs q=>by rw[aA (hm b _ q λz=>z)];exact q,λb ps q=>⟨#[],by rw[aA (hm b _ q λz=>z),q];simp⟩⟩
 by_cases TB:b=e
 ·subst TB;exact UZ
 ·exact⟨u,k b u TB q⟩
theorem Un.mono (u:Un fs ex H H1 h h1)(hs:∀b∈fs,b∈fs')(hx:∀b∈ex,b∈ex'):Un fs' ex' H H1 h h1:=
 ⟨λb ob q n hb he=>u.keep b ob q n (λz=>hb (hs b z)) λz=>he (hx b z),λ_ _ q n _ he=>u.any q n λz=>he (hx _ z),λb ob q n he=>u.free b ob q n λz=>he (hx b z),λb ob q he=>u.there b ob q λz=>he (hx b z),u.Rf,u.Rb,u.Rg⟩
end
def Ac (h:Heap)(H:Hp):Ku:=(Lq h.objs.size).filter λa=>(H a).isSome
def jS (h:Heap)(H:Hp):Heap:=Qa h (Ac h H)
theorem xD (h:Heap)(H:Hp):(jS h H).objs.size=h.objs.size:=PySem.W.hideAll_size _ _
variable {o:Obj}
theorem zB (e:h.get? b=some o)(n:H b=none):(jS h H).get? b=some o:=
 Qj _ e λhm=>by
  have q:(H b).isSome=true:=(L6.mp hm).2;rw[n] at q;simp at q
theorem B9 (e:(jS h H).get? b=some o):h.get? b=some o/\H b=none:=by
 have e':h.get? b=some o:=Qm (Ac h H) e;refine⟨e',?_⟩;cases q:H b with
 | none=>rfl
 | some x=>
   have hm:b∈Ac h H:=L6.mpr ⟨LY.mpr (Pl e'),by simp[q]⟩;have z:(jS h H).get? b=none:=Qd (Ac h H) hm;rw[z] at e;cases e
structure Mod (K:P1)(mg:Kp)(base:Heap):Prop where
 UR:K.In base
 glob:base.Ns Ng mg
 blt:∃mb,base.Ns builtinsNs mb/\∀x:Str,x≠"__name__"->mb x=Ny x
 nolimit:base.NoLimit
structure Cx where
 prog:Nf
 w:World
 K:P1
 mg:Kp
 base:Heap
 A:Nh
 N:Ks
 s₀:M9
 H₀:Hp
 env:Env
 outer:List Env
 stack:List Env
 ex:Ku
 fn:Str->Bool
 calm:Bool
 pn:Kq
 xe:Value->M9->Prop
def bG (l:List Env):Ku:=l.filterMap (·.frame)
abbrev Cx.fs (X:Cx):Ku:=bG X.outer
def cI (sc:Scope)(x:Str):Prop:=sc.names.lookup x=some .local∨sc.names.lookup x=some .cell∨sc.names.lookup x=some .free
def Loc (sc:Scope)(x:Str):Prop:=sc.names.lookup x=some .local∨sc.names.lookup x=some .cell
def Look (env:Env)(h:Heap)(m:Kp)(x:Str)(u:Value):Prop:=
 (env.kindOf x=some .local/\m x=some u)∨((env.kindOf x=some .cell∨env.kindOf x=some .free)/\∃c,env.cells.lookup x=some c/\h.IsCell c (some u))
structure Cx.Ok (X:Cx):Prop where
 mod:Mod X.K X.mg X.base
 kind:X.env.scope.kind= .function
 glob:X.env.globals=Ng
 blt:X.env.builtins=builtinsNs
 above:X.s₀.heap.objs.size<=X.env.locals
 inj:∀x y c,X.env.cells.lookup x=some c->X.env.cells.lookup y=some c->x=y
 has:∀x,(X.env.kindOf x=some .cell∨X.env.kindOf x=some .free)->∃c,X.env.cells.lookup x=some c
 T3:∀x c,X.fn x=true->X.env.cells.lookup x=some c->X.s₀.heap.objs.size<=c
 hd:X.calm=true->X.A.handled=none
 frames:X.A.frames=some X.stack
 T5:X.stack=X.outer∨(X.stack=X.env::X.outer/\X.env.frame=some X.env.locals)
 Uh:∀b∈X.ex,b≠X.env.locals/\∀x c,X.env.cells.lookup x=some c->c≠b
 bs:∀b o,X.base.get? b=some o->X.s₀.heap.get? b=some o/\X.H₀ b=none
 S4:X.base.objs.size<=X.s₀.heap.objs.size
 R9:∀b o,X.base.get? b=some o->b∉X.ex
 RU:∀b∈X.ex,b∉X.fs
 Rv:X.s₀.heap.FunFrames X.base X.outer
 Tn:∀b∈X.fs,X.H₀ b=none
structure Inv (X:Cx)(QN:Kq)(σ:List (Option V))(H:Hp)(s:M9):Prop where
 ok:X.Ok
 os:s.os=X.s₀.os
 bare:M0 s.gens
 base:Un X.fs X.ex X.H₀ H X.s₀.heap s.heap
 loc:∃m,s.heap.Ns X.env.locals m/\∀(i:Nat)(x:Str)(v:V),X.N[i]?=some x->σ[i]?=some (some v)->cI X.env.scope x->∃u,RelV v u/\Look X.env s.heap m x u
 cell:∀x c,X.env.cells.lookup x=some c->∃v,s.heap.IsCell c v
 free:H X.env.locals=none
 Q2:∀x c,X.env.cells.lookup x=some c->H c=none
 pin:∀p∈X.pn++QN,s.heap.get? p.1=some p.2/\H p.1=none/\p.1≠X.env.locals/\p.1∉X.fs/\∀v,p.2.data≠ .cell v
 QQ:bW X.prog X.w H s.heap
 len:σ.length=X.N.length
variable {X:Cx}{QN:Kq}{s:M9}{x:Str}{i:Nat}{g':Array OB}{d':Drawn}{it:Addr}{N:Ks}{M:Model}{A:Nh}{E:Value->M9->Prop}{v:V}{u:Value}{s':M9}
section
variable {σ:List (Option V)}
variable {t':Nat}{ch:Ku}
theorem Cx.Ok.JB (ok:X.Ok)(e:X.base.get? b=some o):b∉X.fs:=λhb=>by
 have:=(ok.Rv.mem hb).1;rw[e] at this;cases this
theorem Inv.bs (I:Inv X QN σ H s):∀b o,X.base.get? b=some o->s.heap.get? b=some o/\H b=none:=λb o e=>
 ⟨I.base.keep b o (I.ok.bs b o e).1 (I.ok.bs b o e).2 (I.ok.JB e) (I.ok.R9 b o e),I.base.free b o (I.ok.bs b o e).1 (I.ok.bs b o e).2 (I.ok.R9 b o e)⟩
theorem Inv.bk (I:Inv X QN σ H s):∀b o,X.base.get? b=some o->s.heap.get? b=some o:=λb o e=>(I.bs b o e).1
theorem Inv.mod (I:Inv X QN σ H s):Mod X.K X.mg X.base:=I.ok.mod
theorem Inv.cY (I:Inv X QN σ H s):X.K.In s.heap:=I.ok.mod.UR.keeps I.bk
theorem Inv.lt (I:Inv X QN σ H s):X.env.locals<s.heap.objs.size:=let ⟨_,hn,_⟩:=I.loc;hn.lt
theorem Inv.sz (I:Inv X QN σ H s):X.s₀.heap.objs.size<=s.heap.objs.size:=Mz I.ok.above (MP I.lt)
theorem Inv.JY (I:Inv X QN σ H s)(h:s.heap.objs.size<=a):a∉X.fs:=λhb=>by
 obtain⟨_,o,ho,_⟩:=I.ok.Rv.mem hb;exact QE (MA (Pl ho) (Mz I.sz h)) (MF _)
theorem Inv.To (I:Inv X QN σ H s):∀x c,X.env.cells.lookup x=some c->c≠X.env.locals:=λx c e z=>by
 obtain⟨v,o,ho,hd⟩:=I.cell x c e;obtain⟨m,⟨o',es,ep,Sa,VY,_⟩,_⟩:=I.loc;rw[z,Sa] at ho;cases ho;rw[VY] at hd;cases hd
theorem Inv.Rv (I:Inv X QN σ H s):s.heap.FunFrames X.base X.outer:=by
 have all:∀(l:List Env),(∀b∈bG l,b∈X.fs)->X.s₀.heap.FunFrames X.base l->s.heap.FunFrames X.base l:=by
  intro l
  induction l with
  | nil=>intro _ _;trivial
  | cons env r ih=>
    intro hs hl;obtain⟨hk,⟨L,o,hf,hn,ho,hd⟩,hr⟩:=hl;have hL:L∈X.fs:=hs L (by unfold bG;rw[Lp,hf];exact K4);obtain⟨sl,e⟩:=I.base.slot L o ho (I.ok.Tn L hL) hL λz=>I.ok.RU L z hL;exact⟨hk,⟨L,_,hf,hn,e,hd⟩,ih (λb hb=>hs b (by unfold bG;rw[Lp,hf];exact K0 _ hb)) hr⟩
 exact all X.outer (λ_ hb=>hb) I.ok.Rv
theorem Inv.stack (I:Inv X QN σ H s):s.heap.FunFrames X.base X.stack:=by
 rcases I.ok.T5 with e | ⟨e,hf⟩
 ·rw[e];exact I.Rv
 ·rw[e];obtain⟨m,hn,_⟩:=I.loc;refine .cons (by rw[I.ok.kind];decide) hf hn ?_ I.Rv;exact Pr (Mz I.ok.S4 I.ok.above)
theorem Inv.qu (I:Inv X QN σ H s):∀b∈bG X.stack,b∈X.env.locals::X.fs:=λb hb=>by
 rcases I.ok.T5 with e | ⟨e,hf⟩
 ·rw[e] at hb;exact K0 _ hb
 ·rw[e] at hb;unfold bG at hb;rw[Lp,hf] at hb;exact hb
theorem Inv.ip (I:Inv X QN σ H s):∀b∈bG X.stack,H b=none:=λb hb=>by
 rcases K8.mp (I.qu b hb) with e | hb
 ·rw[e];exact I.free
 ·obtain⟨_,o,ho,_⟩:=I.ok.Rv.mem hb;exact I.base.free b o ho (I.ok.Tn b hb) λz=>I.ok.RU b z hb
theorem Inv.step (I:Inv X QN σ H s)(Sv:∀b∈ch,(b∈X.ex∨X.s₀.heap.objs.size<=b)/\b≠X.env.locals/\(∀x c,X.env.cells.lookup x=some c->c≠b)/\∀p∈X.pn++QN,p.1≠b)(keep:∀b o,b≠X.env.locals->b∉X.fs->b∉ch->s.heap.get? b=some o->H b=none->h'.get? b=some o)(slot:∀b o,b≠X.env.locals->b∈X.fs->b∉ch->s.heap.get? b=some o->H b=none->∃sl,h'.get? b=some {o with slots:=sl})(free:∀b o,b∉ch->s.heap.get? b=some o->H b=none->H' b=none)(there:∀b o,b∉ch->s.heap.get? b=some o->∃o',h'.get? b=some o')(Rf:∀b xs,H b=some (.tup xs)->H' b=some (.tup xs))(Rb:∀b o u,H b=some (.RO o u)->H' b=some (.RO o u))(Rg:∀b ps,H b=some (.T4 ps)->∃more,H' b=some (.T4 (ps++more)))(ns:∀m,s.heap.Ns X.env.locals m->h'.Ns X.env.locals m)(QQ:bW X.prog X.w H' h')(hg:M0 g'):
 Inv X QN σ H' {s with heap:=h',gens:=g',drawn:=d',toks:=t'}:=by
 have neL:∀b o,X.s₀.heap.get? b=some o->b≠X.env.locals:=λb o e=>MB (MA (Pl e) I.ok.above);have Td:∀b o,X.s₀.heap.get? b=some o->b∉X.ex->b∉ch:=λb o e hx hb=>by
  rcases(Sv b hb).1 with z | z
  ·exact hx z
  ·exact QE (MA (Pl e) z) (MF _)
 have cellK:∀x c,X.env.cells.lookup x=some c->∀v,s.heap.IsCell c v->h'.IsCell c v:=λx c e v ⟨o,ho,hd⟩=>by
  have Vh:c∉ch:=λz=>(Sv c z).2.2.1 x c e rfl;by_cases hc:c∈X.fs
  ·obtain⟨sl,q⟩:=slot c o (I.To x c e) hc Vh ho (I.Q2 x c e);exact⟨_,q,hd⟩
  ·exact⟨o,keep c o (I.To x c e) hc Vh ho (I.Q2 x c e),hd⟩
 refine⟨I.ok,I.os,hg,⟨λb o e n hb hx=>?_,λb o e n hb hx=>?_,λb o e n hx=>?_,λb o e hx=>?_,λb xs e=>Rf b xs (I.base.Rf b xs e),λb o xs e=>Rb b o xs (I.base.Rb b o xs e),λb ps e=>?_⟩,?_,λx c e=>?_,?_,λx c e=>?_,λp hp=>?_,QQ,I.len⟩
 ·exact keep b o (neL b o e) hb (Td b o e hx) (I.base.keep b o e n hb hx) (I.base.free b o e n hx)
 ·obtain⟨sl,e1⟩:=I.base.slot b o e n hb hx;obtain⟨Tq,e2⟩:=slot b _ (neL b o e) hb (Td b o e hx) e1 (I.base.free b o e n hx);exact⟨Tq,e2⟩
 ·obtain⟨o',e1⟩:=I.base.there b o e hx;exact free b o' (Td b o e hx) e1 (I.base.free b o e n hx)
 ·obtain⟨o',e1⟩:=I.base.there b o e hx;exact there b o' (Td b o e hx) e1
 ·obtain⟨m1,e1⟩:=I.base.Rg b ps e;obtain⟨m2,e2⟩:=Rg b _ e1;exact⟨m1++m2,by rw[e2,Array.append_assoc]⟩
 ·obtain⟨m,hn,hl⟩:=I.loc;refine⟨m,ns m hn,λi x v e1 e2 e3=>?_⟩;obtain⟨u,r,l⟩:=hl i x v e1 e2 e3;refine⟨u,r,?_⟩;rcases l with l | ⟨k,c,e,z⟩
  ·exact .inl l
  ·exact .inr ⟨k,c,e,cellK x c e _ z⟩
 ·obtain⟨v,z⟩:=I.cell x c e;exact⟨v,cellK x c e v z⟩
 ·obtain⟨m,⟨o,_,_,ho,_⟩,_⟩:=I.loc;exact free _ o (λz=>(Sv _ z).2.1 rfl) ho I.free
 ·obtain⟨v,o,ho,hd⟩:=I.cell x c e;exact free c o (λz=>(Sv c z).2.2.1 x c e rfl) ho (I.Q2 x c e)
 ·obtain⟨e,n,ne,nf,d⟩:=I.pin p hp;have Vh:p.1∉ch:=λz=>(Sv p.1 z).2.2.2 p hp rfl;exact⟨keep p.1 p.2 ne nf Vh e n,free p.1 p.2 Vh e n,ne,nf,d⟩
theorem Inv.un (I:Inv X QN σ H s)(u:Un X.fs [] H H' s.heap h')(QQ:bW X.prog X.w H' h'):Inv X QN σ H' {s with heap:=h',toks:=t'}:=by
 obtain⟨m,⟨o,es,ep,ho,r⟩,_⟩:=id I.loc;obtain⟨sl,hL⟩:=u.any ho I.free (by simp);exact I.step (g':=s.gens) (d':=s.drawn) (ch:=[]) (λ_ z=>nomatch z) (λb o _ hb _ e n=>u.keep b o e n hb (by simp)) (λb o _ hb _ e n=>u.slot b o e n hb (by simp)) (λb o _ e n=>u.free b o e n (by simp)) (λb o _ e=>u.there b o e (by simp)) u.Rf u.Rb u.Rg (λm' hm=>by
  obtain⟨o',es',ep',Sa,r'⟩:=hm;rw[ho] at Sa;cases Sa
  exact⟨_,es',ep',hL,r'⟩) QQ I.bare
theorem Inv.call (I:Inv X QN σ H s)(u:Un (bG X.stack) ch H H' s.heap h')(QQ:bW X.prog X.w H' h')(hg:M0 g')(Sv:∀b∈ch,(b∈X.ex∨X.s₀.heap.objs.size<=b)/\b≠X.env.locals/\(∀x c,X.env.cells.lookup x=some c->c≠b)/\∀p∈X.pn++QN,p.1≠b):
 Inv X QN σ H' {s with heap:=h',gens:=g',drawn:=d',toks:=t'}:=by
 obtain⟨m,⟨o,es,ep,ho,r⟩,_⟩:=id I.loc;obtain⟨sl,hL⟩:=u.any ho I.free λz=>(Sv _ z).2.1 rfl;exact I.step (ch:=ch) Sv (λb o hL hb hc e n=>u.keep b o e n (λz=>(K8.mp (I.qu b z)).elim hL hb) hc) (λb o _ _ hc e n=>u.any e n hc) (λb o hc e n=>u.free b o e n hc) (λb o hc e=>u.there b o e hc) u.Rf u.Rb u.Rg (λm' hm=>by
  obtain⟨o',es',ep',Sa,r'⟩:=hm;rw[ho] at Sa;cases Sa
  exact⟨_,es',ep',hL,r'⟩) QQ hg
theorem Inv.turned (I:Inv X QN σ H s)(k:∀b o,b≠it->s.heap.get? b=some o->h'.get? b=some o)(hn:H it=none)(hL:it≠X.env.locals)(h1:it∈X.ex∨X.s₀.heap.objs.size<=it)(h2:∀x c,X.env.cells.lookup x=some c->c≠it)(h3:∀p∈X.pn++QN,p.1≠it):Inv X QN σ H {s with heap:=h',toks:=t'}:=by
 have Vg:∀b u,H b=some u->b≠it:=λb u e z=>by rw[z,hn] at e;cases e
 refine I.step (g':=s.gens) (d':=s.drawn) (ch:=[it]) (λb hb=>?_) (λb o _ _ hc e _=>k b o (λz=>hc (by simp[z])) e) (λb o _ _ hc e _=>⟨o.slots,k b o (λz=>hc (by simp[z])) e⟩) (λ_ _ _ _ n=>n)
  (λb o hc e=>⟨o,k b o (λz=>hc (by simp[z])) e⟩) (λ_ _ e=>e) (λ_ _ _ e=>e) (λb ps e=>⟨#[],by rw[e];simp⟩) (λm hm=>?_) (λb u e=>?_) I.bare
 ·have e:b=it:=by simpa using hb
  subst e;exact⟨h1,hL,h2,h3⟩
 ·obtain⟨o,es,ep,ho,r⟩:=hm;exact⟨o,es,ep,k _ o (MQ hL) ho,r⟩
 ·refine(I.QQ b u e).Q7 (λc v hc q=>k c v ?_ q) (λ_ q=>q) λ_ _ q=>q;rcases hc with z | z
  ·rw[z];exact Vg b u e
  ·exact Vg c _ z
theorem Inv.tok (I:Inv X QN σ H s)(t:Nat):Inv X QN σ H {s with toks:=t}:=I.un (h':=s.heap) (t':=t) Un.refl I.QQ
theorem Inv.kept (I:Inv X QN σ H s)(k:∀b u,s.heap.get? b=some u->h'.get? b=some u):Inv X QN σ H {s with heap:=h',toks:=t'}:=I.un (Un.kept k) (I.QQ.kept k)
theorem Inv.laid {a:Addr}{o:HO}(I:Inv X QN σ H s)(k:∀b u,s.heap.get? b=some u->h'.get? b=some u)(hp:s.heap.objs.size<=a)(new:bQ X.prog X.w (upd H a o) h' a o):
 Inv X QN σ (upd H a o) {s with heap:=h',toks:=t'}:=I.un (Un.laid k hp (I.QQ.fresh hp)) (I.QQ.laid k hp new)
theorem Inv.write {x e:Addr}{o:HO}(I:Inv X QN σ H s)(mu:yx (H x))(he:e=x∨H e=some (.own x))(k:∀b u,b≠e->s.heap.get? b=some u->h'.get? b=some u)(UZ:∃u,h'.get? e=some u)(new:bQ X.prog X.w (upd H x o) h' x o):Inv X QN σ (upd H x o) {s with heap:=h',toks:=t'}:=I.un (Un.write mu he k UZ) (I.QQ.write mu he k UZ new)
theorem Inv.iz {T6:Kq}(I:Inv X QN σ H s)(h:∀p∈T6,s.heap.get? p.1=some p.2/\H p.1=none/\p.1≠X.env.locals/\p.1∉X.fs/\∀v,p.2.data≠ .cell v):Inv X T6 σ H s:=
 ⟨I.ok,I.os,I.bare,I.base,I.loc,I.cell,I.free,I.Q2,λp hp=>(Lf.mp hp).elim (λz=>I.pin p (Lk _ z)) (h p),I.QQ,I.len⟩
theorem mf (hN:N.Nodup){j:Nat}(a:N[i]?=some x)(b:N[j]?=some x):i=j:=by
 obtain⟨h1,e1⟩:=KW.mp a;obtain⟨h2,e2⟩:=KW.mp b;exact(List.getElem_inj hN).mp (e1.trans e2.symm)
theorem oS {Q:Unit->M9->Prop}(I:Inv X QN σ H s)(hN:X.N.Nodup)(hi:X.N[i]?=some x)(hx:Loc X.env.scope x)(r:RelV v u)(h:∀s',Inv X QN (σ.set i (some v)) H s'->(∃a,Pq a s.heap s'.heap/\(a=X.env.locals∨X.env.cells.lookup x=some a))->Q () s')(hf:X.fn x=true∨X.env.scope.names.lookup x=some .local:=by first | exact .inl rfl | exact .inr rfl | assumption):wpAny M A (storeName X.env x u) Q E s:=by
 obtain⟨m,hn,hl⟩:=id I.loc;have UL:(X.env.scope.kind== .class ||(X.env.scope.kind== .module&&X.env.locals != X.env.globals))=false:=by rw[I.ok.kind];rfl
 have hiσ:i<σ.length:=by rw[I.len];exact(KW.mp hi).1
 have To:=I.To;have tracked:∀{a:Addr}{h':Heap},(∃o,s.heap.get? a=some o/\H a=none)->Pq a s.heap h'->bW X.prog X.w H h':=λ{a h'} ha hs b ob e=>by
  obtain⟨_,_,Sk⟩:=ha;refine(I.QQ b ob e).Q7 (λc w' hc q=>(hs.2 c ?_).trans q) (λ_ q=>q) λ_ _ q=>q;rintro rfl;rcases hc with rfl | hc
  ·rw[Sk] at e;cases e
  ·rw[Sk] at hc;cases hc
 rcases hx with hk | hk
 ·refine wpAny_storeName_local hk hn (λh' UU hs=>?_) UL;obtain⟨oL,_,_,hoL,_⟩:=id hn;refine h _ ⟨I.ok,I.os,I.bare,⟨λb o e n hb hx=>?_,λb o e n hb hx=>?_,I.base.free,λb o e hx=>?_,I.base.Rf,I.base.Rb,I.base.Rg⟩,⟨_,UU,λj y v' e1 e2 e3=>?_⟩,λy c e=>?_,I.free,I.Q2,λp hp=>?_,tracked ⟨oL,hoL,I.free⟩ hs,by simpa using I.len⟩ ⟨_,hs,.inl rfl⟩
  ·exact(hs.2 b (MB (MA (Pl e) I.ok.above))).trans (I.base.keep b o e n hb hx)
  ·obtain⟨sl,e1⟩:=I.base.slot b o e n hb hx;exact⟨sl,(hs.2 b (MB (MA (Pl e) I.ok.above))).trans e1⟩
  ·obtain⟨o',e1⟩:=I.base.there b o e hx;exact⟨o',(hs.2 b (MB (MA (Pl e) I.ok.above))).trans e1⟩
  ·by_cases hj:j=i
   ·subst hj;rw[hi] at e1;cases e1
    rw[Lb hiσ] at e2;cases e2
    exact⟨u,r,.inl ⟨hk,by simp⟩⟩
   ·rw[Ll (MQ hj)] at e2;obtain⟨u',r',q⟩:=hl j y v' e1 e2 e3;refine⟨u',r',?_⟩;rcases q with⟨k,e⟩ | ⟨k,c,e,z⟩
    ·refine .inl ⟨k,?_⟩;have:y≠x:=λe=>hj (mf hN e1 (e▸hi));simp[this,e]
    ·exact .inr ⟨k,c,e,z.sameBut hs (To y c e)⟩
  ·obtain⟨w',z⟩:=I.cell y c e;exact⟨w',z.sameBut hs (To y c e)⟩
  ·obtain⟨e,n,ne,nf,d⟩:=I.pin p hp;exact⟨(hs.2 p.1 ne).trans e,n,ne,nf,d⟩
 ·have hfn:X.fn x=true:=by
   rcases hf with z | z
   ·exact z
   ·rw[z] at hk;cases hk
  obtain⟨c,hc⟩:=I.ok.has x (.inl hk);obtain⟨w',z⟩:=I.cell x c hc;refine wpAny_storeName_cell I.ok.kind hk hc z (λh' S3 hs=>?_);obtain⟨oc,hoc,hocd⟩:=id z;refine h {s with heap:=h'} ⟨I.ok,I.os,I.bare,⟨λb o e n hb hx=>?_,λb o e n hb hx=>?_,I.base.free,λb o e hx=>?_,I.base.Rf,I.base.Rb,I.base.Rg⟩,⟨m,hn.sameBut hs (MQ (To x c hc)),λj y v' e1 e2 e3=>?_⟩,λy c' e=>?_,I.free,I.Q2,λp hp=>?_,tracked ⟨oc,hoc,I.Q2 x c hc⟩ hs,by simpa using I.len⟩ ⟨c,hs,.inr hc⟩
  ·exact(hs.2 b (MB (MA (Pl e) (I.ok.T3 x c hfn hc)))).trans (I.base.keep b o e n hb hx)
  ·obtain⟨sl,e1⟩:=I.base.slot b o e n hb hx;exact⟨sl,(hs.2 b (MB (MA (Pl e) (I.ok.T3 x c hfn hc)))).trans e1⟩
  ·obtain⟨o',e1⟩:=I.base.there b o e hx;exact⟨o',(hs.2 b (MB (MA (Pl e) (I.ok.T3 x c hfn hc)))).trans e1⟩
  ·by_cases hj:j=i
   ·subst hj;rw[hi] at e1;cases e1
    rw[Lb hiσ] at e2;cases e2
    exact⟨u,r,.inr ⟨.inl hk,c,hc,S3⟩⟩
   ·rw[Ll (MQ hj)] at e2;obtain⟨u',r',q⟩:=hl j y v' e1 e2 e3;refine⟨u',r',?_⟩;rcases q with q | ⟨k,c',e,z'⟩
    ·exact .inl q
    ·refine .inr ⟨k,c',e,z'.sameBut hs ?_⟩;rintro rfl;exact hj (mf hN e1 (I.ok.inj _ _ _ e hc▸hi))
  ·by_cases Ug:c'=c
   ·subst Ug;exact⟨_,S3⟩
   ·obtain⟨w2,z2⟩:=I.cell y c' e;exact⟨w2,z2.sameBut hs Ug⟩
  ·obtain⟨e,n,ne,nf,d⟩:=I.pin p hp;refine⟨(hs.2 p.1 ?_).trans e,n,ne,nf,d⟩;intro q;rw[q,hoc] at e;have q':oc=p.2:=Option.some.inj e;exact d w' (by rw[← q'];exact hocd)
theorem jN {Q:Unit->M9->Prop}(I:Inv X QN σ H s)(hN:X.N.Nodup)(hi:X.N[i]?=some x)(hx:Loc X.env.scope x)(r:RelV v u)(h:∀s',Inv X QN (σ.set i (some v)) H s'->Q () s')(hf:X.fn x=true∨X.env.scope.names.lookup x=some .local:=by first | exact .inl rfl | exact .inr rfl | assumption):wpAny M A (storeName X.env x u) Q E s:=
 oS I hN hi hx r (λs' I' _=>h s' I') hf
theorem Inv.vt (I:Inv X QN σ H s)(ho:s'.os=s.os)(u:Un (bG X.stack) ch H H' s.heap s'.heap)(QQ:bW X.prog X.w H' s'.heap)(hg:M0 s'.gens)(Sv:∀b∈ch,(b∈X.ex∨X.s₀.heap.objs.size<=b)/\b≠X.env.locals/\(∀x c,X.env.cells.lookup x=some c->c≠b)/\∀p∈X.pn++QN,p.1≠b):Inv X QN σ H' s':=by
 obtain⟨h',g',d',t',o'⟩:=s';have e:o'=s.os:=ho;subst e;exact I.call (g':=g') (t':=t') (d':=d') u QQ hg Sv
end
abbrev XK:=Value->Option Addr->Hp->Prop
abbrev St:=List (Option V)
abbrev VK:=V->Hp->Prop
abbrev TE:=St->Hp->VK->Prop
abbrev TT:=St->Hp->(Bool->Hp->Prop)->Prop
abbrev TA:=St->Hp->(List V->Hp->Prop)->Prop
structure Ends where
 nx:St->Hp->Prop
 rt:VK
 bk:St->Hp->Prop:=λ_ _=>False
 ct:St->Hp->Prop:=λ_ _=>False
abbrev TS:=Ends->St->Hp->Prop
def EP (X:Cx)(QN:Kq)(σ:St)(Q:VK)(u:Value)(s':M9):Prop:=∃v H',Inv X QN σ H' s'/\RelV v u/\Q v H'
def TP (X:Cx)(QN:Kq)(σ:St)(Q:Bool->Hp->Prop)(b:Bool)(s':M9):Prop:=∃H',Inv X QN σ H' s'/\Q b H'
def AP (X:Cx)(QN:Kq)(σ:St)(Q:List V->Hp->Prop)(us:Kv)(s':M9):Prop:=∃vs H',Inv X QN σ H' s'/\Vals vs us/\Q vs H'
def SP (X:Cx)(QN:Kq)(D:Ends)(f:Flow)(s':M9):Prop:=
 match f with
 | .next=>∃σ' H',Inv X QN σ' H' s'/\D.nx σ' H'
 | .brk=>∃σ' H',Inv X QN σ' H' s'/\D.bk σ' H'
 | .cont=>∃σ' H',Inv X QN σ' H' s'/\D.ct σ' H'
 | .ret u=>∃v σ' H',Inv X QN σ' H' s'/\RelV v u/\D.rt v H'
def PE (X:Cx)(e:Expr)(t:TE):Prop:=
 ∀(QN:Kq)(s:M9)(σ:St)(H:Hp)(Q:VK),Inv X QN σ H s->t σ H Q->wpAny (model X.prog X.w) X.A (eval e X.env) (EP X QN σ Q) X.xe s
def PT (X:Cx)(e:Expr)(t:TT):Prop:=
 ∀(QN:Kq)(s:M9)(σ:St)(H:Hp)(Q:Bool->Hp->Prop),Inv X QN σ H s->t σ H Q->wpAny (model X.prog X.w) X.A (N6 e X.env (eval e X.env)) (TP X QN σ Q) X.xe s
def PW (X:Cx)(e:Expr)(t:TT):Prop:=
 ∀(whole:Sem Value)(QN:Kq)(s:M9)(σ:St)(H:Hp)(Q:Bool->Hp->Prop),Inv X QN σ H s->t σ H Q->wpAny (model X.prog X.w) X.A (N6 e X.env whole) (TP X QN σ Q) X.xe s
variable {e:Expr}
theorem PW.pt {t:TT}(h:PW X e t):PT X e t:=h _
def PA (X:Cx)(es:Kw)(t:TA):Prop:=
 ∀(pos:Pos)(QN:Kq)(s:M9)(σ:St)(H:Hp)(Q:List V->Hp->Prop),Inv X QN σ H s->t σ H Q->wpAny (model X.prog X.w) X.A (spliced (Nk pos (Nc es X.env))) (AP X QN σ Q) X.xe s
def PS (X:Cx)(st:Stmt)(t:TS):Prop:=
 ∀(QN:Kq)(s:M9)(σ:St)(H:Hp)(D:Ends),Inv X QN σ H s->t D σ H->wpAny (model X.prog X.w) X.A (exec st X.env) (SP X QN D) X.xe s
def iK (X:Cx)(st:List Stmt)(t:TS):Prop:=
 ∀(QN:Kq)(s:M9)(σ:St)(H:Hp)(D:Ends),Inv X QN σ H s->t D σ H->wpAny (model X.prog X.w) X.A (execs st X.env) (SP X QN D) X.xe s
theorem aO {α:Type}{t:Sem α}{Q Q':α->M9->Prop}(h:wpAny M A t Q E s)(hQ:∀a s,Q a s->Q' a s):wpAny M A t Q' E s:=Nj h hQ λ_ _ x=>x
variable {Q:Value->M9->Prop}{pos:Pos}{σ:St}{ta:TE}{c:Expr}
section
def JA (i:Nat):TE:=λσ H Q=>∃v,σ[i]?=some (some v)/\Q v H
def tC (v:V):TE:=λ_ H Q=>Q v H
theorem bh (hN:X.N[i]?=some x)(hv:cI X.env.scope x)(hd:Q0 x:=by decide)(QR:Rn x:=by decide):PE X (.Name x pos) (JA i):=by
 intro QN s σ H Q I h;obtain⟨v,e,h⟩:=h;obtain⟨m,hn,hl⟩:=I.loc;obtain⟨u,r,l⟩:=hl i x v hN e hv;have fin:EP X QN σ Q u s:=⟨v,H,I,r,h⟩;rcases l with⟨hk,hm⟩ | ⟨hk,c,hc,RZ⟩
 ·exact wpAny_Name (wpAny_loadName_local I.ok.kind hk hn hm fin) hd
 ·rcases hk with hk | hk
  ·exact wpAny_Name (wpAny_loadName_cell I.ok.kind hk hc RZ fin) hd
  ·exact wpAny_Name (wpAny_loadName_free I.ok.kind hk hc RZ fin QR) hd
theorem Gf {i j pos}:PE X (.Constant (.int i) j pos) (tC (.int i)):=λ_ _ _ H _ I h=>wpAny_Constant_int ⟨.int i,H,I.tok _,⟨_,rfl⟩,h⟩
theorem vA {b j pos}:PE X (.Constant (.bool b) j pos) (tC (.bl b)):=λ_ _ _ H _ I h=>Constant_bool ⟨.bl b,H,I,rfl,h⟩
theorem Fg {j pos}:PE X (.Constant .none j pos) (tC .QY):=λ_ _ _ H _ I h=>Constant_none ⟨.QY,H,I,rfl,h⟩
theorem FQ {x j pos}:PE X (.Constant (.str x) j pos) (tC (.str x)):=λ_ _ _ H _ I h=>Calls.Constant_str ⟨.str x,H,I.tok _,⟨_,rfl⟩,h⟩
def Gl (X:Cx)(x:Str):Prop:=X.env.kindOf x=some .globalImplicit
theorem iu (I:Inv X QN σ H s)(hg:Gl X x)(hm:X.mg x=some u)(h:Q u s)(hd:Q0 x:=by decide):wpAny (model X.prog X.w) X.A (eval (.Name x pos) X.env) Q E s:=
 Calls.Name_function_global I.ok.kind hg (Calls.loadGlobal_global (by rw[I.ok.glob];exact I.mod.glob.keeps I.bk) hm h) hd
theorem fC (I:Inv X QN σ H s)(hg:Gl X x)(hm:X.mg x=none)(hv:Ny x=some u)(h:Q u s)(hn:x≠"__name__":=by decide)(hd:Q0 x:=by decide):wpAny (model X.prog X.w) X.A (eval (.Name x pos) X.env) Q E s:=by
 obtain⟨mb,h1,h2⟩:=I.mod.blt;exact Calls.Name_function_global I.ok.kind hg (Calls.loadGlobal_builtin (by rw[I.ok.glob];exact I.mod.glob.keeps I.bk) hm (by rw[I.ok.blt];exact h1.keeps I.bk) ((h2 x hn).trans hv) h) hd
theorem gg (hg:Gl X x)(hm:X.mg x=some u)(r:RelV v u)(hd:Q0 x:=by decide):PE X (.Name x pos) (tC v):=
 λ_ _ _ H _ I h=>iu I hg hm ⟨v,H,I,r,h⟩ hd
theorem uB (hg:Gl X x)(hm:X.mg x=none)(hv:Ny x=some u)(r:RelV v u)(hn:x≠"__name__":=by decide)(hd:Q0 x:=by decide):PE X (.Name x pos) (tC v):=
 λ_ _ _ H _ I h=>fC I hg hm hv ⟨v,H,I,r,h⟩ hn hd
variable {a b:Expr}{tb:TE}
def PC (X:Cx)(op:CmpOp)(a b:Expr)(t:TE):Prop:=
 ∀(QN:Kq)(s:M9)(σ:St)(H:Hp)(Q:VK),Inv X QN σ H s->t σ H Q->
  wpAny (model X.prog X.w) X.A (eval a X.env) (λv s₁=>wpAny (model X.prog X.w) X.A (eval b X.env) (λu s₂=>wpAny (model X.prog X.w) X.A (Nn op v u) (EP X QN σ Q) X.xe s₂) X.xe s₁) X.xe s
def tB (t:TE):TT:=λσ H Q=>t σ H λx H1=>∃c,x= .bl c/\Q c H1
theorem kL {op:CmpOp}{t:TE}(h:PC X op a b t)(h1:NO op b=false:=by first | exact Ve _ (by decide) (by decide) | rfl):PT X (.Compare a [op] [b] pos) (tB t):=by
 intro QN s σ H Q I hw;refine wpAny_isTrue_Compare1 (aO (h QN s σ H _ I hw) λv s1 h1=>aO h1 λu s2 h2=>aO h2 λc s3 ⟨x,H1,I1,r1,q1⟩=>?_) h1;obtain⟨d,rfl,q⟩:=q1;cases r1
 exact Np ⟨H1,I1,q⟩
theorem DG {t:TE}(h:PE X e t)(he:∀whole,N6 e X.env whole=(do let v ← whole;Om e.pos;NQ [v] (truthy v)):=by intro _;rfl):PT X e (tB t):=by
 intro QN s σ H Q I hw;refine isTrue_plain (aO (h QN s σ H _ I hw) λv s1 ⟨x,H1,I1,r1,q1⟩=>?_) (he _);obtain⟨d,rfl,q⟩:=q1;cases r1
 exact Np ⟨H1,I1,q⟩
variable {tA tB':TT}{rest:Kw}
def JN (t u:TT):TT:=λσ H Q=>t σ H λc H1=>if c=true then u σ H1 Q else Q false H1
def tOr (t u:TT):TT:=λσ H Q=>t σ H λc H1=>if c=true then Q true H1 else u σ H1 Q
def Kl (t:TT):TT:=λσ H Q=>t σ H λc H1=>Q (!c) H1
theorem BZ (ha:PT X a tA):PW X (.BoolOp .And [a] pos) tA:=by
 intro wh QN s σ H Q I h;refine isTrue_and (aO (ha QN s σ H Q I h) λc s1 e=>?_);cases c with
 | true=>exact isTrue_and_nil e
 | false=>exact e
theorem Di (ha:PT X a tA):PW X (.BoolOp .Or [a] pos) tA:=by
 intro wh QN s σ H Q I h;refine isTrue_or (aO (ha QN s σ H Q I h) λc s1 e=>?_);cases c with
 | false=>exact isTrue_or_nil e
 | true=>exact e
theorem Gb (ha:PT X a tA)(hb:PW X (.BoolOp .And (b::rest) pos) tB'):PW X (.BoolOp .And (a::b::rest) pos) (JN tA tB'):=by
 intro wh QN s σ H Q I h;refine isTrue_and (aO (ha QN s σ H _ I h) λc s1 ⟨H1,I1,q1⟩=>?_);cases c with
 | true=>exact hb wh QN s1 σ H1 Q I1 q1
 | false=>exact⟨H1,I1,q1⟩
theorem GY (ha:PT X a tA)(hb:PW X (.BoolOp .Or (b::rest) pos) tB'):PW X (.BoolOp .Or (a::b::rest) pos) (tOr tA tB'):=by
 intro wh QN s σ H Q I h;refine isTrue_or (aO (ha QN s σ H _ I h) λc s1 ⟨H1,I1,q1⟩=>?_);cases c with
 | true=>exact⟨H1,I1,q1⟩
 | false=>exact hb wh QN s1 σ H1 Q I1 q1
theorem De (ha:PT X a tA):PT X (.UnaryOp .Not a pos) (Kl tA):=by
 intro QN s σ H Q I h;exact isTrue_not (ha QN s σ H (λc H1=>Q (!c) H1) I h)
def Gn (ta tb:TE):TE:=λσ H Q=>ta σ H λx H1=>∃c,x= .bl c/\if c=true then tb σ H1 Q else Q (.bl false) H1
def HW (ta:TE):TE:=λσ H Q=>ta σ H λx H1=>∃c,x= .bl c/\Q (.bl (!c)) H1
theorem FT {op}{t:TE}(h:PE X a t):PE X (.BoolOp op [a] pos) t:=λQN s σ H Q I hw=>BoolOp_one (h QN s σ H Q I hw)
theorem Eb (ha:PE X a ta)(hb:PE X (.BoolOp .And (b::rest) pos) tb):PE X (.BoolOp .And (a::b::rest) pos) (Gn ta tb):=by
 intro QN s σ H Q I h;refine BoolOp_and (aO (ha QN s σ H _ I h) λv s1 ⟨x,H1,I1,r1,q1⟩=>?_);obtain⟨c,rfl,q1⟩:=q1;cases r1
 refine Np ?_;cases c with
 | true=>exact hb QN s1 σ H1 Q I1 q1
 | false=>exact⟨.bl false,H1,I1,rfl,q1⟩
theorem Ep (ha:PE X a ta):PE X (.UnaryOp .Not a pos) (HW ta):=by
 intro QN s σ H Q I h;refine UnaryOp_ (aO (ha QN s σ H _ I h) λv s1 ⟨x,H1,I1,r1,q1⟩=>?_);obtain⟨c,rfl,q1⟩:=q1;cases r1
 exact not_of (Np ⟨.bl (!c),H1,I1,rfl,q1⟩)
def tIf (t:TT)(ta tb:TE):TE:=λσ H Q=>t σ H λc H1=>if c=true then ta σ H1 Q else tb σ H1 Q
theorem qr (hc:PT X c tA)(ha:PE X a ta)(hb:PE X b tb):PE X (.IfExp c a b pos) (tIf tA ta tb):=by
 intro QN s σ H Q I h;refine wpAny_IfExp (aO (hc QN s σ H _ I h) λd s1 ⟨H1,I1,q1⟩=>?_);cases d with
 | true=>exact ha QN s1 σ H1 Q I1 q1
 | false=>exact hb QN s1 σ H1 Q I1 q1
end
def bt (K:P1)(H:Hp)(a:Addr)(xs:List V):Prop:=
 Rd H a (.lst xs)∨
  ∃(o:Obj)(QO:Array Value)(n:Nat),K.lookup a=some o/\o.cls= .type "list"/\o.dict=none/\o.data= .seq QO n/\QO.size<=Nb/\Vals xs QO.toList
def dC (K:P1)(H:Hp)(a:Addr)(xs:List V):Prop:=
 Rd H a (.tup xs)∨
  ∃(o:Obj)(QO:Array Value)(n:Nat),K.lookup a=some o/\o.cls= .type "tuple"/\o.data= .seq QO n/\QO.size<=Nb/\Vals xs QO.toList
def Ju:Value->Option V
 | .none=>some .QY
 | .bool b=>some (.bl b)
 | .int i _=>some (.int i)
 | .str x _=>some (.str x)
 | .bytes b _=>some (.SS b)
 | .float b _=>some (.UN b)
 | .ref a=>some (.ref a)
 | .type n=>some (.ty n)
 | _=>none
theorem RelV.abs {x:V}(r:RelV x u):Ju u=some x:=by
 cases x with
 | QY=>cases r;rfl
 | bl _=>cases r;rfl
 | int _=>obtain⟨t,rfl⟩:=r;rfl
 | str _=>obtain⟨t,rfl⟩:=r;rfl
 | SS _=>obtain⟨t,rfl⟩:=r;rfl
 | UN _=>obtain⟨t,rfl⟩:=r;rfl
 | ref _=>cases r;rfl
 | ty _=>cases r;rfl
theorem RelV.inj {x y:V}{u:Value}(r:RelV x u)(q:RelV y u):x=y:=Option.some.inj (r.abs.symm.trans q.abs)
theorem Vals.inj:∀{xs ys:List V}{us:Kv},Vals xs us->Vals ys us->xs=ys
 | _,_,_,.nil,.nil=>rfl
 | _,_,_,.cons r t,.cons r' t'=>by rw[r.inj r',Vals.inj t t']
variable {xs:List V}{K:P1}
section
variable {ys:List V}
theorem bt.of (h:H a=some (.lst xs)):bt K H a xs:=.inl (.inl h)
theorem dC.of (h:H a=some (.tup xs)):dC K H a xs:=.inl (.inl h)
theorem Inv.list (I:Inv X QN σ H s)(h:bt X.K H a xs):∃QO:Kv,Vals xs QO/\PlainL s.heap a QO.toArray/\xs.length<=Nb:=by
 rcases h with h | ⟨o,QO,n,hk,hc,hd,hs,hz,r⟩
 ·obtain⟨z,QO,n,r,e⟩:=h.ok I.QQ;exact⟨QO,r,⟨_,n,e,rfl,rfl,rfl⟩,z⟩
 ·refine⟨QO.toList,r,⟨o,n,I.cY a o hk,hc,hd,by simpa using hs⟩,?_⟩;have e:=r.length;simp only[Kz] at e;omega
theorem Inv.tuple (I:Inv X QN σ H s)(h:dC X.K H a xs):∃QO:Kv,Vals xs QO/\IsTup s.heap a QO.toArray/\xs.length<=Nb:=by
 rcases h with h | ⟨o,QO,n,hk,hc,hs,hz,r⟩
 ·obtain⟨z,QO,r,p⟩:=h.ok I.QQ;exact⟨QO,r,p,z⟩
 ·refine⟨QO.toList,r,⟨o,I.cY a o hk,hc,n,by simpa using hs⟩,?_⟩;have e:=r.length;simp only[Kz] at e;omega
theorem Inv.jP (I:Inv X QN σ H s)(h:bt X.K H a xs)(h':bt X.K H a ys):xs=ys:=by
 obtain⟨QO,r,⟨o,n,e,_,_,d⟩,_⟩:=I.list h;obtain⟨its',r',⟨o',n',e',_,_,d'⟩,_⟩:=I.list h';rw[e] at e';cases e'
 rw[d] at d';injection d' with d1 _;have:QO=its':=by simpa using congrArg Array.toList d1
 subst this;exact r.inj r'
theorem Inv.oX (I:Inv X QN σ H s)(h:dC X.K H a xs)(h':dC X.K H a ys):xs=ys:=by
 obtain⟨QO,r,⟨o,e,_,n,d⟩,_⟩:=I.tuple h;obtain⟨its',r',⟨o',e',_,n',d'⟩,_⟩:=I.tuple h';rw[e] at e';cases e'
 rw[d] at d';injection d' with d1 _;have:QO=its':=by simpa using congrArg Array.toList d1
 subst this;exact r.inj r'
end
abbrev Cx.ft (X:Cx)(E:Value->M9->Prop):Cx:={X with xe:=E}
abbrev Cx.cj (X:Cx):Cx:=X.ft λ_ _=>False
theorem Cx.Ok.ft {X:Cx}(ok:X.Ok)(E:Value->M9->Prop):(X.ft E).Ok:=
 ⟨ok.mod,ok.kind,ok.glob,ok.blt,ok.above,ok.inj,ok.has,ok.T3,ok.hd,ok.frames,ok.T5,ok.Uh,ok.bs,ok.S4,ok.R9,ok.RU,ok.Rv,ok.Tn⟩
theorem Cx.Ok.dz (ok:(X.ft E).Ok):X.Ok:=
 ⟨ok.mod,ok.kind,ok.glob,ok.blt,ok.above,ok.inj,ok.has,ok.T3,ok.hd,ok.frames,ok.T5,ok.Uh,ok.bs,ok.S4,ok.R9,ok.RU,ok.Rv,ok.Tn⟩
theorem Inv.ft (I:Inv X QN σ H s)(E:Value->M9->Prop):Inv (X.ft E) QN σ H s:=⟨I.ok.ft E,I.os,I.bare,I.base,I.loc,I.cell,I.free,I.Q2,I.pin,I.QQ,I.len⟩
theorem Inv.dz (I:Inv (X.ft E) QN σ H s):Inv X QN σ H s:=⟨I.ok.dz,I.os,I.bare,I.base,I.loc,I.cell,I.free,I.Q2,I.pin,I.QQ,I.len⟩
theorem SP.dz {D:Ends}{f:Flow}{s':M9}(h:SP (X.ft E) QN D f s'):SP X QN D f s':=by
 cases f with
 | next=>obtain⟨σ',H',I,q⟩:=h;exact⟨σ',H',I.dz,q⟩
 | brk=>obtain⟨σ',H',I,q⟩:=h;exact⟨σ',H',I.dz,q⟩
 | cont=>obtain⟨σ',H',I,q⟩:=h;exact⟨σ',H',I.dz,q⟩
 | ret u=>obtain⟨v,σ',H',I,r,q⟩:=h;exact⟨v,σ',H',I.dz,r,q⟩
theorem iK.cj {st:List Stmt}{t:TS}(h:iK X.cj st t):iK X st t:=λQN s σ H D I hw=>
 Nj (h QN s σ H D (I.ft _) hw) (λ_ _ q=>q.dz) λ_ _ z=>KO z
variable {te:TE}{tc:TT}
section
variable {st:Stmt}{rest:List Stmt}{t u:TS}
def Hk:TS:=λD σ H=>D.nx σ H
def Kc (t u:TS):TS:=λD σ H=>t {D with nx:=u D} σ H
theorem Bo:iK X [] Hk:=λ_ _ σ H _ I h=>NU ⟨σ,H,I,h⟩
theorem iB (h1:PS X st t)(h2:iK X rest u):iK X (st::rest) (Kc t u):=by
 intro QN s σ H D I h;refine Nu (aO (h1 QN s σ H {D with nx:=u D} I h) λf s1 q=>?_);cases f with
 | next=>
   obtain⟨σ',H',I',q⟩:=q;exact h2 QN s1 σ' H' D I' q
 | ret v=>exact q
 | brk=>exact q
 | cont=>exact q
theorem oj (h1:PS X st t):iK X [st] t:=by
 intro QN s σ H D I h;refine Nu (aO (h1 QN s σ H D I h) λf s1 q=>?_);cases f with
 | next=>exact NU q
 | ret v=>exact q
 | brk=>exact q
 | cont=>exact q
theorem Inv.quiet (I:Inv X QN σ H s):interactive X.env=false:=by simp[interactive,I.ok.kind]
def He (te:TE):TS:=λD σ H=>te σ H λ_ H1=>D.nx σ H1
theorem f9 (he:PE X e te)(hs:Nl e none pos.line X.env=pure false:=by rfl):PS X (.Expr e pos) (He te):=by
 intro QN s σ H D I h;exact wpAny_Expr_any (aO (he QN s σ H _ I h) λv s1 ⟨x,H1,I1,r1,q1⟩=>⟨σ,H1,I1,q1⟩) I.quiet hs
def J0 (te:TE):TS:=λD σ H=>te σ H D.rt
theorem jh (he:PE X e te):PS X (.Return (some e) pos) (J0 te):=by
 intro QN s σ H D I h;exact wpAny_Return_some (aO (he QN s σ H _ I h) λv s1 ⟨x,H1,I1,r1,q1⟩=>⟨x,σ,H1,I1,r1,q1⟩)
def JR (c:TT)(t u:TS):TS:=λD σ H=>c σ H λb H1=>if b=true then t D σ H1 else u D σ H1
theorem Gj {a b:List Stmt}(hc:PT X c tc)(ha:iK X a t)(hb:iK X b u):PS X (.If c a b pos) (JR tc t u):=by
 intro QN s σ H D I h;refine wpAny_If (aO (hc QN s σ H _ I h) λd s1 ⟨H1,I1,q1⟩=>?_);cases d with
 | true=>exact ha QN s1 σ H1 D I1 q1
 | false=>exact hb QN s1 σ H1 D I1 q1
end
abbrev TG:=V->St->Hp->(St->Hp->Prop)->Prop
abbrev rM:=List V->St->Hp->(St->Hp->Prop)->Prop
def PG (X:Cx)(target:Expr)(t:TG):Prop:=
 ∀(QN:Kq)(s:M9)(σ:St)(H:Hp)(v:V)(u:Value)(Q:St->Hp->Prop),Inv X QN σ H s->RelV v u->t v σ H Q->
  wpAny (model X.prog X.w) X.A (N2 target X.env u) (λ_ s'=>∃σ' H',Inv X QN σ' H' s'/\Q σ' H') X.xe s
def AY (X:Cx)(ts:Kw)(t:rM):Prop:=
 ∀(QN:Kq)(s:M9)(σ:St)(H:Hp)(vs:List V)(us:Kv)(Q:St->Hp->Prop),Inv X QN σ H s->Vals vs us->t vs σ H Q->
  wpAny (model X.prog X.w) X.A (assignInOrder ((NV ts X.env).map (·.2)) us) (λ_ s'=>∃σ' H',Inv X QN σ' H' s'/\Q σ' H') X.xe s
abbrev yW:=V->V->V->Hp->(Hp->Prop)->Prop
def Cs (X:Cx)(t:yW):Prop:=
 ∀(QN:Kq)(s:M9)(σ:St)(H:Hp)(o i v:V)(ov iv u:Value)(Q:Hp->Prop),Inv X QN σ H s->RelV o ov->RelV i iv->RelV v u->t o i v H Q->
  wpAny (model X.prog X.w) X.A (setItem ov iv u) (λ_ s'=>∃H',Inv X QN σ H' s'/\Q H') X.xe s
abbrev Aa:=V->V->Hp->VK->Prop
def IL (X:Cx)(op:Operator)(t:Aa):Prop:=
 ∀(QN:Kq)(s:M9)(σ:St)(H:Hp)(x y:V)(v u:Value)(Q:VK),Inv X QN σ H s->RelV x v->RelV y u->t x y H Q->
  wpAny (model X.prog X.w) X.A (inplaceOp op v u) (EP X QN σ Q) X.xe s
variable {op:Operator}{es:Kw}{n:Nat}{tg:Expr}{pos':Pos}
def wa (i:Nat):TG:=λv σ H Q=>Q (σ.set i (some v)) H
theorem ju (hN:X.N.Nodup)(hi:X.N[i]?=some x)(hx:Loc X.env.scope x)(hf:X.fn x=true∨X.env.scope.names.lookup x=some .local:=by first | exact .inl rfl | exact .inr rfl | assumption):PG X (.Name x pos) (wa i):=by
 intro QN s σ H v u Q I r h;exact wpAny_assign_Name (jN I hN hi hx r (λs' I'=>⟨_,H,I',h⟩) hf)
def Jv:rM:=λvs σ H Q=>vs=[]/\Q σ H
def HV (t:TG)(u:rM):rM:=λvs σ H Q=>∃v r,vs=v::r/\t v σ H λσ' H'=>u r σ' H' Q
theorem uD:AY X [] Jv:=by
 intro QN s σ H vs us Q I r h;obtain⟨e,h⟩:=h;subst e;cases r
 exact assignInOrder_nil ⟨σ,H,I,h⟩
theorem jT {t:TG}{u:rM}(h1:PG X e t)(h2:AY X es u)(hs:(NV (e::es) X.env).map (·.2)=N2 e X.env::(NV es X.env).map (·.2):=by rfl):AY X (e::es) (HV t u):=by
 intro QN s σ H vs us Q I r h;obtain⟨v,vr,e1,h⟩:=h;subst e1;cases r with
 | cons r rr=>
   rw[hs];refine assignInOrder_cons (aO (h1 QN s σ H _ _ _ I r h) λ_ s1 ⟨σ1,H1,I1,q1⟩=>?_);exact h2 QN s1 σ1 H1 _ _ Q I1 rr q1
def J3 (K:P1)(n:Nat)(t:rM):TG:=λv σ H Q=>∃a xs,v= .ref a/\dC K H a xs/\xs.length=n/\t xs σ H Q
theorem w8 {k:Nat}{t:rM}(hc:X.calm=true)(h:AY X es t)(hn:(NV es X.env).length=n:=by rfl)(Sr:(NV es X.env).findIdx? (·.1)=none:=by rfl):PG X (.Tuple es k pos) (J3 X.K n t):=by
 intro QN s σ H v u Q I r hw;obtain⟨a,xs,e1,hq,hl,hw⟩:=hw;subst e1;cases r
 obtain⟨QO,rv,ht,hz⟩:=I.tuple hq;refine assign_Tuple_tuple (I.ok.hd hc) ht (by simp[hn,← hl,rv.length]) Sr λh' hx=>?_;have I1:Inv X QN σ H {s with heap:=h'}:=I.kept (t':=s.toks) λb o e=>hx b o (MB (Pl e)) e;exact h QN _ σ H xs _ Q I1 (by simpa using rv) hw
def J4 (to ti:TE)(t:yW):TG:=λv σ H Q=>to σ H λo H1=>ti σ H1 λi H2=>t o i v H2 λH3=>Q σ H3
theorem yh {o i:Expr}{to ti:TE}{t:yW}(ho:PE X o to)(hi:PE X i ti)(hs:Cs X t)(ha:∀v,N2 (.Subscript o i pos) X.env v=(do
  let ov ← NQ [v] (eval o X.env)
  let iv ← NQ [v,ov] (eval i X.env)
  Om pos
  NQ [v,ov,iv] (setItem ov iv v)
  release [v,ov,iv] []):=by intro _;rfl):PG X (.Subscript o i pos) (J4 to ti t):=by
 intro QN s σ H v u Q I r h;rw[ha];refine Na (Nv (aO (ho QN s σ H _ I h) λov s1 ⟨x,H1,I1,r1,q1⟩=>?_));refine Na (Nv (aO (hi QN s1 σ H1 _ I1 q1) λiv s2 ⟨y,H2,I2,r2,q2⟩=>?_));refine Na (Od (Na (Nv (aO (hs QN s2 σ H2 x y v ov iv u _ I2 r1 r2 r q2) λ_ s3 ⟨H3,I3,q3⟩=>?_))));exact wpAny_release ⟨σ,H3,I3,q3⟩
def zD (te:TE)(g:TG):TS:=λD σ H=>te σ H λx H1=>g x σ H1 D.nx
theorem rK {g:TG}(he:PE X e te)(hg:PG X tg g)(hs:Ou [tg] e pos.line X.env=pure false:=by rfl)(hw:Ov [tg] e X.env=pure none:=by rfl)(h1:(NV [tg] X.env).map (·.2)=[N2 tg X.env]:=by rfl):PS X (.Assign [tg] e pos) (zD te g):=by
 intro QN s σ H D I h;refine wpAny_Assign_stores (aO (he QN s σ H _ I h) λv s1 ⟨x,H1,I1,r1,q1⟩=>?_) hs hw;rw[h1];exact aO (hg QN s1 σ H1 x v _ I1 r1 q1) λ_ s2 q=>q
theorem iM (hN:X.N.Nodup)(hi:X.N[i]?=some x)(hx:Loc X.env.scope x)(he:PE X e te)(hs:Nl e (some (.Name x pos')) pos.line X.env=pure false:=by rfl)(hf:X.fn x=true∨X.env.scope.names.lookup x=some .local:=by first | exact .inl rfl | exact .inr rfl | assumption):
 PS X (.Assign [.Name x pos'] e pos) (zD te (wa i)):=by
 intro QN s σ H D I h;refine wpAny_Assign_Name (aO (he QN s σ H _ I h) λv s1 ⟨y,H1,I1,r1,q1⟩=>?_) hs;exact jN I1 hN hi hx r1 (λs2 I2=>⟨_,H1,I2,q1⟩) hf
def Ka (i:Nat)(te:TE)(ti:Aa):TS:=λD σ H=>∃x,σ[i]?=some (some x)/\te σ H λy H1=>ti x y H1 λz H2=>D.nx (σ.set i (some z)) H2
theorem Fo {ti:Aa}(hN:X.N.Nodup)(hi:X.N[i]?=some x)(hx:Loc X.env.scope x)(he:PE X e te)(ho:IL X op ti)(hf:X.fn x=true∨X.env.scope.names.lookup x=some .local:=by first | exact .inl rfl | exact .inr rfl | assumption):
 PS X (.AugAssign (.Name x pos') op e pos) (Ka i te ti):=by
 intro QN s σ H D I h;obtain⟨v,e1,h⟩:=h;obtain⟨m,hn,hl⟩:=I.loc;have vis:cI X.env.scope x:=by rcases hx with k | k;exact .inl k;exact .inr (.inl k)
 obtain⟨u,r,l⟩:=hl i x v hi e1 vis;refine wpAny_AugAssign_Name ?_;have go:wpAny (model X.prog X.w) X.A (eval e X.env) (λw s₂=>wpAny (model X.prog X.w) X.A (inplaceOp op u w) (λr s₃=>wpAny (model X.prog X.w) X.A (storeName X.env x r) (λ_=>SP X QN D .next) X.xe s₃) X.xe s₂) X.xe s:=by
  refine aO (he QN s σ H _ I h) λw s1 ⟨y,H1,I1,r1,q1⟩=>?_;refine aO (ho QN s1 σ H1 v y u w _ I1 r r1 q1) λz s2 ⟨zv,H2,I2,r2,q2⟩=>?_;exact jN I2 hN hi hx r2 (λs3 I3=>⟨_,H2,I3,q2⟩) hf
 rcases l with⟨hk,hm⟩ | ⟨hk,c,hc,RZ⟩
 ·exact wpAny_loadName_local I.ok.kind hk hn hm go
 ·rcases hk with hk | hk
  ·exact wpAny_loadName_cell I.ok.kind hk hc RZ go
  ·rcases hx with k | k
   ·have:X.env.scope.names.lookup x=some .free:=hk;rw[k] at this;cases this
   ·have:X.env.scope.names.lookup x=some .free:=hk;rw[k] at this;cases this
def ipI (f:Int->Int->Int):Aa:=λx y H Q=>∃i j,x= .int i/\y= .int j/\Q (.int (f i j)) H
theorem Ea:IL X .Add (ipI λi j=>i+j):=by
 intro QN s σ H x y v u Q I r1 r2 h;obtain⟨i,j,e1,e2,q⟩:=h;subst e1;subst e2;obtain⟨t,rfl⟩:=r1;obtain⟨t',rfl⟩:=r2;exact iadd_int ⟨.int _,H,I.tok _,⟨_,rfl⟩,q⟩
variable {body:List Stmt}{tb:TS}
def D6 (c:TT)(tb:TS):TS:=λD σ H=>∃W:Nat->St->Hp->Prop,(∃m,W m σ H)/\∀m σ H,W m σ H->
 c σ H λb H1=>if b=true then∃N:St->Hp->Prop,(∀σ' H',N σ' H'->∃m',m'<m/\W m' σ' H')/\tb {D with nx:=N,ct:=N,bk:=D.nx} σ H1 else D.nx σ H1
theorem rf (hp:OG (model X.prog X.w) X.A X.env X.xe)(hc:PT X c tc)(hb:iK X body tb):PS X (.While c body [] pos) (D6 tc tb):=by
 intro QN s σ H D I h;obtain⟨W,⟨m0,w0⟩,turn⟩:=h;refine wpAny_While (codeAny_whileLoop (λn s'=>∃σ' H',Inv X QN σ' H' s'/\W n σ' H') ?_ m0 ⟨σ,H,I,w0⟩);rintro n s1 ⟨σ1,H1,I1,w1⟩;refine NN hp (aO (hc QN s1 σ1 H1 _ I1 (turn n σ1 H1 w1)) λb s2 ⟨H2,I2,q2⟩=>?_);cases b with
 | true=>
   obtain⟨N,hN,q2⟩:=q2;rw[QG rfl];refine NN hp (aO (hb QN s2 σ1 H2 _ I2 q2) λf s3 q3=>?_);cases f with
   | next=>
     obtain⟨σ3,H3,I3,n3⟩:=q3;obtain⟨m',hm,w3⟩:=hN σ3 H3 n3;exact⟨m',hm,σ3,H3,I3,w3⟩
   | cont=>
     obtain⟨σ3,H3,I3,n3⟩:=q3;obtain⟨m',hm,w3⟩:=hN σ3 H3 n3;exact⟨m',hm,σ3,H3,I3,w3⟩
   | brk=>exact q3
   | ret v=>exact q3
 | false=>
   rw[QF KC];exact NU ⟨σ1,H2,I2,q2⟩
structure It where
 go:Nat->Hp->Prop
 U6:Nat->Hp->V->Hp->Prop
 stop:Nat->Hp->Prop
def jg (X:Cx)(QN:Kq)(H:Hp)(b:Addr):Prop:=
 H b=none/\b≠X.env.locals/\b∉X.fs/\(b∈X.ex∨X.s₀.heap.objs.size<=b)/\(∀x c,X.env.cells.lookup x=some c->c≠b)/\∀p∈X.pn++QN,p.1≠b
theorem Inv.gZ (I:Inv X QN σ H s)(hb:s.heap.objs.size<=b)(hn:H' b=none):jg X QN H' b:=by
 refine⟨hn,ML (MA I.lt hb),I.JY hb,.inr (Mz I.sz hb),λx c e z=>?_,λp hp z=>?_⟩
 ·obtain⟨v,q⟩:=I.cell x c e;exact QE (MA q.lt (by rw[z];exact hb)) (MF _)
 ·exact QE (MA (Pl (I.pin p hp).1) (by rw[z];exact hb)) (MF _)
structure Turn (P:Nf)(w:World)(K:P1)(tg:Expr)(J:It)(fp:Ku)(it:Addr)(tn:Nat->Heap->Prop):Prop where
 mem:it∈fp
 obj:∀i h,tn i h->∀b∈fp,∃o,h.get? b=some o/\∀v,o.data≠ .cell v
 keep:∀i h h',tn i h->(∀b∈fp,∀o,h.get? b=some o->h'.get? b=some o)->tn i h'
 item:∀(X:Cx),X.prog=P->X.w=w->X.K=K->X.calm=true->∀(i:Nat)(QN:Kq)(s:M9)(σ:St)(H:Hp)(E:Value->M9->Prop),Inv X QN σ H s->(∀b∈fp,jg X QN H b)->tn i s.heap->J.go i H->
  wpAny (model P w) X.A (OL (.ref it)) (λr s1=>∃u,r=some u/\
   wpAny (model P w) X.A (Og tg (.ref it) u) (λ_ s2=>∃x H',Inv X QN σ H' s2/\RelV x u/\J.U6 i H x H'/\tn (i+1) s2.heap/\∀b∈fp,H' b=none) E s1) E s
 done:∀(X:Cx),X.prog=P->X.w=w->X.K=K->X.calm=true->∀(i:Nat)(QN:Kq)(s:M9)(σ:St)(H:Hp)(E:Value->M9->Prop),Inv X QN σ H s->(∀b∈fp,jg X QN H b)->tn i s.heap->J.stop i H->
  wpAny (model P w) X.A (OL (.ref it)) (λr s1=>r=none/\Inv X QN σ H s1) E s
 self:∀(A:Nh)(i:Nat)(s:M9)(Q:Value->M9->Prop)(E:Value->M9->Prop),tn i s.heap->Q (.ref it) s->wpAny (model P w) A (pyIter (.ref it)) Q E s
abbrev TI:=St->Hp->(It->Hp->Prop)->Prop
def CU (X:Cx)(QN:Kq)(σ:St)(tg:Expr)(R:It->Hp->Prop)(itv:Value)(s2:M9):Prop:=
 ∃(it:Addr)(fp:Ku)(tn:Nat->Heap->Prop)(J:It)(H':Hp),itv= .ref it/\Inv X QN σ H' s2/\Turn X.prog X.w X.K tg J fp it tn/\tn 0 s2.heap/\(∀b∈fp,jg X QN H' b)/\R J H'
def PI (X:Cx)(tg iter:Expr)(wi:TI):Prop:=
 ∀(QN:Kq)(s:M9)(σ:St)(H:Hp)(R:It->Hp->Prop),Inv X QN σ H s->wi σ H R->
  wpAny (model X.prog X.w) X.A (eval iter X.env) (λv s1=>wpAny (model X.prog X.w) X.A (pyIter v) (CU X QN σ tg R) X.xe s1) X.xe s
theorem lr {n:String}{vs:Array Value}{Q:Unit->M9->Prop}(ho:s.heap.get? it=some o)(hc:o.cls= .type n)(hd:o.data= .fields vs)(hn:["enumerate","zip","dict_itemiterator","dict_reverseitemiterator","odict_iterator","itertools.zip_longest","itertools.pairwise"].contains n=false)(hQ:Q () s):wpAny M A (Og tg (.ref it) u) Q E s:=by
 unfold Og;cases tg<;>first
  | exact Nd hQ
  | (cases u<;>first
   | exact Nd hQ
   | (refine Na (wpAny_load ho ?_)
      rw[hc,hd];show wpAny M A (if(["enumerate","zip","dict_itemiterator","dict_reverseitemiterator","odict_iterator","itertools.zip_longest","itertools.pairwise"].contains n&&vs[0]?==some (OC _))=true then _ else _) Q E s;rw[QF (by intro h;rw[hn,Bool.false_and] at h;cases h)]
      exact Nd hQ))
def Iy (K:P1)(a:Addr):It:=
 ⟨λi H=>∃xs x,bt K H a xs/\xs[i]?=some x,λi H x H'=>H'=H/\∀xs,bt K H a xs->xs[i]?=some x,λi H=>∃xs,bt K H a xs/\xs.length<=i⟩
def Iz (K:P1)(a:Addr):It:=
 ⟨λi H=>∃xs x,dC K H a xs/\xs[i]?=some x,λi H x H'=>H'=H/\∀xs,dC K H a xs->xs[i]?=some x,λi H=>∃xs,dC K H a xs/\xs.length<=i⟩
def yn (lo:Int)(n:Nat):It:=⟨λi _=>i<n,λi H x H'=>H'=H/\x= .int (lo+i),λi _=>n<=i⟩
theorem xW (a it:Addr):Turn P w K tg (Iy K a) [it] it (λi h=>h.IsListIter it a i) where
 mem:=by simp
 obj:=λi h st b hb=>by
  have e:b=it:=by simpa using hb
  subst e;obtain⟨o,e,c,d⟩:=st;exact⟨o,e,λv z=>by rw[d] at z;cases z⟩
 keep:=λi h h' st k=>st.at λo e=>k it (by simp) o e
 item:=by
  intro X hP hw hK hc i QN s σ H E I hf st hg;subst hP hw hK;obtain⟨xs,x,hq,hx⟩:=hg;obtain⟨QO,rv,p,hz⟩:=I.list hq;obtain⟨u,hu,ru⟩:=rv.get hx;obtain⟨f0,f1,f2,f3,f4,f5⟩:=hf it (by simp);refine wpAny_pyNext_list_item st p.isList (x:=u) (by simpa using hu) λh' So sb=>?_;have I1:Inv X QN σ H {s with heap:=h'}:=I.turned (t':=s.toks) (λb o hb e=>(sb.2 b hb).trans e) f0 f1 f3 f4 f5;obtain⟨o,e,c,d⟩:=id So;exact⟨u,rfl,lr (s:={s with heap:=h'}) e c d (by decide) ⟨x,H,I1,ru,⟨rfl,λys hy=>by rw[I.jP hy hq];exact hx⟩,So,λb hb=>(hf b hb).1⟩⟩
 done:=by
  intro X hP hw hK hc i QN s σ H E I hf st hg;subst hP hw hK;obtain⟨xs,hq,hx⟩:=hg;obtain⟨QO,rv,p,hz⟩:=I.list hq;obtain⟨f0,f1,f2,f3,f4,f5⟩:=hf it (by simp);have hl:=rv.length;exact wpAny_pyNext_list_end (I.ok.hd hc) st p.isList (by simp;omega) λh' eb=>⟨rfl,I.turned (t':=s.toks) (λb o hb e=>eb b o hb e) f0 f1 f3 f4 f5⟩
 self:=λ_ _ _ _ _ st h=>wpAny_pyIter_listiter st h
theorem vD (a it:Addr):Turn P w K tg (Iz K a) [it] it (λi h=>h.IsTupleIter it a i) where
 mem:=by simp
 obj:=λi h st b hb=>by
  have e:b=it:=by simpa using hb
  subst e;obtain⟨o,e,c,d⟩:=st;exact⟨o,e,λv z=>by rw[d] at z;cases z⟩
 keep:=λi h h' st k=>st.at λo e=>k it (by simp) o e
 item:=by
  intro X hP hw hK hc i QN s σ H E I hf st hg;subst hP hw hK;obtain⟨xs,x,hq,hx⟩:=hg;obtain⟨QO,rv,p,hz⟩:=I.tuple hq;obtain⟨u,hu,ru⟩:=rv.get hx;obtain⟨f0,f1,f2,f3,f4,f5⟩:=hf it (by simp);refine wpAny_pyNext_tuple_item st (show s.heap.IsTuple a QO.toArray from p) (x:=u) (by simpa using hu) λh' So sb=>?_;have I1:Inv X QN σ H {s with heap:=h'}:=I.turned (t':=s.toks) (λb o hb e=>(sb.2 b hb).trans e) f0 f1 f3 f4 f5;obtain⟨o,e,c,d⟩:=id So;exact⟨u,rfl,lr (s:={s with heap:=h'}) e c d (by decide) ⟨x,H,I1,ru,⟨rfl,λys hy=>by rw[I.oX hy hq];exact hx⟩,So,λb hb=>(hf b hb).1⟩⟩
 done:=by
  intro X hP hw hK hc i QN s σ H E I hf st hg;subst hP hw hK;obtain⟨xs,hq,hx⟩:=hg;obtain⟨QO,rv,p,hz⟩:=I.tuple hq;obtain⟨f0,f1,f2,f3,f4,f5⟩:=hf it (by simp);have hl:=rv.length;exact wpAny_pyNext_tuple_end (I.ok.hd hc) st (show s.heap.IsTuple a QO.toArray from p) (by simp;omega) λh' eb=>⟨rfl,I.turned (t':=s.toks) (λb o hb e=>eb b o hb e) f0 f1 f3 f4 f5⟩
 self:=λ_ _ _ _ _ st h=>wpAny_pyIter_tupleiter st h
theorem vd (it:Addr)(lo:Int)(n:Nat):Turn P w K tg (yn lo n) [it] it (λi h=>OI h it (lo+(i:Nat)*1) ((n:Int)-(i:Nat)) 1) where
 mem:=by simp
 obj:=λi h st b hb=>by
  have e:b=it:=by simpa using hb
  subst e;exact⟨_,st,λv z=>by
   have z':Data.fields _=Data.cell v:=z;cases z'⟩
 keep:=λi h h' st k=>k it (by simp) _ st
 item:=by
  intro X hP hw hK hc i QN s σ H E I hf st hg;subst hP hw hK;obtain⟨f0,f1,f2,f3,f4,f5⟩:=hf it (by simp);have W:=Walks.range (prog:=X.prog) (w:=X.w) (I.ok.hd hc) it lo 1 n;refine W.item i s _ _ hg st λv h' tk hv So kk=>?_;obtain⟨t,rfl⟩:=hv;have I1:Inv X QN σ H {s with heap:=h',toks:=tk}:=I.turned (λb o hb e=>kk b o (by simpa using hb) e) f0 f1 f3 f4 f5;refine⟨_,rfl,lr (s:={s with heap:=h',toks:=tk}) (n:="range_iterator") So rfl rfl (by decide) ⟨.int (lo+i),H,I1,⟨t,?_⟩,⟨rfl,rfl⟩,So,λb hb=>(hf b hb).1⟩⟩;rw[Int.mul_one]
 done:=by
  intro X hP hw hK hc i QN s σ H E I hf st hg;subst hP hw hK;obtain⟨f0,f1,f2,f3,f4,f5⟩:=hf it (by simp);exact wpAny_pyNext_range_end (I.ok.hd hc) st (by have:n<=i:=hg;omega) λh' eb=>⟨rfl,I.turned (t':=s.toks) (λb o hb e=>eb b o hb e) f0 f1 f3 f4 f5⟩
 self:=λ_ _ _ _ _ st h=>wpAny_pyIter_rangeiter st h
variable {l:Expr}{tl:TE}{p:Pos}
def Hf (K:P1)(tl:TE):TI:=λσ H R=>tl σ H λx H1=>∃a,x= .ref a/\(∃xs,bt K H1 a xs)/\R (Iy K a) H1
def JV (K:P1)(tl:TE):TI:=λσ H R=>tl σ H λx H1=>∃a,x= .ref a/\(∃xs,dC K H1 a xs)/\R (Iz K a) H1
theorem A6 (hl:PE X l tl):PI X tg l (Hf X.K tl):=by
 intro QN s σ H R I h;refine aO (hl QN s σ H _ I h) λv s1 ⟨x,H1,I1,r1,q1⟩=>?_;obtain⟨a,e,⟨xs,hq⟩,q⟩:=q1;subst e;cases r1
 obtain⟨QO,rv,p,hz⟩:=I1.list hq;refine Ob p.isList ?_;refine⟨s1.heap.objs.size,[s1.heap.objs.size],_,_,H1,rfl,I1.kept (t':=s1.toks) λb o e=>Pj _ e,xW a _,⟨_,Pm _ rfl,rfl,rfl⟩,λb hb=>?_,q⟩;have e:b=s1.heap.objs.size:=by simpa using hb
 subst e;exact I1.gZ (My _) (I1.QQ.fresh (My _))
theorem ER (hl:PE X l tl):PI X tg l (JV X.K tl):=by
 intro QN s σ H R I h;refine aO (hl QN s σ H _ I h) λv s1 ⟨x,H1,I1,r1,q1⟩=>?_;obtain⟨a,e,⟨xs,hq⟩,q⟩:=q1;subst e;cases r1
 obtain⟨QO,rv,p,hz⟩:=I1.tuple hq;refine wpAny_pyIter_tuple (show s1.heap.IsTuple a QO.toArray from p) ?_;refine⟨s1.heap.objs.size,[s1.heap.objs.size],_,_,H1,rfl,I1.kept (t':=s1.toks) λb o e=>Pj _ e,vD a _,⟨_,Pm _ rfl,rfl,rfl⟩,λb hb=>?_,q⟩;have e:b=s1.heap.objs.size:=by simpa using hb
 subst e;exact I1.gZ (My _) (I1.QQ.fresh (My _))
theorem rn {R:It->Hp->Prop}{lo hi:Int}{t u v:Tok}{tk:Nat}(I:Inv X QN σ H s)(h1: -(2 ^ 62)<=lo)(h2:lo<2 ^ 62)(h3: -(2 ^ 62)<=hi)(h4:hi<2 ^ 62)(q:R (yn lo (hi-lo).toNat) H):wpAny (model X.prog X.w) X.A (pyIter (.ref s.heap.objs.size)) (CU X QN σ tg R) E {s with heap:=s.heap.push {cls:=.type "range",data:=.fields #[.int lo t,.int hi u,.int 1 v]},toks:=tk}:=by
 refine wpAny_pyIter_range (IsRange.new ..) (small_one h1 h2 h3 h4) ?_;have I1:Inv X QN σ H {s with heap:=s.heap.push {cls:=.type "range",data:=.fields #[.int lo t,.int hi u,.int 1 v]},toks:=tk}:=I.kept λb o e=>Pj _ e;refine⟨(s.heap.push {cls:=.type "range",data:=.fields #[.int lo t,.int hi u,.int 1 v]}).objs.size,[(s.heap.push {cls:=.type "range",data:=.fields #[.int lo t,.int hi u,.int 1 v]}).objs.size],_,_,H,rfl,
  I1.kept (t':=tk) λb o e=>Pj _ e,vd _ lo (hi-lo).toNat,?_,λb hb=>?_,q⟩
 ·have e1:lo+((0:Nat):Int)*1=lo:=by simp
  have e2:(((hi-lo).toNat:Nat):Int)-((0:Nat):Int)=Ot.Range.rangeSize lo hi 1:=by rw[rangeSize_one];split<;>omega
  show OI _ _ (lo+((0:Nat):Int)*1) ((((hi-lo).toNat:Nat):Int)-((0:Nat):Int)) 1;rw[e1,e2];exact Pm _ rfl
 ·have e:b=(s.heap.push {cls:=.type "range",data:=.fields #[.int lo t,.int hi u,.int 1 v]}).objs.size:=by simpa using hb
  subst e;exact I1.gZ (My _) (I1.QQ.fresh (My _))
def G2 (ta:TA):TI:=λσ H R=>ta σ H λvs H1=>∃j:Int,vs=[.int j]/\ -(2 ^ 62)<=j/\j<2 ^ 62/\R (yn 0 j.toNat) H1
def Hw (ta:TA):TI:=λσ H R=>ta σ H λvs H1=>∃i j:Int,vs=[.int i,.int j]/\(-(2 ^ 62)<=i/\i<2 ^ 62/\ -(2 ^ 62)<=j/\j<2 ^ 62)/\R (yn i (j-i).toNat) H1
theorem xr {a:Expr}{ta:TA}(hg:Gl X "range")(hm:X.mg "range"=none)(ha:PA X [a] ta)(hs:Nc [a] X.env=[(false,eval a X.env)]:=by rfl):PI X tg (.Call (.Name "range" p) [a] [] pos) (G2 ta):=by
 intro QN s σ H R I h;refine Call_ (fC I hg hm M5 (MY (aO (ha pos QN s σ H _ I h) λus s1 ⟨vs,H1,I1,r1,q1⟩=>?_) hs rfl));obtain⟨j,e,q1,q2,q⟩:=q1;subst e;cases r1 with
 | cons r rr=>
   cases rr
   obtain⟨t,rfl⟩:=r;exact call_range_1 (rn I1 (by omega) (by omega) q1 q2 (by simpa using q))
theorem wO {a b:Expr}{ta:TA}(hg:Gl X "range")(hm:X.mg "range"=none)(ha:PA X [a,b] ta)(hs:Nc [a,b] X.env=[(false,eval a X.env),(false,eval b X.env)]:=by rfl)(Rp:Nc [b] X.env=[(false,eval b X.env)]:=by rfl):
 PI X tg (.Call (.Name "range" p) [a,b] [] pos) (Hw ta):=by
 intro QN s σ H R I h;refine Call_ (fC I hg hm M5 (MY (aO (ha pos QN s σ H _ I h) λus s1 ⟨vs,H1,I1,r1,q1⟩=>?_) (by rw[hs,Rp]) (by rw[Rp];rfl)));obtain⟨i,j,e,⟨q1,q2,q3,q4⟩,q⟩:=q1;subst e;cases r1 with
 | cons r rr=>
   cases rr with
   | cons r' rr=>
     cases rr
     obtain⟨t,rfl⟩:=r;obtain⟨t',rfl⟩:=r';exact call_range_2 (rn I1 q1 q2 q3 q4 q)
def Jw (wi:TI)(g:TG)(tb:TS):TS:=λD σ H=>wi σ H λJ H1=>∃W:Nat->Nat->St->Hp->Prop,(∃m,W 0 m σ H1)/\∀i m σ H,W i m σ H->
 (J.stop i H/\D.nx σ H)∨(J.go i H/\∃N:St->Hp->Prop,(∀σ' H',N σ' H'->∃m',m'<m/\W (i+1) m' σ' H')/\∀x H',J.U6 i H x H'->g x σ H' λσ2 H2=>tb {D with nx:=N,ct:=N,bk:=D.nx} σ2 H2)
def jy (fp:Ku)(h:Heap):Kq:=fp.filterMap λb=>(h.get? b).map λo=>(b,o)
theorem ia {fp:Ku}(hb:b∈fp)(e:h.get? b=some o):(b,o)∈jy fp h:=Mh.mpr ⟨b,hb,by rw[e];rfl⟩
theorem yg {fp:Ku}{p:Addr×Obj}(hp:p∈jy fp h):p.1∈fp/\h.get? p.1=some p.2:=by
 obtain⟨b,hb,e⟩:=Mh.mp hp;cases q:h.get? b with
 | none=>rw[q] at e;cases e
 | some o=>
   rw[q] at e;have e':(b,o)=p:=Option.some.inj e;subst e';exact⟨hb,q⟩
theorem Inv.pinned {fp:Ku}(I:Inv X QN σ H s)(hf:∀b∈fp,jg X QN H b)(ho:∀b∈fp,∃o,s.heap.get? b=some o/\∀v,o.data≠ .cell v):Inv X (QN++jy fp s.heap) σ H s:=
 I.iz λp hp=>(Lf.mp hp).elim (λz=>I.pin p (La _ z)) λz=>by
   obtain⟨hb,e⟩:=yg z;obtain⟨f0,f1,f2,_⟩:=hf p.1 hb;obtain⟨o,e',d⟩:=ho p.1 hb;rw[e] at e';cases e'
   exact⟨e,f0,f1,f2,d⟩
theorem Inv.iI {pl:Kq}(I:Inv X (QN++pl) σ H s):Inv X QN σ H s:=I.iz λp hp=>I.pin p (La _ (Lk _ hp))
theorem DN {iter:Expr}{wi:TI}{g:TG}(hp:OG (model X.prog X.w) X.A X.env X.xe)(hc:X.calm=true)(hi:PI X tg iter wi)(hg:PG X tg g)(hb:iK X body tb)(hs:∀x,NF iter X.env x=pure x:=by intro _;rfl):PS X (.For tg iter body [] pos) (Jw wi g tb):=by
 intro QN s σ H D I h;refine wpAny_For (aO (hi QN s σ H _ I h) λv s1 h1=>aO h1 λitv s2 h2=>?_) hs;obtain⟨it,fp,tn,J,H2,e,I2,T,TL,f2,W,⟨m0,w0⟩,turn⟩:=h2;subst e
 -- what stays true of U9 Uu objects through U9 loop
 have Uo:∀{H':Hp},(∀b∈fp,H' b=none)->∀b∈fp,jg X QN H' b:=λhn b hb=>⟨hn b hb,(f2 b hb).2⟩;refine codeAny_forLoop_any (λn s'=>∃i σ' H',Inv X QN σ' H' s'/\tn i s'.heap/\(∀b∈fp,H' b=none)/\W i n σ' H') ?_ m0 ⟨0,σ,H2,I2,TL,λb hb=>(f2 b hb).1,w0⟩;rintro n s3 ⟨i,σ3,H3,I3,st3,fr3,w3⟩;rcases turn i n σ3 H3 w3 with⟨stop,qn⟩ | ⟨go,N,hN,step⟩
 ·refine NN hp (aO (T.done X rfl rfl rfl hc i QN s3 σ3 H3 X.xe I3 (Uo fr3) st3 stop) λr s4 ⟨hr,I4⟩=>?_);subst hr;exact NU ⟨σ3,H3,I4,qn⟩
 ·refine NN hp (aO (T.item X rfl rfl rfl hc i QN s3 σ3 H3 X.xe I3 (Uo fr3) st3 go) λr s4 ⟨u,hr,h4⟩=>?_);subst hr;refine NN hp (aO h4 λ_ s5 ⟨x,H5,I5,r5,y5,UO,fr5⟩=>?_);have I5':=I5.pinned (Uo fr5) (T.obj _ _ UO);refine NN hp (aO (hg _ s5 σ3 H5 x u _ I5' r5 (step x H5 y5)) λ_ s6 ⟨σ6,H6,I6,q6⟩=>?_);refine NN hp (aO (hb _ s6 σ6 H6 _ I6 q6) λf s7 q7=>?_);have again:∀{σ7:St}{H7:Hp},Inv X (QN++jy fp s5.heap) σ7 H7 s7->N σ7 H7->∃m,m<n/\∃i σ' H',Inv X QN σ' H' s7/\tn i s7.heap/\(∀b∈fp,H' b=none)/\W i m σ' H':=λ{σ7 H7} I7 n7=>by
   obtain⟨m',hm,w7⟩:=hN σ7 H7 n7;refine⟨m',hm,i+1,σ7,H7,I7.iI,T.keep _ _ _ UO λb hb o e=>(I7.pin (b,o) (La _ (La _ (ia hb e)))).1,λb hb=>?_,w7⟩;obtain⟨o,e,d⟩:=T.obj _ _ UO b hb;exact(I7.pin (b,o) (La _ (La _ (ia hb e)))).2.1
  cases f with
  | next=>obtain⟨σ7,H7,I7,n7⟩:=q7;exact again I7 n7
  | cont=>obtain⟨σ7,H7,I7,n7⟩:=q7;exact again I7 n7
  | brk=>obtain⟨σ7,H7,I7,q7⟩:=q7;exact⟨σ7,H7,I7.iI,q7⟩
  | ret v=>obtain⟨x7,σ7,H7,I7,r7,q7⟩:=q7;exact⟨x7,σ7,H7,I7.iI,r7,q7⟩
abbrev R2:=V->V->Hp->VK->Prop
def dc (X:Cx)(f:Value->Value->Sem Value)(r:R2):Prop:=
 ∀(QN:Kq)(s:M9)(σ:St)(H:Hp)(x y:V)(v u:Value)(Q:VK),Inv X QN σ H s->RelV x v->RelV y u->r x y H Q->
  wpAny (model X.prog X.w) X.A (f v u) (EP X QN σ Q) X.xe s
def Eh (X:Cx)(f:Value->Sem Value)(r:V->Hp->VK->Prop):Prop:=
 ∀(QN:Kq)(s:M9)(σ:St)(H:Hp)(x:V)(v:Value)(Q:VK),Inv X QN σ H s->RelV x v->r x H Q->
  wpAny (model X.prog X.w) X.A (f v) (EP X QN σ Q) X.xe s
def dy (X:Cx)(f:Value)(r:List V->Hp->VK->Prop):Prop:=
 ∀(QN:Kq)(s:M9)(σ:St)(H:Hp)(xs:List V)(us:Kv)(Q:VK),Inv X QN σ H s->Vals xs us->r xs H Q->
  wpAny (model X.prog X.w) X.A (call f us) (EP X QN σ Q) X.xe s
def J8 (X:Cx)(r:V->Hp->(Bool->Hp->Prop)->Prop):Prop:=
 ∀(QN:Kq)(s:M9)(σ:St)(H:Hp)(x:V)(v:Value)(Q:Bool->Hp->Prop),Inv X QN σ H s->RelV x v->r x H Q->
  wpAny (model X.prog X.w) X.A (truthy v) (TP X QN σ Q) X.xe s
def Az (r:R2)(ta tb:TE):TE:=λσ H Q=>ta σ H λx H1=>tb σ H1 λy H2=>r x y H2 Q
def tUn (r:V->Hp->VK->Prop)(ta:TE):TE:=λσ H Q=>ta σ H λx H1=>r x H1 Q
def rI (C:Int->Int->Prop)(g:Int->Int->V):R2:=λx y H Q=>∃i j,x= .int i/\y= .int j/\C i j/\Q (g i j) H
def pM (g:Int->Int->V):R2:=λx y H Q=>∃i j,x= .int i/\y= .int j/\Q (g i j) H
def rU (g:Int->V):V->Hp->VK->Prop:=λx H Q=>∃i,x= .int i/\Q (g i) H
variable {g:Int->Int->Int}{r:R2}
section
variable {a b:Expr}{tb tc:TE}
variable {f:Value->Value->Sem Value}
theorem y8 (ha:PE X a ta)(hb:PE X b tb){R:V->V->Hp->Prop}(I:Inv X QN σ H s)(h:ta σ H λx H1=>tb σ H1 λy H2=>R x y H2)(hf:∀v u s2 x y H2,Inv X QN σ H2 s2->RelV x v->RelV y u->R x y H2->wpAny (model X.prog X.w) X.A (f v u) Q X.xe s2):
 wpAny (model X.prog X.w) X.A (eval a X.env) (λv s₁=>wpAny (model X.prog X.w) X.A (eval b X.env) (λu s₂=>wpAny (model X.prog X.w) X.A (f v u) Q X.xe s₂) X.xe s₁) X.xe s:=by
 refine aO (ha QN s σ H _ I h) λv s1 ⟨x,H1,I1,r1,q1⟩=>?_;refine aO (hb QN s1 σ H1 _ I1 q1) λu s2 ⟨y,H2,I2,r2,q2⟩=>?_;exact hf v u s2 x y H2 I2 r1 r2 q2
theorem AH (ho:dc X (NS op) r)(ha:PE X a ta)(hb:PE X b tb):PE X (.BinOp a op b pos) (Az r ta tb):=by
 intro QN s σ H Q I h;exact wpAny_BinOp (y8 ha hb I h λv u s2 x y H2 I2 rx ry q=>ho QN s2 σ H2 x y v u Q I2 rx ry q)
theorem GX {op:UnaryOp}{r:V->Hp->VK->Prop}(ho:Eh X (unaryOp op) r)(ha:PE X a ta):PE X (.UnaryOp op a pos) (tUn r ta):=by
 intro QN s σ H Q I h;exact UnaryOp_ (aO (ha QN s σ H _ I h) λv s1 ⟨x,H1,I1,r1,q1⟩=>ho QN s1 σ H1 x v Q I1 r1 q1)
theorem ui {C:Int->Int->Prop}(rule:∀(i j:Int)(t u:Tok)(s:M9)(Q:Value->M9->Prop)(E:Value->M9->Prop),C i j->Q (.int (g i j) s.toks) {s with toks:=s.toks+1}->wpAny (model X.prog X.w) X.A (f (.int i t) (.int j u)) Q E s):
 dc X f (rI C λi j=>.int (g i j)):=by
 intro QN s σ H x y v u Q I rx ry h;obtain⟨i,j,rfl,rfl,hc,q⟩:=h;obtain⟨t,rfl⟩:=rx;obtain⟨t',rfl⟩:=ry;exact rule i j t t' s _ _ hc ⟨.int (g i j),H,I.tok _,⟨_,rfl⟩,q⟩
theorem F5 
 (rule:∀(i j:Int)(t u:Tok)(s:M9)(Q:Value->M9->Prop)(E:Value->M9->Prop),Q (.int (g i j) s.toks) {s with toks:=s.toks+1}->wpAny (model X.prog X.w) X.A (f (.int i t) (.int j u)) Q E s):
 dc X f (pM λi j=>.int (g i j)):=by
 intro QN s σ H x y v u Q I rx ry h;obtain⟨i,j,rfl,rfl,q⟩:=h;obtain⟨t,rfl⟩:=rx;obtain⟨t',rfl⟩:=ry;exact rule i j t t' s _ _ ⟨.int (g i j),H,I.tok _,⟨_,rfl⟩,q⟩
theorem vg {g:Int->Int->Bool}(rule:∀(i j:Int)(t u:Tok)(s:M9)(Q:Value->M9->Prop)(E:Value->M9->Prop),Q (.bool (g i j)) s->wpAny (model X.prog X.w) X.A (f (.int i t) (.int j u)) Q E s):
 dc X f (pM λi j=>.bl (g i j)):=by
 intro QN s σ H x y v u Q I rx ry h;obtain⟨i,j,rfl,rfl,q⟩:=h;obtain⟨t,rfl⟩:=rx;obtain⟨t',rfl⟩:=ry;exact rule i j t t' s _ _ ⟨.bl (g i j),H,I,rfl,q⟩
def Ff (i j:Int):Prop:=0<j/\j<1073741824
def DS (i j:Int):Prop:=0<=j/\j<=1000000/\i.natAbs<2 ^ 64
def vC (i j:Int):Prop:=(-(2 ^ 64)<i/\i<2 ^ 64)∨(-(2 ^ 64)<j/\j<2 ^ 64)
theorem vC.ok {i j:Int}(h:vC i j):OP i j:=by
 rcases h with⟨h1,h2⟩ | ⟨h1,h2⟩
 ·exact .of_left (Ow h1 h2)
 ·exact .of_right (Ow h1 h2)
theorem DE:dc X (NS .Add) (pM λi j=>.int (i+j)):=F5 λ_ _ _ _ _ _ _ q=>add_int q
theorem Fl:dc X (NS .Sub) (pM λi j=>.int (i-j)):=F5 λ_ _ _ _ _ _ _ q=>sub_int q
theorem EE:dc X (NS .Mult) (rI vC λi j=>.int (i*j)):=ui λ_ _ _ _ _ _ _ hc q=>mul_int q hc.ok
theorem Bn:dc X (NS .FloorDiv) (rI Ff λi j=>.int (i/j)):=ui λi j _ _ _ _ _ hc q=>by
 have h1:(0:Int)<j:=hc.1;have h2:j<1073741824:=hc.2;exact floordiv_int (by omega) (by rw[Int.fdiv_eq_ediv_of_nonneg i (by omega)];exact q) (.inl (PyProof.noPylong_small (by omega)))
theorem DZ:dc X (NS .Mod) (rI (λ_ j=>0<j) λi j=>.int (i%j)):=ui λi j _ _ _ _ _ hc q=>by
 have h1:(0:Int)<j:=hc;exact mod_int' (by omega) (by rw[Int.fmod_eq_emod_of_nonneg i (by omega)];exact q)
theorem El:dc X (NS .Pow) (rI DS λi j=>.int (i ^ j.toNat)):=ui λ_ _ _ _ _ _ _ hc q=>pow_int_small hc.1 hc.2.1 hc.2.2 q
theorem unI {f:Value->Sem Value}{g:Int->Int}(rule:∀(i:Int)(t:Tok)(s:M9)(Q:Value->M9->Prop)(E:Value->M9->Prop),Q (.int (g i) s.toks) {s with toks:=s.toks+1}->wpAny (model X.prog X.w) X.A (f (.int i t)) Q E s):
 Eh X f (rU λi=>.int (g i)):=by
 intro QN s σ H x v Q I rx h;obtain⟨i,rfl,q⟩:=h;obtain⟨t,rfl⟩:=rx;exact rule i t s _ _ ⟨.int (g i),H,I.tok _,⟨_,rfl⟩,q⟩
theorem DO:Eh X (unaryOp .USub) (rU λi=>.int (-i)):=unI λ_ _ _ _ _ q=>neg_int q
end
def C5:V->V->Bool
 | .QY,.QY=>true | .QY,.int _=>true | .int _,.QY=>true | .QY,.bl _=>true | .bl _,.QY=>true | .QY,.str _=>true | .str _,.QY=>true
 | .int _,.int _=>true | .bl _,.bl _=>true | .str _,.str _=>true | .SS _,.SS _=>true
 | .int _,.str _=>true | .str _,.int _=>true | .bl _,.str _=>true | .str _,.bl _=>true
 | _,_=>false
def rEq:R2:=λx y H Q=>C5 x y=true/\Q (.bl (decide (x=y))) H
def rNe:R2:=λx y H Q=>C5 x y=true/\Q (.bl (!decide (x=y))) H
theorem kU {i j:Int}:decide (V.int i=V.int j)=(i==j):=by
 rw[KG];simp
theorem xZ {i j:Bool}:decide (V.bl i=V.bl j)=(i==j):=by
 rw[KG];simp
theorem jo {i j:Str}:decide (V.str i=V.str j)=(i==j):=by
 rw[KG];simp
theorem tO {i j:Array UInt8}:decide (V.SS i=V.SS j)=(i.toList==j.toList):=by
 rw[KG];cases i
 cases j
 simp
variable {Sx:CmpOp}{r':R2}{us:Kv}
section
variable {a b:Expr}{tb tc:TE}
variable {op:CmpOp}
theorem bB {Q:VK}{k k':Bool}(I:Inv X QN σ H s)(q:Q (.bl k) H)(e:k=k'):EP X QN σ Q (.bool k') s:=by
 subst e;exact⟨.bl k,H,I,rfl,q⟩
theorem An:dc X (Nn .Eq) rEq:=by
 intro QN s σ H x y v u Q I rx ry h;obtain⟨hs,q⟩:=h;cases x with
 | QY=>
   cases rx
   cases y with
   | QY=>cases ry;exact PySem.EqNone.eq_none_none (bB I q (by simp))
   | bl j=>cases ry;exact PySem.EqNone.eq_none_bool (bB I q (by simp))
   | int j=>obtain⟨t',rfl⟩:=ry;exact PySem.EqNone.eq_none_int (bB I q (by simp))
   | str j=>obtain⟨t',rfl⟩:=ry;exact PySem.EqNone.eq_none_str (bB I q (by simp))
   | _=>exact QE (show false=true from hs) KC
 | bl i=>
   cases rx
   cases y with
   | QY=>cases ry;exact PySem.EqNone.eq_bool_none (bB I q (by simp))
   | bl j=>cases ry;exact eq_bool (bB I q xZ)
   | str j=>obtain⟨t',rfl⟩:=ry;exact PySem.EqMixed.eq_bool_str (bB I q (by simp))
   | _=>exact QE (show false=true from hs) KC
 | int i=>
   obtain⟨t,rfl⟩:=rx;cases y with
   | QY=>cases ry;exact PySem.EqNone.eq_int_none (bB I q (by simp))
   | int j=>obtain⟨t',rfl⟩:=ry;exact eq_int (bB I q kU)
   | str j=>obtain⟨t',rfl⟩:=ry;exact PySem.EqMixed.eq_int_str (bB I q (by simp))
   | _=>exact QE (show false=true from hs) KC
 | str i=>
   obtain⟨t,rfl⟩:=rx;cases y with
   | QY=>cases ry;exact PySem.EqNone.eq_str_none (bB I q (by simp))
   | bl j=>cases ry;exact PySem.EqMixed.eq_str_bool (bB I q (by simp))
   | int j=>obtain⟨t',rfl⟩:=ry;exact PySem.EqMixed.eq_str_int (bB I q (by simp))
   | str j=>obtain⟨t',rfl⟩:=ry;exact eq_str (bB I q jo)
   | _=>exact QE (show false=true from hs) KC
 | SS i=>
   obtain⟨t,rfl⟩:=rx;cases y with
   | SS j=>obtain⟨t',rfl⟩:=ry;exact PySem.W.eq_bytes (bB I q tO)
   | _=>exact QE (show false=true from hs) KC
 | _=>cases y<;>exact QE (show false=true from hs) KC
theorem Am:dc X (Nn .NotEq) rNe:=by
 intro QN s σ H x y v u Q I rx ry h;obtain⟨hs,q⟩:=h;cases x with
 | QY=>
   cases rx
   cases y with
   | QY=>cases ry;exact PySem.EqNone.ne_none_none (bB I q (by simp))
   | bl j=>cases ry;exact PySem.EqNone.ne_none_bool (bB I q (by simp))
   | int j=>obtain⟨t',rfl⟩:=ry;exact PySem.EqNone.ne_none_int (bB I q (by simp))
   | str j=>obtain⟨t',rfl⟩:=ry;exact PySem.EqNone.ne_none_str (bB I q (by simp))
   | _=>exact QE (show false=true from hs) KC
 | bl i=>
   cases rx
   cases y with
   | QY=>cases ry;exact PySem.EqNone.ne_bool_none (bB I q (by simp))
   | bl j=>cases ry;exact ne_bool (bB I q (congrArg not xZ))
   | str j=>obtain⟨t',rfl⟩:=ry;exact PySem.EqMixed.ne_bool_str (bB I q (by simp))
   | _=>exact QE (show false=true from hs) KC
 | int i=>
   obtain⟨t,rfl⟩:=rx;cases y with
   | QY=>cases ry;exact PySem.EqNone.ne_int_none (bB I q (by simp))
   | int j=>obtain⟨t',rfl⟩:=ry;exact ne_int (bB I q (congrArg not kU))
   | str j=>obtain⟨t',rfl⟩:=ry;exact PySem.EqMixed.ne_int_str (bB I q (by simp))
   | _=>exact QE (show false=true from hs) KC
 | str i=>
   obtain⟨t,rfl⟩:=rx;cases y with
   | QY=>cases ry;exact PySem.EqNone.ne_str_none (bB I q (by simp))
   | bl j=>cases ry;exact PySem.EqMixed.ne_str_bool (bB I q (by simp))
   | int j=>obtain⟨t',rfl⟩:=ry;exact PySem.EqMixed.ne_str_int (bB I q (by simp))
   | str j=>obtain⟨t',rfl⟩:=ry;exact ne_str (bB I q (congrArg not jo))
   | _=>exact QE (show false=true from hs) KC
 | SS i=>
   obtain⟨t,rfl⟩:=rx;cases y with
   | SS j=>obtain⟨t',rfl⟩:=ry;exact PySem.W.ne_bytes (bB I q (congrArg not tO))
   | _=>exact QE (show false=true from hs) KC
 | _=>cases y<;>exact QE (show false=true from hs) KC
theorem HR:dc X (Nn .Lt) (pM λi j=>.bl (decide (i<j))):=vg λ_ _ _ _ _ _ _ q=>lt_int q
theorem Gw:dc X (Nn .LtE) (pM λi j=>.bl (decide (i<=j))):=vg λ_ _ _ _ _ _ _ q=>le_int q
theorem Gs:dc X (Nn .Gt) (pM λi j=>.bl (decide (j<i))):=vg λ_ _ _ _ _ _ _ q=>gt_int q
theorem Hb:dc X (Nn .GtE) (pM λi j=>.bl (decide (j<=i))):=vg λ_ _ _ _ _ _ _ q=>ge_int q
theorem qH:dc X (Nn .Is) (λx y H Q=>y= .QY/\Q (.bl (decide (x= .QY))) H):=by
 intro QN s σ H x y v u Q I rx ry h;obtain⟨rfl,q⟩:=h;cases ry
 refine is_none_gen (bB I q ?_);cases x<;>first
  | (cases rx;rfl)
  | (obtain⟨t,rfl⟩:=rx;rfl)
theorem rO:dc X (Nn .NotIn) (λx y H Q=>∃i j,x= .str i/\y= .str j/\Q (.bl (!(!(Ot.Str.occurrences j i 0 j.length 1).isEmpty))) H):=by
 intro QN s σ H x y v u Q I rx ry h;obtain⟨i,j,rfl,rfl,q⟩:=h;obtain⟨t,rfl⟩:=rx;obtain⟨t',rfl⟩:=ry;exact notIn_str (bB I q rfl)
theorem rq (b:Expr)(h:op≠ .In:=by decide)(h2:op≠ .NotIn:=by decide):NO op b=false:=by
 have e1:(op==CmpOp.In)=false:=by cases op<;>first | rfl | exact QE rfl h
 have e2:(op==CmpOp.NotIn)=false:=by cases op<;>first | rfl | exact QE rfl h2
 cases b<;>simp[NO,e1,e2]
theorem Bu (ho:dc X (Nn op) r)(ha:PE X a ta)(hb:PE X b tb)(hm:NO op b=false):PE X (.Compare a [op] [b] pos) (Az r ta tb):=by
 intro QN s σ H Q I h;exact wpAny_Compare1 (y8 ha hb I h λv u s2 x y H2 I2 rx ry q=>ho QN s2 σ H2 x y v u Q I2 rx ry q) hm
def z8 (t:TE):TT:=λσ H Q=>t σ H λx H'=>∃k,x= .bl k/\Q k H'
theorem BR (ho:dc X (Nn op) r)(ha:PE X a ta)(hb:PE X b tb)(hm:NO op b=false):PT X (.Compare a [op] [b] pos) (z8 (Az r ta tb)):=by
 intro QN s σ H Q I h;refine wpAny_isTrue_Compare1 (aO (ha QN s σ H _ I h) λv s1 ⟨x,H1,I1,r1,q1⟩=>aO (hb QN s1 σ H1 _ I1 q1) λu s2 ⟨y,H2,I2,r2,q2⟩=>
  aO (ho QN s2 σ H2 x y v u _ I2 r1 r2 q2) λc s3 ⟨z,H3,I3,r3,k,e,q3⟩=>?_) hm
 subst e;cases r3
 exact Np ⟨H3,I3,q3⟩
def xK (r r':R2)(ta tb tc:TE):TE:=λσ H Q=>ta σ H λx H1=>tb σ H1 λy H2=>r x y H2 λz H3=>∃k,z= .bl k/\
 (if k=true then tc σ H3 λw' H4=>r' y w' H4 Q else Q (.bl false) H3)
theorem zR (ho:dc X (Nn op) r)(Sa:dc X (Nn Sx) r')(ha:PE X a ta)(hb:PE X b tb)(hc:PE X c tc)(hm:lastMarks [op,Sx] [b,c]=false:=by with_unfolding_all rfl):PE X (.Compare a [op,Sx] [b,c] pos) (xK r r' ta tb tc):=by
 intro QN s σ H Q I h;refine Compare_chain (aO (ha QN s σ H _ I h) λv s1 ⟨x,H1,I1,r1,q1⟩=>chain_link (aO (hb QN s1 σ H1 _ I1 q1) λu s2 ⟨y,H2,I2,r2,q2⟩=>
  aO (ho QN s2 σ H2 x y v u _ I2 r1 r2 q2) λd s3 ⟨z,H3,I3,r3,k,e,q3⟩=>?_)) hm
 subst e;cases r3
 refine Np ?_;cases k with
 | false=>exact ite_ff ⟨.bl false,H3,I3,rfl,q3⟩
 | true=>exact ite_tt (chain_last (aO (hc QN s3 σ H3 _ I3 q3) λw' s4 ⟨z',H4,I4,r4,q4⟩=>Sa QN s4 σ H4 y z' u w' Q I4 r2 r4 q4))
theorem zM (ho:dc X (Nn op) r)(Sa:dc X (Nn Sx) r')(ha:PE X a ta)(hb:PE X b tb)(hc:PE X c tc)(hm:lastMarks [op,Sx] [b,c]=false:=by with_unfolding_all rfl):PT X (.Compare a [op,Sx] [b,c] pos) (z8 (xK r r' ta tb tc)):=by
 intro QN s σ H Q I h;refine isTrue_chain (aO (ha QN s σ H _ I h) λv s1 ⟨x,H1,I1,r1,q1⟩=>test_link (aO (hb QN s1 σ H1 _ I1 q1) λu s2 ⟨y,H2,I2,r2,q2⟩=>
  aO (ho QN s2 σ H2 x y v u _ I2 r1 r2 q2) λd s3 ⟨z,H3,I3,r3,k,e,q3⟩=>?_)) hm
 subst e;cases r3
 refine Np ?_;cases k with
 | false=>
   obtain⟨k',e',q'⟩:=q3;cases e'
   exact ite_ff ⟨H3,I3,q'⟩
 | true=>
   refine ite_tt (test_last (aO (hc QN s3 σ H3 _ I3 q3) λw' s4 ⟨z',H4,I4,r4,q4⟩=>aO (Sa QN s4 σ H4 y z' u w' _ I4 r2 r4 q4) λd' s5 ⟨z2,H5,I5,r5,k2,e2,q5⟩=>?_));subst e2;cases r5
   exact Np ⟨H5,I5,q5⟩
def FP (K:P1)(x:V)(H:Hp)(k:Bool):Prop:=
 match x with
 | .QY=>k=false
 | .bl b=>k=b
 | .int i=>k=(i != 0)
 | .str y=>y.length<=Nb/\k=((y.length:Int) != 0)
 | .SS y=>y.size<=Nb/\k=((y.size:Int) != 0)
 | .ref p=>(∃xs,bt K H p xs/\k= !xs.isEmpty)∨(∃xs,dC K H p xs/\k= !xs.isEmpty)∨∃kvs,H p=some (.dK kvs)/\k= !kvs.isEmpty
 | _=>False
theorem vR {κ:Type}{kvs:List (κ×V)}{vs:List (κ×Value)}(r:KV kvs vs):(!vs.isEmpty)= !kvs.isEmpty:=by
 cases r<;>rfl
theorem nG {QO:Kv}(r:Vals xs QO):(!QO.toArray.isEmpty)= !xs.isEmpty:=by
 cases r<;>simp
theorem iC:(Nb:Nat)<2 ^ 63:=by rw[Oc];decide
theorem EM:J8 X (λx H Q=>∃k,FP X.K x H k/\Q k H):=by
 intro QN s σ H x v Q I rx h;obtain⟨k,e,q⟩:=h;have hl:=iC;have hs:Nb=16777216:=Oc;cases x with
 | QY=>
   cases rx
   have e':k=false:=e;subst e';exact truthy_none ⟨H,I,q⟩
 | bl b=>
   cases rx
   have e':k=b:=e;subst e';exact Np ⟨H,I,q⟩
 | int i=>
   obtain⟨t,rfl⟩:=rx;have e':k=(i != 0):=e;subst e';exact PySem.P.truthy_int ⟨H,I,q⟩
 | str y=>
   obtain⟨t,rfl⟩:=rx;obtain⟨hy,e'⟩:y.length<=Nb/\k=((y.length:Int) != 0):=e;subst e';exact PySem.P.truthy_str (by omega) ⟨H,I.tok _,q⟩
 | SS y=>
   obtain⟨t,rfl⟩:=rx;obtain⟨hy,e'⟩:y.size<=Nb/\k=((y.size:Int) != 0):=e;subst e';exact PySem.W.truthy_bytes (by omega) ⟨H,I.tok _,q⟩
 | ref p=>
   cases rx
   have e':(∃xs,bt X.K H p xs/\k= !xs.isEmpty)∨(∃xs,dC X.K H p xs/\k= !xs.isEmpty)∨∃kvs,H p=some (.dK kvs)/\k= !kvs.isEmpty:=e;rcases e' with⟨xs,hx,e'⟩ | ⟨xs,hx,e'⟩ | ⟨kvs,hx,e'⟩
   ·subst e';obtain⟨QO,r,pl,hz⟩:=I.list hx;have hlen:=r.length;exact wpAny_truthy_list pl.isList (by simp only[K6];omega) ⟨H,I.tok _,by rw[nG r];exact q⟩
   ·subst e';obtain⟨QO,r,pl,hz⟩:=I.tuple hx;have hlen:=r.length;exact truthy_tuple pl (by simp only[K6];omega) ⟨H,I.tok _,by rw[nG r];exact q⟩
   ·subst e';obtain⟨hz,hS,vs,r,m⟩:kvs.length<=Nb/\(p==Nw)=false/\∃vs,KV kvs vs/\s.heap.DictOf (bP X.prog X.w) p vs:=I.QQ p _ hx;have hlen:kvs.length=vs.length:=Paired.length r;exact wpAny_truthy_dict hS m (by omega) ⟨H,I.tok _,by rw[vR r];exact q⟩
 | _=>exact(show False from e).elim
theorem qK (ha:PE X a ta)(he:∀whole,N6 a X.env whole=(do let v ← whole;Om a.pos;NQ [v] (truthy v))):
 PT X a (λσ H Q=>ta σ H λx H'=>∃k,FP X.K x H' k/\Q k H'):=by
 intro QN s σ H Q I h;exact isTrue_plain (aO (ha QN s σ H _ I h) λv s1 ⟨x,H1,I1,r1,q1⟩=>EM QN s1 σ H1 x v Q I1 r1 q1) (he _)
theorem vJ:dc X (NS .Add) (λx y H Q=>∃i j,x= .str i/\y= .str j/\i.length+j.length<=Nb/\Q (.str (i++j)) H):=by
 intro QN s σ H x y v u Q I rx ry h;obtain⟨i,j,rfl,rfl,hz,q⟩:=h;obtain⟨t,rfl⟩:=rx;obtain⟨t',rfl⟩:=ry;exact add_str (λt' tk=>⟨.str (i++j),H,I.tok _,⟨_,rfl⟩,q⟩) hz
theorem vals1 {x:V}(r:Vals [x] us):∃u,us=[u]/\RelV x u:=by
 cases r with
 | cons r1 r2=>cases r2;exact⟨_,rfl,r1⟩
theorem vals2 {x y:V}(r:Vals [x,y] us):∃u w',us=[u,w']/\RelV x u/\RelV y w':=by
 cases r with
 | cons r1 r2=>
   cases r2 with
   | cons r3 r4=>cases r4;exact⟨_,_,rfl,r1,r3⟩
theorem yy (hc:X.calm=true):dy X (.builtin "min") (λxs H Q=>∃i j,xs=[.int i,.int j]/\Q (.int (if j<i then j else i)) H):=by
 intro QN s σ H xs us Q I r h;obtain⟨i,j,rfl,q⟩:=h;obtain⟨u,w',rfl,⟨t,rfl⟩,⟨t',rfl⟩⟩:=vals2 r;refine min_two_ints (I.ok.hd hc) λh' tk k=>⟨_,H,I.kept k,?_,q⟩;by_cases hj:j<i
 ·rw[QG hj,QG hj];exact⟨_,rfl⟩
 ·rw[QF hj,QF hj];exact⟨_,rfl⟩
theorem xf:dy X (.type "int") (λxs H Q=>(∃i,xs=[.int i]/\Q (.int i) H)∨∃k,xs=[.bl k]/\Q (.int (if k then 1 else 0)) H):=by
 intro QN s σ H xs us Q I r h;rcases h with⟨i,rfl,q⟩ | ⟨k,rfl,q⟩
 ·obtain⟨u,rfl,t,rfl⟩:=vals1 r;exact call_int_int ⟨.int i,H,I,⟨_,rfl⟩,q⟩
 ·obtain⟨u,rfl,r1⟩:=vals1 r;cases r1
  exact call_int_bool ⟨.int (if k then 1 else 0),H,I.tok _,⟨_,rfl⟩,q⟩
end
structure oq (h:Heap)(x dx C:Addr)(mA:Kp):Prop where
 obj:h.get? x=some (Qi C dx)
 ns:h.Ns1 dx mA
 ne:dx≠x
variable {dx:Addr}{mA:Kp}
theorem pj (n:h.Ns1 dx mA):∃od,h.get? dx=some od/\∀name,Qx name od=some (mA name):=by
 obtain⟨o,es,ep,ho,hd,hk,_,hm⟩:=n;refine⟨o,ho,λname=>?_⟩;have e:=hm name;unfold nsFind findBy at e;rw[← Array.find?_toList] at e;unfold Qx;rw[hd];dsimp only;split
 ·rename_i y q;rw[q] at e;exact congrArg some e
 ·rename_i q;rw[q] at e;have a:es.toList.any (·.refKey)=false:=by
   rw[List.any_eq_false];intro y hy;obtain⟨z,t,Sj⟩:=hk y (Array.mem_toList_iff.mp hy);simp[DictEntry.refKey,Sj]
  have a':¬es.toList.any (·.refKey)=true:=by rw[a];exact KC
  rw[QF a'];exact congrArg some e
variable {C:Addr}
theorem oq.look {x:Addr}(I:oq h x dx C mA):∃od,PySem.W.InstAt h x (Qi C dx) C (some od)/\∀name,Qx name od=some (mA name):=
 let ⟨od,ho,hl⟩:=pj I.ns
 ⟨od,⟨I.obj,rfl,rfl,ho⟩,hl⟩
variable {prog:Nf}{name:Str}{kw:List (Str×Value)}
section
variable {x f:Addr}{v:Value}
theorem get_map {expr:Bool}(X:K.In s.heap)(I:oq s.heap x dx C mA)(hg:Ql K C name=true)(hh:Qk K C=true)(ha:P4 K (.ref C) name=some none)(hv:mA name=some v)(S6:PySem.W.handedIn v=true)(h:Q v {s with toks:=s.toks+1}):
 wpAny (model prog w) A (getAttr (.ref x) name expr) Q E s:=by
 obtain⟨od,J,hl⟩:=I.look;exact PySem.W.get_value X J (PySem.W.plainGet_of hg).1 (PySem.W.findObj_own hh ha rfl (by rw[hl,hv])) S6 h
theorem BX {ns:Ks}{Q:Unit->M9->Prop}(X:K.In s.heap)(I:oq s.heap x dx C mA)(hs:P4 K (.ref C) "__setattr__"=some (some (.builtin "object.__setattr__")))(hp:Qp K C=true)(ht:Qv K C name=some none)(hh:Qk K C=true)(hw:OU mA ns)(hsz:ns.length<=Nb)(h:∀h',oq h' x dx C (λy=>if y=name then some v else mA y)->Pq dx s.heap h'->Q () {s with heap:=h',toks:=s.toks+2}):
 wpAny (model prog w) A (setAttr (.ref x) name v) Q E s:=by
 obtain⟨od,J,hl⟩:=I.look;refine PySem.W.set_plain X J hs (PySem.W.osa_open (s:={s with toks:=s.toks+1}) (r:=none) X J hp ht λb=>?_);obtain⟨cd,hc,VY⟩:=PySem.W.any_some hh;have hx:s.heap.get? x=some ⟨.ref C,some dx,.plain, #[]⟩:=I.obj;refine Na (Nd (Na (Na (OM hx (Na (PySem.W.Looks.here (s:={s with toks:=s.toks+1}) (PySem.W.looks_clsIn X hc) ?_))))));rw[VY];refine Nd (a:=some dx) (Na (Nd (Na ?_)));refine wpAny_nsSet1 (s:={s with toks:=s.toks+1}) I.ns λh' hn2 Rp=>?_;obtain⟨oD,esD,epD,hoD,hdD,hcD⟩:=hn2.count (OU.cons name v hw);refine Na (wpAny_lookBehind hoD (by rw[hdD];exact pastItsLine_dict (Mz hcD (by rw[Lg];omega))) ?_);exact Nd (h _ ⟨(Rp.2 _ (MQ I.ne)).trans I.obj,hn2,I.ne⟩ Rp)
theorem zP {R:Result->M9->Prop}{vs:Kv}(X:K.In s.heap)(hm:Qq K C=true)(hi:P4 K (.ref C) "__init__"=some (some (.ref f)))(hf:PySem.W.typeIn K (.ref f)=some (.type "function"))(h:Oo (model prog w) (A.under (.builtin "type.__call__" ⟨.ref C::vs,kw⟩)) (.call (.ref f) ⟨.ref (s.heap.objs.size+1)::vs,kw⟩) (PySem.W.InitBack (s.heap.objs.size+1) R)
  {s with heap:=(s.heap.push Qe).push (Qi C s.heap.objs.size)}):
 Oo (model prog w) A (.call (.ref C) ⟨vs,kw⟩) R s:=by
 obtain⟨hh,g,d,t,os⟩:=s;exact PySem.W.make_core (PySem.W.makes_of X hm) (PySem.W.looks_findIn X hi) (λself=>PySem.W.bind_fn X self hf) (.inl rfl) h
end
def d8 (f:Str)(v:V):List (Str×V)->List (Str×V)
 | []=>[(f,v)]
 | (g,x)::r=>if g=f then(g,v)::r else(g,x)::d8 f v r
theorem lK (f g:Str)(v:V):∀fs:List (Str×V),(d8 f v fs).lookup g=if g=f then some v else fs.lookup g
 | []=>by
   show LJ g [(f,v)]=_;by_cases h:g=f
   ·have hb:(g==f)=true:=beq_iff_eq.mpr h;simp only[LJ,hb,QG h]
   ·have hb:(g==f)=false:=beq_eq_false_iff_ne.mpr h;simp only[LJ,hb,QF h]
 | (k,x)::r=>by
   have ih:=lK f g v r;rw[show d8 f v ((k,x)::r)=(if k=f then(k,v)::r else(k,x)::d8 f v r) from rfl];by_cases hk:k=f
   ·rw[QG hk];by_cases h:g=k
    ·have hb:(g==k)=true:=beq_iff_eq.mpr h;simp only[LJ,hb,QG (h.trans hk)]
    ·have hb:(g==k)=false:=beq_eq_false_iff_ne.mpr h;simp only[LJ,hb,QF (λe:g=f=>h (e.trans hk.symm))]
   ·rw[QF hk];by_cases h:g=k
    ·have hb:(g==k)=true:=beq_iff_eq.mpr h;simp only[LJ,hb,QF (λe:g=f=>hk (h.symm.trans e))]
    ·have hb:(g==k)=false:=beq_eq_false_iff_ne.mpr h;simp only[LJ,hb];exact ih
theorem kD (f:Str)(v:V):∀fs:List (Str×V),f∈(d8 f v fs).map (·.1)/\∀g,g∈fs.map (·.1)->g∈(d8 f v fs).map (·.1)
 | []=>⟨by simp[d8],λg h=>by simp at h⟩
 | (k,x)::r=>by
   obtain⟨i1,i2⟩:=kD f v r;rw[show d8 f v ((k,x)::r)=(if k=f then(k,v)::r else(k,x)::d8 f v r) from rfl];by_cases hk:k=f
   ·rw[QG hk];subst hk;exact⟨by simp,λg h=>by simpa using h⟩
   ·rw[QF hk];refine⟨?_,λg h=>?_⟩
    ·rw[Lm];exact K0 _ i1
    ·rw[Lm] at h ⊢;rcases K8.mp h with e | e
     ·exact K8.mpr (.inl e)
     ·exact K0 _ (i2 g e)
theorem lM (f:Str)(v:V):∀fs:List (Str×V),(d8 f v fs).length<=fs.length+1
 | []=>by simp[d8]
 | (k,x)::r=>by
   have ih:=lM f v r;rw[show d8 f v ((k,x)::r)=(if k=f then(k,v)::r else(k,x)::d8 f v r) from rfl];by_cases hk:k=f
   ·rw[QG hk,Lg,Lg];omega
   ·rw[QF hk,Lg,Lg];omega
theorem fL.some_of {o:Kt}(r:fL (some v) o):∃u,o=some u/\RelV v u:=by
 cases o with
 | none=>exact(show False from r).elim
 | some u=>exact⟨u,rfl,r⟩
theorem oN (r:RelV v u):PySem.W.handedIn u=true:=by
 cases v with
 | QY=>cases (show u=PQ from r);rfl
 | bl b=>cases (show u=PX b from r);rfl
 | int i=>obtain⟨t,e⟩:=(show∃t,u=PR i t from r);cases e;rfl
 | str x=>obtain⟨t,e⟩:=(show∃t,u=PU x t from r);cases e;rfl
 | SS b=>obtain⟨t,e⟩:=(show∃t,u=Value.bytes b t from r);cases e;rfl
 | UN b=>obtain⟨t,e⟩:=(show∃t,u=PZ b t from r);cases e;rfl
 | ref a=>cases (show u=PM a from r);rfl
 | ty n=>cases (show u=P0 n from r);rfl
section
variable {fs fs':List (Str×V)}
theorem nR (QQ:bW P w H h)(e:H a=some (.ins C dx fs)):∃mA,oq h a dx C mA/\(∀f,fL (fs.lookup f) (mA f))/\OU mA (fs.map (·.1))/\fs.length<=1000/\H dx=some (.own a):=by
 obtain⟨d,z,ne,ob,mA,n,r,q⟩:=(show bQ P w H h a (.ins C dx fs) from QQ a _ e);exact⟨mA,⟨ob,n,ne⟩,r,q,z,d⟩
end
structure pd (K:P1)(C:Addr):Prop where
 pg:Ql K C Str.empty=true
 hd:Qk K C=true
 po:Qp K C=true
 sa:P4 K (.ref C) "__setattr__"=some (some (.builtin "object.__setattr__"))
theorem pd.get (c:pd K C)(f:Str):Ql K C f=true:=c.pg
def iG (K:P1)(C:Addr)(f:Str):Prop:=P4 K (.ref C) f=some none
variable {f:Str}
theorem iG.Gq (n:iG K C f):Qv K C f=some none:=by
 unfold Qv;rw[show P4 K (.ref C) f=some none from n];rfl
section
variable {fs:List (Str×V)}
theorem uV {b:Bool}(I:Inv X QN σ H s)(e:H a=some (.ins C dx fs))(c:pd X.K C)(n:iG X.K C f)(l:fs.lookup f=some v)(h:∀u s',Inv X QN σ H s'->RelV v u->Q u s'):wpAny (model X.prog X.w) A (getAttr (.ref a) f b) Q E s:=by
 obtain⟨mA,O,r,_,_,_⟩:=nR I.QQ e;obtain⟨u,hu,ru⟩:=fL.some_of (v:=v) (o:=mA f) (by rw[← l];exact r f);exact get_map I.cY O (c.get f) c.hd n hu (oN ru) (h u _ (I.tok _) ru)
theorem vw {y:V}{Q:Unit->M9->Prop}(I:Inv X QN σ H s)(e:H a=some (.ins C dx fs))(c:pd X.K C)(n:iG X.K C f)(hl:fs.length<1000)(ry:RelV y u)(h:∀s',Inv X QN σ (upd H a (.ins C dx (d8 f y fs))) s'->Q () s'):wpAny (model X.prog X.w) A (setAttr (.ref a) f u) Q E s:=by
 obtain⟨mA,O,r,wi,_,ho⟩:=nR I.QQ e;have hz:(fs.map (·.1)).length<=Nb:=by rw[KY,Oc];omega
 refine BX I.cY O c.sa c.po n.Gq c.hd wi hz λh' O' sb=>h _ ?_;have hd:∃o,h'.get? dx=some o:=let ⟨o,_,_,e',_⟩:=O'.ns;⟨o,e'⟩;refine I.write (x:=a) (e:=dx) (by rw[e];exact QD) (.inr ho) (λb q hb z=>(sb.2 b hb).trans z) hd ?_;refine⟨by rw[aA O.ne];exact ho,?_,O.ne,O'.obj,_,O'.ns,λg=>?_,λg hg=>?_⟩
 ·have:=lM f y fs;omega
 ·show fL ((d8 f y fs).lookup g) (if g=f then some u else mA g);rw[lK];by_cases q:g=f
  ·rw[QG q,QG q];exact ry
  ·rw[QF q,QF q];exact r g
 ·by_cases q:g=f
  ·rw[q];exact(kD f y fs).1
  ·refine(kD f y fs).2 g (wi g λz=>hg ?_);show(if g=f then some u else mA g)=none;rw[QF q];exact z
theorem Inv.made (I:Inv X QN σ H s):Inv X QN σ (upd (upd H s.heap.objs.size (.own (s.heap.objs.size+1))) (s.heap.objs.size+1) (.ins C s.heap.objs.size []))
 {s with heap:=(s.heap.push Qe).push (Qi C s.heap.objs.size)}:=by
 have e1:(s.heap.push Qe).get? s.heap.objs.size=some Qe:=Pm s.heap rfl;have e2:((s.heap.push Qe).push (Qi C s.heap.objs.size)).get? (s.heap.objs.size+1)=some (Qi C s.heap.objs.size):=by
  have:=Pm (s.heap.push Qe) (o:=Qi C s.heap.objs.size) rfl;rwa [Po] at this
 have e3:(s.heap.push Qe).Ns s.heap.objs.size (λ_=>none):=⟨Qe, #[],_,e1,rfl,(λe he=>QE he (by simp)),λ_=>rfl⟩;have I1:=I.laid (a:=s.heap.objs.size) (o:=.own (s.heap.objs.size+1)) (h':=s.heap.push Qe) (t':=s.toks) (λb u q=>Pj _ q) (My _) ⟨_,e1⟩;refine I1.laid (a:=s.heap.objs.size+1) (o:=.ins C s.heap.objs.size []) (t':=s.toks) (λb u q=>Pj _ q) (Nat.le_of_eq (Po _ _)) ?_;have ne:s.heap.objs.size≠s.heap.objs.size+1:=MB (MI _);refine⟨by rw[aA ne,aD],MC _,ne,e2,λ_=>none,(Heap.Ns1.of_empty e3).at λo q=>Pj _ q,λ_=>QD,λy hy=>QE rfl hy⟩
theorem tY {env:Env}(hb:Ni e f env (eval e env)=eval e env)(h:wpAny (model prog w) A (eval e env) (λo s₁=>wpAny (model prog w) A (getAttr o f true) Q E s₁) E s):wpAny (model prog w) A (eval (.Attribute e f pos) env) Q E s:=
 Attribute_any_ h (by rw[arm_eval_Attribute,hb])
end
def JF (K:P1)(ta:TE)(f:Str):TE:=λσ H Q=>ta σ H λx H1=>∃a C dx fs v,x= .ref a/\H1 a=some (.ins C dx fs)/\pd K C/\iG K C f/\fs.lookup f=some v/\Q v H1
def JD (K:P1)(ta tv:TE)(f:Str):TS:=λD σ H=>tv σ H λy H1=>ta σ H1 λx H2=>∃a C dx fs,x= .ref a/\H2 a=some (.ins C dx fs)/\pd K C/\iG K C f/\fs.length<1000/\
 D.nx σ (upd H2 a (.ins C dx (d8 f y fs)))
section
variable {o value:Expr}{tpos:Pos}{tv:TE}
theorem rS (he:PE X e ta)(hb:Ni e f X.env (eval e X.env)=eval e X.env):PE X (.Attribute e f pos) (JF X.K ta f):=by
 intro QN s σ H Q I h;refine tY hb (aO (he QN s σ H _ I h) λu s1 ⟨x,H1,I1,rx,a,C,dx,fs,v,ex,ea,c,n,l,q⟩=>?_);subst ex;obtain rfl:u=PM a:=rx;exact uV I1 ea c n l λu' s2 I2 ru=>⟨v,H1,I2,ru,q⟩
theorem wG (ha:PE X o ta)(hv:PE X value tv)(hs:Nl value (some (.Attribute o f pos')) pos.line X.env=pure false):PS X (.Assign [.Attribute o f pos'] value pos) (JD X.K ta tv f):=by
 intro QN s σ H D I h;refine plainObj_wpAny_Assign_Attribute (aO (hv QN s σ H _ I h) λu s1 ⟨y,H1,I1,ry,q⟩=>aO (ha QN s1 σ H1 _ I1 q) λov s2 ⟨x,H2,I2,rx,a,C,dx,fs,ex,ea,c,n,l,q2⟩=>?_) hs;subst ex;obtain rfl:ov=PM a:=rx;exact vw I2 ea c n l ry λs3 I3=>⟨σ,_,I3,q2⟩
end
section
variable {c:Value}{b:Bool}
inductive fm (K:P1) (H:Hp):V->Value->Prop where
 | QY:fm K H .QY (.type "NoneType")
 | bl (x:Bool):fm K H (.bl x) (.type "bool")
 | int (i:Int):fm K H (.int i) (.type "int")
 | str (x:Str):fm K H (.str x) (.type "str")
 | UN (x:UInt64):fm K H (.UN x) (.type "float")
 | lst {a:Addr} {xs:List V} (e:H a=some (.lst xs)):fm K H (.ref a) (.type "list")
 | RO {a:Addr} {o:Obj} {xs:List V} (e:H a=some (.RO o (.lst xs))):fm K H (.ref a) (.type "list")
 | tup {a:Addr} {xs:List V} (e:H a=some (.tup xs)):fm K H (.ref a) (.type "tuple")
 | dK {a:Addr} {kvs:List (Key×V)} (e:H a=some (.dK kvs)):fm K H (.ref a) (.type "dict")
 | dT {a:Addr} {kvs:List (List Key×V)} (e:H a=some (.dT kvs)):fm K H (.ref a) (.type "dict")
 | ins {a C dx:Addr} {fs:List (Str×V)} (e:H a=some (.ins C dx fs)) (cl:pd K C) (ha:P4 K (.ref C) "__class__"=some (some (.builtin "object.__class__")))
  (hn:PySem.W.specialIn K (.builtin "object.__class__") "__get__"=some (some (.builtin "getset_descriptor.__get__"))) (Vq:PySem.W.takesIn K (.builtin "object.__class__")=some true)
  (hm:PySem.W.mroIn K C (.type "object")=some true):fm K H (.ref a) (.ref C)
theorem ye {x:V}{t:Value}(I:Inv X QN σ H s)(rx:RelV x u)(ty:fm X.K H x t)(e:Qg X.K t c=some b)(h:∀tk,Q (.bool b) {s with toks:=tk}):
 wpAny (model X.prog X.w) A (call (.builtin "isinstance") [u,c]) Q E s:=by
 cases ty with
 | QY=>cases (show u=PQ from rx);exact Qc PySem.W.kitx_none I.cY QD e (λz=>nomatch z) h
 | bl y=>cases (show u=PX y from rx);exact Qc PySem.W.kitx_bool I.cY QD e (λz=>nomatch z) h
 | int i=>obtain⟨t,q⟩:=(show∃t,u=PR i t from rx);cases q;exact Qc PySem.W.kitx_int I.cY QD e (λz=>nomatch z) h
 | str y=>obtain⟨t,q⟩:=(show∃t,u=PU y t from rx);cases q;exact Qc PySem.W.kitx_str I.cY QD e (λz=>nomatch z) h
 | UN y=>obtain⟨t,q⟩:=(show∃t,u=PZ y t from rx);cases q;exact Qc PySem.W.kitx_float I.cY QD e (λz=>nomatch z) h
 | @lst a xs ea=>
   cases (show u=PM a from rx)
   obtain⟨_,_,n,_,h1⟩:=(show bQ X.prog X.w H s.heap a (.lst xs) from I.QQ a _ ea);exact Qc PySem.W.kitx_list I.cY ⟨_,h1,rfl⟩ e (λz=>nomatch z) h
 | @RO a ob xs ea=>
   cases (show u=PM a from rx)
   obtain⟨_,_,_,n,_,h1⟩:=(show bQ X.prog X.w H s.heap a (.RO ob (.lst xs)) from I.QQ a _ ea);exact Qc PySem.W.kitx_list I.cY ⟨_,h1,rfl⟩ e (λz=>nomatch z) h
 | @tup a xs ea=>
   cases (show u=PM a from rx)
   obtain⟨_,_,_,p⟩:=(show bQ X.prog X.w H s.heap a (.tup xs) from I.QQ a _ ea);obtain⟨o,h1,h2,_⟩:=p;exact Qc PySem.W.kitx_tuple I.cY ⟨o,h1,h2⟩ e (λz=>nomatch z) h
 | @dK a kvs ea=>
   cases (show u=PM a from rx)
   obtain⟨_,_,vs,_,p⟩:=(show bQ X.prog X.w H s.heap a (.dK kvs) from I.QQ a _ ea);obtain⟨o,es,ep,h1,h2,_⟩:=p;exact Qc PySem.W.kitx_dict I.cY ⟨o,h1,h2.1⟩ e (λz=>nomatch z) h
 | @dT a kvs ea=>
   cases (show u=PM a from rx)
   obtain⟨_,_,xs,_,o,es,ep,h1,h2,_⟩:=(show bQ X.prog X.w H s.heap a (.dT kvs) from I.QQ a _ ea);exact Qc PySem.W.kitx_dict I.cY ⟨o,h1,h2.1⟩ e (λz=>nomatch z) h
 | @ins a C dx fs ea cl ha hn Vq hm=>
   cases (show u=PM a from rx)
   obtain⟨mA,O,_⟩:=nR I.QQ ea;obtain⟨od,J,_⟩:=O.look;exact Qc (PySem.W.kitx_own (cl.get _) cl.hd ha hn Vq hm) I.cY J e (λz=>nomatch z) h
end
structure br (k:Nat)(A:Nh):Prop where
 hd:A.handled=none
 dp:A.depth+3*k+5<recursionLimit
 un:A.units+16*k+200<cLine
theorem br.mono {j k:Nat}(r:br k A)(h:j<=k):br j A:=⟨r.hd,by have:=r.dp;omega,by have:=r.un;omega⟩
theorem br.deeper {k:Nat}(r:br (k+1) A)(env:Env):br k (A.deeper env):=
 ⟨r.hd,by have:=r.dp;show A.depth+1+3*k+5<_;omega,by have:=r.un;show A.units+3+16*k+200<_;omega⟩
theorem vf :(A.under (.builtin "type.__call__" ⟨.ref C::us,kw⟩)).depth=A.depth+1:=by
 first | rfl | simp[Nh.under,Code.weight,Code.isCreation,Code.isGuard,Code.isCaller,Code.frames,O9,guardIds]
theorem vQ :(A.under (.builtin "type.__call__" ⟨.ref C::us,kw⟩)).units=A.units+1:=by
 first | rfl | simp[Nh.under,Code.cUnits,Code.frames,O9]
theorem br.make {k:Nat}(r:br (k+1) A)(C:Addr)(us:Kv)(kw:List (Str×Value)):br k (A.under (.builtin "type.__call__" ⟨.ref C::us,kw⟩)):=
 ⟨r.hd,by have:=r.dp;rw[vf];omega,by have:=r.un;rw[vQ];omega⟩
theorem br.depth {k:Nat}(r:br k A):A.depth<recursionLimit:=by have:=r.dp;omega
theorem br.units {k:Nat}(r:br k A):A.units+64<cLine:=by have:=r.un;omega
def JE:TA:=λ_ H Q=>Q [] H
def HL (ta:TE)(tr:TA):TA:=λσ H Q=>ta σ H λx H1=>tr σ H1 λxs H2=>Q (x::xs) H2
variable {t:TA}
theorem bD:PA X [] JE:=λ_ _ _ _ H Q I h=>Calls.spliced_nil ⟨[],H,I,.nil,h⟩
theorem aU (ha:PE X e te)(hr:PA X es t)(hs:Nc (e::es) X.env=(false,eval e X.env)::Nc es X.env:=by rfl):PA X (e::es) (HL te t):=by
 intro pos QN s σ H Q I h;rw[hs];show wpAny _ _ (spliced ((false,eval e X.env)::Nk pos (Nc es X.env))) _ _ s;refine O7 (aO (ha QN s σ H _ I h) λu s1 ⟨x,H1,I1,r1,q1⟩=>?_);exact aO (hr pos QN s1 σ H1 _ I1 q1) λus s2 ⟨xs,H2,I2,r2,q2⟩=>⟨x::xs,H2,I2,.cons r1 r2,q2⟩
def Jy (t:TA):TE:=λσ H Q=>t σ H λxs H1=>xs.length<=Nb/\∀p,H1 p=none->Q (.ref p) (upd H1 p (.tup xs))
def Kh (t:TA):TE:=λσ H Q=>t σ H λxs H1=>xs.length<=Nb/\∀p,H1 p=none->Q (.ref p) (upd H1 p (.lst xs))
theorem wR {x1}(h:PA X es t):PE X (.Tuple es x1 pos) (Jy t):=by
 intro QN s σ H Q I hq;refine wpAny_Tuple_spliced (aO (h pos QN s σ H _ I hq) λus s1 ⟨xs,H1,I1,r,z,q⟩=>⟨by rw[← r.length];exact z,?_⟩);have hf:H1 s1.heap.objs.size=none:=I1.QQ.fresh (My _);refine⟨.ref s1.heap.objs.size,upd H1 s1.heap.objs.size (.tup xs),I1.laid (t':=s1.toks) (λb u e=>Pj _ e) (My _) ?_,rfl,q _ hf⟩;exact⟨z,us,r,⟨_,Pm _ rfl,rfl,_,rfl⟩⟩
theorem Ez (h:PA X es t):PE X (.List es pos) (Kh t):=by
 intro QN s σ H Q I hq;refine wpAny_List_spliced (aO (h pos QN s σ H _ I hq) λus s1 ⟨xs,H1,I1,r,z,q⟩=>⟨by rw[← r.length];exact z,?_⟩);have hf:H1 s1.heap.objs.size=none:=I1.QQ.fresh (My _);refine⟨.ref s1.heap.objs.size,upd H1 s1.heap.objs.size (.lst xs),I1.laid (t':=s1.toks) (λb u e=>Pj _ e) (My _) ?_,rfl,q _ hf⟩;exact⟨z,us,0,r,Pm _ rfl⟩
abbrev Sp:=List V->Hp->VK->XK->Prop
abbrev i6:=List Env->Hp->M9->XK->Value->M9->Prop
structure me (P:Nf)(w:World)(K:P1)(mg:Kp)(base:Heap)(A:Nh)(outer:List Env)(s:M9)(H:Hp):Prop where
 frames:A.frames=some outer
 mod:Mod K mg base
 bs:∀b o,base.get? b=some o->s.heap.get? b=some o/\H b=none
 S4:base.objs.size<=s.heap.objs.size
 Rv:s.heap.FunFrames base outer
 Tn:∀b∈bG outer,H b=none
 QQ:bW P w H s.heap
 bare:M0 s.gens
def CE (outer:List Env)(P:Nf)(w:World)(H:Hp)(s:M9)(Q:VK)(u:Value)(s':M9):Prop:=
 ∃v H',s'.os=s.os/\M0 s'.gens/\Un (bG outer) [] H H' s.heap s'.heap/\bW P w H' s'.heap/\RelV v u/\Q v H'
def CR (CX:i6)(outer:List Env)(P:Nf)(w:World)(H:Hp)(s:M9)(Q:VK)(E:XK)(r:Result)(s':M9):Prop:=
 match r with
 | .ok (.ret u)=>CE outer P w H s Q u s'
 | .ok _=>False
 | .error e=>CX outer H s E e s'
structure cy (P:Nf)(w:World)(K:P1)(mg:Kp)(base:Heap)(CX:i6)(k:Nat)(f:Addr)(fd:Nm)(ps:Ks)(sp:Sp):Prop where
 len:∀vs H Q E,sp vs H Q E->vs.length=ps.length
 run:∀(A:Nh)(outer:List Env)(s:M9)(H:Hp)(args:Args)(us:Kv)(vs:List V)(Q:VK)(E:XK),br k A->me P w K mg base A outer s H->ON s fd args (ps.zip us)->Vals vs us->sp vs H Q E->
  Oo (model P w) A (.call (.ref f) args) (CR CX outer P w H s Q E) s
theorem cy.mono {P:Nf}{w:World}{K:P1}{mg:Kp}{base:Heap}{CX:i6}{j k:Nat}{f:Addr}{fd:Nm}{ps:Ks}{sp:Sp}(F:cy P w K mg base CX j f fd ps sp)(h:j<=k):
 cy P w K mg base CX k f fd ps sp:=⟨F.len,λA outer s H args us vs Q E hr=>F.run A outer s H args us vs Q E (hr.mono h)⟩
variable {mg:Kp}{base:Heap}{outer:List Env}
theorem me.make (e:me P w K mg base A outer s H)(C:Addr)(us:Kv)(kw:List (Str×Value)):
 me P w K mg base (A.under (.builtin "type.__call__" ⟨.ref C::us,kw⟩)) outer s H:=⟨by first | exact e.frames | (simpa[Nh.under,Code.envs,O9,pushEnvs] using e.frames),e.mod,e.bs,e.S4,e.Rv,e.Tn,e.QQ,e.bare⟩
theorem Inv.vS (I:Inv X QN σ H s):me X.prog X.w X.K X.mg X.base X.A X.stack s H:=
 ⟨I.ok.frames,I.ok.mod,I.bs,Mz I.ok.S4 I.sz,I.stack,I.ip,I.QQ,I.bare⟩
theorem Inv.after {Q:VK}(I:Inv X QN σ H s)(h:CE X.stack X.prog X.w H s Q u s'):EP X QN σ Q u s':=by
 obtain⟨v,H',os,bare,un,QQ,r,q⟩:=h;obtain⟨hh,g,d,t,os'⟩:=s';obtain rfl:os'=s.os:=os;exact⟨v,H',I.call (h':=hh) (g':=g) (d':=d) (t':=t) (ch:=[]) un QQ bare (λb z=>QE z (by simp)),r,q⟩
def Hn (sp:Sp)(SK:List V)(E:XK)(t:TA):TE:=λσ H Q=>t σ H λvs H1=>sp (vs++SK) H1 Q E
def HY (C:Addr)(sp:Sp)(SK:List V)(E:XK)(t:TA):TE:=λσ H Q=>t σ H λvs H1=>∀x dx,H1 x=none->H1 dx=none->dx≠x->
 sp (.ref x::(vs++SK)) (upd (upd H1 dx (.own x)) x (.ins C dx [])) (λv H2=>v= .QY/\Q (.ref x) H2) E
def Binds (K:P1)(fd:Nm)(ps:Ks)(ds:Kv):Prop:=
 ∀(s:M9)(us:Kv),K.In s.heap->(us++ds).length=ps.length->ON s fd ⟨us,[]⟩ (ps.zip (us++ds))
variable {fd:Nm}{ps:Ks}
theorem Binds.all (h:∀us:Kv,us.length=ps.length->OQ fd ⟨us,[]⟩=pure (ps.zip us)):Binds K fd ps []:=λs us _ hl=>by
 rw[Lh] at hl ⊢;exact .of_eq (h us hl)
def Passes (CX:i6)(X:Cx)(E:XK):Prop:=∀(QN:Kq)(σ:St)(H:Hp)(s:M9)(e:Value)(s':M9),Inv X QN σ H s->CX X.stack H s E e s'->X.xe e s'
variable {CX:i6}{sp:Sp}{vs:List V}
section
variable {k:Nat}{f:Addr}{SK:List V}{ds:Kv}{E:XK}{m:Str}{apos:Pos}{o:Expr}
theorem Dk {Q:VK}(F:cy X.prog X.w X.K X.mg X.base CX k f fd ps sp)(hr:br k X.A)(hb:Binds X.K fd ps ds)(hd:Vals SK ds)(hx:Passes CX X E)(I:Inv X QN σ H s)(r:Vals vs us)(h:sp (vs++SK) H Q E):wpAny (model X.prog X.w) X.A (call (.ref f) us) (EP X QN σ Q) X.xe s:=by
 have r2:Vals (vs++SK) (us++ds):=r.append hd;have hl:(us++ds).length=ps.length:=by rw[← r2.length];exact F.len _ _ _ _ h
 refine N9 (N7 (F.run X.A X.stack s H ⟨us,[]⟩ (us++ds) (vs++SK) Q E hr I.vS (hb s us I.cY hl) r2 h) λr s' hq=>?_);cases r with
 | error e=>exact hx QN σ H s e s' I hq
 | ok fl=>
   cases fl with
   | ret u=>exact I.after hq
   | next=>exact KO hq
   | brk=>exact KO hq
   | cont=>exact KO hq
theorem og (F:cy X.prog X.w X.K X.mg X.base CX k f fd ps sp)(hr:br k X.A)(hg:Gl X x)(hm:X.mg x=some (.ref f))(hk:P8 X.K (.ref f)=true)(hb:Binds X.K fd ps ds)(hd:Vals SK ds)(hx:Passes CX X E)(ha:PA X (e::es) t)(Rj:Q0 x:=by decide)(he:Nc (e::es) X.env=(false,eval e X.env)::Nc es X.env:=by rfl)(Q3:(Nk pos (Nc es X.env)).any (·.1)=false:=by rfl):
 PE X (.Call (.Name x p) (e::es) [] pos) (Hn sp SK E t):=by
 intro QN s σ H Q I h;refine NJ (iu I hg hm ?_ Rj);refine Qn (h₀:=X.base) I.ok.mod.UR hk (aO (ha pos QN s σ H _ I h) λus s1 ⟨vs,H1,I1,r,q⟩=>⟨I1.cY,?_⟩) he Q3;exact Dk F hr hb hd hx I1 r q
structure Mk (K:P1)(C f:Addr):Prop where
 makes:Qq K C=true
 init:P4 K (.ref C) "__init__"=some (some (.ref f))
 fn:Qr K (.ref f)=true
 kp:P8 K (.ref C)=true
theorem zq {Q:VK}(M:Mk X.K C f)(F:cy X.prog X.w X.K X.mg X.base CX k f fd ps sp)(hr:br (k+1) X.A)(hb:Binds X.K fd ps ds)(hd:Vals SK ds)(hx:Passes CX X E)(I:Inv X QN σ H s)(r:Vals vs us)(h:∀x dx,H x=none->H dx=none->dx≠x->sp (.ref x::(vs++SK)) (upd (upd H dx (.own x)) x (.ins C dx [])) (λv H2=>v= .QY/\Q (.ref x) H2) E):
 wpAny (model X.prog X.w) X.A (call (.ref C) us) (EP X QN σ Q) X.xe s:=by
 have hq:=h (s.heap.objs.size+1) s.heap.objs.size (I.QQ.fresh (MH _)) (I.QQ.fresh (My _)) (MB (MI _));have I2:=Inv.made (C:=C) I;have r2:Vals (V.ref (s.heap.objs.size+1)::(vs++SK)) (PM (s.heap.objs.size+1)::(us++ds)):=.cons rfl (r.append hd);have hl:(PM (s.heap.objs.size+1)::us++ds).length=ps.length:=by
  have e:=r2.length;rw[F.len _ _ _ _ hq] at e;exact e.symm
 refine N9 (zP (f:=f) I.cY M.makes M.init (beq_iff_eq.mp M.fn) (N7 (F.run _ X.stack _ _ ⟨PM (s.heap.objs.size+1)::us,[]⟩ (PM (s.heap.objs.size+1)::(us++ds)) _ _ E (hr.make C us [])
  (I2.vS.make C us []) (hb _ (PM (s.heap.objs.size+1)::us) I2.cY hl) r2 hq) λr s' SG=>?_))
 cases r with
 | error e=>exact hx QN σ _ _ e s' I2 SG
 | ok fl=>
   cases fl with
   | ret u=>
     obtain⟨v,H',I3,rv,ev,q3⟩:=I2.after SG;subst ev;exact⟨rv,⟨V.ref (s.heap.objs.size+1),H',I3,rfl,q3⟩⟩
   | next=>exact KO SG
   | brk=>exact KO SG
   | cont=>exact KO SG
theorem uq (M:Mk X.K C f)(F:cy X.prog X.w X.K X.mg X.base CX k f fd ps sp)(hr:br (k+1) X.A)(hg:Gl X x)(hm:X.mg x=some (.ref C))(hb:Binds X.K fd ps ds)(hd:Vals SK ds)(hx:Passes CX X E)(ha:PA X (e::es) t)(Rj:Q0 x:=by decide)(he:Nc (e::es) X.env=(false,eval e X.env)::Nc es X.env:=by rfl)(Q3:(Nk pos (Nc es X.env)).any (·.1)=false:=by rfl):
 PE X (.Call (.Name x p) (e::es) [] pos) (HY C sp SK E t):=by
 intro QN s σ H Q I h;refine NJ (iu I hg hm ?_ Rj);refine Qn (h₀:=X.base) I.ok.mod.UR M.kp (aO (ha pos QN s σ H _ I h) λus s1 ⟨vs,H1,I1,r,q⟩=>⟨I1.cY,?_⟩) he Q3;exact zq M F hr hb hd hx I1 r q
end
section
variable {k:Nat}{f:Addr}{ks:Ks}{E:XK}{m:Str}{apos kpos:Pos}{o:Expr}{kws:List Nt}{tk:TA}{nm:Option Str}
variable {g:Kv->Kv->Kv}{gV:List V->List V->List V}
end
structure aZ (N P:Ks)(sc:Scope):Prop where
 kind:sc.kind= .function
 co:sc.isCoroutine=false
 gen:sc.isGenerator=false
 nd:N.Nodup
 pre:N.take P.length=P
 par:∀x∈P,sc.names.lookup x=some .local∨sc.names.lookup x=some .cell
 Ur:∀y∈sc.names,y.2≠ .free
variable {sc:Scope}
theorem RQ{P:Ks}(a:sc.kind=.function:=by rfl)(b:sc.isCoroutine=false:=by rfl)(c:sc.isGenerator=false:=by rfl)(d:N.Nodup:=by decide +kernel)(e:N.take P.length=P:=by rfl)(f:∀x∈P,sc.names.lookup x=some .local∨sc.names.lookup x=some .cell:=by decide +kernel)(g:∀y∈sc.names,y.2≠.free:=by decide +kernel):aZ N P sc:=⟨a,b,c,d,e,f,g⟩
theorem pC {kindOf:Str->Option N3}{x:Str}:∀{binds:List (Str×Value)}{m:Kp},(∀v,(x,v)∉binds)->bindL kindOf binds m x=m x
 | [],_,_=>rfl
 | (n,v)::r,m,h=>by
   unfold bindL;rw[pC λw hw=>h w (K0 _ hw)];split
   ·have:x≠n:=by rintro rfl;exact h v K4
    simp[this]
   ·rfl
theorem oY {kindOf:Str->Option N3}{x:Str}:∀{binds:List (Str×Value)}{m:Kp},(∀v,(x,v)∉binds)->bindC kindOf binds m x=m x
 | [],_,_=>rfl
 | (n,v)::r,m,h=>by
   unfold bindC;rw[oY λw hw=>h w (K0 _ hw)];split
   ·rfl
   ·have:x≠n:=by rintro rfl;exact h v K4
    simp[this]
theorem oR {kindOf:Str->Option N3}{x:Str}{v:Value}:∀{P:Ks}{vs:Kv}{i:Nat}{m:Kp},P.Nodup->P[i]?=some x->vs[i]?=some v->kindOf x=some .local->
 bindL kindOf (P.zip vs) m x=some v
 | [],_,_,_,_,h,_,_=>by simp at h
 | _::_,[],_,_,_,_,h,_=>by simp at h
 | p::P,w::vs,0,m,nd,h1,h2,hk=>by
   simp at h1 h2;subst h1;subst h2;show bindL kindOf ((p,w)::P.zip vs) m p=_;unfold bindL;rw[pC λv hv=>(LO.mp nd).1 (Mr hv).1,QG hk];simp
 | p::P,w::vs,i+1,m,nd,h1,h2,hk=>by
   show bindL kindOf ((p,w)::P.zip vs) m x=_;unfold bindL;exact oR (i:=i) (LO.mp nd).2 (by simpa using h1) (by simpa using h2) hk
theorem pJ {kindOf:Str->Option N3}{x:Str}{v:Value}:∀{P:Ks}{vs:Kv}{i:Nat}{m:Kp},P.Nodup->P[i]?=some x->vs[i]?=some v->kindOf x≠some .local->
 bindC kindOf (P.zip vs) m x=some v
 | [],_,_,_,_,h,_,_=>by simp at h
 | _::_,[],_,_,_,_,h,_=>by simp at h
 | p::P,w::vs,0,m,nd,h1,h2,hk=>by
   simp at h1 h2;subst h1;subst h2;show bindC kindOf ((p,w)::P.zip vs) m p=_;unfold bindC;rw[oY λv hv=>(LO.mp nd).1 (Mr hv).1,QF hk];simp
 | p::P,w::vs,i+1,m,nd,h1,h2,hk=>by
   show bindC kindOf ((p,w)::P.zip vs) m x=_;unfold bindC;exact pJ (i:=i) (LO.mp nd).2 (by simpa using h1) (by simpa using h2) hk
def start (N:Ks)(vs:List V):St:=vs.map some++Mc (N.length-vs.length) none
def aX (CX:i6)(P:Nf)(w:World)(K:P1)(mg:Kp)(base:Heap)(N:Ks)(qual:Str)(scope:Scope)(f:Addr)(cd:Value)(A:Nh)(outer:List Env)(s:M9)(H:Hp)(E:XK):Cx where
 prog:=P
 w:=w
 K:=K
 mg:=mg
 base:=base
 A:=A.deeper (MW qual scope s.heap.objs.size f cd)
 N:=N
 s₀:=s
 H₀:=H
 env:=MW qual scope s.heap.objs.size f cd
 outer:=outer
 stack:=MW qual scope s.heap.objs.size f cd::outer
 ex:=[]
 calm:=true
 fn:=λ_=>true
 pn:=[]
 xe:=λe s'=>wpAny (model P w) (A.deeper (MW qual scope s.heap.objs.size f cd)) (leaving (MW qual scope s.heap.objs.size f cd) e) (λ_ s''=>CX outer H s E e s'') (λe' s''=>CX outer H s E e' s'') s'
theorem bL (h:sc.names.lookup x=some .cell):∃c,(cellsFrom n sc.names []).lookup x=some c:=by
 have q:=PySem.W.cellsFrom_some sc.names n [] (.inl h);exact Option.isSome_iff_exists.mp q
variable {qual:Str}{scope:Scope}
theorem wK {f:Addr}{cd:Value}{s1:M9}{E:XK}(S:aZ N ps scope)(hd:A.handled=none)(e0:me P w K mg base A outer s H)(hl:vs.length=ps.length)(r:Vals vs us)(x:InCallC s s.heap.objs.size (bindL (MW qual scope s.heap.objs.size f cd).kindOf (ps.zip us) λ_=>none) (cellsFrom (s.heap.objs.size+1) scope.names []) (bindC (MW qual scope s.heap.objs.size f cd).kindOf (ps.zip us) λ_=>none) s1):
 Inv (aX CX P w K mg base N qual scope f cd A outer s H E) [] (start N vs) H s1:=by
 have Q3:ps.length<=N.length:=by have:=congrArg List.length S.pre;rw[Lc] at this;omega
 obtain⟨h1,tk,rfl,hk⟩:=x.done;have Vf:∀b:Addr,b∉(aX CX P w K mg base N qual scope f cd A outer s H E).ex:=λb z=>QE (show b∈([]:Ku) from z) (by simp);refine⟨⟨e0.mod,S.kind,rfl,rfl,My _,λy z c h1 h2=>?_,λy hy=>?_,λy c _ h=>?_,λ_=>hd,Nh.frames_deeper e0.frames,.inr ⟨rfl,rfl⟩,λb z=>QE z (Vf b),e0.bs,e0.S4,λb _ _=>Vf b,λb z=>QE z (Vf b),e0.Rv,e0.Tn⟩,
  rfl,e0.bare,Un.kept hk,⟨_,x.toInCall.ns,λi y v h1 h2 h3=>?_⟩,λy c h=>⟨_,x.cell y c h⟩,e0.QQ.fresh (My _),λy c h=>?_,λp hp=>QE (show p∈([]:Kq) from hp) (by simp),e0.QQ.kept hk,?_⟩
 ·exact name_of_addr x.apart (Nq h1) (Nq h2)
 ·have hy:scope.names.lookup y=some .cell∨scope.names.lookup y=some .free:=hy;rcases hy with hy | hy
  ·exact bL hy
  ·exact QE rfl (S.Ur _ (Nq hy))
 ·exact MP (x.above y c (Nq h))
 ·have hi:i<vs.length:=by
   unfold start at h2;by_cases hi:i<vs.length
   ·exact hi
   ·rw[Lo (by simpa using hi)] at h2;rw[L5] at h2;split at h2<;>cases h2
  have ha:vs[i]?=some v:=by
   unfold start at h2;rw[Lr (by simpa using hi),K9] at h2;cases e:vs[i]? with
   | none=>rw[e] at h2;cases h2
   | some a=>rw[e] at h2;cases h2;rfl
  obtain⟨u,hu,rv⟩:=r.get ha;have hp:ps[i]?=some y:=by
   rw[← S.pre,List.getElem?_take_of_lt (by omega)];exact h1
  have ndP:ps.Nodup:=by rw[← S.pre];exact S.nd.sublist (List.take_sublist _ _)
  refine⟨u,rv,?_⟩;rcases S.par y (K7 hp) with k | k
  ·exact .inl ⟨k,oR ndP hp hu k⟩
  ·obtain⟨c,e⟩:=bL (n:=s.heap.objs.size+1) k;refine .inr ⟨.inl k,c,e,?_⟩;have q:=x.cell y c e;rw[pJ ndP hp hu (by show scope.names.lookup y≠_;rw[k];decide)] at q;exact q
 ·exact e0.QQ.fresh (MP (x.above y c (Nq h)))
 ·unfold start;show _=N.length;rw[K3,KY,LD];omega
theorem qo {k:Nat}{f:Addr}{params:Arguments}{dV kV doc pm QP ct oc:Value}{an od:Option Addr}{RM:Array Kt}(lk:K.lookup f=some ⟨oc,od,.func (Qb name qual params body scope dV kV doc pm an QP ct),RM⟩)(QR:Qh K QP qual=true)(S:aZ N ps scope)(len:∀vs H Q E,sp vs H Q E->vs.length=ps.length)(Q1:∀(A:Nh)(outer:List Env)(s:M9)(H:Hp)(vs:List V)(Q:VK)(E:XK),br k (A.deeper (MW qual scope s.heap.objs.size f QP))->sp vs H Q E->
  ∃t,iK (aX CX P w K mg base N qual scope f QP A outer s H E) body t/\t {nx:=λ_ H'=>Q .QY H',rt:=Q} (start N vs) H):
 cy P w K mg base CX (k+1) f (Qb name qual params body scope dV kV doc pm an QP ct) ps sp:=by
 refine⟨len,λA outer s H args us vs Q E hr e0 hb r Sh=>?_⟩;have hl:=len _ _ _ _ Sh;have KX:K.In s.heap:=e0.mod.UR.keeps λb o e=>(e0.bs b o e).1;have lim:s.heap.NoLimit:=e0.mod.nolimit.keeps λb o e=>(e0.bs b o e).1;have VJ:∀y∈ps.zip us,scope.names.lookup y.1=some .local∨(scope.names.lookup y.1=some .cell/\((cellsFrom (s.heap.objs.size+1) scope.names []).lookup y.1).isSome=true):=λ⟨n,v⟩ hy=>by
  rcases S.par n (Mr hy).1 with q | q
  ·exact .inl q
  ·exact .inr ⟨q,PySem.W.cellsFrom_some _ _ _ (.inl q)⟩
 refine codeAny_call_function hr.depth (KX _ _ lk) rfl S.co S.gen rfl (PySem.W.codeRec_of KX QR) (hb _ _ _ _ ?_);refine wpAny_newFunctionEnv_cells S.kind VJ λenv he s1 x=>?_;subst he;refine⟨lim.keeps x.toInCall.keep,codeAny_func ?_⟩;obtain⟨t,ht,hq⟩:=Q1 A outer s H vs Q E (hr.deeper _) Sh;have I:Inv (aX CX P w K mg base N qual scope f QP A outer s H E) [] (start N vs) H s1:=wK S hr.hd e0 hl r x;refine Nj (ht [] s1 (start N vs) H _ I hq) (λfl s' hs=>?_) λe s' hs=>hs;have fin:∀{σ':St}{H':Hp}{v:V}{u:Value},Inv (aX CX P w K mg base N qual scope f QP A outer s H E) [] σ' H' s'->RelV v u->Q v H'->CE outer P w H s Q u s':=
  λ{σ' H' v u} J rv q=>⟨v,H',J.os,J.bare,J.base,J.QQ,rv,q⟩
 cases fl with
 | ret u=>
   obtain⟨v,σ',H',J,rv,q⟩:=hs;exact fin J rv q
 | next=>
   obtain⟨σ',H',J,q⟩:=hs;exact fin (v:=V.QY) (u:=PQ) J rfl q
 | brk=>
   obtain⟨_,_,_,q⟩:=hs;exact KO q
 | cont=>
   obtain⟨_,_,_,q⟩:=hs;exact KO q
section
variable {id T:String}{r:List V->Hp->VK->Prop}
def IP (r:List V->Hp->VK->Prop)(t:TA):TE:=λσ H Q=>t σ H λvs H1=>r vs H1 Q
theorem da (hc:dy X (.builtin id) r)(hg:Gl X x)(hm:X.mg x=none)(hv:Ny x=some (.builtin id))(ha:PA X (e::es) t)(hn:x≠"__name__":=by decide)(Rj:Q0 x:=by decide)(he:Nc (e::es) X.env=(false,eval e X.env)::Nc es X.env:=by rfl)(Q3:(Nk pos (Nc es X.env)).any (·.1)=false:=by rfl):PE X (.Call (.Name x p) (e::es) [] pos) (IP r t):=by
 intro QN s σ H Q I h;refine NJ (fC I hg hm hv ?_ hn Rj);exact PyProof.Rows.callWith_builtin1 (aO (ha pos QN s σ H _ I h) λus s1 ⟨vs,H1,I1,r1,q1⟩=>hc QN s1 σ H1 vs us Q I1 r1 q1) he Q3
theorem gW (hc:dy X (.type T) r)(hg:Gl X x)(hm:X.mg x=none)(hv:Ny x=some (.type T))(ha:PA X (e::es) t)(hn:x≠"__name__":=by decide)(Rj:Q0 x:=by decide)(he:Nc (e::es) X.env=(false,eval e X.env)::Nc es X.env:=by rfl)(Q3:(Nk pos (Nc es X.env)).any (·.1)=false:=by rfl):PE X (.Call (.Name x p) (e::es) [] pos) (IP r t):=by
 intro QN s σ H Q I h;refine NJ (fC I hg hm hv ?_ hn Rj);exact MY (aO (ha pos QN s σ H _ I h) λus s1 ⟨vs,H1,I1,r1,q1⟩=>hc QN s1 σ H1 vs us Q I1 r1 q1) he Q3
end
end L2
namespace HT
open PySem PyProof.Rows
section
open PySem.SeqAt
open PySem.AutoSeq1 (wpAny_loadPart')
open PySem.MeetsSeq PySem.MeetsSeq2 PySem.MeetsSeq3
end
variable {sl:Addr}
section
variable {prog:Nf}{w:World}{A:Nh}{E:Value->M9->Prop}{s:M9}
def QX (n d:Nat):Option Int->Nat
 | none=>d
 | some v=>if v<0 then(v+(n:Int)).toNat else min v.toNat n
theorem EX (n d:Nat)(hd:d<=n)(o:Option Int):QX n d o<=n:=by
 cases o with
 | none=>exact hd
 | some v=>
   show(if v<0 then(v+(n:Int)).toNat else min v.toNat n)<=n;by_cases hv:v<0
   ·rw[QG hv];omega
   ·rw[QF hv];exact MN _ _
theorem ub (v:Int)(n d:Nat):(if v<0 then max (v+(n:Int)) 0 else min v (n:Int))=((QX n d (some v):Nat):Int):=by
 show(if v<0 then max (v+(n:Int)) 0 else min v (n:Int))=(((if v<0 then(v+(n:Int)).toNat else min v.toNat n):Nat):Int);by_cases hv:v<0
 ·simp only[QG hv];omega
 ·simp only[QF hv];omega
theorem vB (lo hi:Option Int)(n:Nat):Ot.Slice.sliceAdjust lo hi 1 (n:Int)=(((QX n 0 lo:Nat):Int),((QX n n hi:Nat):Int)):=by
 have h1:¬((1:Int)<0):=by omega
 unfold Ot.Slice.sliceAdjust;simp only[h1,if_false];refine Prod.ext ?_ ?_
 ·cases lo with
  | none=>rfl
  | some v=>exact ub v n 0
 ·cases hi with
  | none=>rfl
  | some v=>exact ub v n n
theorem vH (i j:Nat):Ot.Slice.slicePlaces (i:Int) (j:Int) 1=j-i:=by
 unfold Ot.Slice.slicePlaces;have h1:(1:Int)>0:=by omega
 simp only[h1,if_true,Int.ediv_one];split<;>omega
theorem mH {v:Value}{o:Option Int}{Q:Option Int->M9->Prop}(p:Oh v o)(h:Q o s):wpAny (model prog w) A (Ot.Slice.slicePartIndex v) Q E s:=by
 cases p with
 | none=>exact slicePart_none h
 | int i t=>exact slicePart_int h
theorem iE {vl vu:Value}{lo hi:Option Int}{n:Nat}{Q:Int×Int×Nat->M9->Prop}(hs:s.heap.IsSliceOf sl vl vu .none)(pl:Oh vl lo)(pu:Oh vu hi)(h:Q (((QX n 0 lo:Nat):Int),1,QX n n hi-QX n 0 lo) s):wpAny (model prog w) A (Ot.Slice.sliceApplied (.ref sl) (pure (n:Int))) Q E s:=by
 obtain⟨os,Uz,hcs,VU⟩:=id hs;unfold Ot.Slice.sliceApplied Ot.Slice.sliceFields;refine Na (Na (Nr Uz VU (x:=vl) rfl (Na (Nr Uz VU (x:=vu) rfl (Na (Nr Uz VU (x:=.none) rfl (Nd ?_)))))));refine Na (slicePart_none ?_);show wpAny _ _ (if((1:Int)==0)=true then _ else _) _ _ s;rw[QF (by decide)];refine Na (mH pl (Na (mH pu (Na (Nd ?_)))));show wpAny _ _ (match Ot.Slice.sliceAdjust lo hi 1 (n:Int) with | (lo,hi)=>pure (lo,(1:Int),Ot.Slice.slicePlaces lo hi 1)) _ _ s;rw[vB lo hi n];show wpAny _ _ (pure (((QX n 0 lo:Nat):Int),(1:Int),Ot.Slice.slicePlaces ((QX n 0 lo:Nat):Int) ((QX n n hi:Nat):Int) 1)) _ _ s;rw[vH];exact Nd h
theorem zo (xs:Array Value)(i k:Nat):((Lq k).filterMap λ(m:Nat)=>xs[((i:Int)+(m:Int)*1).toNat]?).toArray=((xs.toList.drop i).take k).toArray:=by
 have e:(λ(m:Nat)=>xs[((i:Int)+(m:Int)*1).toNat]?)=λm=>xs[i+m]?:=by
  funext m;have:((i:Int)+(m:Int)*1).toNat=i+m:=by omega
  rw[this]
 rw[e];have:=pick_run xs i k;rw[List.filterMap_map] at this;have e2:((λx=>xs[x]?) ∘ λx=>i+x)=λm=>xs[i+m]?:=rfl;rw[e2] at this;rw[this]
theorem lD {t:Addr}{items:Array Value}{vl vu:Value}{lo hi:Option Int}{Q:Value->M9->Prop}(ht:IsTup s.heap t items)(hs:s.heap.IsSliceOf sl vl vu .none)(pl:Oh vl lo)(pu:Oh vu hi)(hw:¬(QX items.size 0 lo=0/\QX items.size items.size hi=items.size))(h:Q (.ref s.heap.objs.size) {s with heap:=s.heap.push {cls:=.type "tuple",data:=.seq ((items.toList.drop (QX items.size 0 lo)).take (QX items.size items.size hi-QX items.size 0 lo)).toArray}})(hsz:items.size<=Nb):wpAny (model prog w) A (Oa (.ref t) (.ref sl)) Q E s:=by
 have SN:sizeOk (.seq ((items.toList.drop (QX items.size 0 lo)).take (QX items.size items.size hi-QX items.size 0 lo)).toArray):=by
  show((items.toList.drop (QX items.size 0 lo)).take (QX items.size items.size hi-QX items.size 0 lo)).toArray.size<=Nb;rw[K6,Lc,Lv,Kz];omega
 have hj:QX items.size items.size hi<=items.size:=EX _ _ (My _) hi;obtain⟨os,Uz,hcs,VU⟩:=id hs;have hTs:s.TypeIs (.ref sl) "slice":=⟨os,Uz,hcs⟩;unfold Oa
 try with_reducible refine Nv ?_
 first | refine Na (Nd ?_) | skip
 refine Na (wpAny_sequenceKey ht.typeIs (by decide) ?_);refine Na (Nx (name:=PK "__getitem__") ht.typeIs MZ
  (NT MZ ht.typeIs entry_tuple_getitem ?_ (args_tuple_getitem _ _)))
 show wpAny _ _ (Ot.Tuple.tupleItemsOf (.ref t) >>=_) _ _ s;refine Na (tupleItemsOf_ ht ?_);refine Na (OE hTs ?_);rw[QG (by decide)];refine Na (iE hs pl pu ?_);have Sb:¬((((QX items.size 0 lo:Nat):Int)==0&&(1:Int)==1&&(QX items.size items.size hi-QX items.size 0 lo)==items.size)=true):=by
  intro q;rw[KD,KD] at q;have q1:((QX items.size 0 lo:Nat):Int)=0:=eq_of_beq q.1.1;have q2:QX items.size items.size hi-QX items.size 0 lo=items.size:=eq_of_beq q.2;exact hw ⟨by omega,by omega⟩
 show wpAny _ _ (if(((QX items.size 0 lo:Nat):Int)==0&&(1:Int)==1&&(QX items.size items.size hi-QX items.size 0 lo)==items.size)=true then _ else _) _ _ s;rw[QF Sb,zo]
 first
  | exact Na (m:=Ot.Tuple.tupleExact _) (NG (Nd ⟨_,rfl,Nd h⟩) SN)
  | exact Na (m:=Ot.Tuple.tupleExact _) (NG (Na (Nd (Nd ⟨_,rfl,Nd h⟩))) SN)
  | exact Na (Na (m:=Ot.Tuple.tupleExact _) (NG (Nd (Nd ⟨_,rfl,Nd h⟩)) SN))
  | exact Na (Na (m:=Ot.Tuple.tupleExact _) (NG (Nd ⟨_,rfl,Nd h⟩) SN))
end
end HT
namespace L2
open PySem PySem.Spec PyProof.Rows
abbrev TO:=St->Hp->(Option Int->Hp->Prop)->Prop
def PO (X:Cx)(e:Option Expr)(t:TO):Prop:=
 ∀(QN:Kq)(s:M9)(σ:St)(H:Hp)(Q:Option Int->Hp->Prop),Inv X QN σ H s->t σ H Q->
  wpAny (model X.prog X.w) X.A (evalPart e X.env) (λu s'=>∃o H',Inv X QN σ H' s'/\Oh u o/\Q o H') X.xe s
def Bp:TO:=λ_ H Q=>Q none H
def HF (t:TE):TO:=λσ H Q=>t σ H λx H1=>∃i,x= .int i/\Q (some i) H1
theorem intsAre_of {ns:Kr}:∀{us:Kv},Vals (ns.map V.int) us->M7 us ns:=by
 induction ns with
 | nil=>intro us r;rw[Mq] at r;cases r;exact .nil
 | cons n ns ih=>
   intro us r;rw[Lm] at r;cases r with
   | cons r1 r2=>
     obtain⟨t,e⟩:=r1;subst e;exact .cons n t (ih r2)
variable {X:Cx}{e:Expr}{pos:Pos}
section
variable {te:TE}{lo hi:Option Expr}{tl th:TO}{p2:Pos}
theorem Bm:PO X none Bp:=by
 intro QN s σ H Q I h;rw[evalPart_none];exact Nd ⟨none,H,I,.none,h⟩
theorem BA (h:PE X e te):PO X (some e) (HF te):=by
 intro QN s σ H Q I hw;rw[evalPart_some];refine aO (h QN s σ H _ I hw) λu s1 ⟨x,H1,I1,r1,q1⟩=>?_;obtain⟨i,rfl,q⟩:=q1;obtain⟨t,rfl⟩:=r1;exact⟨some i,H1,I1,.int i t,q⟩
def yv (X:Cx)(r:V->Option Int->Option Int->Hp->VK->Prop):Prop:=
 ∀(QN:Kq)(s:M9)(σ:St)(H:Hp)(x:V)(v vl vu:Value)(lo hi:Option Int)(sl:Addr)(Q:VK),Inv X QN σ H s->RelV x v->s.heap.IsSliceOf sl vl vu .none->Oh vl lo->Oh vu hi->r x lo hi H Q->
  ∃T id,typeLookup (.type T) "__getitem__"=pure (some (.builtin id))/\s.TypeIs v T/\wpAny (model X.prog X.w) X.A (Oa v (.ref sl)) (EP X QN σ Q) X.xe s
def tSl (r:V->Option Int->Option Int->Hp->VK->Prop)(te:TE)(tl th:TO):TE:=λσ H Q=>te σ H λx H1=>tl σ H1 λl H2=>th σ H2 λu H3=>r x l u H3 Q
theorem jM {r:V->Option Int->Option Int->Hp->VK->Prop}(hr:yv X r)(he:PE X e te)(hl:PO X lo tl)(hu:PO X hi th):PE X (.Subscript e (.Slice lo hi none p2) pos) (tSl r te tl th):=by
 intro QN s σ H Q I h;refine Subscript_ (aO (he QN s σ H _ I h) λv s1 ⟨x,H1,I1,r1,q1⟩=>?_);refine wpAny_Slice (aO (hl QN s1 σ H1 _ I1 q1) λvl s2 ⟨l,H2,I2,pl,q2⟩=>aO (hu QN s2 σ H2 _ I2 q2) λvu s3 ⟨u,H3,I3,pu,q3⟩=>?_);rw[evalPart_none];refine Nd ?_;have I4:Inv X QN σ H3 {s3 with heap:=s3.heap.push {cls:=.type "slice",data:=.fields #[vl,vu,.none]}}:=I3.kept (t':=s3.toks) λb ob q=>Pj _ q;obtain⟨T,id,hT,ht,hg⟩:=hr QN {s3 with heap:=s3.heap.push {cls:=.type "slice",data:=.fields #[vl,vu,.none]}} σ H3 x v vl vu l u s3.heap.objs.size Q I4 r1 (Heap.IsSliceOf.new ..) pl pu q3;show wpAny (model X.prog X.w) X.A (M8 e (.Slice lo hi none p2) v (.ref s3.heap.objs.size)) (EP X QN σ Q) X.xe {s3 with heap:=s3.heap.push {cls:=.type "slice",data:=.fields #[vl,vu,.none]}};exact tail_any (ops:=[.ref s3.heap.objs.size,v]) ht hT hg (by with_unfolding_all rfl)
def ja (xs:List V)(lo hi:Option Int):List V:=(xs.drop (HT.QX xs.length 0 lo)).take (HT.QX xs.length xs.length hi-HT.QX xs.length 0 lo)
theorem lL (xs:List V)(lo hi:Option Int):(ja xs lo hi).length<=xs.length:=by
 unfold ja;rw[Lc,Lv];omega
def JQ (K:P1):V->Option Int->Option Int->Hp->VK->Prop:=λx lo hi H Q=>∃a xs,x= .ref a/\dC K H a xs/\
 ¬(HT.QX xs.length 0 lo=0/\HT.QX xs.length xs.length hi=xs.length)/\∀p,H p=none->Q (.ref p) (upd H p (.tup (ja xs lo hi)))
theorem Fb:yv X (JQ X.K):=by
 intro QN s σ H x v vl vu lo hi sl Q I rx hs pl pu h;obtain⟨a,xs,rfl,hx,hw,q⟩:=h;cases rx
 obtain⟨QO,r,ht,hz⟩:=I.tuple hx;have hlen:QO.toArray.size=xs.length:=by rw[K6];exact r.length.symm
 refine⟨"tuple",_,MZ.lookup,ht.typeIs,?_⟩;refine HT.lD ht hs pl pu (by rw[hlen];exact hw) ?_ (by rw[hlen];exact hz);rw[hlen];refine⟨.ref s.heap.objs.size,_,I.laid (t':=s.toks) (o:=.tup (ja xs lo hi)) (λb ob q=>Pj _ q) (My _) ?_,rfl,q _ (I.QQ.fresh (My _))⟩;exact⟨Mz (lL xs lo hi) hz,_,(r.drop (HT.QX xs.length 0 lo)).take (HT.QX xs.length xs.length hi-HT.QX xs.length 0 lo),IsTup.new _ _⟩
end
variable {α:Type}{n:Nat}{i:Int}{j:Nat}{xs:List α}
def eT (n:Nat)(i:Int):Option Nat:=if 0<=i then(if i<n then some i.toNat else none) else if -(n:Int)<=i then some (i+n).toNat else none
def cq (xs:List α)(i:Int):Option α:=(eT xs.length i).bind λj=>xs[j]?
theorem nQ (h:eT n i=some j):seqIndex? i n=some j/\j<n/\ -(n:Int)<=i/\i<n:=by
 unfold eT at h;by_cases h0:0<=i
 ·rw[QG h0] at h;by_cases h1:i<n
  ·rw[QG h1] at h;have e:i.toNat=j:=Option.some.inj h;exact⟨by rw[seqIndex_of h0 h1,e],by omega,by omega,h1⟩
  ·rw[QF h1] at h;cases h
 ·rw[QF h0] at h;by_cases h1: -(n:Int)<=i
  ·rw[QG h1] at h;have e:(i+n).toNat=j:=Option.some.inj h;exact⟨by rw[seqIndex_neg (by omega) h1,e],by omega,h1,by omega⟩
  ·rw[QF h1] at h;cases h
theorem nJ {v:α}(h:cq xs i=some v):∃j,seqIndex? i xs.length=some j/\xs[j]?=some v/\j<xs.length/\ -(xs.length:Int)<=i/\i<xs.length:=by
 unfold cq at h;cases e:eT xs.length i with
 | none=>rw[e] at h;cases h
 | some j=>
   rw[e] at h;obtain⟨h1,h2,h3,h4⟩:=nQ e;exact⟨j,h1,h,h2,h3,h4⟩
theorem BB {v:α}(h:xs[j]?=some v):cq xs (j:Int)=some v:=by
 have hj:j<xs.length:=(KW.mp h).1;have e:eT xs.length (j:Int)=some j:=by
  unfold eT;rw[QG (by omega),QG (by omega)];simp
 unfold cq;rw[e];exact h
def eP (b:Expr):Prop:=∀o i,OJ b false o i=operate [o,i] (Oa o i)
def Ax (X:Cx)(r:R2):Prop:=
 ∀(value slice:Expr)(QN:Kq)(s:M9)(σ:St)(H:Hp)(x y:V)(v u:Value)(Q:VK),Inv X QN σ H s->RelV x v->RelV y u->r x y H Q->
  OJ slice false v u=operate [v,u] (Oa v u)->wpAny (model X.prog X.w) X.A (M8 value slice v u) (EP X QN σ Q) X.xe s
def qX (X:Cx)(id:String)(r:V->List V->Hp->VK->Prop):Prop:=
 ∀(QN:Kq)(s:M9)(σ:St)(H:Hp)(x:V)(xs:List V)(v:Value)(us:Kv)(Q:VK),Inv X QN σ H s->RelV x v->Vals xs us->r x xs H Q->
  wpAny (model X.prog X.w) X.A (call (.builtin id) (v::us)) (EP X QN σ Q) X.xe s
variable {QN:Kq}{σ:St}{H:Hp}{s:M9}{QO:Kv}{A:Nh}{y x:V}{u:Value}{T:String}{v:Value}
section
variable {a b:Expr}{ta tb:TE}
theorem i5 {r:R2}(hr:Ax X r)(ha:PE X a ta)(hb:PE X b tb)(hs:eP b):PE X (.Subscript a b pos) (Az r ta tb):=by
 intro QN s σ H Q I h;exact Subscript_ (y8 ha hb I h λv u s2 x y H2 I2 rx ry q=>hr a b QN s2 σ H2 x y v u Q I2 rx ry q (hs _ _))
def J6 (K:P1):R2:=λx y H Q=>∃p xs i v,x= .ref p/\y= .int i/\bt K H p xs/\cq xs i=some v/\Q v H
def JW (K:P1):R2:=λx y H Q=>∃p xs i v,x= .ref p/\y= .int i/\dC K H p xs/\cq xs i=some v/\Q v H
def Kj:R2:=λx y H Q=>∃z i c,x= .str z/\y= .int i/\z.length<=Nb/\cq z.cps.toList i=some c/\Q (.str ⟨#[c]⟩) H
theorem iq:Ax X (J6 X.K):=by
 intro value slice QN s σ H x y v u Q I rx ry h hs;obtain⟨p,xs,i,z,rfl,rfl,hq,he,q⟩:=h;cases rx
 obtain⟨t,rfl⟩:=ry;obtain⟨QO,r,pl,hz⟩:=I.list hq;obtain⟨j,h1,h2,h3,h4,h5⟩:=nJ he;obtain⟨w,ew,TN⟩:=r.get h2;have hl:=r.length;have hn:=iC;have fin:EP X QN σ Q w s:=⟨z,H,I,TN,q⟩;by_cases h0:0<=i
 ·have hj:i.toNat=j:=by
   rw[seqIndex_of h0 h5] at h1;exact Option.some.inj h1
  exact item_listR pl.isList h0 (by omega) (by rw[hj];simpa using ew) fin hs
 ·have hj:(i+(QO.toArray.size:Int)).toNat=j:=by
   rw[seqIndex_neg (by omega) h4] at h1;rw[K6,← hl];exact Option.some.inj h1
  exact subscriptTail_builtinR (x:=w) pl.isList.typeIs slot_list_getitem.lookup
   (wpAny_getItem_list_neg (Q:=λr s'=>r=w/\EP X QN σ Q r s') pl.isList (by omega) (by rw[K6]<;>omega) (by omega) (by rw[hj];simpa using ew) ⟨rfl,fin⟩) hs
theorem FD:Ax X (JW X.K):=by
 intro value slice QN s σ H x y v u Q I rx ry h hs;obtain⟨p,xs,i,z,rfl,rfl,hq,he,q⟩:=h;cases rx
 obtain⟨t,rfl⟩:=ry;obtain⟨QO,r,pl,hz⟩:=I.tuple hq;obtain⟨j,h1,h2,h3,h4,h5⟩:=nJ he;obtain⟨w,ew,TN⟩:=r.get h2;have hl:=r.length;have hn:=iC;have fin:EP X QN σ Q w s:=⟨z,H,I,TN,q⟩;exact subscriptTail_builtinR (x:=w) pl.typeIs slot_tuple_getitem.lookup
  (getItem_tuple (j:=j) (Q:=λr s'=>r=w/\EP X QN σ Q r s') pl (by omega) (by omega) (by rw[K6,← hl];exact h1) (by simpa using ew) ⟨rfl,fin⟩) hs
theorem C9:Ax X Kj:=by
 intro value slice QN s σ H x y v u Q I rx ry h hs;obtain⟨z,i,c,rfl,rfl,hz,he,q⟩:=h;obtain⟨t,rfl⟩:=rx;obtain⟨t',rfl⟩:=ry;obtain⟨j,h1,h2,h3,h4,h5⟩:=nJ he;have hl:z.cps.toList.length=z.length:=by simp[Str.length]
 rw[hl] at h1 h4 h5;have hn:=iC;exact tail_any (Oi s z t) slot_str_getitem.lookup (getItem_str (c:=c) (by
  have e1:decide (i < -(2 ^ 63:Int))=false:=QJ (by omega);have e2:decide (i≥2 ^ 63)=false:=QJ (by omega);rw[e1,e2,Bool.or_false]) (by rw[h1];simpa using h2) ⟨.str ⟨#[c]⟩,H,I.tok _,⟨_,rfl⟩,q⟩) hs
theorem vV (QO:Kv)(n j:Nat)(u:Value):PD (·.setIfInBounds j u) {cls:=.type "list",data:=.seq QO.toArray n}={cls:=.type "list",data:=.seq (QO.set j u).toArray n}:=by
 simp[PD]
theorem Inv.lst {QN:Kq}{σ:St}{H:Hp}{s:M9}{p:Addr}{xs:List V}(I:Inv X QN σ H s)(h:H p=some (.lst xs)):
 ∃(QO:Kv)(n:Nat),Vals xs QO/\s.heap.get? p=some {cls:=.type "list",data:=.seq QO.toArray n}/\xs.length<=Nb:=by
 obtain⟨z,QO,n,r,e⟩:=I.QQ p _ h;exact⟨QO,n,r,e,z⟩
theorem Inv.Fs {p:Addr}{xs ys:List V}{its':Kv}{n':Nat}{f:Obj->Obj}(I:Inv X QN σ H s)(h:H p=some (.lst xs))(ho:s.heap.get? p=some {cls:=.type "list",data:=.seq QO.toArray n})(hf:f {cls:=.type "list",data:=.seq QO.toArray n}={cls:=.type "list",data:=.seq its'.toArray n'})(r:Vals ys its')(hz:ys.length<=Nb)(t:Nat):
 Inv X QN σ (upd H p (.lst ys)) {s with heap:=s.heap.update p f,toks:=t}:=by
 have e:(s.heap.update p f).get? p=some {cls:=.type "list",data:=.seq its'.toArray n'}:=by
  rw[Pp f ho (by rw[hf]<;>rfl),hf]
 refine I.write (x:=p) (e:=p) (by rw[h];trivial) (.inl rfl) (λb u hb q=>(Heap.get?_update_other _ _ (MQ hb)).trans q) ⟨_,e⟩ ?_;exact⟨hz,its',n',r,e⟩
def HE:V->V->V->Hp->(Hp->Prop)->Prop:=λo i v H Q=>∃p xs k j,o= .ref p/\i= .int k/\H p=some (.lst xs)/\eT xs.length k=some j/\Q (upd H p (.lst (xs.set j v)))
theorem set_list:Cs X HE:=by
 intro QN s σ H o i v ov iv u Q I ro ri rv h;obtain⟨p,xs,k,j,rfl,rfl,hp,hj,q⟩:=h;cases ro
 obtain⟨t,rfl⟩:=ri;obtain⟨QO,n,r,ho,hz⟩:=I.lst hp;obtain⟨h1,h2,h3,h4⟩:=nQ hj;have hl:=r.length;have hn:=iC;have I':Inv X QN σ (upd H p (.lst (xs.set j v))) {s with heap:=s.heap.update p (PD (·.setIfInBounds j u))}:=
  I.Fs hp ho (vV QO n j u) (r.set rv j) (by rw[LC];exact hz) s.toks
 by_cases h0:0<=k
 ·have hk:k.toNat=j:=by
   rw[seqIndex_of h0 h4] at h1;exact Option.some.inj h1
  exact PySem.W.ki_setAt ho h0 (by omega) (by rw[K6,← hl];exact h4) (by rw[hk];exact⟨_,I',q⟩)
 ·have hk:(k+(QO.toArray.size:Int)).toNat=j:=by
   rw[seqIndex_neg (by omega) h3] at h1;rw[K6,← hl];exact Option.some.inj h1
  exact PySem.W.ki_setBack ho (by omega) (by rw[K6,← hl];exact h3) (by omega) (by rw[hk];exact⟨_,I',q⟩)
theorem rH (lo hi:Option Int)(n:Nat):(N5 lo hi none n).1=((HT.QX n 0 lo:Nat):Int)/\(N5 lo hi none n).2.1=((HT.QX n n hi:Nat):Int)/\(N5 lo hi none n).2.2=1:=by
 refine⟨?_,?_,rfl⟩
 ·cases lo with
  | none=>simp[N5,HT.QX]
  | some i=>
    simp only[N5,HT.QX,Option.getD_none,show(1:Int)>0 by decide,if_true];by_cases h:i<0
    ·simp only[h,if_true]<;>omega
    ·simp only[h,if_false]<;>omega
 ·cases hi with
  | none=>simp[N5,HT.QX]
  | some i=>
    simp only[N5,HT.QX,Option.getD_none,show(1:Int)>0 by decide,if_true];by_cases h:i<0
    ·simp only[h,if_true]<;>omega
    ·simp only[h,if_false]<;>omega
theorem pV (QO:Kv)(lo hi:Option Int):slicePick QO.toArray lo hi none=((QO.drop (HT.QX QO.length 0 lo)).take (HT.QX QO.length QO.length hi-HT.QX QO.length 0 lo)).toArray:=by
 obtain⟨h1,h2,h3⟩:=rH lo hi QO.toArray.size;unfold slicePick;rw[h1,h2,h3];simp only[sliceRange_one,pick_run,K6]<;>rfl
def J7 (K:P1):V->Option Int->Option Int->Hp->VK->Prop:=λx lo hi H Q=>∃a xs,x= .ref a/\bt K H a xs/\∀p,H p=none->Q (.ref p) (upd H p (.lst (ja xs lo hi)))
theorem Bc:yv X (J7 X.K):=by
 intro QN s σ H x v vl vu lo hi sl Q I rx hs pl pu h;obtain⟨a,xs,rfl,hx,q⟩:=h;cases rx
 obtain⟨QO,r,ht,hz⟩:=I.list hx;have hlen:=r.length;refine⟨"list",_,slot_list_getitem.lookup,ht.isList.typeIs,?_⟩;refine wpAny_getItem_list_slice ht.isList hs pl pu .none (by simp) ?_ (by rw[K6]<;>omega)
 rw[pV,← hlen];refine⟨.ref s.heap.objs.size,_,I.laid (t':=s.toks) (o:=.lst (ja xs lo hi)) (λb ob q=>Pj _ q) (My _) ?_,rfl,q _ (I.QQ.fresh (My _))⟩;exact⟨Mz (lL xs lo hi) hz,_,0,(r.drop (HT.QX xs.length 0 lo)).take (HT.QX xs.length xs.length hi-HT.QX xs.length 0 lo),Pm _ rfl⟩
def fW:V->Bool
 | .QY=>true
 | .bl _=>true
 | .int _=>true
 | .str _=>true
 | _=>false
def lN:V->V->Bool
 | .QY,.QY=>true
 | .bl a,.bl b=>a==b
 | .bl a,.int b=>(if a then 1 else 0)==b
 | .int a,.bl b=>a==(if b then 1 else 0)
 | .int a,.int b=>a==b
 | .str a,.str b=>a==b
 | _,_=>false
theorem Dv (ry:RelV y u)(rx:RelV x v)(fy:fW y=true)(fx:fW x=true):SeqAt.EqAt A s u v (lN y x):=by
 cases y with
 | QY=>
   cases ry
   cases x with
   | QY=>cases rx;exact SeqAt.EqAt.same _
   | bl b=>cases rx;exact SeqAt.EqAt.none_bool b
   | int b=>obtain⟨t,rfl⟩:=rx;exact SeqAt.EqAt.none_int b t
   | str b=>obtain⟨t,rfl⟩:=rx;exact SeqAt.EqAt.none_str b t
   | _=>exact QE (show false=true from fx) KC
 | bl a=>
   cases ry
   cases x with
   | QY=>cases rx;exact SeqAt.EqAt.bool_none a
   | bl b=>cases rx;exact SeqAt.EqAt.bool_bool a b
   | int b=>obtain⟨t,rfl⟩:=rx;exact SeqAt.EqAt.bool_int a b t
   | str b=>obtain⟨t,rfl⟩:=rx;exact SeqAt.EqAt.bool_str a b t
   | _=>exact QE (show false=true from fx) KC
 | int a=>
   obtain⟨t',rfl⟩:=ry;cases x with
   | QY=>cases rx;exact SeqAt.EqAt.int_none a t'
   | bl b=>cases rx;exact SeqAt.EqAt.int_bool a t' b
   | int b=>obtain⟨t,rfl⟩:=rx;exact SeqAt.EqAt.int_int a t' b t
   | str b=>obtain⟨t,rfl⟩:=rx;exact SeqAt.EqAt.int_str a t' b t
   | _=>exact QE (show false=true from fx) KC
 | str a=>
   obtain⟨t',rfl⟩:=ry;cases x with
   | QY=>cases rx;exact SeqAt.EqAt.str_none a t'
   | bl b=>cases rx;exact SeqAt.EqAt.str_bool a t' b
   | int b=>obtain⟨t,rfl⟩:=rx;exact SeqAt.EqAt.str_int a t' b t
   | str b=>obtain⟨t,rfl⟩:=rx;exact SeqAt.EqAt.str_str a t' b t
   | _=>exact QE (show false=true from fx) KC
 | _=>exact QE (show false=true from fy) KC
def fD (x:V)(u:Value):Bool:=match u with
 | .none=>lN .QY x
 | .bool b=>lN (.bl b) x
 | .int i _=>lN (.int i) x
 | .str z _=>lN (.str z) x
 | _=>false
theorem nj (r:RelV y u)(f:fW y=true):fD x u=lN y x:=by
 cases y with
 | QY=>cases r;rfl
 | bl b=>cases r;rfl
 | int i=>obtain⟨t,rfl⟩:=r;rfl
 | str z=>obtain⟨t,rfl⟩:=r;rfl
 | _=>exact QE (show false=true from f) KC
theorem jI {x:V}:∀{xs:List V}{us:Kv},Vals xs us->xs.all fW=true->us.any (fD x)=xs.any λy=>lN y x
 | _,_,.nil,_=>rfl
 | y::xs,u::us,.cons r t,f=>by
   rw[Ms,KD] at f;rw[Md,Md,nj r f.1,jI t f.2]
theorem fc {A:Nh}{s:M9}{x:V}{v:Value}(rx:RelV x v)(fx:fW x=true):∀{xs:List V}{us:Kv},Vals xs us->xs.all fW=true->∀u∈us,SeqAt.EqAt A s u v (fD x u)
 | _,_,.nil,_=>λu hu=>by cases hu
 | y::xs,u::us,.cons r t,f=>λu' hu=>by
   rw[Ms,KD] at f;rcases K8.mp hu with rfl | hu
   ·rw[nj r f.1];exact Dv r rx f.1 fx
   ·exact fc rx fx t f.2 u' hu
def tT (x:V)(xs:List V):Bool:=xs.any λy=>lN y x
def Ig (K:P1)(neg:Bool):R2:=λx y H Q=>∃p xs,y= .ref p/\(bt K H p xs∨dC K H p xs)/\fW x=true/\xs.all fW=true/\Q (.bl (if neg then !tT x xs else tT x xs)) H
theorem kK:dc X (Nn .In) (Ig X.K false):=by
 intro QN s σ H x y v u Q I rx ry h;obtain⟨p,xs,rfl,hq,fx,fs,q⟩:=h;cases ry
 rcases hq with hq | hq
 ·obtain⟨QO,r,pl,hz⟩:=I.list hq;refine SeqAt.in_listAt (fD x) pl.isList (λw hw=>fc rx fx r fs w (by simpa using hw)) ⟨.bl _,H,I,rfl,?_⟩;rw[show QO.toArray.any (fD x)=QO.any (fD x) by simp,jI r fs];exact q
 ·obtain⟨QO,r,pl,hz⟩:=I.tuple hq;refine SeqAt.in_tupleAt (fD x) pl (λw hw=>fc rx fx r fs w (by simpa using hw)) ⟨.bl _,H,I,rfl,?_⟩;rw[show QO.toArray.any (fD x)=QO.any (fD x) by simp,jI r fs];exact q
theorem sC:dc X (Nn .NotIn) (Ig X.K true):=by
 intro QN s σ H x y v u Q I rx ry h;obtain⟨p,xs,rfl,hq,fx,fs,q⟩:=h;cases ry
 rcases hq with hq | hq
 ·obtain⟨QO,r,pl,hz⟩:=I.list hq;refine SeqAt.notIn_listAt (fD x) pl.isList (λw hw=>fc rx fx r fs w (by simpa using hw)) ⟨.bl _,H,I,rfl,?_⟩;rw[show QO.toArray.any (fD x)=QO.any (fD x) by simp,jI r fs];exact q
 ·obtain⟨QO,r,pl,hz⟩:=I.tuple hq;refine SeqAt.notIn_tupleAt (fD x) pl (λw hw=>fc rx fx r fs w (by simpa using hw)) ⟨.bl _,H,I,rfl,?_⟩;rw[show QO.toArray.any (fD x)=QO.any (fD x) by simp,jI r fs];exact q
theorem fR:dy X (.builtin "len") (λxs H Q=>∃p ys,xs=[.ref p]/\(bt X.K H p ys∨dC X.K H p ys)/\Q (.int ys.length) H):=by
 intro QN s σ H xs us Q I r h;obtain⟨p,ys,rfl,hq,q⟩:=h;obtain⟨u,rfl,rx⟩:=vals1 r;cases rx
 have hn:=iC;rcases hq with hq | hq
 ·obtain⟨QO,r',pl,hz⟩:=I.list hq;have hlen:=r'.length;exact Calls.call_len_list pl.isList (by simp only[K6]<;>omega) ⟨.int ys.length,H,I.tok _,⟨s.toks+1,by rw[K6,hlen]⟩,q⟩
 ·obtain⟨QO,r',pl,hz⟩:=I.tuple hq;have hlen:=r'.length;exact len_tuple pl (by simp only[K6]<;>omega) ⟨.int ys.length,H,I.tok _,⟨s.toks+1,by rw[K6,hlen]⟩,q⟩
theorem rh:dy X (.builtin "len") (λxs H Q=>∃z,xs=[.str z]/\z.length<=Nb/\Q (.int z.length) H):=by
 intro QN s σ H xs us Q I r h;obtain⟨z,rfl,hz,q⟩:=h;obtain⟨u,rfl,t,rfl⟩:=vals1 r;have hn:=iC;exact len_str (by omega) ⟨.int z.length,H,I.tok _,⟨_,rfl⟩,q⟩
def DY (K:P1)(T:String)(x:V)(H:Hp):Prop:=match x with
 | .str _=>T="str"
 | .int _=>T="int"
 | .ref p=>(T="list"/\∃xs,bt K H p xs)∨(T="tuple"/\∃o,K.lookup p=some o/\o.cls= .type "tuple"/\o.dict=none)∨
  (T="dict"/\((∃kvs,H p=some (.dK kvs))∨∃kvs,H p=some (.dT kvs)))∨(T="set"/\∃S n,H p=some (.set S n))
 | _=>False
theorem xk (I:Inv X QN σ H s)(r:RelV x v)(ty:DY X.K T x H):
 s.TypeIs v T/\∀a,v= .ref a->∃ob,s.heap.get? a=some ob/\ob.dict=none:=by
 cases x with
 | str z=>
   obtain⟨t,rfl⟩:=r;cases (show T="str" from ty)
   exact⟨Oi s z t,λ_ e=>nomatch e⟩
 | int i=>
   obtain⟨t,rfl⟩:=r;cases (show T="int" from ty)
   exact⟨typeIs_int s i t,λ_ e=>nomatch e⟩
 | ref p=>
   cases r
   rcases ty with⟨rfl,xs,hq⟩ | ⟨rfl,o,hk,hc,hd⟩ | ⟨rfl,hk⟩ | ⟨rfl,S,n,hk⟩
   ·obtain⟨QO,_,pl,_⟩:=I.list hq;refine⟨pl.isList.typeIs,λa e=>?_⟩;cases e
    obtain⟨o,n,e,c,hd,_⟩:=pl;exact⟨o,e,hd⟩
   ·refine⟨⟨o,I.cY p o hk,hc⟩,λa e=>?_⟩;cases e
    exact⟨o,I.cY _ o hk,hd⟩
   ·have z:∃o,s.heap.get? p=some o/\o.ExactDict:=by
     rcases hk with⟨kvs,hk⟩ | ⟨kvs,hk⟩
     ·obtain⟨_,_,_,_,o,_,_,e,ex,_⟩:=I.QQ p _ hk;exact⟨o,e,ex⟩
     ·obtain⟨_,_,_,_,o,_,_,e,ex,_⟩:=I.QQ p _ hk;exact⟨o,e,ex⟩
    obtain⟨o,e,ex⟩:=z;refine⟨⟨o,e,ex.1⟩,λa e2=>?_⟩;cases e2
    exact⟨o,e,ex.2.1⟩
   ·obtain⟨o,_,_,_,e,ex,_⟩:=I.QQ p _ hk;refine⟨⟨o,e,ex.1⟩,λa e2=>?_⟩;cases e2
    exact⟨o,e,ex.2.1⟩
 | _=>exact KO ty
def Kb (K:P1)(T:String)(r:V->List V->Hp->VK->Prop)(to:TE):TE:=λσ H Q=>to σ H λx H1=>DY K T x H1/\r x [] H1 Q
def tBM (K:P1)(T:String)(r:V->List V->Hp->VK->Prop)(to:TE)(t:TA):TE:=λσ H Q=>to σ H λx H1=>DY K T x H1/\t σ H1 λxs H2=>r x xs H2 Q
variable {o:Expr}{es:Kw}{to:TE}{t:TA}{name:Str}{apos RA:Pos}{id:String}{r:V->List V->Hp->VK->Prop}
theorem CV (pa:PlainAttrs T)(slot:Slot T name id)(hty:typeOf (.builtin id)=pure (.type "method_descriptor"))(hm:qX X id r)(ho:PE X o to)(QS:Ni o name X.env (eval o X.env)=eval o X.env:=by rfl)(QZ:(apos.endLine==RA.line)=true:=by rfl):PE X (.Call (.Attribute o name apos) [] [] RA) (Kb X.K T r to):=by
 intro QN s σ H Q I h;refine wpAny_Call_method0_late QS QZ (aO (ho QN s σ H _ I h) λv s1 ⟨x,H1,I1,r1,ty,q1⟩=>?_);obtain⟨h1,h2⟩:=xk I1 r1 ty;exact⟨T,id,pa,slot,hty,h1,h2,O6 rfl (PySem.evalArgs_none (hm QN s1 σ H1 x [] v [] Q I1 r1 .nil q1))⟩
theorem hX (pa:PlainAttrs T)(slot:Slot T name id)(hty:typeOf (.builtin id)=pure (.type "method_descriptor"))(hm:qX X id r)(ho:PE X o to)(ha:PA X (e::es) t)(QS:Ni o name X.env (eval o X.env)=eval o X.env:=by rfl)(Ri:((Nk RA (Nc (e::es) X.env)).all (λx=> !x.1)&&(NY RA (ND [] X.env)).all (λx=>x.1.isSome)
  &&decide ((e::es).length+([]:List Nt).length+(if([]:List Nt).isEmpty then 0 else 1)<30))=true:=by rfl)(QZ:(apos.endLine==RA.line)=true:=by rfl)(hs:Nc (e::es) X.env=(false,eval e X.env)::Nc es X.env:=by rfl)(Ux:(Nk RA (Nc es X.env)).any (·.1)=false:=by rfl):
 PE X (.Call (.Attribute o name apos) (e::es) [] RA) (tBM X.K T r to t):=by
 intro QN s σ H Q I h;refine wpAny_Call_method_late QS Ri QZ rfl (aO (ho QN s σ H _ I h) λv s1 ⟨x,H1,I1,r1,ty,q1⟩=>?_);obtain⟨h1,h2⟩:=xk I1 r1 ty;refine⟨T,id,pa,slot,hty,h1,h2,?_⟩;have hA:=ha RA QN s1 σ H1 _ I1 q1;rw[hs] at hA ⊢;refine O6 (by show(false ||(Nk RA (Nc es X.env)).any (·.1))=false;rw[Ux]<;>rfl) (Calls.evalArgs_plain ?_)
 exact aO hA λus s2 ⟨vs,H2,I2,r2,q2⟩=>hm QN s2 σ H2 x vs v us Q I2 r1 r2 q2
end
def Au (X:Cx)(id:String)(r:V->List V->Hp->VK->Prop):Prop:=
 ∀(QN:Kq)(s:M9)(σ:St)(H:Hp)(x:V)(xs:List V)(v:Value)(us:Kv)(Q:VK),Inv X QN σ H s->RelV x v->Vals xs us->r x xs H Q->
  wpAny (model X.prog X.w) X.A (call (.builtin id) (v::us)) (EP X QN σ Q) X.xe s
theorem Vals.one:∀{x:V}{us:Kv},Vals [x] us->∃u,us=[u]/\RelV x u
 | _,_,.cons r .nil=>⟨_,rfl,r⟩
theorem Vals.zero:∀{us:Kv},Vals [] us->us=[]
 | _,.nil=>rfl
theorem Vals.dropLast {xs:List V}{us:Kv}(h:Vals xs us):Vals xs.dropLast us.dropLast:=by
 induction h with
 | nil=>exact .nil
 | cons r t ih=>
   cases t with
   | nil=>exact .nil
   | cons q t'=>exact .cons r ih
theorem vK (l:List α):l.eraseIdx (l.length-1)=l.dropLast:=by
 induction l with
 | nil=>rfl
 | cons a r ih=>
   cases r with
   | nil=>rfl
   | cons b r=>
     have e:(a::b::r).length-1=((b::r).length-1)+1:=by
      have h1:(a::b::r).length=r.length+2:=rfl;have h2:(b::r).length=r.length+1:=rfl;omega
     rw[e,List.eraseIdx_cons_succ,ih]
     all_goals rfl
variable {t':Nat}
section
variable {l b:Addr}{xs ys zs:List V}
theorem Inv.vX {its':Kv}{f:Array Value->Array Value}(I:Inv X QN σ H s)(hH:H l=some (.lst xs))(e:s.heap.get? l=some {cls:=.type "list",data:=.seq QO.toArray n})(hf:f QO.toArray=its'.toArray)(hv:Vals ys its')(hz:ys.length<=Nb):
 Inv X QN σ (upd H l (.lst ys)) {s with heap:=s.heap.update l (PD f),toks:=t'}:=by
 have q:=PySem.IsL.update e f;rw[hf] at q;refine I.write (x:=l) (e:=l) (by rw[hH];exact trivial) (.inl rfl) (λb' u hb hu=>(Heap.get?_update_other s.heap (PD f) (MQ hb)).trans hu) ⟨_,q⟩ ?_;exact⟨hz,its',_,hv,q⟩
theorem Inv.Ke (I:Inv X QN σ H s)(hv:Vals ys QO)(hz:ys.length<=Nb):
 Inv X QN σ (upd H s.heap.objs.size (.lst ys)) {s with heap:=s.heap.push {cls:=.type "list",data:=.seq QO.toArray},toks:=t'}:=
 I.laid (λ_ _ q=>Pj _ q) (My _) ⟨hz,QO,0,hv,Pm _ rfl⟩
theorem Inv.fresh (I:Inv X QN σ H s):H s.heap.objs.size=none:=I.QQ.fresh (My _)
theorem Inv.jc (I:Inv X QN σ H s)(hH:H l=some (.lst xs)):xs.length<=Nb/\∃(QO:Kv)(n:Nat),Vals xs QO/\xs.length=QO.length/\s.heap.get? l=some {cls:=.type "list",data:=.seq QO.toArray n}:=by
 obtain⟨z,QO,n,r,e⟩:=I.QQ l _ hH;exact⟨z,QO,n,r,r.length,e⟩
theorem zQ (h:n<=Nb):Ot.List.listTooLong n=false:=by
 unfold Ot.List.listTooLong;exact QJ (by omega)
end
def Bt:V->List V->Hp->VK->Prop:=λx vs H Q=>∃l xs y,x= .ref l/\vs=[y]/\H l=some (.lst xs)/\xs.length<Nb/\Q .QY (upd H l (.lst (xs++[y])))
theorem oU:Au X "list.append" Bt:=by
 intro QN s σ H x vs v us Q I rx rv h;obtain⟨l,xs,y,rfl,rfl,hH,hz,q⟩:=h;cases rx
 obtain⟨u,rfl,ru⟩:=rv.one;obtain⟨z,QO,n,r,hl,e⟩:=I.jc hH;refine NX F.slot_list_append ⟨_,e,rfl⟩ F.entry_list_append (F.args_list_append_2 _ _) (PySem.list_append l QO.toArray n u (by rw[K6];omega)) ⟨e,?_⟩;refine⟨.QY,_,I.vX (its':=QO++[u]) hH e (by simp) (r.append (.cons ru .nil)) ?_,rfl,q⟩;rw[K3,LG];omega
def B5:V->List V->Hp->VK->Prop:=λx vs H Q=>∃l b xs zs,x= .ref l/\vs=[.ref b]/\H l=some (.lst xs)/\H b=some (.lst zs)/\xs.length+zs.length<=Nb/\Q .QY (upd H l (.lst (xs++zs)))
theorem xy:Au X "list.extend" B5:=by
 intro QN s σ H x vs v us Q I rx rv h;obtain⟨l,b,xs,zs,rfl,rfl,hH,hB,hz,q⟩:=h;cases rx
 obtain⟨u,rfl,ru⟩:=rv.one;cases ru
 obtain⟨z,QO,n,r,hl,e⟩:=I.jc hH;obtain⟨z2,Sz,n2,r2,UD,e2⟩:=I.jc hB;have hsz:QO.toArray.size+Sz.toArray.size<=Nb:=by rw[K6,K6];omega
 have VG:¬(!QO.toArray.isEmpty&&Ot.List.listTooLong (QO.toArray.size+Sz.toArray.size))=true:=by
  rw[zQ hsz,Bool.and_false];exact KC
 refine NX F.slot_list_extend ⟨_,e,rfl⟩ F.entry_list_extend (F.args_list_extend_2 _ _)
  (AutoSeq1.list_extend_list_list_0 l QO.toArray n b Sz.toArray n2 VG (by rw[K6];omega) (by omega)) ⟨e,e2,?_⟩
 refine⟨.QY,_,I.vX (its':=QO++Sz) hH e (by simp) (r.append r2) ?_,rfl,q⟩;rw[K3];omega
def JP:V->List V->Hp->VK->Prop:=λx vs H Q=>∃l xs y,x= .ref l/\vs=[]/\H l=some (.lst xs)/\xs[xs.length-1]?=some y/\Q y (upd H l (.lst xs.dropLast))
theorem EN:Au X "list.pop" JP:=by
 intro QN s σ H x vs v us Q I rx rv h;obtain⟨l,xs,y,rfl,rfl,hH,hy,q⟩:=h;cases rx
 have hus:=rv.zero;subst hus;obtain⟨z,QO,n,r,hl,e⟩:=I.jc hH;obtain⟨u,hu,ru⟩:=r.get hy;have hy':QO.toArray[QO.toArray.size-1]?=some u:=by
  show QO.toArray[QO.length-1]?=some u;rw[← Array.getElem?_toList,← hl];exact hu
 refine NX F.slot_list_pop ⟨_,e,rfl⟩ F.entry_list_pop (F.args_list_pop_1 _) (MeetsSeq.list_pop_last l QO.toArray n u hy' (by rw[K6];omega)) ⟨e,?_⟩;refine⟨y,_,I.vX (its':=QO.dropLast) hH e ?_ r.dropLast ?_,ru,q⟩
 ·show QO.toArray.eraseIdxIfInBounds (QO.toArray.size-1)=QO.dropLast.toArray;rw[K6,List.eraseIdxIfInBounds_toArray,vK]
 ·rw[Mm];omega
def JI:R2:=λx y H Q=>∃l b xs zs,x= .ref l/\y= .ref b/\H l=some (.lst xs)/\H b=some (.lst zs)/\xs.length+zs.length<=Nb/\∀p,H p=none->Q (.ref p) (upd H p (.lst (xs++zs)))
theorem EK:dc X (NS .Add) JI:=by
 intro QN s σ H x y v u Q I rx ry h;obtain⟨l,b,xs,zs,rfl,rfl,hH,hB,hz,q⟩:=h;cases rx
 cases ry
 obtain⟨z,QO,n,r,hl,e⟩:=I.jc hH;obtain⟨z2,Sz,n2,r2,UD,e2⟩:=I.jc hB;refine PySem.P.add_list e e2 ?_ (by rw[K6,K6];omega);have ea:QO.toArray++Sz.toArray=(QO++Sz).toArray:=by simp
 rw[ea];exact⟨.ref _,_,I.Ke (t':=s.toks) (r.append r2) (by rw[K3];omega),rfl,q _ I.fresh⟩
variable {prog:Nf}{w:World}{E:Value->M9->Prop}
variable {o:Option V}
section
variable {κ:Type} [DecidableEq κ]
variable {kvs:List (κ×V)}{vs:List (κ×Value)}
def cD (kvs:List (κ×V))(k:κ):Option V:=(kvs.find? λkv=>decide (kv.1=k)).map (·.2)
def putK (kvs:List (κ×V))(k:κ)(v:V):List (κ×V):=
 if(kvs.any λkv=>decide (kv.1=k))=true then kvs.map (λkv=>if kv.1=k then(kv.1,v) else kv) else kvs++[(k,v)]
theorem cR {p:κ×V}{r:List (κ×V)}{k:κ}(e:p.1=k):cD (p::r) k=some p.2:=by simp[cD,LP,e]
theorem cQ {p:κ×V}{r:List (κ×V)}{k:κ}(e:¬p.1=k):cD (p::r) k=cD r k:=by simp[cD,LP,e]
theorem eL (k:κ):∀kvs:List (κ×V),(kvs.any λkv=>decide (kv.1=k))=(cD kvs k).isSome
 | []=>rfl
 | p::r=>by
   rw[Md];by_cases e:p.1=k
   ·simp only[cR e,decide_eq_true e,Bool.true_or,Option.isSome_some]
   ·rw[cQ e,QJ e,Bool.false_or];exact eL k r
theorem qU (k j:κ)(y:V):∀kvs:List (κ×V),cD (kvs.map λkv=>if kv.1=k then(kv.1,y) else kv) j=(cD kvs j).map λx=>if j=k then y else x
 | []=>rfl
 | p::r=>by
   have ih:=qU k j y r;rw[Lm];by_cases h:p.1=k
   ·rw[QG h];by_cases e:p.1=j
    ·rw[cR (p:=(p.1,y)) e,cR e,MU,QG (e.symm.trans h)]
    ·rw[cQ (p:=(p.1,y)) e,cQ e,ih]
   ·rw[QF h];by_cases e:p.1=j
    ·rw[cR (p:=p) e,cR e,MU,QF (λz=>h (e.trans z))]
    ·rw[cQ (p:=p) e,cQ e,ih]
theorem oM (k j:κ)(y:V):∀kvs:List (κ×V),cD kvs k=none->cD (kvs++[(k,y)]) j=if j=k then some y else cD kvs j
 | [],_=>by
   by_cases e:k=j
   ·rw[QG e.symm];exact cR (p:=(k,y)) e
   ·rw[QF (λz=>e z.symm)];exact cQ (p:=(k,y)) e
 | p::r,hn=>by
   rw[Mg];have hk:¬p.1=k:=λz=>by rw[cR z] at hn;cases hn
   rw[cQ hk] at hn;have ih:=oM k j y r hn;by_cases e:p.1=j
   ·rw[cR e,cR e,QF (λz=>hk (e.trans z))]
   ·rw[cQ e,cQ e,ih]
theorem yU (kvs:List (κ×V))(k j:κ)(y:V):cD (putK kvs k y) j=if j=k then some y else cD kvs j:=by
 unfold putK;by_cases a:(kvs.any λkv=>decide (kv.1=k))=true
 ·rw[QG a,qU];rw[eL] at a;by_cases e:j=k
  ·obtain⟨x,hx⟩:=Option.isSome_iff_exists.mp a;rw[QG e,e,hx,MU,QG rfl]
  ·rw[QF e];cases cD kvs j with
   | none=>rfl
   | some x=>rw[MU,QF e]
 ·rw[QF a];refine oM k j y kvs ?_;rw[eL] at a;cases q:cD kvs k with
  | none=>rfl
  | some x=>rw[q] at a;exact(a rfl).elim
theorem jf (kvs:List (κ×V))(k:κ)(v:V):(putK kvs k v).length<=kvs.length+1:=by
 unfold putK;split
 ·rw[KY];omega
 ·rw[K3,Lg,Mt];omega
theorem sY {k:κ}(v:V)(h:cD kvs k=none):putK kvs k v=kvs++[(k,v)]:=by
 unfold putK;rw[eL,h];exact QF (by decide)
theorem fL.gB {u:Kt}(r:fL o u):o.isSome=u.isSome:=by
 cases o with
 | none=>cases u with
   | none=>rfl
   | some _=>exact(show False from r).elim
 | some _=>cases u with
   | none=>exact(show False from r).elim
   | some _=>rfl
theorem KV.val (r:KV kvs vs)(k:κ):fL (cD kvs k) (NH vs k):=by
 unfold KV at r
 induction r with
 | nil=>exact QD
 | @cons p q ps qs h t ih=>
   obtain⟨h1,h2⟩:=h;by_cases e:p.1=k
   ·have e':q.1=k:=h1.symm.trans e;have b:NH (q::qs) k=some q.2:=by simp[NH,LP,e']
    rw[cR e,b];exact h2
   ·have e':¬q.1=k:=λz=>e (h1.trans z);have b:NH (q::qs) k=NH qs k:=by simp[NH,LP,e']
    rw[cQ e,b];exact ih
theorem KV.any (r:KV kvs vs)(k:κ):(kvs.any λkv=>decide (kv.1=k))=vs.any λkv=>decide (kv.1=k):=by
 unfold KV at r
 induction r with
 | nil=>rfl
 | cons h t ih=>rw[Md,Md,ih,h.1]
theorem KV.zy (r:KV kvs vs)(k:κ)(ry:RelV y u):
 KV (kvs.map λkv=>if kv.1=k then(kv.1,y) else kv) (vs.map λkv=>if kv.1=k then(kv.1,u) else kv):=by
 unfold KV at r ⊢
 induction r with
 | nil=>exact .nil
 | @cons p q ps qs h t ih=>
   rw[Lm,Lm];refine .cons ?_ ih;obtain⟨h1,h2⟩:=h;by_cases e:p.1=k
   ·rw[QG e,QG (h1.symm.trans e)];exact⟨h1,ry⟩
   ·rw[QF e,QF (λz=>e (h1.trans z))];exact⟨h1,h2⟩
theorem KV.put (r:KV kvs vs)(k:κ)(ry:RelV y u):KV (putK kvs k y) (stored vs k u):=by
 unfold putK stored;rw[r.any k];by_cases e:(vs.any λkv=>decide (kv.1=k))=true
 ·rw[QG e,QG e];exact r.zy k ry
 ·rw[QF e,QF e];exact Paired.snoc r ⟨rfl,ry⟩
theorem KV.length (r:KV kvs vs):kvs.length=vs.length:=Paired.length r
end
variable {P:Nf}{H':Hp}
section
variable {kvs:List (List Key×V)}{xs:List (List Key×Addr×Value)}
theorem hZ {k:Key}(r:RelV (kV k) u):(bP P w).is k u=true:=by
 cases k with
 | inl i=>obtain⟨t,e⟩:=(show∃t,u=PR i t from r);subst e;exact tF P w i t
 | inr x=>obtain⟨t,e⟩:=(show∃t,u=PU x t from r);subst e;exact cV P w x t
theorem pA {P:Nf}{w:World}:∀{ks:List Key}{us:Kv},Vals (ks.map kV) us->ItemsAre (bP P w) ks us
 | [],_,r=>by rw[Mq] at r;cases r;exact .nil
 | k::ks,_,r=>by
   rw[Lm] at r;cases r with
   | cons h t=>exact .cons (hZ h) (pA t)
abbrev KT (H:Hp):List (List Key×V)->List (List Key×Addr×Value)->Prop:=Paired λp q=>p.1=q.1/\H q.2.1=some (.tup (p.1.map kV))/\RelV p.2 q.2.2
theorem KT.val (r:KT H kvs xs)(k:List Key):fL (cD kvs k) ((atKey xs k).map (·.2)):=by
 induction r with
 | nil=>exact QD
 | @cons p q ps qs h t ih=>
   obtain⟨h1,_,h2⟩:=h;by_cases e:p.1=k
   ·have e':q.1=k:=h1.symm.trans e;have b:atKey (q::qs) k=some q.2:=by simp[atKey,LP,e']
    rw[cR e,b];exact h2
   ·have e':¬q.1=k:=λz=>e (h1.trans z);have b:atKey (q::qs) k=atKey qs k:=by simp[atKey,LP,e']
    rw[cQ e,b];exact ih
theorem KT.zy (r:KT H kvs xs)(k:List Key)(ry:RelV y u):
 KT H (kvs.map λkv=>if kv.1=k then(kv.1,y) else kv) (xs.map (putAt k u)):=by
 induction r with
 | nil=>exact .nil
 | @cons p q ps qs h t ih=>
   rw[Lm,Lm];refine .cons ?_ ih;obtain⟨h1,h2,h3⟩:=h;unfold putAt;by_cases e:p.1=k
   ·rw[QG e,QG (h1.symm.trans e)];exact⟨h1,h2,ry⟩
   ·rw[QF e,QF (λz=>e (h1.trans z))];exact⟨h1,h2,h3⟩
theorem KT.put (r:KT H kvs xs)(k:List Key){b:Addr}(hb:H b=some (.tup (k.map kV)))(ry:RelV y u):
 KT H (putK kvs k y) (storedH xs k b u):=by
 have e:(kvs.any λkv=>decide (kv.1=k))=(atKey xs k).isSome:=by
  rw[eL,(r.val k).gB,MV]
 unfold putK storedH;rw[e];by_cases q:(atKey xs k).isSome=true
 ·rw[QG q,QG q];exact r.zy k ry
 ·rw[QF q,QF q];exact Paired.snoc r ⟨rfl,hb,ry⟩
theorem KT.keeps (r:KT H kvs xs)(ht:∀b ys,H b=some (.tup ys)->H' b=some (.tup ys)):KT H' kvs xs:=
 Paired.zL r λ_ _ z=>⟨z.1,ht _ _ z.2.1,z.2.2⟩
end
variable {kvs:List (Key×V)}{a:Addr}
section
variable {h:Heap}
theorem AO {u:HO}(ok:bW P w H h)(e:Rd H a u):bQ P w H h a u:=e.ok ok
theorem kX (ok:bW P w H h)(e:Rd H a (.dK kvs)):kvs.length<=Nb/\(a==Nw)=false/\∃vs,KV kvs vs/\h.DictOf (bP P w) a vs:=
 show bQ P w H h a (.dK kvs) from AO ok e
theorem vL (ok:bW P w H h)(e:H a=some (.dK kvs)):kvs.length<=Nb/\(a==Nw)=false/\∃vs,KV kvs vs/\h.DictOf (bP P w) a vs:=kX ok (.inl e)
theorem kH {ks:List Key}(ok:bW P w H h)(e:H a=some (.tup (ks.map kV))):(OF (bP P w)).is h ks a:=by
 obtain⟨_,QO,r,o,h1,h2,n,h3⟩:=(show bQ P w H h a (.tup (ks.map kV)) from ok a _ e);exact⟨o,QO.toArray,n,h1,h2,h3,by simpa using pA r⟩
theorem mM {kvs:List (List Key×V)}(ok:bW P w H h)(e:Rd H a (.dT kvs)):kvs.length<=Nb/\(a==Nw)=false/\
 ∃xs,KT H kvs xs/\h.DictOfH (OF (bP P w)) a xs:=by
 obtain⟨z,y,xs,r,o,es,ep,h1,h2,h3,h4,h5⟩:=(show bQ P w H h a (.dT kvs) from AO ok e);refine⟨z,y,xs,r,o,es,ep,h1,h2,h3,h4,λx hx=>?_,h5⟩;have all:∀{l:List (List Key×V)}{m:List (List Key×Addr×Value)},KT H l m->∀x∈m,(OF (bP P w)).is h x.1 x.2.1:=by
  intro l m q
  induction q with
  | nil=>intro x hx;exact nomatch hx
  | @cons p q ps qs hq t ih=>
    intro x hx;rcases K8.mp hx with e | hx
    ·subst e;exact kH ok (by rw[← hq.1];exact hq.2.1)
    ·exact ih x hx
 exact all r x hx
theorem Hz {kvs:List (List Key×V)}(ok:bW P w H h)(e:H a=some (.dT kvs)):kvs.length<=Nb/\(a==Nw)=false/\
 ∃xs,KT H kvs xs/\h.DictOfH (OF (bP P w)) a xs:=mM ok (.inl e)
end
def fE (H:Hp)(a:Addr)(y:V)(r:Option V):Prop:=
 (∃kvs k,Rd H a (.dK kvs)/\y=kV k/\r=cD kvs k)∨∃kvs k b,Rd H a (.dT kvs)/\y= .ref b/\H b=some (.tup (k.map kV))/\r=cD kvs k
def mj (H:Hp)(a:Addr)(y v:V)(H':Hp):Prop:=
 (∃kvs k,H a=some (.dK kvs)/\y=kV k/\kvs.length<Nb/\H'=upd H a (.dK (putK kvs k v)))∨
 ∃kvs k b,H a=some (.dT kvs)/\y= .ref b/\H b=some (.tup (k.map kV))/\kvs.length<Nb/\H'=upd H a (.dT (putK kvs k v))
theorem fE.k {H:Hp}{a:Addr}{kvs:List (Key×V)}{k:Key}(e:H a=some (.dK kvs)):fE H a (kV k) (cD kvs k):=.inl ⟨kvs,k,.inl e,rfl,rfl⟩
theorem mj.k {H:Hp}{a:Addr}{kvs:List (Key×V)}{k:Key}{v:V}(e:H a=some (.dK kvs))(hl:kvs.length<Nb):mj H a (kV k) v (upd H a (.dK (putK kvs k v))):=.inl ⟨kvs,k,e,rfl,hl,rfl⟩
variable {Q:Value->M9->Prop}{h':Heap}
section
variable {v:V}{r:Value}
theorem Inv.big (I:Inv X QN σ H s):Nw<s.heap.objs.size:=by
 have h:Ng<s.heap.objs.size:=(I.mod.glob.keeps I.bk).lt;exact Nat.lt_trans (by decide) h
theorem wF (hu:A.units+1<cLine)(I:Inv X QN σ H s)(g:fE H a y (some v))(ry:RelV y u)(h:∀w' s',Inv X QN σ H s'->RelV v w'->Q w' s'):
 wpAny (model X.prog X.w) A (Oa (.ref a) u) Q E s:=by
 rcases g with⟨kvs,k,e,ey,l⟩ | ⟨kvs,k,b,e,ey,eb,l⟩
 ·subst ey;obtain⟨z,hd,vs,rel,dd⟩:=kX I.QQ e;obtain⟨w',hw,TN⟩:=fL.some_of (v:=v) (o:=NH vs k) (by rw[l];exact rel.val k);exact wpAny_getItem_of (hZ ry) dd.mapOf hw (h w' _ (I.tok _) TN)
 ·subst ey;cases (show u=PM b from ry)
  obtain⟨z,hd,xs,rel,dd⟩:=mM I.QQ e;obtain⟨w',hw,TN⟩:=fL.some_of (v:=v) (o:=(atKey xs k).map (·.2)) (by rw[l];exact rel.val k);obtain⟨p,hp,hp2⟩:=MT.mp hw;refine wpAny_getItem_heap (N8 hu) (kH I.QQ eb) dd hp ?_;rw[hp2];exact h w' _ (I.tok _) TN
theorem JJ (hu:A.units+1<cLine)(I:Inv X QN σ H s)(g:fE H a y o)(ry:RelV y u)(h:∀s',Inv X QN σ H s'->Q (.bool o.isSome) s'):
 wpAny (model X.prog X.w) A (Nn .In u (.ref a)) Q E s:=by
 rcases g with⟨kvs,k,e,ey,l⟩ | ⟨kvs,k,b,e,ey,eb,l⟩
 ·subst ey;obtain⟨z,hd,vs,rel,dd⟩:=kX I.QQ e;refine wpAny_in_of (hZ ry) hd dd.mapOf ?_;rw[← (rel.val k).gB,← l];exact h _ (I.tok _)
 ·subst ey;cases (show u=PM b from ry)
  obtain⟨z,hd,xs,rel,dd⟩:=mM I.QQ e;refine wpAny_in_heap (N8 hu) (kH I.QQ eb) hd dd ?_;have q:=(rel.val k).gB;rw[MV] at q;rw[← q,← l];exact h _ (I.tok _)
theorem Ck (hu:A.units+1<cLine)(I:Inv X QN σ H s)(g:fE H a y o)(ry:RelV y u)(h:∀s',Inv X QN σ H s'->Q (.bool (!o.isSome)) s'):
 wpAny (model X.prog X.w) A (Nn .NotIn u (.ref a)) Q E s:=by
 rcases g with⟨kvs,k,e,ey,l⟩ | ⟨kvs,k,b,e,ey,eb,l⟩
 ·subst ey;obtain⟨z,hd,vs,rel,dd⟩:=kX I.QQ e;refine wpAny_notIn_of (hZ ry) hd dd.mapOf ?_;rw[← (rel.val k).gB,← l];exact h _ (I.tok _)
 ·subst ey;cases (show u=PM b from ry)
  obtain⟨z,hd,xs,rel,dd⟩:=mM I.QQ e;refine wpAny_notIn_heap (N8 hu) (kH I.QQ eb) hd dd ?_;have q:=(rel.val k).gB;rw[MV] at q;rw[← q,← l];exact h _ (I.tok _)
theorem lh {ob:HO}(I:Inv X QN σ H s)(mu:yx (H a))(hs:Pq a s.heap h')(he:∃q,h'.get? a=some q)(new:bQ X.prog X.w (upd H a ob) h' a ob):
 Inv X QN σ (upd H a ob) {s with heap:=h',toks:=t'}:=
 I.write (x:=a) (e:=a) mu (.inl rfl) (λb q hb z=>(hs.2 b hb).trans z) he new
theorem rJ {vs:List (Key×Value)}(z:kvs.length<=Nb)(hd:(a==Nw)=false)(rel:KV kvs vs)(dd:h'.DictOf (bP P w) a vs):
 bQ P w H' h' a (.dK kvs):=⟨z,hd,vs,rel,dd⟩
theorem yj {Q:Unit->M9->Prop}(hu:A.units+1<cLine)(I:Inv X QN σ H s)(g:mj H a y v H')(ry:RelV y u)(rv:RelV v r)(h:∀s',Inv X QN σ H' s'->Q () s'):
 wpAny (model X.prog X.w) A (setItem (.ref a) u r) Q E s:=by
 rcases g with⟨kvs,k,e,ey,l,eH⟩ | ⟨kvs,k,b,e,ey,eb,l,eH⟩
 ·subst ey eH;obtain⟨z,hd,vs,rel,dd⟩:=vL I.QQ e;have hz:vs.length<=Nb:=by rw[← rel.length];exact z
  have hl:(putK kvs k v).length<=Nb:=by have:=jf kvs k v;omega
  refine wpAny_setItem_pairs (hsz:=hz) (hZ ry) dd λh' TC hs=>h _ ?_;have he:∃q,h'.get? a=some q:=let ⟨q,_,_,hq,_⟩:=TC;⟨q,hq⟩;exact lh I (by rw[e];exact QD) hs he (rJ hl hd (rel.put k rv) TC)
 ·subst ey eH;cases (show u=PM b from ry)
  obtain⟨z,hd,xs,rel,dd⟩:=Hz I.QQ e;have hz:xs.length<=Nb:=by rw[← Paired.length rel];exact z
  have hl:(putK kvs k v).length<=Nb:=by have:=jf kvs k v;omega
  refine wpAny_setItem_heap (hsz:=hz) (N8 hu) (kH I.QQ eb) dd λh' TC hs=>h _ ?_;obtain⟨q,es,ep,hq,h2,h3,h4,_,h5⟩:=TC;refine lh I (by rw[e];exact QD) hs ⟨q,hq⟩ ⟨hl,hd,_,(rel.put k eb rv).keeps λc ys ec=>?_,q,es,ep,hq,h2,h3,h4,h5⟩;rw[aA (HP ec e (λz=>nomatch z))];exact ec
end
section
variable {k:Key}
theorem Hs (I:Inv X QN σ H s)(e:Rd H a (.dK kvs))(h:∀t s',Inv X QN σ H s'->Q (.int kvs.length t) s'):wpAny (model X.prog X.w) A (call (.builtin "len") [.ref a]) Q E s:=by
 obtain⟨z,hd,vs,rel,dd⟩:=kX I.QQ e;refine call_len_dict hd dd (by rw[← rel.length];rw[Oc] at z;omega) ?_;rw[← rel.length];exact h _ _ (I.tok _)
end
def zN (i:Expr):Prop:=∀ov iv,OJ i false ov iv=operate [ov,iv] (Oa ov iv)
theorem B8 {env:Env}{value slice:Expr}{id:String}(hl:typeLookup (.type T) "__getitem__"=pure (some (.builtin id)))(hs:zN slice)(h:wpAny (model prog w) A (eval value env) (λo s₁=>wpAny (model prog w) A (eval slice env) (λi s₂=>s₂.TypeIs o T/\wpAny (model prog w) A (Oa o i) Q E s₂) E s₁) E s):
 wpAny (model prog w) A (eval (.Subscript value slice pos) env) Q E s:=by
 refine Subscript_ (Nj h (λo s₁ h₁=>Nj h₁ (λi s₂ h₂=>?_) λ_ _ x=>x) λ_ _ x=>x);obtain⟨hT,h₂⟩:=h₂;unfold M8;refine Na ?_;rw[getitemInPython_of_ne hT.not_modules];refine Na (wpAny_specialOf hT hl ?_);have fin:wpAny (model prog w) A (OJ slice false o i) (λr s₃=>wpAny (model prog w) A (letTemporaryGo value o r >>=λ_=>pure r) Q E s₃) E s₂:=by
  rw[hs o i];exact wpAny_operating (Nj h₂ (λr s₃ h₃=>Na (wpAny_letTemporaryGo (Nd h₃))) λ_ _ x=>x)
 first
  | exact Nd (Na fin)
  | exact Na (Nd (Na fin))
  | exact Na fin
theorem tJ (I:Inv X QN σ H s)(g:fE H a y o):s.TypeIs (.ref a) "dict":=by
 rcases g with⟨kvs,k,e,_,_⟩ | ⟨kvs,k,b,e,_,_,_⟩
 ·obtain⟨_,_,vs,_,dd⟩:=kX I.QQ e;exact dd.typeIs
 ·obtain⟨_,_,xs,_,dd⟩:=mM I.QQ e;exact dd.typeIs
def G7 (td ty:TE):TE:=λσ H Q=>td σ H λx H1=>ty σ H1 λy H2=>∃a v,x= .ref a/\fE H2 a y (some v)/\Q v H2
def Ko (ty td:TE):TE:=λσ H Q=>ty σ H λy H1=>td σ H1 λx H2=>∃a o,x= .ref a/\fE H2 a y o/\Q (.bl o.isSome) H2
def Bx (ty td:TE):TE:=λσ H Q=>ty σ H λy H1=>td σ H1 λx H2=>∃a o,x= .ref a/\fE H2 a y o/\Q (.bl (!o.isSome)) H2
def G4 (td ty tv:TE):TS:=λD σ H=>tv σ H λv H1=>td σ H1 λx H2=>ty σ H2 λy H3=>∃a H4,x= .ref a/\mj H3 a y v H4/\D.nx σ H4
section
variable {o i value:Expr}{pos' tpos:Pos}{td ty tv:TE}
theorem BK (hu:X.A.units+1<cLine)(ho:PE X o td)(hi:PE X i ty)(hs:zN i):PE X (.Subscript o i pos) (G7 td ty):=by
 intro QN s σ H Q I h;refine B8 PySem.F.slot_dict_getitem.lookup hs (aO (ho QN s σ H _ I h) λu s1 ⟨x,H1,I1,rx,q1⟩=>aO (hi QN s1 σ H1 _ I1 q1) λiv s2 ⟨y,H2,I2,ry,a,v,ex,g,q2⟩=>?_);subst ex;obtain rfl:u=PM a:=rx;exact⟨tJ I2 g,wF hu I2 g ry λw' s3 I3 TN=>⟨v,H2,I3,TN,q2⟩⟩
theorem Ct (hu:X.A.units+1<cLine)(hi:PE X i ty)(ho:PE X o td):PC X .In i o (Ko ty td):=by
 intro QN s σ H Q I h;refine aO (hi QN s σ H _ I h) λiv s1 ⟨y,H1,I1,ry,q1⟩=>aO (ho QN s1 σ H1 _ I1 q1) λu s2 ⟨x,H2,I2,rx,a,ov,ex,g,q2⟩=>?_;subst ex;obtain rfl:u=PM a:=rx;exact JJ hu I2 g ry λs3 I3=>⟨.bl ov.isSome,H2,I3,rfl,q2⟩
theorem kE (hu:X.A.units+1<cLine)(hi:PE X i ty)(ho:PE X o td):PC X .NotIn i o (Bx ty td):=by
 intro QN s σ H Q I h;refine aO (hi QN s σ H _ I h) λiv s1 ⟨y,H1,I1,ry,q1⟩=>aO (ho QN s1 σ H1 _ I1 q1) λu s2 ⟨x,H2,I2,rx,a,ov,ex,g,q2⟩=>?_;subst ex;obtain rfl:u=PM a:=rx;exact Ck hu I2 g ry λs3 I3=>⟨.bl (!ov.isSome),H2,I3,rfl,q2⟩
theorem oz (hu:X.A.units+1<cLine)(ho:PE X o td)(hi:PE X i ty)(hv:PE X value tv)(hs:Nl value (some (.Subscript o i pos')) pos.line X.env=pure false):
 PS X (.Assign [.Subscript o i pos'] value pos) (G4 td ty tv):=by
 intro QN s σ H D I h;refine wpAny_Assign_Subscript (aO (hv QN s σ H _ I h) λr s1 ⟨v,H1,I1,rv,q1⟩=>aO (ho QN s1 σ H1 _ I1 q1) λu s2 ⟨x,H2,I2,rx,q2⟩=>aO (hi QN s2 σ H2 _ I2 q2) λiv s3 ⟨y,H3,I3,ry,a,H4,ex,g,q3⟩=>?_) hs;subst ex;obtain rfl:u=PM a:=rx;exact yj hu I3 g ry rv λs4 I4=>⟨σ,H4,I4,q3⟩
end
theorem rE (h:Heap)(hb:Nw<h.objs.size):bQ P w H (h.push {cls:=.type "dict",data:=.dict #[]}) h.objs.size (.dK []):=
 ⟨MC _,beq_eq_false_iff_ne.mpr (MQ (MB hb)),[],.nil,Heap.DictOf.new h⟩
def Er:TE:=λ_ H Q=>∀p,H p=none->Q (.ref p) (upd H p (.dK []))
theorem zV:PE X (.Dict [] [] pos) Er:=λQN s σ H Q I h=>
 wpAny_Dict_empty ⟨.ref s.heap.objs.size,_,I.laid (a:=s.heap.objs.size) (o:=.dK []) (t':=s.toks) (λ_ _ q=>Pj _ q) (My _) (rE s.heap I.big),rfl,h _ (I.QQ.fresh (My _))⟩
variable {TK:List (TE×TE)}
def rA:List (TE×TE)->St->Hp->(List (V×V)->Hp->Prop)->Prop
 | [],_,H,Q=>Q [] H
 | (tk,tv)::r,σ,H,Q=>tk σ H λx H1=>tv σ H1 λy H2=>rA r σ H2 λps H3=>Q ((x,y)::ps) H3
abbrev VV:List (V×V)->List (Value×Value)->Prop:=Paired λp q=>RelV p.1 q.1/\RelV p.2 q.2
def AX (X:Cx)(pos:Pos)(keys:List (Option Expr))(values:Kw)(TK:List (TE×TE)):Prop:=
 ∀(QN:Kq)(s:M9)(σ:St)(H:Hp)(Q:List (V×V)->Hp->Prop),Inv X QN σ H s->rA TK σ H Q->
  wpAny (model X.prog X.w) X.A (evalPairs (pairTrees keys values X.env pos)) (λvs s'=>∃ps H',Inv X QN σ H' s'/\VV ps vs/\Q ps H') X.xe s
theorem Bb:AX X pos [] [] []:=λQN s σ H Q I h=>pairTrees_nil_walk ⟨[],H,I,.nil,h⟩
theorem sM {k v:Expr}{ks:List (Option Expr)}{vs:Kw}{tk tv:TE}(hk:PE X k tk)(hv:PE X v tv)(hr:AX X pos ks vs TK):
 AX X pos (some k::ks) (v::vs) ((tk,tv)::TK):=λQN s σ H Q I h=>
 pairTrees_cons_walk (aO (hk QN s σ H _ I h) λu s1 ⟨x,H1,I1,rx,q1⟩=>aO (hv QN s1 σ H1 _ I1 q1) λw2 s2 ⟨y,H2,I2,ry,q2⟩=>
  aO (hr QN s2 σ H2 _ I2 q2) λws s3 ⟨ps,H3,I3,rel,q3⟩=>⟨(x,y)::ps,H3,I3,.cons ⟨rx,ry⟩ rel,q3⟩)
def jB (kvs more:List (Key×V)):List (Key×V):=more.foldl (λacc kv=>putK acc kv.1 kv.2) kvs
theorem KV.merge:∀{more:List (Key×V)}{rs:List (Key×Value)}{kvs:List (Key×V)}{vs:List (Key×Value)},KV more rs->KV kvs vs->KV (jB kvs more) (merged vs rs):=by
 intro more rs kvs vs r;unfold KV at r
 induction r generalizing kvs vs with
 | nil=>intro q;exact q
 | @cons p q ps qs h t ih=>
   intro r0;have e:KV (putK kvs p.1 p.2) (stored vs q.1 q.2):=by
    have:=r0.put p.1 h.2;rw[← h.1];exact this
   exact ih e
theorem j8:∀(more kvs:List (Key×V)),(jB kvs more).length<=kvs.length+more.length
 | [],kvs=>by show kvs.length<=kvs.length+0;omega
 | p::r,kvs=>by
   have h1:=j8 r (putK kvs p.1 p.2);have h2:=jf kvs p.1 p.2;show(jB (putK kvs p.1 p.2) r).length<=_;rw[Lg];omega
theorem mO {P:Nf}{w:World}:∀{kvs:List (Key×V)}{ws:List (Value×Value)},VV (kvs.map λkv=>(kV kv.1,kv.2)) ws->∃rs,Carries (bP P w) ws rs/\KV kvs rs
 | [],_,r=>by rw[Mq] at r;cases r;exact⟨[],QD,.nil⟩
 | p::kvs,_,r=>by
   rw[Lm] at r;cases r with
   | @cons a b as bs h t=>
     obtain⟨rs,c,q⟩:=mO (P:=P) (w:=w) t;obtain⟨b1,b2⟩:=b;exact⟨(p.1,b2)::rs,⟨hZ h.1,rfl,c⟩,.cons ⟨rfl,h.2⟩ q⟩
def GW (TK:List (TE×TE)):TE:=λσ H Q=>∀p,H p=none->rA TK σ (upd H p (.dK [])) λps H2=>H2 p=some (.dK [])/\∃kvs:List (Key×V),ps=kvs.map (λkv=>(kV kv.1,kv.2))/\kvs.length<=15/\Q (.ref p) (upd H2 p (.dK (jB [] kvs)))
theorem Cb {keys:List (Option Expr)}{values:Kw}(h:AX X pos keys values TK)(UM:keys.all (·.isSome)=true)(hl:keys.length=values.length)(h0:keys≠[])(h15:keys.length<=15):PE X (.Dict keys values pos) (GW TK):=by
 intro QN s σ H Q I q;have hn:=I.QQ.fresh (My s.heap.objs.size);have I1:=I.laid (a:=s.heap.objs.size) (o:=.dK []) (h':=s.heap.push {cls:=.type "dict",data:=.dict #[]}) (t':=s.toks) (λ_ _ q=>Pj _ q) (My _) (rE s.heap I.big);refine wpAny_Dict_walk (knd:=bP X.prog X.w) UM hl h0 h15 (aO (h QN _ σ _ _ I1 (q _ hn)) λws s2 ⟨ps,H2,I2,rel,e,kvs,ep,lk,q2⟩=>?_);subst ep;obtain⟨rs,c,rk⟩:=mO (P:=X.prog) (w:=X.w) rel;obtain⟨z,hd,vs0,r0,dd⟩:=vL I2.QQ e;cases r0
 refine⟨rs,c,dd,λh' TC hs=>⟨.ref s.heap.objs.size,_,?_,rfl,q2⟩⟩;have hz:(jB [] kvs).length<=Nb:=by
  have h1:=j8 kvs [];rw[Mt] at h1;rw[Oc];omega
 have he:∃q,h'.get? s.heap.objs.size=some q:=let ⟨q,_,_,hq,_⟩:=TC;⟨q,hq⟩;exact lh I2 (by rw[e];exact QD) hs he (rJ hz hd (rk.merge .nil) TC)
structure M2 (X:Cx)(o:Expr)(m:Str)(apos:Pos)(e f:Expr)(RA:Pos):Prop where
 base:Ni o m X.env (eval o X.env)=eval o X.env
 few:((Nk RA (Nc [e,f] X.env)).all (λx=> !x.1)&&(NY RA (ND [] X.env)).all (λx=>x.1.isSome)
  &&decide (([e,f]:Kw).length+([]:List Nt).length+(if([]:List Nt).isEmpty then 0 else 1)<30))=true
 line:(apos.endLine==RA.line)=true
 trees:Nk RA (Nc [e,f] X.env)=[(false,eval e X.env),(false,eval f X.env)]
section
variable {d:V}{r:Value}
end
section
variable {o f:Expr}{apos RA:Pos}{td ty tx:TE}
end
end L2
namespace Att
open PySem PySem.W PySem.Calls PyProof.Rows
variable {P:Params}{h:Heap}
theorem mU :∀(ns:Kr)(vs:Kv),WellAll P h vs (ns.map WData.int)->M7 vs ns:=by
 intro ns
 induction ns with
 | nil=>
   intro vs w;rw[Mq] at w;cases w
   exact .nil
 | cons n ns ih=>
   intro vs w;rw[Lm] at w;cases w with
   | cons a b=>
     cases a
     exact .cons _ _ (ih _ b)
theorem xF {l:OpenLaw}{n:Nat}(hn:l.most=some n){args:List WData}{vals:Kv}(TU:l.row.toRowW.claim.pre args=true)(hwl:WellAll P h vals args):
 ∃a vs ns,vals=[PM a]/\args=[WData.list (ns.map WData.int)]/\h.get? a=some {cls:=.type "list",data:=.seq vs.toArray}/\M7 vs ns/\ns.length<=n:=by
 have hsh:WShape.hasAll [] args [.list .int]=true:=(pre_splitW TU).1;have hc:l.pre.holds [] {args:=args}=true:=(pre_splitW TU).2;obtain⟨d,r,rfl,h1,h2⟩:=hasAllW_cons hsh;obtain rfl:=hasAllW_nil h2;obtain⟨xs,rfl,h3⟩:=hasW_list h1;obtain⟨ns,rfl⟩:=items_int h3;have hlen:ns.length<=n:=by
  unfold OpenLaw.pre at hc;have h4:(WTm.not (.lt (.lit (.int (n:Int))) (.len (.arg 0)))).holds [] {args:=[.list (ns.map .int)]}=true:=by
   have h4:=(holds_andW hc).1;rw[hn] at h4;exact h4
  have h5:=condW_of h4 (w_not (w_lt w_lit (w_len_list (w_arg rfl))));rw[KY] at h5;refine Nat.le_of_not_lt λq=>?_;have q':(n:Int)<((ns.length:Nat):Int):=by omega
  first
   | (rw[decide_eq_true q'] at h5;exact QE h5 (by decide))
   | (simp at h5;omega)
 cases hwl with
 | cons w1 w2=>
   cases w2
   cases w1 with
   | list ho UM=>exact⟨_,_,ns,rfl,rfl,ho,mU ns _ UM,hlen⟩
theorem yq (l:OpenLaw)(args:List WData):l.row.toRowW.claim.post args (.bool true) args=true:=
 postW_of (r:=l.row.toRowW) (X:=(true==true))
  (show WShape.has [] (.bool true) .bool=true by first | rfl | decide | simp[WShape.has,WShape.arms,WShape.armsAll])
  (show(WTm.eq .res (.lit (.bool true))).value [] {args:=args,res:=some (.bool true),after:=args}=some (.bool (true==true)) from w_eq_bool (w_res rfl) w_lit) rfl
section
variable {prog:Nf}{w:World}{A:Nh}{E:Value->M9->Prop}{s:M9}{K:Frag}
end
end Att
namespace L2
open PySem PySem.Spec PyProof.Rows
theorem pf:∀{vs:Kv}{ns:Kr},M7 vs ns->Vals (ns.map V.int) vs
 | _,_,.nil=>.nil
 | _,_,.cons n t h=>.cons ⟨t,rfl⟩ (pf h)
def yE (H:Hp):Prop:=∀b,H b=none∨∃o xs,H b=some (.RO o (.lst xs))
variable {P:Nf}{w:World}{K:P1}{mg:Kp}{fd:Nm}{sp:Sp}
theorem yT {mb:Kp}{CX:i6}{k:Nat}{fa a:Addr}{x:Str}{s₁:M9}{vs:Kv}{ns:Kr}(KX:K.In s₁.heap)(Tu:s₁.heap.Ns Ng mg)(hb:s₁.heap.Ns builtinsNs mb)(hbb:∀x:Str,x≠"__name__"->mb x=Ny x)(hlim:s₁.heap.NoLimit)(hg:s₁.gens= #[])(ha:s₁.heap.get? a=some {cls:=.type "list",data:=.seq vs.toArray})(hi:M7 vs ns)(hl:ns.length<=Nb)(hr:br k OA)(F:∀base:Heap,K.In base->base.Ns Ng mg->cy P w K mg base CX k fa fd [x] sp)(V0:∀(s:M9)(u:Value),ON s fd ⟨[u],[]⟩ [(x,u)])(Sh:∀H:Hp,yE H->bt K H a (ns.map V.int)->sp [.ref a] H (λv _=>v= .bl true) λ_ _ _=>False)(hCX:∀H e s',CX [] H s₁ (λ_ _ _=>False) e s'->False):
 Oo (model P w) OA (.call (.ref fa) ⟨[.ref a],[]⟩) (λr s'=>r= .ok (.ret (.bool true))/\OldK s₁.heap s'.heap/\s'.os=s₁.os/\M0 s'.gens) s₁:=by
 have rv:=pf hi;have lenV:=hi.length
 -- from an abstract heap in which nothing but U9 Uq may be tracked
 have core:∀H:Hp,yE H->bt K H a (ns.map V.int)->bW P w H s₁.heap->(∀b,H b≠none->b=a)->(H a≠none->K.lookup a=none)->
  Oo (model P w) OA (.call (.ref fa) ⟨[.ref a],[]⟩) (λr s'=>r= .ok (.ret (.bool true))/\OldK s₁.heap s'.heap/\s'.os=s₁.os/\M0 s'.gens) s₁:=by
  intro H hO hS QQ hA hK;have base_of:∀{b:Addr}{o:Obj},s₁.heap.get? b=some o->H b=none->(jS s₁.heap H).get? b=some o:=λe n=>zB e n;have Vf:∀{b:Addr}{o:Obj}{es:Array DictEntry}{ep:Nat},s₁.heap.get? b=some o->o.data= .dict es ep->H b=none:=λ{b o es ep} e d=>by
   cases q:H b with
   | none=>rfl
   | some u=>
     have e':b=a:=hA b (by rw[q];simp);subst e';rw[ha] at e;cases e
     have d':Data.seq vs.toArray _=Data.dict es ep:=d;cases d'
  have nsK:∀{b:Addr}{m:Kp},s₁.heap.Ns b m->(jS s₁.heap H).Ns b m:=λ{b m} ⟨o,es,ep,e,d,r⟩=>⟨o,es,ep,base_of e (Vf e d),d,r⟩;have hKb:K.In (jS s₁.heap H):=λb o e=>base_of (KX b o e) (by
   cases q:H b with
   | none=>rfl
   | some u=>
     have e':b=a:=hA b (by rw[q];simp);subst e';rw[hK (by rw[q];simp)] at e;cases e)
  have hM:Mod K mg (jS s₁.heap H):=⟨hKb,nsK Tu,⟨mb,nsK hb,hbb⟩,let ⟨mc,h1,h2⟩:=hlim;⟨mc,nsK h1,h2⟩⟩;have e0:me P w K mg (jS s₁.heap H) OA [] s₁ H:=⟨rfl,hM,λb o e=>B9 e,Nat.le_of_eq (xD _ _),trivial,λb hb=>QE (show b∈([]:Ku) from hb) (by simp),QQ,.of_eq hg⟩;refine N7 ((F _ hKb (nsK Tu)).run OA [] s₁ H ⟨[.ref a],[]⟩ [.ref a] [.ref a] _ _ hr e0 (V0 s₁ (.ref a)) (.cons rfl .nil) (Sh H hO hS)) λr s' h=>?_;cases r with
  | error e=>exact(hCX H e s' h).elim
  | ok fl=>
    cases fl with
    | next=>exact KO h
    | brk=>exact KO h
    | cont=>exact KO h
    | ret u=>
      obtain⟨v,H',os,bare,un,hok',r',q⟩:=h;have q':v= .bl true:=q;subst q';obtain rfl:u=PX true:=r';refine⟨rfl,OldK.of_keep λb o e=>?_,os,bare⟩;cases q:H b with
      | none=>exact un.keep b o e q (by intro z;exact QE (show b∈([]:Ku) from z) (by simp)) (by simp)
      | some u=>
        rcases hO b with z | ⟨ob,xs,z⟩
        ·rw[q] at z;cases z
        ·have z2:=un.Rb b ob _ z;obtain⟨e1,_⟩:=QQ b _ z;obtain⟨e2,_⟩:=hok' b _ z2;rw[e] at e1;cases e1
         exact e2
 cases hk:K.lookup a with
 | some o=>
   -- U9 Uq is one of U9 Vi own objects
   have e:=KX a o hk;rw[ha] at e;cases e
   refine core (λ_=>none) (λ_=>.inl rfl) (.inr ⟨_,vs.toArray,_,hk,rfl,rfl,rfl,by rw[K6,lenV];exact hl,by simpa using rv⟩) (λb u z=>by have z':(none:Option HO)=some u:=z;cases z') (λb z=>QE rfl z) λz=>QE rfl z
 | none=>
   refine core (λb=>if b=a then some (.RO {cls:=.type "list",data:=.seq vs.toArray} (.lst (ns.map V.int))) else none) (λb=>?_) (.inl (.inr ⟨{cls:=.type "list",data:=.seq vs.toArray},QG rfl⟩)) (λb u z=>?_) (λb z=>?_) λ_=>hk
   ·by_cases hb:b=a
    ·exact .inr ⟨_,_,QG hb⟩
    ·exact .inl (QF hb)
   ·by_cases hb:b=a
    ·have z':=(QG hb).symm.trans z;cases z'
     subst hb;exact⟨ha,by rw[KY];exact hl,vs,_,rv,ha⟩
    ·have z':=(QF hb).symm.trans z;cases z'
   ·by_cases hb:b=a
    ·exact hb
    ·exact QE (QF hb) z
abbrev iZ {K:P1}{h:Heap}(_:K.In h):P1:=K
def c9 (s:Stmt):Arguments:=match s with
 | .FunctionDef _ a _ _ _ _ _ _ _ _=>a
 | _=>{posonlyargs:=[],args:=[],vararg:=none,kwonlyargs:=[],kw_defaults:=[],kwarg:=none,defaults:=[]}
def bo (s:Stmt):List Stmt:=match s with
 | .FunctionDef _ _ b _ _ _ _ _ _ _=>b
 | _=>[]
def ak (s:Stmt):Scope:=match s with
 | .FunctionDef _ _ _ _ _ _ sc _ _ _=>sc
 | _=>{kind:=.function,names:=[],isGenerator:=false,isCoroutine:=false}
abbrev c8:i6:=λ_ _ _ _ _ _=>False
abbrev E0:XK:=λ_ _ _=>False
variable {X:Cx}
theorem qh :Passes c8 X E0:=λ_ _ _ _ _ _ _ h=>h.elim
structure cK (K:P1)(x qual:Str)(st:Stmt)(f:Addr)(fd:Nm):Prop where
 ex:∃(oc:Value)(od:Option Addr)(kV doc pm:Value)(an:Option Addr)(QP ct:Value)(RM:Array Kt),
  fd=Qb x qual (c9 st) (bo st) (ak st) .none kV doc pm an QP ct/\K.lookup f=some ⟨oc,od,.func fd,RM⟩/\Qh K QP qual=true
 kp:P8 K (.ref f)=true
variable {ps:Ks}
section
variable {base:Heap}
variable {x qual:Str}{st:Stmt}{f:Addr}
theorem cK.ok {N:Ks}{k:Nat}(F:cK K x qual st f fd)(S:aZ N ps (ak st))(len:∀vs H Q E,sp vs H Q E->vs.length=ps.length)(Q1:∀(QP:Value)(A:Nh)(outer:List Env)(s:M9)(H:Hp)(vs:List V)(Q:VK)(E:XK),br k (A.deeper (MW qual (ak st) s.heap.objs.size f QP))->sp vs H Q E->
  ∃t,iK (aX c8 P w K mg base N qual (ak st) f QP A outer s H E).cj (bo st) t/\t {nx:=λ_ H'=>Q .QY H',rt:=Q} (start N vs) H):cy P w K mg base c8 (k+1) f fd ps sp:=by
 obtain⟨oc,od,kV,doc,pm,an,QP,ct,RM,rfl,lk,QR⟩:=F.ex;refine qo lk QR S len λA outer s H vs Q E hr Sh=>?_;obtain⟨t,h,q⟩:=Q1 QP A outer s H vs Q E hr Sh;exact⟨t,h.cj,q⟩
theorem cK.binds (F:cK K x qual st f fd)(h:∀(kV doc pm:Value)(an:Option Addr)(QP ct:Value)(us:Kv),us.length=ps.length->OQ (Qb x qual (c9 st) (bo st) (ak st) .none kV doc pm an QP ct) ⟨us,[]⟩=pure (ps.zip us)):Binds K fd ps []:=by
 obtain⟨oc,od,kV,doc,pm,an,QP,ct,RM,rfl,lk,QR⟩:=F.ex;exact .all (h kV doc pm an QP ct)
theorem fY {oc:Value}{od an:Option Addr}{RM:Array Kt}{kV doc pm QP ct:Value}(l:K.lookup f=some ⟨oc,od,.func (Qb x qual (c9 st) (bo st) (ak st) .none kV doc pm an QP ct),RM⟩)(c:Qh K QP qual=true)(k:P8 K (.ref f)=true):cK K x qual st f (Qb x qual (c9 st) (bo st) (ak st) .none kV doc pm an QP ct):=⟨⟨oc,od,kV,doc,pm,an,QP,ct,RM,rfl,l,c⟩,k⟩
end
variable {H H':Hp}
theorem kn {A B:Prop}(h:B):if false=true then A else B:=by
 rw[QF KC];exact h
theorem je {A B:Prop}(h:A):if true=true then A else B:=by
 rw[QG rfl];exact h
def ax (H H':Hp):Prop:=∀b o,H b=some o->H' b=some o
theorem ax.refl (H:Hp):ax H H:=λ_ _ h=>h
theorem ax.trans {H1 H2:Hp}(a:ax H H1)(b:ax H1 H2):ax H H2:=λc o h=>b c o (a c o h)
theorem ax.free (e:ax H H'){l:Addr}(h:H' l=Option.none):H l=Option.none:=by
 cases q:H l with
 | none=>rfl
 | some o=>
   rw[e l o q] at h;cases h
theorem ax.seq {a:Addr}{xs:List V}(e:ax H H')(h:bt K H a xs):bt K H' a xs:=by
 rcases h with(h | ⟨o,h⟩) | h
 ·exact .inl (.inl (e _ _ h))
 ·exact .inl (.inr ⟨o,e _ _ h⟩)
 ·exact .inr h
theorem oQ:dy X (.builtin "len") (λxs H Q=>∃a kvs,xs=[V.ref a]/\H a=some (.dK kvs)/\Q (.int kvs.length) H):=by
 intro QN s σ H xs us Q I r h;obtain⟨a,kvs,rfl,ha,q⟩:=h;obtain⟨u,rfl,ru⟩:=vals1 r;cases ru
 exact Hs I (.inl ha) λt s' I'=>⟨.int kvs.length,H,I',⟨t,rfl⟩,q⟩
section
variable {κ:Type} [DecidableEq κ]
theorem jz:∀{l:List κ}{k:κ},l.Nodup->¬k∈l->(l++[k]).Nodup
 | [],k,_,_=>by simp
 | a::r,k,h,hk=>by
   obtain⟨h1,h2⟩:=LO.mp h;show(a::(r++[k])).Nodup;refine LO.mpr ⟨λm=>?_,jz h2 λm=>hk (K8.mpr (Or.inr m))⟩;rcases Lf.mp m with q | q
   ·exact h1 q
   ·exact hk (K8.mpr (Or.inl (KZ.mp q).symm))
end
variable {QN:Kq}{σ:St}
section
variable {elt target iter:Expr}{ifs:Kw}{scope:Scope}{pos:Pos}{s:M9}{cl:List (Str×Addr)}{fr:Ks}{ix:List Nat}{wi:TI}{g:TG}{tc:TT}{te:TE}
def bJ (X:Cx)(scope:Scope)(cl:List (Str×Addr))(C:Addr)(N':Ks)(s:M9)(H:Hp)(ex:Ku):Cx:=
 {X with N:=N',s₀:=s,H₀:=H,env:=compEnvC scope cl C X.env,outer:=X.stack,stack:=X.stack,ex:=ex,fn:=λ_=>false,pn:=[],xe:=λ_ _=>False}
def PF (X:Cx)(ifs:Kw)(t:TT):Prop:=
 ∀(QN:Kq)(s:M9)(σ:St)(H:Hp)(Q:Bool->Hp->Prop),Inv X QN σ H s->t σ H Q->
  wpAny (model X.prog X.w) X.A (forIn ifs true λc r=>if r=true then do let ok ← N6 c X.env (eval c X.env);pure (KP ok) else pure (KP r)) (TP X QN σ Q) X.xe s
def J1:TT:=λ_ H Q=>Q true H
theorem DI:PF X [] J1:=by
 intro QN s σ H Q I h;exact Nd ⟨H,I,h⟩
theorem Ds {c:Expr}{t:TT}(hc:PT X c t):PF X [c] t:=by
 intro QN s σ H Q I h;show wpAny _ _ (forIn [c] true λc r=>_) _ _ s;rw[Mu];simp only[if_true,forIn_nil];refine Na (Na (Nj (hc QN s σ H Q I h) (λb s1 h1=>?_) λ_ _ e=>e));exact Nd (Nd h1)
theorem qC {prog:Nf}{A:Nh}{R:Result->M9->Prop}{it acc:Value}{env:Env}(I:Nat->M9->Prop)(turn:∀n s,I n s->wpAny (model prog w) A (OL it) (λr s₁=>match r with
  | none=>R (.ok .next) s₁
  | some v=>wpAny (model prog w) A (Og target it v) (λ_ s₁'=>wpAny (model prog w) A (N2 target env v) (λ_ s₂=>
   wpAny (model prog w) A (forIn ifs true λc r=>if r=true then do let ok ← N6 c env (eval c env);pure (KP ok) else pure (KP r)) (λok s₃=>
    if ok=true then wpAny (model prog w) A (eval elt env) (λx s₄=>
     wpAny (model prog w) A (call (.builtin "list.append") [acc,x]) (λ_ s₅=>∃m,m<n/\I m s₅) (λ_ _=>False) s₄) (λ_ _=>False) s₃
    else∃m,m<n/\I m s₃) (λ_ _=>False) s₂) (λ_ _=>False) s₁') (λ_ _=>False) s₁) (λ_ _=>False) s)(n:Nat)(h:I n s):
 Oo (model prog w) A (.compLoop (.ListComp elt [⟨target,iter,ifs,0⟩] scope pos) 0 it acc env) R s:=by
 have no:∀{α:Type}{t:Sem α}{Q:α->M9->Prop}{E:Value->M9->Prop}{s:M9},wpAny (model prog w) A t Q (λ_ _=>False) s->wpAny (model prog w) A t Q E s:=λh=>Nj h (λ_ _ q=>q) λ_ _ f=>f.elim;refine codeAny_loop rfl I (λn s hI=>?_) n h;show wpAny _ A ((compTurn (.ListComp elt [⟨target,iter,ifs,0⟩] scope pos) 0 it acc env).onRaise (λx=>do noteFrame x env;theTreesLotGoes x)) _ _ s;refine wpAny_noted ?_;rw[compTurn_list];refine Na (Od (Na (Nj (no (turn n s hI)) (λr s₁ h₁=>?_) λ_ _ h'=>h')));cases r with
 | none=>exact Nd h₁
 | some v=>
   refine Na (Nj (no h₁) (λ_ s₁' h₁'=>?_) λ_ _ h'=>h');refine Na (Nj (no h₁') (λ_ s₂ h₂=>Na (Nj (no h₂) (λok s₃ h₃=>?_) λ_ _ h'=>h')) λ_ _ h'=>h');cases ok with
   | false=>exact Nd ⟨rfl,h₃⟩
   | true=>
     exact Na (Na (Nj (no h₃) (λx s₄ h₄=>Na (Nj (no h₄) (λ_ s₅ h₅=>Nd (Nd ⟨rfl,h₅⟩)) λ_ _ h'=>h')) λ_ _ h'=>h'))
def u9 (wi:TI)(g:TG)(tc:TT)(te:TE)(z:St->St):TE:=λσ H Q=>wi σ H λJ H1=>
 ∃W:Nat->Nat->List V->St->Hp->Prop,(∃m,W 0 m [] (z σ) H1)/\∀i m ys σ' H',W i m ys σ' H'->
  ys.length<=Nb/\((J.stop i H'/\∀p,H' p=none->Q (.ref p) (upd H' p (.lst ys)))∨
  (J.go i H'/\∀x H2,J.U6 i H' x H2->g x σ' H2 λσ2 H3=>tc σ2 H3 λb H4=>
    if b=true then te σ2 H4 λv H5=>∃m',m'<m/\W (i+1) m' (ys++[v]) σ2 H5 else∃m',m'<m/\W (i+1) m' ys σ2 H4))
structure eI (X:Cx)(scope:Scope)(cl:List (Str×Addr))(own fr:Ks)(ix:List Nat):Prop where
 clos:closureFor scope X.env=pure cl
 cells:∀x c,cl.lookup x=some c->X.env.cells.lookup x=some c
 kind:scope.kind= .function
 T7:∀y∈scope.names,y.2≠ .cell
 names:∀y∈scope.names,y.2= .local->scope.names.lookup y.1=some .local
 has:∀x,scope.names.lookup x=some .free->∃c,cl.lookup x=some c
 frees:∀x∈fr,scope.names.lookup x=some .free
 len:fr.length=ix.length
 at_:∀(k:Nat)(i:Nat)(x:Str),ix[k]?=some i->fr[k]?=some x->X.N[i]?=some x/\X.env.kindOf x=some .cell
theorem gc {env:Env}:∀{names:List (Str×N3)}{x:Str}{k:N3},
 (names.map λ(n,k)=>if(k==N3.free&&env.scope.kind== .function&&env.kindOf n==some .cell) then(n,N3.cell) else(n,k)).lookup x=some k->
 ∃k',names.lookup x=some k'/\(k=k'∨(k'= .free/\k= .cell))
 | [],_,_,h=>by simp at h
 | (n,k)::r,x,kk,h=>by
   have ih:=@gc env r x kk;replace h:LJ x ((if(k==N3.free&&env.scope.kind== .function&&env.kindOf n==some .cell)=true then(n,N3.cell) else(n,k))::_)=some kk:=h;by_cases hc:(k==N3.free&&env.scope.kind== .function&&env.kindOf n==some .cell)=true
   ·rw[QG hc] at h;cases hx:x==n with
    | true=>
      simp only[Lx,hx,Option.some.injEq] at h ⊢;have hk:k= .free:=by
       simp only[KD] at hc;exact eq_of_beq hc.1.1
      exact⟨k,rfl,.inr ⟨hk,h.symm⟩⟩
    | false=>
      simp only[Lx,hx] at h ⊢;exact ih h
   ·rw[QF hc] at h;cases hx:x==n with
    | true=>
      simp only[Lx,hx,Option.some.injEq] at h ⊢;exact⟨k,rfl,.inl h.symm⟩
    | false=>
      simp only[Lx,hx] at h ⊢;exact ih h
theorem kG {env:Env}(hf:env.scope.kind= .function):∀{names:List (Str×N3)}{x:Str},names.lookup x=some .free->env.kindOf x=some .cell->
 (names.map λ(n,k)=>if(k==N3.free&&env.scope.kind== .function&&env.kindOf n==some .cell) then(n,N3.cell) else(n,k)).lookup x=some .cell
 | [],_,h,_=>by simp at h
 | (n,k)::r,x,h,hk=>by
   have ih:=@kG env hf r x;show LJ x ((if(k==N3.free&&env.scope.kind== .function&&env.kindOf n==some .cell)=true then(n,N3.cell) else(n,k))::_)=_;cases hx:x==n with
   | true=>
     simp only[Lx,hx,Option.some.injEq] at h;have e:x=n:=eq_of_beq hx;subst e;subst h;rw[QG (by rw[hf,hk];rfl)];simp[Lx]
   | false=>
     simp only[Lx,hx] at h;split
     ·simp only[Lx,hx];exact ih h hk
     ·simp only[Lx,hx];exact ih h hk
def fU (own:Ks)(ix:List Nat)(σ:St):St:=Mc own.length none++ix.map λi=>(σ[i]?).join
structure Off (X:Cx)(QN:Kq)(H:Hp)(s:M9)(C:Addr):Prop where
 ns:∃m,s.heap.Ns C m
 free:H C=none
 ne:C≠X.env.locals
 young:X.s₀.heap.objs.size<=C
 cell:∀x c,X.env.cells.lookup x=some c->c≠C
 pin:∀p∈X.pn++QN,p.1≠C
theorem o9 {own:Ks}{use:Option (Value->Sem Unit)}{Qf:Value->M9->Prop}{Q:VK}(hc:X.calm=true)(S:eI X scope cl own fr ix)(hi:PI X target iter wi)(hb:∀(C:Addr)(s:M9)(H:Hp)(ex:Ku),PG (bJ X scope cl C (own++fr) s H ex) target g/\PF (bJ X scope cl C (own++fr) s H ex) ifs tc/\PE (bJ X scope cl C (own++fr) s H ex) elt te)(hs:∀x,NF iter X.env x=pure x)(I:Inv X QN σ H s)(h:u9 wi g tc te (fU own ix) σ H Q)(SH:∀(D C:Addr)(H6:Hp)(s6:M9),Inv X QN σ H6 s6->Off X QN H6 s6 C->Q (.ref D) H6->compPost (model X.prog X.w) X.A X.xe use Qf (.ref D) C (.ok .next) s6):
 wpAny (model X.prog X.w) X.A (comprehension (.ListComp elt [⟨target,iter,ifs,0⟩] scope pos) scope X.env (firstIterPos [⟨target,iter,ifs,0⟩] pos) (newList []) false (eval iter X.env) use) Qf X.xe s:=by
 refine wpAny_comprehension_free (use:=use) rfl hs S.clos S.kind S.names ?_;refine aO (hi QN s σ H _ I h) λv s1 h1=>aO h1 λitv s2 h2=>?_;obtain⟨it,fp,tn,J,H2,rfl,I2,T,TL,f2,W,⟨m0,w0⟩,turn⟩:=h2;refine NG (wpAny_newFunctionEnv S.T7 (by intro y hy;simp at hy) (λh₁ hns₁ hsb₁=>?_) S.kind);dsimp only at hns₁ hsb₁ ⊢;generalize hH3:s2.heap.push {cls:=.type "list",dict:=none,data:=.seq ([]:Kv).toArray}=h3 at hns₁ hsb₁ ⊢;have hC:h3.objs.size=s2.heap.objs.size+1:=by rw[← hH3,Po]
 have to3:∀b o,s2.heap.get? b=some o->h3.get? b=some o:=λb o e=>by rw[← hH3];exact Pj _ e
 have V9:h3.get? s2.heap.objs.size=some {cls:=.type "list",data:=.seq ([]:Kv).toArray}:=by rw[← hH3];exact Pm _ rfl
 have Um:∀b o,h3.get? b=some o->h₁.get? b=some o:=λb o e=>hsb₁.extBut b o (MB (Pl e)) (Pj _ e);have frD:∀{b:Addr},b∈fp->b≠s2.heap.objs.size:=λ{b} hb z=>by
  obtain⟨o,e,_⟩:=T.obj 0 _ TL b hb;exact QE (Pl e) (by rw[z];exact MF _)
 have frC:∀{b:Addr},b∈fp->b≠h3.objs.size:=λ{b} hb z=>by
  obtain⟨o,e,_⟩:=T.obj 0 _ TL b hb;exact QE (Pl e) (by rw[z,hC];exact MM.mpr (MH _))
 have HD2:H2 s2.heap.objs.size=none:=I2.QQ.fresh (My _)
 -- U9 block's context
 let X':Cx:=bJ X scope cl h3.objs.size (own++fr) {s2 with heap:=h3} H2 (s2.heap.objs.size::fp)
 have Vb:X'.Ok:=by
  refine⟨I2.ok.mod,S.kind,I2.ok.glob,I2.ok.blt,My _,λx y c e1 e2=>I2.ok.inj x y c (S.cells x c e1) (S.cells y c e2),λx hx=>?_,λx c z=>?_,I2.ok.hd,I2.ok.frames,.inl rfl,λb hb=>?_,λb o e=>?_,?_,λb o e hb=>?_,λb hb z=>?_,?_,I2.ip⟩
  ·have key:scope.names.lookup x=some .free:=by
    have hx:(relabel scope X.env).names.lookup x=some .cell∨(relabel scope X.env).names.lookup x=some .free:=hx;rcases hx with hx | hx
    ·obtain⟨k',e,z⟩:=gc hx;rcases z with z | z
     ·subst z;exact QE rfl (S.T7 _ (Nq e))
     ·rw[e,z.1]
    ·obtain⟨k',e,z⟩:=gc hx;rcases z with z | z
     ·subst z;exact e
     ·cases z.2
   exact S.has x key
  ·cases z
  ·rcases K8.mp hb with rfl | hb
   ·refine⟨by rw[show X'.env.locals=h3.objs.size from rfl,hC];exact MB (MI _),λx c e z=>?_⟩;obtain⟨v',q⟩:=I2.cell x c (S.cells x c e);exact QE q.lt (by rw[z];exact MF _)
   ·exact⟨frC hb,λx c e=>(f2 b hb).2.2.2.2.1 x c (S.cells x c e)⟩
  ·obtain⟨e1,e2⟩:=I2.bs b o e;exact⟨to3 b o e1,e2⟩
  ·show X.base.objs.size<=h3.objs.size;have:=I2.ok.S4;have:=I2.sz;omega
  ·rcases K8.mp hb with rfl | hb
   ·exact QE (Pl (I2.bs _ o e).1) (MF _)
   ·rcases(f2 b hb).2.2.2.1 with z | z
    ·exact I2.ok.R9 b o e z
    ·exact QE (MA (MA (Pl e) I2.ok.S4) z) (MF _)
  ·replace z:b∈bG X.stack:=z;rcases K8.mp hb with rfl | hb
   ·obtain⟨_,o,ho,_⟩:=I2.stack.mem z;exact QE (Pl ho) (MF _)
   ·rcases K8.mp (I2.qu b z) with q | q
    ·exact(f2 b hb).2.1 q
    ·exact(f2 b hb).2.2.1 q
  ·exact I2.stack.of_keeps λb o e _=>⟨o,to3 b o e,rfl⟩
 have I4:Inv X' [] (fU own ix σ) H2 {s2 with heap:=h₁,toks:=s2.toks+([]:List (Str×Value)).length}:=by
  refine⟨Vb,rfl,I2.bare,Un.kept Um,⟨_,hns₁,λi x v e1 e2 e3=>?_⟩,λx c e=>?_,I2.QQ.fresh (by show s2.heap.objs.size<=h3.objs.size;rw[hC];exact MH _),λx c e=>I2.Q2 x c (S.cells x c e),λp hp=>QE (show p∈([]:Kq) from hp) (by simp),I2.QQ.kept λb o e=>Um b o (to3 b o e),?_⟩
  ·replace e1:(own++fr)[i]?=some x:=e1;unfold fU at e2;by_cases RJ:i<own.length
   ·rw[Lr (by simpa using RJ),L5] at e2;split at e2<;>cases e2
   ·rw[Lo (by simpa using RJ)] at e1 e2;rw[LD,K9] at e2;cases ek:ix[i-own.length]? with
    | none=>rw[ek] at e2;cases e2
    | some j=>
      rw[ek] at e2;obtain⟨n1,n2⟩:=S.at_ _ j x ek e1;have e2':σ[j]?=some (some v):=by
       have q:(σ[j]?).join=some v:=Option.some.inj e2;cases es:σ[j]? with
       | none=>rw[es] at q;cases q
       | some o=>rw[es] at q;exact congrArg some q
      obtain⟨m,hn,hl⟩:=I2.loc;obtain⟨u,r,l⟩:=hl j x v n1 e2' (.inr (.inl n2));refine⟨u,r,?_⟩;have UH:scope.names.lookup x=some .free:=S.frees x (K7 e1);rcases l with⟨k,_⟩ | ⟨_,c,U2,z⟩
      ·rw[n2] at k;cases k
      ·obtain⟨c',S3⟩:=S.has x UH;have q:=S.cells x c' S3;rw[U2] at q;cases q
       obtain⟨oc,ho,hd⟩:=z;exact .inr ⟨.inl (kG I2.ok.kind UH n2),c,S3,oc,Um _ _ (to3 _ _ ho),hd⟩
  ·obtain⟨v',oc,ho,hd⟩:=I2.cell x c (S.cells x c e);exact⟨v',oc,Um _ _ (to3 _ _ ho),hd⟩
  ·show(fU own ix σ).length=(own++fr).length;unfold fU;rw[K3,K3,LD,KY,S.len]
 obtain⟨hg,hf,he⟩:=hb h3.objs.size {s2 with heap:=h3} H2 (s2.heap.objs.size::fp);have hg:PG X' target g:=hg;have hf:PF X' ifs tc:=hf;have he:PE X' elt te:=he;have locX:X'.env.locals=h3.objs.size:=rfl
 -- D's place
 have Dne:s2.heap.objs.size≠X'.env.locals:=by rw[locX,hC];exact MB (MI _)
 have Dfs:s2.heap.objs.size∉X'.fs:=Vb.RU _ (K4 ..);have Dcl:∀x c,X'.env.cells.lookup x=some c->c≠s2.heap.objs.size:=λx c e=>(Vb.Uh _ (K4 ..)).2 x c e;have fpX:∀{pl:Kq}{H':Hp},(∀p∈pl,p.1=s2.heap.objs.size)->(∀b∈fp,H' b=none)->∀b∈fp,jg X' pl H' b:=λhp hn b hb=>
  ⟨hn b hb,frC hb,Vb.RU b (K0 _ hb),.inl (K0 _ hb),(Vb.Uh b (K0 _ hb)).2,λp q=>by
   rw[hp p (by simpa[show X'.pn=[] from rfl] using q)];exact MQ (frD hb)⟩
 have pinD:∀{σ':St}{H':Hp}{s':M9}{o:Obj},Inv X' [] σ' H' s'->s'.heap.get? s2.heap.objs.size=some o->H' s2.heap.objs.size=none->(∀v,o.data≠ .cell v)->Inv X' [(s2.heap.objs.size,o)] σ' H' s':=λI e n d=>
  I.iz λp hp=>by
    obtain rfl:=KZ.mp hp;exact⟨e,n,Dne,Dfs,d⟩
 have loop:Oo (model X.prog X.w) X.A (.compLoop (.ListComp elt [⟨target,iter,ifs,0⟩] scope pos) 0 (.ref it) (.ref s2.heap.objs.size) X'.env)
  (compPost (model X.prog X.w) X.A X.xe use Qf (.ref s2.heap.objs.size) h3.objs.size) {s2 with heap:=h₁,toks:=s2.toks+([]:List (Str×Value)).length}:=by
  refine qC (λn s'=>∃i ys QO k σ' H',Inv X' [] σ' H' s'/\tn i s'.heap/\(∀b∈fp,H' b=none)/\H' s2.heap.objs.size=none/\Vals ys QO/\s'.heap.get? s2.heap.objs.size=some {cls:=.type "list",data:=.seq QO.toArray k}/\W i n ys σ' H')
   ?_ m0 ⟨0,[],[],0,_,H2,I4,T.keep 0 _ _ TL λb _ o e=>Um b o (to3 b o e),λb R6=>(f2 b R6).1,HD2,.nil,Um _ _ V9,w0⟩
  rintro n s5 ⟨i,ys,QO,k,σ5,H5,I5,UO,fr5,hD5,U7,get5,w5⟩;obtain⟨hlen,alt⟩:=turn i n ys σ5 H5 w5;have P5:=pinD I5 get5 hD5 (λv z=>by cases z);have okp:∀p∈[(s2.heap.objs.size,({cls:=.type "list",data:=.seq QO.toArray k}:Obj))],p.1=s2.heap.objs.size:=λp hp=>by
   rw[KZ.mp hp]
  rcases alt with⟨stop,q⟩ | ⟨go,step⟩
  ·refine aO (T.done X' rfl rfl rfl hc i _ s5 σ5 H5 _ P5 (fpX okp fr5) UO stop) λr s6 ⟨hr,I6⟩=>?_;subst hr;obtain⟨m6,hn6,_⟩:=I6.loc;obtain⟨get6,_,_,_,_⟩:=I6.pin (s2.heap.objs.size,({cls:=.type "list",data:=.seq QO.toArray k}:Obj)) (La _ (KZ.mpr rfl));have U8:∀b o,b≠h3.objs.size->s6.heap.get? b=some o->s6.heap.get? b=some o:=λb o hb e=>e;have exn:∀{b:Addr}{o:Obj},s2.heap.get? b=some o->b∉fp->b∉X'.ex:=λ{b o} e hb z=>by
    rcases K8.mp z with z | z
    ·exact QE (Pl e) (by rw[z];exact MF _)
    ·exact hb z
   have Td:∀{b:Addr}{o:Obj},s2.heap.get? b=some o->b≠h3.objs.size:=λ{b o} e z=>by
    have q1:=Pl e;rw[z,hC] at q1;exact QE q1 (MM.mpr (MH _))
   have neD:∀{b:Addr}{o:Obj},s2.heap.get? b=some o->b≠s2.heap.objs.size:=λ{b o} e=>MB (Pl e);have Us:∀{b:Addr}{o:HO},H2 b=some o->b≠s2.heap.objs.size:=λ{b o} e=>cB e HD2;have U:Un (bG X.stack) fp H2 (upd H5 s2.heap.objs.size (.lst ys)) s2.heap s6.heap:=by
    refine⟨λb o e n hb hx=>?_,λb o e n hb hx=>?_,λb o e n hx=>?_,λb o e hx=>?_,λb xs e=>?_,λb o u e=>?_,λb ps e=>?_⟩
    ·exact U8 b o (Td e) (I6.base.keep b o (to3 b o e) n hb (exn e hx))
    ·obtain⟨sl,q1⟩:=I6.base.slot b o (to3 b o e) n hb (exn e hx);exact⟨sl,U8 b _ (Td e) q1⟩
    ·rw[aA (neD e)];exact I6.base.free b o (to3 b o e) n (exn e hx)
    ·obtain⟨o',q1⟩:=I6.base.there b o (to3 b o e) (exn e hx);exact⟨o',U8 b _ (Td e) q1⟩
    ·rw[aA (Us e)];exact I6.base.Rf b xs e
    ·rw[aA (Us e)];exact I6.base.Rb b o u e
    ·rw[aA (Us e)];exact I6.base.Rg b ps e
   have HC:H5 h3.objs.size=none:=I6.free;have QQ:bW X.prog X.w (upd H5 s2.heap.objs.size (.lst ys)) s6.heap:=λb u e=>by
    by_cases hbD:b=s2.heap.objs.size
    ·subst hbD;rw[aD] at e;cases e
     exact⟨hlen,QO,k,U7,U8 _ _ (by rw[hC];exact MB (MI _)) get6⟩
    ·rw[aA hbD] at e;refine(I6.QQ b u e).Q7 (λc o U1 q1=>U8 c o (λz=>?_) q1) (λc q1=>by rw[aA (cB q1 hD5)];exact q1) λc xs q1=>by rw[aA (cB q1 hD5)];exact q1
     rcases U1 with U1 | U1
     ·rw[← U1,z,HC] at e;cases e
     ·rw[z,HC] at U1;cases U1
   have fin:=I2.vt (s':=s6) (ch:=fp) I6.os U QQ I6.bare λb R6=>⟨(f2 b R6).2.2.2.1,(f2 b R6).2.1,(f2 b R6).2.2.2.2.1,(f2 b R6).2.2.2.2.2⟩;refine SH _ h3.objs.size _ s6 fin ⟨⟨m6,hn6⟩,?_,?_,?_,λx c e z=>?_,λp hp z=>?_⟩ (q _ hD5)
   ·rw[aA (by rw[hC];exact ML (MI _))];exact HC
   ·intro z;have:=I2.lt;rw[← z,hC] at this;exact QE this (MM.mpr (MH _))
   ·rw[hC];exact Mz I2.sz (MH _)
   ·obtain⟨v',q1⟩:=I2.cell x c e;have:=q1.lt;rw[z,hC] at this;exact QE this (MM.mpr (MH _))
   ·have:=Pl (I2.pin p hp).1;rw[z,hC] at this;exact QE this (MM.mpr (MH _))
  ·refine aO (T.item X' rfl rfl rfl hc i _ s5 σ5 H5 _ P5 (fpX okp fr5) UO go) λr s6 ⟨u,hr,h6⟩=>?_;subst hr;refine aO h6 λ_ s7 ⟨x,H7,I7,r7,y7,st7,fr7⟩=>?_;have I7':=I7.pinned (fpX okp fr7) (T.obj _ _ st7);refine aO (hg _ s7 σ5 H7 x u _ I7' r7 (step x H7 y7)) λ_ s8 ⟨σ8,H8,I8,q8⟩=>?_;refine aO (hf _ s8 σ8 H8 _ I8 q8) λb s9 ⟨H9,I9,q9⟩=>?_;have out:∀{σ':St}{H':Hp}{s':M9},Inv X' ([(s2.heap.objs.size,({cls:=.type "list",data:=.seq QO.toArray k}:Obj))]++jy fp s7.heap) σ' H' s'->
    tn (i+1) s'.heap/\(∀b∈fp,H' b=none)/\H' s2.heap.objs.size=none/\s'.heap.get? s2.heap.objs.size=some {cls:=.type "list",data:=.seq QO.toArray k}:=λI'=>by
    refine⟨T.keep _ _ _ st7 λb R6 o e=>(I'.pin (b,o) (La _ (La _ (ia R6 e)))).1,λb R6=>?_,(I'.pin (s2.heap.objs.size,({cls:=.type "list",data:=.seq QO.toArray k}:Obj)) (La _ (Lk _ (KZ.mpr rfl)))).2.1,(I'.pin (s2.heap.objs.size,({cls:=.type "list",data:=.seq QO.toArray k}:Obj)) (La _ (Lk _ (KZ.mpr rfl)))).1⟩;obtain⟨o,e,d⟩:=T.obj _ _ st7 b R6;exact(I'.pin (b,o) (La _ (La _ (ia R6 e)))).2.1
   cases b with
   | false=>
     rw[QF KC] at q9 ⊢;obtain⟨m',hm,w'⟩:=q9;obtain⟨o1,o2,o3,o4⟩:=out I9;exact⟨m',hm,i+1,ys,QO,k,σ8,H9,I9.iz (λ_ z=>nomatch z),o1,o2,o3,U7,o4,w'⟩
   | true=>
     rw[QG rfl] at q9 ⊢;refine aO (he _ s9 σ8 H9 _ I9 q9) λuv s10 ⟨v10,H10,I10,r10,q10⟩=>?_;obtain⟨m',hm,w'⟩:=q10;obtain⟨o1,o2,o3,o4⟩:=out I10;refine wpAny_list_append_plain ⟨k,o4⟩ (λh' Q3 RL=>?_) (by
      have:=U7.length;rw[K6,← this];exact hlen)
     obtain⟨k',S8⟩:=Q3;have I11:Inv X' (jy fp s7.heap) σ8 H10 s10:=I10.iz λp hp=>I10.pin p (La _ (La _ hp));have I12:Inv X' [] σ8 H10 {s10 with heap:=h'}:=(I10.iz (λ_ z=>nomatch z):Inv X' [] σ8 H10 s10).turned (t':=s10.toks) (λb o R6 e=>RL.extBut b o R6 e) o3 Dne (.inl (K4 ..)) Dcl (λp hp=>QE (show p∈([]:Kq) from hp) (by simp));refine⟨m',hm,i+1,ys++[v10],QO++[uv],k',σ8,H10,I12,T.keep _ _ _ o1 λb R6 o e=>RL.extBut b o (frD R6) e,o2,o3,U7.append (.cons r10 .nil),?_,w'⟩;show h'.get? _=_;rw[S8];simp
 exact codeAny_compStart_list loop (T.self X.A 0 _ _ _ (T.keep 0 _ _ TL λb _ o e=>Um b o (to3 b o e)) loop)
theorem Off.gone {C:Addr}{h':Heap}(o:Off X QN H s C)(I:Inv X QN σ H s)(RL:Pq C s.heap h'):Inv X QN σ H {s with heap:=h'}:=
 I.turned (t':=s.toks) (λb u hb e=>RL.extBut b u hb e) o.free o.ne (.inr o.young) o.cell o.pin
theorem Bg {own:Ks}(hc:X.calm=true)(S:eI X scope cl own fr ix)(hi:PI X target iter wi)(hb:∀(C:Addr)(s:M9)(H:Hp)(ex:Ku),PG (bJ X scope cl C (own++fr) s H ex) target g/\PF (bJ X scope cl C (own++fr) s H ex) ifs tc/\PE (bJ X scope cl C (own++fr) s H ex) elt te)(hs:∀x,NF iter X.env x=pure x:=by intro _;rfl):
 PE X (.ListComp elt [⟨target,iter,ifs,0⟩] scope pos) (u9 wi g tc te (fU own ix)):=by
 intro QN s σ H Q I h;rw[eval_ListComp];refine o9 (use:=none) hc S hi hb hs I h λD C H6 s6 I6 o6 q=>?_;obtain⟨m,hn⟩:=o6.ns;exact⟨m,hn,λh' RL=>⟨.ref D,H6,o6.gone I6 RL,rfl,q⟩⟩
theorem vZ {i:Nat}{y:Str}{py Tb:Pos}{own:Ks}(RR:Nl (.ListComp elt [⟨target,iter,ifs,0⟩] scope pos) (some (.Name y py)) Tb.line X.env=pure true)(hN:X.N.Nodup)(hi':X.N[i]?=some y)(hx:Loc X.env.scope y)(hc:X.calm=true)(S:eI X scope cl own fr ix)(hi:PI X target iter wi)(hb:∀(C:Addr)(s:M9)(H:Hp)(ex:Ku),PG (bJ X scope cl C (own++fr) s H ex) target g/\PF (bJ X scope cl C (own++fr) s H ex) ifs tc/\PE (bJ X scope cl C (own++fr) s H ex) elt te)(hs:∀x,NF iter X.env x=pure x:=by intro _;rfl)(hf:X.fn y=true∨X.env.scope.names.lookup y=some .local:=by first | exact .inl rfl | exact .inr rfl | assumption):
 PS X (.Assign [.Name y py] (.ListComp elt [⟨target,iter,ifs,0⟩] scope pos) Tb) (zD (u9 wi g tc te (fU own ix)) (wa i)):=by
 intro QN s σ H D I h;rw[exec_Assign_Name_used _ _ _ _ RR];refine Na (Od (Na ?_));show wpAny _ _ (do let _ ← comprehension (.ListComp elt [⟨target,iter,ifs,0⟩] scope pos) scope X.env _ (newList []) false (eval iter X.env) (some (N2 (.Name y py) X.env))) _ _ s;refine Na (Nj (o9 (use:=some (N2 (.Name y py) X.env)) (Qf:=λ_ s'=>SP X QN D .next s') hc S hi hb hs I h λA C H6 s6 I6 o6 q=>?_) (λ_ s' hq=>Nd (Nd hq)) λ_ _ e=>e);show wpAny _ _ (N2 (.Name y py) X.env (.ref A)) _ _ _;refine wpAny_assign_Name (oS I6 hN hi' hx (v:=.ref A) rfl (λs7 I7 hw=>?_) hf);obtain⟨c,Vr,Ug⟩:=hw;have Td:C≠c:=by
  rcases Ug with rfl | Ug
  ·exact o6.ne
  ·exact MQ (o6.cell y c Ug)
 obtain⟨m,hn⟩:=o6.ns;have o7:Off X QN H6 s7 C:=⟨⟨m,hn.sameBut Vr Td⟩,o6.free,o6.ne,o6.young,o6.cell,o6.pin⟩;exact⟨m,hn.sameBut Vr Td,λh' RL=>⟨_,H6,o7.gone I7 RL,q⟩⟩
end
end L2
namespace Fc
open PySem PySem.Spec PySem.W PySem.Calls L2
open PyProof.Rows hiding St
variable {X:Cx}{e:Expr}{σ:St}{H:Hp}{v:V}{D:Ends}{Q:VK}
section
variable {t:TT}{Q:Bool->Hp->Prop}
def fq (X:Cx)(e:Expr):TE:=λσ H Q=>∀(QN:Kq)(s:M9),Inv X QN σ H s->wpAny (model X.prog X.w) X.A (eval e X.env) (EP X QN σ Q) X.xe s
def jO (X:Cx)(e:Expr):TT:=λσ H Q=>∀(QN:Kq)(s:M9),Inv X QN σ H s->wpAny (model X.prog X.w) X.A (N6 e X.env (eval e X.env)) (TP X QN σ Q) X.xe s
def zX (X:Cx)(e:Expr):TT:=λσ H Q=>∀(whole:Sem Value)(QN:Kq)(s:M9),Inv X QN σ H s->wpAny (model X.prog X.w) X.A (N6 e X.env whole) (TP X QN σ Q) X.xe s
def oK (X:Cx)(e:Expr):TG:=λv σ H Q=>∀(QN:Kq)(s:M9)(u:Value),Inv X QN σ H s->RelV v u->wpAny (model X.prog X.w) X.A (N2 e X.env u) (λ_ s'=>∃σ' H',Inv X QN σ' H' s'/\Q σ' H') X.xe s
def l9 (X:Cx)(st:Stmt):TS:=λD σ H=>∀(QN:Kq)(s:M9),Inv X QN σ H s->wpAny (model X.prog X.w) X.A (exec st X.env) (SP X QN D) X.xe s
def fF (X:Cx)(st:List Stmt):TS:=λD σ H=>∀(QN:Kq)(s:M9),Inv X QN σ H s->wpAny (model X.prog X.w) X.A (execs st X.env) (SP X QN D) X.xe s
def kF (X:Cx)(es:Kw):TA:=λσ H Q=>∀(pos:Pos)(QN:Kq)(s:M9),Inv X QN σ H s->wpAny (model X.prog X.w) X.A (spliced (Nk pos (Nc es X.env))) (AP X QN σ Q) X.xe s
def sv (X:Cx)(ifs:Kw):TT:=λσ H Q=>∀(QN:Kq)(s:M9),Inv X QN σ H s->
 wpAny (model X.prog X.w) X.A (forIn ifs true λc r=>if r=true then do let ok ← N6 c X.env (eval c X.env);pure (KP ok) else pure (KP r)) (TP X QN σ Q) X.xe s
theorem aR:PE X e (fq X e):=λQN s _ _ _ I h=>h QN s I
theorem kA:PT X e (jO X e):=λQN s _ _ _ I h=>h QN s I
theorem FO:PW X e (zX X e):=λwh QN s _ _ _ I h=>h wh QN s I
theorem pgS:PG X e (oK X e):=λQN s _ _ _ u _ I r h=>h QN s u I r
theorem ur {e:Stmt}:PS X e (l9 X e):=λQN s _ _ _ I h=>h QN s I
theorem ef {e:List Stmt}:iK X e (fF X e):=λQN s _ _ _ I h=>h QN s I
theorem jj {e:Kw}:PA X e (kF X e):=λpos QN s _ _ _ I h=>h pos QN s I
theorem eS {t:TE}(h:PE X e t){Q:VK}(q:t σ H Q):fq X e σ H Q:=λQN s I=>h QN s σ H Q I q
theorem tS (h:PT X e t)(q:t σ H Q):jO X e σ H Q:=λQN s I=>h QN s σ H Q I q
theorem wS (h:PW X e t)(q:t σ H Q):zX X e σ H Q:=λwh QN s I=>h wh QN s σ H Q I q
theorem gS {t:TG}(h:PG X e t){Q:St->Hp->Prop}(q:t v σ H Q):oK X e v σ H Q:=λQN s u I r=>h QN s σ H v u Q I r q
theorem sS {e:Stmt}{t:TS}(h:PS X e t)(q:t D σ H):l9 X e D σ H:=λQN s I=>h QN s σ H D I q
theorem pz {e:List Stmt}{t:TS}(h:iK X e t)(q:t D σ H):fF X e D σ H:=λQN s I=>h QN s σ H D I q
theorem aS {e:Kw}{t:TA}(h:PA X e t){Q:List V->Hp->Prop}(q:t σ H Q):kF X e σ H Q:=λpos QN s I=>h pos QN s σ H Q I q
theorem fS {e:Kw}(h:PF X e t)(q:t σ H Q):sv X e σ H Q:=λQN s I=>h QN s σ H Q I q
end
variable {R:Hp}{α:Type}
section
variable {p:Addr}
theorem ax.fresh (h:H p=none)(o:HO):ax H (upd H p o):=λb u q=>by rw[aA (cB q h)];exact q
structure Rep (α:Type) where
 R:P1->Hp->V->α->Prop
 mono:∀{K:P1}{H H':Hp}{v:V}{x:α},ax H H'->R K H v x->R K H' v x
def ah:Rep Int:=⟨λ_ _ v x=>v= .int x,λ_ h=>h⟩
def bp:Rep Bool:=⟨λ_ _ v x=>v= .bl x,λ_ h=>h⟩
theorem Paired.map {β:Type}{F G:α->β->Prop}(f:∀a b,F a b->G a b):∀{l:List α}{m:List β},PySem.Paired F l m->PySem.Paired G l m
 | _,_,.nil=>.nil
 | _,_,.cons h t=>.cons (f _ _ h) (Paired.map f t)
def af (r:Rep α):Rep (List α):=⟨λK H v xs=>∃a vs,v= .ref a/\H a=some (.lst vs)/\PySem.Paired (r.R K H) vs xs/\xs.length<=Nb,
 λs ⟨a,vs,e,q,p,z⟩=>⟨a,vs,e,s _ _ q,Paired.map (λ_ _=>r.mono s) p,z⟩⟩
def bM:Rep Kr:=⟨λK H v xs=>∃a,v= .ref a/\bt K H a (xs.map V.int)/\xs.length<=63,λs ⟨a,e,q,z⟩=>⟨a,e,s.seq q,z⟩⟩
def dh {β:Type}(r:Rep α)(r':Rep β):Rep (α×β):=⟨λK H v x=>∃a v1 v2,v= .ref a/\H a=some (.tup [v1,v2])/\r.R K H v1 x.1/\r'.R K H v2 x.2,
 λs ⟨a,v1,v2,e,q,h1,h2⟩=>⟨a,v1,v2,e,s _ _ q,r.mono s h1,r'.mono s h2⟩⟩
structure Ext (H R H' R':Hp):Prop where
 h:ax H H'
 r:ax R R'
 s:ax R' H'
 old:∀b,H b≠none->R' b=R b
theorem Ext.refl (s:ax R H):Ext H R H R:=⟨ax.refl _,ax.refl _,s,λ_ _=>rfl⟩
theorem ax.some {H':Hp}(s:ax H H'){b:Addr}(h:H b≠none):H' b≠none:=by
 cases q:H b with
 | none=>exact QE q h
 | some o=>rw[s b o q];exact MR o
theorem Ext.trans {H1 R1 H2 R2:Hp}(a:Ext H R H1 R1)(b:Ext H1 R1 H2 R2):Ext H R H2 R2:=
 ⟨a.h.trans b.h,a.r.trans b.r,b.s,λc hc=>(b.old c (ax.some a.h hc)).trans (a.old c hc)⟩
theorem Ext.fresh (s:ax R H)(h:H p=none)(o:HO):Ext H R (upd H p o) (upd R p o):=
 ⟨ax.fresh h o,ax.fresh (s.free h) o,λb u q=>by
  by_cases e:b=p
  ·subst e;rw[aD] at q ⊢;exact q
  ·rw[aA e] at q ⊢;exact s b u q,λb hb=>aA λe=>hb (e▸h)⟩
theorem Ext.dj (s:ax R H)(h:H p=none)(o:HO):Ext H R (upd H p o) R:=
 ⟨ax.fresh h o,ax.refl _,s.trans (ax.fresh h o),λ_ _=>rfl⟩
structure uK:Type 1 where
 fp:Ku
 R:P1->Hp->Hp->V->Prop
 loc:∀{K:P1}{H R0 H' R':Hp}{v:V},(∀a∈fp,H' a=H a)->ax R0 R'->R K H R0 v->R K H' R' v
 has:∀{K:P1}{H R0:Hp}{v:V},R K H R0 v->∀a∈fp,H a≠none
inductive Ent:Type 1
 | no
 | im {α:Type} (r:Rep α) (x:α)
 | mu {α:Type} (r:Rep α) (xs:List α)
 | di (kvs:List (Int×V))
 | ob (B:uK)
def bV (kvs:List (Int×V)):List (Key×V):=kvs.map λp=>(Sum.inl p.1,p.2)
def Ent.ok (K:P1)(H R:Hp):Ent->Option V->Prop
 | .no,_=>True
 | .im r x,o=>∃v,o=some v/\r.R K R v x
 | .mu r xs,o=>∃a vs,o=some (.ref a)/\H a=some (.lst vs)/\R a=none/\PySem.Paired (r.R K R) vs xs
 | .di kvs,o=>∃a,o=some (.ref a)/\H a=some (.dK (bV kvs))/\R a=none
 | .ob B,o=>(∃v,o=some v/\B.R K H R v)/\∀a∈B.fp,R a=none
def Ent.own:Ent->Bool
 | .mu .. =>true
 | .di .. =>true
 | _=>false
def refOf:Option V->Ku
 | some (.ref a)=>[a]
 | _=>[]
def Ent.fp:Ent->Option V->Ku
 | .mu ..,o=>refOf o
 | .di ..,o=>refOf o
 | .ob B,_=>B.fp
 | _,_=>[]
abbrev Ga:=List Ent
structure aw (K:P1)(σ:St)(H0 R0 H R:Hp)(Γ:Ga):Prop where
 ext:Ext H0 R0 H R
 ent:∀(i:Nat)(e:Ent),Γ[i]?=some e->e.ok K H R (σ[i]?).join
 nw:∀(i:Nat)(e:Ent)(a:Addr),Γ[i]?=some e->a∈e.fp (σ[i]?).join->H0 a=none
 ds:∀(i j:Nat)(e e':Ent)(a:Addr),Γ[i]?=some e->Γ[j]?=some e'->a∈e.fp (σ[i]?).join->a∈e'.fp (σ[j]?).join->i=j
 len:Γ.length=σ.length
end
variable {K:P1}{H0 R0:Hp}{Γ:Ga}{a:Addr}{o:Option V}{i:Nat}{en:Ent}{Γ':Ga}{r:Rep α}
section
variable {H' R':Hp}
variable {u:HO}
theorem cw:a∈refOf o↔o=some (.ref a):=by
 unfold refOf;split
 ·rw[KZ];constructor
  ·rintro rfl;rfl
  ·intro e;cases e;rfl
 ·rename_i h;constructor
  ·intro z;cases z
  ·intro e;exact QE e (h a)
theorem Ent.nk {e:Ent}(w:e.own=true):a∈e.fp o↔o=some (.ref a):=by
 cases e with
 | no=>cases w
 | im r x=>cases w
 | mu r xs=>exact cw
 | di kvs=>exact cw
 | ob B=>cases w
theorem aw.new (E:aw K σ H0 R0 H R Γ)(i:Nat)(e:Ent)(a:Addr)(h:Γ[i]?=some e)(w:e.own=true)(ha:(σ[i]?).join=some (.ref a)):H0 a=none:=E.nw i e a h ((Ent.nk w).mpr ha)
theorem Ent.gx {e:Ent}(h:e.ok K H R o)(ha:a∈e.fp o):H a≠none/\R a=none:=by
 cases e with
 | no=>cases ha
 | im r x=>cases ha
 | mu r xs=>
   obtain⟨b,vs,e,q,n,_⟩:=h;rw[Ent.fp,cw,e] at ha;cases ha
   exact⟨by rw[q];exact MR _,n⟩
 | di kvs=>
   obtain⟨b,e,q,n⟩:=h;rw[Ent.fp,cw,e] at ha;cases ha
   exact⟨by rw[q];exact MR _,n⟩
 | ob B=>obtain⟨⟨v,e,q⟩,n⟩:=h;exact⟨B.has q a ha,n a ha⟩
theorem Ent.ok.loc {e:Ent}(h:e.ok K H R o)(hH:∀a∈e.fp o,H' a=H a)(hR:ax R R')(hn:∀a∈e.fp o,R' a=none):e.ok K H' R' o:=by
 cases e with
 | no=>trivial
 | im r y=>obtain⟨v,e,q⟩:=h;exact⟨v,e,r.mono hR q⟩
 | mu r xs=>
   obtain⟨a,vs,e,q,n,p⟩:=h;have ha:a∈Ent.fp (.mu r xs) o:=cw.mpr e;exact⟨a,vs,e,(hH a ha).trans q,hn a ha,Paired.map (λ_ _=>r.mono hR) p⟩
 | di kvs=>
   obtain⟨a,e,q,n⟩:=h;have ha:a∈Ent.fp (.di kvs) o:=cw.mpr e;exact⟨a,e,(hH a ha).trans q,hn a ha⟩
 | ob B=>obtain⟨⟨v,e,q⟩,n⟩:=h;exact⟨⟨v,e,B.loc hH hR q⟩,hn⟩
theorem Ent.ok.grow {e:Ent}(h:e.ok K H R o)(x:Ext H R H' R'):e.ok K H' R' o:=by
 refine h.loc (λa ha=>?_) x.r (λa ha=>?_)
 ·cases q:H a with
  | none=>exact QE q (Ent.gx h ha).1
  | some u=>exact x.h _ _ q
 ·obtain⟨h1,h2⟩:=Ent.gx h ha;exact(x.old a h1).trans h2
theorem aw.grow (E:aw K σ H0 R0 H R Γ)(x:Ext H R H' R'):aw K σ H0 R0 H' R' Γ:=
 ⟨E.ext.trans x,λi e h=>(E.ent i e h).grow x,E.nw,E.ds,E.len⟩
theorem aw.sub (E:aw K σ H0 R0 H R Γ):ax R H:=E.ext.s
def Off (a:Addr)(σ:St)(Γ:Ga):Prop:=∀(i:Nat)(e:Ent),Γ[i]?=some e->a∉e.fp (σ[i]?).join
theorem aw.off (E:aw K σ H0 R0 H R Γ)(h:H a=none):Off a σ Γ:=λi e q w=>(Ent.gx (E.ent i e q) w).1 h
theorem set_at.{v}{β:Type v}{l:List β}{i:Nat}{y:β}{j:Nat}{e:β}(q:(l.set i y)[j]?=some e):(j=i/\e=y/\i<l.length)∨(j≠i/\l[j]?=some e):=by
 by_cases hj:j=i
 ·subst hj;have hl:j<l.length:=by
   have:=KW.mp q;simpa using this.1
  rw[Lb hl] at q;exact .inl ⟨rfl,(Option.some.inj q).symm,hl⟩
 ·rw[Ll (MQ hj)] at q;exact .inr ⟨hj,q⟩
theorem aw.setG (E:aw K σ H0 R0 H R Γ)(i:Nat)(ho:en.ok K H R (some v))(h0:∀a∈en.fp (some v),H0 a=none)(hf:∀a∈en.fp (some v),∀(j:Nat)(e:Ent),j≠i->Γ[j]?=some e->a∉e.fp (σ[j]?).join):
 aw K (σ.set i (some v)) H0 R0 H R (Γ.set i en):=by
 have key:∀(j:Nat)(e:Ent),(Γ.set i en)[j]?=some e->(j=i/\e=en/\((σ.set i (some v))[j]?).join=some v)∨(j≠i/\Γ[j]?=some e/\(σ.set i (some v))[j]?=σ[j]?):=λj e q=>by
  rcases set_at q with⟨rfl,rfl,hl⟩ | ⟨hj,q⟩
  ·exact .inl ⟨rfl,rfl,by rw[Lb (by rw[← E.len];exact hl)];rfl⟩
  ·exact .inr ⟨hj,q,Ll (MQ hj)⟩
 refine⟨E.ext,λj e q=>?_,λj e a q w=>?_,λj k e e' a q q' w w'=>?_,by rw[LC,LC];exact E.len⟩
 ·rcases key j e q with⟨_,rfl,q2⟩ | ⟨_,q1,q2⟩
  ·rw[q2];exact ho
  ·rw[q2];exact E.ent j e q1
 ·rcases key j e q with⟨_,rfl,q2⟩ | ⟨_,q1,q2⟩
  ·rw[q2] at w;exact h0 a w
  ·rw[q2] at w;exact E.nw j e a q1 w
 ·rcases key j e q with⟨hj,rfl,q2⟩ | ⟨hj,q1,q2⟩
  ·rcases key k e' q' with⟨hk,rfl,UP⟩ | ⟨hk,Sf,UP⟩
   ·rw[hj,hk]
   ·rw[q2] at w;rw[UP] at w';exact QE w' (hf a w k e' hk Sf)
  ·rcases key k e' q' with⟨hk,rfl,UP⟩ | ⟨hk,Sf,UP⟩
   ·rw[q2] at w;rw[UP] at w';exact QE w (hf a w' j e hj q1)
   ·rw[q2] at w;rw[UP] at w';exact E.ds j k e e' a q1 Sf w w'
theorem aw.set (E:aw K σ H0 R0 H R Γ)(i:Nat){v:V}{x:α}(h:r.R K R v x):aw K (σ.set i (some v)) H0 R0 H R (Γ.set i (.im r x)):=
 E.setG i ⟨v,rfl,h⟩ (λa w=>by cases w) λa w=>by cases w
theorem aw.v8 (E:aw K σ H0 R0 H R Γ)(i:Nat){u:HO}(ho:en.ok K H R (some (.ref a)))(h0:H0 a=none)(hf:∀(j:Nat)(e:Ent),j≠i->Γ[j]?=some e->a∉e.fp (σ[j]?).join)(hfp:en.fp (some (.ref a))=[a]:=by rfl):
 aw K (σ.set i (some (.ref a))) H0 R0 H R (Γ.set i en):=
 E.setG i ho (λb w=>by rw[hfp,KZ] at w;rw[w];exact h0) λb w=>by rw[hfp,KZ] at w;rw[w];exact hf
theorem aw.n8 (E:aw K σ H0 R0 H R Γ){e0:Ent}(hi:Γ[i]?=some e0)(ha:a∈e0.fp (σ[i]?).join)(ho:en.ok K (L2.upd H a u) R (σ[i]?).join)(Ru:∀b∈en.fp (σ[i]?).join,b∈e0.fp (σ[i]?).join∨(H0 b=none/\Off b σ Γ)):aw K σ H0 R0 (L2.upd H a u) R (Γ.set i en):=by
 have h0:H0 a=none:=E.nw i e0 a hi ha;have hR:R a=none:=(Ent.gx (E.ent i e0 hi) ha).2;refine⟨⟨λb o q=>?_,E.ext.r,λb o q=>?_,E.ext.old⟩,λj e q=>?_,λj e b q w=>?_,λj k e e' b q q' w w'=>?_,by rw[LC];exact E.len⟩
 ·rw[aA (cB q h0)];exact E.ext.h b o q
 ·rw[aA (cB q hR)];exact E.ext.s b o q
 ·rcases set_at q with⟨rfl,rfl,_⟩ | ⟨hj,q1⟩
  ·exact ho
  ·refine(E.ent j e q1).loc (λb hb=>aA λz=>hj ?_) (ax.refl _) λb hb=>(Ent.gx (E.ent j e q1) hb).2;rw[z] at hb;exact E.ds j i e e0 a q1 hi hb ha
 ·rcases set_at q with⟨rfl,rfl,_⟩ | ⟨hj,q1⟩
  ·rcases Ru b w with z | z
   ·exact E.nw _ _ b hi z
   ·exact z.1
  ·exact E.nw j e b q1 w
 ·rcases set_at q with⟨rfl,rfl,_⟩ | ⟨hj,q1⟩
  ·rcases set_at q' with⟨rfl,rfl,_⟩ | ⟨hk,Sf⟩
   ·rfl
   ·rcases Ru b w with z | z
    ·exact E.ds _ _ _ _ b hi Sf z w'
    ·exact QE w' (z.2 k e' Sf)
  ·rcases set_at q' with⟨rfl,rfl,_⟩ | ⟨hk,Sf⟩
   ·rcases Ru b w' with z | z
    ·exact E.ds _ _ _ _ b q1 hi w z
    ·exact QE w (z.2 j e q1)
   ·exact E.ds _ _ _ _ b q1 Sf w w'
theorem aw.upd (E:aw K σ H0 R0 H R Γ){e0 en:Ent}(hi:Γ[i]?=some e0)(w0:e0.own=true)(ha:(σ[i]?).join=some (.ref a))(hR:R a=none)(ho:en.ok K (L2.upd H a u) R (some (.ref a)))(hfp:en.fp (some (.ref a))=[a]:=by rfl):
 aw K σ H0 R0 (L2.upd H a u) R (Γ.set i en):=
 E.n8 hi ((Ent.nk w0).mpr ha) (by rw[ha];exact ho) λb w=>.inl (by rw[ha,hfp,KZ] at w;rw[w];exact(Ent.nk w0).mpr ha)
theorem aw.ql (E:aw K σ H0 R0 H R Γ)(ha:H a=some u)(hR:R a=none)(h0:H0 a=none)(off:Off a σ Γ):aw K σ H0 R0 H (L2.upd R a u) Γ:=by
 have s2:ax R (L2.upd R a u):=ax.fresh hR _;refine⟨⟨E.ext.h,E.ext.r.trans s2,λb o qb=>?_,λb hb=>?_⟩,λi e qe=>?_,E.nw,E.ds,E.len⟩
 ·by_cases hb:b=a
  ·subst hb;rw[aD] at qb;cases qb;exact ha
  ·rw[aA hb] at qb;exact E.ext.s b o qb
 ·rw[aA (show b≠a from λe=>hb (by rw[e];exact h0))];exact E.ext.old b hb
 ·refine(E.ent i e qe).loc (λ_ _=>rfl) s2 λb hb=>?_;rw[aA (show b≠a from λz=>off i e qe (z▸hb))];exact(Ent.gx (E.ent i e qe) hb).2
theorem aw.tell (E:aw K σ H0 R0 H R Γ){e0:Ent}(hi:Γ[i]?=some e0)(ho:en.ok K H R (σ[i]?).join)(Ru:∀b∈en.fp (σ[i]?).join,b∈e0.fp (σ[i]?).join):aw K σ H0 R0 H R (Γ.set i en):=by
 refine⟨E.ext,λj e q=>?_,λj e b q w=>?_,λj k e e' b q q' w w'=>?_,by rw[LC];exact E.len⟩
 ·rcases set_at q with⟨rfl,rfl,_⟩ | ⟨hj,q1⟩
  ·exact ho
  ·exact E.ent j e q1
 ·rcases set_at q with⟨rfl,rfl,_⟩ | ⟨hj,q1⟩
  ·exact E.nw _ _ b hi (Ru b w)
  ·exact E.nw j e b q1 w
 ·rcases set_at q with⟨rfl,rfl,_⟩ | ⟨hj,q1⟩
  ·rcases set_at q' with⟨rfl,rfl,_⟩ | ⟨hk,Sf⟩
   ·rfl
   ·exact E.ds _ _ _ _ b hi Sf (Ru b w) w'
  ·rcases set_at q' with⟨rfl,rfl,_⟩ | ⟨hk,Sf⟩
   ·exact E.ds _ _ _ _ b q1 hi w (Ru b w')
   ·exact E.ds _ _ _ _ b q1 Sf w w'
def Wk:Ga->Ga->Prop
 | [],[]=>True
 | e::r,e'::r'=>(e'=e∨e'= .no)/\Wk r r'
 | _,_=>False
theorem Wk.len:∀{Γ Γ':Ga},Wk Γ Γ'->Γ'.length=Γ.length
 | [],[],_=>rfl
 | _::_,_::_,h=>by rw[Lg,Lg,Wk.len h.2]
theorem Wk.at:∀{Γ Γ':Ga},Wk Γ Γ'->∀(i:Nat)(e:Ent),Γ'[i]?=some e->e= .no∨Γ[i]?=some e
 | [],[],_,i,e,q=>by simp at q
 | a::_,b::_,h,0,e,q=>by
   simp at q;rcases h.1 with z | z
   ·right;simp[← q,z]
   ·left;rw[← q,z]
 | a::r,b::r',h,i+1,e,q=>by
   simp at q;have:=Wk.at h.2 i e q;simpa using this
theorem Wk.refl:∀Γ:Ga,Wk Γ Γ
 | []=>trivial
 | _::r=>⟨.inl rfl,Wk.refl r⟩
theorem aw.weak (E:aw K σ H0 R0 H R Γ)(w:Wk Γ Γ'):aw K σ H0 R0 H R Γ':=by
 refine⟨E.ext,λi e q=>?_,λi e a q z=>?_,λi j e e' a q q' z z'=>?_,w.len.trans E.len⟩
 ·rcases w.at i e q with rfl | q
  ·trivial
  ·exact E.ent i e q
 ·rcases w.at i e q with rfl | q
  ·cases z
  ·exact E.nw i e a q z
 ·rcases w.at i e q with rfl | q
  ·cases z
  ·rcases w.at j e' q' with rfl | q'
   ·cases z'
   ·exact E.ds i j e e' a q q' z z'
end
variable {Γ1 Γ2 Γ3:Ga}{β γ:Type}{pos:Pos}{j:Nat}{n:Int}{b c:Expr}{op:CmpOp}{x:Str}{ra:Rep α}{rb:Rep β}{rc:Rep γ}{z:γ}
section
def EV (X:Cx)(e:Expr)(Γ:Ga){α:Type}(r:Rep α)(y:α)(Γ':Ga):Prop:=
 ∀(σ:St)(H0 R0 H R:Hp),aw X.K σ H0 R0 H R Γ->∀Q:VK,(∀v H' R',aw X.K σ H0 R0 H' R' Γ'->ax R R'->r.R X.K R' v y->Q v H')->fq X e σ H Q
def aI (X:Cx)(e:Expr)(Γ:Ga){α:Type}(r:Rep α)(ys:List α)(Γ':Ga):Prop:=
 ∀(σ:St)(H0 R0 H R:Hp),aw X.K σ H0 R0 H R Γ->∀Q:VK,(∀a vs H' R',aw X.K σ H0 R0 H' R' Γ'->ax R R'->H' a=some (.lst vs)->R' a=none->H0 a=none->Off a σ Γ'->PySem.Paired (r.R X.K R') vs ys->ys.length<=Nb->Q (.ref a) H')->fq X e σ H Q
def TV (X:Cx)(e:Expr)(Γ:Ga)(b:Bool)(Γ':Ga):Prop:=
 ∀(σ:St)(H0 R0 H R:Hp),aw X.K σ H0 R0 H R Γ->∀Q:Bool->Hp->Prop,(∀H' R',aw X.K σ H0 R0 H' R' Γ'->ax R R'->Q b H')->jO X e σ H Q
def TW (X:Cx)(e:Expr)(Γ:Ga)(b:Bool)(Γ':Ga):Prop:=
 ∀(σ:St)(H0 R0 H R:Hp),aw X.K σ H0 R0 H R Γ->∀Q:Bool->Hp->Prop,(∀H' R',aw X.K σ H0 R0 H' R' Γ'->ax R R'->Q b H')->zX X e σ H Q
def TF (X:Cx)(es:Kw)(Γ:Ga)(b:Bool)(Γ':Ga):Prop:=
 ∀(σ:St)(H0 R0 H R:Hp),aw X.K σ H0 R0 H R Γ->∀Q:Bool->Hp->Prop,(∀H' R',aw X.K σ H0 R0 H' R' Γ'->ax R R'->Q b H')->sv X es σ H Q
def BG (X:Cx)(tg:Expr){α:Type}(r:Rep α)(bf:α->Ga->Ga):Prop:=
 ∀(σ:St)(H0 R0 H R:Hp)(Γ:Ga)(v:V)(x:α),aw X.K σ H0 R0 H R Γ->r.R X.K R v x->∀Q:St->Hp->Prop,(∀σ',aw X.K σ' H0 R0 H R (bf x Γ)->Q σ' H)->oK X tg v σ H Q
abbrev RT:=Hp->V->Hp->Hp->Prop
def WS (X:Cx)(RK:List Stmt)(Γ:Ga)(N:Ga->Prop)(T:RT):Prop:=
 ∀(σ:St)(H0 R0 H R:Hp),aw X.K σ H0 R0 H R Γ->∀D:Ends,(∀σ' H' R' Γ',aw X.K σ' H0 R0 H' R' Γ'->ax R R'->N Γ'->D.nx σ' H')->(∀v H' R',Ext H0 R0 H' R'->T H0 v H' R'->D.rt v H')->fF X RK D σ H
def W1 (X:Cx)(st:Stmt)(Γ:Ga)(N:Ga->Prop)(T:RT):Prop:=
 ∀(σ:St)(H0 R0 H R:Hp),aw X.K σ H0 R0 H R Γ->∀D:Ends,(∀σ' H' R' Γ',aw X.K σ' H0 R0 H' R' Γ'->ax R R'->N Γ'->D.nx σ' H')->(∀v H' R',Ext H0 R0 H' R'->T H0 v H' R'->D.rt v H')->l9 X st D σ H
def bN (K:P1){β:Type}(r:Rep β)(P:β->Prop):RT:=λ_ v _ R'=>∃y,r.R K R' v y/\P y
def F4 (K:P1){β:Type}(r:Rep β)(P:List β->Prop):RT:=λH0 v H' R'=>∃a vs ys,v= .ref a/\H0 a=none/\H' a=some (.lst vs)/\R' a=none/\PySem.Paired (r.R K R') vs ys/\ys.length<=Nb/\P ys
theorem aI.im {ys:List α}(h:aI X e Γ r ys Γ1):EV X e Γ (af r) ys Γ1:=by
 intro σ H0 R0 H R E Q q;refine h σ H0 R0 H R E Q λa vs H' R' E' s1 ha hR h0 off p z=>?_;have s2:ax R' (upd R' a (.lst vs)):=ax.fresh hR _;exact q (.ref a) H' (upd R' a (.lst vs)) (E'.ql ha hR h0 off) (s1.trans s2) ⟨a,vs,rfl,aD,Paired.map (λ_ _=>r.mono s2) p,z⟩
theorem EV.cast {y y':α}(h:EV X e Γ r y Γ1)(e1:y=y'):EV X e Γ r y' Γ1:=e1▸h
theorem TV.cast {b b':Bool}(h:TV X e Γ b Γ1)(e1:b=b'):TV X e Γ b' Γ1:=e1▸h
theorem aa (i:Nat){x:Str}{y:α}(hΓ:Γ[i]?=some (.im r y))(hN:X.N[i]?=some x:=by rfl)(hv:autoParam (cI X.env.scope x) Rt)(hd:Q0 x:=by decide)(QR:Rn x:=by decide):EV X (.Name x pos) Γ r y Γ:=by
 intro σ H0 R0 H R E Q q;obtain⟨v,e,h⟩:=E.ent i _ hΓ;refine eS (bh hN hv hd QR) ⟨v,?_,q v H R E (ax.refl _) h⟩;cases es:σ[i]? with
 | none=>rw[es] at e;cases e
 | some o=>rw[es] at e;exact congrArg some e
theorem ev_int {i:Int}:EV X (.Constant (.int i) j pos) Γ ah i Γ:=λ_ _ _ _ _ E _ q=>eS Gf (q _ _ _ E (ax.refl _) rfl)
theorem gj {b:Bool}:EV X (.Constant (.bool b) j pos) Γ bp b Γ:=λ_ _ _ _ _ E _ q=>eS vA (q _ _ _ E (ax.refl _) rfl)
theorem jx {x:Str}{t:Tok}(hm:X.mg x=some (.int n t))(hg:Gl X x:=by rfl)(hd:Q0 x:=by decide):EV X (.Name x pos) Γ ah n Γ:=
 λ_ _ _ _ _ E _ q=>eS (gg (v:=.int n) hg hm ⟨t,rfl⟩ hd) (q (.int n) _ _ E (ax.refl _) rfl)
theorem ig {op:Operator}{r2:R2}{a:Expr}{x:α}{y:β}(ho:dc X (NS op) r2)(ha:EV X a Γ ra x Γ1)(hb:EV X b Γ1 rb y Γ2)(hz:∀(R:Hp) v u H Q,ra.R X.K R v x->rb.R X.K R u y->(∀w,rc.R X.K R w z->Q w H)->r2 v u H Q):EV X (.BinOp a op b pos) Γ rc z Γ2:=by
 intro σ H0 R0 H R E Q q;refine eS (AH ho aR aR) (ha σ H0 R0 H R E _ λv H1 R1 E1 s1 e1=>hb σ H0 R0 H1 R1 E1 _ λu H2 R2 E2 s2 e2=>?_);exact hz R2 v u H2 _ (ra.mono s2 e1) e2 λw hw=>q w H2 R2 E2 (s1.trans s2) hw
section
variable {a:Expr}{x y z:Int}
theorem bg (ha:EV X a Γ ah x Γ1)(hb:EV X b Γ1 ah y Γ2):EV X (.BinOp a .Add b pos) Γ ah (x+y) Γ2:=ig DE ha hb λR v u H Q e1 e2 q=>⟨x,y,e1,e2,q _ rfl⟩
theorem gQ (ha:EV X a Γ ah x Γ1)(hb:EV X b Γ1 ah y Γ2):EV X (.BinOp a .Sub b pos) Γ ah (x-y) Γ2:=ig Fl ha hb λR v u H Q e1 e2 q=>⟨x,y,e1,e2,q _ rfl⟩
theorem xM (ha:EV X a Γ ah x Γ1)(hb:EV X b Γ1 ah y Γ2)(h:vC x y):EV X (.BinOp a .Mult b pos) Γ ah (x*y) Γ2:=ig EE ha hb λR v u H Q e1 e2 q=>⟨x,y,e1,e2,h,q _ rfl⟩
theorem bR (ha:EV X a Γ ah x Γ1)(hb:EV X b Γ1 ah y Γ2)(h:0<y):EV X (.BinOp a .Mod b pos) Γ ah (x%y) Γ2:=ig DZ ha hb λR v u H Q e1 e2 q=>⟨x,y,e1,e2,h,q _ rfl⟩
theorem jH (ha:EV X a Γ ah x Γ1)(hb:EV X b Γ1 ah y Γ2)(h:Ff x y):EV X (.BinOp a .FloorDiv b pos) Γ ah (x/y) Γ2:=ig Bn ha hb λR v u H Q e1 e2 q=>⟨x,y,e1,e2,h,q _ rfl⟩
theorem sF (ha:EV X a Γ ah x Γ1)(hb:EV X b Γ1 ah y Γ2)(h:DS x y):EV X (.BinOp a .Pow b pos) Γ ah (x ^ y.toNat) Γ2:=ig El ha hb λR v u H Q e1 e2 q=>⟨x,y,e1,e2,h,q _ rfl⟩
theorem eC (ha:EV X a Γ ah x Γ1):EV X (.UnaryOp .USub a pos) Γ ah (-x) Γ1:=by
 intro σ H0 R0 H R E Q q;exact eS (GX DO aR) (ha σ H0 R0 H R E _ λv H1 R1 E1 s1 e1=>⟨x,e1,q _ H1 R1 E1 s1 rfl⟩)
end
structure eu (X:Cx)(op:CmpOp){α β:Type}(ra:Rep α)(rb:Rep β)(x:α)(y:β)(k:Bool):Prop where
 r2:∃r,dc X (Nn op) r/\∀(R H:Hp) v u Q,ax R H->ra.R X.K R v x->rb.R X.K R u y->Q (.bl k) H->r v u H Q
theorem dX {a:Expr}{x:α}{y:β}{k:Bool}(c:eu X op ra rb x y k)(ha:EV X a Γ ra x Γ1)(hb:EV X b Γ1 rb y Γ2)(hm:NO op b=false:=by first | exact rq _ | with_unfolding_all rfl):
 EV X (.Compare a [op] [b] pos) Γ bp k Γ2:=by
 obtain⟨r,ho,hr⟩:=c.r2;intro σ H0 R0 H R E Q q;refine eS (Bu ho aR aR hm) (ha σ H0 R0 H R E _ λv H1 R1 E1 s1 e1=>hb σ H0 R0 H1 R1 E1 _ λu H2 R2 E2 s2 e2=>?_);exact hr R2 H2 v u _ E2.sub (ra.mono s2 e1) e2 (q _ H2 R2 E2 (s1.trans s2) rfl)
theorem aq {a:Expr}{x:α}{y:β}{k:Bool}(c:eu X op ra rb x y k)(ha:EV X a Γ ra x Γ1)(hb:EV X b Γ1 rb y Γ2)(hm:NO op b=false:=by first | exact rq _ | with_unfolding_all rfl):
 TV X (.Compare a [op] [b] pos) Γ k Γ2:=by
 obtain⟨r,ho,hr⟩:=c.r2;intro σ H0 R0 H R E Q q;refine tS (BR ho aR aR hm) (ha σ H0 R0 H R E _ λv H1 R1 E1 s1 e1=>hb σ H0 R0 H1 R1 E1 _ λu H2 R2 E2 s2 e2=>?_);exact hr R2 H2 v u _ E2.sub (ra.mono s2 e1) e2 ⟨k,rfl,q H2 R2 E2 (s1.trans s2)⟩
section
variable {x y:Int}
theorem fg:eu X .Lt ah ah x y (decide (x<y)):=⟨_,HR,λR H v u Q _ e1 e2 q=>⟨x,y,e1,e2,q⟩⟩
theorem C7:eu X .LtE ah ah x y (decide (x<=y)):=⟨_,Gw,λR H v u Q _ e1 e2 q=>⟨x,y,e1,e2,q⟩⟩
theorem eX:eu X .Gt ah ah x y (decide (y<x)):=⟨_,Gs,λR H v u Q _ e1 e2 q=>⟨x,y,e1,e2,q⟩⟩
theorem Kn:eu X .GtE ah ah x y (decide (y<=x)):=⟨_,Hb,λR H v u Q _ e1 e2 q=>⟨x,y,e1,e2,q⟩⟩
theorem dP:eu X .Eq ah ah x y (decide (x=y)):=⟨_,An,λR H v u Q _ e1 e2 q=>by
 cases e1;cases e2
 exact⟨rfl,by rw[show decide (V.int x=V.int y)=decide (x=y) by rw[kU];exact Bool.beq_eq_decide_eq x y];exact q⟩⟩
theorem JZ:eu X .NotEq ah ah x y (!decide (x=y)):=⟨_,Am,λR H v u Q _ e1 e2 q=>by
 cases e1;cases e2
 exact⟨rfl,by rw[show decide (V.int x=V.int y)=decide (x=y) by rw[kU];exact Bool.beq_eq_decide_eq x y];exact q⟩⟩
end
variable {a:Expr}{x:Bool}{y:Bool}{rest:Kw}
theorem qY (x:Int):∀xs:Kr,tT (.int x) (xs.map V.int)=decide (x∈xs)
 | []=>rfl
 | y::r=>by
   have h:=qY x r;unfold tT at h ⊢;rw[Lm,Md,h];have e:lN (V.int y) (V.int x)=decide (x=y):=by
    show(y==x)=_;by_cases h:x=y
    ·subst h;simp
    ·rw[QJ h];exact beq_eq_false_iff_ne.mpr (MQ h)
   rw[e,KG];simp
theorem oG {K:P1}{R:Hp}:∀{vs:List V}{xs:Kr},PySem.Paired (ah.R K R) vs xs->vs=xs.map V.int
 | _,_,.nil=>rfl
 | _,_,.cons h t=>by rw[Lm,← oG t];exact congrArg (· ::_) h
theorem oV:∀xs:Kr,(xs.map V.int).all fW=true
 | []=>rfl
 | _::r=>by rw[Lm,Ms,oV r];rfl
theorem FY {x:Int}{xs:Kr}:eu X .In ah (af ah) x xs (decide (x∈xs)):=⟨_,kK,λR H v u Q s e1 e2 q=>by
 cases e1
 obtain⟨a,vs,rfl,hq,p,_⟩:=e2;have e:=oG p;subst e;exact⟨a,_,rfl,.inl (bt.of (s _ _ hq)),rfl,oV xs,by rw[QF KC,qY];exact q⟩⟩
theorem lX {Sx:CmpOp}{x:α}{y:β}{k k':Bool}(c1:eu X op ra rb x y k)(c2:eu X Sx rb rc y z k')(ha:EV X a Γ ra x Γ)(hb:EV X b Γ rb y Γ)(hc:EV X c Γ rc z Γ)(hm:lastMarks [op,Sx] [b,c]=false:=by with_unfolding_all rfl):EV X (.Compare a [op,Sx] [b,c] pos) Γ bp (k&&k') Γ:=by
 obtain⟨r,ho,hr⟩:=c1.r2;obtain⟨r',Sa,Tt⟩:=c2.r2;intro σ H0 R0 H R E Q q;refine eS (zR ho Sa aR aR aR hm) (ha σ H0 R0 H R E _ λv H1 R1 E1 s1 e1=>hb σ H0 R0 H1 R1 E1 _ λu H2 R2 E2 s2 e2=>?_);refine hr R2 H2 v u _ E2.sub (ra.mono s2 e1) e2 ⟨k,rfl,?_⟩;cases k with
 | false=>exact kn (q _ H2 R2 E2 (s1.trans s2) rfl)
 | true=>exact je (hc σ H0 R0 H2 R2 E2 _ λw H3 R3 E3 s3 e3=>Tt R3 H3 u w _ E3.sub (rb.mono s3 e2) e3 (q _ H3 R3 E3 (s1.trans (s2.trans s3)) rfl))
theorem yD {Sx:CmpOp}{x:α}{y:β}{k k':Bool}(c1:eu X op ra rb x y k)(c2:eu X Sx rb rc y z k')(ha:EV X a Γ ra x Γ)(hb:EV X b Γ rb y Γ)(hc:EV X c Γ rc z Γ)(hm:lastMarks [op,Sx] [b,c]=false:=by with_unfolding_all rfl):TV X (.Compare a [op,Sx] [b,c] pos) Γ (k&&k') Γ:=by
 obtain⟨r,ho,hr⟩:=c1.r2;obtain⟨r',Sa,Tt⟩:=c2.r2;intro σ H0 R0 H R E Q q;refine tS (zM ho Sa aR aR aR hm) (ha σ H0 R0 H R E _ λv H1 R1 E1 s1 e1=>hb σ H0 R0 H1 R1 E1 _ λu H2 R2 E2 s2 e2=>?_);refine hr R2 H2 v u _ E2.sub (ra.mono s2 e1) e2 ⟨k,rfl,?_⟩;cases k with
 | false=>exact kn ⟨false,rfl,q H2 R2 E2 (s1.trans s2)⟩
 | true=>exact je (hc σ H0 R0 H2 R2 E2 _ λw H3 R3 E3 s3 e3=>Tt R3 H3 u w _ E3.sub (rb.mono s3 e2) e3 ⟨k',rfl,q H3 R3 E3 (s1.trans (s2.trans s3))⟩)
theorem sy {op:BoolOp}{x:α}(h:EV X a Γ r x Γ1):EV X (.BoolOp op [a] pos) Γ r x Γ1:=λσ H0 R0 H R E Q q=>eS (FT aR) (h σ H0 R0 H R E Q q)
theorem mx (ha:EV X a Γ bp x Γ)(hb:x=true->EV X (.BoolOp .And (b::rest) pos) Γ bp y Γ):EV X (.BoolOp .And (a::b::rest) pos) Γ bp (x&&y) Γ:=by
 intro σ H0 R0 H R E Q q;refine eS (Eb aR aR) (ha σ H0 R0 H R E _ λv H1 R1 E1 s1 e1=>⟨x,e1,?_⟩);cases x with
 | false=>exact kn (q _ H1 R1 E1 s1 rfl)
 | true=>exact je (hb rfl σ H0 R0 H1 R1 E1 _ λw H3 R3 E3 s3 e3=>q w H3 R3 E3 (s1.trans s3) e3)
theorem wX (ha:EV X a Γ bp x Γ1):EV X (.UnaryOp .Not a pos) Γ bp (!x) Γ1:=by
 intro σ H0 R0 H R E Q q;exact eS (Ep aR) (ha σ H0 R0 H R E _ λv H1 R1 E1 s1 e1=>⟨x,e1,q _ H1 R1 E1 s1 rfl⟩)
theorem fZ (ha:TV X a Γ x Γ1):TV X (.UnaryOp .Not a pos) Γ (!x) Γ1:=by
 intro σ H0 R0 H R E Q q;exact tS (De kA) (ha σ H0 R0 H R E _ λH1 R1 E1 s1=>q H1 R1 E1 s1)
theorem TW.tv {b:Bool}(h:TW X e Γ b Γ1):TV X e Γ b Γ1:=λσ H0 R0 H R E Q q=>tS (FO.pt) (h σ H0 R0 H R E Q q)
theorem bZ (ha:TV X a Γ x Γ1):TW X (.BoolOp .And [a] pos) Γ x Γ1:=λσ H0 R0 H R E Q q=>wS (BZ kA) (ha σ H0 R0 H R E Q q)
theorem gD (ha:TV X a Γ x Γ1):TW X (.BoolOp .Or [a] pos) Γ x Γ1:=λσ H0 R0 H R E Q q=>wS (Di kA) (ha σ H0 R0 H R E Q q)
theorem bH (ha:TV X a Γ x Γ)(hb:x=true->TW X (.BoolOp .And (b::rest) pos) Γ y Γ):TW X (.BoolOp .And (a::b::rest) pos) Γ (x&&y) Γ:=by
 intro σ H0 R0 H R E Q q;refine wS (Gb kA FO) (ha σ H0 R0 H R E _ λH1 R1 E1 s1=>?_);cases x with
 | false=>exact kn (q H1 R1 E1 s1)
 | true=>exact je (hb rfl σ H0 R0 H1 R1 E1 _ λH3 R3 E3 s3=>q H3 R3 E3 (s1.trans s3))
theorem h9 (ha:TV X a Γ x Γ)(hb:x=false->TW X (.BoolOp .Or (b::rest) pos) Γ y Γ):TW X (.BoolOp .Or (a::b::rest) pos) Γ (x ||y) Γ:=by
 intro σ H0 R0 H R E Q q;refine wS (GY kA FO) (ha σ H0 R0 H R E _ λH1 R1 E1 s1=>?_);cases x with
 | true=>exact je (q H1 R1 E1 s1)
 | false=>exact kn (hb rfl σ H0 R0 H1 R1 E1 _ λH3 R3 E3 s3=>q H3 R3 E3 (s1.trans s3))
theorem dE {k:Bool}(ha:EV X a Γ bp k Γ1)(he:∀whole,N6 a X.env whole=(do let v ← whole;Om a.pos;NQ [v] (truthy v)):=by intro _;rfl):TV X a Γ k Γ1:=by
 intro σ H0 R0 H R E Q q;exact tS (DG aR he) (ha σ H0 R0 H R E _ λv H1 R1 E1 s1 e1=>⟨k,e1,q H1 R1 E1 s1⟩)
theorem fA:TF X [] Γ true Γ:=λσ H0 R0 H R E Q q=>fS DI (q H R E (ax.refl _))
theorem fQ {b:Bool}(h:TV X c Γ b Γ1):TF X [c] Γ b Γ1:=λσ H0 R0 H R E Q q=>fS (Ds kA) (h σ H0 R0 H R E Q q)
theorem j3 {k:Bool}{x y:α}(hc:TV X c Γ k Γ1)(ha:k=true->EV X a Γ1 r x Γ2)(hb:k=false->EV X b Γ1 r y Γ2):EV X (.IfExp c a b pos) Γ r (if k then x else y) Γ2:=by
 intro σ H0 R0 H R E Q q;refine eS (qr kA aR aR) (hc σ H0 R0 H R E _ λH1 R1 E1 s1=>?_);cases k with
 | true=>exact je (ha rfl σ H0 R0 H1 R1 E1 _ λv H3 R3 E3 s3 e3=>q v H3 R3 E3 (s1.trans s3) e3)
 | false=>exact kn (hb rfl σ H0 R0 H1 R1 E1 _ λv H3 R3 E3 s3 e3=>q v H3 R3 E3 (s1.trans s3) e3)
end
variable {δ:Type}{es:Kw}{xs:List α}{p1 p2 p:Pos}{ys:List α}{r':Rep β}{F:α->β->Prop}
section
variable {i:Int}{x:α}{a:Expr}
structure Pk:Type 1 where
 {α:Type}
 r:Rep α
 x:α
inductive gI (K:P1) (R:Hp):List V->List Pk->Prop
 | nil:gI K R [] []
 | cons {v:V} {vs:List V} {p:Pk} {ps:List Pk}:p.r.R K R v p.x->gI K R vs ps->gI K R (v::vs) (p::ps)
def HA (X:Cx)(es:Kw)(Γ:Ga)(ps:List Pk)(Γ':Ga):Prop:=
 ∀(σ:St)(H0 R0 H R:Hp),aw X.K σ H0 R0 H R Γ->∀Q:List V->Hp->Prop,(∀vs H' R',aw X.K σ H0 R0 H' R' Γ'->ax R R'->gI X.K R' vs ps->Q vs H')->kF X es σ H Q
theorem au:HA X [] Γ [] Γ:=λσ H0 R0 H R E Q q=>aS bD (q [] H R E (ax.refl _) .nil)
theorem ae {ps:List Pk}(he:EV X e Γ r x Γ1)(hr:HA X es Γ1 ps Γ2)(hs:Nc (e::es) X.env=(false,eval e X.env)::Nc es X.env:=by rfl):HA X (e::es) Γ (⟨r,x⟩::ps) Γ2:=by
 intro σ H0 R0 H R E Q q;refine aS (aU aR jj hs) (he σ H0 R0 H R E _ λv H1 R1 E1 s1 e1=>hr σ H0 R0 H1 R1 E1 _ λvs H2 R2 E2 s2 e2=>?_);exact q (v::vs) H2 R2 E2 (s1.trans s2) (.cons (r.mono s2 e1) e2)
def EA (X:Cx)(es:Kw)(Γ:Ga){α:Type}(r:Rep α)(ys:List α)(Γ':Ga):Prop:=
 ∀(σ:St)(H0 R0 H R:Hp),aw X.K σ H0 R0 H R Γ->∀Q:List V->Hp->Prop,(∀vs H' R',aw X.K σ H0 R0 H' R' Γ'->ax R R'->PySem.Paired (r.R X.K R') vs ys->Q vs H')->kF X es σ H Q
theorem aJ:EA X [] Γ r [] Γ:=λσ H0 R0 H R E Q q=>aS bD (q [] H R E (ax.refl _) .nil)
theorem ao (he:EV X e Γ r x Γ1)(hr:EA X es Γ1 r ys Γ2)(hs:Nc (e::es) X.env=(false,eval e X.env)::Nc es X.env:=by rfl):EA X (e::es) Γ r (x::ys) Γ2:=by
 intro σ H0 R0 H R E Q q;refine aS (aU aR jj hs) (he σ H0 R0 H R E _ λv H1 R1 E1 s1 e1=>hr σ H0 R0 H1 R1 E1 _ λvs H2 R2 E2 s2 e2=>?_);exact q (v::vs) H2 R2 E2 (s1.trans s2) (.cons (r.mono s2 e1) e2)
theorem aG {ys:List α}(h:EA X es Γ r ys Γ1)(hz:ys.length<=Nb):aI X (.List es pos) Γ r ys Γ1:=by
 intro σ H0 R0 H R E Q q;refine eS (Ez jj) (h σ H0 R0 H R E _ λvs H1 R1 E1 s1 p1=>⟨by rw[p1.length];exact hz,λp hp=>?_⟩);exact q p vs _ R1 (E1.grow (Ext.dj E1.sub hp _)) s1 aD (E1.sub.free hp) (E1.ext.h.free hp) (E1.off hp) p1 hz
theorem kW {k:Nat}{y:β}(h:HA X [a,b] Γ [⟨r,x⟩,⟨r',y⟩] Γ1):EV X (.Tuple [a,b] k pos) Γ (dh r r') (x,y) Γ1:=by
 intro σ H0 R0 H R E Q q;refine eS (wR jj) (h σ H0 R0 H R E _ λvs H1 R1 E1 s1 p1=>?_);obtain⟨h1,h2⟩:∃v1 v2,vs=[v1,v2]/\r.R X.K R1 v1 x/\r'.R X.K R1 v2 y:=by
  cases p1 with
  | cons a1 t=>cases t with
    | cons a2 t2=>cases t2;exact⟨_,_,rfl,a1,a2⟩
 obtain⟨v2,rfl,e1,e2⟩:=h2;refine⟨by show 2<=Nb;decide,λp hp=>?_⟩;have s2:ax R1 (upd R1 p (.tup [h1,v2])):=ax.fresh (E1.sub.free hp) _;exact q _ _ (upd R1 p (.tup [h1,v2])) (E1.grow (Ext.fresh E1.sub hp _)) (s1.trans s2) ⟨p,_,_,rfl,aD,r.mono s2 e1,r'.mono s2 e2⟩
theorem dJ {F:α->β->Prop}:∀{vs:List α}{xs:List β},PySem.Paired F vs xs->∀{i:Nat}{y:β},xs[i]?=some y->∃v,vs[i]?=some v/\F v y
 | _,_,.nil,i,y,h=>by simp at h
 | _,_,.cons h t,0,y,e=>by simp at e;subst e;exact⟨_,rfl,h⟩
 | _,_,.cons h t,i+1,y,e=>by
   obtain⟨v,e1,e2⟩:=dJ t (i:=i) (y:=y) (by simpa using e);exact⟨v,by simpa using e1,e2⟩
theorem fB {vs:List α}{xs:List β}(p:PySem.Paired F vs xs){y:β}(h:cq xs i=some y):∃v,cq vs i=some v/\F v y:=by
 unfold cq at h ⊢;rw[p.length];cases e:eT xs.length i with
 | none=>rw[e] at h;cases h
 | some j=>rw[e] at h;exact dJ p h
theorem mG (h0:0<=i)(h1:i<xs.length):cq xs i=xs[i.toNat]?:=by
 have e:i=((i.toNat:Nat):Int):=by omega
 have hl:i.toNat<xs.length:=by omega
 have q:cq xs ((i.toNat:Nat):Int)=some xs[i.toNat]:=BB (K2 hl);rw[← e] at q;rw[q,K2 hl]
theorem aV {y:α}(ha:EV X a Γ (af r) xs Γ1)(hb:EV X b Γ1 ah i Γ2)(h:cq xs i=some y)(hs:eP b:=by exact λ_ _=>rfl):EV X (.Subscript a b pos) Γ r y Γ2:=by
 intro σ H0 R0 H R E Q q;refine eS (i5 iq aR aR hs) (ha σ H0 R0 H R E _ λv H1 R1 E1 s1 e1=>hb σ H0 R0 H1 R1 E1 _ λu H2 R2 E2 s2 e2=>?_);obtain⟨p,vs,rfl,ha,pp,z⟩:=(af r).mono s2 e1;obtain⟨w,e3,e4⟩:=fB pp h;exact⟨p,vs,i,w,rfl,e2,bt.of (E2.sub _ _ ha),e3,q w H2 R2 E2 (s1.trans s2) e4⟩
theorem rj {xs:Kr}{y:Int}(ha:EV X a Γ bM xs Γ1)(hb:EV X b Γ1 ah i Γ2)(h:cq xs i=some y)(hs:eP b:=by exact λ_ _=>rfl):EV X (.Subscript a b pos) Γ ah y Γ2:=by
 intro σ H0 R0 H R E Q q;refine eS (i5 iq aR aR hs) (ha σ H0 R0 H R E _ λv H1 R1 E1 s1 e1=>hb σ H0 R0 H1 R1 E1 _ λu H2 R2 E2 s2 e2=>?_);obtain⟨p,rfl,ha,z⟩:=bM.mono s2 e1;have e3:cq (xs.map V.int) i=some (.int y):=by
  unfold cq at h ⊢;rw[KY];cases e:eT xs.length i with
  | none=>rw[e] at h;cases h
  | some j=>
    rw[e] at h;show(xs.map V.int)[j]?=_;rw[K9,show xs[j]?=some y from h];rfl
 exact⟨p,_,i,_,rfl,e2,E2.sub.seq ha,e3,q _ H2 R2 E2 (s1.trans s2) rfl⟩
theorem mz (j:Nat){x:Str}{y:α}(hb:EV X b Γ ah i Γ1)(hΓ:Γ[j]?=some (.mu r xs))(hΓ1:Γ1[j]?=some (.mu r xs))(h:cq xs i=some y)(hN:X.N[j]?=some x:=by rfl)(hv:autoParam (cI X.env.scope x) Rt)(hs:eP b:=by exact λ_ _=>rfl)(hd:Q0 x:=by decide)(QR:Rn x:=by decide):EV X (.Subscript (.Name x p1) b pos) Γ r y Γ1:=by
 intro σ H0 R0 H R E Q q;obtain⟨a,vs,e,_,_,_⟩:=E.ent j _ hΓ;refine eS (i5 iq (bh hN hv hd QR) aR hs) ⟨.ref a,?_,hb σ H0 R0 H R E _ λu H2 R2 E2 s2 e2=>?_⟩
 ·cases es:σ[j]? with
  | none=>rw[es] at e;cases e
  | some o=>rw[es] at e;exact congrArg some e
 ·obtain⟨a',Ro,e',ha,hR,pp⟩:=E2.ent j _ hΓ1;rw[e] at e';cases e'
  obtain⟨w,e3,e4⟩:=fB pp h;exact⟨a,Ro,i,w,rfl,e2,bt.of ha,e3,q w H2 R2 E2 s2 e4⟩
section
variable {a:Expr}{w:Row}
end
variable {a:Expr}
def OV (X:Cx)(e:Option Expr)(Γ:Ga)(o:Option Int):Prop:=∃t,PO X e t/\∀(σ:St)(H0 R0 H R:Hp),aw X.K σ H0 R0 H R Γ->∀Q:Option Int->Hp->Prop,(∀H' R',aw X.K σ H0 R0 H' R' Γ->ax R R'->Q o H')->t σ H Q
theorem ov_none:OV X none Γ none:=⟨_,Bm,λσ H0 R0 H R E Q q=>q H R E (ax.refl _)⟩
theorem ov_some {i:Int}(h:EV X e Γ ah i Γ):OV X (some e) Γ (some i):=⟨_,BA aR,λσ H0 R0 H R E Q q=>h σ H0 R0 H R E _ λv H1 R1 E1 s1 e1=>⟨i,e1,q H1 R1 E1 s1⟩⟩
def cut (xs:List α)(lo hi:Option Int):List α:=(xs.drop (HT.QX xs.length 0 lo)).take (HT.QX xs.length xs.length hi-HT.QX xs.length 0 lo)
theorem jb {F:α->β->Prop}:∀(n:Nat){vs:List α}{xs:List β},PySem.Paired F vs xs->PySem.Paired F (vs.drop n) (xs.drop n)
 | 0,_,_,h=>h
 | _+1,_,_,.nil=>.nil
 | n+1,_,_,.cons _ t=>jb n t
theorem gy {F:α->β->Prop}:∀(n:Nat){vs:List α}{xs:List β},PySem.Paired F vs xs->PySem.Paired F (vs.take n) (xs.take n)
 | 0,_,_,_=>.nil
 | _+1,_,_,.nil=>.nil
 | n+1,_,_,.cons h t=>.cons h (gy n t)
theorem dW {F:α->β->Prop}:∀{vs:List α}{xs:List β}{Ro:List α}{xs':List β},PySem.Paired F vs xs->PySem.Paired F Ro xs'->PySem.Paired F (vs++Ro) (xs++xs')
 | _,_,_,_,.nil,h=>h
 | _,_,_,_,.cons h t,h'=>.cons h (dW t h')
theorem we (xs:List α)(lo hi:Option Int):(cut xs lo hi).length<=xs.length:=by
 unfold cut;rw[Lc,Lv];omega
theorem cu {lo hi:Option Expr}{l h:Option Int}(ha:EV X a Γ (af r) xs Γ)(hl:OV X lo Γ l)(hh:OV X hi Γ h):aI X (.Subscript a (.Slice lo hi none p2) pos) Γ r (cut xs l h) Γ:=by
 intro σ H0 R0 H R E Q q;obtain⟨tl,pl,kl⟩:=hl;obtain⟨th,ph,kh⟩:=hh;refine eS (jM Bc aR pl ph) (ha σ H0 R0 H R E _ λv H1 R1 E1 s1 e1=>kl σ H0 R0 H1 R1 E1 _ λH2 R2 E2 s2=>kh σ H0 R0 H2 R2 E2 _ λH3 R3 E3 s3=>?_);obtain⟨p,vs,rfl,hp,pp,z⟩:=(af r).mono (s2.trans s3) e1;refine⟨p,vs,rfl,bt.of (E3.sub _ _ hp),λd hd=>?_⟩;refine q d _ _ R3 (E3.grow (Ext.dj E3.sub hd _)) (s1.trans (s2.trans s3)) aD (E3.sub.free hd) (E3.ext.h.free hd) (E3.off hd) ?_ (Mz (we _ _ _) z);unfold cut ja;rw[pp.length];exact gy _ (jb _ pp)
theorem ba {b:Expr}{ys:List α}(ha:EV X a Γ (af r) xs Γ1)(hb:EV X b Γ1 (af r) ys Γ2)(hz:xs.length+ys.length<=Nb):aI X (.BinOp a .Add b pos) Γ r (xs++ys) Γ2:=by
 intro σ H0 R0 H R E Q q;refine eS (AH EK aR aR) (ha σ H0 R0 H R E _ λv H1 R1 E1 s1 e1=>hb σ H0 R0 H1 R1 E1 _ λu H2 R2 E2 s2 e2=>?_);obtain⟨p,vs,rfl,hp,pp,z⟩:=(af r).mono s2 e1;obtain⟨p',ws,rfl,Uy,RV,z'⟩:=e2;refine⟨p,p',vs,ws,rfl,rfl,E2.sub _ _ hp,E2.sub _ _ Uy,by rw[pp.length,RV.length];exact hz,λd hd=>?_⟩;exact q d _ _ R2 (E2.grow (Ext.dj E2.sub hd _)) (s1.trans s2) aD (E2.sub.free hd) (E2.ext.h.free hd) (E2.off hd) (dW pp RV) (by rw[K3];exact hz)
theorem cA (hm:X.mg "len"=none)(ha:EV X a Γ (af r) xs Γ1)(hs:Nc [a] X.env=[(false,eval a X.env)]:=by rfl)(hg:Gl X "len":=by rfl):EV X (.Call (.Name "len" p) [a] [] pos) Γ ah (xs.length:Int) Γ1:=by
 intro σ H0 R0 H R E Q q;refine eS (da fR hg hm NR (aU aR bD hs) (by decide) (by decide) hs) (ha σ H0 R0 H R E _ λv H1 R1 E1 s1 e1=>?_);obtain⟨p,vs,rfl,hp,pp,z⟩:=e1;refine⟨p,vs,rfl,.inl (bt.of (E1.sub _ _ hp)),?_⟩;rw[pp.length];exact q _ H1 R1 E1 s1 rfl
theorem oE {xs:Kr}(hm:X.mg "len"=none)(ha:EV X a Γ bM xs Γ1)(hs:Nc [a] X.env=[(false,eval a X.env)]:=by rfl)(hg:Gl X "len":=by rfl):EV X (.Call (.Name "len" p) [a] [] pos) Γ ah (xs.length:Int) Γ1:=by
 intro σ H0 R0 H R E Q q;refine eS (da fR hg hm NR (aU aR bD hs) (by decide) (by decide) hs) (ha σ H0 R0 H R E _ λv H1 R1 E1 s1 e1=>?_);obtain⟨p,rfl,hp,z⟩:=e1;refine⟨p,_,rfl,.inl (E1.sub.seq hp),?_⟩;rw[KY];exact q _ H1 R1 E1 s1 rfl
end
variable {y:Str}{N:Ga->Prop}{T:RT}{st:Stmt}
theorem DC (w:Wk Γ Γ')(h:N Γ'):WS X [] Γ N T:=λσ H0 R0 H R E D dn dr=>pz Bo (dn σ H R Γ' (E.weak w) (ax.refl _) h)
theorem aQ (h:N Γ):WS X [] Γ N T:=DC (Wk.refl Γ) h
theorem aj {st:Stmt}{rest:List Stmt}(h:W1 X st Γ (λΓ'=>WS X rest Γ' N T) T):WS X (st::rest) Γ N T:=λσ H0 R0 H R E D dn dr=>
 pz (iB ur ef) (h σ H0 R0 H R E {D with nx:=fF X rest D} (λσ' H' R' Γ' E' s' h'=>h' σ' H0 R0 H' R' E' D (λσ2 H2 R2 Γ2 E2 s2=>dn σ2 H2 R2 Γ2 E2 (s'.trans s2)) dr) dr)
theorem ai (h:W1 X st Γ N T):WS X [st] Γ N T:=λσ H0 R0 H R E D dn dr=>pz (oj ur) (h σ H0 R0 H R E D dn dr)
theorem aL (i:Nat){y:α}(he:EV X e Γ r y Γ1)(h:N (Γ1.set i (.im r y)))(hN:X.N.Nodup:=by first | assumption | decide)(hi:X.N[i]?=some x:=by rfl)(hx:autoParam (Loc X.env.scope x) SW)(hs:Nl e (some (.Name x p1)) pos.line X.env=pure false:=by rfl)(hf:autoParam (X.fn x=true∨X.env.scope.names.lookup x=some .local) SV):W1 X (.Assign [.Name x p1] e pos) Γ N T:=λσ H0 R0 H R E D dn dr=>
 sS (iM hN hi hx aR hs hf) (he σ H0 R0 H R E _ λv H1 R1 E1 s1 e1=>dn _ H1 R1 _ (E1.set i e1) s1 h)
theorem cJ (i:Nat)(he:aI X e Γ r ys Γ1)(h:N (Γ1.set i (.mu r ys)))(hN:X.N.Nodup:=by first | assumption | decide)(hi:X.N[i]?=some x:=by rfl)(hx:autoParam (Loc X.env.scope x) SW)(hs:Nl e (some (.Name x p1)) pos.line X.env=pure false:=by rfl)(hf:autoParam (X.fn x=true∨X.env.scope.names.lookup x=some .local) SV):W1 X (.Assign [.Name x p1] e pos) Γ N T:=λσ H0 R0 H R E D dn dr=>
 sS (iM hN hi hx aR hs hf) (he σ H0 R0 H R E _ λa vs H1 R1 E1 s1 ha hR h0 off p z=>dn _ H1 R1 _ (E1.v8 (u:=.lst vs) (en:=.mu r ys) i ⟨a,vs,rfl,ha,hR,p⟩ h0 λj e _ q w=>off j e q w) s1 h)
theorem aN {P:α->Prop}{y:α}(he:EV X e Γ r y Γ1)(h:P y):W1 X (.Return (some e) pos) Γ N (bN X.K r P):=λσ H0 R0 H R E D dn dr=>
 sS (jh aR) (he σ H0 R0 H R E _ λv H1 R1 E1 s1 e1=>dr v H1 R1 E1.ext ⟨y,e1,h⟩)
theorem aW {a b:List Stmt}{k:Bool}(hc:TV X c Γ k Γ1)(h1:k=true->WS X a Γ1 N T)(h2:k=false->WS X b Γ1 N T):W1 X (.If c a b pos) Γ N T:=λσ H0 R0 H R E D dn dr=>by
 refine sS (Gj kA ef ef) (hc σ H0 R0 H R E _ λH1 R1 E1 s1=>?_);cases k with
 | true=>exact je (h1 rfl σ H0 R0 H1 R1 E1 D (λσ2 H2 R2 Γ2 E2 s2=>dn σ2 H2 R2 Γ2 E2 (s1.trans s2)) dr)
 | false=>exact kn (h2 rfl σ H0 R0 H1 R1 E1 D (λσ2 H2 R2 Γ2 E2 s2=>dn σ2 H2 R2 Γ2 E2 (s1.trans s2)) dr)
theorem bA (i:Nat)(hN:X.N.Nodup:=by first | assumption | decide)(hi:X.N[i]?=some x:=by rfl)(hx:autoParam (Loc X.env.scope x) SW)(hf:autoParam (X.fn x=true∨X.env.scope.names.lookup x=some .local) SV):
 BG X (.Name x pos) r (λy Γ=>Γ.set i (.im r y)):=λσ H0 R0 H R Γ v x E h Q q=>gS (ju hN hi hx hf) (q _ (E.set i h))
theorem fw (i j:Nat){k:Nat}(hc:X.calm=true:=by rfl)(hN:X.N.Nodup:=by first | assumption | decide)(hi:X.N[i]?=some x:=by rfl)(hx:autoParam (Loc X.env.scope x) SW)(hf:autoParam (X.fn x=true∨X.env.scope.names.lookup x=some .local) SV)(hj:X.N[j]?=some y:=by rfl)(hy:autoParam (Loc X.env.scope y) SW)(hf':autoParam (X.fn y=true∨X.env.scope.names.lookup y=some .local) SV):
 BG X (.Tuple [.Name x p1,.Name y p2] k pos) (dh r r') (λw Γ=>(Γ.set i (.im r w.1)).set j (.im r' w.2)):=λσ H0 R0 H R Γ v w E h Q q=>by
 obtain⟨a,v1,v2,rfl,ha,e1,e2⟩:=h;exact gS (w8 hc (jT (ju hN hi hx hf) (jT (ju hN hj hy hf') uD))) ⟨a,_,rfl,dC.of (E.sub _ _ ha),rfl,v1,[v2],rfl,v2,[],rfl,rfl,q _ ((E.set i e1).set j e2)⟩
variable {body:List Stmt}
section
variable {kvs:List (Int×V)}{y:α}
theorem at_of (e:(σ[i]?).join=some v):σ[i]?=some (some v):=by
 cases es:σ[i]? with
 | none=>rw[es] at e;cases e
 | some o=>rw[es] at e;exact congrArg some e
theorem jF (I:Nat->Ga->Prop){m0:Nat}(h0:I m0 Γ)(RN:∀(m:Nat)(Γ:Ga),I m Γ->∃(k:Bool)(Γ':Ga),TV X c Γ k Γ'/\(k=true->WS X body Γ' (λΓ''=>∃m',m'<m/\I m' Γ'') T)/\(k=false->N Γ'))(hp:OG (model X.prog X.w) X.A X.env X.xe:=by exact OG.never):W1 X (.While c body [] pos) Γ N T:=λσ H0 R0 H R E D dn dr=>by
 refine sS (rf hp kA ef) ?_;refine⟨λm σ' H'=>∃R' Γ',aw X.K σ' H0 R0 H' R' Γ'/\ax R R'/\I m Γ',⟨m0,R,Γ,E,ax.refl _,h0⟩,?_⟩;rintro m σ' H' ⟨R',Γ',E',s',hI⟩;obtain⟨k,Γ2,ht,h1,h2⟩:=RN m Γ' hI;refine ht σ' H0 R0 H' R' E' _ λH1 R1 E1 s1=>?_;cases k with
 | true=>
   refine je ⟨_,λσ2 H2 h=>h,h1 rfl σ' H0 R0 H1 R1 E1 _ (λσ3 H3 R3 Γ3 E3 s3 h3=>?_) dr⟩;obtain⟨m',hm,hI'⟩:=h3;exact⟨m',hm,R3,Γ3,E3,s'.trans (s1.trans s3),hI'⟩
 | false=>exact kn (dn σ' H1 R1 Γ2 E1 (s'.trans s1) (h2 rfl))
theorem dO (i:Nat){ap cp:Pos}(he:EV X e Γ r y Γ1)(hΓ:Γ[i]?=some (.mu r xs))(hΓ1:Γ1[i]?=some (.mu r xs))(hz:xs.length<Nb)(h:N (Γ1.set i (.mu r (xs++[y]))))(hN:X.N[i]?=some x:=by rfl)(hv:autoParam (cI X.env.scope x) Rt)(hd:Q0 x:=by decide)(QR:Rn x:=by decide)(RR:Nl (.Call (.Attribute (.Name x p1) "append" ap) [e] [] cp) none pos.line X.env=pure false:=by rfl)(QS:Ni (.Name x p1) "append" X.env (eval (.Name x p1) X.env)=eval (.Name x p1) X.env:=by rfl)(Ri:((Nk cp (Nc [e] X.env)).all (λx=> !x.1)&&(NY cp (ND [] X.env)).all (λx=>x.1.isSome)
  &&decide ([e].length+([]:List Nt).length+(if([]:List Nt).isEmpty then 0 else 1)<30))=true:=by rfl)(QZ:(ap.endLine==cp.line)=true:=by rfl)(hs:Nc [e] X.env=(false,eval e X.env)::Nc [] X.env:=by rfl):W1 X (.Expr (.Call (.Attribute (.Name x p1) "append" ap) [e] [] cp) pos) Γ N T:=λσ H0 R0 H R E D dn dr=>by
 obtain⟨a,vs,ea,ha,hR,pp⟩:=E.ent i _ hΓ;refine sS (f9 (hX Pa PySem.F.slot_list_append PySem.F.type_list_append oU (bh hN hv hd QR) (aU aR bD hs) QS Ri QZ hs rfl) RR) ?_;refine⟨.ref a,at_of ea,.inl ⟨rfl,vs,bt.of ha⟩,he σ H0 R0 H R E _ λv H1 R1 E1 s1 e1=>?_⟩;obtain⟨a',Ro,Rr,R7,RC,RV⟩:=E1.ent i _ hΓ1;rw[ea] at Rr;cases Rr
 refine⟨a,Ro,v,rfl,rfl,R7,by rw[RV.length];exact hz,?_⟩;exact dn σ _ R1 _ (E1.upd (en:=.mu r (xs++[y])) hΓ1 rfl ea RC ⟨a,_,rfl,aD,RC,dW RV (.cons e1 .nil)⟩) s1 h
theorem j5 {F:α->β->Prop}{v:α}{y:β}(h:F v y):∀{vs:List α}{xs:List β}(i:Nat),PySem.Paired F vs xs->PySem.Paired F (vs.set i v) (xs.set i y)
 | _,_,_,.nil=>.nil
 | _,_,0,.cons _ t=>.cons h t
 | _,_,i+1,.cons q t=>.cons q (j5 h i t)
theorem ow (i:Nat){k:Int}(he:EV X e Γ r y Γ1)(hb:EV X b Γ1 ah k Γ2)(hΓ1:Γ1[i]?=some (.mu r xs))(hΓ2:Γ2[i]?=some (.mu r xs))(hj:eT xs.length k=some j)(h:N (Γ2.set i (.mu r (xs.set j y))))(hN:X.N[i]?=some x:=by rfl)(hv:autoParam (cI X.env.scope x) Rt)(hd:Q0 x:=by decide)(QR:Rn x:=by decide)(ha:∀v,N2 (.Subscript (.Name x p1) b p2) X.env v=(do
  let ov ← NQ [v] (eval (.Name x p1) X.env)
  let iv ← NQ [v,ov] (eval b X.env)
  Om p2
  NQ [v,ov,iv] (setItem ov iv v)
  release [v,ov,iv] []):=by intro _;rfl)(hs:Ou [.Subscript (.Name x p1) b p2] e pos.line X.env=pure false:=by rfl)(hw:Ov [.Subscript (.Name x p1) b p2] e X.env=pure none:=by rfl)(h1:(NV [.Subscript (.Name x p1) b p2] X.env).map (·.2)=[N2 (.Subscript (.Name x p1) b p2) X.env]:=by rfl):
 W1 X (.Assign [.Subscript (.Name x p1) b p2] e pos) Γ N T:=λσ H0 R0 H R E D dn dr=>by
 refine sS (rK aR (yh (bh hN hv hd QR) aR set_list ha) hs hw h1) (he σ H0 R0 H R E _ λv H1 R1 E1 s1 e1=>?_);obtain⟨a,vs,ea,hp,hR,pp⟩:=E1.ent i _ hΓ1;refine⟨.ref a,at_of ea,hb σ H0 R0 H1 R1 E1 _ λu H2 R2 E2 s2 e2=>?_⟩;obtain⟨a',Ro,Rr,R7,RC,RV⟩:=E2.ent i _ hΓ2;rw[ea] at Rr;cases Rr
 refine⟨a,Ro,k,j,rfl,e2,R7,by rw[RV.length];exact hj,?_⟩;exact dn σ _ R2 _ (E2.upd (en:=.mu r (xs.set j y)) hΓ2 rfl ea RC ⟨a,_,rfl,aD,RC,j5 (r.mono s2 e1) j RV⟩) (s1.trans s2) h
theorem nA {vs:List α}{xs:List β}(p:PySem.Paired F vs xs):PySem.Paired F vs.dropLast xs.dropLast:=by
 rw[List.dropLast_eq_take,List.dropLast_eq_take,p.length];exact gy _ p
theorem rD (i:Nat){ap cp:Pos}(hΓ:Γ[i]?=some (.mu r xs))(hy:xs[xs.length-1]?=some y)(hN:X.N[i]?=some x:=by rfl)(hv:autoParam (cI X.env.scope x) Rt)(hd:Q0 x:=by decide)(QR:Rn x:=by decide)(QS:Ni (.Name x p1) "pop" X.env (eval (.Name x p1) X.env)=eval (.Name x p1) X.env:=by rfl)(QZ:(ap.endLine==cp.line)=true:=by rfl):
 EV X (.Call (.Attribute (.Name x p1) "pop" ap) [] [] cp) Γ r y (Γ.set i (.mu r xs.dropLast)):=by
 intro σ H0 R0 H R E Q q;obtain⟨a,vs,ea,ha,hR,pp⟩:=E.ent i _ hΓ;obtain⟨v,S6,hr⟩:=dJ pp hy;refine eS (CV Pa PySem.F.slot_list_pop PySem.F.type_list_pop EN (bh hN hv hd QR) QS QZ) ⟨.ref a,at_of ea,.inl ⟨rfl,vs,bt.of ha⟩,?_⟩;refine⟨a,vs,v,rfl,rfl,ha,by rw[pp.length];exact S6,?_⟩;exact q v _ R (E.upd hΓ rfl ea hR ⟨a,_,rfl,aD,hR,nA pp⟩) (ax.refl _) hr
theorem mY (i:Nat)(hΓ:Γ[i]?=some (.mu r xs))(hN:X.N[i]?=some x:=by rfl)(hv:autoParam (cI X.env.scope x) Rt)(hd:Q0 x:=by decide)(QR:Rn x:=by decide)(he:∀whole,N6 (.Name x pos) X.env whole=(do let v ← whole;Om (Expr.Name x pos).pos;NQ [v] (truthy v)):=by intro _;rfl):TV X (.Name x pos) Γ (!xs.isEmpty) Γ:=by
 intro σ H0 R0 H R E Q q;obtain⟨a,vs,ea,ha,hR,pp⟩:=E.ent i _ hΓ;refine tS (qK (bh hN hv hd QR) he) ⟨.ref a,at_of ea, !xs.isEmpty,.inl ⟨vs,bt.of ha,?_⟩,q H R E (ax.refl _)⟩;cases pp<;>rfl
theorem lg (i:Nat)(hm:X.mg "len"=none)(hΓ:Γ[i]?=some (.mu r xs))(hN:X.N[i]?=some x:=by rfl)(hv:autoParam (cI X.env.scope x) Rt)(hd:Q0 x:=by decide)(QR:Rn x:=by decide)(hg:Gl X "len":=by rfl):EV X (.Call (.Name "len" p) [.Name x p1] [] pos) Γ ah (xs.length:Int) Γ:=by
 intro σ H0 R0 H R E Q q;obtain⟨a,vs,ea,ha,hR,pp⟩:=E.ent i _ hΓ;refine eS (da fR hg hm NR (aU (bh hN hv hd QR) bD rfl) (by decide) (by decide) rfl) ⟨.ref a,at_of ea,a,vs,rfl,.inl (bt.of ha),?_⟩;rw[pp.length];exact q _ H R E (ax.refl _) rfl
theorem freeze (E:aw K σ H0 R0 H R Γ)(hΓ:Γ[i]?=some (.mu r xs))(hz:xs.length<=Nb):∃R' v,aw K σ H0 R0 H R' (Γ.set i (.im (af r) xs))/\ax R R'/\(σ[i]?).join=some v/\(af r).R K R' v xs:=by
 obtain⟨a,vs,ea,ha,hR,pp⟩:=E.ent i _ hΓ;have h0:H0 a=none:=E.new i _ a hΓ rfl ea;have s2:ax R (upd R a (.lst vs)):=ax.fresh hR _;have rr:(af r).R K (upd R a (.lst vs)) (.ref a) xs:=⟨a,vs,rfl,aD,Paired.map (λ_ _=>r.mono s2) pp,hz⟩;have E1:aw K σ H0 R0 H R (Γ.set i .no):=E.tell hΓ trivial λb w=>by cases w
 have E2:=E1.ql ha hR h0 λj e q w=>by
  rcases set_at q with⟨rfl,rfl,_⟩ | ⟨hj,q1⟩
  ·cases w
  ·exact hj (E.ds j i e _ a q1 hΓ w ((Ent.nk (e:=.mu r xs) rfl).mpr ea))
 have hl:i<Γ.length:=(KW.mp hΓ).1;have E3:=E2.tell (i:=i) (e0:=.no) (en:=.im (af r) xs) (Lb hl) ⟨_,ea,rr⟩ λb w=>by cases w
 rw[Ml] at E3;exact⟨_,.ref a,E3,s2,ea,rr⟩
theorem WS.freeze (i:Nat){RK:List Stmt}(hΓ:Γ[i]?=some (.mu r xs))(hz:xs.length<=Nb)(h:WS X RK (Γ.set i (.im (af r) xs)) N T):WS X RK Γ N T:=λσ H0 R0 H R E D dn dr=>by
 obtain⟨R',v,E',s',_,_⟩:=Fc.freeze E hΓ hz;exact h σ H0 R0 H R' E' D (λσ2 H2 R2 Γ2 E2 s2=>dn σ2 H2 R2 Γ2 E2 (s'.trans s2)) dr
def gv:Rep (List (Int×V)):=⟨λK H v kvs=>∃a,v= .ref a/\H a=some (.dK (bV kvs)),λs ⟨a,e,q⟩=>⟨a,e,s _ _ q⟩⟩
def gi (kvs:List (Int×V))(k:Int):Bool:=kvs.any λp=>decide (p.1=k)
theorem nt (kvs:List (Int×V))(k:Int):(cD (bV kvs) (Sum.inl k:Key)).isSome=gi kvs k:=by
 rw[← eL];unfold bV gi;rw[any_map];congr 1;funext p;show decide ((Sum.inl p.1:Key)=Sum.inl k)=decide (p.1=k);by_cases h:p.1=k
 ·rw[h];simp
 ·rw[QJ h,QJ λz=>h (Sum.inl.inj z)]
theorem B3 (i:Nat)(neg:Bool){k:Int}(hu:X.A.units+1<cLine)(he:EV X e Γ ah k Γ)(hΓ:Γ[i]?=some (.di kvs))(hN:X.N[i]?=some x:=by rfl)(hv:autoParam (cI X.env.scope x) Rt)(hd:Q0 x:=by decide)(QR:Rn x:=by decide):
 TV X (.Compare e [if neg then .NotIn else .In] [.Name x p1] pos) Γ (if neg then !gi kvs k else gi kvs k) Γ:=by
 intro σ H0 R0 H R E Q q;cases neg with
 | false=>
   refine tS (kL (Ct hu aR (bh hN hv hd QR)) (by with_unfolding_all rfl)) (he σ H0 R0 H R E _ λv H1 R1 E1 s1 e1=>?_);obtain⟨a,ea,ha,hR⟩:=E1.ent i _ hΓ;cases e1
   refine⟨.ref a,at_of ea,a,_,rfl,fE.k (k:=Sum.inl k) ha,_,rfl,?_⟩;rw[nt];exact q H1 R1 E1 s1
 | true=>
   refine tS (kL (kE hu aR (bh hN hv hd QR)) (by with_unfolding_all rfl)) (he σ H0 R0 H R E _ λv H1 R1 E1 s1 e1=>?_);obtain⟨a,ea,ha,hR⟩:=E1.ent i _ hΓ;cases e1
   refine⟨.ref a,at_of ea,a,_,rfl,fE.k (k:=Sum.inl k) ha,_,rfl,?_⟩;rw[nt];exact q H1 R1 E1 s1
theorem xS (i:Nat){ke ve:Expr}{k:Int}(hu:X.A.units+1<cLine)(hk:EV X ke Γ ah k Γ)(hv:PE X ve (tC v))(hΓ:Γ[i]?=some (.di kvs))(hn:gi kvs k=false)(hz:kvs.length<Nb)(h:N (Γ.set i (.di (kvs++[(k,v)]))))(hN:X.N[i]?=some x:=by rfl)(Vo:autoParam (cI X.env.scope x) Rt)(hd:Q0 x:=by decide)(QR:Rn x:=by decide)(hs:Nl ve (some (.Subscript (.Name x p1) ke p2)) pos.line X.env=pure false:=by rfl):W1 X (.Assign [.Subscript (.Name x p1) ke p2] ve pos) Γ N T:=λσ H0 R0 H R E D dn dr=>by
 refine sS (oz hu (bh hN Vo hd QR) aR hv hs) ?_;obtain⟨a,ea,ha,hR⟩:=E.ent i _ hΓ;refine⟨.ref a,at_of ea,hk σ H0 R0 H R E _ λu H1 R1 E1 s1 e1=>?_⟩;obtain⟨a',Rr,R7,RC⟩:=E1.ent i _ hΓ;rw[ea] at Rr;cases Rr
 cases e1
 refine⟨a,_,rfl,mj.k (k:=Sum.inl k) R7 (by unfold bV;rw[KY];exact hz),?_⟩;have vn:cD (bV kvs) (Sum.inl k:Key)=none:=by
  have:=nt kvs k;rw[hn] at this;cases q:cD (bV kvs) (Sum.inl k:Key) with
  | none=>rfl
  | some z=>rw[q] at this;cases this
 rw[sY v vn];have e:bV kvs++[((Sum.inl k:Key),v)]=bV (kvs++[(k,v)]):=by unfold bV;rw[Lj];rfl
 rw[e];exact dn σ _ R1 _ (E1.upd (en:=.di (kvs++[(k,v)])) hΓ rfl ea RC ⟨a,rfl,aD,RC⟩) s1 h
theorem FH (i:Nat){P:List (Int×V)->Prop}(hΓ:Γ[i]?=some (.di kvs))(h:P kvs)(hN:X.N[i]?=some x:=by rfl)(hv:autoParam (cI X.env.scope x) Rt)(hd:Q0 x:=by decide)(QR:Rn x:=by decide):W1 X (.Return (some (.Name x p1)) pos) Γ N (bN X.K gv P):=λσ H0 R0 H R E D dn dr=>by
 obtain⟨a,ea,ha,hR⟩:=E.ent i _ hΓ;have h0:H0 a=none:=E.new i _ a hΓ rfl ea;refine sS (jh (bh hN hv hd QR)) ⟨.ref a,at_of ea,dr _ H (upd R a (.dK (bV kvs))) ⟨E.ext.h,E.ext.r.trans (ax.fresh hR _),λb o qb=>?_,λb hb=>?_⟩ ⟨kvs,⟨a,rfl,aD⟩,h⟩⟩
 ·by_cases hb:b=a
  ·subst hb;rw[aD] at qb;cases qb;exact ha
  ·rw[aA hb] at qb;exact E.ext.s b o qb
 ·rw[aA (show b≠a from λe=>hb (by rw[e];exact h0))];exact E.ext.old b hb
theorem Bw {a:Expr}(hm:X.mg "len"=none)(ha:EV X a Γ gv kvs Γ1)(hs:Nc [a] X.env=[(false,eval a X.env)]:=by rfl)(hg:Gl X "len":=by rfl):EV X (.Call (.Name "len" p) [a] [] pos) Γ ah (kvs.length:Int) Γ1:=by
 intro σ H0 R0 H R E Q q;refine eS (da oQ hg hm NR (aU aR bD hs) (by decide) (by decide) hs) (ha σ H0 R0 H R E _ λv H1 R1 E1 s1 e1=>?_);obtain⟨p,rfl,hp⟩:=e1;refine⟨p,_,rfl,E1.sub _ _ hp,?_⟩;unfold bV;rw[KY];exact q _ H1 R1 E1 s1 rfl
end
abbrev cE:=P1->List Pk->RT->Prop
def aM (S:cE)(K:P1):Sp:=λvs H Q _=>∃R ps T,ax R H/\gI K R vs ps/\S K ps T/\∀v H' R',Ext H R H' R'->T H v H' R'->Q v H'
theorem gI.length {K:P1}{R:Hp}:∀{vs:List V}{ps:List Pk},gI K R vs ps->vs.length=ps.length
 | _,_,.nil=>rfl
 | _,_,.cons _ t=>by rw[Lg,Lg,gI.length t]
structure aF (P:Nf)(w:World)(K:P1)(mg:Kp)(base:Heap)(x:Str)(k:Nat)(sp:Sp):Prop where
 ex:∃f fd ps,cy P w K mg base c8 k f fd ps sp/\mg x=some (.ref f)/\P8 K (.ref f)=true/\Binds K fd ps []
theorem aF.mono {P:Nf}{w:World}{K:P1}{mg:Kp}{base:Heap}{x:Str}{j k:Nat}{sp:Sp}(c:aF P w K mg base x j sp)(h:j<=k):aF P w K mg base x k sp:=by
 obtain⟨f,fd,ps,F,a,b,c⟩:=c.ex;exact⟨f,fd,ps,F.mono h,a,b,c⟩
variable {ps:List Pk}{S:cE}
theorem zu {k:Nat}(C:aF X.prog X.w X.K X.mg X.base x k (aM S X.K))(hr:br k X.A)(ha:HA X (e::es) Γ ps Γ1)(hS:S X.K ps T)(E:aw X.K σ H0 R0 H R Γ)(q:∀H1 R1 v H' R',aw X.K σ H0 R0 H1 R1 Γ1->ax R R1->Ext H1 R1 H' R'->T H1 v H' R'->Q v H')(hg:Gl X x)(Rj:(x==("__debug__":Str))=false)(he:Nc (e::es) X.env=(false,eval e X.env)::Nc es X.env)(Q3:(Nk pos (Nc es X.env)).any (·.1)=false):fq X (.Call (.Name x p) (e::es) [] pos) σ H Q:=by
 obtain⟨f,fd,pn,F,hm,hk,hb⟩:=C.ex;refine eS (og F hr hg hm hk hb .nil qh jj Rj he Q3) (ha σ H0 R0 H R E _ λvs H1 R1 E1 s1 p1=>?_);refine⟨R1,ps,T,E1.sub,by rw[Lh];exact p1,hS,λv H' R' x t=>q H1 R1 v H' R' E1 s1 x t⟩
theorem aB {k:Nat}{y:α}(C:aF X.prog X.w X.K X.mg X.base x k (aM S X.K))(hr:br k X.A)(ha:HA X (e::es) Γ ps Γ1)(hS:S X.K ps (bN X.K r (· =y)))(hg:Gl X x:=by rfl)(Rj:Q0 x:=by decide)(he:Nc (e::es) X.env=(false,eval e X.env)::Nc es X.env:=by rfl)(Q3:(Nk pos (Nc es X.env)).any (·.1)=false:=by rfl):EV X (.Call (.Name x p) (e::es) [] pos) Γ r y Γ1:=λσ H0 R0 H R E Q q=>
 zu C hr ha hS E (λH1 R1 v H' R' E1 s1 xx t=>by
  obtain⟨z,e1,rfl⟩:=t;exact q v H' R' (E1.grow xx) (s1.trans xx.r) e1) hg Rj he Q3
def du (ps:List Pk)(n:Nat):Ga:=ps.map (λp=>Ent.im p.r p.x)++Mc (n-ps.length) .no
variable {vs:List V}
theorem eD {N:Ks}(s:ax R H)(p:gI K R vs ps)(hl:ps.length<=N.length):aw K (L2.start N vs) H R H R (du ps N.length):=by
 have Q6:∀(i:Nat)(e:Ent)(o:Option V),(du ps N.length)[i]?=some e->e.fp o=[]:=λi e o q=>by
  unfold du at q;rcases Lf.mp (K7 q) with z | z
  ·obtain⟨p,_,rfl⟩:=Lu.mp z;rfl
  ·obtain⟨_,rfl⟩:=Mi.mp z;rfl
 refine⟨Ext.refl s,λi e q=>?_,λi e a q w=>QE w (by rw[Q6 i e _ q];exact Le),λi j e e' a q _ w=>QE w (by rw[Q6 i e _ q];exact Le),?_⟩
 ·have hp:=p.length;unfold du at q;unfold L2.start;by_cases hi:i<ps.length
  ·rw[Lr (by simpa using hi),K9] at q;rw[Lr (by simpa[hp] using hi),K9];have key:∀{vs:List V}{ps:List Pk},gI K R vs ps->∀(i:Nat)(p:Pk),ps[i]?=some p->∃v,vs[i]?=some v/\p.r.R K R v p.x:=by
    intro vs ps h
    induction h with
    | nil=>intro i p e;simp at e
    | cons a b ih=>
      intro i p e;cases i with
      | zero=>simp at e;subst e;exact⟨_,rfl,a⟩
      | succ i=>simpa using ih i p (by simpa using e)
   cases e1:ps[i]? with
   | none=>rw[e1] at q;cases q
   | some p1=>
     rw[e1] at q;cases q
     obtain⟨v,h1,h2⟩:=key p i p1 e1;rw[h1];exact⟨v,rfl,h2⟩
  ·rw[Lo (by simpa using hi),L5] at q;split at q
   ·cases q;trivial
   ·cases q
 ·unfold du L2.start;rw[K3,K3,KY,KY,LD,LD,p.length]
variable {P:Nf}{w:World}{mg:Kp}{base:Heap}{qual:Str}{f:Addr}{fd:Nm}
def Def (K:P1)(mg:Kp)(x:Str)(st:Stmt)(ps:Ks):Prop:=∃f fd,cK K x x st f fd/\mg x=some (.ref f)/\Binds K fd ps []
theorem e8 {N ps:Ks}{k:Nat}(F:cK K x qual st f fd)(Sc:aZ N ps (ak st))(hm:mg x=some (.ref f))(hb:Binds K fd ps [])(len:∀qs T,S K qs T->qs.length=ps.length)(Q1:∀(QP:Value)(A:Nh)(outer:List Env)(s:M9)(H:Hp)(E:XK)(qs:List Pk)(T:RT),br k (A.deeper (MW qual (ak st) s.heap.objs.size f QP))->S K qs T->
  WS (aX c8 P w K mg base N qual (ak st) f QP A outer s H E).cj (bo st) (du qs N.length) (λ_=>False) T):aF P w K mg base x (k+1) (aM S K):=by
 refine⟨f,fd,ps,?_,hm,F.kp,hb⟩;refine F.ok Sc (λvs H Q E h=>?_) (λQP A outer s H vs Q E hr h=>?_)
 ·obtain⟨R,qs,T,_,p,hS,_⟩:=h;rw[p.length];exact len qs T hS
 ·obtain⟨R,qs,T,sR,p,hS,q⟩:=h;have hl:qs.length<=N.length:=by
   rw[len qs T hS];have:=congrArg List.length Sc.pre;rw[Lc] at this;omega
  exact⟨_,ef,Q1 QP A outer s H E qs T hr hS (L2.start N vs) H R H R (eD sR p hl) {nx:=λ_ H'=>Q .QY H',rt:=Q} (λ_ _ _ _ _ _ f=>f.elim) λv H' R' xx t=>q v H' R' xx t⟩
theorem bE {N ps:Ks}{k:Nat}(D:Def K mg x st ps)(Q1:∀(f:Addr)(QP:Value)(A:Nh)(outer:List Env)(s:M9)(H:Hp)(E:XK)(qs:List Pk)(T:RT),N.Nodup->br k (A.deeper (MW x (ak st) s.heap.objs.size f QP))->S K qs T->
  WS (aX c8 P w K mg base N x (ak st) f QP A outer s H E).cj (bo st) (du qs N.length) (λ_=>False) T)(len:∀qs T,S K qs T->qs.length=ps.length:=by(intros;rename_i h;repeat (first | (rw[h.1];rfl) | obtain⟨_,h⟩:=h)))(Sc:aZ N ps (ak st):=by exact RQ):aF P w K mg base x (k+1) (aM S K):=by
 obtain⟨f,fd,F,hm,hb⟩:=D;exact e8 F Sc hm hb len λQP A outer s H E qs T=>Q1 f QP A outer s H E qs T Sc.nd
variable {ns:Kr}
section
variable {a:Expr}
theorem sf {bs:List Bool}{us:Kv}(r:Vals (bs.map V.bl) us){v:Value}(h:us.toArray[j]?=some v):v= .bool (bs.getD j true):=by
 induction bs generalizing us j with
 | nil=>cases r;simp at h
 | cons b r' ih=>
   cases r with
   | cons h1 t=>
     cases j with
     | zero=>simp at h;rw[← h];exact h1
     | succ j=>exact ih t (by simpa using h)
theorem all_range (bs:List Bool):((Lq bs.length).all λj=>bs.getD j true)=bs.all id:=by
 rw[KG,LU,LU];constructor
 ·intro h b hb;obtain⟨j,hj,rfl⟩:=Mn.mp hb;have:=h j (LY.mpr hj);simpa[K5,K2 hj] using this
 ·intro h j hj;have hj:=LY.mp hj;simpa[K5,K2 hj] using h _ (LZ hj)
theorem any_range (bs:List Bool):((Lq bs.length).any λj=>bs.getD j true)=bs.any id:=by
 rw[KG,Mo,Mo];constructor
 ·rintro⟨j,hj,h⟩;have hj:=LY.mp hj;exact⟨_,LZ hj,by simpa[K5,K2 hj] using h⟩
 ·rintro⟨b,hb,h⟩;obtain⟨j,hj,rfl⟩:=Mn.mp hb;exact⟨j,LY.mpr hj,by simpa[K5,K2 hj] using h⟩
theorem zI (hc:X.calm=true):dy X (.builtin "all") (λxs H Q=>∃(p:Addr)(bs:List Bool),xs=[.ref p]/\bt X.K H p (bs.map V.bl)/\Q (.bl (bs.all id)) H):=by
 intro QN s σ H xs us Q I r h;obtain⟨p,bs,rfl,hq,q⟩:=h;obtain⟨u,rfl,rx⟩:=vals1 r;cases rx
 obtain⟨QO,r',pl,hz⟩:=I.list hq;have Q5:p≠s.heap.objs.size:=λe=>by obtain⟨o,ho,_⟩:=pl.isList;exact QE (Pl ho) (by rw[e];exact MF _)
 refine call_all_walk (Ob pl.isList ?_);refine⟨s.heap.objs.size,_,[s.heap.objs.size],QO.toArray.size,_,_,λj=>bs.getD j true,rfl,Walks.list (A:=X.A.in1) (show X.A.in1.handled=none from I.ok.hd hc) s.heap.objs.size p Q5 QO.toArray,?_,λj v s Q E hv hQ=>?_,λh' tk hk=>?_⟩
 ·refine⟨⟨_,Pm _ rfl,rfl,rfl⟩,?_⟩;obtain⟨o,ho,c,n,d⟩:=pl.isList;exact⟨o,Pj _ ho,c,n,d⟩
 ·rw[sf r' hv];exact Np hQ
 ·have e:QO.toArray.size=bs.length:=by rw[K6,← r'.length,KY]
  rw[e,all_range];exact⟨.bl _,H,I.kept λb o e=>hk b o (λz=>QE (Pl e) (by rw[KZ.mp z];exact MF _)) (Pj _ e),rfl,q⟩
theorem zZ (hc:X.calm=true):dy X (.builtin "any") (λxs H Q=>∃(p:Addr)(bs:List Bool),xs=[.ref p]/\bt X.K H p (bs.map V.bl)/\Q (.bl (bs.any id)) H):=by
 intro QN s σ H xs us Q I r h;obtain⟨p,bs,rfl,hq,q⟩:=h;obtain⟨u,rfl,rx⟩:=vals1 r;cases rx
 obtain⟨QO,r',pl,hz⟩:=I.list hq;have Q5:p≠s.heap.objs.size:=λe=>by obtain⟨o,ho,_⟩:=pl.isList;exact QE (Pl ho) (by rw[e];exact MF _)
 refine call_any_walk (Ob pl.isList ?_);refine⟨s.heap.objs.size,_,[s.heap.objs.size],QO.toArray.size,_,_,λj=>bs.getD j true,rfl,Walks.list (A:=X.A.in1) (show X.A.in1.handled=none from I.ok.hd hc) s.heap.objs.size p Q5 QO.toArray,?_,λj v s Q E hv hQ=>?_,λh' tk hk=>?_⟩
 ·refine⟨⟨_,Pm _ rfl,rfl,rfl⟩,?_⟩;obtain⟨o,ho,c,n,d⟩:=pl.isList;exact⟨o,Pj _ ho,c,n,d⟩
 ·rw[sf r' hv];exact Np hQ
 ·have e:QO.toArray.size=bs.length:=by rw[K6,← r'.length,KY]
  rw[e,any_range];exact⟨.bl _,H,I.kept λb o e=>hk b o (λz=>QE (Pl e) (by rw[KZ.mp z];exact MF _)) (Pj _ e),rfl,q⟩
theorem iN {K:P1}{R:Hp}:∀{vs:List V}{xs:List Bool},PySem.Paired (bp.R K R) vs xs->vs=xs.map V.bl
 | _,_,.nil=>rfl
 | _,_,.cons h t=>by rw[Lm,← iN t];exact congrArg (· ::_) h
theorem vP {id:String}{r:List V->Hp->VK->Prop}{y:α}{z:β}(hc:dy X (.builtin id) r)(hm:X.mg x=none)(hv:Ny x=some (.builtin id))(ha:EV X a Γ ra y Γ1)(h:∀(R H:Hp) v Q,ax R H->ra.R X.K R v y->(∀w,rb.R X.K R w z->Q w H)->r [v] H Q)(hs:Nc [a] X.env=[(false,eval a X.env)]:=by rfl)(hg:Gl X x:=by rfl)(hn:x≠"__name__":=by decide)(Rj:Q0 x:=by decide):
 EV X (.Call (.Name x p) [a] [] pos) Γ rb z Γ1:=by
 intro σ H0 R0 H R E Q q;exact eS (da hc hg hm hv (aU aR bD hs) hn Rj hs) (ha σ H0 R0 H R E _ λv H1 R1 E1 s1 e1=>h R1 H1 v _ E1.sub e1 λw hw=>q w H1 R1 E1 s1 hw)
theorem Dz {bs:List Bool}(hm:X.mg "all"=none)(ha:EV X a Γ (af bp) bs Γ1)(hs:Nc [a] X.env=[(false,eval a X.env)]:=by rfl)(hc:X.calm=true:=by rfl)(hg:Gl X "all":=by rfl):EV X (.Call (.Name "all" p) [a] [] pos) Γ bp (bs.all id) Γ1:=
 vP (zI hc) hm boot_all ha (λR H v Q s ⟨p,vs,e,hp,pp,_⟩ q=>⟨p,bs,by rw[e],by rw[← iN pp];exact bt.of (s _ _ hp),q _ rfl⟩) hs hg
theorem Dx {bs:List Bool}(hm:X.mg "any"=none)(ha:EV X a Γ (af bp) bs Γ1)(hs:Nc [a] X.env=[(false,eval a X.env)]:=by rfl)(hc:X.calm=true:=by rfl)(hg:Gl X "any":=by rfl):EV X (.Call (.Name "any" p) [a] [] pos) Γ bp (bs.any id) Γ1:=
 vP (zZ hc) hm boot_any ha (λR H v Q s ⟨p,vs,e,hp,pp,_⟩ q=>⟨p,bs,by rw[e],by rw[← iN pp];exact bt.of (s _ _ hp),q _ rfl⟩) hs hg
theorem uz {b:Bool}(hm:X.mg "int"=none)(ha:EV X a Γ bp b Γ1)(hs:Nc [a] X.env=[(false,eval a X.env)]:=by rfl)(hg:Gl X "int":=by rfl):EV X (.Call (.Name "int" p) [a] [] pos) Γ ah (if b then 1 else 0) Γ1:=by
 intro σ H0 R0 H R E Q q;exact eS (gW xf hg hm PyProof.Rows.boot_int (aU aR bD hs) (by decide) (by decide) hs) (ha σ H0 R0 H R E _ λv H1 R1 E1 s1 e1=>.inr ⟨b,by rw[show v=V.bl b from e1],q _ H1 R1 E1 s1 rfl⟩)
theorem yu (hc:X.calm=true):dy X (.builtin "min") (λxs H Q=>∃(p:Addr)(ns:Kr),xs=[.ref p]/\bt X.K H p (ns.map V.int)/\ns≠[]/\∀M,M∈ns->(∀a∈ns,M<=a)->Q (.int M) H):=by
 intro QN s σ H xs us Q I r h;obtain⟨p,ns,rfl,hq,Q5,q⟩:=h;obtain⟨u,rfl,rx⟩:=vals1 r;cases rx
 obtain⟨QO,r',pl,hz⟩:=I.list hq;have hi:=intsAre_of r';have Q5:0<ns.length:=L7.mpr Q5;have hl:=pl.isList;obtain⟨xs,e⟩:=hi.allInts.items;have Tu:ns=xs.toList.map (·.1):=by rw[← hi.numsOf,← nums_intItems,← e]
 have hsz:0<xs.size:=by
  have h3:=Q5;rw[Tu,KY,Kz] at h3;exact h3
 rw[e] at hl;refine min_intList (I.ok.hd hc) hl hsz λv h' tk hv hk=>?_;obtain⟨t,rfl⟩:=intItems_at hv;obtain⟨h1,h2⟩:=argBest_lt (numAt xs) (xs.size-1);refine⟨.int _,H,I.kept hk,⟨t,rfl⟩,q _ ?_ λa ha=>?_⟩
 ·rw[Tu,numAt_eq];exact getD_mem (by rw[KY,Kz];omega)
 ·rw[Tu] at ha;obtain⟨j,hj,rfl⟩:=mem_getD ha;rw[KY,Kz] at hj;rw[← numAt_eq];exact h2 j (by omega)
def least:Kr->Int
 | []=>0
 | [x]=>x
 | x::y::r=>min x (least (y::r))
theorem zx:∀{ns:Kr}{M:Int},M∈ns->(∀a∈ns,M<=a)->least ns=M:=by
 have key:∀(ns:Kr),ns≠[]->least ns∈ns/\∀a∈ns,least ns<=a:=by
  intro ns
  induction ns with
  | nil=>intro h;exact QE rfl h
  | cons x r ih=>
    intro _;cases r with
    | nil=>simp[least]
    | cons y r=>
      obtain⟨h1,h2⟩:=ih (by simp);show min x (least (y::r))∈_/\_;refine⟨?_,λa ha=>?_⟩
      ·rcases Int.le_total x (least (y::r)) with h | h
       ·rw[Int.min_eq_left h];exact K4
       ·rw[Int.min_eq_right h];exact K0 _ h1
      ·show min x (least (y::r))<=a;rcases K8.mp ha with rfl | ha
       ·exact Int.min_le_left _ _
       ·exact KS (Int.min_le_right _ _) (h2 a ha)
 intro ns M h1 h2;obtain⟨h3,h4⟩:=key ns (λe=>by rw[e] at h1;cases h1)
 exact Int.le_antisymm (h4 M h1) (h2 _ h3)
theorem Cp (hm:X.mg "min"=none)(ha:EV X a Γ (af ah) ns Γ1)(Q5:ns≠[])(hs:Nc [a] X.env=[(false,eval a X.env)]:=by rfl)(hc:X.calm=true:=by rfl)(hg:Gl X "min":=by rfl):EV X (.Call (.Name "min" p) [a] [] pos) Γ ah (least ns) Γ1:=
 vP (yu hc) hm PyProof.Rows.boot_min ha (λR H v Q s ⟨p,vs,e,hp,pp,_⟩ q=>⟨p,ns,by rw[e],by rw[← oG pp];exact bt.of (s _ _ hp),Q5,λM h1 h2=>by rw[← zx h1 h2];exact q _ rfl⟩) hs hg
theorem BC {x y:Int}(hm:X.mg "min"=none)(ha:HA X [a,b] Γ [⟨ah,x⟩,⟨ah,y⟩] Γ1)(hs:Nc [a,b] X.env=(false,eval a X.env)::Nc [b] X.env:=by rfl)(hc:X.calm=true:=by rfl)(hg:Gl X "min":=by rfl)(Q3:(Nk pos (Nc [b] X.env)).any (·.1)=false:=by rfl):EV X (.Call (.Name "min" p) [a,b] [] pos) Γ ah (if y<x then y else x) Γ1:=by
 intro σ H0 R0 H R E Q q;refine eS (da (yy hc) hg hm PyProof.Rows.boot_min jj (by decide) (by decide) hs Q3) (ha σ H0 R0 H R E _ λvs H1 R1 E1 s1 p1=>?_);cases p1 with
 | cons a1 t=>cases t with
   | cons a2 t2=>cases t2;cases a1;cases a2;exact⟨x,y,rfl,q _ H1 R1 E1 s1 rfl⟩
end
def Src (K:P1)(J:It)(R1:Hp){α:Type}(r:Rep α)(xs:List α):Prop:=
 ∀(H' R':Hp),ax R1 R'->ax R' H'->∀i:Nat,(∀x,xs[i]?=some x->J.go i H'/\∀v H2,J.U6 i H' v H2->∃R2,Ext H' R' H2 R2/\r.R K R2 v x)/\(xs.length<=i->J.stop i H')
variable {scope:Scope}{fr:Ks}{ix:List Nat}{R1:Hp}
section
variable {tg:Expr}{iter:Expr}{bf:α->Ga->Ga}{elt:Expr}{ifs:Kw}{cl:List (Str×Addr)}{p:α->Bool}{f:α->β}
def IV (X:Cx)(tg iter:Expr)(Γ:Ga){α:Type}(r:Rep α)(xs:List α)(Γ1:Ga):Prop:=
 ∃wi,PI X tg iter wi/\∀(σ:St)(H0 R0 H R:Hp),aw X.K σ H0 R0 H R Γ->∀Rq:It->Hp->Prop,(∀J H1 R1,aw X.K σ H0 R0 H1 R1 Γ1->ax R R1->xs.length<=Nb->Src X.K J R1 r xs->Rq J H1)->wi σ H Rq
theorem c7 (h:EV X iter Γ (af r) xs Γ1):IV X tg iter Γ r xs Γ1:=by
 refine⟨_,A6 aR,λσ H0 R0 H R E Rq q=>h σ H0 R0 H R E _ λv H1 R1 E1 s1 e1=>?_⟩;obtain⟨a,vs,rfl,ha,pp,z⟩:=e1;refine⟨a,rfl,⟨vs,bt.of (E1.sub _ _ ha)⟩,q _ H1 R1 E1 s1 z λH' R' sR sH i=>⟨λx hx=>?_,λhi=>?_⟩⟩
 ·have hq:bt X.K H' a vs:=bt.of (sH _ _ (sR _ _ ha));obtain⟨v,hv,hr⟩:=dJ pp hx;refine⟨⟨vs,v,hq,hv⟩,λv' H2 hy=>?_⟩;obtain⟨rfl,hy⟩:=hy;have:=hy vs hq;rw[hv] at this;cases this
  exact⟨R',Ext.refl sH,r.mono sR hr⟩
 ·exact⟨vs,bt.of (sH _ _ (sR _ _ ha)),by rw[pp.length];exact hi⟩
def ups (lo:Int)(n:Nat):Kr:=(Lq n).map λ(k:Nat)=>lo+(k:Int)
theorem bK (lo:Int)(n:Nat):(ups lo n).length=n:=by unfold ups;rw[KY,LM]
theorem eY {lo:Int}{n:Nat}{x:Int}(h:(ups lo n)[i]?=some x):i<n/\x=lo+(i:Int):=by
 have hi:i<n:=by have:=(KW.mp h).1;rwa [bK] at this
 refine⟨hi,?_⟩;unfold ups at h;rw[K9,L8 hi] at h;exact(Option.some.inj h).symm
theorem ux (lo:Int)(n:Nat):Src K (yn lo n) R1 ah (ups lo n):=λH' R' sR sH i=>⟨λx hx=>by
 obtain⟨h1,rfl⟩:=eY hx;refine⟨h1,λv H2 hy=>?_⟩;obtain⟨rfl,rfl⟩:=hy;exact⟨R',Ext.refl sH,rfl⟩,λhi=>by rw[bK] at hi;exact hi⟩
theorem dH {a:Expr}(hm:X.mg "range"=none)(ha:EV X a Γ ah n Γ1)(hn: -(2 ^ 62)<=n/\n<=1000000)(Vs:Nc [a] X.env=[(false,eval a X.env)]:=by rfl)(hg:Gl X "range":=by rfl):IV X tg (.Call (.Name "range" p1) [a] [] p2) Γ ah (ups 0 n.toNat) Γ1:=by
 refine⟨_,xr hg hm (aU aR bD Vs) Vs,λσ H0 R0 H R E Rq q=>ha σ H0 R0 H R E _ λv H1 R1 E1 s1 e1=>?_⟩;exact⟨n,by rw[show v=V.int n from e1],hn.1,by omega,q _ H1 R1 E1 s1 (by rw[bK];exact Mz (show n.toNat<=1000000 by omega) (by decide)) (ux 0 n.toNat)⟩
theorem wQ {a:Expr}{m:Int}(hm:X.mg "range"=none)(ha:EV X a Γ ah m Γ1)(hb:EV X b Γ1 ah n Γ2)(hn: -1000000<=m/\m<=1000000/\ -1000000<=n/\n<=1000000)(Vs:Nc [a,b] X.env=[(false,eval a X.env),(false,eval b X.env)]:=by rfl)(Rp:Nc [b] X.env=[(false,eval b X.env)]:=by rfl)(hg:Gl X "range":=by rfl):IV X tg (.Call (.Name "range" p1) [a,b] [] p2) Γ ah (ups m (n-m).toNat) Γ2:=by
 refine⟨_,wO hg hm (aU aR (aU aR bD Rp) (by rw[Vs,Rp])) Vs Rp,λσ H0 R0 H R E Rq q=>ha σ H0 R0 H R E _ λv H1 R1 E1 s1 e1=>hb σ H0 R0 H1 R1 E1 _ λu H2 R2 E2 s2 e2=>?_⟩;exact⟨m,n,by rw[show v=V.int m from e1,show u=V.int n from e2],⟨by omega,by omega,by omega,by omega⟩,q _ H2 R2 E2 (s1.trans s2) (by rw[bK];exact Mz (show(n-m).toNat<=2000000 by omega) (by decide)) (ux m (n-m).toNat)⟩
theorem cN (I:Nat->Ga->Prop)(hit:IV X tg iter Γ r xs Γ1)(hb:BG X tg r bf)(h0:I 0 Γ1)(RN:∀(i:Nat)(x:α)(Γ:Ga),xs[i]?=some x->I i Γ->WS X body (bf x Γ) (I (i+1)) T)(Sd:∀Γ:Ga,I xs.length Γ->N Γ)(hc:X.calm=true:=by rfl)(hp:OG (model X.prog X.w) X.A X.env X.xe:=by exact OG.never)(hs:∀x,NF iter X.env x=pure x:=by intro _;rfl):W1 X (.For tg iter body [] pos) Γ N T:=λσ H0 R0 H R E D dn dr=>by
 obtain⟨wi,hi,hit⟩:=hit;refine sS (DN hp hc hi pgS ef hs) (hit σ H0 R0 H R E _ λJ H1 R1 E1 s1 hz src=>?_);refine⟨λi m σ' H'=>m=xs.length-i/\i<=xs.length/\∃R' Γ',aw X.K σ' H0 R0 H' R' Γ'/\ax R1 R'/\I i Γ',⟨_,rfl,MC _,R1,Γ1,E1,ax.refl _,h0⟩,?_⟩;rintro i m σ' H' ⟨rfl,hle,R',Γ',E',s',hI⟩;obtain⟨sgo,Ta⟩:=src H' R' s' E'.sub i;by_cases RJ:i<xs.length
 ·obtain⟨go,yl⟩:=sgo _ (K2 RJ);refine .inr ⟨go,λσ' H'=>i+1<=xs.length/\∃R' Γ',aw X.K σ' H0 R0 H' R' Γ'/\ax R1 R'/\I (i+1) Γ',λσ2 H2 h=>⟨xs.length-(i+1),by omega,rfl,h.1,h.2⟩,λv H2 hy=>?_⟩;obtain⟨R2,x2,hr⟩:=yl v H2 hy;refine hb σ' H0 R0 H2 R2 Γ' v _ (E'.grow x2) hr _ λσ2 E2=>?_;exact RN i _ Γ' (K2 RJ) hI σ2 H0 R0 H2 R2 E2 _ (λσ3 H3 R3 Γ3 E3 s3 h3=>⟨RJ,R3,Γ3,E3,s'.trans (x2.r.trans s3),h3⟩) dr
 ·have e:i=xs.length:=by omega
  subst e;exact .inl ⟨Ta (My _),dn σ' H' R' Γ' E' (s1.trans s') (Sd Γ' hI)⟩
def uW:Option Ent->Ent
 | some (.im r x)=>.im r x
 | _=>.no
def ei (own:Ks)(ix:List Nat)(Γ:Ga):Ga:=Mc own.length .no++ix.map λi=>uW Γ[i]?
theorem zT (E:aw K σ H0 R0 H R Γ)(own:Ks)(ix:List Nat):aw K (fU own ix σ) H R H R (ei own ix Γ):=by
 have Q6:∀(i:Nat)(e:Ent)(o:Option V),(ei own ix Γ)[i]?=some e->e.fp o=[]:=λi e o q=>by
  unfold ei at q;rcases Lf.mp (K7 q) with z | z
  ·obtain⟨_,rfl⟩:=Mi.mp z;rfl
  ·obtain⟨k,_,rfl⟩:=Lu.mp z;unfold uW;split<;>rfl
 refine⟨Ext.refl E.sub,λi e q=>?_,λi e a q w=>QE w (by rw[Q6 i e _ q];exact Le),λi j e e' a q _ w=>QE w (by rw[Q6 i e _ q];exact Le),by unfold ei fU;simp⟩;unfold ei at q;unfold fU;by_cases hi:i<own.length
 ·rw[Lr (by simpa using hi),L5] at q;rw[QG hi] at q;cases q;trivial
 ·rw[Lo (by simpa using hi),LD,K9] at q;rw[Lo (by simpa using hi),LD,K9];cases ek:ix[i-own.length]? with
  | none=>rw[ek] at q;cases q
  | some k=>
    rw[ek] at q;have q':uW Γ[k]?=e:=Option.some.inj q;subst q';show(uW Γ[k]?).ok K H R (σ[k]?).join;cases eg:Γ[k]? with
    | none=>trivial
    | some e=>
      cases e with
      | im r x=>exact E.ent k _ eg
      | no=>trivial
      | mu r x=>trivial
      | di x=>trivial
      | ob x=>trivial
theorem oP {own:Ks}{J:It}{H1:Hp}(E1:aw X.K σ H0 R0 H1 R1 Γ1)(src:Src X.K J R1 ra xs)(hz:xs.length<=Nb)(hb:∀(C:Addr)(s:M9)(H:Hp)(ex:Ku),BG (bJ X scope cl C (own++fr) s H ex) tg ra bf)(hw:∀x,Wk (bf x (ei own ix Γ1)) (ei own ix Γ1))(ht:∀(C:Addr)(s:M9)(H:Hp)(ex:Ku) x,x∈xs->TF (bJ X scope cl C (own++fr) s H ex) ifs (bf x (ei own ix Γ1)) (p x) (bf x (ei own ix Γ1)))(he:∀(C:Addr)(s:M9)(H:Hp)(ex:Ku) x,x∈xs->p x=true->EV (bJ X scope cl C (own++fr) s H ex) elt (bf x (ei own ix Γ1)) rb (f x) (bf x (ei own ix Γ1)))(q:∀a vs H' R',Ext H1 R1 H' R'->H' a=none->PySem.Paired (rb.R X.K R') vs ((xs.filter p).map f)->Q (.ref a) (upd H' a (.lst vs))):
 ∃W:Nat->Nat->List V->St->Hp->Prop,(∃m,W 0 m [] (fU own ix σ) H1)/\∀i m ys σ' H',W i m ys σ' H'->
  ys.length<=Nb/\((J.stop i H'/\∀p,H' p=none->Q (.ref p) (upd H' p (.lst ys)))∨
  (J.go i H'/\∀x H2,J.U6 i H' x H2->(λv σ H Q=>∀C s Hh ex,oK (bJ X scope cl C (own++fr) s Hh ex) tg v σ H Q:TG) x σ' H2 λσ2 H3=>(λσ H Q=>∀C s Hh ex,sv (bJ X scope cl C (own++fr) s Hh ex) ifs σ H Q:TT) σ2 H3 λb H4=>
    if b=true then(λσ H Q=>∀C s Hh ex,fq (bJ X scope cl C (own++fr) s Hh ex) elt σ H Q:TE) σ2 H4 λv H5=>∃m',m'<m/\W (i+1) m' (ys++[v]) σ2 H5 else∃m',m'<m/\W (i+1) m' ys σ2 H4)):=by
 refine⟨λi m ys σ' H'=>m=xs.length-i/\i<=xs.length/\∃R',aw X.K σ' H1 R1 H' R' (ei own ix Γ1)/\PySem.Paired (rb.R X.K R') ys (((xs.take i).filter p).map f),⟨_,rfl,MC _,R1,zT E1 own ix,.nil⟩,?_⟩;rintro i m ys σ' H' ⟨rfl,hle,R',E',pp⟩;have hys:ys.length<=Nb:=by
  rw[pp.length,KY];refine Mz (Ly _ _) (Mz ?_ hz);rw[Lc];omega
 obtain⟨sgo,Ta⟩:=src H' R' E'.ext.r E'.sub i;refine⟨hys,?_⟩;by_cases RJ:i<xs.length
 ·obtain⟨go,yl⟩:=sgo _ (K2 RJ);have VB:xs[i]∈xs:=LZ RJ;have tk:(xs.take (i+1))=xs.take i++[xs[i]]:=by rw[Lw,K2 RJ];rfl
  refine .inr ⟨go,λv H2 hy C s Hh ex=>?_⟩;obtain⟨R2,x2,hr⟩:=yl v H2 hy;refine hb C s Hh ex σ' H1 R1 H2 R2 _ v _ (E'.grow x2) hr _ λσ2 E2=>?_;intro C s Hh ex;refine ht C s Hh ex _ VB σ2 H1 R1 H2 R2 E2 _ λH4 R4 E4 s4=>?_;cases hpx:p xs[i] with
  | false=>
    rw[QF KC];refine⟨xs.length-(i+1),by omega,rfl,RJ,R4,E4.weak (hw _),?_⟩;rw[tk,Mx,List.filter_cons,hpx,QF KC,List.filter_nil,Lh];exact Paired.map (λ_ _=>rb.mono (x2.r.trans s4)) pp
  | true=>
    rw[QG rfl];intro C s Hh ex;refine he C s Hh ex _ VB hpx σ2 H1 R1 H4 R4 E4 _ λw H5 R5 E5 s5 e5=>?_;refine⟨xs.length-(i+1),by omega,rfl,RJ,R5,E5.weak (hw _),?_⟩;rw[tk,Mx,List.filter_cons,hpx,QG rfl,List.filter_nil,Lj];exact dW (Paired.map (λ_ _=>rb.mono (x2.r.trans (s4.trans s5))) pp) (.cons e5 .nil)
 ·have e:i=xs.length:=by omega
  subst e;rw[LA] at pp;exact .inl ⟨Ta (My _),λa ha=>q a ys H' R' E'.ext ha pp⟩
theorem cL {own:Ks}(S:eI X scope cl own fr ix)(hit:IV X tg iter Γ ra xs Γ1)(hb:∀(C:Addr)(s:M9)(H:Hp)(ex:Ku),BG (bJ X scope cl C (own++fr) s H ex) tg ra bf)(hw:∀x,Wk (bf x (ei own ix Γ1)) (ei own ix Γ1))(ht:∀(C:Addr)(s:M9)(H:Hp)(ex:Ku) x,x∈xs->TF (bJ X scope cl C (own++fr) s H ex) ifs (bf x (ei own ix Γ1)) (p x) (bf x (ei own ix Γ1)))(he:∀(C:Addr)(s:M9)(H:Hp)(ex:Ku) x,x∈xs->p x=true->EV (bJ X scope cl C (own++fr) s H ex) elt (bf x (ei own ix Γ1)) rb (f x) (bf x (ei own ix Γ1)))(hc:X.calm=true:=by rfl)(hs:∀x,NF iter X.env x=pure x:=by intro _;rfl):aI X (.ListComp elt [⟨tg,iter,ifs,0⟩] scope pos) Γ rb ((xs.filter p).map f) Γ1:=by
 intro σ H0 R0 H R E Q q;obtain⟨wi,hi,hit⟩:=hit;refine eS (Bg (g:=λv σ H Q=>∀C s Hh ex,oK (bJ X scope cl C (own++fr) s Hh ex) tg v σ H Q) (tc:=λσ H Q=>∀C s Hh ex,sv (bJ X scope cl C (own++fr) s Hh ex) ifs σ H Q) (te:=λσ H Q=>∀C s Hh ex,fq (bJ X scope cl C (own++fr) s Hh ex) elt σ H Q) hc S hi
  (λC s H ex=>⟨λQN s1 σ H v u Q I r h=>h C s _ ex QN s1 u I r,λQN s1 σ H Q I h=>h C s _ ex QN s1 I,λQN s1 σ H Q I h=>h C s _ ex QN s1 I⟩) hs) ?_
 refine hit σ H0 R0 H R E _ λJ H1 R1 E1 s1 hz src=>oP E1 src hz hb hw ht he λa vs H' R' xx ha pp=>?_;have E2:=E1.grow xx;exact q a vs _ R' (E2.grow (Ext.dj E2.sub ha _)) (s1.trans xx.r) aD (E2.sub.free ha) (E2.ext.h.free ha) (E2.off ha) pp (by
  rw[KY];exact Mz (Ly _ _) hz)
theorem ng (i:Nat){py Tb:Pos}{own:Ks}(S:eI X scope cl own fr ix)(hit:IV X tg iter Γ ra xs Γ1)(hb:∀(C:Addr)(s:M9)(H:Hp)(ex:Ku),BG (bJ X scope cl C (own++fr) s H ex) tg ra bf)(hw:∀x,Wk (bf x (ei own ix Γ1)) (ei own ix Γ1))(ht:∀(C:Addr)(s:M9)(H:Hp)(ex:Ku) x,x∈xs->TF (bJ X scope cl C (own++fr) s H ex) ifs (bf x (ei own ix Γ1)) (p x) (bf x (ei own ix Γ1)))(he:∀(C:Addr)(s:M9)(H:Hp)(ex:Ku) x,x∈xs->p x=true->EV (bJ X scope cl C (own++fr) s H ex) elt (bf x (ei own ix Γ1)) rb (f x) (bf x (ei own ix Γ1)))(h:N (Γ1.set i (.mu rb ((xs.filter p).map f))))(RR:Nl (.ListComp elt [⟨tg,iter,ifs,0⟩] scope pos) (some (.Name y py)) Tb.line X.env=pure true:=by rfl)(hN:X.N.Nodup:=by first | assumption | decide)(hi':X.N[i]?=some y:=by rfl)(hx:autoParam (Loc X.env.scope y) SW)(hc:X.calm=true:=by rfl)(hs:∀x,NF iter X.env x=pure x:=by intro _;rfl)(hf:autoParam (X.fn y=true∨X.env.scope.names.lookup y=some .local) SV):
 W1 X (.Assign [.Name y py] (.ListComp elt [⟨tg,iter,ifs,0⟩] scope pos) Tb) Γ N T:=λσ H0 R0 H R E D dn dr=>by
 obtain⟨wi,hi,hit⟩:=hit;refine sS (vZ (i:=i) (g:=λv σ H Q=>∀C s Hh ex,oK (bJ X scope cl C (own++fr) s Hh ex) tg v σ H Q) (tc:=λσ H Q=>∀C s Hh ex,sv (bJ X scope cl C (own++fr) s Hh ex) ifs σ H Q) (te:=λσ H Q=>∀C s Hh ex,fq (bJ X scope cl C (own++fr) s Hh ex) elt σ H Q) RR hN hi' hx hc S hi
  (λC s H ex=>⟨λQN s1 σ H v u Q I r h=>h C s _ ex QN s1 u I r,λQN s1 σ H Q I h=>h C s _ ex QN s1 I,λQN s1 σ H Q I h=>h C s _ ex QN s1 I⟩) hs hf) ?_
 refine hit σ H0 R0 H R E _ λJ H1 R1 E1 s1 hz src=>oP (Q:=λv H'=>D.nx (σ.set i (some v)) H') E1 src hz hb hw ht he λa vs H' R' xx ha pp=>?_;have E2:=E1.grow xx;exact dn _ _ R' _ ((E2.grow (Ext.dj E2.sub ha _)).v8 (u:=.lst vs) (en:=.mu rb ((xs.filter p).map f)) i ⟨a,vs,rfl,aD,E2.sub.free ha,pp⟩ (E2.ext.h.free ha) λj e _ q w=>E2.off ha j e q w) (s1.trans xx.r) h
end
variable {QN:Kq}{s:M9}
section
variable {tp:Pos}
theorem ly {h':Heap}{t':Nat}{fp:Ku}(I:Inv X QN σ H s)(k:∀b o,b∉fp->s.heap.get? b=some o->h'.get? b=some o)(hf:∀b∈fp,jg X QN H b):Inv X QN σ H {s with heap:=h',toks:=t'}:=by
 have Vg:∀b u,H b=some u->b∉fp:=λb u e z=>by rw[(hf b z).1] at e;cases e
 refine I.step (g':=s.gens) (d':=s.drawn) (ch:=fp) (λb hb=>⟨(hf b hb).2.2.2.1,(hf b hb).2.1,(hf b hb).2.2.2.2.1,(hf b hb).2.2.2.2.2⟩) (λb o _ _ hc e _=>k b o hc e) (λb o _ _ hc e _=>⟨o.slots,k b o hc e⟩) (λ_ _ _ _ n=>n)
  (λb o hc e=>⟨o,k b o hc e⟩) (λ_ _ e=>e) (λ_ _ _ e=>e) (λb ps e=>⟨#[],by rw[e];simp⟩) (λm hm=>?_) (λb u e=>?_) I.bare
 ·obtain⟨o,es,ep,ho,r⟩:=hm;exact⟨o,es,ep,k _ o (λz=>(hf _ z).2.1 rfl) ho,r⟩
 ·refine(I.QQ b u e).Q7 (λc v hc q=>k c v ?_ q) (λ_ q=>q) λ_ _ q=>q;rcases hc with z | z
  ·rw[z];exact Vg b u e
  ·exact Vg c _ z
theorem adopt {o:HO}(I:Inv X QN σ H s)(hf:jg X QN H a)(hy:X.s₀.heap.objs.size<=a)(new:bQ X.prog X.w (upd H a o) s.heap a o):Inv X QN σ (upd H a o) s:=by
 have ne:∀{b:Addr}{u:HO},H b=some u->b≠a:=λe=>cB e hf.1;have ne0:∀{b:Addr}{u:Obj},X.s₀.heap.get? b=some u->b≠a:=λe z=>QE (MA (Pl e) hy) (by rw[z];exact MF _);refine⟨I.ok,I.os,I.bare,⟨I.base.keep,I.base.slot,λb u e n hx=>by rw[aA (ne0 e)];exact I.base.free b u e n hx,I.base.there,λb xs e=>?_,λb u v e=>?_,λb ps e=>?_⟩,I.loc,I.cell,?_,λx c e=>?_,λp hp=>?_,λb u e=>?_,I.len⟩
 ·have q:=I.base.Rf b xs e;rw[aA (ne q)];exact q
 ·have q:=I.base.Rb b u v e;rw[aA (ne q)];exact q
 ·obtain⟨m,q⟩:=I.base.Rg b ps e;exact⟨m,by rw[aA (ne q)];exact q⟩
 ·rw[aA (MQ hf.2.1)];exact I.free
 ·rw[aA (hf.2.2.2.2.1 x c e)];exact I.Q2 x c e
 ·obtain⟨e,n,r⟩:=I.pin p hp;exact⟨e,by rw[aA (hf.2.2.2.2.2 p hp)];exact n,r⟩
 ·by_cases hb:b=a
  ·subst hb;rw[aD] at e;cases e;exact new
  ·rw[aA hb] at e;exact(I.QQ b u e).Q7 (λc v _ q=>q) (λc q=>by rw[aA (ne q)];exact q) λc xs q=>by rw[aA (ne q)];exact q
def IY (K:P1)(a:Addr):It:=
 ⟨λi H=>∃xs x,bt K H a xs/\xs[i]?=some x,λi H v H'=>∃p x,H p=none/\v= .ref p/\H'=upd H p (.tup [.int i,x])/\∀xs,bt K H a xs->xs[i]?=some x,λi H=>∃xs,bt K H a xs/\xs.length<=i⟩
theorem wk {k:Nat}(a e it:Addr)(hei:e≠it):Turn P w K (.Tuple es k tp) (IY K a) [e,it] e (λi h=>(∃old,IsEnum h e it i old)/\h.IsListIter it a i) where
 mem:=by simp
 obj:=λi h st b hb=>by
  obtain⟨⟨old,he⟩,o,ho,hc,hd⟩:=st;rcases K8.mp hb with rfl | hb
  ·exact⟨_,he,λv z=>by cases z⟩
  ·have e2:b=it:=by simpa using hb
   subst e2;exact⟨o,ho,λv z=>by rw[hd] at z;cases z⟩
 keep:=λi h h' st kk=>⟨st.1.elim λold he=>⟨old,kk e (by simp) _ he⟩,st.2.at λo x=>kk it (by simp) o x⟩
 item:=by
  intro X hP hw hK hc i QN s σ H E I hf st hg;subst hP hw hK;obtain⟨⟨old,he⟩,hit⟩:=st;obtain⟨xs,x,hq,hx⟩:=hg;obtain⟨QO,r,pl,hz⟩:=I.list hq;obtain⟨u,hu,rx⟩:=r.get hx;have hn:H s.heap.objs.size=none:=I.QQ.fresh (My _);refine wpAny_pyNext_enum_item he hit pl.isList (x:=u) (by simpa using hu) hei λh' ho hit' hT hsz hk=>?_;refine⟨_,rfl,?_⟩;refine wpAny_letOwnedTupleGo_enum (s:={s with heap:=h',toks:=s.toks+1}) ho λh2 UJ Rp=>?_;have hk2:∀b o,b∉[e,it]->s.heap.get? b=some o->h2.get? b=some o:=λb o hb q=>by
   have TB:b≠e:=λz=>hb (by simp[z]);exact Rp.extBut b o TB (hk b o TB (λz=>hb (by simp[z])) q)
  have I1:Inv X QN σ H {s with heap:=h2,toks:=s.toks+1}:=ly I hk2 hf;have hel:e≠s.heap.objs.size:=MB (Pl he);have U4:h2.get? s.heap.objs.size=some {cls:=.type "tuple",data:=.seq #[.int i s.toks,u]}:=(Rp.2 _ (MQ hel)).trans hT;have I2:Inv X QN σ (upd H s.heap.objs.size (.tup [.int i,x])) {s with heap:=h2,toks:=s.toks+1}:=
   adopt I1 (I.gZ (My _) hn) (I.sz) ⟨by show 2<=Nb;decide,[.int i s.toks,u],.cons ⟨_,rfl⟩ (.cons rx .nil),⟨_,U4,rfl,_,rfl⟩⟩
  refine⟨.ref s.heap.objs.size,_,I2,rfl,⟨s.heap.objs.size,x,hn,rfl,rfl,λys hy=>?_⟩,⟨⟨u,by simpa using UJ⟩,hit'.at λo y=>(Rp.2 it (MQ hei)).trans y⟩,λb hb=>?_⟩
  ·rw[I.jP hy hq];exact hx
  ·have RJ:b<s.heap.objs.size:=by
    rcases K8.mp hb with rfl | hb
    ·exact Pl he
    ·have e2:b=it:=by simpa using hb
     subst e2;obtain⟨o,ho,_⟩:=hit;exact Pl ho
   rw[aA (MB RJ)];exact(hf b hb).1
 done:=by
  intro X hP hw hK hc i QN s σ H E I hf st hg;subst hP hw hK;obtain⟨⟨old,he⟩,hit⟩:=st;obtain⟨xs,hq,hx⟩:=hg;obtain⟨QO,r,pl,hz⟩:=I.list hq;refine wpAny_pyNext_enum_end (I.ok.hd hc) he hit pl.isList (by have:=r.length;simp;omega) λh' hk=>⟨rfl,?_⟩;exact ly (t':=s.toks) I (λb o hb q=>hk b o (λz=>hb (by simp[z])) q) hf
 self:=λ_ _ _ _ _ st h=>st.1.elim λold he=>wpAny_pyIter_enum he h
def HH (K:P1)(ta:TA):TI:=λσ H R=>ta σ H λvs H1=>∃a xs,vs=[.ref a]/\bt K H1 a xs/\R (IY K a) H1
theorem B6 {a:Expr}{ta:TA}{k:Nat}(hg:Gl X "enumerate")(hm:X.mg "enumerate"=none)(ha:PA X [a] ta)(hs:Nc [a] X.env=[(false,eval a X.env)]:=by rfl):PI X (.Tuple es k tp) (.Call (.Name "enumerate" p) [a] [] pos) (HH X.K ta):=by
 intro QN s σ H R I h;refine Call_ (fC I hg hm boot_enumerate (MY (aO (ha pos QN s σ H _ I h) λus s1 ⟨vs,H1,I1,r1,q1⟩=>?_) hs rfl));obtain⟨l,xs,e,hq,q⟩:=q1;subst e;cases r1 with
 | cons r rr=>
   cases rr
   cases r
   obtain⟨QO,r',pl,hz⟩:=I1.list hq;refine call_enumerate_list pl.isList λh' he hit hsz hk=>?_;refine wpAny_pyIter_enum he ?_;have I2:Inv X QN σ H1 {s1 with heap:=h'}:=I1.kept (t':=s1.toks) hk;have f0:H1 s1.heap.objs.size=none:=I1.QQ.fresh (My _);have f1:H1 (s1.heap.objs.size+1)=none:=I1.QQ.fresh (MH _);refine⟨s1.heap.objs.size+1,[s1.heap.objs.size+1,s1.heap.objs.size],_,_,H1,rfl,I2,wk l (s1.heap.objs.size+1) s1.heap.objs.size (ML (MI _)),⟨⟨.none,he⟩,hit⟩,λb hb=>?_,q⟩;rcases K8.mp hb with rfl | hb
   ·exact I1.gZ (MH _) f1
   ·have e2:b=s1.heap.objs.size:=by simpa using hb
    subst e2;exact I1.gZ (My _) f0
def nums (xs:List α):List (Int×α):=(xs.zipIdx).map λp=>((p.2:Int),p.1)
theorem cU (xs:List α):(nums xs).length=xs.length:=by unfold nums;rw[KY,List.length_zipIdx]
theorem lx {y:Int×α}(h:(nums xs)[i]?=some y):y.1=(i:Int)/\xs[i]?=some y.2:=by
 unfold nums at h;rw[K9,List.getElem?_zipIdx] at h;cases e:xs[i]? with
 | none=>rw[e] at h;cases h
 | some x=>rw[e] at h;cases h;exact⟨by simp,rfl⟩
theorem ij {a:Expr}{k:Nat}(hm:X.mg "enumerate"=none)(ha:EV X a Γ (af r) xs Γ1)(hs:Nc [a] X.env=[(false,eval a X.env)]:=by rfl)(hg:Gl X "enumerate":=by rfl):
 IV X (.Tuple es k tp) (.Call (.Name "enumerate" p) [a] [] pos) Γ (dh ah r) (nums xs) Γ1:=by
 refine⟨_,B6 hg hm (aU aR bD hs) hs,λσ H0 R0 H R E Rq q=>ha σ H0 R0 H R E _ λv H1 R1 E1 s1 e1=>?_⟩;obtain⟨a,vs,rfl,hp,pp,z⟩:=e1;refine⟨a,vs,rfl,bt.of (E1.sub _ _ hp),q _ H1 R1 E1 s1 (by rw[cU];exact z) λH' R' sR sH i=>⟨λy hy=>?_,λhi=>?_⟩⟩
 ·have hq:bt X.K H' a vs:=bt.of (sH _ _ (sR _ _ hp));obtain⟨e1,e2⟩:=lx hy;obtain⟨v,hv,hr⟩:=dJ pp e2;refine⟨⟨vs,v,hq,hv⟩,λv' H2 Vm=>?_⟩;obtain⟨p,x,Vu,rfl,rfl,hy⟩:=Vm;have:=hy vs hq;rw[hv] at this;cases this
  have s2:ax R' (upd R' p (.tup [.int i,v])):=ax.fresh (sH.free Vu) _;exact⟨upd R' p (.tup [.int i,v]),Ext.fresh sH Vu _,p,_,_,rfl,aD,by rw[e1];rfl,r.mono s2 (r.mono sR hr)⟩
 ·exact⟨vs,bt.of (sH _ _ (sR _ _ hp)),by rw[pp.length,← cU xs];exact hi⟩
theorem tH:dy X (.builtin "isinstance") (λxs H Q=>∃x c t b,xs=[x,.ty c]/\fm X.K H x t/\Qg X.K t (.type c)=some b/\Q (.bl b) H):=by
 intro QN s σ H xs us Q I r h;obtain⟨x,c,t,b,rfl,ty,e,q⟩:=h;obtain⟨u,u2,rfl,r1,r2⟩:=vals2 r;cases (show u2=P0 c from r2)
 exact ye I r1 ty e λtk=>⟨.bl b,H,I.tok tk,rfl,q⟩
theorem px {x:α}{c:String}{t:Value}{b:Bool}(hm:X.mg "isinstance"=none)(Vy:X.mg y=none)(hvy:Ny y=some (.type c))(he:EV X e Γ r x Γ1)(ty:∀(R H:Hp) v,ax R H->r.R X.K R v x->fm X.K H v t)(ht:∀K:P1,Qg K t (.type c)=some b:=by intro;rfl)(hs:Nc [e,.Name y p2] X.env=(false,eval e X.env)::Nc [.Name y p2] X.env:=by rfl)(hg:Gl X "isinstance":=by rfl)(VM:Gl X y:=by rfl)(hny:y≠"__name__":=by decide)(VS:Q0 y:=by decide):EV X (.Call (.Name "isinstance" p) [e,.Name y p2] [] pos) Γ bp b Γ1:=by
 intro σ H0 R0 H R E Q q;refine eS (da tH hg hm M4 (aU aR (aU (uB (v:=.ty c) VM Vy hvy rfl hny VS) bD rfl) hs) (by decide) (by decide) hs rfl) (he σ H0 R0 H R E _ λv H1 R1 E1 s1 e1=>?_);exact⟨v,c,t,b,rfl,ty R1 H1 v E1.sub e1,ht _,q _ H1 R1 E1 s1 rfl⟩
theorem ty_int {x:Int}(R H:Hp)(v:V)(_:ax R H)(h:ah.R K R v x):fm K H v (.type "int"):=by cases h;exact .int _
theorem nU:dy X (.type "range") (λxs H Q=>∃n:Int,xs=[.int n]/\∀p,H p=none->Q (.ref p) (upd H p (.Tc 0 n))):=by
 intro QN s σ H xs us Q I r h;obtain⟨n,rfl,q⟩:=h;obtain⟨u,rfl,t,rfl⟩:=vals1 r;refine call_range_1 ?_;exact⟨.ref s.heap.objs.size,_,I.laid (o:=.Tc 0 n) (λb o e=>Pj _ e) (My _) ⟨_,_,_,Pm _ rfl⟩,rfl,q _ (I.QQ.fresh (My _))⟩
theorem nP:dy X (.type "range") (λxs H Q=>∃m n:Int,xs=[.int m,.int n]/\∀p,H p=none->Q (.ref p) (upd H p (.Tc m n))):=by
 intro QN s σ H xs us Q I r h;obtain⟨m,n,rfl,q⟩:=h;obtain⟨u,u2,rfl,⟨t,rfl⟩,⟨t2,rfl⟩⟩:=vals2 r;refine call_range_2 ?_;exact⟨.ref s.heap.objs.size,_,I.laid (o:=.Tc m n) (λb o e=>Pj _ e) (My _) ⟨_,_,_,Pm _ rfl⟩,rfl,q _ (I.QQ.fresh (My _))⟩
theorem kf (hc:X.calm=true):dy X (.type "list") (λxs H Q=>∃(p:Addr)(m n:Int),xs=[.ref p]/\H p=some (.Tc m n)/\ -1000000<=m/\m<=1000000/\ -1000000<=n/\n<=1000000/\∀d,H d=none->Q (.ref d) (upd H d (.lst ((ups m (n-m).toNat).map V.int)))):=by
 intro QN s σ H xs us Q I r h;obtain⟨p,m,n,rfl,hp,m1,m2,n1,n2,q⟩:=h;obtain⟨u,rfl,rx⟩:=vals1 r;cases rx
 obtain⟨t,t2,t3,ho⟩:=I.QQ p _ hp;have hsz:Ot.Range.rangeSize m n 1=(((n-m).toNat:Nat):Int):=by rw[rangeSize_one];split<;>omega
 refine call_list_range (I.ok.hd hc) ho (small_one (by omega) (by omega) (by omega) (by omega)) hsz (by omega) λh' tk acc c' hk hS V4=>?_;have vals:Vals ((ups m (n-m).toNat).map V.int) acc.toList:=by
  have key:∀(k:Nat)(QO:Kv)(lo:Int),QO.length=k->(∀(j:Nat) v,QO[j]?=some v->∃t,v= .int (lo+(j:Int)*1) t)->Vals ((ups lo k).map V.int) QO:=by
   intro k
   induction k with
   | zero=>intro QO lo hl _;cases QO with
     | nil=>exact .nil
     | cons _ _=>cases hl
   | succ k ih=>
     intro QO lo hl hv;cases QO with
     | nil=>cases hl
     | cons v r=>
       have e:ups lo (k+1)=lo::ups (lo+1) k:=by
        unfold ups;rw[List.range_succ_eq_map,Lm,LL];congr 1
        ·simp
        ·apply Me;intro a _;simp;omega
       rw[e,Lm];obtain⟨t,e0⟩:=hv 0 v rfl;refine .cons ⟨t,by rw[e0];simp⟩ (ih r (lo+1) (by simpa using hl) λj v hj=>?_);obtain⟨t,ej⟩:=hv (j+1) v (by simpa using hj);exact⟨t,by rw[ej];congr 1;push_cast;omega⟩
  refine key _ _ m (by rw[Kz];exact V4.1) λj v hj=>V4.2 j v (by simpa using hj)
 exact⟨.ref _,_,I.laid (a:=s.heap.objs.size) (o:=.lst ((ups m (n-m).toNat).map V.int)) hk (My _) ⟨by rw[KY,bK];exact Mz (show(n-m).toNat<=2000000 by omega) (by decide),acc.toList,c',vals,by rw[hS]⟩,rfl,q _ (I.QQ.fresh (My _))⟩
end
def oh (scope:Scope)(env:Env):List (Str×Addr):=(scope.names.filterMap λp=>if p.2== .free then(env.cells.lookup p.1).map (λc=>(p.1,c)) else none).reverse
theorem mZ {env:Env}:∀(names:List (Str×N3))(acc:List (Str×Addr)),(∀y∈names,y.2= .free->∃c,env.cells.lookup y.1=some c)->
 (forIn names acc λ(x:Str×N3)(r:List (Str×Addr))=>if(x.2==N3.free)=true then do let a ← cellOf env x.1;pure (KP ((x.1,a)::r)) else pure (KP r):Sem (List (Str×Addr)))
  =pure ((names.filterMap λp=>if p.2== .free then(env.cells.lookup p.1).map (λc=>(p.1,c)) else none).reverse++acc)
 | [],acc,_=>rfl
 | (n,k)::r,acc,h=>by
   have ih:=mZ (env:=env) r;rw[Mu,Lp];cases hk:(k==N3.free) with
   | false=>
     simp only[hk,KL,if_false];rw[pure_bind];exact ih acc λy hy=>h y (K0 _ hy)
   | true=>
     obtain⟨c,hc⟩:=h (n,k) K4 (eq_of_beq hk);have RZ:cellOf env n=pure c:=by unfold cellOf;rw[hc]
     simp only[hk,if_true,hc,MU,RZ];rw[pure_bind,pure_bind];show forIn r ((n,c)::acc) _=_;rw[ih ((n,c)::acc) λy hy=>h y (K0 _ hy)];simp
theorem vz {own:Ks}(hk:scope.kind= .function)(hn:∀y∈scope.names,y.2≠ .cell)(hl:∀y∈scope.names,y.2= .local->scope.names.lookup y.1=some .local)(hc:∀x,X.env.scope.names.lookup x=some .cell->∃c,X.env.cells.lookup x=some c)(hf:∀y∈scope.names,y.2= .free->X.env.scope.names.lookup y.1=some .cell)(UH:∀x∈fr,scope.names.lookup x=some .free)(hlen:fr.length=ix.length)(RG:∀(k i:Nat)(x:Str),ix[k]?=some i->fr[k]?=some x->X.N[i]?=some x):eI X scope (oh scope X.env) own fr ix:=by
 have free:∀y∈scope.names,y.2= .free->∃c,X.env.cells.lookup y.1=some c:=λy hy e=>hc _ (hf y hy e);refine⟨?_,λx c e=>?_,hk,hn,hl,λx e=>?_,UH,hlen,λk i x e1 e2=>⟨RG k i x e1 e2,hf (x,.free) (Nq (UH x (K7 e2))) rfl⟩⟩
 ·have:=mZ (env:=X.env) scope.names [] free;rw[Lh] at this;have e:closureFor scope X.env=((forIn scope.names [] λ(x:Str×N3)(r:List (Str×Addr))=>if(x.2==N3.free)=true then do let a ← cellOf X.env x.1;pure (KP ((x.1,a)::r)) else pure (KP r):Sem (List (Str×Addr))) >>=λcs=>pure cs):=rfl;rw[e,this,pure_bind];rfl
 ·have m:=Nq e;unfold oh at m;obtain⟨p,_,hp⟩:=Mh.mp (List.mem_reverse.mp m);split at hp
  ·cases q:X.env.cells.lookup p.1 with
   | none=>rw[q] at hp;cases hp
   | some c'=>rw[q] at hp;cases hp;exact q
  ·cases hp
 ·have m:=Nq e;obtain⟨c,Ug⟩:=free _ m rfl;have m2:(x,c)∈oh scope X.env:=by
   unfold oh;refine List.mem_reverse.mpr (Mh.mpr ⟨(x,.free),m,?_⟩);simp[Ug]
  cases q:(oh scope X.env).lookup x with
  | some c'=>exact⟨c',rfl⟩
  | none=>
    rw[List.lookup_eq_none_iff] at q;exact QE (q _ m2) (by simp)
def yt (scope so:Scope)(N0 fr:Ks)(ix:List Nat):Bool:=
 decide (scope.kind= .function)&&scope.names.all (λy=>decide (y.2≠ .cell)&&(decide (y.2≠ .local) ||decide (scope.names.lookup y.1=some .local))&&(decide (y.2≠ .free) ||decide (so.names.lookup y.1=some .cell)))
  &&fr.all (λx=>decide (scope.names.lookup x=some .free))&&decide (fr.length=ix.length)&&(Lq ix.length).all λk=>match ix[k]?,fr[k]? with | some i,some x=>decide (N0[i]?=some x) | _,_=>true
theorem cx {so:Scope}{N0 own:Ks}(hso:X.env.scope=so)(hN0:X.N=N0)(hc:∀x,X.env.scope.names.lookup x=some .cell->∃c,X.env.cells.lookup x=some c)(h:yt scope so N0 fr ix=true):eI X scope (oh scope X.env) own fr ix:=by
 unfold yt at h;simp only[KD,Bool.or_eq_true,decide_eq_true_eq,LU] at h;obtain⟨⟨⟨⟨h1,h2⟩,h3⟩,h4⟩,h5⟩:=h;refine vz h1 (λy hy=>(h2 y hy).1.1) (λy hy e=>(h2 y hy).1.2.resolve_left λz=>z e) hc (λy hy e=>by rw[hso];exact(h2 y hy).2.resolve_left λz=>z e) h3 h4 λk i x e1 e2=>?_;have hk:k<ix.length:=(KW.mp e1).1;have:=h5 k (LY.mpr hk);rw[e1,e2] at this;rw[hN0];simpa using this
variable {rr:Rep β}
theorem Bz:dc X (NS .Mult) (rI OP λi j=>.int (i*j)):=ui λ_ _ _ _ _ _ _ hc q=>mul_int q hc
theorem jr {a:Expr}{x y:Int}(ha:EV X a Γ ah x Γ1)(hb:EV X b Γ1 ah y Γ2)(h:OP x y):EV X (.BinOp a .Mult b pos) Γ ah (x*y) Γ2:=ig Bz ha hb λR v u H Q e1 e2 q=>⟨x,y,e1,e2,h,q _ rfl⟩
def cz (a:Addr)(r:Rep α)(xs:List α):uK where
 fp:=[a]
 R:=λK H R v=>v= .ref a/\∃vs,H a=some (.lst vs)/\PySem.Paired (r.R K R) vs xs
 loc:=λhH hR ⟨e,vs,h,p⟩=>⟨e,vs,(hH a (KZ.mpr rfl)).trans h,Paired.map (λ_ _=>r.mono hR) p⟩
 has:=λ⟨e,vs,h,p⟩ b hb=>by rw[KZ.mp hb,h];exact MR _
theorem oJ (h:H a=some (.lst vs))(hR:R a=none)(p:PySem.Paired (r.R K R) vs xs):(Ent.ob (cz a r xs)).ok K H R (some (.ref a)):=
 ⟨⟨_,rfl,rfl,vs,h,p⟩,λb hb=>by rw[KZ.mp hb];exact hR⟩
theorem gq (h:(Ent.ob (cz a r xs)).ok K H R o):o=some (.ref a)/\(∃vs,H a=some (.lst vs)/\PySem.Paired (r.R K R) vs xs)/\R a=none:=by
 obtain⟨⟨v,rfl,rfl,q⟩,n⟩:=h;exact⟨rfl,q,n a (KZ.mpr rfl)⟩
theorem EV.box (i:Nat){xs':List α}{y:β}(h:EV X e (Γ.set i (.mu r xs)) rr y Γ1)(hΓ:Γ[i]?=some (.ob (cz a r xs)))(hΓ1:Γ1[i]?=some (.mu r xs')):EV X e Γ rr y (Γ1.set i (.ob (cz a r xs'))):=by
 intro σ H0 R0 H R E Q q;obtain⟨ea,⟨vs,ha,pp⟩,hR⟩:=gq (E.ent i _ hΓ);refine h σ H0 R0 H R (E.tell hΓ (by rw[ea];exact⟨a,vs,rfl,ha,hR,pp⟩) λb w=>by rw[cw.mp w] at ea;cases ea;exact KZ.mpr rfl) Q λv H' R' E' s' hr=>q v H' R' ?_ s' hr
 obtain⟨a',Ro,Rr,R7,RC,RV⟩:=E'.ent i _ hΓ1;rw[ea] at Rr;cases Rr
 exact E'.tell hΓ1 (by rw[ea];exact oJ R7 RC RV) λb w=>by rw[show b=a from KZ.mp w];exact cw.mpr ea
theorem eK (j:Nat){i:Int}{y:α}(hb:EV X b Γ ah i Γ)(hΓ:Γ[j]?=some (.ob (cz a r xs)))(h:cq xs i=some y)(hN:X.N[j]?=some x:=by rfl)(hv:autoParam (cI X.env.scope x) Rt)(hs:eP b:=by exact λ_ _=>rfl)(hd:Q0 x:=by decide)(QR:Rn x:=by decide):EV X (.Subscript (.Name x p1) b pos) Γ r y Γ:=by
 intro σ H0 R0 H R E Q q;obtain⟨ea,⟨vs,ha,pp⟩,hR⟩:=gq (E.ent j _ hΓ);refine eS (i5 iq (bh hN hv hd QR) aR hs) ⟨.ref a,at_of ea,hb σ H0 R0 H R E _ λu H2 R2 E2 s2 e2=>?_⟩;obtain⟨Rr,⟨Ro,R7,RV⟩,RC⟩:=gq (E2.ent j _ hΓ);obtain⟨w,e3,e4⟩:=fB RV h;exact⟨a,Ro,i,w,rfl,e2,bt.of R7,e3,q w H2 R2 E2 s2 e4⟩
theorem f7 (i:Nat){y:α}{k:Int}(he:EV X e Γ r y Γ1)(hb:EV X b Γ1 ah k Γ2)(hΓ1:Γ1[i]?=some (.ob (cz a r xs)))(hΓ2:Γ2[i]?=some (.ob (cz a r xs)))(hj:eT xs.length k=some j)(h:N (Γ2.set i (.ob (cz a r (xs.set j y)))))(hN:X.N[i]?=some x:=by rfl)(hv:autoParam (cI X.env.scope x) Rt)(hd:Q0 x:=by decide)(QR:Rn x:=by decide)(ha:∀v,N2 (.Subscript (.Name x p1) b p2) X.env v=(do
  let ov ← NQ [v] (eval (.Name x p1) X.env)
  let iv ← NQ [v,ov] (eval b X.env)
  Om p2
  NQ [v,ov,iv] (setItem ov iv v)
  release [v,ov,iv] []):=by intro _;rfl)(hs:Ou [.Subscript (.Name x p1) b p2] e pos.line X.env=pure false:=by rfl)(hw:Ov [.Subscript (.Name x p1) b p2] e X.env=pure none:=by rfl)(h1:(NV [.Subscript (.Name x p1) b p2] X.env).map (·.2)=[N2 (.Subscript (.Name x p1) b p2) X.env]:=by rfl):
 W1 X (.Assign [.Subscript (.Name x p1) b p2] e pos) Γ N T:=λσ H0 R0 H R E D dn dr=>by
 refine sS (rK aR (yh (bh hN hv hd QR) aR set_list ha) hs hw h1) (he σ H0 R0 H R E _ λv H1 R1 E1 s1 e1=>?_);obtain⟨ea,⟨vs,hp,pp⟩,hR⟩:=gq (E1.ent i _ hΓ1);refine⟨.ref a,at_of ea,hb σ H0 R0 H1 R1 E1 _ λu H2 R2 E2 s2 e2=>?_⟩;obtain⟨Rr,⟨Ro,R7,RV⟩,RC⟩:=gq (E2.ent i _ hΓ2);refine⟨a,Ro,k,j,rfl,e2,R7,by rw[RV.length];exact hj,?_⟩;exact dn σ _ R2 _ (E2.n8 (en:=.ob (cz a r (xs.set j y))) hΓ2 (KZ.mpr rfl) (by rw[Rr];exact oJ aD RC (j5 (r.mono s2 e1) j RV)) λb w=>.inl w) (s1.trans s2) h
def del (H:Hp)(a:Addr):Hp:=λb=>if b=a then none else H b
theorem rY :del H a a=none:=QG rfl
theorem kB {b:Addr}(h:b≠a):del H a b=H b:=QF h
theorem BD :ax (del H a) H:=λb o q=>by
 by_cases h:b=a
 ·subst h;rw[rY] at q;cases q
 ·rwa [kB h] at q
theorem aw.AU {H' R':Hp}(E:aw K σ H0 R0 H R Γ)(off:Off a σ Γ)(h0:H0 a=none)(x:Ext (del H a) R H' R'):aw K σ H0 R0 H' R' Γ:=by
 have ne:∀{b:Addr},H0 b≠none->b≠a:=λh e=>h (e▸h0);refine⟨⟨λb o q=>?_,E.ext.r.trans x.r,x.s,λb hb=>?_⟩,λi e q=>?_,E.nw,E.ds,E.len⟩
 ·exact x.h b o (by rw[kB (ne (by rw[q];exact MR _))];exact E.ext.h b o q)
 ·refine(x.old b ?_).trans (E.ext.old b hb);rw[kB (ne hb)];exact ax.some E.ext.h hb
 ·have h1:=E.ent i e q;have na:∀b∈e.fp (σ[i]?).join,b≠a:=λb hb z=>off i e q (z▸hb);refine h1.loc (λb hb=>?_) x.r λb hb=>?_
  ·cases e2:H b with
   | none=>exact QE e2 (Ent.gx h1 hb).1
   | some u=>exact x.h b u (by rw[kB (na b hb)];exact e2)
  ·exact(x.old b (by rw[kB (na b hb)];exact(Ent.gx h1 hb).1)).trans (Ent.gx h1 hb).2
theorem aw.nq (E:aw K σ H0 R0 H R Γ){e0:Ent}(hi:Γ[i]?=some e0)(ho:en.ok K H R (σ[i]?).join)(Ru:∀b∈en.fp (σ[i]?).join,H0 b=none/\∀(j:Nat)(e:Ent),j≠i->Γ[j]?=some e->b∉e.fp (σ[j]?).join):aw K σ H0 R0 H R (Γ.set i en):=by
 refine⟨E.ext,λj e q=>?_,λj e b q w=>?_,λj k e e' b q q' w w'=>?_,by rw[LC];exact E.len⟩
 ·rcases set_at q with⟨rfl,rfl,_⟩ | ⟨hj,q1⟩
  ·exact ho
  ·exact E.ent j e q1
 ·rcases set_at q with⟨rfl,rfl,_⟩ | ⟨hj,q1⟩
  ·exact(Ru b w).1
  ·exact E.nw j e b q1 w
 ·rcases set_at q with⟨rfl,rfl,_⟩ | ⟨hj,q1⟩
  ·rcases set_at q' with⟨rfl,rfl,_⟩ | ⟨hk,Sf⟩
   ·rfl
   ·exact QE w' ((Ru b w).2 k e' hk Sf)
  ·rcases set_at q' with⟨rfl,rfl,_⟩ | ⟨hk,Sf⟩
   ·exact QE w ((Ru b w').2 j e hj q1)
   ·exact E.ds _ _ _ _ b q1 Sf w w'
abbrev j7 (α:Type):=P1->List α->List Pk->(List α->RT)->Prop
def eE (r:Rep α)(S:j7 α)(K:P1):Sp:=λvs H Q _=>∃R a ws xs Ro ps T,vs= .ref a::Ro/\ax R H/\R a=none/\H a=some (.lst ws)/\PySem.Paired (r.R K R) ws xs/\gI K R Ro ps/\S K xs ps T/\
 ∀v H' R' S9 xs',Ext (del H a) R H' R'->H' a=some (.lst S9)->R' a=none->PySem.Paired (r.R K R') S9 xs'->T xs' (del H a) v H' R'->Q v H'
theorem yA {S:j7 α}{k:Nat}{TM:List α->RT}(i:Nat)(C:aF X.prog X.w X.K X.mg X.base x k (eE r S X.K))(hr:br k X.A)(ha:HA X es Γ ps Γ1)(hΓ:Γ[i]?=some (.mu r xs))(hΓ1:Γ1[i]?=some (.mu r xs))(hS:S X.K xs ps TM)(E:aw X.K σ H0 R0 H R Γ)(q:∀H1 v H' R' xs',aw X.K σ H0 R0 H' R' (Γ1.set i (.mu r xs'))->ax R R'->TM xs' H1 v H' R'->Q v H')(hg:Gl X x)(Rj:(x==("__debug__":Str))=false)(he:Nc (.Name y p1::es) X.env=(false,eval (.Name y p1) X.env)::Nc es X.env)(Q3:(Nk pos (Nc es X.env)).any (·.1)=false)(hN:X.N[i]?=some y)(hv:cI X.env.scope y)(hd:(y==("__debug__":Str))=false)(QR:(y==("__classdict__":Str))=false):fq X (.Call (.Name x p) (.Name y p1::es) [] pos) σ H Q:=by
 obtain⟨f,fd,pn,F,hm,hk,hb⟩:=C.ex;obtain⟨a,vs,ea,_,_,_⟩:=E.ent i _ hΓ;refine eS (og F hr hg hm hk hb .nil qh (aU (bh hN hv hd QR) jj he) Rj he Q3) ⟨.ref a,at_of ea,ha σ H0 R0 H R E _ λus H1 R1 E1 s1 p1=>?_⟩;obtain⟨a',ws,Rr,hp,hR,pp⟩:=E1.ent i _ hΓ1;rw[ea] at Rr;cases Rr
 have h0:H0 a=none:=E1.new i _ a hΓ1 rfl ea;refine⟨R1,a,ws,xs,us,ps,TM,by rw[Lh],E1.sub,hR,hp,pp,p1,hS,λv H' R' S9 xs' xx h1 h2 pq t=>q _ v H' R' xs' ?_ (s1.trans xx.r) t⟩;have apart:∀(j:Nat)(e:Ent),j≠i->Γ1[j]?=some e->a∉e.fp (σ[j]?).join:=λj e hj qj w=>hj (E1.ds j i e _ a qj hΓ1 w (cw.mpr ea));have E2:aw X.K σ H0 R0 H1 R1 (Γ1.set i .no):=E1.tell hΓ1 trivial λb w=>by cases w
 have E3:=E2.AU (a:=a) (λj e qj w=>by
  rcases set_at qj with⟨rfl,rfl,_⟩ | ⟨hj,q1⟩
  ·cases w
  ·exact apart j e hj q1 w) h0 xx
 have hl:i<Γ1.length:=(KW.mp hΓ1).1;have E4:=E3.nq (i:=i) (e0:=.no) (en:=.mu r xs') (Lb hl) (by rw[ea];exact⟨a,S9,rfl,h1,h2,pq⟩) λb w=>by
  have eb:b=a:=by rw[cw.mp w] at ea;cases ea;rfl
  subst eb;exact⟨h0,λj e hj qj=>apart j e hj (by rwa [Ll (MQ hj)] at qj)⟩
 rw[Ml] at E4;exact E4
theorem iQ (i:Nat){S:j7 α}{k:Nat}{st:List α}{z:β}(C:aF X.prog X.w X.K X.mg X.base x k (eE r S X.K))(hr:br k X.A)(ha:HA X es Γ ps Γ1)(hΓ:Γ[i]?=some (.mu r xs))(hΓ1:Γ1[i]?=some (.mu r xs))(hS:S X.K xs ps (λxs'=>bN X.K rr λw=>xs'=st/\w=z))(hg:Gl X x:=by rfl)(Rj:Q0 x:=by decide)(he:Nc (.Name y p1::es) X.env=(false,eval (.Name y p1) X.env)::Nc es X.env:=by rfl)(Q3:(Nk pos (Nc es X.env)).any (·.1)=false:=by rfl)(hN:X.N[i]?=some y:=by rfl)(hv:autoParam (cI X.env.scope y) Rt)(hd:Q0 y:=by decide)(QR:Rn y:=by decide):
 EV X (.Call (.Name x p) (.Name y p1::es) [] pos) Γ rr z (Γ1.set i (.mu r st)):=λσ H0 R0 H R E Q q=>
 yA i C hr ha hΓ hΓ1 hS E (λH1 v H' R' xs' E' s' t=>by
  obtain⟨w,e1,rfl,rfl⟩:=t;exact q v H' R' E' s' e1) hg Rj he Q3 hN hv hd QR
theorem dF (i:Nat){S:j7 α}{k:Nat}{st:List α}{z:β}(C:aF X.prog X.w X.K X.mg X.base x k (eE r S X.K))(hr:br k X.A)(ha:HA X es (Γ.set i (.mu r xs)) ps (Γ.set i (.mu r xs)))(hΓ:Γ[i]?=some (.ob (cz a r xs)))(hS:S X.K xs ps (λxs'=>bN X.K rr λw=>xs'=st/\w=z))(hg:Gl X x:=by rfl)(Rj:Q0 x:=by decide)(he:Nc (.Name y p1::es) X.env=(false,eval (.Name y p1) X.env)::Nc es X.env:=by rfl)(Q3:(Nk pos (Nc es X.env)).any (·.1)=false:=by rfl)(hN:X.N[i]?=some y:=by rfl)(hv:autoParam (cI X.env.scope y) Rt)(hd:Q0 y:=by decide)(QR:Rn y:=by decide):
 EV X (.Call (.Name x p) (.Name y p1::es) [] pos) Γ rr z (Γ.set i (.ob (cz a r st))):=by
 have hl:i<Γ.length:=(KW.mp hΓ).1;have h:=EV.box i (xs':=st) (iQ (p:=p) i C hr ha (Lb hl) (Lb hl) hS hg Rj he Q3 hN hv hd QR) hΓ (by rw[Ml];exact Lb hl);rwa [Ml,Ml] at h
def Av (K:P1)(a:Addr)(r:Rep α)(T:List α->RT):RT:=λH0 v H' R'=>∃S9 xs',H' a=some (.lst S9)/\R' a=none/\PySem.Paired (r.R K R') S9 xs'/\T xs' H0 v H' R'
theorem gT (i:Nat){y:β}{P:List α->β->Prop}(he:EV X e Γ rr y Γ1)(hΓ1:Γ1[i]?=some (.ob (cz a r xs)))(h:P xs y):W1 X (.Return (some e) pos) Γ N (Av X.K a r λxs'=>bN X.K rr (P xs')):=λσ H0 R0 H R E D dn dr=>
 sS (jh aR) (he σ H0 R0 H R E _ λv H1 R1 E1 s1 e1=>by
  obtain⟨ea,⟨vs,ha,pp⟩,hR⟩:=gq (E1.ent i _ hΓ1);exact dr v H1 R1 E1.ext ⟨vs,xs,ha,hR,pp,y,e1,h⟩)
theorem vM {ws:List V}{N:Ks}(s:ax R H)(hR:R a=none)(ha:H a=some (.lst ws))(pp:PySem.Paired (r.R K R) ws xs)(p:gI K R vs ps)(hl:ps.length+1<=N.length):
 aw K (L2.start N (.ref a::vs)) (del H a) R H R (.ob (cz a r xs)::du ps (N.length-1)):=by
 obtain⟨n0,N',rfl⟩:∃n0 N',N=n0::N':=by cases N with
  | nil=>exact QE hl (by simp)
  | cons n N'=>exact⟨n,N',rfl⟩
 have UE:ps.length<=N'.length:=by simpa using hl
 have E0:=eD (N:=N') s p UE;have es:L2.start (n0::N') (.ref a::vs)=some (.ref a)::L2.start N' vs:=by unfold L2.start;simp
 rw[es];have Q6:∀(i:Nat)(e:Ent)(o:Option V),(du ps N'.length)[i]?=some e->e.fp o=[]:=λi e o q=>by
  unfold du at q;rcases Lf.mp (K7 q) with z | z
  ·obtain⟨p,_,rfl⟩:=Lu.mp z;rfl
  ·obtain⟨_,rfl⟩:=Mi.mp z;rfl
 refine⟨⟨BD,ax.refl _,s,λ_ _=>rfl⟩,λi e q=>?_,λi e b q w=>?_,λi j e e' b q q' w w'=>?_,?_⟩
 ·cases i with
  | zero=>simp at q;subst q;exact oJ ha hR pp
  | succ i=>simp at q;simpa using E0.ent i e q
 ·cases i with
  | zero=>simp at q;subst q;rw[show b=a from KZ.mp w];exact rY
  | succ i=>simp at q;rw[Q6 i e _ q] at w;cases w
 ·cases i with
  | succ i=>simp at q;rw[Q6 i e _ q] at w;cases w
  | zero=>
    cases j with
    | zero=>rfl
    | succ j=>simp at q';rw[Q6 j e' _ q'] at w';cases w'
 ·have:=E0.len;simp[this]
theorem rC {S:j7 α}{N ps:Ks}{k:Nat}(F:cK K x qual st f fd)(Sc:aZ N ps (ak st))(hm:mg x=some (.ref f))(hb:Binds K fd ps [])(len:∀xs qs T,S K xs qs T->qs.length+1=ps.length)(Q1:∀(QP:Value)(A:Nh)(outer:List Env)(s:M9)(H:Hp)(E:XK)(a:Addr)(xs:List α)(qs:List Pk)(T:List α->RT),br k (A.deeper (MW qual (ak st) s.heap.objs.size f QP))->S K xs qs T->
  WS (aX c8 P w K mg base N qual (ak st) f QP A outer s H E).cj (bo st) (.ob (cz a r xs)::du qs (N.length-1)) (λ_=>False) (Av K a r T)):aF P w K mg base x (k+1) (eE r S K):=by
 refine⟨f,fd,ps,?_,hm,F.kp,hb⟩;refine F.ok Sc (λvs H Q E h=>?_) (λQP A outer s H vs Q E hr h=>?_)
 ·obtain⟨R,a,ws,xs,Ro,qs,T,rfl,_,_,_,_,p,hS,_⟩:=h;rw[Lg,p.length];exact len xs qs T hS
 ·obtain⟨R,a,ws,xs,Ro,qs,T,rfl,sR,hR,ha,pp,p,hS,q⟩:=h;have hl:qs.length+1<=N.length:=by
   rw[len xs qs T hS];have:=congrArg List.length Sc.pre;rw[Lc] at this;omega
  refine⟨_,ef,Q1 QP A outer s H E a xs qs T hr hS (L2.start N (.ref a::Ro)) (del H a) R H R (vM sR hR ha pp p hl) {nx:=λ_ H'=>Q .QY H',rt:=Q} (λ_ _ _ _ _ _ f=>f.elim) λv H' R' xx t=>?_⟩;obtain⟨S9,xs',h1,h2,h3,h4⟩:=t;exact q v H' R' S9 xs' xx h1 h2 h3 h4
theorem um {S:j7 α}{N ps:Ks}{k:Nat}(D:Def K mg x st ps)(Q1:∀(f:Addr)(QP:Value)(A:Nh)(outer:List Env)(s:M9)(H:Hp)(E:XK)(a:Addr)(xs:List α)(qs:List Pk)(T:List α->RT),N.Nodup->br k (A.deeper (MW x (ak st) s.heap.objs.size f QP))->S K xs qs T->
  WS (aX c8 P w K mg base N x (ak st) f QP A outer s H E).cj (bo st) (.ob (cz a r xs)::du qs (N.length-1)) (λ_=>False) (Av K a r T))(len:∀xs qs T,S K xs qs T->qs.length+1=ps.length:=by(intros;rename_i h;repeat (first | (rw[h.1];rfl) | obtain⟨_,h⟩:=h)))(Sc:aZ N ps (ak st):=by exact RQ):aF P w K mg base x (k+1) (eE r S K):=by
 obtain⟨f,fd,F,hm,hb⟩:=D;exact rC F Sc hm hb len λQP A outer s H E a xs qs T=>Q1 f QP A outer s H E a xs qs T Sc.nd
def cb (k:Nat)(y:α)(xs:List α):List α:=xs.take k++y::xs.drop k
theorem qL {k:Nat}{y:α}:(cb k y xs).length=xs.length+1:=by
 unfold cb;rw[K3,Lg,Lc,Lv];omega
theorem wB (f:α->β){k:Nat}{y:α}:(cb k y xs).map f=cb k (f y) (xs.map f):=by
 unfold cb;rw[Lj,Lm,List.map_take,List.map_drop]
def Cc:V->List V->Hp->VK->Prop:=λx vs H Q=>∃l xs i y,x= .ref l/\vs=[.int i,y]/\H l=some (.lst xs)/\0<=i/\i<=(xs.length:Int)/\xs.length<Nb/\Q .QY (upd H l (.lst (cb i.toNat y xs)))
theorem yc:Au X "list.insert" Cc:=by
 intro QN s σ H x vs v us Q I rx rv h;obtain⟨l,xs,i,y,rfl,rfl,hH,h0,h1,hz,q⟩:=h;cases rx
 obtain⟨u1,u2,rfl,⟨t,rfl⟩,r2⟩:=vals2 rv;obtain⟨z,QO,n,r,hl,e⟩:=I.jc hH;have hfit:Ot.List.listFitsIndex i=true:=fitsIndex_both (by omega) (by
  have:Nb<2 ^ 63:=by decide
  omega)
 refine NX PySem.F.slot_list_insert ⟨_,e,rfl⟩ PySem.F.entry_list_insert (PySem.F.args_list_insert_3 _ _ _) (PySem.AutoSeq1.list_insert_list_int_val_1 l _ n i t u2 (by simp[hfit]) (by rw[K6];omega)) ⟨e,?_⟩;refine⟨.QY,_,I.vX (its':=cb i.toNat u2 QO) hH e ?_ ?_ ?_,rfl,q⟩
 ·have hk:(if i<0 then(i+((QO.toArray.size:Nat):Int)).toNat else min i.toNat QO.toArray.size)=i.toNat:=by
   rw[QF (by omega),K6];omega
  dsimp only;rw[hk];unfold cb;apply Array.ext';simp;exact Ma (by rw[Lv];exact My _)
 ·unfold cb;exact(r.take _).append (.cons r2 (r.drop _))
 ·rw[qL];omega
def nW:Rep Addr:=⟨λ_ _ v a=>v= .ref a,λ_ h=>h⟩
def qg:Ent->Ent
 | .im r x=>.im r x
 | _=>.no
theorem aw.RO {K:P1}{σ:St}{H0 R0 H R:Hp}(E:aw K σ H0 R0 H R Γ):aw K σ H H H H (Γ.map qg):=by
 have Q6:∀(i:Nat)(e:Ent)(o:Option V),(Γ.map qg)[i]?=some e->e.fp o=[]:=λi e o q=>by
  rw[K9] at q;cases h:Γ[i]? with
  | none=>rw[h] at q;cases q
  | some e'=>rw[h] at q;cases q;cases e'<;>rfl
 refine⟨Ext.refl (ax.refl _),λi e q=>?_,λi e a q w=>QE w (by rw[Q6 i e _ q];exact Le),λi j e e' a q _ w=>QE w (by rw[Q6 i e _ q];exact Le),by rw[KY];exact E.len⟩;rw[K9] at q;cases h:Γ[i]? with
 | none=>rw[h] at q;cases q
 | some e'=>
   rw[h] at q;cases q
   have:=E.ent i e' h;cases e' with
   | im r x=>obtain⟨v,e,hr⟩:=this;exact⟨v,e,r.mono E.sub hr⟩
   | no=>trivial
   | mu r x=>trivial
   | di x=>trivial
   | ob x=>trivial
theorem Fq {N ps:Ks}{k:Nat}(F:cK K x qual st f fd)(Sc:aZ N ps (ak st))(len:∀qs T,S K qs T->qs.length=ps.length)(Q1:∀(QP:Value)(A:Nh)(outer:List Env)(s:M9)(H:Hp)(E:XK)(qs:List Pk)(T:RT),br k (A.deeper (MW qual (ak st) s.heap.objs.size f QP))->S K qs T->
  WS (aX c8 P w K mg base N qual (ak st) f QP A outer s H E).cj (bo st) (du qs N.length) (λ_=>False) T):cy P w K mg base c8 (k+1) f fd ps (aM S K):=by
 refine F.ok Sc (λvs H Q E h=>?_) (λQP A outer s H vs Q E hr h=>?_)
 ·obtain⟨R,qs,T,_,p,hS,_⟩:=h;rw[p.length];exact len qs T hS
 ·obtain⟨R,qs,T,sR,p,hS,q⟩:=h;have hl:qs.length<=N.length:=by
   rw[len qs T hS];have:=congrArg List.length Sc.pre;rw[Lc] at this;omega
  exact⟨_,ef,Q1 QP A outer s H E qs T hr hS (L2.start N vs) H R H R (eD sR p hl) {nx:=λ_ H'=>Q .QY H',rt:=Q} (λ_ _ _ _ _ _ f=>f.elim) λv H' R' xx t=>q v H' R' xx t⟩
theorem FR {h:Heap}{ps:Ks}{oc:Value}{od an:Option Addr}{RM:Array Kt}{kV doc pm QP ct:Value}(KX:K.In h)(G:h.Ns Ng mg)(a:P2 K Ng x=some (some (.ref f)))(l:K.lookup f=some ⟨oc,od,.func (Qb x x (c9 st) (bo st) (ak st) .none kV doc pm an QP ct),RM⟩)(c:Qh K QP x=true)(k:P8 K (.ref f)=true)(b:∀(kV doc pm:Value)(an:Option Addr)(QP ct:Value)(us:Kv),us.length=ps.length->OQ (Qb x x (c9 st) (bo st) (ak st) .none kV doc pm an QP ct) ⟨us,[]⟩=pure (ps.zip us)):Def K mg x st ps:=
 ⟨f,_,fY l c k,P9 KX G a,(fY l c k).binds b⟩
open PySem.Builtin.Int (intBits)
theorem tK (h:PySem.W.WData.layableAll [.list (ns.map .int)]=true):∀n∈ns,intBits n<=2 ^ 20:=λn hn=>by
 have h1:=PySem.W.layableW_arg h _ (KZ.mpr rfl);have h2:=PySem.W.layableW_item h1 (.int n) (Lu.mpr ⟨n,hn,rfl⟩);exact PySem.PyData.bits_of_layable h2
end Fc
namespace Att
open PySem PySem.W PySem.Calls PyProof.Rows
open PySem.Builtin.Int (intBits)
theorem sZ {l:OpenLaw}{n:Nat}{q:Nf}{loose:Ks}{XP:(Kp)->Heap->Prop}{YP:World->Heap->Prop}{d:DefRec}(hn:l.most=some n)(VW:d.params.defaults=[])(call:∀(w:World)(s₀ s₁:M9)(mg mb:Kp)(fa:Addr)(o:Obj)(pm cd doc:Value)(a:Addr)(vs:Kv)(ns:Kr),
  Ground q loose [] XP w s₀ mg mb s₁.heap->YP w s₁.heap->
  s₁.heap.get? fa=some o->o.data= .func (docDef d.name d.params d.body d.scope pm cd doc)->s₁.heap.CodeRec cd d.name->mg d.name=some (.ref fa)->
  s₁.heap.get? a=some {cls:=.type "list",data:=.seq vs.toArray}->M7 vs ns->ns.length<=n->(∀m∈ns,intBits m<=2 ^ 20)->s₁.gens= #[]->
  Oo (model l.prog w) OA (.call (.ref fa) ⟨[.ref a],[]⟩) (λr s'=>r= .ok (.ret (.bool true))/\OldK s₁.heap s'.heap/\s'.os=s₁.os/\M0 s'.gens) s₁):
 WalkO q loose XP YP l.row.toRowW d [] (λf vs=>PySem.call f vs):=by
 intro w s₀ s₁ mg mb G Y fa o pm cd doc dV kV ho hd QR hD VA hg args vals as TU hlay Ss hwl hlo;obtain rfl:dV= .none:=Dflts.none hD VW;obtain rfl:kV= .none:=Dflts.noKw hD;obtain⟨a,vs,ns,rfl,rfl,Tg,hints,hlen⟩:=xF hn TU hwl;refine enter_call (N7 (call w s₀ s₁ mg mb fa o pm cd doc a vs ns G Y ho (fd_plain hd) QR VA Tg hints hlen (Fc.tK hlay) hg) λr s' hq=>?_);obtain⟨rfl,h2,h3,h4⟩:=hq;exact⟨.inl ⟨.bool true,.bool true,[],rfl,λ_=>rfl,.bool true,yq l _,λ_=>⟨List.Pairwise.nil,λ_ hm=>(nomatch hm)⟩⟩,h2,h3,h4⟩
end Att
namespace L2
open PySem PySem.Spec PyProof.Rows
open PySem.Builtin.Int (intBits)
theorem yM {l:Qw}{n k:Nat}{q:Nf}{loose:Ks}{XP:(Kp)->Heap->Prop}{YP:World->Heap->Prop}{d:DefRec}{K:Params->P1}{CX:World->i6}{sp:World->Sp}{x:Str}(hn:l.most=some n)(hn2:n<=Nb)(VW:d.params.defaults=[])(hr:br k OA)(hY:∀(w:World)(h:Heap),YP w h->(K w.params).In h)(F:∀(w:World)(mg:Kp)(fa:Addr)(h:Heap),(K w.params).In h->h.Ns Ng mg->mg d.name=some (.ref fa)->
  ∃fd:Nm,(∀(s:M9)(u:Value),ON s fd ⟨[u],[]⟩ [(x,u)])/\
   ∀base:Heap,(K w.params).In base->base.Ns Ng mg->cy l.prog w (K w.params) mg base (CX w) k fa fd [x] (sp w))(Sh:∀(w:World)(H:Hp)(a:Addr)(ns:Kr),ns.length<=n->(∀m∈ns,intBits m<=2 ^ 20)->yE H->bt (K w.params) H a (ns.map V.int)->sp w [.ref a] H (λv _=>v= .bl true) λ_ _ _=>False)(hCX:∀(w:World)(H:Hp)(s:M9)(e:Value)(s':M9),CX w [] H s (λ_ _ _=>False) e s'->False):
 PySem.W.WalkO q loose XP YP l.row.toRowW d [] (λf vs=>PySem.call f vs):=by
 refine Att.sZ hn VW λw s₀ s₁ mg mb fa o pm cd doc a vs ns G Y ho hd QR VA Tg hints hlen Sl hg=>?_;have KX:=hY w _ Y;obtain⟨fd,hb,hF⟩:=F w mg fa _ KX G.T.g VA;exact yT KX G.T.g G.T.b G.T.builtins G.T.nolimit hg Tg hints (Mz hlen hn2) hr hF hb (λH hO hS=>Sh w H a ns hlen Sl hO hS) λH e s'=>hCX w H s₁ e s'
end L2
namespace Fc
open PySem PySem.Spec PySem.W PySem.Calls L2
open PyProof.Rows hiding St
variable {H H':Hp}{h':Heap}{P:Nf}{w:World}{a:Addr}
section
variable {h:Heap}
structure uU (h0 h:Heap)(H:Hp)(e T:Addr)(cls:Value):Prop where
 ex:∃oe vs oT ts a0,h.get? e=some oe/\(oe.cls=cls/\vs[0]?=some a0)/\oe.data= .fields vs/\vs[1]?=some (.ref T)/\T≠e/\h.get? T=some oT/\oT.data= .fields ts/\ts[3]?=some .none
 ne:h0.get? e=none
 nT:h0.get? T=none
 fe:H e=none
 fT:H T=none
theorem jv {h b0 h0:Heap}{fs:Ku}:∀{l:List Env},h.FunFrames b0 l->(∀b∈bG l,b∈fs)->h.FunFrames (Qa h0 fs) l
 | [],_,_=>trivial
 | env::rest,hl,hs=>by
   obtain⟨hk,⟨L,o,hf,hn,ho,hd⟩,hr⟩:=hl;refine⟨hk,⟨L,o,hf,Qd fs (hs L ?_),ho,hd⟩,jv hr λb hb=>hs b ?_⟩
   ·show L∈(env::rest).filterMap (·.frame);rw[Lp,hf];exact K4
   ·show b∈(env::rest).filterMap (·.frame);rw[Lp,hf];exact K0 _ hb
theorem Un.shrink {fs fs' ex:Ku}(u:Un fs ex H H' h h')(hs:∀b o,h.get? b=some o->b∈fs->b∈fs'):Un fs' ex H H' h h':=
 ⟨λb o q n hb he=>u.keep b o q n (λz=>hb (hs b o q z)) he,λb o q n _ he=>u.any q n he,u.free,u.there,u.Rf,u.Rb,u.Rg⟩
theorem bQ.there {o:HO}(x:bQ P w H h a o):∃ob,h.get? a=some ob:=by
 cases o with
 | lst xs=>obtain⟨_,_,_,_,e⟩:=x;exact⟨_,e⟩
 | tup xs=>obtain⟨_,_,_,p⟩:=x;obtain⟨o,e,_⟩:=p;exact⟨o,e⟩
 | dK kvs=>obtain⟨_,_,_,_,o,_,_,e,_⟩:=x;exact⟨_,e⟩
 | dT kvs=>obtain⟨_,_,_,_,o,_,_,e,_⟩:=x;exact⟨_,e⟩
 | set S n=>obtain⟨o,_,_,_,e,_⟩:=x;exact⟨_,e⟩
 | ins C dx fs=>obtain⟨_,_,_,e,_⟩:=x;exact⟨_,e⟩
 | own y=>obtain⟨_,e⟩:=x;exact⟨_,e⟩
 | xd fs=>obtain⟨_,⟨_,_,_,e,_⟩,_⟩:=x;exact⟨_,e⟩
 | Tc lo hi=>obtain⟨_,_,_,e⟩:=x;exact⟨_,e⟩
 | RO ob u=>obtain⟨e,_⟩:=x;exact⟨_,e⟩
 | T4 ps=>exact⟨_,show h.get? a=some _ from x⟩
 | met f y=>exact⟨_,show h.get? a=some _ from x⟩
 | ext φ=>obtain⟨_,⟨_,e⟩,_⟩:=x;exact⟨_,e⟩
theorem bW.none_of (x:bW P w H h)(e:h.get? a=none):H a=none:=by
 cases q:H a with
 | none=>rfl
 | some u=>
   obtain⟨ob,r⟩:=bQ.there (x a u q);rw[e] at r;cases r
theorem dR {fs:Ku}(u:Un fs [] H H' h h'){b:Addr}(e:h'.get? b=none):h.get? b=none:=by
 cases q:h.get? b with
 | none=>rfl
 | some o=>
   obtain⟨o',r⟩:=u.there b o q Le;rw[e] at r;cases r
abbrev hU:Kv:=[.type "ValueError",.type "Exception",.type "BaseException",.type "object"]
end
variable {X:Cx}{rest:List Stmt}{pos:Pos}
section
variable {Γ Γ1:Ga}
def RS (X:Cx)(H0 R0:Hp)(RK:List Stmt)(Γ:Ga):Prop:=∀(σ:St)(H R:Hp),aw X.K σ H0 R0 H R Γ->∀D:Ends,fF X RK D σ H
theorem l9.cj {st:Stmt}{D:Ends}{σ:St}{H:Hp}(h:l9 X.cj st D σ H):l9 X st D σ H:=λQN s I=>
 Nj (h QN s (I.ft _)) (λ_ _ q=>q.dz) λ_ _ z=>KO z
theorem jO.cj {e:Expr}{Q:Bool->Hp->Prop}{σ:St}{H:Hp}(h:jO X.cj e σ H Q):jO X e σ H Q:=λQN s I=>
 Nj (h QN s (I.ft _)) (λ_ _ ⟨H',I',q⟩=>⟨H',I'.dz,q⟩) λ_ _ z=>KO z
theorem eO {H0 R0:Hp}{st:Stmt}{N1:Ga->Prop}(h1:W1 X.cj st Γ N1 (λ_ _ _ _=>False))(h2:∀Γ',N1 Γ'->RS X H0 R0 rest Γ'):RS X H0 R0 (st::rest) Γ:=λσ H R E D=>by
 refine λQN s I=>Nu (aO (l9.cj (h1 σ H0 R0 H R E {nx:=λσ' H'=>fF X rest D σ' H',rt:=λ_ _=>False,bk:=λ_ _=>False,ct:=λ_ _=>False} (λσ' H' R' Γ' E' _ n=>h2 Γ' n σ' H' R' E' D) λ_ _ _ _ z=>z) QN s I) λf s1 q=>?_);cases f with
 | next=>
   obtain⟨σ',H',I',q⟩:=q;exact q QN s1 I'
 | brk=>obtain⟨_,_,_,q⟩:=q;exact q.elim
 | cont=>obtain⟨_,_,_,q⟩:=q;exact q.elim
 | ret u=>obtain⟨_,_,_,_,_,q⟩:=q;exact q.elim
theorem qm {H0 R0:Hp}{c:Expr}{a b:List Stmt}(hc:TV X.cj c Γ true Γ1)(h:RS X H0 R0 a Γ1):RS X H0 R0 (.If c a b pos::rest) Γ:=λσ H R E D=>by
 refine λQN s I=>Nu ?_;have:=jO.cj (hc σ H0 R0 H R E (λb H'=>b=true/\∀D,fF X a D σ H') λH' R' E' _=>⟨rfl,λD=>h σ H' R' E' D⟩) QN s I;refine PySem.wpAny_If (aO this λb s1 ⟨H',I',hb,q⟩=>?_);subst hb;rw[QG rfl];refine aO (q {nx:=λ_ _=>False,rt:=λ_ _=>False} QN s1 I') λf s2 z=>?_;cases f with
 | next=>obtain⟨_,_,_,z⟩:=z;exact z.elim
 | brk=>obtain⟨_,_,_,z⟩:=z;exact z.elim
 | cont=>obtain⟨_,_,_,z⟩:=z;exact z.elim
 | ret u=>obtain⟨_,_,_,_,_,z⟩:=z;exact z.elim
end
section
variable {K:P1}{mg:Kp}{base:Heap}
end
abbrev kJ (X:Cx)(e:Addr)(o:Obj):Cx:={X with pn:=(e,o)::X.pn}
theorem Ok.pin (ok:X.Ok)(e:Addr)(o:Obj):(kJ X e o).Ok:=
 ⟨ok.mod,ok.kind,ok.glob,ok.blt,ok.above,ok.inj,ok.has,ok.T3,ok.hd,ok.frames,ok.T5,ok.Uh,ok.bs,ok.S4,ok.R9,ok.RU,ok.Rv,ok.Tn⟩
variable {e:Addr}{o:Obj}
theorem Ok.Ia (ok:(kJ X e o).Ok):X.Ok:=
 ⟨ok.mod,ok.kind,ok.glob,ok.blt,ok.above,ok.inj,ok.has,ok.T3,ok.hd,ok.frames,ok.T5,ok.Uh,ok.bs,ok.S4,ok.R9,ok.RU,ok.Rv,ok.Tn⟩
section
variable {QN:Kq}{σ:St}{s:M9}
theorem Inv.pinned (I:Inv X QN σ H s)(h:s.heap.get? e=some o/\H e=none/\e≠X.env.locals/\e∉X.fs/\∀v,o.data≠ .cell v):Inv (kJ X e o) QN σ H s:=
 ⟨Ok.pin I.ok e o,I.os,I.bare,I.base,I.loc,I.cell,I.free,I.Q2,λp hp=>by
  rcases K8.mp hp with rfl | hp
  ·exact h
  ·exact I.pin p hp,I.QQ,I.len⟩
theorem Inv.iI (I:Inv (kJ X e o) QN σ H s):Inv X QN σ H s:=
 ⟨Ok.Ia I.ok,I.os,I.bare,I.base,I.loc,I.cell,I.free,I.Q2,λp hp=>I.pin p (K0 _ hp),I.QQ,I.len⟩
abbrev markX (X:Cx)(v:Value):Cx:={X with A:=X.A.mark (some v),calm:=false,xe:=λ_ _=>False}
theorem Inv.marked (I:Inv X QN σ H s)(v:Value):Inv (markX X v) QN σ H s:=
 ⟨⟨I.ok.mod,I.ok.kind,I.ok.glob,I.ok.blt,I.ok.above,I.ok.inj,I.ok.has,I.ok.T3,(λz=>by cases z),I.ok.frames,I.ok.T5,I.ok.Uh,I.ok.bs,I.ok.S4,I.ok.R9,I.ok.RU,I.ok.Rv,I.ok.Tn⟩,
   I.os,I.bare,I.base,I.loc,I.cell,I.free,I.Q2,I.pin,I.QQ,I.len⟩
theorem Inv.unmarked {v:Value}(c:X.calm=true->X.A.handled=none)(I:Inv (markX X v) QN σ H s):Inv X QN σ H s:=
 ⟨⟨I.ok.mod,I.ok.kind,I.ok.glob,I.ok.blt,I.ok.above,I.ok.inj,I.ok.has,I.ok.T3,c,I.ok.frames,I.ok.T5,I.ok.Uh,I.ok.bs,I.ok.S4,I.ok.R9,I.ok.RU,I.ok.Rv,I.ok.Tn⟩,
   I.os,I.bare,I.base,I.loc,I.cell,I.free,I.Q2,I.pin,I.QQ,I.len⟩
theorem wU {M:Model}{A:Nh}{E:Value->M9->Prop}{i:Nat}{x:Str}{Q:Unit->M9->Prop}(I:Inv X QN σ H s)(hN:X.N.Nodup)(hi:X.N[i]?=some x)(hk:X.env.scope.names.lookup x=some .local)(h:∀s',Inv X QN (σ.set i none) H s'->Q () s'):wpAny M A (do bindName X.env x .none;unbindBehindTheSuite X.env x pos) Q E s:=by
 obtain⟨m,hn,hl⟩:=id I.loc;have UL:(X.env.scope.kind== .class ||(X.env.scope.kind== .module&&X.env.locals != X.env.globals))=false:=by rw[I.ok.kind];rfl
 have To:=I.To;refine wpAny_nameGoes_keeps hk hn UL λh' v UU hs=>?_;obtain⟨oL,_,_,hoL,_⟩:=id hn;have tracked:bW X.prog X.w H h':=λb ob e=>by
  refine(I.QQ b ob e).Q7 (λc w' hc q=>(hs.2 c ?_).trans q) (λ_ q=>q) λ_ _ q=>q;rintro rfl;rcases hc with rfl | hc
  ·rw[I.free] at e;cases e
  ·rw[I.free] at hc;cases hc
 refine h _ ⟨I.ok,I.os,I.bare,⟨λb o e n hb hx=>?_,λb o e n hb hx=>?_,I.base.free,λb o e hx=>?_,I.base.Rf,I.base.Rb,I.base.Rg⟩,⟨_,UU,λj y v' e1 e2 e3=>?_⟩,λy c e=>?_,I.free,I.Q2,λp hp=>?_,tracked,by simpa using I.len⟩
 ·exact(hs.2 b (MB (MA (Pl e) I.ok.above))).trans (I.base.keep b o e n hb hx)
 ·obtain⟨sl,e1⟩:=I.base.slot b o e n hb hx;exact⟨sl,(hs.2 b (MB (MA (Pl e) I.ok.above))).trans e1⟩
 ·obtain⟨o',e1⟩:=I.base.there b o e hx;exact⟨o',(hs.2 b (MB (MA (Pl e) I.ok.above))).trans e1⟩
 ·by_cases hj:j=i
  ·subst hj;rw[List.getElem?_set] at e2;split at e2
   ·split at e2<;>cases e2
   ·rename_i z;exact QE rfl z
  ·rw[Ll (MQ hj)] at e2;obtain⟨u',r',q⟩:=hl j y v' e1 e2 e3;refine⟨u',r',?_⟩;rcases q with⟨k,e⟩ | ⟨k,c,e,z⟩
   ·refine .inl ⟨k,?_⟩;have:y≠x:=λe=>hj (mf hN e1 (e▸hi));simp[this,e]
   ·exact .inr ⟨k,c,e,z.sameBut hs (To y c e)⟩
 ·obtain⟨w',z⟩:=I.cell y c e;exact⟨w',z.sameBut hs (To y c e)⟩
 ·obtain⟨e,n,ne,nf,d⟩:=I.pin p hp;exact⟨(hs.2 p.1 ne).trans e,n,ne,nf,d⟩
end
theorem kF.cj {X:Cx}{es:Kw}{Q:List V->Hp->Prop}{σ:St}{H:Hp}(h:kF X.cj es σ H Q)(E:Value->M9->Prop):∀(pos:Pos)(QN:Kq)(s:M9),Inv X QN σ H s->wpAny (model X.prog X.w) X.A (spliced (Nk pos (Nc es X.env))) (AP X QN σ Q) E s:=λpos QN s I=>
 Nj (h pos QN s (I.ft _)) (λ_ _ ⟨vs,H',I',r,q⟩=>⟨vs,H',I'.dz,r,q⟩) λ_ _ z=>KO z
theorem sk {fs:Ku}{H1:Hp}{h1 h2:Heap}{T:Addr}{cls:Value}(u:Un fs [] H1 H' h1 h')(QQ:bW P w H' h')(Rz:uU h1 h' H' e T cls)(hf:∀b∈fs,H' b=none)(st:(Qa h' (e::T::fs)).StaysIn h2)(up:∀b o,h'.get? b=some o->b∈fs->∃sl,h2.get? b=some {o with slots:=sl}):Un fs [] H1 H' h1 h2/\bW P w H' h2:=by
 have keep:∀b o,h'.get? b=some o->b∉fs->b≠e->b≠T->h2.get? b=some o:=λb o q hb n1 n2=>st b o (Qj _ q λz=>by
  rcases K8.mp z with z | z
  ·exact n1 z
  ·rcases K8.mp z with z | z
   ·exact n2 z
   ·exact hb z)
 have n1:∀b o,h1.get? b=some o->b≠e:=λb o q z=>by rw[z,Rz.ne] at q;cases q
 have n2:∀b o,h1.get? b=some o->b≠T:=λb o q z=>by rw[z,Rz.nT] at q;cases q
 refine⟨⟨λb o q n hb hx=>keep b o (u.keep b o q n hb hx) hb (n1 b o q) (n2 b o q),λb o q n hb hx=>?_,u.free,λb o q hx=>?_,u.Rf,u.Rb,u.Rg⟩,λb x q=>?_⟩
 ·obtain⟨sl,r⟩:=u.slot b o q n hb hx;obtain⟨Tq,r'⟩:=up b _ r hb;exact⟨Tq,r'⟩
 ·obtain⟨o',r⟩:=u.there b o q hx;by_cases hb:b∈fs
  ·obtain⟨Tq,r'⟩:=up b _ r hb;exact⟨_,r'⟩
  ·exact⟨_,keep b o' r hb (n1 b o q) (n2 b o q)⟩
 ·refine(QQ b x q).Q7 (λc v hc r=>?_) (λ_ r=>r) λ_ _ r=>r;have S3:H' c≠none:=by
   rcases hc with rfl | hc
   ·rw[q];exact MR _
   ·rw[hc];exact MR _
  exact keep c v r (λz=>S3 (hf c z)) (λz=>S3 (z▸Rz.fe)) λz=>S3 (z▸Rz.fT)
theorem iJ {h h' b0 h0:Heap}{fs:Ku}:∀{l:List Env},h.FunFrames b0 l->(∀b∈bG l,∀o,h.get? b=some o->∃sl,h'.get? b=some {o with slots:=sl})->(∀b∈bG l,b∈fs)->h'.FunFrames (Qa h0 fs) l
 | [],_,_,_=>trivial
 | env::rest,hl,S8,hs=>by
   obtain⟨hk,⟨L,o,hf,hn,ho,hd⟩,hr⟩:=hl;have hL:L∈bG (env::rest):=by
    show L∈(env::rest).filterMap (·.frame);rw[Lp,hf];exact K4
   have hT:∀b∈bG rest,b∈bG (env::rest):=λb hb=>by
    show b∈(env::rest).filterMap (·.frame);rw[Lp,hf];exact K0 _ hb
   obtain⟨sl,e⟩:=S8 L hL o ho;exact⟨hk,⟨L,_,hf,Qd fs (hs L hL),e,hd⟩,iJ hr (λb hb=>S8 b (hT b hb)) λb hb=>hs b (hT b hb)⟩
end Fc
namespace Fc
open PySem PySem.Spec PySem.W PySem.Calls L2
open PyProof.Rows hiding St
open PySem PySem.Spec PySem.W PySem.Calls PySem.Builtin.ObjectAttr PySem.Builtin.Getset_descriptor L2
def mW (x D:Addr)(h:Heap):Prop:=∃ox,h.get? x=some ox/\ox.cls= .ref D
theorem mW.ty {M:Model}{h:Heap}{x D:Addr}(p:mW x D h):Looks M h (typeOf (.ref x)) (.ref D):=by
 obtain⟨ox,h1,h2⟩:=p;exact h2▸(Looks.ld h1).andThen .now
def c5 (K:Frag)(D:Addr):Bool:=(Qy K (.ref D) "__getattribute__"==some (some (.builtin "BaseException.__getattribute__")))&&(Qy K (.ref D) "__getattr__"==some none)&&(Qy K (.ref D) "__class__"==some (some (.builtin "object.__class__")))&&(specialIn K (.builtin "object.__class__") "__get__"==some (some (.builtin "getset_descriptor.__get__")))
 &&(takesIn K (.builtin "object.__class__")==some true)&&(mroIn K D (.type "object")==some true)&&(subIn K (.ref D) (.type "BaseException")==some true)&&(clsIn K D).isSome
section
variable {K:Frag}{D x:Addr}{prog:Nf}{w:World}{A:Nh}{E:Value->M9->Prop}{s:M9}
theorem yz {Q:Kt->M9->Prop}(e:c5 K D=true)(X:K.In s.heap)(p:mW x D s.heap)(h:Q (some (.ref D)) {s with toks:=s.toks+1}):wpAny (model prog w) A (getAttr? (.ref x) "__class__") Q E s:=by
 unfold c5 at e;simp only[KD,beq_iff_eq] at e;obtain⟨⟨⟨⟨⟨⟨⟨hga,hgk⟩,ha⟩,hn⟩,Vq⟩,hm⟩,RL⟩,hc⟩:=e;obtain⟨hh,g,d,t,os⟩:=s;have X:K.In hh:=X;have p:mW x D hh:=p;have L0:=p.ty (M:=model prog w);have L1:=Qo (M:=model prog w) X hga;have L2:=Qo (M:=model prog w) X hgk;have LB:Looks (model prog w) hh (isSubtype (.ref D) (.type "BaseException")) true:=looks_subIn X RL;have F1:Looks (model prog w) hh (find (.ref x) (.ref D) "__class__") (.bind (.builtin "getset_descriptor.__get__") (.builtin "object.__class__")):=by
  refine(Qo X ha).andThen ((show Looks _ hh (getOf (some (.builtin "object.__class__"))) (some (.builtin "getset_descriptor.__get__")) from looks_specialIn X hn).andThen ?_);exact(show Looks _ hh (dataDescriptor? (some (.builtin "object.__class__")) (some (.builtin "getset_descriptor.__get__"))) (some (.builtin "getset_descriptor.__get__",.builtin "object.__class__")) from(looks_takesIn X Vq).andThen .now).andThen (Looks.tag .now)
 have M1:=looks_mroIn (M:=model prog w) X hm;have Vn:(PN "BaseException.__getattribute__"==PN "object.__getattribute__")=false:=by decide +kernel
 have Ts:(onTheHeap (PM D)&&PN "BaseException.__getattribute__"==PN "object.__getattribute__")=false:=by rw[Vn];rfl
 unfold getAttr? getAttrBy? getAttrBy;refine Na (wpAny_mkText (Na (Oe (Nv (Na (L0.at (Na (L1.at ?_))))))));dsimp only;rw[Ts];simp only[KL,if_false];unfold getAttrByItsOwn hookBefore;have f3:=Pc.ga.bind (.ref x);refine Na (L2.at ?_);refine Na (Oe (Nv ?_));show wpAny _ _ (Oq _ _ _) _ _ _;unfold Oq;refine Na (wpAny_of_eq f3 ?_);have hkd:builtinKind "BaseException.__getattribute__"=some .slot:=by decide +kernel
 have SE:splitId "BaseException.__getattribute__"=some ("BaseException","__getattribute__"):=by decide +kernel
 have V2:=PySem.F.args_bexc_ga (.ref x) (.str "__class__" t);refine N9 (N4 Pc.ga.plain PySem.F.entry_bexc_ga ?_);show wpAny _ _ (Of "BaseException.__getattribute__" ⟨[.ref x,.str "__class__" t],[]⟩) _ _ _;simp only[Of,hkd,SE];refine Na ?_;unfold Oz
 repeat lk
 refine wpAny_run ?_;refine N4 KF.slot_gs.plain KF.entry_gs (KF.slot_gs.check _ _ _ _ _ _ _ _ KF.type_class (KF.args_gs _ _ _) ?_);unfold Ot.«getset_descriptor.__get__» descrGet;rw[dga_obj];refine Na (Nd ?_);unfold descrGetter descrCheckInstance descrNameAndClass Oz;simp only[KF.owner_class]
 repeat lk
 refine⟨O8 _ (by decide +kernel),codeAny_builtin KF.entry_class ?_⟩;unfold Ot.«object.__class__» shownTypeOf
 repeat lk
 exact h
theorem y4 (e:c5 K D=true):KitX K (.ref x) (.ref D) (mW x D) where
 ty:=λ_ _ _ p=>p.ty
 it:=λ_ _ X _=>by
  unfold c5 at e;rw[KD] at e;have hc:=e.2;unfold clsIn at hc;split at hc
  ·rename_i c' d' cd' Tq ho;intro A' Q' E' s' k q;unfold isType loadHead;exact Na (OM (k _ _ (X _ _ ho)) (Nd q))
  ·cases hc
 ne:=λh tp dd QO n sl X htp=>by
  unfold c5 at e;rw[KD] at e;have hc:=e.2;refine Bool.eq_false_iff.mpr λq=>?_;have z:D=tp:=PM.inj (beq_iff_eq.mp q);subst z;unfold clsIn at hc;split at hc
  ·rename_i c' d' cd' Tq ho;have z:=(X _ _ ho).symm.trans htp;cases z
  ·cases hc
 ca:=λX p k=>yz e X p k
end
section
variable {X:Cx}{Γ Γ1:Ga}{ea D:Addr}{oe:Obj}
end
end Fc
namespace Fc
open PySem PySem.Spec PySem.W PySem.Calls L2
open PyProof.Rows hiding St
variable {X:Cx}{Γ Γ1:Ga}{e:Expr}{pos:Pos}{rest:List Stmt}{x:Str}{p1:Pos}
section
variable {H0 R0:Hp}
def RX (X:Cx)(H0 R0:Hp)(e:Expr)(Γ:Ga):Prop:=∀(σ:St)(H R:Hp),aw X.K σ H0 R0 H R Γ->∀Q:VK,fq X e σ H Q
theorem Cg (h:RX X H0 R0 e Γ)(RR:Nl e none pos.line X.env=pure false:=by rfl):RS X H0 R0 (.Expr e pos::rest) Γ:=λσ H R E D=>
 pz (iB ur ef) (sS (f9 aR RR) (h σ H R E _))
theorem x5 (i:Nat)(h:RX X H0 R0 e Γ)(hN:X.N.Nodup:=by first | assumption | decide)(hi:X.N[i]?=some x:=by rfl)(hx:autoParam (Loc X.env.scope x) SW)(hs:Nl e (some (.Name x p1)) pos.line X.env=pure false:=by rfl)(hf:autoParam (X.fn x=true∨X.env.scope.names.lookup x=some .local) SV):RS X H0 R0 (.Assign [.Name x p1] e pos::rest) Γ:=λσ H R E D=>
 pz (iB ur ef) (sS (iM hN hi hx aR hs hf) (h σ H R E _))
end
variable {P:Nf}{w:World}{K:P1}{mg:Kp}{base:Heap}{qual:Str}{f:Addr}{s:M9}{H R:Hp}
section
variable {N:Ks}{scope:Scope}{cd:Value}{A:Nh}{outer:List Env}{E:XK}
end
variable {QN:Kq}{σ:St}
section
variable {ea D:Addr}{oe:Obj}
end
def ag:Rep Str:=⟨λ_ _ v x=>v= .str x,λ_ h=>h⟩
theorem av {j:Nat}:EV X (.Constant (.str x) j pos) Γ ag x Γ:=λ_ _ _ _ _ E _ q=>eS FQ (q _ _ _ E (ax.refl _) rfl)
inductive PV
 | QY
 | bl (b:Bool)
 | int (i:Int)
 | str (x:Str)
 | tup (xs:List PV)
 | lst (xs:List PV)
mutual
inductive gF (H:Hp):V->PV->Prop
 | QY:gF H .QY .QY
 | bl (b:Bool):gF H (.bl b) (.bl b)
 | int (i:Int):gF H (.int i) (.int i)
 | str (x:Str):gF H (.str x) (.str x)
 | tup {a:Addr} {vs:List V} {xs:List PV}:H a=some (.tup vs)->d9 H vs xs->gF H (.ref a) (.tup xs)
 | lst {a:Addr} {vs:List V} {xs:List PV}:H a=some (.lst vs)->d9 H vs xs->xs.length<=Nb->gF H (.ref a) (.lst xs)
inductive d9 (H:Hp):List V->List PV->Prop
 | nil:d9 H [] []
 | cons {v:V} {x:PV} {vs:List V} {xs:List PV}:gF H v x->d9 H vs xs->d9 H (v::vs) (x::xs)
end
mutual
theorem gF.mono {H H':Hp}(s:ax H H'):∀{v:V}{x:PV},gF H v x->gF H' v x
 | _,_,.QY=>.QY
 | _,_,.bl b=>.bl b
 | _,_,.int i=>.int i
 | _,_,.str x=>.str x
 | _,_,.tup h t=>.tup (s _ _ h) (d9.mono s t)
 | _,_,.lst h t z=>.lst (s _ _ h) (d9.mono s t) z
theorem d9.mono {H H':Hp}(s:ax H H'):∀{vs:List V}{xs:List PV},d9 H vs xs->d9 H' vs xs
 | _,_,.nil=>.nil
 | _,_,.cons h t=>.cons (gF.mono s h) (d9.mono s t)
end
theorem d9.pair {H:Hp}:∀{vs:List V}{xs:List PV},d9 H vs xs->PySem.Paired (gF H) vs xs
 | _,_,.nil=>.nil
 | _,_,.cons h t=>.cons h (d9.pair t)
theorem d9.of {H:Hp}:∀{vs:List V}{xs:List PV},PySem.Paired (gF H) vs xs->d9 H vs xs
 | _,_,.nil=>.nil
 | _,_,.cons h t=>.cons h (d9.of t)
def aH:Rep PV:=⟨λ_ H v x=>gF H v x,λs h=>h.mono s⟩
variable {N:Ga->Prop}{Γ2 Γ3:Ga}{α β γ δ:Type}{T:RT}{n:Int}{vs:List V}{p2:Pos}{r:Rep α}{r':Rep β}{y:β}
section
variable {xs:List PV}
theorem EV.re {x:α}(h:EV X e Γ r x Γ1)(f:∀(K:P1)(R:Hp)(v:V),r.R K R v x->r'.R K R v y):EV X e Γ r' y Γ1:=λσ H0 R0 H R E Q q=>h σ H0 R0 H R E Q λv H' R' E' s' e'=>q v H' R' E' s' (f _ _ v e')
theorem EV.pI (h:EV X e Γ ah n Γ1):EV X e Γ aH (.int n) Γ1:=h.re λK R v e=>by cases e;exact .int n
theorem EV.pS (h:EV X e Γ ag x Γ1):EV X e Γ aH (.str x) Γ1:=h.re λK R v e=>by cases e;exact .str x
theorem EV.pL (h:EV X e Γ (af aH) xs Γ1):EV X e Γ aH (.lst xs) Γ1:=h.re λK R v ⟨a,vs,e,q,p,z⟩=>by subst e;exact .lst q (.of p) z
theorem EV.iP (h:EV X e Γ aH (.int n) Γ1):EV X e Γ ah n Γ1:=h.re λK R v e=>by cases e;rfl
theorem EV.sP (h:EV X e Γ aH (.str x) Γ1):EV X e Γ ag x Γ1:=h.re λK R v e=>by cases e;rfl
theorem EV.lP (h:EV X e Γ aH (.lst xs) Γ1):EV X e Γ (af aH) xs Γ1:=h.re λK R v e=>by cases e with | lst q p z=>exact⟨_,_,rfl,q,p.pair,z⟩
theorem oa {es:Kw}{k:Nat}(h:EA X es Γ aH xs Γ1)(hz:xs.length<=Nb:=by show _<=Nb;decide):EV X (.Tuple es k pos) Γ aH (.tup xs) Γ1:=by
 intro σ H0 R0 H R E Q q;refine eS (wR jj) (h σ H0 R0 H R E _ λvs H1 R1 E1 s1 p1=>⟨by rw[p1.length];exact hz,λp hp=>?_⟩);have x:=Ext.fresh E1.sub hp (.tup vs);exact q _ _ _ (E1.grow x) (s1.trans x.r) (.tup aD (.of (Paired.map (λ_ _=>aH.mono x.r) p1)))
theorem df {a b:Expr}{i:Int}{y:PV}(ha:EV X a Γ aH (.tup xs) Γ1)(hb:EV X b Γ1 ah i Γ2)(h:cq xs i=some y)(hs:eP b:=by exact λ_ _=>rfl):EV X (.Subscript a b pos) Γ aH y Γ2:=by
 intro σ H0 R0 H R E Q q;refine eS (i5 FD aR aR hs) (ha σ H0 R0 H R E _ λv H1 R1 E1 s1 e1=>hb σ H0 R0 H1 R1 E1 _ λu H2 R2 E2 s2 e2=>?_);cases aH.mono (K:=X.K) s2 e1 with
 | tup ha pp=>
   obtain⟨w,e3,e4⟩:=fB pp.pair h;exact⟨_,_,i,w,rfl,e2,dC.of (E2.sub _ _ ha),e3,q w H2 R2 E2 (s1.trans s2) e4⟩
theorem xQ (p:PySem.Paired (gF H) vs xs)(l h:Option Int):PySem.Paired (gF H) (ja vs l h) (cut xs l h):=by
 unfold ja cut;rw[p.length];exact gy _ (jb _ p)
theorem F3 {a:Expr}{lo hi:Option Expr}{l h:Option Int}(ha:EV X a Γ aH (.tup xs) Γ)(hl:OV X lo Γ l)(hh:OV X hi Γ h)(hw:¬(HT.QX xs.length 0 l=0/\HT.QX xs.length xs.length h=xs.length)):EV X (.Subscript a (.Slice lo hi none p2) pos) Γ aH (.tup (cut xs l h)) Γ:=by
 intro σ H0 R0 H R E Q q;obtain⟨tl,pl,kl⟩:=hl;obtain⟨th,ph,kh⟩:=hh;refine eS (jM Fb aR pl ph) (ha σ H0 R0 H R E _ λv H1 R1 E1 s1 e1=>kl σ H0 R0 H1 R1 E1 _ λH2 R2 E2 s2=>kh σ H0 R0 H2 R2 E2 _ λH3 R3 E3 s3=>?_);cases aH.mono (K:=X.K) (s2.trans s3) e1 with
 | @tup a' Ro _ hp pp=>
   refine⟨_,_,rfl,dC.of (E3.sub _ _ hp),by rw[pp.pair.length];exact hw,λd hd=>?_⟩;have x:=Ext.fresh E3.sub hd (.tup (ja Ro l h));exact q _ _ _ (E3.grow x) (s1.trans (s2.trans (s3.trans x.r))) (.tup aD (.of (Paired.map (λ_ _=>aH.mono (K:=X.K) x.r) (xQ pp.pair l h))))
theorem all_true {n:Nat}:((Lq n).all λ_=>true)=true:=by simp
end
theorem EV.rep {x:α}(h:EV X e Γ r x Γ1)(c:∀(R:Hp) v,r.R X.K R v x->r'.R X.K R v y):EV X e Γ r' y Γ1:=λσ H0 R0 H R E Q q=>h σ H0 R0 H R E Q λv H' R' E' s' e'=>q v H' R' E' s' (c R' v e')
theorem paired_ints {K:P1}{R:Hp}:∀ys:Kr,PySem.Paired (ah.R K R) (ys.map V.int) ys
 | []=>.nil
 | _::r=>.cons rfl (paired_ints r)
theorem pX {a:Expr}{Sg:Pos}(S7:X.mg "list"=none)(Vz:X.mg "range"=none)(ha:EV X a Γ ah n Γ1)(hn: -1000000<=n/\n<=1000000)(hs:Nc [a] X.env=[(false,eval a X.env)]:=by rfl)(Rp:Nc [.Call (.Name "range" p2) [a] [] Sg] X.env=[(false,eval (.Call (.Name "range" p2) [a] [] Sg) X.env)]:=by rfl)(hc:X.calm=true:=by rfl)(hg:Gl X "list":=by rfl)(hgr:Gl X "range":=by rfl):aI X (.Call (.Name "list" p1) [.Call (.Name "range" p2) [a] [] Sg] [] pos) Γ ah (ups 0 n.toNat) Γ1:=by
 intro σ H0 R0 H R E Q q;refine eS (gW (kf hc) hg S7 PyProof.Rows.boot_list (aU (gW nU hgr Vz M5 (aU aR bD hs) (by decide) (by decide) hs) bD Rp) (by decide) (by decide) Rp) (ha σ H0 R0 H R E _ λv H1 R1 E1 s1 e1=>⟨n,by rw[show v=V.int n from e1],λp hp=>?_⟩);refine⟨p,0,n,rfl,aD,by decide,by decide,hn.1,hn.2,λd hd=>?_⟩;have E2:=E1.grow (Ext.dj E1.sub hp (.Tc 0 n));rw[Int.sub_zero];exact q d _ _ R1 (E2.grow (Ext.dj E2.sub hd _)) s1 aD (E2.sub.free hd) (E2.ext.h.free hd) (E2.off hd) (paired_ints _) (by rw[bK];exact Mz (show n.toNat<=1000000 by omega) (by decide))
section
variable {F:Kx}
theorem jX:∀xs:List Bool,(xs.map V.bl).all fW=true
 | []=>rfl
 | _::r=>by rw[Lm,Ms,jX r];rfl
def cC (F:Kx):List (Int×V):=F.map λp=>(p.1,.int p.2)
def cF (F:Kx)(k:Int):Option Int:=(F.find? λp=>decide (p.1=k)).map (·.2)
def eM (F:Kx)(k v:Int):Kx:=if(cF F k).isSome then F.map (λp=>if p.1=k then(p.1,v) else p) else F++[(k,v)]
theorem jE:∀(F:Kx)(k:Int),cD (bV (cC F)) (Sum.inl k:Key)=(cF F k).map V.int
 | [],_=>rfl
 | p::r,k=>by
   have ih:=jE r k;by_cases e:p.1=k
   ·have e':(Sum.inl p.1:Key)=Sum.inl k:=by rw[e]
    have h1:cD (bV (cC (p::r))) (Sum.inl k:Key)=some (.int p.2):=cR (p:=((Sum.inl p.1:Key),V.int p.2)) e';rw[h1];unfold cF;rw[LP,decide_eq_true e];rfl
   ·have e':¬(Sum.inl p.1:Key)=Sum.inl k:=λz=>e (Sum.inl.inj z);have h1:cD (bV (cC (p::r))) (Sum.inl k:Key)=cD (bV (cC r)) (Sum.inl k:Key):=cQ (p:=((Sum.inl p.1:Key),V.int p.2)) e';rw[h1,ih];unfold cF;rw[LP,QJ e]
theorem nD (F:Kx)(k v:Int):putK (bV (cC F)) (Sum.inl k:Key) (.int v)=bV (cC (eM F k v)):=by
 unfold putK eM;rw[eL,jE];have e:((cF F k).map V.int).isSome=(cF F k).isSome:=by cases cF F k<;>rfl
 rw[e];split
 ·unfold bV cC;simp only[LL];apply Me;intro p _;simp only[Function.comp];by_cases h:p.1=k
  ·rw[QG (by rw[h]),QG h]
  ·rw[QF (λz=>h (Sum.inl.inj z)),QF h]
 ·unfold bV cC;rw[Lj,Lj];rfl
def pD:Rep Kx:=⟨λ_ H v F=>∃a,v= .ref a/\H a=some (.dK (bV (cC F))),λs ⟨a,e,q⟩=>⟨a,e,s _ _ q⟩⟩
theorem kP {a b:Expr}{k y:Int}(hu:X.A.units+1<cLine)(ha:EV X a Γ pD F Γ1)(hb:EV X b Γ1 ah k Γ2)(h:cF F k=some y)(hs:zN b:=by exact λ_ _=>rfl):EV X (.Subscript a b pos) Γ ah y Γ2:=by
 intro σ H0 R0 H R E Q q;refine eS (BK hu aR aR hs) (ha σ H0 R0 H R E _ λv H1 R1 E1 s1 e1=>hb σ H0 R0 H1 R1 E1 _ λu H2 R2 E2 s2 e2=>?_);obtain⟨p,rfl,hp⟩:=pD.mono s2 e1;cases e2
 have g:=fE.k (k:=Sum.inl k) (E2.sub _ _ hp);rw[jE,h] at g;exact⟨p,_,rfl,g,q _ H2 R2 E2 (s1.trans s2) rfl⟩
theorem rp (F:Kx)(k v:Int):(eM F k v).length<=F.length+1:=by
 unfold eM;split
 ·rw[KY];omega
 ·rw[K3];simp
theorem FK (i:Nat){ke ve:Expr}{k v:Int}(hu:X.A.units+1<cLine)(hk:EV X ke Γ ah k Γ)(S6:EV X ve Γ ah v Γ)(hΓ:Γ[i]?=some (.di (cC F)))(hz:F.length<Nb)(h:N (Γ.set i (.di (cC (eM F k v)))))(hN:X.N[i]?=some x:=by rfl)(Vo:autoParam (cI X.env.scope x) Rt)(hd:Q0 x:=by decide)(QR:Rn x:=by decide)(hs:Nl ve (some (.Subscript (.Name x p1) ke p2)) pos.line X.env=pure false:=by rfl):W1 X (.Assign [.Subscript (.Name x p1) ke p2] ve pos) Γ N T:=λσ H0 R0 H R E D dn dr=>by
 refine sS (oz hu (bh hN Vo hd QR) aR aR hs) (S6 σ H0 R0 H R E _ λu0 H0' R0' E0 s0 e0=>?_);obtain⟨a,ea,ha,hR⟩:=E0.ent i _ hΓ;refine⟨.ref a,at_of ea,hk σ H0 R0 H0' R0' E0 _ λu H1 R1 E1 s1 e1=>?_⟩;obtain⟨a',Rr,R7,RC⟩:=E1.ent i _ hΓ;rw[ea] at Rr;cases Rr
 cases e1
 cases e0
 refine⟨a,_,rfl,mj.k (k:=Sum.inl k) R7 (by unfold bV cC;rw[KY,KY];exact hz),?_⟩;rw[nD];exact dn σ _ R1 _ (E1.upd (en:=.di (cC (eM F k v))) hΓ rfl ea RC ⟨a,rfl,aD,RC⟩) (s0.trans s1) h
theorem tV (i:Nat){P:Kx->Prop}(hΓ:Γ[i]?=some (.di (cC F)))(h:P F)(hN:X.N[i]?=some x:=by rfl)(hv:autoParam (cI X.env.scope x) Rt)(hd:Q0 x:=by decide)(QR:Rn x:=by decide):W1 X (.Return (some (.Name x p1)) pos) Γ N (bN X.K pD P):=λσ H0 R0 H R E D dn dr=>by
 obtain⟨a,ea,ha,hR⟩:=E.ent i _ hΓ;have h0:H0 a=none:=E.new i _ a hΓ rfl ea;refine sS (jh (bh hN hv hd QR)) ⟨.ref a,at_of ea,dr _ H (upd R a (.dK (bV (cC F)))) ⟨E.ext.h,E.ext.r.trans (ax.fresh hR _),λb o qb=>?_,λb hb=>?_⟩ ⟨F,⟨a,rfl,aD⟩,h⟩⟩
 ·by_cases hb:b=a
  ·subst hb;rw[aD] at qb;cases qb;exact ha
  ·rw[aA hb] at qb;exact E.ext.s b o qb
 ·rw[aA (show b≠a from λe=>hb (by rw[e];exact h0))];exact E.ext.old b hb
theorem aw.JC {H0 R0 H' R':Hp}{Γf:Ga}(E:aw K σ H0 R0 H R Γ)(E':aw K σ H H H' R' Γf):aw K σ H0 R0 H' R Γ:=
 E.grow ⟨E'.ext.h,ax.refl _,E.sub.trans E'.ext.h,λ_ _=>rfl⟩
theorem TV.RO {Γf:Ga}(hF:∀(σ:St)(H0 R0 H R:Hp),aw X.K σ H0 R0 H R Γ->aw X.K σ H H H H Γf){e:Expr}{b:Bool}(h:TV X e Γf b Γf):TV X e Γ b Γ:=λσ H0 R0 H R E Q q=>
 h σ H H H H (hF σ H0 R0 H R E) Q λH' R' E' s'=>q H' R (E.JC E') (ax.refl _)
def eW:Rep Unit:=⟨λ_ _ v _=>v= .QY,λ_ h=>h⟩
end
variable {S:cE}{st:Stmt}
theorem Fp {fd:Nm}{N ps:Ks}{k:Nat}(F:cK K x qual st f fd)(Sc:aZ N ps (ak st))(hm:mg x=some (.ref f))(hb:Binds K fd ps [])(len:∀qs T,S K qs T->qs.length=ps.length)(Q1:∀(QP:Value)(A:Nh)(outer:List Env)(s:M9)(H:Hp)(E:XK)(qs:List Pk)(T:RT),br k (A.deeper (MW qual (ak st) s.heap.objs.size f QP))->S K qs T->(∀H0 H' R',T H0 .QY H' R')/\
  WS (aX c8 P w K mg base N qual (ak st) f QP A outer s H E).cj (bo st) (du qs N.length) (λ_=>True) T):aF P w K mg base x (k+1) (aM S K):=by
 refine⟨f,fd,ps,?_,hm,F.kp,hb⟩;refine F.ok Sc (λvs H Q E h=>?_) (λQP A outer s H vs Q E hr h=>?_)
 ·obtain⟨R,qs,T,_,p,hS,_⟩:=h;rw[p.length];exact len qs T hS
 ·obtain⟨R,qs,T,sR,p,hS,q⟩:=h;have hl:qs.length<=N.length:=by
   rw[len qs T hS];have:=congrArg List.length Sc.pre;rw[Lc] at this;omega
  obtain⟨h1,h2⟩:=Q1 QP A outer s H E qs T hr hS;exact⟨_,ef,h2 (L2.start N vs) H R H R (eD sR p hl) {nx:=λ_ H'=>Q .QY H',rt:=Q} (λσ' H' R' Γ' E' _ _=>q .QY H' R' E'.ext (h1 _ _ _)) λv H' R' xx t=>q v H' R' xx t⟩
theorem BP {N ps:Ks}{k:Nat}(D:Def K mg x st ps)(Q1:∀(f:Addr)(QP:Value)(A:Nh)(outer:List Env)(s:M9)(H:Hp)(E:XK)(qs:List Pk)(T:RT),N.Nodup->br k (A.deeper (MW x (ak st) s.heap.objs.size f QP))->S K qs T->(∀H0 H' R',T H0 .QY H' R')/\
  WS (aX c8 P w K mg base N x (ak st) f QP A outer s H E).cj (bo st) (du qs N.length) (λ_=>True) T)(len:∀qs T,S K qs T->qs.length=ps.length:=by(intros;rename_i h;repeat (first | (rw[h.1];rfl) | obtain⟨_,h⟩:=h)))(Sc:aZ N ps (ak st):=by exact RQ):aF P w K mg base x (k+1) (aM S K):=by
 obtain⟨f,fd,F,hm,hb⟩:=D;exact Fp F Sc hm hb len λQP A outer s H E qs T=>Q1 f QP A outer s H E qs T Sc.nd
theorem rF {i:Nat}{xs:List α}(hΓ:Γ[i]?=some (.mu r xs))(hz:xs.length<=Nb)(σ:St)(H0 R0 H R:Hp)(E:aw X.K σ H0 R0 H R Γ):aw X.K σ H H H H ((Γ.map qg).set i (.im (af r) xs)):=by
 obtain⟨a,vs,ea,ha,hR,pp⟩:=E.ent i _ hΓ;exact E.RO.nq (i:=i) (e0:=.no) (by rw[K9,hΓ];rfl) ⟨.ref a,ea,a,vs,rfl,ha,Paired.map (λ_ _=>r.mono E.sub) pp,hz⟩ λb w=>by cases w
def se (r:Rep α)(r':Rep β):Rep (α ⊕ β):=⟨λK H v o=>match o with | .inl x=>r.R K H v x | .inr y=>r'.R K H v y,λ{K H H' v o} s h=>by cases o with | inl x=>exact r.mono s h | inr y=>exact r'.mono s h⟩
theorem EV.inl {x:α}(h:EV X e Γ r x Γ1):EV X e Γ (se r r') (.inl x) Γ1:=EV.rep h λ_ _ q=>q
theorem EV.inr {y:β}(h:EV X e Γ r' y Γ1):EV X e Γ (se r r') (.inr y) Γ1:=EV.rep h λ_ _ q=>q
theorem EV.ofl {x:α}(h:EV X e Γ (se r r') (.inl x) Γ1):EV X e Γ r x Γ1:=EV.rep h λ_ _ q=>q
theorem EV.lQ (h:EV X e Γ (se r r') (.inr y) Γ1):EV X e Γ r' y Γ1:=EV.rep h λ_ _ q=>q
variable {l:Ku}{b:Addr}
def ki (H:Hp)(l:Ku):Hp:=λb=>if b∈l then none else H b
theorem nZ (h:b∈l):ki H l b=none:=QG h
theorem qz (h:b∉l):ki H l b=H b:=QF h
theorem zS :ax (ki H l) H:=λb o q=>by
 by_cases h:b∈l
 ·rw[nZ h] at q;cases q
 ·rwa [qz h] at q
variable {a:Addr}
structure LK (P:Type):Type 1 where
 bx:Ku->P->uK
 fp:∀l s,(bx l s).fp=l
 at_:∀{K H R v l s},(bx l s).R K H R v->∃a t,l=a::t/\v= .ref a
abbrev rW (R:Hp)(l:Ku):Prop:=∀b∈l,R b=none
theorem xI {P:Type}{B:LK P}{s:P}{o:Option V}(h:(Ent.ob (B.bx (a::l) s)).ok K H R o):o=some (.ref a)/\(B.bx (a::l) s).R K H R (.ref a)/\rW R (a::l):=by
 obtain⟨⟨v,e,hv⟩,hR⟩:=h;obtain⟨a',t,el,ev⟩:=B.at_ hv;cases el
 subst ev;exact⟨e,hv,λb hb=>hR b (by rw[B.fp];exact hb)⟩
theorem xC {P:Type}{B:LK P}{s:P}(h:(B.bx (a::l) s).R K H R (.ref a))(hR:rW R (a::l)):(Ent.ob (B.bx (a::l) s)).ok K H R (some (.ref a)):=
 ⟨⟨_,rfl,h⟩,λc hc=>hR c (by rw[B.fp] at hc;exact hc)⟩
theorem vb {P:Type}{B:LK P}{st:P}{ps:List Pk}{N:Ks}(s:ax R H)(hR:rW R (a::l))(hB:(B.bx (a::l) st).R K H R (.ref a))(p:gI K R vs ps)(hl:ps.length+1<=N.length):
 aw K (L2.start N (.ref a::vs)) (ki H (a::l)) R H R (.ob (B.bx (a::l) st)::du ps (N.length-1)):=by
 obtain⟨n0,N',rfl⟩:∃n0 N',N=n0::N':=by cases N with
  | nil=>exact QE hl (by simp)
  | cons n N'=>exact⟨n,N',rfl⟩
 have UE:ps.length<=N'.length:=by simpa using hl
 have E0:=eD (N:=N') s p UE;have es:L2.start (n0::N') (.ref a::vs)=some (.ref a)::L2.start N' vs:=by unfold L2.start;simp
 rw[es];have Q6:∀(i:Nat)(e:Ent)(o:Option V),(du ps N'.length)[i]?=some e->e.fp o=[]:=λi e o q=>by
  unfold du at q;rcases Lf.mp (K7 q) with z | z
  ·obtain⟨p,_,rfl⟩:=Lu.mp z;rfl
  ·obtain⟨_,rfl⟩:=Mi.mp z;rfl
 refine⟨⟨zS,ax.refl _,s,λ_ _=>rfl⟩,λi e q=>?_,λi e c q w=>?_,λi j e e' c q q' w w'=>?_,?_⟩
 ·cases i with
  | zero=>simp at q;subst q;exact xC hB hR
  | succ i=>simp at q;simpa using E0.ent i e q
 ·cases i with
  | zero=>
    simp at q;subst q;have w:c∈(B.bx (a::l) st).fp:=w;rw[B.fp] at w;exact nZ w
  | succ i=>simp at q;rw[Q6 i e _ q] at w;cases w
 ·cases i with
  | succ i=>simp at q;rw[Q6 i e _ q] at w;cases w
  | zero=>
    cases j with
    | zero=>rfl
    | succ j=>simp at q';rw[Q6 j e' _ q'] at w';cases w'
 ·have:=E0.len;simp[this]
structure bz (K:P1)(C:Addr)(ns:Ks):Prop where
 cl:pd K C
 no:∀f∈ns,iG K C f
end Fc
namespace Fc.DP
open PySem PySem.Spec
variable {prog:Nf}{w:World}{A:Nh}{E:Value->M9->Prop}
section
variable {h:Heap}{g:Array OB}{d:Drawn}{t:Nat}{os:OsState}{a:Addr}{o:Obj}
end
variable {K:Type}
section
variable  [DecidableEq K]{knd:KeyKind prog w K}{R:Result->M9->Prop}{I:Addr}{fp wr:Ku}{G:Array OB->Array OB->Prop}{n:Nat}{P:Nat->Value->Prop}{St:Nat->M9->Prop}
end
section
variable  [DecidableEq K]{knd:KeyKind prog w K}{s:M9}
end
end Fc.DP
namespace Fc
open PySem PySem.Spec PySem.W PySem.Calls L2
open PyProof.Rows hiding St
variable {X:Cx}{N:Ga->Prop}{T:RT}
section
variable {Γ Γ1 Γ2 Γ3:Ga}{α β γ δ:Type}
end
variable {xs:Ks}{pos:Pos}
section
variable {Γ Γ1 Γ2 Γ3:Ga}{α β γ δ:Type}
variable {x y:Str}
theorem jo:decide (V.str x=V.str y)=decide (x=y):=by
 by_cases h:x=y
 ·subst h;simp
 ·rw[QJ h,QJ λz=>h (by injection z)]
theorem bI:eu X .Eq ag ag x y (decide (x=y)):=⟨_,An,λR H v u Q _ e1 e2 q=>by
 cases e1;cases e2
 exact⟨rfl,by rw[jo];exact q⟩⟩
theorem qk:eu X .NotEq ag ag x y (!decide (x=y)):=⟨_,Am,λR H v u Q _ e1 e2 q=>by
 cases e1;cases e2
 exact⟨rfl,by rw[jo];exact q⟩⟩
def qy:Rep Ks:=⟨λK R v xs=>∃a,v= .ref a/\dC K R a (xs.map V.str),λs ⟨a,e,h⟩=>⟨a,e,by
 rcases h with h | h
 ·exact .inl (h.imp (λq=>s _ _ q) λ⟨o,q⟩=>⟨o,s _ _ q⟩)
 ·exact .inr h⟩⟩
theorem j6 (x:Str):∀xs:Ks,tT (.str x) (xs.map V.str)=decide (x∈xs)
 | []=>rfl
 | y::r=>by
   have h:=j6 x r;unfold tT at h ⊢;rw[Lm,Md,h];have e:lN (V.str y) (V.str x)=decide (x=y):=by
    show(y==x)=_;by_cases h:x=y
    ·subst h;simp
    ·rw[QJ h];exact beq_eq_false_iff_ne.mpr (MQ h)
   rw[e];by_cases h1:x=y<;>simp[h1]
theorem iX:∀xs:Ks,(xs.map V.str).all fW=true
 | []=>rfl
 | _::r=>by rw[Lm,Ms,iX r];rfl
theorem hW :eu X .In ag qy x xs (decide (x∈xs)):=⟨_,kK,λR H v u Q s e1 e2 q=>by
 cases e1
 obtain⟨a,rfl,h⟩:=e2;exact⟨a,_,rfl,.inr (h.imp (λh=>h.imp (λq=>s _ _ q) λ⟨o,q⟩=>⟨o,s _ _ q⟩) id),rfl,iX xs,by rw[QF KC,j6];exact q⟩⟩
def oC (K:P1)(mg:Kp)(x:Str)(xs:Ks):Prop:=∃a o QO n,mg x=some (.ref a)/\K.lookup a=some o/\o.cls= .type "tuple"/\o.data= .seq QO n/\QO.size<=Nb/\Vals (xs.map V.str) QO.toList
theorem eB (hm:oC X.K X.mg x xs)(hg:Gl X x:=by rfl)(hd:Q0 x:=by decide):EV X (.Name x pos) Γ qy xs Γ:=by
 obtain⟨a,o,QO,n,h1,h2⟩:=hm;exact λ_ _ _ _ _ E _ q=>eS (gg (v:=.ref a) hg h1 rfl hd) (q (.ref a) _ _ E (ax.refl _) ⟨a,rfl,.inr ⟨o,QO,n,h2⟩⟩)
end
def j2 (P:Nf)(w:World)(K:P1)(mg:Kp)(x:Str)(D:List (Str×Ks)):Prop:=
 ∃a o vs,mg x=some (.ref a)/\K.lookup a=some o/\o.IsDictOf (bP P w) vs/\(a==Nw)=false/\
  PySem.Paired (λ(d:Str×Ks)(p:Key×Value)=>p.1=Sum.inr d.1/\∃b o QO n,p.2= .ref b/\K.lookup b=some o/\o.cls= .type "tuple"/\o.data= .seq QO n/\QO.size<=Nb/\Vals (d.2.map V.str) QO.toList) D vs
def hJ:List (Str×Ks)->Str->Option Ks
 | [],_=>none
 | (k,v)::r,x=>if k=x then some v else hJ r x
theorem qf {K:P1}{x:Str}:∀{D:List (Str×Ks)}{vs:List (Key×Value)},PySem.Paired (λ(d:Str×Ks)(p:Key×Value)=>p.1=Sum.inr d.1/\∃b o QO n,p.2= .ref b/\K.lookup b=some o/\o.cls= .type "tuple"/\o.data= .seq QO n/\QO.size<=Nb/\Vals (d.2.map V.str) QO.toList) D vs->
 (hJ D x=none/\NH vs (Sum.inr x:Key)=none)∨∃ys b,hJ D x=some ys/\NH vs (Sum.inr x:Key)=some (.ref b)/\∃o QO n,K.lookup b=some o/\o.cls= .type "tuple"/\o.data= .seq QO n/\QO.size<=Nb/\Vals (ys.map V.str) QO.toList
 | _,_,.nil=>.inl ⟨rfl,rfl⟩
 | _,_,.cons (a:=d) (b:=p) h t=>by
   obtain⟨k,v⟩:=d;obtain⟨q,u⟩:=p;obtain⟨e1,b,o,QO,n,e2,h3⟩:=h;have e1:q=Sum.inr k:=e1;have e2:u=PM b:=e2;subst e1;subst e2;rw[hJ];unfold NH;rw[LP];by_cases e:k=x
   ·subst e;rw[QG rfl];exact .inr ⟨v,b,rfl,by simp,o,QO,n,h3⟩
   ·rw[QF e];have:decide ((Sum.inr k:Key)=Sum.inr x)=false:=QJ λz=>e (Sum.inr.inj z);simp only[this];exact qf t
section
variable {Γ Γ1 Γ2 Γ3:Ga}{α β γ δ:Type}
theorem yf {e:Expr}{x:Str}{p1:Pos}{D:List (Str×Ks)}{k:Str}(hD:j2 X.prog X.w X.K X.mg x D)(he:EV X e Γ ag k Γ1)(hg:Gl X x:=by rfl)(hd:Q0 x:=by decide):TV X (.Compare e [.NotIn] [.Name x p1] pos) Γ (!(hJ D k).isSome) Γ1:=by
 intro σ H0 R0 H R E Q q;obtain⟨a,o,vs,hm,hk,hdo,hs,hp⟩:=hD;have pc:PC X .NotIn e (.Name x p1) (λσ H Q=>fq X e σ H λy H1=>y= .str k/\Q (.bl (!(hJ D k).isSome)) H1):=by
  intro QN s σ H Q I h;refine aO (h QN s I) λiv s1 ⟨y,H1,I1,ry,ey,q1⟩=>aO (gg (v:=.ref a) hg hm rfl hd QN s1 σ H1 (λv H2=>v= .ref a/\H2=H1) I1 ⟨rfl,rfl⟩) λu s2 ⟨y2,H2,I2,ry2,e3,e4⟩=>?_;subst ey;subst e3;subst e4;obtain rfl:u=PM a:=ry2;have dd:s2.heap.DictOf (bP X.prog X.w) a vs:=Pw.mpr ⟨o,I2.cY a o hk,hdo⟩;refine wpAny_notIn_of (hZ (k:=Sum.inr k) ry) hs dd.mapOf ?_;rcases qf (x:=k) hp with⟨h1,h2⟩ | ⟨ys,b,h1,h2,_⟩
  ·rw[h2];rw[h1] at q1;exact⟨.bl _,_,I2.tok _,rfl,q1⟩
  ·rw[h2];rw[h1] at q1;exact⟨.bl _,_,I2.tok _,rfl,q1⟩
 refine tS (kL pc (by with_unfolding_all rfl)) (he σ H0 R0 H R E _ λv H1 R1 E1 s1 e1=>⟨e1,_,rfl,q H1 R1 E1 s1⟩)
end
end Fc
namespace Fc.ZT
open PySem PySem.Spec PyProof.Rows
variable {prog:Nf}{w:World}{A:Nh}{E:Value->M9->Prop}{s:M9}{QO:Array Value}{Q:Value->M9->Prop}
structure Dr (prog:Nf)(w:World)(A:Nh)(i l:Addr)(QO:Array Value)(St:Nat->Heap->Prop):Prop where
 up:∀{k:Nat}{h h':Heap},St k h->(∀b,b=i∨b=l->∀o,h.get? b=some o->h'.get? b=some o)->St k h'
 there:∀{k:Nat}{h:Heap},St k h->i<h.objs.size
 item:∀{k:Nat}{x:Value}{s:M9}{Q:Value->M9->Prop}{E:Value->M9->Prop},St k s.heap->QO[k]?=some x->(∀h',St (k+1) h'->Pq i s.heap h'->Q x {s with heap:=h'})->wpAny (model prog w) A (Ot.SmallTypes.nextOf (.ref i)) Q E s
 done:∀{k:Nat}{s:M9}{Q:Value->M9->Prop}{E:Value->M9->Prop},St k s.heap->QO[k]?=none->(∀h' e,Heap.ExtBut i s.heap h'->(∃o,h'.get? e=some o/\o.cls= .type "StopIteration")->E (.ref e) {s with heap:=h'})->wpAny (model prog w) A (Ot.SmallTypes.nextOf (.ref i)) Q E s
theorem zm {i l:Addr}(hh:A.handled=none)(Q5:i≠l):Dr prog w A i l QO (λk h=>h.IsTupleIter i l k/\h.IsTuple l QO) where
 up:=λ⟨⟨o,ho,r⟩,⟨o',Sa,r'⟩⟩ hk=>⟨⟨o,hk _ (.inl rfl) o ho,r⟩,⟨o',hk _ (.inr rfl) o' Sa,r'⟩⟩
 there:=λ⟨⟨o,ho,_⟩,_⟩=>Pl ho
 item:=λ{k x s Q E} ⟨hit,ht⟩ hx hQ=>by
  obtain⟨o,ho,hc,hd⟩:=id hit;obtain⟨ol,hol,_,nl,UK⟩:=id ht;unfold Ot.SmallTypes.nextOf;refine Na (Nx (name:=PK "__next__") hit.typeIs Pb
   (NT Pb hit.typeIs F.entry_tuple_iterator_next ?_ (F.args_tuple_iterator_next_1 _)))
  show wpAny _ _ (field (.ref i) 0 >>=_) _ _ s;refine Na (Nr ho hd (x:=.ref l) rfl ?_);refine wpAny_ite ?_;rw[QF (show¬((PM l==PQ)=true) from KC)];show wpAny _ _ (field (.ref i) 1 >>=_) _ _ s;refine Na (Nr ho hd (x:=.int k 0) rfl ?_);show wpAny _ _ (seqItems? (.ref l) >>=_) _ _ s;refine Na (NI hol UK ?_);simp only[Int.toNat_natCast,hx];have hs:=Pq.update s.heap i (λo=>o.mapFields λa=>a.setIfInBounds 1 (OC (k+1)));refine Na (wpAny_setField ho hd (by simp) (Nd ⟨x,rfl,Nd (hQ _ ⟨?_,ht.extBut (Pq.update ..).extBut (MQ Q5)⟩ (Pq.update ..))⟩));exact⟨_,Pp _ ho (Obj.isFreed_of_fields (Obj.data_mapFields hd _)),(Obj.cls_mapFields ..).trans hc,by rw[Obj.data_mapFields hd];simp[OC]⟩
 done:=λ{k s Q E} ⟨hit,ht⟩ hx hE=>by
  obtain⟨o,ho,hc,hd⟩:=id hit;obtain⟨ol,hol,_,nl,UK⟩:=id ht;unfold Ot.SmallTypes.nextOf;refine Na (Nx (name:=PK "__next__") hit.typeIs Pb
   (NT Pb hit.typeIs F.entry_tuple_iterator_next ?_ (F.args_tuple_iterator_next_1 _)))
  show wpAny _ _ (field (.ref i) 0 >>=_) _ _ s;refine Na (Nr ho hd (x:=.ref l) rfl ?_);refine wpAny_ite ?_;rw[QF (show¬((PM l==PQ)=true) from KC)];show wpAny _ _ (field (.ref i) 1 >>=_) _ _ s;refine Na (Nr ho hd (x:=.int k 0) rfl ?_);show wpAny _ _ (seqItems? (.ref l) >>=_) _ _ s;refine Na (NI hol UK ?_);simp only[Int.toNat_natCast,hx];refine Na (Oj (Na (wpAny_setField ho hd (by simp) ?_)));show wpAny _ _ (newExc (.type "StopIteration") [] >>=_) _ _ _;refine Na ?_;simp only[newExc,newTuple];refine Na (NG ?_ (by size_fits));refine Na (m:=firstArgMember _ _) (wpAny_of_eq (a:=PQ) (by first | rfl | (simp only[firstArgMember];rfl)) ?_);refine NG ?_ (by size_fits);simp only[raiseNew];refine Na (wpAny_handled ?_)
  first | rw[show A.in1.handled=none from hh] | rw[hh]
  refine Na (Nd (wpAny_throw ?_));exact hE _ _ (((Pq.update ..).extBut.push _).push _) ⟨_,Pm _ rfl,rfl⟩
section
variable {z TI TO i1 i2 l1 l2:Addr}{k1 k2:Nat}{xs ys:Array Value}{x y a b:Value}{S1 S2:Nat->Heap->Prop}
theorem up1 {i l c:Addr}{St:Nat->Heap->Prop}(d:Dr prog w A i l QO St){k:Nat}{h h':Heap}(hs:St k h)(e:Heap.ExtBut c h h')(h1:i≠c)(h2:l≠c):St k h':=d.up hs λb hb o q=>e b o (by rcases hb with rfl | rfl<;>assumption) q
theorem A5 (D:OR z TI TO i1 i2 l1 l2)(d1:Dr prog w A i1 l1 xs S1)(d2:Dr prog w A i2 l2 ys S2)(hz:IsZip s.heap z TI TO .none)(Sm:Nz s.heap TI (.ref i1) (.ref i2))(Sw:Nz s.heap TO a b)(h1:S1 k1 s.heap)(h2:S2 k2 s.heap)(hx:xs[k1]?=some x)(hy:ys[k2]?=some y)(hQ:∀h',IsZip h' z TI TO (OC s.heap.objs.size)->Nz h' TO x y->S1 (k1+1) h'->S2 (k2+1) h'->Nz h' s.heap.objs.size x y->(∀c o,c≠z->c≠TO->c≠i1->c≠i2->s.heap.get? c=some o->h'.get? c=some o)->Q (.ref s.heap.objs.size) {s with heap:=h'}):
 wpAny (model prog w) A (Ot.«zip.__next__» ⟨[.ref z],[]⟩) (λfin s'=>∃v,fin= .done (.ret v)/\Q v s') E s:=by
 show wpAny _ _ (field (.ref z) 2 >>=_) _ _ _;refine Na (Nr hz rfl (x:=.bool false) rfl ?_);show wpAny _ _ (field (.ref z) 3 >>=_) _ _ _;refine Na (Nr hz rfl (x:=.ref TI) rfl (Na (NI Sm rfl ?_)));show wpAny _ _ (Ot.SmallTypes.ownedTupleIsFree (.ref z) >>=_) _ _ _;refine Na ?_;unfold Ot.SmallTypes.ownedTupleIsFree;refine Na (Nr hz rfl (x:=.none) rfl (Nd ?_));simp only[if_true];refine Na (Oj (Na (Nr hz rfl (x:=.ref TO) rfl (Na (NK hz (by simp) λha Ua Tf=>?_)))));replace Ua:IsZip ha z TI TO .ellipsis:=Ua;refine Na ?_;simp only[List.zipIdx_cons,List.zipIdx_nil,Mu,forIn_nil];refine Na (Na (Ox ?_));show wpAny _ _ (Ot.SmallTypes.nextOf (.ref i1) >>=_) _ _ _;have g1:S1 k1 ha:=up1 d1 h1 Tf.extBut D.i1z D.l1z;have g2:S2 k2 ha:=up1 d2 h2 Tf.extBut D.i2z D.l2z;refine Na (d1.item g1 hx λhb n1 RL=>Nd ?_);have tb:Nz hb TO a b:=RL.extBut _ _ D.TOi1 (Tf.extBut _ _ D.TOz Sw);refine Na (NI tb rfl (Na (Ol tb λhc tc SO=>?_)));replace tc:Nz hc TO x b:=tc;refine Na (wpAny_letGo (Nd ?_));refine Na (Na (Ox ?_));show wpAny _ _ (Ot.SmallTypes.nextOf (.ref i2) >>=_) _ _ _;have g2c:S2 k2 hc:=up1 d2 (up1 d2 g2 RL.extBut D.i12.symm D.l2i1) SO.extBut D.TOi2.symm D.l2TO;refine Na (d2.item g2c hy λhd n2 Uc=>Nd ?_);have td:Nz hd TO x b:=Uc.extBut _ _ D.TOi2 tc;refine Na (NI td rfl (Na (Ol td λhe te Ub=>?_)));replace te:Nz he TO x y:=te;refine Na (wpAny_letGo (Nd (Nd ?_)));refine Na (NI te rfl (Na (wpAny_newTuple ?_)));have hsz:he.objs.size=s.heap.objs.size:=by rw[Ub.1,Uc.1,SO.1,RL.1,Tf.1]
 have ze:IsZip he z TI TO .ellipsis:=Ub.extBut _ _ D.TOz.symm (Uc.extBut _ _ D.i2z.symm (SO.extBut _ _ D.TOz.symm (RL.extBut _ _ D.i1z.symm Ua)));have ke:∀c o,c≠z->c≠TO->c≠i1->c≠i2->s.heap.get? c=some o->he.get? c=some o:=λc o c1 c2 c3 c4 e=>
  Ub.extBut _ _ c2 (Uc.extBut _ _ c4 (SO.extBut _ _ c2 (RL.extBut _ _ c3 (Tf.extBut _ _ c1 e))))
 have m1:S1 (k1+1) he:=up1 d1 (up1 d1 (up1 d1 n1 SO.extBut D.TOi1.symm D.l1TO) Uc.extBut D.i12 D.l1i2) Ub.extBut D.TOi1.symm D.l1TO;have m2:S2 (k2+1) he:=up1 d2 n2 Ub.extBut D.TOi2.symm D.l2TO;have Vj:z<he.objs.size:=Pl ze;show wpAny _ _ (Ot.SmallTypes.ownedTupleHandOut (.ref z) (.ref he.objs.size) >>=_) _ _ _;refine Na ?_;unfold Ot.SmallTypes.ownedTupleHandOut;have zf:IsZip (he.push {cls:=.type "tuple",data:=.seq #[x,y]}) z TI TO .ellipsis:=Pj _ ze;refine Na (NK zf (by simp) λhg zg hsg=>?_);replace zg:IsZip hg z TI TO (OC he.objs.size):=zg;refine NK zg (by simp) λhj zj hsj=>?_;replace zj:IsZip hj z TI TO (OC he.objs.size):=zj;have up:∀c o,c≠z->he.get? c=some o->hj.get? c=some o:=λc o c1 e=>hsj.extBut _ _ c1 (hsg.extBut _ _ c1 (Pj _ e));have tj:Nz hj he.objs.size x y:=hsj.extBut _ _ (ML Vj) (hsg.extBut _ _ (ML Vj) (Pm _ rfl));rw[hsz] at zj tj;refine Nd ⟨_,rfl,?_⟩;show Q (.ref he.objs.size) _;rw[hsz];exact hQ hj zj (up _ _ D.TOz te) (d1.up m1 λc hc o e=>up c o (hc.elim (λq=>by rw[q];exact D.i1z) λq=>by rw[q];exact D.l1z) e) (d2.up m2 λc hc o e=>up c o (hc.elim (λq=>by rw[q];exact D.i2z) λq=>by rw[q];exact D.l2z) e) tj λc o c1 c2 c3 c4 e=>up c o c1 (ke c o c1 c2 c3 c4 e)
theorem Eg {Q:PySem.Fin->M9->Prop}(D:OR z TI TO i1 i2 l1 l2)(d1:Dr prog w A i1 l1 xs S1)(d2:Dr prog w A i2 l2 ys S2)(hz:IsZip s.heap z TI TO .none)(Sm:Nz s.heap TI (.ref i1) (.ref i2))(Sw:Nz s.heap TO a b)(h1:S1 k1 s.heap)(h2:S2 k2 s.heap)(Sd:xs[k1]?=none∨ys[k2]?=none)(hE:∀h' e,(∀c o,c≠z->c≠TO->c≠i1->c≠i2->s.heap.get? c=some o->h'.get? c=some o)->(∃o,h'.get? e=some o/\o.cls= .type "StopIteration")->E (.ref e) {s with heap:=h'}):
 wpAny (model prog w) A (Ot.«zip.__next__» ⟨[.ref z],[]⟩) Q E s:=by
 show wpAny _ _ (field (.ref z) 2 >>=_) _ _ _;refine Na (Nr hz rfl (x:=.bool false) rfl ?_);show wpAny _ _ (field (.ref z) 3 >>=_) _ _ _;refine Na (Nr hz rfl (x:=.ref TI) rfl (Na (NI Sm rfl ?_)));show wpAny _ _ (Ot.SmallTypes.ownedTupleIsFree (.ref z) >>=_) _ _ _;refine Na ?_;unfold Ot.SmallTypes.ownedTupleIsFree;refine Na (Nr hz rfl (x:=.none) rfl (Nd ?_));simp only[if_true];refine Na (Oj (Na (Nr hz rfl (x:=.ref TO) rfl (Na (NK hz (by simp) λha Ua Tf=>?_)))));replace Ua:IsZip ha z TI TO .ellipsis:=Ua;refine Na ?_;simp only[List.zipIdx_cons,List.zipIdx_nil,Mu,forIn_nil];refine Na (Na (Ox ?_));show wpAny _ _ (Ot.SmallTypes.nextOf (.ref i1) >>=_) _ _ _;have g1:S1 k1 ha:=up1 d1 h1 Tf.extBut D.i1z D.l1z;have g2:S2 k2 ha:=up1 d2 h2 Tf.extBut D.i2z D.l2z;cases hx:xs[k1]? with
 | none=>
   refine Na (d1.done g1 hx λhb e RL he=>?_);obtain⟨oe,UA,VZ⟩:=he;have zb:IsZip hb z TI TO .ellipsis:=RL _ _ D.i1z.symm Ua;have hez:e≠z:=λq=>by subst q;rw[zb] at UA;cases UA;simp at VZ
   exact NK zb (by simp) λhc _ SO=>hE hc e (λc o c1 _ c3 _ q=>SO.extBut _ _ c1 (RL _ _ c3 (Tf.extBut _ _ c1 q))) ⟨oe,SO.extBut _ _ hez UA,VZ⟩
 | some x=>
   have hy:ys[k2]?=none:=by rcases Sd with q | q;rw[hx] at q;cases q;exact q
   refine Na (d1.item g1 hx λhb n1 RL=>Nd ?_);have tb:Nz hb TO a b:=RL.extBut _ _ D.TOi1 (Tf.extBut _ _ D.TOz Sw);refine Na (NI tb rfl (Na (Ol tb λhc tc SO=>?_)));refine Na (wpAny_letGo (Nd ?_));refine Na (Na (Ox ?_));show wpAny _ _ (Ot.SmallTypes.nextOf (.ref i2) >>=_) _ _ _;have g2c:S2 k2 hc:=up1 d2 (up1 d2 g2 RL.extBut D.i12.symm D.l2i1) SO.extBut D.TOi2.symm D.l2TO;refine Na (d2.done g2c hy λhd e Uc he=>?_);obtain⟨oe,UA,VZ⟩:=he;have zd:IsZip hd z TI TO .ellipsis:=Uc _ _ D.i2z.symm (SO.extBut _ _ D.TOz.symm (RL.extBut _ _ D.i1z.symm Ua));have hez:e≠z:=λq=>by subst q;rw[zd] at UA;cases UA;simp at VZ
   exact NK zd (by simp) λhe _ Ub=>hE he e (λc o c1 c2 c3 c4 q=>Ub.extBut _ _ c1 (Uc _ _ c4 (SO.extBut _ _ c2 (RL.extBut _ _ c3 (Tf.extBut _ _ c1 q))))) ⟨oe,Ub.extBut _ _ hez UA,VZ⟩
theorem Bs {Q:Kt->M9->Prop}(D:OR z TI TO i1 i2 l1 l2)(d1:Dr prog w A.in1 i1 l1 xs S1)(d2:Dr prog w A.in1 i2 l2 ys S2)(hz:IsZip s.heap z TI TO .none)(Sm:Nz s.heap TI (.ref i1) (.ref i2))(Sw:Nz s.heap TO a b)(h1:S1 k1 s.heap)(h2:S2 k2 s.heap)(hx:xs[k1]?=some x)(hy:ys[k2]?=some y)(hQ:∀h',IsZip h' z TI TO (OC s.heap.objs.size)->Nz h' TO x y->S1 (k1+1) h'->S2 (k2+1) h'->Nz h' s.heap.objs.size x y->(∀c o,c≠z->c≠TO->c≠i1->c≠i2->s.heap.get? c=some o->h'.get? c=some o)->Q (some (.ref s.heap.objs.size)) {s with heap:=h'}):
 wpAny (model prog w) A (OL (.ref z)) Q E s:=by
 have hT:s.TypeIs (.ref z) "zip":=⟨_,hz,rfl⟩;unfold OL;exact Na (Oe (Nx (name:=PK "__next__") hT Pe (NT Pe hT F.entry_zip_next (A5 D d1 d2 hz Sm Sw h1 h2 hx hy λh' a1 a2 a3 a4 a5 a6=>Nd (hQ h' a1 a2 a3 a4 a5 a6)) (F.args_zip_next_1 _))))
theorem Dw {Q:Kt->M9->Prop}(D:OR z TI TO i1 i2 l1 l2)(d1:Dr prog w A.in1 i1 l1 xs S1)(d2:Dr prog w A.in1 i2 l2 ys S2)(hz:IsZip s.heap z TI TO .none)(Sm:Nz s.heap TI (.ref i1) (.ref i2))(Sw:Nz s.heap TO a b)(h1:S1 k1 s.heap)(h2:S2 k2 s.heap)(Sd:xs[k1]?=none∨ys[k2]?=none)(hQ:∀h',(∀c o,c≠z->c≠TO->c≠i1->c≠i2->s.heap.get? c=some o->h'.get? c=some o)->Q none {s with heap:=h'}):wpAny (model prog w) A (OL (.ref z)) Q E s:=by
 have hT:s.TypeIs (.ref z) "zip":=⟨_,hz,rfl⟩;unfold OL;refine Na (Oe (Nx (name:=PK "__next__") hT Pe (NT Pe hT F.entry_zip_next (Eg D d1 d2 hz Sm Sw h1 h2 Sd λh' e hk he=>?_) (F.args_zip_next_1 _))));obtain⟨o,ho,hc⟩:=he;exact Na (wpAny_isInstance (T:="StopIteration") (b:=true) ⟨o,ho,hc⟩ isSubtype_stop (Nd (hQ _ hk)))
end
theorem Cq {i l:Addr}(hh:A.handled=none)(Q5:i≠l):Dr prog w A i l QO (λk h=>h.IsListIter i l k/\h.IsList l QO) where
 up:=λ⟨⟨o,ho,r⟩,⟨o',Sa,r'⟩⟩ hk=>⟨⟨o,hk _ (.inl rfl) o ho,r⟩,⟨o',hk _ (.inr rfl) o' Sa,r'⟩⟩
 there:=λ⟨⟨o,ho,_⟩,_⟩=>Pl ho
 item:=λ{k x s Q E} ⟨hit,ht⟩ hx hQ=>wpAny_nextOf_list_item hit ht hx λh' h1 h2=>hQ h' ⟨h1,ht.extBut h2.extBut (MQ Q5)⟩ h2
 done:=λ{k s Q E} ⟨hit,ht⟩ hx hE=>wpAny_nextOf_list_end hh hit ht hx λh' e h1 h2=>hE h' e h1 h2
abbrev jG (c:String)(l:Addr):Obj:={cls:=.type c,data:=.fields #[.ref l,.int 0 0]}
def sh (c:String)(h:Heap)(a l:Addr)(i:Nat):Prop:=∃o,h.get? a=some o/\o.cls= .type c/\o.data= .fields #[.ref l,.int i 0]
structure Kd (prog:Nf)(w:World)(it:String)(Is:Heap->Addr->Array Value->Prop):Prop where
 nm:it="list_iterator"∨it="tuple_iterator"
 cl:∀{h:Heap}{a:Addr}{QO:Array Value},Is h a QO->∃o,h.get? a=some o/\(o.cls= .type "list"∨o.cls= .type "tuple")
 up:∀{h:Heap}{a:Addr}{QO:Array Value}(o:Obj),Is h a QO->Is (h.push o) a QO
 dr:∀{A:Nh}{i l:Addr}{QO:Array Value},A.handled=none->i≠l->Dr prog w A i l QO (λk h=>sh it h i l k/\Is h l QO)
 iter:∀{A:Nh}{E:Value->M9->Prop}{s:M9}{l:Addr}{QO:Array Value}{Q:Value->M9->Prop},Is s.heap l QO->Q (.ref s.heap.objs.size) {s with heap:=s.heap.push (jG it l)}->wpAny (model prog w) A (pyIter (.ref l)) Q E s
theorem Kf :Kd prog w "list_iterator" Heap.IsList:=⟨.inl rfl,λ⟨o,ho,hc,_⟩=>⟨o,ho,.inl hc⟩,λo h=>h.push o,λhh hn=>Cq hh hn,λh q=>Ob h q⟩
theorem JK :Kd prog w "tuple_iterator" Heap.IsTuple:=⟨.inr rfl,λ⟨o,ho,hc,_⟩=>⟨o,ho,.inr hc⟩,λo ⟨o',ho,r⟩=>⟨o',Pj _ ho,r⟩,λhh hn=>zm hh hn,λh q=>wpAny_pyIter_tuple h q⟩
section
variable {i1 i2:String}{S1 S2:Heap->Addr->Array Value->Prop}
theorem Kd.apart {h:Heap}{l c:Addr}{o:Obj}(k:Kd prog w i1 S1)(p:S1 h l QO)(e:h.get? c=some o)(hc:o.cls= .type "zip"∨o.cls= .type "list_iterator"∨o.cls= .type "tuple_iterator"):l≠c:=λz=>by
 obtain⟨u,e',c'⟩:=k.cl p;rw[z,e] at e';cases e'
 rcases hc with q | q | q<;>rw[q] at c'<;>simp at c'
theorem wm {l1 l2:Addr}{xs ys:Array Value}(k1:∀prog w,Kd prog w i1 S1)(k2:∀prog w,Kd prog w i2 S2)(hl1:S1 s.heap l1 xs)(UD:S2 s.heap l2 ys)(h:∀h',IsZip h' (s.heap.objs.size+4) (s.heap.objs.size+2) (s.heap.objs.size+3) .none->Nz h' (s.heap.objs.size+2) (.ref s.heap.objs.size) (.ref (s.heap.objs.size+1))->Nz h' (s.heap.objs.size+3) .none .none->sh i1 h' s.heap.objs.size l1 0->sh i2 h' (s.heap.objs.size+1) l2 0->
  (∀c o,s.heap.get? c=some o->h'.get? c=some o)->Q (.ref (s.heap.objs.size+4)) {s with heap:=h'}):wpAny (model prog w) A (call (.type "zip") [.ref l1,.ref l2]) Q E s:=by
 have nz:Meets (Ot.«zip.__new__» ⟨[.type "zip",.ref l1,.ref l2],[]⟩) (λ_ R s=>S1 s.heap l1 xs/\S2 s.heap l2 ys/\R (.ok (.ret (.ref (s.heap.objs.size+4)))) {s with heap:=((((s.heap.push (jG i1 l1)).push (jG i2 l2)).push {cls:=.type "tuple",data:=.seq #[.ref s.heap.objs.size,.ref (s.heap.objs.size+1)]}).push {cls:=.type "tuple",data:=.seq #[.none,.none]}).push {cls:=.type "zip",data:=.fields #[.none,.bool false,.bool false,.ref (s.heap.objs.size+2),.ref (s.heap.objs.size+3)]}}):=
  .of_wp λprog w A R s h=>by
   obtain⟨hp,g,d,tk,os⟩:=s;obtain⟨hl1,UD,h⟩:=h;have Ru:isSubtype (.type "zip") (.type "zip")=pure true:=by rw[isSubtype_type];kernel_rfl
   have hL1:S1 (M9.heap ⟨hp,g,d,tk,os⟩) l1 xs:=hl1;have hL2:S2 (M9.heap ⟨hp.push (jG i1 l1),g,d,tk,os⟩) l2 ys:=(k2 prog w).up _ UD
   wp_walk using(k1 prog w).iter hL1,(k2 prog w).iter hL2
   refine⟨_,rfl,?_⟩;simp only[Po];exact h
 refine callType_new F.called_zip (by decide) (F.typeCall_zip_2 _ _) (F.newCall_zip_2 _ _) (λobj=>F.args_object_init_3 obj _ _) F.entry_zip_new nz ⟨hl1,UD,?_⟩;have at_:∀(h:Heap)(o:Obj)(n:Nat),h.objs.size=n->o.isFreed=false->(h.push o).get? n=some o:=λh o n e f=>by subst e;exact Pm _ f
 have g5:=at_ ((((s.heap.push (jG i1 l1)).push (jG i2 l2)).push {cls:=.type "tuple",data:=.seq #[.ref s.heap.objs.size,.ref (s.heap.objs.size+1)]}).push {cls:=.type "tuple",data:=.seq #[.none,.none]}) {cls:=.type "zip",data:=.fields #[.none,.bool false,.bool false,.ref (s.heap.objs.size+2),.ref (s.heap.objs.size+3)]} (s.heap.objs.size+4) (by simp[Po]) rfl;have g4:=at_ (((s.heap.push (jG i1 l1)).push (jG i2 l2)).push {cls:=.type "tuple",data:=.seq #[.ref s.heap.objs.size,.ref (s.heap.objs.size+1)]}) {cls:=.type "tuple",data:=.seq #[.none,.none]} (s.heap.objs.size+3) (by simp[Po]) rfl;have g3:=at_ ((s.heap.push (jG i1 l1)).push (jG i2 l2)) {cls:=.type "tuple",data:=.seq #[.ref s.heap.objs.size,.ref (s.heap.objs.size+1)]} (s.heap.objs.size+2) (by simp[Po]) rfl;have g2:=at_ (s.heap.push (jG i1 l1)) (jG i2 l2) (s.heap.objs.size+1) (by simp[Po]) rfl;have g1:=at_ s.heap (jG i1 l1) s.heap.objs.size rfl rfl;have p:=@Pj;exact⟨⟨_,g5,rfl⟩,h _ g5 (p _ (p _ g3)) (p _ g4) ⟨_,p _ (p _ (p _ (p _ g1))),rfl,rfl⟩ ⟨_,p _ (p _ (p _ g2)),rfl,rfl⟩ λc o x=>p _ (p _ (p _ (p _ (p _ x))))⟩
end
end Fc.ZT
namespace Fc
open PySem PySem.Spec PySem.W PySem.Calls L2
open PyProof.Rows hiding St
variable {i:Nat}{K:P1}{es:Kw}{tp:Pos}{R:Hp}{v:V}{pos:Pos}
section
variable {X:Cx}{Γ Γ1 Γ2 Γ3:Ga}{α β γ δ:Type}{N:Ga->Prop}{T:RT}
structure zz (z TI TO i1 i2:Addr):Prop where
 TIz:TI≠z
 TOz:TO≠z
 i1z:i1≠z
 i2z:i2≠z
 TITO:TI≠TO
 TIi1:TI≠i1
 TIi2:TI≠i2
 TOi1:TO≠i1
 TOi2:TO≠i2
 i12:i1≠i2
theorem lR {a b:Nat}(h:a<b∨b<a): @Ne Addr a b:=h.elim MB ML
theorem JU (n:Nat):zz (n+4) (n+2) (n+3) n (n+1):=⟨lR (by omega),lR (by omega),lR (by omega),lR (by omega),lR (by omega),lR (by omega),lR (by omega),lR (by omega),lR (by omega),lR (by omega)⟩
structure Ky where
 it:String
 Is:Heap->Addr->Array Value->Prop
 Sq:P1->Hp->Addr->List V->Prop
 kd:∀prog w,ZT.Kd prog w it Is
 get:∀{X:Cx}{QN:Kq}{σ:St}{H:Hp}{s:M9}{a:Addr}{xs:List V},Inv X QN σ H s->Sq X.K H a xs->∃QO,Vals xs QO/\Is s.heap a QO.toArray
 inj:∀{X:Cx}{QN:Kq}{σ:St}{H:Hp}{s:M9}{a:Addr}{xs ys:List V},Inv X QN σ H s->Sq X.K H a xs->Sq X.K H a ys->xs=ys
def Ad:Ky:=⟨_,_,bt,λ_ _=>ZT.Kf,λI h=>by obtain⟨QO,r,p,_⟩:=I.list h;exact⟨QO,r,p.isList⟩,λI h h'=>I.jP h h'⟩
def Jp:Ky:=⟨_,_,dC,λ_ _=>ZT.JK,λI h=>by obtain⟨QO,r,p,_⟩:=I.tuple h;exact⟨QO,r,p⟩,λI h h'=>I.oX h h'⟩
variable {k1 k2:Ky}
def IS (k1 k2:Ky)(K:P1)(a b:Addr):It:=
 ⟨λi H=>∃xs ys x y,k1.Sq K H a xs/\k2.Sq K H b ys/\xs[i]?=some x/\ys[i]?=some y,
  λi H v H'=>∃p x y,H p=none/\v= .ref p/\H'=upd H p (.tup [x,y])/\(∀xs,k1.Sq K H a xs->xs[i]?=some x)/\∀ys,k2.Sq K H b ys->ys[i]?=some y,
  λi H=>∃xs ys,k1.Sq K H a xs/\k2.Sq K H b ys/\(xs.length<=i∨ys.length<=i)⟩
def IT (k1 k2:Ky)(z TI TO i1 i2 a b:Addr)(i:Nat)(h:Heap):Prop:=
 IsZip h z TI TO .none/\Nz h TI (.ref i1) (.ref i2)/\(∃u v,Nz h TO u v)/\ZT.sh k1.it h i1 a i/\ZT.sh k2.it h i2 b i/\a≠TO/\b≠TO
theorem Jl {P:Nf}{w:World}{h:Heap}{z TI TO i1 i2 a b:Addr}{xs ys:Array Value}(F:zz z TI TO i1 i2)(st:IT k1 k2 z TI TO i1 i2 a b i h)(pa:k1.Is h a xs)(pb:k2.Is h b ys):OR z TI TO i1 i2 a b:=by
 obtain⟨hz,_,_,⟨o1,e1,c1,_⟩,⟨o2,e2,c2,_⟩,n1,n2⟩:=st;have q1:o1.cls= .type "list_iterator"∨o1.cls= .type "tuple_iterator":=(k1.kd P w).nm.imp (λe=>by rw[c1,e]) (λe=>by rw[c1,e]);have q2:o2.cls= .type "list_iterator"∨o2.cls= .type "tuple_iterator":=(k2.kd P w).nm.imp (λe=>by rw[c2,e]) (λe=>by rw[c2,e]);exact⟨F.TIz,F.TOz,F.i1z,F.i2z,F.TITO,F.TIi1,F.TIi2,F.TOi1,F.TOi2,F.i12,
  (k1.kd P w).apart pa hz (.inl rfl),n1,(k1.kd P w).apart pa e1 (.inr q1),(k1.kd P w).apart pa e2 (.inr q2),
  (k2.kd P w).apart pb hz (.inl rfl),n2,(k2.kd P w).apart pb e1 (.inr q1),(k2.kd P w).apart pb e2 (.inr q2)⟩
theorem zF {P:Nf}{w:World}{k:Nat}(a b z TI TO i1 i2:Addr)(F:zz z TI TO i1 i2):Turn P w K (.Tuple es k tp) (IS k1 k2 K a b) [z,TI,TO,i1,i2] z (IT k1 k2 z TI TO i1 i2 a b) where
 mem:=by simp
 obj:=λi h st c hc=>by
  obtain⟨hz,Sm,⟨u,v,Sw⟩,⟨o1,e1,c1,d1⟩,⟨o2,e2,c2,d2⟩,_⟩:=st;simp only[K8,Le,or_false] at hc;rcases hc with rfl | rfl | rfl | rfl | rfl
  ·exact⟨_,hz,λv q=>by cases q⟩
  ·exact⟨_,Sm,λv q=>by cases q⟩
  ·exact⟨_,Sw,λv q=>by cases q⟩
  ·exact⟨o1,e1,λv q=>by rw[d1] at q;cases q⟩
  ·exact⟨o2,e2,λv q=>by rw[d2] at q;cases q⟩
 keep:=λi h h' st kk=>by
  obtain⟨hz,Sm,⟨u,v,Sw⟩,h1,h2,n⟩:=st;exact⟨kk z (by simp) _ hz,kk TI (by simp) _ Sm,⟨u,v,kk TO (by simp) _ Sw⟩,h1.imp λo q=>⟨kk i1 (by simp) o q.1,q.2⟩,h2.imp λo q=>⟨kk i2 (by simp) o q.1,q.2⟩,n⟩
 item:=by
  intro X hP hw hK hc i QN s σ H E I hf st hg;subst hP hw hK;obtain⟨xs,ys,x,y,hq,SG,hx,hy⟩:=hg;obtain⟨QO,r,pl⟩:=k1.get I hq;obtain⟨its',r',SY⟩:=k2.get I SG;obtain⟨u,hu,rx⟩:=r.get hx;obtain⟨u',hu',ry⟩:=r'.get hy;have D:=Jl (P:=X.prog) (w:=X.w) F st pl SY;have hh:=I.ok.hd hc;obtain⟨Vl,Sm,⟨c,d,Sw⟩,h1,h2,n⟩:=st;have hn:H s.heap.objs.size=none:=I.QQ.fresh (My _);refine ZT.Bs D ((k1.kd _ _).dr (A:=X.A.in1) hh (MQ D.l1i1)) ((k2.kd _ _).dr (A:=X.A.in1) hh (MQ D.l2i2)) Vl Sm Sw ⟨h1,pl⟩ ⟨h2,SY⟩ (x:=u) (y:=u') (by simpa using hu) (by simpa using hu') λh' a1 a2 a3 a4 a5 hk=>?_;refine⟨_,rfl,?_⟩;refine wpAny_letOwnedTupleGo_zip (s:={s with heap:=h'}) a1 λh3 hz3 UT=>?_;have lt:∀{c o},s.heap.get? c=some o->c≠s.heap.objs.size:=λe=>MB (Pl e);have hk2:∀b o,b∉[z,TI,TO,i1,i2]->s.heap.get? b=some o->h3.get? b=some o:=λb o hb q=>by
   simp only[K8,Le,or_false,not_or] at hb;exact UT.extBut b o hb.1 (hk b o hb.1 hb.2.2.1 hb.2.2.2.1 hb.2.2.2.2 q)
  have I1:Inv X QN σ H {s with heap:=h3,toks:=s.toks}:=ly I hk2 hf;have U4:h3.get? s.heap.objs.size=some {cls:=.type "tuple",data:=.seq #[u,u']}:=UT.extBut _ _ (MQ (lt Vl)) a5;have I2:Inv X QN σ (upd H s.heap.objs.size (.tup [x,y])) {s with heap:=h3,toks:=s.toks}:=
   adopt I1 (I.gZ (My _) hn) (I.sz) ⟨by show 2<=Nb;decide,[u,u'],.cons rx (.cons ry .nil),⟨_,U4,rfl,_,rfl⟩⟩
  refine⟨.ref s.heap.objs.size,_,I2,rfl,⟨s.heap.objs.size,x,y,hn,rfl,rfl,λzs hzs=>?_,λzs hzs=>?_⟩,⟨hz3,?_,⟨_,_,UT.extBut _ _ F.TOz a2⟩,a3.1.imp λo q=>⟨UT.extBut _ _ F.i1z q.1,q.2⟩,a4.1.imp λo q=>⟨UT.extBut _ _ F.i2z q.1,q.2⟩,n⟩,λb hb=>?_⟩
  ·rw[k1.inj I hzs hq];exact hx
  ·rw[k2.inj I hzs SG];exact hy
  ·exact UT.extBut _ _ F.TIz (hk _ _ F.TIz F.TITO F.TIi1 F.TIi2 Sm)
  ·have RJ:b≠s.heap.objs.size:=by
    simp only[K8,Le,or_false] at hb;rcases hb with rfl | rfl | rfl | rfl | rfl
    ·exact lt Vl
    ·exact lt Sm
    ·exact lt Sw
    ·obtain⟨_,e,_⟩:=h1;exact lt e
    ·obtain⟨_,e,_⟩:=h2;exact lt e
   rw[aA RJ];exact(hf b hb).1
 done:=by
  intro X hP hw hK hc i QN s σ H E I hf st hg;subst hP hw hK;obtain⟨xs,ys,hq,SG,hx⟩:=hg;obtain⟨QO,r,pl⟩:=k1.get I hq;obtain⟨its',r',SY⟩:=k2.get I SG;have D:=Jl (P:=X.prog) (w:=X.w) F st pl SY;have hh:=I.ok.hd hc;obtain⟨Vl,Sm,⟨c,d,Sw⟩,h1,h2,n⟩:=st;have l1:=r.length;have l2:=r'.length;refine ZT.Dw D ((k1.kd _ _).dr (A:=X.A.in1) hh (MQ D.l1i1)) ((k2.kd _ _).dr (A:=X.A.in1) hh (MQ D.l2i2)) Vl Sm Sw ⟨h1,pl⟩ ⟨h2,SY⟩ (hx.imp (λq=>by simp;omega) λq=>by simp;omega) λh' hk=>⟨rfl,?_⟩;refine ly (t':=s.toks) I (λb o hb q=>?_) hf;simp only[K8,Le,or_false,not_or] at hb;exact hk b o hb.1 hb.2.2.1 hb.2.2.2.1 hb.2.2.2.2 q
 self:=λ_ _ _ _ _ st h=>wpAny_pyIter_zip st.1 h
theorem mD {xs:List α}{ys:List β}{q:α×β}(h:(xs.zip ys)[i]?=some q):xs[i]?=some q.1/\ys[i]?=some q.2:=by
 rw[List.getElem?_zip_eq_some] at h;exact h
structure wb (k:Ky)(K:P1)(R:Hp)(v:V)(r:Rep α)(xs:List α):Prop where
 ex:∃a vs,v= .ref a/\(∀R' H,ax R R'->ax R' H->k.Sq K H a vs)/\vs.length=xs.length/\∀(i:Nat)(x:α),xs[i]?=some x->∃u,vs[i]?=some u/\r.R K R u x
theorem u7 {r:Rep α}{xs:List α}(h:(af r).R K R v xs):wb Ad K R v r xs:=by
 obtain⟨a,vs,rfl,hp,pp,_⟩:=h;exact⟨a,vs,rfl,λR' H s s'=>bt.of (s' _ _ (s _ _ hp)),pp.length,λi x hx=>dJ pp hx⟩
theorem GV {xs:Ks}(h:qy.R K R v xs):wb Jp K R v ag xs:=by
 obtain⟨a,rfl,hq⟩:=h;exact⟨a,_,rfl,λR' H s s'=>hq.imp (λh=>h.imp (λq=>s' _ _ (s _ _ q)) λ⟨o,q⟩=>⟨o,s' _ _ (s _ _ q)⟩) id,by rw[KY],λi x hx=>⟨_,by rw[K9,hx];rfl,rfl⟩⟩
def JL (k1 k2:Ky)(K:P1)(ta:TA):TI:=λσ H R=>ta σ H λvs H1=>∃a b xs ys,vs=[.ref a,.ref b]/\k1.Sq K H1 a xs/\k2.Sq K H1 b ys/\R (IS k1 k2 K a b) H1
theorem Fv {a b:Expr}{ta:TA}{p:Pos}{k:Nat}(hg:Gl X "zip")(hm:X.mg "zip"=none)(ha:PA X [a,b] ta)(hs:Nc [a,b] X.env=[(false,eval a X.env),(false,eval b X.env)])(Rp:Nc [b] X.env=[(false,eval b X.env)]):PI X (.Tuple es k tp) (.Call (.Name "zip" p) [a,b] [] pos) (JL k1 k2 X.K ta):=by
 intro QN s σ H R I h;refine Call_ (fC I hg hm boot_zip (MY (aO (ha pos QN s σ H _ I h) λus s1 ⟨vs,H1,I1,r1,q1⟩=>?_) (by rw[hs,Rp]) (by rw[Rp];rfl)));obtain⟨l,l',xs,ys,e,hq,SG,q⟩:=q1;subst e;cases r1 with
 | cons r rr=>
   cases rr with
   | cons r' rr=>
     cases rr
     cases r
     cases r'
     obtain⟨QO,_,pl⟩:=k1.get I1 hq;obtain⟨its',_,SY⟩:=k2.get I1 SG;have ll:l<s1.heap.objs.size:=by obtain⟨o,e,_⟩:=(k1.kd X.prog X.w).cl pl;exact Pl e
     have ll':l'<s1.heap.objs.size:=by obtain⟨o,e,_⟩:=(k2.kd X.prog X.w).cl SY;exact Pl e
     refine ZT.wm k1.kd k2.kd pl SY λh' a1 a2 a3 a4 a5 hk=>?_;refine wpAny_pyIter_zip a1 ?_;have I2:Inv X QN σ H1 {s1 with heap:=h'}:=I1.kept (t':=s1.toks) hk;have ff:∀b,s1.heap.objs.size<=b->jg X QN H1 b:=λb hb=>I1.gZ hb (I1.QQ.fresh hb);refine⟨s1.heap.objs.size+4,[s1.heap.objs.size+4,s1.heap.objs.size+2,s1.heap.objs.size+3,s1.heap.objs.size,s1.heap.objs.size+1],_,_,H1,rfl,I2,zF (k1:=k1) (k2:=k2) l l' _ _ _ _ _ (JU _),⟨a1,a2,⟨_,_,a3⟩,a4,a5,MB (MA ll (MJ _ 3)),MB (MA ll' (MJ _ 3))⟩,λb hb=>?_,q⟩;simp only[K8,Le,or_false] at hb;rcases hb with rfl | rfl | rfl | rfl | rfl
     ·exact ff _ (MJ _ 4)
     ·exact ff _ (MJ _ 2)
     ·exact ff _ (MJ _ 3)
     ·exact ff _ (My _)
     ·exact ff _ (MJ _ 1)
theorem t7 {a b:Expr}{p:Pos}{k:Nat}{q1:Rep γ}{q2:Rep δ}{x1:γ}{x2:δ}{r:Rep α}{r':Rep β}{xs:List α}{ys:List β}(hm:X.mg "zip"=none)(ha:EV X a Γ q1 x1 Γ1)(hb:EV X b Γ1 q2 x2 Γ2)(f1:∀{R:Hp}{v:V},q1.R X.K R v x1->wb k1 X.K R v r xs)(f2:∀{R:Hp}{v:V},q2.R X.K R v x2->wb k2 X.K R v r' ys)(hz:∀{R:Hp}{v v':V},q1.R X.K R v x1->q2.R X.K R v' x2->xs.length<=Nb∨ys.length<=Nb)(hs:Nc [a,b] X.env=[(false,eval a X.env),(false,eval b X.env)]:=by rfl)(Rp:Nc [b] X.env=[(false,eval b X.env)]:=by rfl)(hg:Gl X "zip":=by rfl):
 IV X (.Tuple es k tp) (.Call (.Name "zip" p) [a,b] [] pos) Γ (dh r r') (xs.zip ys) Γ2:=by
 refine⟨_,Fv (k1:=k1) (k2:=k2) hg hm (aU aR (aU aR bD Rp) (by rw[hs,Rp])) hs Rp,λσ H0 R0 H R E Rq q=>ha σ H0 R0 H R E _ λv H1 R1 E1 s1 e1=>hb σ H0 R0 H1 R1 E1 _ λv' H2 R2 E2 s2 e2=>?_⟩;have e1:=q1.mono (K:=X.K) s2 e1;have z:(xs.zip ys).length<=Nb:=by
  rw[Mv];exact(hz e1 e2).elim (Mz (MO _ _)) (Mz (MN _ _))
 obtain⟨a,vs,rfl,sa,la,pa⟩:=f1 e1;obtain⟨b,Ro,rfl,sb,lb,pb⟩:=f2 e2;refine⟨a,b,vs,Ro,rfl,sa _ _ (ax.refl _) E2.sub,sb _ _ (ax.refl _) E2.sub,q _ H2 R2 E2 (s1.trans s2) z λH' R' sR sH i=>⟨λy hy=>?_,λhi=>?_⟩⟩
 ·have hq:=sa _ _ sR sH;have SG:=sb _ _ sR sH;obtain⟨e1,e2⟩:=mD hy;obtain⟨v,hv,hr⟩:=pa _ _ e1;obtain⟨v',S6,Tt⟩:=pb _ _ e2;refine⟨⟨vs,Ro,v,v',hq,SG,hv,S6⟩,λv2 H3 Vm=>?_⟩;obtain⟨p,x,x',Vu,rfl,rfl,hy,hy'⟩:=Vm;have t1:=hy _ hq;have t2:=hy' _ SG;rw[hv] at t1;rw[S6] at t2;cases t1
  cases t2
  have s3:ax R' (upd R' p (.tup [v,v'])):=ax.fresh (sH.free Vu) _;exact⟨upd R' p (.tup [v,v']),Ext.fresh sH Vu _,p,_,_,rfl,aD,r.mono s3 (r.mono sR hr),r'.mono s3 (r'.mono sR Tt)⟩
 ·refine⟨vs,Ro,sa _ _ sR sH,sb _ _ sR sH,?_⟩;rw[Mv] at hi;omega
theorem DX {a b:Expr}{p:Pos}{k:Nat}{r:Rep α}{r':Rep β}{xs:List α}{ys:List β}(hm:X.mg "zip"=none)(ha:EV X a Γ (af r) xs Γ1)(hb:EV X b Γ1 (af r') ys Γ2)(hs:Nc [a,b] X.env=[(false,eval a X.env),(false,eval b X.env)]:=by rfl)(Rp:Nc [b] X.env=[(false,eval b X.env)]:=by rfl)(hg:Gl X "zip":=by rfl):
 IV X (.Tuple es k tp) (.Call (.Name "zip" p) [a,b] [] pos) Γ (dh r r') (xs.zip ys) Γ2:=t7 (k1:=Ad) (k2:=Ad) hm ha hb u7 u7 (λ⟨_,_,_,_,_,z⟩ _=>.inl z) hs Rp hg
theorem Bi {a b:Expr}{p:Pos}{k:Nat}{ys:Ks}{r:Rep α}{xs:List α}(hm:X.mg "zip"=none)(ha:EV X a Γ qy ys Γ1)(hb:EV X b Γ1 (af r) xs Γ2)(hs:Nc [a,b] X.env=[(false,eval a X.env),(false,eval b X.env)]:=by rfl)(Rp:Nc [b] X.env=[(false,eval b X.env)]:=by rfl)(hg:Gl X "zip":=by rfl):
 IV X (.Tuple es k tp) (.Call (.Name "zip" p) [a,b] [] pos) Γ (dh ag r) (ys.zip xs) Γ2:=t7 (k1:=Jp) (k2:=Ad) hm ha hb GV u7 (λ_ ⟨_,_,_,_,_,z⟩=>.inr z) hs Rp hg
end
end Fc
namespace HT
open PySem PySem.Spec PyProof.Rows
section
variable {prog:Nf}{w:World}{A:Nh}{E:Value->M9->Prop}{s:M9}
theorem lC {t sl:Addr}{items:Array Value}{vl vu:Value}{lo hi:Option Int}{Q:Value->M9->Prop}(ht:IsTup s.heap t items)(hs:s.heap.IsSliceOf sl vl vu .none)(pl:Oh vl lo)(pu:Oh vu hi)(hw:QX items.size 0 lo=0/\QX items.size items.size hi=items.size)(h:Q (.ref t) s):wpAny (model prog w) A (Oa (.ref t) (.ref sl)) Q E s:=by
 obtain⟨os,Uz,hcs,VU⟩:=id hs;have hTs:s.TypeIs (.ref sl) "slice":=⟨os,Uz,hcs⟩;unfold Oa
 try with_reducible refine Nv ?_
 first | refine Na (Nd ?_) | skip
 refine Na (wpAny_sequenceKey ht.typeIs (by decide) ?_);refine Na (Nx (name:=PK "__getitem__") ht.typeIs MZ
  (NT MZ ht.typeIs entry_tuple_getitem ?_ (args_tuple_getitem _ _)))
 show wpAny _ _ (Ot.Tuple.tupleItemsOf (.ref t) >>=_) _ _ s;refine Na (tupleItemsOf_ ht ?_);refine Na (OE hTs ?_);rw[QG (by decide)];refine Na (iE hs pl pu ?_);have hyes:(((QX items.size 0 lo:Nat):Int)==0&&(1:Int)==1&&(QX items.size items.size hi-QX items.size 0 lo)==items.size)=true:=by
  rw[hw.1,hw.2];simp
 show wpAny _ _ (if(((QX items.size 0 lo:Nat):Int)==0&&(1:Int)==1&&(QX items.size items.size hi-QX items.size 0 lo)==items.size)=true then _ else _) _ _ s;rw[QG hyes];refine Na ?_;unfold Ot.Tuple.tupleIsExact;refine Na (OE ht.typeIs (Nd ?_));rw[QG (by decide)];exact Na (Oj (Nd ⟨_,rfl,Nd h⟩))
end
end HT
namespace Fc
open PySem PySem.Spec PySem.W PySem.Calls L2
open PyProof.Rows hiding St
variable {X:Cx}{Γ Γ1 Γ2 Γ3:Ga}{α β γ δ:Type}{N:Ga->Prop}{T:RT}{a:Expr}{pos p2:Pos}{xs:List PV}{b:Expr}{x y:Str}{p:Pos}{H:Hp}{σ:St}{s:M9}{R:Hp}{r:Rep α}{r':Rep β}
def Kg (K:P1):V->Option Int->Option Int->Hp->VK->Prop:=λx lo hi H Q=>∃a xs,x= .ref a/\dC K H a xs/\
 (HT.QX xs.length 0 lo=0/\HT.QX xs.length xs.length hi=xs.length)/\Q x H
theorem Fx:yv X (Kg X.K):=by
 intro QN s σ H x v vl vu lo hi sl Q I rx hs pl pu h;obtain⟨a,xs,rfl,hx,hw,q⟩:=h;cases rx
 obtain⟨QO,r,ht,hz⟩:=I.tuple hx;have hlen:QO.toArray.size=xs.length:=by rw[K6];exact r.length.symm
 refine⟨"tuple",_,MZ.lookup,ht.typeIs,?_⟩;exact HT.lC ht hs pl pu (by rw[hlen];exact hw) ⟨.ref a,H,I,rfl,q⟩
theorem DF {lo hi:Option Expr}{l h:Option Int}(ha:EV X a Γ aH (.tup xs) Γ)(hl:OV X lo Γ l)(hh:OV X hi Γ h)(hw:HT.QX xs.length 0 l=0/\HT.QX xs.length xs.length h=xs.length):EV X (.Subscript a (.Slice lo hi none p2) pos) Γ aH (.tup xs) Γ:=by
 intro σ H0 R0 H R E Q q;obtain⟨tl,pl,kl⟩:=hl;obtain⟨th,ph,kh⟩:=hh;refine eS (jM Fx aR pl ph) (ha σ H0 R0 H R E _ λv H1 R1 E1 s1 e1=>kl σ H0 R0 H1 R1 E1 _ λH2 R2 E2 s2=>kh σ H0 R0 H2 R2 E2 _ λH3 R3 E3 s3=>?_);cases aH.mono (K:=X.K) (s2.trans s3) e1 with
 | @tup a' Ro _ hp pp=>
   exact⟨_,_,rfl,dC.of (E3.sub _ _ hp),by rw[pp.pair.length];exact hw,q _ _ _ E3 (s1.trans (s2.trans s3)) (.tup hp pp)⟩
theorem FZ {lo hi:Option Expr}{l h:Option Int}(ha:EV X a Γ aH (.tup xs) Γ)(hl:OV X lo Γ l)(hh:OV X hi Γ h):EV X (.Subscript a (.Slice lo hi none p2) pos) Γ aH (.tup (cut xs l h)) Γ:=by
 by_cases hw:HT.QX xs.length 0 l=0/\HT.QX xs.length xs.length h=xs.length
 ·have e:cut xs l h=xs:=by
   unfold cut;rw[hw.1,hw.2];simp
  rw[e];exact DF ha hl hh hw
 ·exact F3 ha hl hh hw
theorem oi (ha:EV X a Γ ag x Γ1)(hb:EV X b Γ1 ag y Γ2)(hz:x.length+y.length<=Nb):EV X (.BinOp a .Add b pos) Γ ag (x++y) Γ2:=ig vJ ha hb λR v u H Q e1 e2 q=>⟨x,y,e1,e2,hz,q _ rfl⟩
theorem nY (hm:X.mg "len"=none)(ha:EV X a Γ ag x Γ1)(hz:x.length<=Nb)(hs:Nc [a] X.env=[(false,eval a X.env)]:=by rfl)(hg:Gl X "len":=by rfl):EV X (.Call (.Name "len" p) [a] [] pos) Γ ah (x.length:Int) Γ1:=by
 intro σ H0 R0 H R E Q q;refine eS (da rh hg hm NR (aU aR bD hs) (by decide) (by decide) hs) (ha σ H0 R0 H R E _ λv H1 R1 E1 s1 e1=>?_);cases e1
 exact⟨x,rfl,hz,q _ H1 R1 E1 s1 rfl⟩
theorem Bf {p:Addr}{a b:HO}:upd (upd H p a) p b=upd H p b:=by
 funext c;by_cases h:c=p
 ·subst h;rw[aD,aD]
 ·rw[aA h,aA h,aA h]
theorem Ha {QN:Kq}(I:Inv X QN σ H s)(sub:ax R H)(hu:X.A.units<cLine){xs:List α}{v u:V}{vv uu:Value}(rv:RelV v vv)(ru:RelV u uu)(h1:(af r).R X.K R v xs)(h2:(af r').R X.K R u []):
 SeqAt.RcAt X.A s vv uu xs.isEmpty/\SeqAt.RcNeAt X.A s vv uu (!xs.isEmpty):=by
 obtain⟨a1,v1,rfl,e1,p1,_⟩:=h1;obtain⟨a2,v2,rfl,e2,p2,_⟩:=h2;cases rv;cases ru
 obtain⟨us,hv,pl,_⟩:=I.list (bt.of (sub _ _ e1));obtain⟨us',hw,SY,_⟩:=I.list (bt.of (sub _ _ e2));have n2:us'.toArray.size=0:=by rw[K6,← hw.length,p2.length];rfl
 have n1:us.toArray.size=xs.length:=by rw[K6,← hv.length,p1.length]
 cases xs with
 | nil=>
   have n1:us.toArray.size=0:=n1;have k1:=SeqAt.RcAt.lists (A:=X.A) (e:=λ_=>true) pl.isList SY.isList (by rw[n1,n2]) hu λj h1 h2=>QE h2 (by omega);have k2:=SeqAt.RcNeAt.lists (A:=X.A) (e:=λ_=>true) pl.isList SY.isList (by rw[n1,n2]) hu λj h1 h2=>QE h2 (by omega);rw[all_true] at k1 k2;exact⟨k1,k2⟩
 | cons a b=>
   have ne:(us.toArray.size != us'.toArray.size)=true:=by rw[n1,n2];rfl
   exact⟨SeqAt.RcAt.lists_lengths pl.isList SY.isList ne hu,SeqAt.RcNeAt.lists_lengths pl.isList SY.isList ne hu⟩
theorem FA (hu:X.A.units<cLine){xs:List α}:eu X .Eq (af r) (af r') xs [] xs.isEmpty:=
 ⟨λv u H Q=>∃R,ax R H/\(af r).R X.K R v xs/\(af r').R X.K R u []/\Q (.bl xs.isEmpty) H,λQN s σ H a b v u Q I rx ry ⟨R,sub,h1,h2,q⟩=>(Ha I sub hu rx ry h1 h2).1 _ _ _ _ ⟨.bl _,H,I,rfl,q⟩,λR H v u Q s h1 h2 q=>⟨R,s,h1,h2,q⟩⟩
variable {st:Stmt}{p1:Pos}{ys:List β}
def AW (i j:Int):Prop:=0<j/\j<=1000000000000000000
theorem y3:dc X (NS .FloorDiv) (rI AW λi j=>.int (i/j)):=ui λi j _ _ _ _ _ hc q=>by
 have h1:(0:Int)<j:=hc.1;have h2:j<=1000000000000000000:=hc.2;exact floordiv_int (by omega) (by rw[Int.fdiv_eq_ediv_of_nonneg i (by omega)];exact q) (.inl (PyProof.noPylong_of_log2 (MA ((Nat.log2_lt (by omega)).mpr (show j.natAbs<2 ^ 60 by omega)) (by decide))))
theorem bO {N1:Ga->Prop}{rest:List Stmt}(h1:W1 X st Γ N1 T)(h2:∀Γ',N1 Γ'->WS X rest Γ' N T):WS X (st::rest) Γ N T:=aj λσ H0 R0 H R E D dn dr=>h1 σ H0 R0 H R E D (λσ' H' R' Γ' E' s' n=>dn σ' H' R' Γ' E' s' (h2 Γ' n)) dr
theorem qG {x y:Int}(ha:EV X a Γ ah x Γ1)(hb:EV X b Γ1 ah y Γ2)(h:AW x y):EV X (.BinOp a .FloorDiv b pos) Γ ah (x/y) Γ2:=ig y3 ha hb λR v u H Q e1 e2 q=>⟨x,y,e1,e2,h,q _ rfl⟩
theorem A1 {x y:Int}(h0:0<=x)(h1:x<2 ^ 63):OP x y:=.of_left (Ow (by omega) (by omega))
def gm (x:Str)(i:Nat):Str:=⟨#[x.cps.getD i 0]⟩
theorem wq {i:Int}(ha:EV X a Γ ag x Γ1)(hb:EV X b Γ1 ah i Γ2)(h0:0<=i)(h1:i<(x.length:Int))(hz:x.length<=Nb)(hs:eP b:=by exact λ_ _=>rfl):EV X (.Subscript a b pos) Γ ag (gm x i.toNat) Γ2:=by
 intro σ H0 R0 H R E Q q;refine eS (i5 C9 aR aR hs) (ha σ H0 R0 H R E _ λv H1 R1 E1 s1 e1=>hb σ H0 R0 H1 R1 E1 _ λu H2 R2 E2 s2 e2=>?_);cases e1
 cases e2
 refine⟨x,i,x.cps.getD i.toNat 0,rfl,rfl,hz,?_,q _ H2 R2 E2 (s1.trans s2) rfl⟩;have hl:x.cps.toList.length=x.length:=by simp[Str.length]
 rw[mG h0 (by omega),K2 (by omega)];have:i.toNat<x.cps.size:=by have:x.length=x.cps.size:=rfl;omega
 simp[Array.getD,this]
theorem BM (i j:Nat){a:Addr}{xs:List α}{P:List α->List β->Prop}(hΓ:Γ[i]?=some (.ob (cz a r xs)))(hj:Γ[j]?=some (.mu r' ys))(hz:ys.length<=Nb)(h:P xs ys)(hN:X.N[j]?=some x:=by rfl)(hv:autoParam (cI X.env.scope x) Rt)(hd:Q0 x:=by decide)(QR:Rn x:=by decide):W1 X (.Return (some (.Name x p1)) pos) Γ N (Av X.K a r λxs'=>F4 X.K r' (P xs')):=λσ H0 R0 H R E D dn dr=>by
 obtain⟨b,vs,eb,hb,hR,pp⟩:=E.ent j _ hj;obtain⟨ea,⟨ws,ha,pa⟩,hRa⟩:=gq (E.ent i _ hΓ);exact sS (jh (bh hN hv hd QR)) ⟨.ref b,at_of eb,dr _ H R E.ext ⟨ws,xs,ha,hRa,pa,b,vs,ys,rfl,E.new j _ b hj rfl eb,hb,hR,pp,hz,h⟩⟩
variable {es:Kw}{ps:List Pk}{rr:Rep β}
theorem lj {K:P1}{R:Hp}:∀{vs:List V}{xs:Ks},PySem.Paired (ag.R K R) vs xs->vs=xs.map V.str
 | _,_,.nil=>rfl
 | _,_,.cons h t=>by rw[Lm,← lj t];exact congrArg (· ::_) h
theorem nr {xs:Ks}:eu X .In ag (af ag) x xs (decide (x∈xs)):=⟨_,kK,λR H v u Q s e1 e2 q=>by
 cases e1
 obtain⟨a,vs,rfl,hq,p,_⟩:=e2;have e:=lj p;subst e;exact⟨a,_,rfl,.inl (bt.of (s _ _ hq)),rfl,iX xs,by rw[QF KC,j6];exact q⟩⟩
theorem v9 {S:j7 α}{k:Nat}{xs:List α}{TM:List α->RT}{Q:VK}{H0 R0:Hp}(i:Nat)(C:aF X.prog X.w X.K X.mg X.base x k (eE r S X.K))(hr:br k X.A)(ha:HA X es Γ ps Γ1)(hΓ:Γ[i]?=some (.mu r xs))(hΓ1:Γ1[i]?=some (.mu r xs))(hS:S X.K xs ps TM)(E:aw X.K σ H0 R0 H R Γ)(q:∀a H1 R1 v H' R' xs',(σ[i]?).join=some (.ref a)->aw X.K σ H0 R0 H1 R1 Γ1->aw X.K σ H0 R0 H' R' (Γ1.set i (.mu r xs'))->ax R R'->TM xs' (del H1 a) v H' R'->Q v H')(hg:Gl X x)(Rj:(x==("__debug__":Str))=false)(he:Nc (.Name y p1::es) X.env=(false,eval (.Name y p1) X.env)::Nc es X.env)(Q3:(Nk pos (Nc es X.env)).any (·.1)=false)(hN:X.N[i]?=some y)(hv:cI X.env.scope y)(hd:(y==("__debug__":Str))=false)(QR:(y==("__classdict__":Str))=false):fq X (.Call (.Name x p) (.Name y p1::es) [] pos) σ H Q:=by
 obtain⟨f,fd,pn,F,hm,hk,hb⟩:=C.ex;obtain⟨a,vs,ea,_,_,_⟩:=E.ent i _ hΓ;refine eS (og F hr hg hm hk hb .nil qh (aU (bh hN hv hd QR) jj he) Rj he Q3) ⟨.ref a,at_of ea,ha σ H0 R0 H R E _ λus H1 R1 E1 s1 p1=>?_⟩;obtain⟨a',ws,Rr,hp,hR,pp⟩:=E1.ent i _ hΓ1;rw[ea] at Rr;cases Rr
 have h0:H0 a=none:=E1.new i _ a hΓ1 rfl ea;refine⟨R1,a,ws,xs,us,ps,TM,by rw[Lh],E1.sub,hR,hp,pp,p1,hS,λv H' R' S9 xs' xx h1 h2 pq t=>q a H1 R1 v H' R' xs' ea E1 ?_ (s1.trans xx.r) t⟩;have apart:∀(j:Nat)(e:Ent),j≠i->Γ1[j]?=some e->a∉e.fp (σ[j]?).join:=λj e hj qj w=>hj (E1.ds j i e _ a qj hΓ1 w (cw.mpr ea));have E2:aw X.K σ H0 R0 H1 R1 (Γ1.set i .no):=E1.tell hΓ1 trivial λb w=>by cases w
 have E3:=E2.AU (a:=a) (λj e qj w=>by
  rcases set_at qj with⟨rfl,rfl,_⟩ | ⟨hj,q1⟩
  ·cases w
  ·exact apart j e hj q1 w) h0 xx
 have hl:i<Γ1.length:=(KW.mp hΓ1).1;have E4:=E3.nq (i:=i) (e0:=.no) (en:=.mu r xs') (Lb hl) (by rw[ea];exact⟨a,S9,rfl,h1,h2,pq⟩) λb w=>by
  have eb:b=a:=by rw[cw.mp w] at ea;cases ea;rfl
  subst eb;exact⟨h0,λj e hj qj=>apart j e hj (by rwa [Ll (MQ hj)] at qj)⟩
 rw[Ml] at E4;exact E4
theorem xv (i:Nat){S:j7 α}{k:Nat}{xs st:List α}{zs:List β}(C:aF X.prog X.w X.K X.mg X.base x k (eE r S X.K))(hr:br k X.A)(ha:HA X es Γ ps Γ1)(hΓ:Γ[i]?=some (.mu r xs))(hΓ1:Γ1[i]?=some (.mu r xs))(hS:S X.K xs ps (λxs'=>F4 X.K rr λw=>xs'=st/\w=zs))(Q5:∀(R:Hp)(vs:List V),PySem.Paired (r.R X.K R) vs st->PySem.Paired (rr.R X.K R) vs zs->False)(hg:Gl X x:=by rfl)(Rj:Q0 x:=by decide)(he:Nc (.Name y p1::es) X.env=(false,eval (.Name y p1) X.env)::Nc es X.env:=by rfl)(Q3:(Nk pos (Nc es X.env)).any (·.1)=false:=by rfl)(hN:X.N[i]?=some y:=by rfl)(hv:autoParam (cI X.env.scope y) Rt)(hd:Q0 y:=by decide)(QR:Rn y:=by decide):
 aI X (.Call (.Name x p) (.Name y p1::es) [] pos) Γ rr zs (Γ1.set i (.mu r st)):=λσ H0 R0 H R E Q q=>
 v9 i C hr ha hΓ hΓ1 hS E (λa H1 R1 v H' R' xs' ea E1 E' s' t=>by
  obtain⟨b,vs,ys,rfl,h0,h1,h2,pp,hz,rfl,rfl⟩:=t;have hba:b≠a:=λz=>by
   subst z;obtain⟨a',ws,Rr,Uy,_,RV⟩:=E'.ent i _ (Lb (KW.mp hΓ1).1);rw[ea] at Rr;cases Rr
   rw[h1] at Uy;cases Uy
   exact Q5 _ _ RV pp
  have h0:H1 b=none:=by
   unfold del at h0;rwa [QF hba] at h0
  refine q b vs H' R' E' s' h1 h2 (E1.ext.h.free h0) (λj e qj w=>?_) pp hz;rcases set_at qj with⟨rfl,rfl,_⟩ | ⟨hj,q1⟩
  ·exact E1.off h0 _ _ hΓ1 w
  ·exact E1.off h0 j e q1 w) hg Rj he Q3 hN hv hd QR
variable {as:Ku}{Rk:List (List α)}{K:P1}{j:Nat}{ws:List V}{RK:List Stmt}{e:Expr}{ap cp:Pos}
section
variable {b:Addr}
def hV (K:P1)(r:Rep α)(H R:Hp)(as:Ku)(Rk:List (List α)):Prop:=as.length=Rk.length/\∀(i:Nat)(b:Addr)(xs:List α),as[i]?=some b->Rk[i]?=some xs->∃ws,H b=some (.lst ws)/\PySem.Paired (r.R K R) ws xs
theorem hV.one (h:hV K r H R as Rk)(hb:b∈as):∃ws,H b=some (.lst ws):=by
 obtain⟨i,hi,rfl⟩:=Mn.mp hb;obtain⟨ws,h1,_⟩:=h.2 i _ _ (K2 hi) (K2 (by rw[← h.1];exact hi));exact⟨ws,h1⟩
theorem hV.loc {H' R':Hp}(h:hV K r H R as Rk)(e:∀a∈as,H' a=H a)(s:ax R R'):hV K r H' R' as Rk:=
 ⟨h.1,λi b xs h1 h2=>by
   obtain⟨ws,q1,q2⟩:=h.2 i b xs h1 h2;exact⟨ws,(e b (K7 h1)).trans q1,Paired.map (λ_ _=>r.mono s) q2⟩⟩
theorem hV.put (h:hV K r H R as Rk)(nd:as.Nodup){xs:List α}(hb:as[j]?=some b)(hp:PySem.Paired (r.R K R) ws xs):hV K r (upd H b (.lst ws)) R as (Rk.set j xs):=by
 refine⟨by rw[LC];exact h.1,λi c q h1 h2=>?_⟩;by_cases UG:i=j
 ·subst UG;rw[hb] at h1;cases h1
  have hl:i<Rk.length:=by rw[← h.1];exact(KW.mp hb).1
  rw[Lb hl] at h2;cases h2
  exact⟨ws,aD,hp⟩
 ·rw[Ll (MQ UG)] at h2;have:c≠b:=λz=>by
   subst z;have l1:=(KW.mp h1);have l2:=(KW.mp hb);exact UG ((List.getElem_inj (h₀:=l1.1) (h₁:=l2.1) nd).mp (l1.2.trans l2.2.symm))
  rw[aA this];exact h.2 i c q h1 h2
theorem hV.snoc (h:hV K r H R as Rk){xs:List α}(hb:H b=some (.lst ws))(hp:PySem.Paired (r.R K R) ws xs):hV K r H R (as++[b]) (Rk++[xs]):=by
 refine⟨by rw[K3,K3,h.1];rfl,λi c q h1 h2=>?_⟩;rcases MG i as.length with hl | hl
 ·rw[Lr hl] at h1;rw[Lr (by rw[← h.1];exact hl)] at h2;exact h.2 i c q h1 h2
 ·rw[Lo hl] at h1;rw[Lo (by rw[← h.1];exact hl)] at h2;have e:i-as.length=0:=by
   have:=(KW.mp h1).1;simp at this;omega
  rw[e] at h1;rw[← h.1,e] at h2;simp at h1 h2;rw[← h1,← h2];exact⟨ws,hb,hp⟩
def eh (r:Rep α)(a:Addr)(as:Ku)(Rk:List (List α)):uK where
 fp:=a::as
 R:=λK H R v=>v= .ref a/\H a=some (.lst (as.map .ref))/\hV K r H R as Rk/\(a::as).Nodup
 loc:=λhH hR ⟨e,h1,h2,h3⟩=>⟨e,(hH a K4).trans h1,h2.loc (λb hb=>hH b (K0 _ hb)) hR,h3⟩
 has:=λ⟨e,h1,h2,h3⟩ b hb=>by
  rcases K8.mp hb with rfl | hb
  ·rw[h1];exact MR _
  ·obtain⟨r,hr⟩:=h2.one hb;rw[hr];exact MR _
theorem WS.Gp (i:Nat)(hΓ:Γ[i]?=some (.mu rr []))(h:∀a,WS X RK (Γ.set i (.ob (eh r a [] []))) N T):WS X RK Γ N T:=λσ H0 R0 H R E D dn dr=>by
 obtain⟨a,vs,ea,ha,hR,pp⟩:=E.ent i _ hΓ;cases pp
 refine h a σ H0 R0 H R (E.tell hΓ ⟨⟨.ref a,ea,rfl,ha,⟨rfl,λi b r h1=>by simp at h1⟩,by simp⟩,λb hb=>?_⟩ λb w=>?_) D dn dr
 ·rw[show b=a by simpa[eh] using hb];exact hR
 ·rw[show b=a by simpa[Ent.fp,eh] using w];exact cw.mpr ea
theorem DW {k:Int}(hk:eT as.length k=some j)(hb:as[j]?=some b):cq (as.map V.ref) k=some (.ref b):=by
 unfold cq;rw[KY,hk];show(as.map V.ref)[j]?=_;rw[K9,hb];rfl
theorem vT (i:Nat){a:Addr}{ys:List α}(he:aI X e Γ r ys Γ1)(hΓ:Γ[i]?=some (.ob (eh r a as Rk)))(hΓ1:Γ1[i]?=some (.ob (eh r a as Rk)))(hz:Rk.length<Nb)(h:∀b,N (Γ1.set i (.ob (eh r a (as++[b]) (Rk++[ys])))))(hN:X.N[i]?=some x:=by rfl)(hv:autoParam (cI X.env.scope x) Rt)(hd:Q0 x:=by decide)(QR:Rn x:=by decide)(RR:Nl (.Call (.Attribute (.Name x p1) "append" ap) [e] [] cp) none pos.line X.env=pure false:=by rfl)(QS:Ni (.Name x p1) "append" X.env (eval (.Name x p1) X.env)=eval (.Name x p1) X.env:=by rfl)(Ri:((Nk cp (Nc [e] X.env)).all (λx=> !x.1)&&(NY cp (ND [] X.env)).all (λx=>x.1.isSome)
  &&decide ([e].length+([]:List Nt).length+(if([]:List Nt).isEmpty then 0 else 1)<30))=true:=by rfl)(QZ:(ap.endLine==cp.line)=true:=by rfl)(hs:Nc [e] X.env=(false,eval e X.env)::Nc [] X.env:=by rfl):W1 X (.Expr (.Call (.Attribute (.Name x p1) "append" ap) [e] [] cp) pos) Γ N T:=λσ H0 R0 H R E D dn dr=>by
 obtain⟨⟨v,ea,rfl,ha,hr,_⟩,hR⟩:=E.ent i _ hΓ;refine sS (f9 (hX Pa PySem.F.slot_list_append PySem.F.type_list_append oU (bh hN hv hd QR) (aU aR bD hs) QS Ri QZ hs rfl) RR) ?_;refine⟨.ref a,at_of ea,.inl ⟨rfl,_,bt.of ha⟩,he σ H0 R0 H R E _ λb vs H2 R2 E2 s2 hb hRb h0b Vc pp _=>?_⟩;obtain⟨⟨v,ea2,rfl,V5,SQ,nd2⟩,V7⟩:=E2.ent i _ hΓ1;obtain⟨n1,n2⟩:=LO.mp nd2;have hl:as.length=Rk.length:=SQ.1;have bne:b∉a::as:=λz=>Vc i _ hΓ1 z;have bna:b≠a:=λz=>bne (z▸K4);refine⟨a,_,.ref b,rfl,rfl,V5,by rw[KY,hl];exact hz,?_⟩;refine dn σ _ R2 _ (E2.n8 (en:=.ob (eh r a (as++[b]) (Rk++[ys]))) hΓ1 K4 ⟨⟨.ref a,ea2,rfl,?_,?_,?_⟩,λc hc=>?_⟩ λc w=>?_) s2 (h b)
 ·rw[aD,Lj];rfl
 ·refine(SQ.snoc hb pp).loc (λc hc=>aA λz=>?_) (ax.refl _);rw[z] at hc;rcases Lf.mp hc with q | q
  ·exact n1 q
  ·exact bna (KZ.mp q).symm
 ·refine LO.mpr ⟨λz=>?_,jz n2 λz=>bne (K0 _ z)⟩;rcases Lf.mp z with q | q
  ·exact n1 q
  ·exact bna (KZ.mp q).symm
 ·rcases K8.mp hc with rfl | hc
  ·exact V7 _ K4
  ·rcases Lf.mp hc with q | q
   ·exact V7 _ (K0 _ q)
   ·rw[KZ.mp q];exact hRb
 ·rcases K8.mp w with rfl | w
  ·exact .inl K4
  ·rcases Lf.mp w with q | q
   ·exact .inl (K0 _ q)
   ·rw[KZ.mp q];exact .inr ⟨h0b,Vc⟩
end
variable {c:Addr}
section
variable {a:Addr}{n:Nat}
theorem oo {a:Expr}{Sg:Pos}{m n:Int}(S7:X.mg "list"=none)(Vz:X.mg "range"=none)(ha:HA X [a,b] Γ [⟨ah,m⟩,⟨ah,n⟩] Γ1)(hm: -1000000<=m/\m<=1000000)(hn: -1000000<=n/\n<=1000000)(hs:Nc [a,b] X.env=(false,eval a X.env)::Nc [b] X.env:=by rfl)(Q3:(Nk Sg (Nc [b] X.env)).any (·.1)=false:=by rfl)(Rp:Nc [.Call (.Name "range" p2) [a,b] [] Sg] X.env=[(false,eval (.Call (.Name "range" p2) [a,b] [] Sg) X.env)]:=by rfl)(hc:X.calm=true:=by rfl)(hg:Gl X "list":=by rfl)(hgr:Gl X "range":=by rfl):aI X (.Call (.Name "list" p1) [.Call (.Name "range" p2) [a,b] [] Sg] [] pos) Γ ah (ups m (n-m).toNat) Γ1:=by
 intro σ H0 R0 H R E Q q;refine eS (gW (kf hc) hg S7 PyProof.Rows.boot_list (aU (gW nP hgr Vz M5 jj (by decide) (by decide) hs Q3) bD Rp) (by decide) (by decide) Rp) (ha σ H0 R0 H R E _ λvs H1 R1 E1 s1 e1=>?_);have e:vs=[.int m,.int n]:=by
  cases e1 with
  | cons a1 t=>cases t with
    | cons a2 t=>cases t;cases a1;cases a2;rfl
 subst e;refine⟨m,n,rfl,λp hp=>⟨p,m,n,rfl,aD,hm.1,hm.2,hn.1,hn.2,λd hd=>?_⟩⟩;have E2:=E1.grow (Ext.dj E1.sub hp (.Tc m n));exact q d _ _ R1 (E2.grow (Ext.dj E2.sub hd _)) s1 aD (E2.sub.free hd) (E2.ext.h.free hd) (E2.off hd) (paired_ints _) (by rw[bK];exact Mz (show(n-m).toNat<=2000000 by omega) (by decide))
theorem aw.Ki {H0 R0:Hp}{i:Nat}{B:uK}(E:aw K σ H0 R0 H R Γ)(hΓ:Γ[i]?=some (.ob B)):aw K σ H0 R0 H (λb=>if b∈B.fp then H b else R b) (Γ.set i .no)/\ax R (λb=>if b∈B.fp then H b else R b):=by
 have h0:∀b∈B.fp,H0 b=none:=λb hb=>E.nw i _ b hΓ hb;have hR:∀b∈B.fp,R b=none:=(E.ent i _ hΓ).2;have sR:ax R (λb=>if b∈B.fp then H b else R b):=λb o q=>by
  show(if b∈B.fp then H b else R b)=some o;rw[QF λw=>by rw[hR b w] at q;cases q];exact q
 refine⟨⟨⟨E.ext.h,E.ext.r.trans sR,λb o q=>?_,λb hb=>?_⟩,λj e q=>?_,λj e b q w=>?_,λj k e e' b q q' w w'=>?_,by rw[LC];exact E.len⟩,sR⟩
 ·have q:(if b∈B.fp then H b else R b)=some o:=q;by_cases hb:b∈B.fp
  ·rw[QG hb] at q;exact q
  ·rw[QF hb] at q;exact E.sub b o q
 ·show(if b∈B.fp then H b else R b)=_;rw[QF λw=>hb (h0 b w)];exact E.ext.old b hb
 ·rcases set_at q with⟨rfl,rfl,_⟩ | ⟨hj,q1⟩
  ·trivial
  ·have h1:=E.ent j e q1;refine h1.loc (λb hb=>rfl) sR λb hb=>?_;show(if b∈B.fp then H b else R b)=none;rw[QF (show¬b∈B.fp from λw=>hj (E.ds j i e _ b q1 hΓ hb w))];exact(Ent.gx h1 hb).2
 ·rcases set_at q with⟨rfl,rfl,_⟩ | ⟨hj,q1⟩
  ·cases w
  ·exact E.nw j e b q1 w
 ·rcases set_at q with⟨rfl,rfl,_⟩ | ⟨hj,q1⟩
  ·cases w
  ·rcases set_at q' with⟨rfl,rfl,_⟩ | ⟨hk,Sf⟩
   ·cases w'
   ·exact E.ds _ _ _ _ b q1 Sf w w'
theorem hV.pair {K:P1}{H R R':Hp}(sR:ax R R'):∀{bs:Ku}{yss:List (List α)},(∀b∈bs,R' b=H b)->hV K r H R bs yss->(∀xs∈yss,xs.length<=Nb)->PySem.Paired ((af r).R K R') (bs.map .ref) yss
 | [],[],_,_,_=>.nil
 | [],_::_,_,h,_=>QE h.1 (by simp)
 | _::_,[],_,h,_=>QE h.1 (by simp)
 | b::bs,ys::yss,hm,h,hz=>by
   obtain⟨ws,q1,q2⟩:=h.2 0 b ys rfl rfl;exact .cons ⟨b,ws,rfl,(hm b K4).trans q1,Paired.map (λ_ _=>r.mono sR) q2,hz ys K4⟩ (hV.pair sR (λc hc=>hm c (K0 _ hc)) ⟨by simpa using h.1,λi c xs h1 h2=>h.2 (i+1) c xs (by simpa using h1) (by simpa using h2)⟩ λxs hx=>hz xs (K0 _ hx))
theorem WS.HZ (i:Nat)(hΓ:Γ[i]?=some (.ob (eh r a as Rk)))(hz:Rk.length<=Nb)(hzi:∀xs∈Rk,xs.length<=Nb)(h:WS X RK (Γ.set i (.im (af (af r)) Rk)) N T):WS X RK Γ N T:=λσ H0 R0 H R E D dn dr=>by
 obtain⟨⟨v,ea,rfl,ha,hr,nd⟩,hR⟩:=E.ent i _ hΓ;obtain⟨E1,sR⟩:=E.Ki hΓ;have hl:i<Γ.length:=(KW.mp hΓ).1;have E2:=E1.tell (i:=i) (e0:=.no) (en:=.im (af (af r)) Rk) (Lb hl) ⟨.ref a,ea,a,_,rfl,(QG K4).trans ha,hV.pair sR (λb hb=>QG (K0 _ hb)) hr hzi,hz⟩ λb w=>by cases w
 rw[Ml] at E2;exact h σ H0 R0 H _ E2 D (λσ2 H2 R2 Γ2 E3 s2=>dn σ2 H2 R2 Γ2 E3 (sR.trans s2)) dr
theorem A8 (i j:Nat){k:Int}(hb:EV X b Γ ah k Γ1)(hΓ:Γ[i]?=some (.ob (eh r a as Rk)))(hΓ1:Γ1[i]?=some (.ob (eh r a as Rk)))(hk:eT Rk.length k=some n)(h:∀c,as[n]?=some c->N (Γ1.set j (.im nW c)))(hNx:X.N[i]?=some x:=by rfl)(hv:autoParam (cI X.env.scope x) Rt)(hd:Q0 x:=by decide)(QR:Rn x:=by decide)(hsx:eP b:=by exact λ_ _=>rfl)(hN:X.N.Nodup:=by first | assumption | decide)(hi:X.N[j]?=some y:=by rfl)(hx:autoParam (Loc X.env.scope y) SW)(hs:Nl (.Subscript (.Name x p) b p2) (some (.Name y p1)) pos.line X.env=pure false:=by rfl)(hf:autoParam (X.fn y=true∨X.env.scope.names.lookup y=some .local) SV):
 W1 X (.Assign [.Name y p1] (.Subscript (.Name x p) b p2) pos) Γ N T:=λσ H0 R0 H R E D dn dr=>by
 obtain⟨⟨v,ea,rfl,ha,hr,_⟩,hR⟩:=E.ent i _ hΓ;refine sS (iM hN hi hx aR hs hf) (eS (i5 iq (bh hNx hv hd QR) aR hsx) ⟨.ref a,at_of ea,hb σ H0 R0 H R E _ λu H2 R2 E2 s2 e2=>?_⟩);obtain⟨⟨v,ea2,rfl,V5,SQ,nd⟩,V7⟩:=E2.ent i _ hΓ1;have hl:n<as.length:=by rw[SQ.1];exact(nQ hk).2.1
 refine⟨a,_,k,.ref as[n],rfl,e2,bt.of V5,DW (by rw[SQ.1];exact hk) (K2 hl),?_⟩;exact dn _ H2 R2 _ (E2.set j (r:=nW) (x:=as[n]) rfl) s2 (h _ (K2 hl))
theorem y9 (i j:Nat){xs:List α}(hm:X.mg "len"=none)(hΓ:Γ[i]?=some (.ob (eh r a as Rk)))(hj:Γ[j]?=some (.im nW c))(hc:as[n]?=some c)(hx:Rk[n]?=some xs)(hN:X.N[j]?=some y:=by rfl)(hv:autoParam (cI X.env.scope y) Rt)(hd:Q0 y:=by decide)(QR:Rn y:=by decide)(hs:Nc [.Name y p1] X.env=[(false,eval (.Name y p1) X.env)]:=by rfl)(hg:Gl X "len":=by rfl):EV X (.Call (.Name "len" p) [.Name y p1] [] pos) Γ ah (xs.length:Int) Γ:=λσ H0 R0 H R E Q q=>by
 obtain⟨⟨v,ea,rfl,ha,hr,nd⟩,hR⟩:=E.ent i _ hΓ;obtain⟨v0,e0,Vp⟩:=E.ent j _ hj;cases Vp
 obtain⟨ws,q1,q2⟩:=hr.2 n c xs hc hx;refine eS (da fR hg hm NR (aU (bh hN hv hd QR) bD hs) (by decide) (by decide) hs) ⟨.ref c,at_of e0,c,_,rfl,.inl (bt.of q1),?_⟩;rw[q2.length];exact q _ H R E (ax.refl _) rfl
theorem tI {P:V->α->Prop}{v:V}{y:α}(k:Nat):∀{vs:List V}{xs:List α},P v y->PySem.Paired P vs xs->PySem.Paired P (cb k v vs) (cb k y xs):=by
 induction k with
 | zero=>exact λh p=>.cons h p
 | succ k ih=>
   intro vs xs h p;cases p with
   | nil=>exact .cons h .nil
   | cons a t=>exact .cons a (ih h t)
theorem Cn (i j:Nat){e1 e2:Expr}{xs:List α}{y:α}{k:Int}(h1:EV X e1 Γ ah k Γ1)(h2:EV X e2 Γ1 r y Γ2)(hΓ:Γ[i]?=some (.ob (eh r a as Rk)))(hj:Γ[j]?=some (.im nW c))(hc:as[n]?=some c)(hΓ2:Γ2[i]?=some (.ob (eh r a as Rk)))(hx:Rk[n]?=some xs)(k0:0<=k)(k1:k<=(xs.length:Int))(hz:xs.length<Nb)(h:N (Γ2.set i (.ob (eh r a as (Rk.set n (cb k.toNat y xs))))))(hN:X.N[j]?=some x:=by rfl)(hv:autoParam (cI X.env.scope x) Rt)(hd:Q0 x:=by decide)(QR:Rn x:=by decide)(RR:Nl (.Call (.Attribute (.Name x p1) "insert" ap) [e1,e2] [] cp) none pos.line X.env=pure false:=by rfl)(QS:Ni (.Name x p1) "insert" X.env (eval (.Name x p1) X.env)=eval (.Name x p1) X.env:=by rfl)(Ri:((Nk cp (Nc [e1,e2] X.env)).all (λx=> !x.1)&&(NY cp (ND [] X.env)).all (λx=>x.1.isSome)
  &&decide ([e1,e2].length+([]:List Nt).length+(if([]:List Nt).isEmpty then 0 else 1)<30))=true:=by rfl)(QZ:(ap.endLine==cp.line)=true:=by rfl)(hs:Nc [e1,e2] X.env=(false,eval e1 X.env)::Nc [e2] X.env:=by rfl)(Rp:Nc [e2] X.env=(false,eval e2 X.env)::Nc [] X.env:=by rfl)(Q3:(Nk cp (Nc [e2] X.env)).any (·.1)=false:=by rfl):
 W1 X (.Expr (.Call (.Attribute (.Name x p1) "insert" ap) [e1,e2] [] cp) pos) Γ N T:=λσ H0 R0 H R E D dn dr=>by
 obtain⟨⟨v,ea,rfl,ha,hr,nd⟩,hR⟩:=E.ent i _ hΓ;obtain⟨v0,e0,Vp⟩:=E.ent j _ hj;cases Vp
 obtain⟨ws,q1,q2⟩:=hr.2 n c xs hc hx;refine sS (f9 (hX Pa PySem.F.slot_list_insert PySem.F.type_list_insert yc (bh hN hv hd QR) (aU aR (aU aR bD Rp) hs) QS Ri QZ hs Q3) RR) ?_;refine⟨.ref c,at_of e0,.inl ⟨rfl,_,bt.of q1⟩,h1 σ H0 R0 H R E _ λv1 H1 R1 E1 s1 r1=>h2 σ H0 R0 H1 R1 E1 _ λv2 H2 R2 E2 s2 r2=>?_⟩;cases r1
 obtain⟨⟨v,ea2,rfl,V5,SQ,nd2⟩,V7⟩:=E2.ent i _ hΓ2;obtain⟨ws2,q3,q4⟩:=SQ.2 n c xs hc hx;obtain⟨n1,n2⟩:=LO.mp nd2;have cm:c∈as:=K7 hc;refine⟨c,ws2,k,v2,rfl,rfl,q3,k0,by rw[q4.length];exact k1,by rw[q4.length];exact hz,?_⟩;refine dn σ _ R2 _ (E2.n8 (en:=.ob (eh r a as (Rk.set n (cb k.toNat y xs)))) hΓ2 (K0 _ cm) ⟨⟨.ref a,ea2,rfl,?_,SQ.put n2 hc (tI _ r2 q4),nd2⟩,V7⟩ λc w=>.inl w) (s1.trans s2) h;rw[aA (show a≠c from λz=>n1 (z▸cm))];exact V5
end
variable {P:Nf}{w:World}
section
variable {tg:Expr}
def IK (x:Str):It:=⟨λi _=>i<x.cps.size,λi H v H'=>H'=H/\v= .str (gm x i),λi _=>x.cps.size<=i⟩
theorem yX (x:Str)(t:Tok)(it:Addr):Turn P w K tg (IK x) [it] it (λi h=>h.IsStrIter it "str_ascii_iterator" x t i) where
 mem:=by simp
 obj:=λi h st b hb=>by
  have e:b=it:=by simpa using hb
  subst e;obtain⟨o,e,c,d⟩:=st;exact⟨o,e,λv z=>by rw[d] at z;cases z⟩
 keep:=λi h h' st k=>by
  obtain⟨o,e,r⟩:=st;exact⟨o,k it (by simp) o e,r⟩
 item:=by
  intro X hP hw hK hc i QN s σ H E I hf st hg;subst hP hw hK;obtain⟨f0,f1,f2,f3,f4,f5⟩:=hf it (by simp);have W:=Walks.strAscii (prog:=X.prog) (w:=X.w) (I.ok.hd hc) it x t;refine W.item i s _ _ hg st λv h' tk hv So kk=>?_;obtain⟨c,u,hx,rfl⟩:=hv;have I1:Inv X QN σ H {s with heap:=h',toks:=tk}:=I.turned (λb o hb e=>kk b o (by simpa using hb) e) f0 f1 f3 f4 f5;obtain⟨o,e,cc,d⟩:=id So;have Sv:gm x i=⟨#[c]⟩:=by unfold gm;rw[show x.cps.getD i 0=c by rw[KA,hx];rfl]
  exact⟨_,rfl,lr (s:={s with heap:=h',toks:=tk}) e cc d (by decide) ⟨.str (gm x i),H,I1,⟨u,by rw[Sv]⟩,⟨rfl,rfl⟩,So,λb hb=>(hf b hb).1⟩⟩
 done:=by
  intro X hP hw hK hc i QN s σ H E I hf st hg;subst hP hw hK;obtain⟨f0,f1,f2,f3,f4,f5⟩:=hf it (by simp);exact wpAny_pyNext_ascii_end (I.ok.hd hc) st (by have:x.cps.size<=i:=hg;simp[this]) λh' eb=>⟨rfl,I.turned (t':=s.toks) (λb o hb e=>eb b o hb e) f0 f1 f3 f4 f5⟩
 self:=λ_ _ _ _ _ st h=>wpAny_pyIter_striter_ascii st h
def Jz (tl:TE):TI:=λσ H R=>tl σ H λx H1=>∃z:Str,x= .str z/\z.cps.all (· < 128)=true/\R (IK z) H1
theorem D4 {l:Expr}{tl:TE}(hl:PE X l tl):PI X tg l (Jz tl):=by
 intro QN s σ H R I h;refine aO (hl QN s σ H _ I h) λv s1 ⟨x,H1,I1,r1,q1⟩=>?_;obtain⟨z,e,ha,q⟩:=q1;subst e;obtain⟨t,rfl⟩:=r1;refine wpAny_pyIter_ascii ha ?_;refine⟨s1.heap.objs.size,[s1.heap.objs.size],_,_,H1,rfl,I1.kept (t':=s1.toks) λb o e=>Pj _ e,yX z t _,⟨_,Pm _ rfl,rfl,rfl⟩,λb hb=>?_,q⟩;have e:b=s1.heap.objs.size:=by simpa using hb
 subst e;exact I1.gZ (My _) (I1.QQ.fresh (My _))
def ee (x:Str):Ks:=(Lq x.cps.size).map (gm x)
theorem r8 (ha:EV X a Γ ag x Γ1)(hx:x.cps.all (· < 128)=true)(hz:x.cps.size<=Nb):IV X tg a Γ ag (ee x) Γ1:=by
 refine⟨_,D4 aR,λσ H0 R0 H R E Rq q=>ha σ H0 R0 H R E _ λv H1 R1 E1 s1 e1=>?_⟩;cases e1
 refine⟨x,rfl,hx,q _ H1 R1 E1 s1 (by unfold ee;rw[KY,LM];exact hz) λH' R' sR sH i=>⟨λy hy=>?_,λhi=>?_⟩⟩
 ·unfold ee at hy;rw[K9] at hy;obtain⟨j,hj,rfl⟩:=MT.mp hy;obtain⟨hl,e⟩:=KW.mp hj;rw[LM] at hl;rw[List.getElem_range] at e;subst e;refine⟨hl,λv' H2 hy=>?_⟩;obtain⟨rfl,rfl⟩:=hy;exact⟨R',Ext.refl sH,rfl⟩
 ·unfold ee at hi;rw[KY,LM] at hi;exact hi
theorem qT {α:Type}(l:List α):∀m,m<=l.length->(Lq m).filterMap (l[·]?)=l.take m
 | 0,_=>rfl
 | m+1,h=>by
   rw[List.range_succ,List.filterMap_append,qT l m (by omega),Lw];simp[K2 (show m<l.length by omega)]
def fh (x:Str):Str:=⟨(x.cps.toList.take 7).toArray⟩
theorem JH:∀n,n<=8->Ot.Str.strSliceIndices none (some 7) 1 n=Lq (min n 7):=by
 intro n hn;have:∀j:Fin 9,Ot.Str.strSliceIndices none (some 7) 1 j.val=Lq (min j.val 7):=by decide +kernel
 exact this ⟨n,by omega⟩
theorem Ho (hx:x.length<=8):((Lq (min x.length 7)).filterMap (x.cps[·]?)).toArray=(x.cps.toList.take 7).toArray:=by
 have hl:x.cps.toList.length=x.length:=by simp[Str.length]
 have e:(Lq (min x.length 7)).filterMap (x.cps[·]?)=(Lq (min x.length 7)).filterMap (x.cps.toList[·]?):=by
  congr 1;funext i;simp
 rw[e,qT _ _ (by omega)];congr 1;by_cases h:x.length<=7
 ·rw[Nat.min_eq_left h,← hl,LA,Ma (by omega)]
 ·rw[Nat.min_eq_right (by omega)]
def JX:V->Option Int->Option Int->Hp->VK->Prop:=λx lo hi H Q=>∃z:Str,x= .str z/\lo=none/\hi=some 7/\z.length<=8/\Q (.str (fh z)) H
theorem JG:yv X JX:=by
 intro QN s σ H x v vl vu lo hi sl Q I rx hs pl pu h;obtain⟨z,rfl,rfl,rfl,hz,q⟩:=h;obtain⟨t,rfl⟩:=rx;cases pl
 cases pu with
 | int _ tu=>
   refine⟨"str",_,PySem.F.slot_str_getitem.lookup,Oi _ _ _,wpAny_getItem_str_slice (l:=none) (u:=some (7,tu)) (st:=none) hs rfl ?_⟩;have e:slicePicked z none (some (7,tu)) none=Lq (min z.length 7):=JH z.length hz;unfold sliceMade;rw[e,LM];split
   ·rename_i hh;have hl:min z.length 7=z.length:=by simpa using hh
    have hp:fh z=z:=by
     unfold fh;rw[Ma (by simp[Str.length] at hl ⊢;omega)]
    rw[hp] at q;exact⟨.str z,H,I,⟨t,rfl⟩,q⟩
   ·rw[Ho hz];refine⟨?_,.str (fh z),H,I.tok _,⟨_,rfl⟩,q⟩;show(List.take 7 z.cps.toList).toArray.size<=Nb;rw[K6,Lc];exact Mz (MO _ _) (by decide)
theorem C1 (ha:EV X a Γ ag x Γ)(hx:x.length<=8):EV X (.Subscript a (.Slice none (some (.Constant (.int 7) j p1)) none p2) pos) Γ ag (fh x) Γ:=by
 intro σ H0 R0 H R E Q q;obtain⟨tl,pl,kl⟩:=(ov_none:OV X none Γ none);obtain⟨th,ph,kh⟩:=(ov_some ev_int:OV X (some (.Constant (.int 7) j p1)) Γ (some 7));refine eS (jM JG aR pl ph) (ha σ H0 R0 H R E _ λv H1 R1 E1 s1 e1=>kl σ H0 R0 H1 R1 E1 _ λH2 R2 E2 s2=>kh σ H0 R0 H2 R2 E2 _ λH3 R3 E3 s3=>?_);cases e1
 exact⟨x,rfl,rfl,rfl,hx,q _ _ _ E3 (s1.trans (s2.trans s3)) rfl⟩
end
theorem sT:∀{ws:Ks}{QO:Kv},Vals (ws.map V.str) QO->∃l:List (Str×Tok),QO=OH l/\l.map (·.1)=ws
 | [],_,.nil=>⟨[],rfl,rfl⟩
 | w::ws,_,.cons h t=>by
   obtain⟨k,rfl⟩:=h;obtain⟨l,rfl,e⟩:=sT t;exact⟨(w,k)::l,rfl,by rw[Lm,e]⟩
theorem rB:∀(l:List (Str×Tok)),Vals ((l.map (·.1)).map V.str) (OH l)
 | []=>.nil
 | (w,k)::l=>.cons ⟨k,rfl⟩ (rB l)
theorem Co:qX X "str.join" (λx xs H Q=>∃(z:Str)(a:Addr)(ws:Ks),x= .str z/\xs=[.ref a]/\H a=some (.lst (ws.map V.str))/\JoinOk z ws=true/\Q (.str (Txt.join z ws)) H):=by
 intro QN s σ H x xs v us Q I rx r h;obtain⟨z,a,ws,rfl,rfl,hH,QQ,q⟩:=h;obtain⟨t,rfl⟩:=rx;obtain⟨u,rfl,ru⟩:=r.one;cases ru
 obtain⟨hz,QO,n,r1,hl,e⟩:=I.jc hH;obtain⟨l,rfl,el⟩:=sT r1;exact PySem.SC.join ⟨_,e,rfl,_,rfl⟩ el QQ λt' k=>⟨.str _,H,I.tok _,⟨_,rfl⟩,q⟩
theorem w6 {t u:Tok}{prog:Nf}{A:Nh}{E:Value->M9->Prop}{Q:Value->M9->Prop}(hy:(y.length==0)=false)(hsz:x.length<=Nb)(hsz2:(Txt.split x y).length<=Nb)(hq:∀(l:List (Str×Tok))(k:Nat)(n:Nat),l.map (·.1)=Txt.split x y->Q (.ref s.heap.objs.size) {s with toks:=k,heap:=s.heap.push {cls:=.type "list",data:=.seq (OH l).toArray n}}):
 wpAny (model prog w) A (call (.builtin "str.split") [.str x t,.str y u]) Q E s:=by
 cases h1:(decide (x.length<y.length) ||decide (Ot.Str.strKind x<Ot.Str.strKind y))
 ·cases hf:(Ot.Str.occurrences x y 0 x.length (x.length+1)).isEmpty
  ·have es:Txt.split x y=Ot.Str.partsBetween x (Ot.Str.occurrences x y 0 x.length (x.length+1)) y.length:=(QF (ne_true_of_eq_false h1)).trans (QF (ne_true_of_eq_false hf));refine NX Ph (Oi _ _ _) Pg (Pf _ _) (meets_str_split_sep x y t u h1 hy hf hsz (by rw[← es];exact hsz2)) ?_;show wants Q E _ {s with toks:=_,heap:=s.heap.push {cls:=.type "list",data:=.seq (strsFrom s.toks (Ot.Str.partsBetween x (Ot.Str.occurrences x y 0 x.length (x.length+1)) y.length)).toArray}};rw[strsFrom_eq];exact hq (numbered s.toks _) _ _ ((numbered_texts _ _).trans es.symm)
  ·exact NX Ph (Oi _ _ _) Pg (Pf _ _) (meets_str_split_not_found x y t u h1 hy hf)
    (hq [(x,t)] s.toks _ ((QF (ne_true_of_eq_false h1)).trans (QG hf)).symm)
 ·exact NX Ph (Oi _ _ _) Pg (Pf _ _) (meets_str_split_cannot_occur x y t u h1)
   (hq [(x,t)] s.toks _ (QG h1).symm)
theorem yO:qX X "str.split" (λx xs H Q=>∃z y:Str,x= .str z/\xs=[.str y]/\(y.length==0)=false/\z.length<=Nb/\(Txt.split z y).length<=Nb/\∀a,H a=none->Q (.ref a) (upd H a (.lst ((Txt.split z y).map V.str)))):=by
 intro QN s σ H x xs v us Q I rx r h;obtain⟨z,y,rfl,rfl,hy,hz,Vk,q⟩:=h;obtain⟨t,rfl⟩:=rx;obtain⟨u,rfl,ru⟩:=r.one;obtain⟨tu,rfl⟩:=ru;refine w6 hy hz Vk λl k n el=>?_;have I1:Inv X QN σ H {s with toks:=k,heap:=s.heap.push {cls:=.type "list",data:=.seq (OH l).toArray n}}:=I.kept (t':=k) λb o e=>Pj _ e;have hn:H s.heap.objs.size=none:=I.fresh;refine⟨.ref s.heap.objs.size,_,adopt (o:=.lst ((Txt.split z y).map V.str)) I1 (I.gZ (My _) hn) I.sz ⟨?_,OH l,n,?_,Pm _ rfl⟩,rfl,q _ hn⟩
 ·rw[KY];exact Vk
 ·rw[← el];exact rB l
theorem kY {ws:Ks}(ha:EV X a Γ ag x Γ1)(he:EV X e Γ1 (af ag) ws Γ2)(QQ:JoinOk x ws=true)(QS:Ni a "join" X.env (eval a X.env)=eval a X.env:=by rfl)(Ri:((Nk cp (Nc [e] X.env)).all (λx=> !x.1)&&(NY cp (ND [] X.env)).all (λx=>x.1.isSome)
  &&decide ([e].length+([]:List Nt).length+(if([]:List Nt).isEmpty then 0 else 1)<30))=true:=by rfl)(QZ:(ap.endLine==cp.line)=true:=by rfl)(hs:Nc [e] X.env=(false,eval e X.env)::Nc [] X.env:=by rfl):EV X (.Call (.Attribute a "join" ap) [e] [] cp) Γ ag (Txt.join x ws) Γ2:=by
 intro σ H0 R0 H R E Q q;refine eS (hX PySem.F.plainAttrs_str PySem.F.slot_str_join PySem.F.type_str_join Co aR (aU aR bD hs) QS Ri QZ hs rfl) (ha σ H0 R0 H R E _ λv H1 R1 E1 s1 e1=>?_);cases e1
 refine⟨rfl,he σ H0 R0 H1 R1 E1 _ λu H2 R2 E2 s2 e2=>?_⟩;obtain⟨b,vs,rfl,hb,pp,hz⟩:=e2;have ev:=lj pp;subst ev;exact⟨x,b,ws,rfl,rfl,E2.sub _ _ hb,QQ,q _ H2 R2 E2 (s1.trans s2) rfl⟩
theorem lJ {K:P1}{R:Hp}:∀ws:Ks,PySem.Paired (ag.R K R) (ws.map V.str) ws
 | []=>.nil
 | _::r=>.cons rfl (lJ r)
theorem kx (ha:EV X a Γ ag x Γ1)(he:EV X e Γ1 ag y Γ2)(hy:(y.length==0)=false)(hz:x.length<=Nb)(Vk:(Txt.split x y).length<=Nb)(QS:Ni a "split" X.env (eval a X.env)=eval a X.env:=by rfl)(Ri:((Nk cp (Nc [e] X.env)).all (λx=> !x.1)&&(NY cp (ND [] X.env)).all (λx=>x.1.isSome)
  &&decide ([e].length+([]:List Nt).length+(if([]:List Nt).isEmpty then 0 else 1)<30))=true:=by rfl)(QZ:(ap.endLine==cp.line)=true:=by rfl)(hs:Nc [e] X.env=(false,eval e X.env)::Nc [] X.env:=by rfl):aI X (.Call (.Attribute a "split" ap) [e] [] cp) Γ ag (Txt.split x y) Γ2:=by
 intro σ H0 R0 H R E Q q;refine eS (hX PySem.F.plainAttrs_str PySem.F.slot_str_split PySem.F.type_str_split yO aR (aU aR bD hs) QS Ri QZ hs rfl) (ha σ H0 R0 H R E _ λv H1 R1 E1 s1 e1=>?_);cases e1
 refine⟨rfl,he σ H0 R0 H1 R1 E1 _ λu H2 R2 E2 s2 e2=>?_⟩;cases e2
 exact⟨x,y,rfl,rfl,hy,hz,Vk,λd hd=>q d _ _ R2 (E2.grow (Ext.dj E2.sub hd _)) (s1.trans s2) aD (E2.sub.free hd) (E2.ext.h.free hd) (E2.off hd) (lJ _) Vk⟩
theorem rP {c:Nat}:∀{a b x y:List Nat},c∉a->c∉b->a++c::x=b++c::y->a=b/\x=y
 | [],[],_,_,_,_,h=>⟨rfl,(List.cons.inj h).2⟩
 | [],d::b,_,_,_,hb,h=>QE (List.cons.inj h).1 (λe=>hb (e▸K4))
 | d::a,[],_,_,ha,_,h=>QE (List.cons.inj h).1 (λe=>ha (e▸K4))
 | d::a,e::b,x,y,ha,hb,h=>by
   obtain⟨h1,h2⟩:=List.cons.inj h;obtain⟨q1,q2⟩:=rP (λz=>ha (K0 _ z)) (λz=>hb (K0 _ z)) h2;exact⟨by rw[h1,q1],q2⟩
theorem rg {c:Nat}{a b y:List Nat}(ha:c∉a)(h:a=b++c::y):False:=ha (by rw[h];exact La _ K4)
theorem uR (x y:Str):(x++y).cps.toList=x.cps.toList++y.cps.toList:=by show(x.cps++y.cps).toList=_;simp
theorem jY (c:Nat)(x y:Str)(r:Ks):(Str.join ⟨#[c]⟩ (x::y::r)).cps.toList=x.cps.toList++c::(Str.join ⟨#[c]⟩ (y::r)).cps.toList:=by
 rw[Str.join,uR,uR];simp;intro h;cases h
theorem uy (h:x.cps.toList=y.cps.toList):x=y:=by
 cases x;cases y
 congr 1;exact Array.toList_inj.mp h
theorem rZ {c:Nat}:∀{ws us:Ks},ws≠[]->us≠[]->(∀w∈ws,c∉w.cps.toList)->(∀u∈us,c∉u.cps.toList)->(Str.join ⟨#[c]⟩ ws).cps.toList=(Str.join ⟨#[c]⟩ us).cps.toList->ws=us
 | [],_,h,_,_,_,_=>QE rfl h
 | _,[],_,h,_,_,_=>QE rfl h
 | [x],[y],_,_,_,_,h=>by rw[show x=y from uy h]
 | [x],y::z::r,_,_,hx,_,h=>by
   rw[jY] at h;exact QE h λh=>rg (hx x K4) h
 | x::z::r,[y],_,_,_,hy,h=>by
   rw[jY] at h;exact QE h.symm λh=>rg (hy y K4) h
 | x::x2::r,y::y2::q,_,_,hx,hy,h=>by
   rw[jY,jY] at h;obtain⟨h1,h2⟩:=rP (hx x K4) (hy y K4) h;rw[uy h1,rZ (cons_ne_nil _ _) (cons_ne_nil _ _) (λw hw=>hx w (K0 _ hw)) (λw hw=>hy w (K0 _ hw)) h2]
theorem vE {c:Nat}{ws:Ks}(h:ws≠[])(hf:∀w∈ws,c∉w.cps.toList):Txt.split (Str.join ⟨#[c]⟩ ws) ⟨#[c]⟩=ws:=by
 refine rZ (c:=c) (λe=>?_) h (StrLaws.split_free _ c) hf (by rw[StrLaws.join_split]);have:=split_pos (Str.join ⟨#[c]⟩ ws) ⟨#[c]⟩;rw[e] at this;exact QE this (by decide)
theorem yJ:(" ":Str)=⟨#[32]⟩:=by decide +kernel
theorem ji (x:Str)(ws:Ks):Txt.join x ws=Str.join x ws:=StrLaws.glued_eq_join x ws
def Rep.at_ {α:Type}(r:Rep α)(y:α):Rep Unit:=⟨λK R v _=>r.R K R v y,λs h=>r.mono s h⟩
abbrev iF:=List (Str×Rep Unit)
abbrev eV (fs:iF)(K:P1)(R:Hp)(vs:List (Str×V)):Prop:=PySem.Paired (λ(z:Str×V)(f:Str×Rep Unit)=>z.1=f.1/\f.2.R K R z.2 ()) vs fs
theorem eV.mono {fs:iF}{R':Hp}{vs:List (Str×V)}(s:ax R R')(h:eV fs K R vs):eV fs K R' vs:=Paired.map (λ_ f ⟨a,b⟩=>⟨a,f.2.mono s b⟩) h
def md:iF->Str->Option (Rep Unit)
 | [],_=>none
 | (g,x)::r,f=>if g=f then some x else md r f
theorem eV.get {f:Str}{r:Rep Unit}:∀{fs:iF}{vs:List (Str×V)},eV fs K R vs->md fs f=some r->∃v,vs.lookup f=some v/\r.R K R v ()
 | _,_,.nil,h=>by cases h
 | _,_,.cons (a:=z) (b:=p) h t,hg=>by
   obtain⟨g,x⟩:=p;obtain⟨g',v⟩:=z;obtain⟨e,hv⟩:=h;have e:g'=g:=e;subst e;rw[md] at hg;rw[LJ];by_cases q:g'=f
   ·rw[QG q] at hg;cases hg;subst q
    exact⟨v,by simp,hv⟩
   ·rw[QF q] at hg;rw[show(f==g')=false from beq_eq_false_iff_ne.mpr λz=>q z.symm];exact eV.get t hg
theorem eV.put {f:Str}{r:Rep Unit}{v:V}(hv:r.R K R v ()):∀{fs:iF}{vs:List (Str×V)},eV fs K R vs->md fs f=none->eV (fs++[(f,r)]) K R (d8 f v vs)
 | _,_,.nil,_=>.cons ⟨rfl,hv⟩ .nil
 | _,_,.cons (a:=z) (b:=p) h t,hg=>by
   obtain⟨g,x⟩:=p;obtain⟨g',u⟩:=z;obtain⟨e,hu⟩:=h;have e:g'=g:=e;subst e;rw[md] at hg;rw[d8];by_cases q:g'=f
   ·rw[QG q] at hg;cases hg
   ·rw[QF q] at hg ⊢;exact .cons ⟨rfl,hu⟩ (eV.put hv t hg)
def gb (C:Addr):LK iF where
 bx l fs:=⟨l,λK H R v=>∃x dx vs,l=[x,dx]/\v= .ref x/\H x=some (.ins C dx vs)/\H dx=some (.own x)/\eV fs K R vs/\x≠dx,λ{K H R0 H' R' v} e s ⟨x,dx,vs,el,ev,h1,h2,h3,nd⟩=>by
  subst el;exact⟨x,dx,vs,rfl,ev,(e x (by simp)).trans h1,(e dx (by simp)).trans h2,h3.mono s,nd⟩,λ{K H R0 v} ⟨x,dx,vs,el,ev,h1,h2,h3,nd⟩ a ha=>by
  subst el;rcases K8.mp ha with rfl | ha
  ·rw[h1];exact MR _
  ·rw[KZ.mp ha,h2];exact MR _⟩
 fp:=λ_ _=>rfl
 at_:=λ⟨x,dx,vs,el,ev,_⟩=>⟨x,[dx],el,ev⟩
variable {C:Addr}{f:Str}{ns:Ks}{fd:Nm}{z:α}
section
theorem xo {x dx:Addr}{fs:iF}{o:Option V}(h:(Ent.ob ((gb C).bx [x,dx] fs)).ok K H R o):o=some (.ref x)/\rW R [x,dx]/\∃vs,H x=some (.ins C dx vs)/\H dx=some (.own x)/\eV fs K R vs/\x≠dx:=by
 obtain⟨e,hB,hR⟩:=xI (B:=gb C) h;obtain⟨x',dx',vs,el,ev,h1,h2,h3,nd⟩:=hB;cases el
 exact⟨e,hR,vs,h1,h2,h3,nd⟩
theorem jL (i:Nat){m:Str}{x dx:Addr}{fs:iF}{y:α}(hC:bz X.K C ns)(hf:f∈ns)(hΓ:Γ[i]?=some (.ob ((gb C).bx [x,dx] fs)))(h:md fs f=some (r.at_ y))(hN:X.N[i]?=some m:=by rfl)(hv:autoParam (cI X.env.scope m) Rt)(hd:Q0 m:=by decide)(QR:Rn m:=by decide)(hb:Ni (.Name m p1) f X.env (eval (.Name m p1) X.env)=eval (.Name m p1) X.env:=by rfl):EV X (.Attribute (.Name m p1) f pos) Γ r y Γ:=λσ H0 R0 H R E Q q=>by
 obtain⟨ea,hR,vs,h1,h2,h3,nd⟩:=xo (E.ent i _ hΓ);obtain⟨v,hl,S6⟩:=h3.get h;exact eS (rS (bh hN hv hd QR) hb) ⟨.ref x,at_of ea,x,C,dx,vs,v,rfl,h1,hC.cl,hC.no f hf,hl,q v H R E (ax.refl _) S6⟩
theorem fK (i:Nat){m:Str}{x dx:Addr}{fs:iF}{y:α}(hC:bz X.K C ns)(hf:f∈ns)(he:EV X e Γ r y Γ1)(hΓ1:Γ1[i]?=some (.ob ((gb C).bx [x,dx] fs)))(h:md fs f=none)(hz:fs.length<1000)(hn:N (Γ1.set i (.ob ((gb C).bx [x,dx] (fs++[(f,r.at_ y)])))))(hN:X.N[i]?=some m:=by rfl)(hv:autoParam (cI X.env.scope m) Rt)(hd:Q0 m:=by decide)(QR:Rn m:=by decide)(RR:Nl e (some (.Attribute (.Name m p1) f ap)) pos.line X.env=pure false:=by rfl):W1 X (.Assign [.Attribute (.Name m p1) f ap] e pos) Γ N T:=λσ H0 R0 H R E D dn dr=>
 sS (wG (bh hN hv hd QR) aR RR) (he σ H0 R0 H R E _ λv H1 R1 E1 s1 e1=>by
  obtain⟨ea,hR,vs,h1,h2,h3,nd⟩:=xo (E1.ent i _ hΓ1);refine⟨.ref x,at_of ea,x,C,dx,vs,rfl,h1,hC.cl,hC.no f hf,by rw[h3.length];exact hz,?_⟩;refine dn σ _ R1 _ (E1.n8 (en:=.ob ((gb C).bx [x,dx] (fs++[(f,r.at_ y)]))) hΓ1 (a:=x) (by show x∈[x,dx];simp) ?_ λb hb=>.inl hb) s1 hn;rw[ea];exact xC (B:=gb C) ⟨x,dx,_,rfl,rfl,aD,by rw[aA (MQ nd)];exact h2,eV.put (r:=r.at_ y) e1 h3 h,nd⟩ hR)
abbrev xp:=P1->Addr->List Pk->(iF->Prop)->Prop
def ug (S:xp)(K:P1):Sp:=λvs H Q _=>∃R x dx C Ro ps Pd,vs= .ref x::Ro/\ax R H/\rW R [x,dx]/\((gb C).bx [x,dx] []).R K H R (.ref x)/\gI K R Ro ps/\S K C ps Pd/\
 ∀H' R' fs,Ext (ki H [x,dx]) R H' R'->((gb C).bx [x,dx] fs).R K H' R' (.ref x)->rW R' [x,dx]->Pd fs->Q .QY H'
variable {mg:Kp}{base:Heap}
theorem xO {S:xp}{qual:Str}{f:Addr}{N ps:Ks}{k:Nat}(F:cK K x qual st f fd)(Sc:aZ N ps (ak st))(len:∀C qs Pd,S K C qs Pd->qs.length+1=ps.length)(Q1:∀(QP:Value)(A:Nh)(outer:List Env)(s:M9)(H:Hp)(E:XK)(C a dx:Addr)(qs:List Pk)(Pd:iF->Prop),br k (A.deeper (MW qual (ak st) s.heap.objs.size f QP))->S K C qs Pd->
  WS (aX c8 P w K mg base N qual (ak st) f QP A outer s H E).cj (bo st) (.ob ((gb C).bx [a,dx] [])::du qs (N.length-1)) (λΓ=>∃fs,Γ[0]?=some (.ob ((gb C).bx [a,dx] fs))/\Pd fs) (λ_ _ _ _=>False)):cy P w K mg base c8 (k+1) f fd ps (ug S K):=by
 refine F.ok Sc (λvs H Q E h=>?_) (λQP A outer s H vs Q E hr h=>?_)
 ·obtain⟨R,a,dx,C,Ro,qs,Pd,rfl,_,_,_,p,hS,_⟩:=h;rw[Lg,p.length];exact len C qs Pd hS
 ·obtain⟨R,a,dx,C,Ro,qs,Pd,rfl,sR,hR,hB,p,hS,q⟩:=h;have hl:qs.length+1<=N.length:=by
   rw[len C qs Pd hS];have:=congrArg List.length Sc.pre;rw[Lc] at this;omega
  refine⟨_,ef,Q1 QP A outer s H E C a dx qs Pd hr hS (L2.start N (.ref a::Ro)) (ki H [a,dx]) R H R (vb (B:=gb C) sR hR hB p hl) {nx:=λ_ H'=>Q .QY H',rt:=Q} (λσ' H' R' Γ' E' _ ⟨fs,hΓ,t⟩=>?_) λv H' R' xx t=>t.elim⟩;obtain⟨ea,hB',RC⟩:=xI (B:=gb C) (E'.ent 0 _ hΓ);exact q H' R' fs E'.ext hB' RC t
theorem t6 {S:xp}{c:Str}{k:Nat}{Pd:iF->Prop}{f:Addr}{pn:Ks}{rr:Rep α}(M:Mk X.K C f)(F:cy X.prog X.w X.K X.mg X.base c8 k f fd pn (ug S X.K))(hr:br (k+1) X.A)(hm:X.mg c=some (.ref C))(hb:Binds X.K fd pn [])(ha:HA X (e::es) Γ ps Γ1)(hS:S X.K C ps Pd)(hz:∀(fs:iF)(R:Hp)(x dx:Addr)(vs:List (Str×V)),Pd fs->eV fs X.K R vs->R x=some (.ins C dx vs)->rr.R X.K R (.ref x) z)(hg:Gl X c:=by rfl)(Rj:Q0 c:=by decide)(he:Nc (e::es) X.env=(false,eval e X.env)::Nc es X.env:=by rfl)(Q3:(Nk pos (Nc es X.env)).any (·.1)=false:=by rfl):
 EV X (.Call (.Name c p) (e::es) [] pos) Γ rr z Γ1:=λσ H0 R0 H R E Q q=>
 eS (uq M F hr hg hm hb .nil qh jj Rj he Q3) (ha σ H0 R0 H R E _ λvs H1 R1 E1 s1 p1 x dx hx Se Q5=>by
  have hd1:∀b,ki (upd (upd H1 dx (.own x)) x (.ins C dx [])) [x,dx] b=H1 b:=λb=>by
   by_cases hb:b∈[x,dx]
   ·rw[nZ hb];rcases K8.mp hb with rfl | hb
    ·exact hx.symm
    ·rw[KZ.mp hb];exact Se.symm
   ·rw[qz hb];simp at hb;rw[aA hb.1,aA hb.2]
  have hR:rW R1 [x,dx]:=λb hb=>by
   rcases K8.mp hb with rfl | hb
   ·exact E1.sub.free hx
   ·rw[KZ.mp hb];exact E1.sub.free Se
  refine⟨R1,x,dx,C,vs,ps,Pd,by rw[Lh],λb o q=>?_,hR,⟨x,dx,[],rfl,rfl,aD,by rw[aA Q5,aD],.nil,MQ Q5⟩,p1,hS,λH' R' fs xx hB RC hP=>⟨rfl,?_⟩⟩
  ·have b1:b≠x:=λe=>by rw[e,hR x (by simp)] at q;cases q
   have b2:b≠dx:=λe=>by rw[e,hR dx (by simp)] at q;cases q
   rw[aA b1,aA b2];exact E1.sub b o q
  ·rw[show ki (upd (upd H1 dx (.own x)) x (.ins C dx [])) [x,dx]=H1 from funext hd1] at xx;obtain⟨x',dx',ws,el,ev,h1,h2,h3,nd⟩:=hB;cases el
   have E2:=E1.grow xx;have E3:=E2.ql h2 (RC dx (by simp)) (E1.ext.h.free Se) (E1.off Se);have sd:ax R' (upd R' dx (.own x)):=ax.fresh (RC dx (by simp)) _;have hRx:upd R' dx (.own x) x=none:=by rw[aA nd];exact RC x (by simp)
   have E4:=E3.ql h1 hRx (E1.ext.h.free hx) (E1.off hx);have sx:=sd.trans (ax.fresh hRx (.ins C dx ws));exact q (.ref x) H' _ E4 ((s1.trans xx.r).trans sx) (hz fs _ x dx ws hP (h3.mono sx) aD))
theorem ie {rr:Rep α}{r:Rep β}{y:β}(hC:bz X.K C ns)(hf:f∈ns)(he:EV X e Γ rr z Γ1)(hz:∀(K:P1)(R:Hp)(v:V),rr.R K R v z->∃x dx vs u,v= .ref x/\R x=some (.ins C dx vs)/\vs.lookup f=some u/\r.R K R u y)(hb:Ni e f X.env (eval e X.env)=eval e X.env:=by rfl):EV X (.Attribute e f pos) Γ r y Γ1:=λσ H0 R0 H R E Q q=>
 eS (rS aR hb) (he σ H0 R0 H R E _ λv H1 R1 E1 s1 e1=>by
  obtain⟨x,dx,vs,u,rfl,h1,h2,h3⟩:=hz _ _ _ e1;exact⟨x,C,dx,vs,u,rfl,E1.sub _ _ h1,hC.cl,hC.no f hf,h2,q u H1 R1 E1 s1 h3⟩)
end
theorem mV {y:α}(he:EV X e Γ r y Γ1)(h:N Γ1)(RR:Nl e none pos.line X.env=pure false:=by rfl):W1 X (.Expr e pos) Γ N T:=λσ H0 R0 H R E D dn dr=>
 sS (f9 aR RR) (he σ H0 R0 H R E _ λv H1 R1 E1 s1 e1=>dn σ H1 R1 _ E1 s1 h)
theorem Dm (i:Nat){a c:Int}(he:EV X e Γ ah c Γ)(hΓ:Γ[i]?=some (.im ah a))(h:N (Γ.set i (.im ah (a+c))))(hN:X.N.Nodup:=by first | assumption | decide)(hi:X.N[i]?=some x:=by rfl)(hx:autoParam (Loc X.env.scope x) SW)(hf:autoParam (X.fn x=true∨X.env.scope.names.lookup x=some .local) SV):
 W1 X (.AugAssign (.Name x p1) .Add e pos) Γ N T:=λσ H0 R0 H R E D dn dr=>by
 obtain⟨v,ea,hr⟩:=E.ent i _ hΓ;cases (show v=V.int a from hr)
 refine sS (Fo hN hi hx aR Ea hf) ⟨.int a,at_of ea,he σ H0 R0 H R E _ λu H2 R2 E2 s2 e2=>?_⟩;cases (show u=V.int c from e2)
 exact⟨a,c,rfl,rfl,dn _ H2 R2 _ (E2.set i (r:=ah) (x:=a+c) rfl) s2 h⟩
theorem A7 {i:Nat}{xs:List α}(UG:i≠j)(hΓ:Γ[i]?=some (.mu r xs))(hj:Γ[j]?=some (.mu r' ys))(hz:xs.length<=Nb)(hz':ys.length<=Nb)(σ:St)(H0 R0 H R:Hp)(E:aw X.K σ H0 R0 H R Γ):aw X.K σ H H H H (((Γ.map qg).set i (.im (af r) xs)).set j (.im (af r') ys)):=by
 obtain⟨a,vs,ea,ha,hR,pp⟩:=E.ent i _ hΓ;obtain⟨b,ws,eb,hb,hRb,pq⟩:=E.ent j _ hj;have E1:=E.RO.nq (i:=i) (e0:=.no) (en:=.im (af r) xs) (by rw[K9,hΓ];rfl) ⟨.ref a,ea,a,vs,rfl,ha,Paired.map (λ_ _=>r.mono E.sub) pp,hz⟩ λb w=>by cases w
 exact E1.nq (i:=j) (e0:=.no) (by rw[Ll UG,K9,hj];rfl) ⟨.ref b,eb,b,ws,rfl,hb,Paired.map (λ_ _=>r'.mono E.sub) pq,hz'⟩ λb w=>by cases w
theorem xE:dc X (Nn .LtE) (λx y H Q=>∃i j,x= .str i/\y= .str j/\Q (.bl (!decide (j.cps.toList<i.cps.toList))) H):=by
 intro QN s σ H x y v u Q I rx ry h;obtain⟨i,j,rfl,rfl,q⟩:=h;obtain⟨t,rfl⟩:=rx;obtain⟨t',rfl⟩:=ry;exact PySem.P.le_str (bB I q rfl)
theorem AV :eu X .LtE ag ag x y (!decide (y.cps.toList<x.cps.toList)):=⟨_,xE,λR H v u Q _ e1 e2 q=>by
 cases e1;cases e2
 exact⟨x,y,rfl,rfl,q⟩⟩
theorem kq {xs:Ks}:eu X .NotIn ag (af ag) x xs (!decide (x∈xs)):=⟨_,sC,λR H v u Q s e1 e2 q=>by
 cases e1
 obtain⟨a,vs,rfl,hq,p,_⟩:=e2;have e:=lj p;subst e;exact⟨a,_,rfl,.inl (bt.of (s _ _ hq)),rfl,iX xs,by rw[QG rfl,j6];exact q⟩⟩
theorem mJ {xs:List α}(h:EV X e Γ (af r) xs Γ1)(he:∀whole,N6 e X.env whole=(do let v ← whole;Om e.pos;NQ [v] (truthy v)):=by intro _;rfl):TV X e Γ (!xs.isEmpty) Γ1:=by
 intro σ H0 R0 H R E Q q;refine tS (qK aR he) (h σ H0 R0 H R E _ λv H1 R1 E1 s1 e1=>?_);obtain⟨a,vs,rfl,ha,pp,_⟩:=e1;refine⟨!xs.isEmpty,.inl ⟨vs,bt.of (E1.sub _ _ ha),?_⟩,q H1 R1 E1 s1⟩;cases pp<;>rfl
end Fc
namespace Fc
open PySem PySem.Spec PySem.W PySem.Calls L2
open PyProof.Rows hiding St
open PySem
variable {A:Nh}{E:Value->M9->Prop}{hdct:Bool}{sn:Ks}{ab:Bool}{col:Option Bool}{dd:Option Addr}{newId:String}{mN:Kp}{rest:Kv}{fI:Addr}{oI:Obj}
section
variable {prog:Nf}{w:World}{h:Heap}{g:Array OB}{d:Drawn}{t:Nat}{os:OsState}
variable {nm q:Str}{C N:Addr}{bs bm bmB:Kv}{sub:Kv}{k0 k1 k2 k3 k5:Kt}{B Te:String}
abbrev d7 (C t:Addr):Obj:={cls:=.ref C,data:=.fields #[.ref t,.none,.none,.none,.bool false,.none]}
theorem x6 (F:ExcBaseFacts B newId Te bmB)(T:OwnTail h bmB bm){Q:Fin->M9->Prop}(hC:h.get? C=some (OK nm q C N bs bm hdct sn sub ab col dd k0 k1 k2 k3 k5 newId))(hn:h.Ns N mN)(hi:mN "__init__"=some (.ref fI))(VQ:h.get? fI=some oI)(VP:oI.cls= .type "function")(hq:∀h' e,Px h h' e (.ref C) rest->h.objs.size<=e->wpAny (model prog w) A (call (.ref fI) (.ref e::rest)) (λr s'=>r= .none/\Q (.done (.ret (.ref e))) s') E ⟨h',g,d,t,os⟩)(Si:rest.length<=Nb):
 wpAny (model prog w) A (Ot.«type.__call__» ⟨.ref C::rest,[]⟩) Q E ⟨h,g,d,t,os⟩:=by
 repeat (first
  | with_reducible refine NZ hC ?_
  | with_reducible refine wpAny_madeBy_exc hC ?_
  | wp_step)
 refine codeAny_call_builtin_code (O8 _ F.quiet) (wpAny_check_new_subT F T hC (codeAny_exc_new_subT F T hC ?_ Si));have up:∀b o,h.get? b=some o->((h.push {cls:=.type "tuple",data:=.seq rest.toArray}).push (d7 C h.objs.size)).get? b=some o:=λb o e=>Pj _ (Pj _ e);show wpAny _ _ _ _ _ _;have hC1:=up _ _ hC;have hf1:=up _ _ VQ;have hn1:=hn.keeps up;have T1:=T.keeps up;have he:((h.push {cls:=.type "tuple",data:=.seq rest.toArray}).push (d7 C h.objs.size)).get? (h.objs.size+1)=some (d7 C h.objs.size):=by heap_get
 have hcC:(PM C::bm).contains (.ref C)=true:=by simp
 unfold Oz
 repeat (first
  | with_reducible refine NZ he ?_
  | (with_reducible refine wpAny_isSubtype_exc hC1 ?_;rw[hcC])
  | wp_step)
 show wpAny _ _ (typeLookup (.ref C) _) _ _ _;refine wpAny_typeLookup_tail hC1 hn1 T1 F.mroIs F.init.lookup ?_;rw[hi];refine Nv (Na ?_);unfold bindSpecial;refine Na (OE (T:="function") ⟨_,hf1,VP⟩ ?_);rw[QG (by decide)];have hm:Px h ((h.push {cls:=.type "tuple",data:=.seq rest.toArray}).push (d7 C h.objs.size)) (h.objs.size+1) (.ref C) rest:=
  ⟨up,Pr (MH _),h.objs.size,he,Pr (My _),Pj _ (Heap.get?_push_at rfl rfl)⟩
 refine Nd (Na (Nj (hq _ _ hm (MH _)) (λr s' ⟨hr,hQ⟩=>?_) λ_ _ x=>x));subst hr
 wp_walk
 exact hQ
theorem xY (F:ExcBaseFacts B newId Te bmB)(T:OwnTail h bmB bm){Q:Value->M9->Prop}(hC:h.get? C=some (OK nm q C N bs bm hdct sn sub ab col dd k0 k1 k2 k3 k5 newId))(hn:h.Ns N mN)(hi:mN "__init__"=some (.ref fI))(VQ:h.get? fI=some oI)(VP:oI.cls= .type "function")(hq:∀h' e,Px h h' e (.ref C) rest->h.objs.size<=e->wpAny (model prog w) (A.under (.builtin "type.__call__" ⟨.ref C::rest,[]⟩)) (call (.ref fI) (.ref e::rest)) (λr s'=>r= .none/\Q (.ref e) s') E ⟨h',g,d,t,os⟩)(Si:rest.length<=Nb):
 wpAny (model prog w) A (call (.ref C) rest) Q E ⟨h,g,d,t,os⟩:=by
 have f1:=tc_lookup;have f2:=tc_bind (.ref C);have hT:(⟨h,g,d,t,os⟩:M9).TypeIs (.ref C) "type":=⟨_,hC,rfl⟩;refine N9 (codeAny_of_tree ?_);show wpAny _ _ (callAny (.ref C) _) _ _ _
 repeat (any_goals (first
  | assumption
  | with_reducible refine NZ hC ?_
  | wp_step))
 exact⟨rfl,codeAny_call_builtin_at (O8 _ (by decide +kernel)) entry_typeCall (wpAny_check_type_call_sub hC (x6 F T hC hn hi VQ VP (λh' e hm hz=>hq h' e hm hz) Si))⟩
end
theorem uX {M:Model}{env:Env}{nm q:Str}{C N:Addr}{bs bm:Kv}{sub:Kv}{k0 k1 k2 k3 k5:Kt}{s:M9}{x:Sem Value}{Q:Flow->M9->Prop}(QS:bm.contains (.type "BaseException")=true)(hh:A.handled=none)(h:wpAny M A x (λv s₁=>∃e o t,v= .ref e/\s₁.heap.get? C=some (OK nm q C N bs bm hdct sn sub ab col dd k0 k1 k2 k3 k5 newId)/\s₁.heap.get? e=some o/\o.cls= .ref C/\o.data= .fields #[.ref t,.none,.none,.none,.bool false,.none]/\E (.ref e) s₁) E s):
 wpAny M A (raiseStmt env (some x) none) Q E s:=by
 have hcB:(PM C::bm).contains (.type "BaseException")=true:=by rw[List.contains_cons,QS,KN]
 unfold raiseStmt;refine Na (Nj h (λv s₁ h₁=>?_) λ_ _ x=>x);obtain⟨e,⟨oc,od,odt,RM⟩,t,rfl,hC,he,hc,hd,hE⟩:=h₁;dsimp only at hc hd;subst hc hd;obtain⟨hp,g,d,tk,os⟩:=s₁
 repeat (first
  | with_reducible refine NZ he ?_
  | with_reducible refine NZ hC ?_
  | (with_reducible refine wpAny_isSubtype_exc hC ?_;rw[hcB])
  | wp_step)
 exact wpAny_raiseNew_none hh hE
end Fc
namespace Fc
open PySem PySem.Spec PySem.W PySem.Calls L2
open PyProof.Rows hiding St
open PySem PySem.W PyProof.Rows
open Builtin Builtin.ObjectAttr
section
variable {prog:Nf}{w:World}{A:Nh}{E:Value->M9->Prop}{s:M9}{K:Frag}{C CE x:Addr}{ox:Obj}{cd:ClassData}{name:Str}{v:Value}
theorem vW (self:Value)(C CE:Addr):refuseLoop self "__setattr__" (.ref C:: .ref CE::hU)=pure ():=by
 rw[refuseLoop_ref,refuseLoop_ref];exact PySem.F.store_ValueError.passes self
theorem B4 {Q:Unit->M9->Prop}(X:K.In s.heap)(hx:s.heap.get? x=some ox)(hc:ox.cls= .ref C){vs:Array Value}(VT:ox.data= .fields vs)(hd:ox.dict=none)(hs:Qy K (.ref C) "__setattr__"=some (some (.builtin "object.__setattr__")))(hk:clsIn K C=some cd)(hm:cd.mro= .ref C:: .ref CE::hU)(hh:cd.hasDict=true)(ha:Qy K (.ref C) name=some none)(h:∀h',h'.get? x=some {ox with dict:=some s.heap.objs.size}->(∀b o,b≠x->s.heap.get? b=some o->h'.get? b=some o)->h'.Ns1 s.heap.objs.size (λy=>if y=name then some v else none)->Q () {s with heap:=h',toks:=s.toks+2}):
 wpAny (model prog w) A (setAttr (.ref x) name v) Q E s:=by
 have I:InstAt s.heap x ox C none:=⟨hx,hc,by unfold notCls;rw[VT],by rw[hd];trivial⟩;have SF:=PySem.F.store_object;refine set_plain X I hs ?_;have sub:Looks (model prog w) s.heap (Oz (.ref x) (.type "object")) true:=I.type.andThen (looks_mroIn X (by unfold mroIn;rw[hk,Option.bind_some,hm];rfl));refine N4 SF.slot.plain SF.entry (@check_slot (model prog w) _ _ {s with toks:=s.toks+1} "object.__setattr__" "object" "__setattr__" (.ref x) [.str name s.toks,v] [] _ SF.kind SF.split sub (SF.args (.ref x) (.str name s.toks) v) ?_);have Vz:Looks (model prog w) s.heap (mroOf (.ref C)) cd.mro:=(looks_clsIn X hk).andThen .now;rw[osa_eq,refuse_eq];refine Na (Na (QC (s:={s with toks:=s.toks+1}) I.type (Na (QC (s:={s with toks:=s.toks+1}) Vz ?_))));rw[hm,vW];refine Nd (Na (QC (s:={s with toks:=s.toks+1}) I.type (Na (QC (s:={s with toks:=s.toks+1}) (Qo X ha) (Na (Nd ?_))))));obtain⟨oc,od,odt,RM⟩:=ox;dsimp only at hc hd VT;subst hc hd VT;obtain⟨hp,g,d,tk,os⟩:=s;refine Na (Nd (Na (Na (OM hx (Na (QC (s:=⟨hp,g,d,tk+1,os⟩) (looks_clsIn X hk) ?_))))));rw[hh];have Ts:(hp.push {cls:=.type "dict",data:=.dict #[]}).get? x=some ⟨.ref C,none,(.fields vs),RM⟩:=Pj _ hx;have US:x≠hp.objs.size:=MB (Pl hx);show wpAny (model prog w) A.in1 (alloc {cls:=.type "dict",data:=.dict #[]} >>=λd=>update x (λo=>{o with dict:=some d}) >>=λ_=>pure (some d)) _ _ _;refine Na (wpAny_alloc' (Na (wpAny_update' Ts (Nd ?_))));have hup:((hp.push {cls:=.type "dict",data:=.dict #[]}).update x λo=>{o with dict:=some hp.objs.size}).get? x=some ⟨.ref C,some hp.objs.size,.fields vs,RM⟩:=Pp _ Ts rfl;have hdd:((hp.push {cls:=.type "dict",data:=.dict #[]}).update x λo=>{o with dict:=some hp.objs.size}).get? hp.objs.size=some {cls:=.type "dict",data:=.dict #[]}:=(Pu _ _ _ _ US.symm).trans (Heap.get?_push_at rfl rfl);have Tu:((hp.push {cls:=.type "dict",data:=.dict #[]}).update x λo=>{o with dict:=some hp.objs.size}).Ns hp.objs.size (λ_=>none):=⟨_, #[],_,hdd,rfl,λe he=>QE he (by simp),λ_=>rfl⟩;show wpAny _ _ (storeInDict hp.objs.size (.str name tk) name v) _ _ _;unfold storeInDict newKeyGuard;refine Na (Nd (Na (wpAny_nsSet1 (Heap.Ns1.of_empty Tu) λh' UU hs'=>?_)));obtain⟨oD,esD,epD,hoD,hdD,hcD⟩:=UU.count (OU.cons name v OU.nil);refine Na (wpAny_lookBehind hoD (by rw[hdD];exact pastItsLine_dict (Mz hcD (by rw[Lg,Mt,Oc];omega))) (Nd ?_));exact h h' ((hs'.2 x US).trans hup) (λb o hb e=>(hs'.2 b (MB (Pl e))).trans ((Pu _ _ _ _ hb).trans (Pj _ e))) UU
end
end Fc
namespace Fc
open PySem PySem.Spec PySem.W PySem.Calls L2
open PyProof.Rows hiding St
open PySem PySem.Spec PySem.W PySem.Calls PySem.Builtin.ObjectAttr PySem.Builtin.Getset_descriptor L2
section
variable {prog:Nf}{w:World}{A:Nh}{E:Value->M9->Prop}{s:M9}{K:Frag}{C x:Addr}{ox od:Obj}{cd:ClassData}{name:Str}{v:Value}{ex:Bool}
theorem B0 {Q:Value->M9->Prop}(X:K.In s.heap)(e:c5 K C=true)(I:InstAt s.heap x ox C (some od))(hk:clsIn K C=some cd)(hh:cd.hasDict=true)(ha:Qy K (.ref C) name=some none)(hl:lookIn name od=some (some v))(hv:handedIn v=true)(h:Q v {s with toks:=s.toks+1}):wpAny (model prog w) A (getAttr (.ref x) name ex) Q E s:=by
 unfold c5 at e;simp only[KD,beq_iff_eq] at e;obtain⟨⟨⟨⟨⟨⟨⟨hga,hgk⟩,_⟩,hn⟩,Vq⟩,hm⟩,RL⟩,hc⟩:=e;obtain⟨hp,g,d,t,os⟩:=s;have X:K.In hp:=X;have L0:Looks (model prog w) hp (typeOf (.ref x)) (.ref C):=I.type;have L1:=Qo (M:=model prog w) X hga;have L2:=Qo (M:=model prog w) X hgk;have LB:Looks (model prog w) hp (isSubtype (.ref C) (.type "BaseException")) true:=looks_subIn X RL;have F1:Looks (model prog w) hp (find (.ref x) (.ref C) name) (.value v):=looks_find X I (by
  unfold findObj W.ownOf;rw[hk,ha];simp only[Option.bind_some,hh,if_true,hl])
 have Vn:(PN "BaseException.__getattribute__"==PN "object.__getattribute__")=false:=by decide +kernel
 have Ts:(onTheHeap (PM C)&&PN "BaseException.__getattribute__"==PN "object.__getattribute__")=false:=by rw[Vn];rfl
 unfold getAttr getAttrBy;refine Na (wpAny_mkText (Nv (Na (L0.at (Na (L1.at ?_))))));dsimp only;rw[Ts];simp only[KL,if_false];unfold getAttrByItsOwn hookBefore;have f3:=Pc.ga.bind (.ref x);refine Na (L2.at ?_);refine Na (Oe (Nv ?_));have hcg:callGetattribute (.ref x) (.str name t) (.builtin "BaseException.__getattribute__") ex=Oq (.builtin "BaseException.__getattribute__") (.ref x) (.str name t):=by cases ex<;>rfl
 rw[hcg];unfold Oq;refine Na (wpAny_of_eq f3 ?_);have hkd:builtinKind "BaseException.__getattribute__"=some .slot:=by decide +kernel
 have SE:splitId "BaseException.__getattribute__"=some ("BaseException","__getattribute__"):=by decide +kernel
 have V2:=PySem.F.args_bexc_ga (.ref x) (.str name t);refine N9 (N4 Pc.ga.plain PySem.F.entry_bexc_ga ?_);show wpAny _ _ (Of "BaseException.__getattribute__" ⟨[.ref x,.str name t],[]⟩) _ _ _;simp only[Of,hkd,SE];refine Na ?_;unfold Oz
 repeat lk
 show wpAny _ _ (handedOut v) _ _ _;rw[handedOut_of hv];exact Nd h
end
end Fc
namespace Fc
open PySem PySem.Spec PySem.W PySem.Calls L2
open PyProof.Rows hiding St
open PySem
variable {M:Model}
section
variable {α:Type}
def Ef (f:Obj->Obj):Prop:=∀o,o.isFreed=false->(f o).isFreed=false/\(f o).dict=o.dict
def Tame {α:Type}:Sem α->Prop
 | .pure _=>True
 | .raise _=>True
 | .unsupported _=>True
 | .finish _=>True
 | .rule _ k=>Tame (k ())
 | .at _ k=>Tame (k ())
 | .load _ _ k=>∀o,Tame (k o)
 | .update _ _ f k=>Ef f/\Tame (k ())
 | .alloc _ k=>∀a,Tame (k a)
 | .loadIfAlive _ k=>∀o,Tame (k o)
 | .point _ k=>Tame (k ())
 | .fresh k=>∀t,Tame (k t)
 | .ask k=>∀x,Tame (k x)
 | .stack k=>∀x,Tame (k x)
 | _=>False
def eQ (h h':Heap):Prop:=∀e o,h.get? e=some o->∃o',h'.get? e=some o'/\o'.dict=o.dict
theorem eQ.refl (h:Heap):eQ h h:=λe o q=>⟨o,q,rfl⟩
theorem eQ.trans {h1 h2 h3:Heap}(a:eQ h1 h2)(b:eQ h2 h3):eQ h1 h3:=λe o q=>by
 obtain⟨o1,q1,d1⟩:=a e o q;obtain⟨o2,q2,d2⟩:=b e o1 q1;exact⟨o2,q2,d2.trans d1⟩
theorem vq (h:Heap)(o:Obj):eQ h (h.push o):=λe u q=>⟨u,Pj _ q,rfl⟩
theorem qv {h:Heap}{a:Addr}{f:Obj->Obj}(hf:Ef f):eQ h (h.update a f):=λe o q=>by
 by_cases z:e=a
 ·subst z;obtain⟨h1,h2⟩:=hf o (Heap.get?_some_iff.mp q).2;exact⟨f o,Pp f q h1,h2⟩
 ·exact⟨o,(Pu _ _ _ _ z).trans q,rfl⟩
theorem Bv {Γ:PySem.Ctx}{Q:α->Pos->M9->Prop}{E:Value->Pos->M9->Prop}:∀(t:Sem α)(p:Pos)(s:M9),Tame t->PJ M Γ t Q E p s->PJ M Γ t (λa p' s'=>Q a p' s'/\eQ s.heap s'.heap) E p s:=by
 have key:∀(t:Sem α)(h0:Heap)(p:Pos)(s:M9),Tame t->eQ h0 s.heap->PJ M Γ t Q E p s->PJ M Γ t (λa p' s'=>Q a p' s'/\eQ h0 s'.heap) E p s:=by
  intro t h0
  induction t with
  | pure a=>intro p s _ k h;rw[PJ] at h ⊢;exact⟨h,k⟩
  | raise e=>intro p s _ k h;rw[PJ] at h ⊢;exact h
  | unsupported _=>intro p s _ k h;rw[PJ] at h;exact h.elim
  | finish _=>intro p s _ k h;rw[PJ] at h;exact h.elim
  | rule _ _ ih=>intro p s t k h;rw[PJ] at h ⊢;exact ih () p s t k h
  | «at» p' _ ih=>intro p s t k h;rw[PJ] at h ⊢;exact ih () p' s t k h
  | load a _ _ ih=>intro p s t k h;rw[PJ] at h ⊢;obtain⟨o,h1,h2⟩:=h;exact⟨o,h1,ih o p s (t o) k h2⟩
  | update a _ f _ ih=>intro p s t k h;rw[PJ] at h ⊢;exact⟨h.1,ih () p _ t.2 (k.trans (qv t.1)) h.2⟩
  | alloc o _ ih=>intro p s t k h;rw[PJ] at h ⊢;exact ih _ p _ (t _) (k.trans (vq _ _)) h
  | loadIfAlive a _ ih=>intro p s t k h;rw[PJ] at h ⊢;exact ih _ p s (t _) k h
  | point _ _ ih=>intro p s t k h;rw[PJ] at h ⊢;exact ih () p s t k h
  | fresh _ ih=>intro p s t k h;rw[PJ] at h ⊢;exact ih _ p _ (t _) k h
  | ask _ ih=>intro p s t k h;rw[PJ] at h ⊢;exact ih _ p s (t _) k h
  | stack _ ih=>intro p s t k h;rw[PJ] at h ⊢;exact ih _ p s (t _) k h
  | register _ _ _=>intro p s t k h;exact t.elim
  | choose _ _ _ _=>intro p s t k h;exact t.elim
  | os _ _ _ _=>intro p s t k h;exact t.elim
  | call _ _ _ _ _ _=>intro p s t k h;exact t.elim
  | handled _ _ _=>intro p s t k h;exact t.elim
  | newGen _ _ _=>intro p s t k h;exact t.elim
  | genState _ _ _=>intro p s t k h;exact t.elim
  | resume _ _ _ _ _=>intro p s t k h;exact t.elim
  | yield _ _ _ _ _=>intro p s t k h;exact t.elim
  | fork _ _ _=>intro p s t k h;exact t.elim
  | thread _ _=>intro p s t k h;exact t.elim
  | await _ _ _ _ _ _=>intro p s t k h;exact t.elim
 exact λt p s ht h=>key t s.heap p s ht (eQ.refl _) h
theorem fP {A:Nh}{t:Sem α}{Q:α->M9->Prop}{E:Value->M9->Prop}{s:M9}(ht:Tame t)(h:wpAny M A t Q E s):wpAny M A t (λa s'=>Q a s'/\eQ s.heap s'.heap) E s:=λΓ p hΓ=>Bv t p s ht (h Γ p hΓ)
theorem bb {β:Type}{m:Sem α}{f:α->Sem β}(h1:Tame m)(h2:∀a,Tame (f a)):Tame (m >>=f):=by
 show Tame (m.bind f)
 induction m with
 | pure a=>exact h2 a
 | raise e=>trivial
 | unsupported _=>trivial
 | finish _=>trivial
 | rule _ _ ih=>exact ih () h1
 | «at» p' _ ih=>exact ih () h1
 | load a _ _ ih=>exact λo=>ih o (h1 o)
 | update a _ f _ ih=>exact⟨h1.1,ih () h1.2⟩
 | alloc o _ ih=>exact λo=>ih o (h1 o)
 | loadIfAlive a _ ih=>exact λo=>ih o (h1 o)
 | point _ _ ih=>exact ih () h1
 | fresh _ ih=>exact λo=>ih o (h1 o)
 | ask _ ih=>exact λo=>ih o (h1 o)
 | stack _ ih=>exact λo=>ih o (h1 o)
 | register _ _ _=>exact h1.elim
 | choose _ _ _ _=>exact h1.elim
 | os _ _ _ _=>exact h1.elim
 | call _ _ _ _ _ _=>exact h1.elim
 | handled _ _ _=>exact h1.elim
 | newGen _ _ _=>exact h1.elim
 | genState _ _ _=>exact h1.elim
 | resume _ _ _ _ _=>exact h1.elim
 | yield _ _ _ _ _=>exact h1.elim
 | fork _ _ _=>exact h1.elim
 | thread _ _=>exact h1.elim
 | await _ _ _ _ _ _=>exact h1.elim
theorem bC (a:α):Tame (pure a:Sem α):=trivial
theorem kN (a:Addr):Tame (load a):=λ_=>trivial
theorem de (x:String):Tame (unsupported x:Sem α):=trivial
theorem jZ:Tame stack:=λ_=>trivial
theorem tG (v:Value):Tame (fieldsOf v):=by
 unfold fieldsOf;cases v<;>first | exact de _ | skip
 refine bb (kN _) λo=>?_;split
 ·exact bC _
 ·exact de _
theorem h7 (v:Value)(i:Nat):Tame (field v i):=by
 unfold field;refine bb (tG v) λvs=>?_;split
 ·exact bC _
 ·exact de _
theorem vo (f:Array Value->Array Value):Ef (Obj.mapFields f):=λo h=>by
 obtain⟨c,d,dt,sl⟩:=o;cases dt<;>first | exact⟨h,rfl⟩ | exact⟨rfl,rfl⟩
theorem gX (v:Value)(i:Nat)(x:Value):Tame (setField v i x):=by
 unfold setField;cases v<;>first | exact de _ | skip
 unfold updateField;refine bb (kN _) λo=>?_;split
 ·split
  ·exact⟨vo _,trivial⟩
  ·exact de _
 ·exact de _
theorem gp (v:Value)(f:Option Addr):Tame (setFlight v f):=by
 unfold setFlight;refine bb (h7 _ _) λtb=>?_;split
 ·exact gX _ _ _
 ·exact bC _
theorem tw (env:Env)(outer:List Env):Tame (behindIsImport env outer):=by
 unfold behindIsImport;split
 ·exact bC _
 ·split
  ·exact bC _
  ·exact bb (h7 _ _) λ_=>bC _
theorem wH (env:Env)(b:Bool)(l:List Env):Tame (keptBack env b l):=by
 unfold keptBack;split
 ·split
  ·exact bC _
  ·refine bb ?_ λ_=>bC _;unfold underTheClaimsCaller;exact bb jZ λ_=>bC _
 ·exact bC _
theorem mv:∀l:List Env,Tame (readyFrames l)
 | []=>bC _
 | env::outer=>by
   unfold readyFrames;split
   ·refine bb (kN _) λo=>?_;split
    ·exact bC _
    ·refine bb (tw _ _) λb=>bb (wH _ _ _) λv=>bb ⟨λo h=>⟨?_,rfl⟩,trivial⟩ λ_=>mv outer;obtain⟨c,d,dt,sl⟩:=o;cases dt<;>first | rfl | exact h
   ·exact de _
theorem qN (env:Env):Tame (OS env):=by
 unfold OS frameEnvs;refine bb (bb jZ λ_=>bC _) λl=>bb ?_ λr=>?_
 ·unfold frameObject;split
  ·exact bC _
  ·exact bb (mv _) λ_=>bC _
 ·split
  ·exact bC _
  ·exact de _
theorem vU (f:Addr)(b:Bool):Tame (entryPlaceOf f b):=by
 unfold entryPlaceOf;refine bb jZ λacts=>?_;split
 ·exact bC _
 ·first | exact bC _ | exact de _
theorem mI (o:Obj):Tame (alloc o):=λ_=>trivial
theorem zr (vs:Kv):Tame (newFields "traceback" vs):=by
 unfold newFields newObj newObjAsIs;dsimp only;split
 ·exact bb (de _) λ_=>bb (mI _) λ_=>bC _
 ·exact bb (mI _) λ_=>bC _
theorem pE (e:Value)(env:Env):Tame (noteFrame e env):=by
 unfold noteFrame;split
 ·refine bb (h7 _ _) λhead=>?_;have jp:∀d:Addr,Tame (do
   let a ← OS env
   let b ← entryPlaceOf d (head != PQ)
   let c ← EntryCells.newEntry head a PQ (OC d) PQ b
   setField e 1 c):=λd=>by
   refine bb (qN _) λa=>bb (vU _ _) λb=>bb ?_ λc=>gX _ _ _;exact zr _
  dsimp only;split
  ·refine bb (h7 _ _) λx=>?_;split
   ·exact bC _
   ·exact bb (gX _ _ _) λ_=>jp _
  ·exact jp _
 ·exact de _
theorem ky (env:Env)(e:Value):Tame (leaving env e):=by
 unfold leaving;exact bb (pE _ _) λ_=>gp _ _
end
end Fc
namespace Fc
open PySem PySem.Spec PySem.W PySem.Calls L2
open PyProof.Rows hiding St
variable {H:Hp}{nm:Str}{o:Obj}{K:P1}{x:Str}{C:Addr}{P:Nf}{w:World}{X:Cx}{QN:Kq}{σ:St}{s:M9}{mg:Kp}{n:Int}{tk:Nat}{v:Value}{base:Heap}{y self:Str}{st:Stmt}{fd:Nm}{p1 p2:Pos}{Q Ex:Value->M9->Prop}
section
variable {e:Addr}{fI:Addr}{h:Heap}
structure kM (K:P1)(mg:Kp)(x nm:Str)(C CE fI:Addr):Prop where
 bound:mg x=some (.ref C)
 lk:∃n bs ns qn sn sub ab col dd k0 k1 k2 k3 k5,K.lookup C=some (OK n qn C ns bs (.ref CE::hU) true sn sub ab col dd k0 k1 k2 k3 k5 "ValueError.__new__")/\Qz K ns=true/\P2 K ns "__init__"=some (some (.ref fI))
 tl:Qs K hU (.ref CE::hU)=true
 fn:Qr K (.ref fI)=true
 kp:P8 K (.ref C)=true
 sa:P4 K (.ref C) "__setattr__"=some (some (.builtin "object.__setattr__"))
 no:P4 K (.ref C) nm=some none
 look:c5 K C=true
theorem kM.cls {CE:Addr}(c:kM K mg x nm C CE fI):∃cd,QA K C=some cd/\cd.mro= .ref C:: .ref CE::hU/\cd.hasDict=true:=by
 obtain⟨n,bs,ns,qn,sn,sub,ab,col,dd,k0,k1,k2,k3,k5,h,_⟩:=c.lk;exact⟨{name:=n,bases:=bs,mro:=.ref C:: .ref CE::hU,ns:=ns,qualname:=qn,hasDict:=true,slotNames:=sn,subclasses:=sub,abstract:=ab,collection:=col,hasDel:=false},by unfold QA;rw[h],rfl,rfl⟩
abbrev dD (e:Addr)(o:Obj):HO:=.ext λh=>h.get? e=some o
abbrev ic (o:Obj)(d:Addr):Obj:={o with dict:=some d}
def qq (C:Addr)(nm:Str):Sp:=λvs H Q _=>∃e n t,vs=[.ref e,.int n]/\H e=some (dD e (d7 C t))/\∀dx,H dx=none->dx≠e->Q .QY (upd (upd H dx (.xd [(nm,.int n)])) e (dD e (ic (d7 C t) dx)))
theorem rT (q:h.get? e=some o):bQ P w H h e (dD e o):=⟨q,⟨o,q⟩,λh1 h2 p k=>k o p⟩
theorem Inv.stored {h':Heap}(I:Inv X QN σ H s)(he:H e=some (dD e o))(rv:RelV (.int n) v)(q1:h'.get? e=some (ic o s.heap.objs.size))(q2:∀b u,b≠e->s.heap.get? b=some u->h'.get? b=some u)(q3:h'.Ns1 s.heap.objs.size (λy=>if y=nm then some v else none)):
 Inv X QN σ (upd (upd H s.heap.objs.size (.xd [(nm,.int n)])) e (dD e (ic o s.heap.objs.size))) {s with heap:=h',toks:=tk}:=by
 obtain⟨od,es,ep,hd,rest⟩:=id q3;have Q5:e≠s.heap.objs.size:=λz=>by
  have:=I.QQ.fresh (a:=s.heap.objs.size) (My _);rw[← z,he] at this;cases this
 have Ud:od.isFreed=false:=(Heap.get?_some_iff.mp hd).2;have hm:(s.heap.push od).get? s.heap.objs.size=some od:=Pm _ Ud;have I2:Inv X QN σ (upd H s.heap.objs.size (.xd [(nm,.int n)])) {s with heap:=s.heap.push od,toks:=tk}:=I.laid (a:=s.heap.objs.size) (o:=.xd [(nm,.int n)]) (t':=tk) (λb u q=>Pj _ q) (My _) ⟨_,⟨od,es,ep,hm,rest⟩,λf=>by
  by_cases z:f=nm
  ·subst z;rw[Lx,beq_self_eq_true,QG rfl];exact rv
  ·rw[Lx,show(f==nm)=false by simpa using z,QF z];trivial⟩
 have UJ:upd H s.heap.objs.size (.xd [(nm,.int n)]) e=some (dD e o):=(aA Q5).trans he;exact I2.write (x:=e) (e:=e) (o:=dD e (ic o s.heap.objs.size)) (t':=tk) (by rw[UJ];trivial) (.inl rfl) (λb u hb q=>by
  by_cases z:b=s.heap.objs.size
  ·subst z;have q:(s.heap.push od).get? s.heap.objs.size=some u:=q;rw[hm] at q;cases q
   exact hd
  ·exact q2 b u hb ((Heap.get?_push_ne _ _ _ z).symm.trans q)) ⟨_,q1⟩ (rT q1)
theorem uP {pl:Str}{CE:Addr}{p3 p4:Pos}(c:kM K mg x nm C CE fI)(F:cK K "__init__" y st fI fd)(Sc:aZ [self,pl] [self,pl] (ak st))(nd:self≠pl)(hb:bo st=[.Assign [.Attribute (.Name self p1) nm p2] (.Name pl p3) p4])(hs:∀env,Nl (.Name pl p3) (some (.Attribute (.Name self p1) nm p2)) p4.line env=pure false)(hv1:cI (ak st) self)(hv2:cI (ak st) pl)(d1:(self==("__debug__":Str))=false)(d2:(self==("__classdict__":Str))=false)(d3:(pl==("__debug__":Str))=false)(d4:(pl==("__classdict__":Str))=false):
 cy P w K mg base c8 1 fI fd [self,pl] (qq C nm):=by
 obtain⟨oc,od,kV,doc,pm,an,QP,ct,RM,rfl,lk,QR⟩:=F.ex;refine qo lk QR Sc (λvs H Q E ⟨_,_,_,e,_⟩=>by rw[e];rfl) (λA outer s H vs Q E hr h=>?_);obtain⟨e,n,t,rfl,he,q⟩:=h;refine⟨_,ef,?_⟩;rw[hb];refine pz (oj ur) ?_;intro QN s1 I;obtain⟨cd,hk,hm,hh⟩:=c.cls;have hp1:=bh (X:=aX c8 P w K mg base [self,pl] y (ak st) fI QP A outer s H E) (i:=1) (x:=pl) (pos:=p3) rfl hv2 d3 d4 QN s1 (L2.start [self,pl] [.ref e,.int n]) H (λu H'=>u= .int n/\H'=H) I ⟨.int n,rfl,rfl,rfl⟩;refine plainObj_wpAny_Assign_Attribute (aO hp1 λu s2 ⟨y,H1,I1,ry,e1,e2⟩=>?_) (hs _);subst e1 e2;have hp2:=bh (X:=aX c8 P w K mg base [self,pl] _ (ak st) fI QP A outer s H1 E) (i:=0) (x:=self) (pos:=p1) rfl hv1 d1 d2 QN s2 (L2.start [self,pl] [.ref e,.int n]) H1 (λu H'=>u= .ref e/\H'=H1) I1 ⟨.ref e,rfl,rfl,rfl⟩;refine aO hp2 λov s3 ⟨y2,H2,I2,ry2,e3,e4⟩=>?_;subst e3 e4;obtain rfl:ov=PM e:=ry2;have Tg:s3.heap.get? e=some (d7 C t):=(I2.QQ e _ he).1;refine B4 (K:=K) (cd:=cd) (CE:=CE) I2.cY Tg rfl rfl rfl c.sa hk hm hh c.no λh' q1 q2 q3=>?_;have I3:=Inv.stored (nm:=nm) (tk:=s3.toks+2) I2 he ry q1 q2 q3;exact⟨_,_,I3,q _ (I2.QQ.fresh (My _)) λz=>by have:=I2.QQ.fresh (a:=s3.heap.objs.size) (My _);rw[z,he] at this;cases this⟩
theorem bW.drop (k:bW P w (upd H e (dD e o)) h)(h0:H e=none):bW P w H h:=λb u q=>by
 have hb:b≠e:=λz=>by rw[z,h0] at q;cases q
 have q2:upd H e (dD e o) b=some u:=(aA hb).trans q;refine(k b u q2).Q7 (λc v _ r=>r) (λc r=>?_) λc xs r=>?_
 ·by_cases z:c=e
  ·rw[z,aD] at r;cases r
  ·rw[aA z] at r;exact r
 ·by_cases z:c=e
  ·rw[z,aD] at r;cases r
  ·rw[aA z] at r;exact r
theorem Inv.drop (I:Inv X QN σ (upd H e (dD e o)) s)(h0:H e=none):Inv X QN σ H s:=by
 have le:∀b,upd H e (dD e o) b=none->H b=none:=λb q=>by
  by_cases z:b=e
  ·rw[z];exact h0
  ·rw[aA z] at q;exact q
 have un:∀b u,upd H e (dD e o) b=some u->(∀φ,u≠ .ext φ)->H b=some u:=λb u q n=>by
  by_cases z:b=e
  ·rw[z,aD] at q;cases q;exact QE rfl (n _)
  ·rw[aA z] at q;exact q
 refine⟨I.ok,I.os,I.bare,⟨I.base.keep,I.base.slot,λb u q n x=>le b (I.base.free b u q n x),I.base.there,λb xs q=>un b _ (I.base.Rf b xs q) (λ_ z=>by cases z),λb o' u q=>un b _ (I.base.Rb b o' u q) (λ_ z=>by cases z),λb ps q=>?_⟩,I.loc,I.cell,le _ I.free,λx c q=>le _ (I.Q2 x c q),λp hp=>?_,bW.drop I.QQ h0,I.len⟩
 ·obtain⟨more,r⟩:=I.base.Rg b ps q;exact⟨more,un b _ r (λ_ z=>by cases z)⟩
 ·obtain⟨a1,a2,a3⟩:=I.pin p hp;exact⟨a1,le _ a2,a3⟩
theorem Bd {N:Addr}{m:Kp}{n:Str}(X:K.In h)(G:h.Ns N m)(e:P2 K N n=some (some v)):m n=some v:=by
 obtain⟨o,es,ep,ho,hd,_,hf⟩:=G;unfold P2 at e;split at e
 ·rename_i oc od es' n' sl hl;have z:=(X _ _ hl).symm.trans ho;cases z
  cases hd
  split at e
  ·rename_i en VO;cases e
   rw[← hf n];unfold nsFind findBy;rw[← Array.find?_toList,VO];rfl
  ·split at e<;>cases e
 ·cases e
theorem By {pl:Str}{CE:Addr}{u:Value}(c:kM X.K X.mg x nm C CE fI)(FI:cy X.prog X.w X.K X.mg X.base c8 1 fI fd [self,pl] (qq C nm))(hb:Binds X.K fd [self,pl] [])(hr:br 2 X.A)(I:Inv X QN σ H s)(rv:RelV (.int n) u)(h:∀e dx t s',H e=none->H dx=none->dx≠e->s.heap.get? e=none->s'.heap.get? e=some (ic (d7 C t) dx)->Inv X QN σ (upd H dx (.xd [(nm,.int n)])) s'->Q (.ref e) s'):wpAny (model X.prog X.w) X.A (call (.ref C) [u]) Q Ex s:=by
 obtain⟨nm',bs,ns,qn,sn,sub,ab,col,dd,k0,k1,k2,k3,k5,hC,QQ,hni⟩:=c.lk;have KX:=I.cY;obtain⟨hp,g,d,t,os⟩:=s;have hN:hp.Ns ns (hp.nsMap ns):=.of_isNs (PySem.W.isNs_of_in KX QQ);have hini:hp.nsMap ns "__init__"=some (.ref fI):=Bd KX hN hni;obtain⟨oI,VQ,VP⟩:∃oI,hp.get? fI=some oI/\oI.cls= .type "function":=by
  have q:PySem.W.typeIn X.K (.ref fI)=some (.type "function"):=beq_iff_eq.mp c.fn;obtain⟨o,ho,hc⟩:=MT.mp q;exact⟨o,KX _ _ ho,hc⟩
 refine xY PySem.F.excBase_ValueError (PySem.W.tail_of_in KX c.tl) (KX _ _ hC) hN hini VQ VP (λh' e hm hz=>?_) (by show 1<=Nb;decide);obtain⟨tt,he,htn,ht⟩:=hm.there;have fe:H e=none:=I.QQ.fresh hz;have I1:Inv X QN σ (upd H e (dD e (d7 C tt))) ⟨h',g,d,t,os⟩:=I.laid (a:=e) (o:=dD e (d7 C tt)) (t':=t) hm.keeps hz (rT he);have r2:Vals [V.ref e,V.int n] [PM e,u]:=.cons rfl (.cons rv .nil);have sp:qq C nm [V.ref e,V.int n] (upd H e (dD e (d7 C tt))) (λv H2=>v= .QY/\∃dx,(upd H e (dD e (d7 C tt))) dx=none/\dx≠e/\H2=upd (upd (upd H e (dD e (d7 C tt))) dx (.xd [(nm,.int n)])) e (dD e (ic (d7 C tt) dx))) (λ_ _ _=>False):=⟨e,n,tt,rfl,aD,λdx h1 h2=>⟨rfl,dx,h1,h2,rfl⟩⟩;refine N9 (N7 (FI.run _ X.stack ⟨h',g,d,t,os⟩ _ ⟨[PM e,u],[]⟩ [PM e,u] _ _ _ ((hr.make C [u] [])) (I1.vS.make C [u] []) (hb _ [PM e,u] I1.cY rfl) r2 sp) λr s' hq=>?_);cases r with
 | error ev=>exact KO hq
 | ok fl=>
   cases fl with
   | ret v=>
     obtain⟨y,H2,I3,ry,rfl,dx,g1,g2,rfl⟩:=I1.after hq;have g1:H dx=none:=by rw[aA g2] at g1;exact g1
     have e3:upd (upd (upd H e (dD e (d7 C tt))) dx (.xd [(nm,.int n)])) e (dD e (ic (d7 C tt) dx))=upd (upd H dx (.xd [(nm,.int n)])) e (dD e (ic (d7 C tt) dx)):=by
      funext b;by_cases z:b=e
      ·subst z;rw[aD,aD]
      ·rw[aA z,aA z];by_cases z2:b=dx
       ·subst z2;rw[aD,aD]
       ·rw[aA z2,aA z2,aA z]
     rw[e3] at I3;refine⟨ry,h e dx tt s' fe g1 g2 hm.new ((I3.QQ e _ aD).1) (Inv.drop I3 ((aA (MQ g2)).trans fe))⟩
   | next=>exact KO hq
   | brk=>exact KO hq
   | cont=>exact KO hq
def bY (P:Nf)(w:World):i6:=λouter H s E ev s'=>∃e T cls dx H',ev= .ref e/\s'.os=s.os/\M0 s'.gens/\Un (bG outer) [] H H' s.heap s'.heap/\bW P w H' s'.heap/\uU s.heap s'.heap H' e T cls/\(∃oe,s'.heap.get? e=some oe/\oe.dict=some dx)/\E cls (some dx) H'
end
variable {qual:Str}{scope:Scope}{f:Addr}{cd:Value}{A:Nh}{outer:List Env}
section
variable {N:Ks}{E:XK}
theorem pT {H1 H2:Hp}{s1 s2:M9}{e dx t:Addr}(I1:Inv (aX (bY P w) P w K mg base N qual scope f cd A outer s H E) QN σ H1 s1)(ne:s1.heap.get? e=none)(fe:H2 e=none)(I2:Inv (aX (bY P w) P w K mg base N qual scope f cd A outer s H E) QN σ H2 s2)(he:s2.heap.get? e=some (ic (d7 C t) dx))(q:E (.ref C) (some dx) H2):(aX (bY P w) P w K mg base N qual scope f cd A outer s H E).xe (.ref e) s2:=by
 have Sr:s2.heap.FunFrames base (MW qual scope s.heap.objs.size f cd::outer):=I2.stack;have UX:∀b∈bG (MW qual scope s.heap.objs.size f cd::outer),H2 b=none:=I2.ip;have Tz:s2.heap.FunFrames (Qa s2.heap (e::bG (MW qual scope s.heap.objs.size f cd::outer))) (MW qual scope s.heap.objs.size f cd::outer):=jv Sr λb hb=>K0 _ hb;show wpAny (model P w) (A.deeper (MW qual scope s.heap.objs.size f cd)) (leaving (MW qual scope s.heap.objs.size f cd) (.ref e)) _ _ _;refine Nj (fP (ky _ _) (wpAny_leaving_firstW (Q:=λ_ s'=>∃h',s'={s2 with heap:=h'}/\Heap.LeftW (Qa s2.heap (e::bG (MW qual scope s.heap.objs.size f cd::outer))) (MW qual scope s.heap.objs.size f cd::outer) e (.ref C) (.ref t) s2.heap h') (a0:=.ref t) I2.ok.frames Tz rfl he (λb o z=>Qm _ z) (Qd _ K4) rfl rfl rfl λh' hL=>⟨h',rfl,hL⟩)) (λ_ s' hq=>?_) λ_ _ z=>z;obtain⟨⟨h',rfl,st,UH,⟨oe,vs,T,oT,ts,UJ,hc,hd,h1,hnT,U3,hT,U0,h3⟩,up⟩,kd⟩:=hq;have keep:∀b o,s2.heap.get? b=some o->b∉bG (MW qual scope s.heap.objs.size f cd::outer)->b≠e->h'.get? b=some o:=λb o r hb n=>st b o (Qj _ r λz=>by
  rcases K8.mp z with z | z
  ·exact n z
  ·exact hb z)
 have TJ:∀b o,s2.heap.get? b=some o->b∈bG (MW qual scope s.heap.objs.size f cd::outer)->∃sl,h'.get? b=some {o with slots:=sl}:=λb o r hb=>by
  obtain⟨_,o2,r2,nf⟩:=Tz.mem hb;rw[r] at r2;cases r2
  exact up b o r nf
 have b1:Un (bG outer) [] H H1 s.heap s1.heap:=I1.base;have b2:Un (bG outer) [] H H2 s.heap s2.heap:=I2.base;have ne0:s.heap.get? e=none:=dR b1 ne;have nb:∀b o,s.heap.get? b=some o->b≠e:=λb o r z=>by rw[z,ne0] at r;cases r
 have nfr:∀b o,s.heap.get? b=some o->b∉bG outer->b∉bG (MW qual scope s.heap.objs.size f cd::outer):=λb o r hb z=>by
  have z':b∈(MW qual scope s.heap.objs.size f cd::outer).filterMap (·.frame):=z;rw[Lp] at z';rcases K8.mp z' with y | y
  ·have:=Pl r;rw[y] at this;exact QE this (MF _)
  ·exact hb y
 have sub:∀b,b∈bG outer->b∈bG (MW qual scope s.heap.objs.size f cd::outer):=λb z=>by
  show b∈(MW qual scope s.heap.objs.size f cd::outer).filterMap (·.frame);rw[Lp];exact K0 _ z
 have un2:Un (bG outer) [] H H2 s.heap h':=⟨λb o r n hb hx=>keep b o (b2.keep b o r n hb hx) (nfr b o r hb) (nb b o r),λb o r n hb hx=>by
  obtain⟨sl,r2⟩:=b2.slot b o r n hb hx;obtain⟨Tq,r3⟩:=TJ b _ r2 (sub b hb);exact⟨Tq,r3⟩,b2.free,λb o r hx=>by
  obtain⟨o',r2⟩:=b2.there b o r hx;by_cases z:b∈bG (MW qual scope s.heap.objs.size f cd::outer)
  ·obtain⟨sl,r3⟩:=TJ b o' r2 z;exact⟨_,r3⟩
  ·exact⟨o',keep b o' r2 z (nb b o r)⟩,b2.Rf,b2.Rb,b2.Rg⟩
 have hok2:bW P w H2 h':=λb x qx=>by
  refine(I2.QQ b x qx).Q7 (λc v S3 r=>?_) (λ_ r=>r) λ_ _ r=>r;have hcn:H2 c≠none:=by
   rcases S3 with rfl | S3
   ·rw[qx];exact MR _
   ·rw[S3];exact MR _
  exact keep c v r (λz=>hcn (UX c z)) λz=>hcn (z▸fe)
 obtain⟨oe',r1,r2⟩:=kd e _ he;have nT2:s2.heap.get? T=none:=by
  cases r:s2.heap.get? T with
  | none=>rfl
  | some o=>
    exfalso;by_cases z:T∈e::bG (MW qual scope s.heap.objs.size f cd::outer)
    ·rcases K8.mp z with z | z
     ·exact U3 z
     ·obtain⟨_,o2,r3,nf⟩:=Tz.mem z;rw[r] at r3;cases r3
      obtain⟨sl,r4⟩:=TJ T o r z;rw[hT] at r4;cases r4
      exact nf ts U0
    ·rw[Qj _ r z] at hnT;cases hnT
 exact⟨e,T,.ref C,dx,H2,rfl,I2.os,I2.bare,un2,hok2,⟨⟨oe,vs,oT,ts,_,UJ,hc,hd,h1,U3,hT,U0,h3⟩,ne0,dR b2 nT2,fe,bW.none_of I2.QQ nT2⟩,⟨oe',r1,r2⟩,q⟩
end
inductive rN
 | ret (T:RT)
 | exc (cls:Value) (fs:List (Str×V))
abbrev iD:=P1->List Pk->rN->Prop
def rN.meets (H R:Hp)(Q:VK)(E:XK):rN->Prop
 | .ret T=>∀v H' R',Ext H R H' R'->T H v H' R'->Q v H'
 | .exc c fs=>∀H' R' dx,Ext H R H' R'->H dx=none->R' dx=some (.xd fs)->E c (some dx) H'
def gO (S:iD)(K:P1):Sp:=λvs H Q E=>∃R ps o,ax R H/\gI K R vs ps/\S K ps o/\o.meets H R Q E
structure g7 (P:Nf)(w:World)(K:P1)(mg:Kp)(base:Heap)(x:Str)(k:Nat)(sp:Sp):Prop where
 ex:∃f fd ps,cy P w K mg base (bY P w) k f fd ps sp/\mg x=some (.ref f)/\P8 K (.ref f)=true/\Binds K fd ps []
variable {S:iD}
theorem mr {N ps:Ks}{k:Nat}(F:cK K x qual st f fd)(Sc:aZ N ps (ak st))(hm:mg x=some (.ref f))(hb:Binds K fd ps [])(len:∀qs o,S K qs o->qs.length=ps.length)(Sb:∀qs T,¬S K qs (.ret T))(UI:∀(QP:Value)(A:Nh)(outer:List Env)(s:M9)(H R:Hp)(E:XK)(qs:List Pk)(c:Value)(fs:List (Str×V)),br k (A.deeper (MW qual (ak st) s.heap.objs.size f QP))->S K qs (.exc c fs)->(∀H' R' dx,Ext H R H' R'->H dx=none->R' dx=some (.xd fs)->E c (some dx) H')->
  RS (aX (bY P w) P w K mg base N qual (ak st) f QP A outer s H E) H R (bo st) (du qs N.length)):g7 P w K mg base x (k+1) (gO S K):=by
 obtain⟨oc,od,kV,doc,pm,an,QP,ct,RM,rfl,lk,QR⟩:=F.ex;refine⟨f,_,ps,?_,hm,F.kp,hb⟩;refine qo lk QR Sc (λvs H Q E h=>?_) (λA outer s H vs Q E hr h=>?_)
 ·obtain⟨R,qs,o,_,p,hS,_⟩:=h;rw[p.length];exact len qs o hS
 ·obtain⟨R,qs,o,sR,p,hS,q⟩:=h;have hl:qs.length<=N.length:=by
   rw[len qs o hS];have:=congrArg List.length Sc.pre;rw[Lc] at this;omega
  cases o with
  | ret T=>exact QE hS (Sb qs T)
  | exc c fs=>exact⟨_,ef,UI QP A outer s H R E qs c fs hr hS q (L2.start N vs) H R (eD sR p hl) _⟩
variable {Γ Γ1:Ga}{cp pos:Pos}{a:Expr}{rest:List Stmt}
section
variable {N:Ks}{R:Hp}{E:XK}
theorem wD {pl:Str}{CE fI:Addr}{TZ:Nm}{np:Pos}(c:kM K mg x nm C CE fI)(FI:cy P w K mg base c8 1 fI TZ [self,pl] (qq C nm))(hb:Binds K TZ [self,pl] [])(hr:br 2 (A.deeper (MW qual scope s.heap.objs.size f cd)))(ha:HA (aX (bY P w) P w K mg base N qual scope f cd A outer s H E).cj [a] Γ [⟨ah,n⟩] Γ1)(q:∀H' R' dx,Ext H R H' R'->H dx=none->R' dx=some (.xd [(nm,.int n)])->E (.ref C) (some dx) H')(hg:Gl (aX (bY P w) P w K mg base N qual scope f cd A outer s H E) x:=by rfl)(Rj:Q0 x:=by decide)(he:Nc [a] (aX (bY P w) P w K mg base N qual scope f cd A outer s H E).env=(false,eval a (aX (bY P w) P w K mg base N qual scope f cd A outer s H E).env)::Nc [] (aX (bY P w) P w K mg base N qual scope f cd A outer s H E).env:=by rfl):
 RS (aX (bY P w) P w K mg base N qual scope f cd A outer s H E) H R (.Raise (some (.Call (.Name x np) [a] [] cp)) none pos::rest) Γ:=λσ H1 R1 EO D QN s1 I=>by
 refine Nu ?_;obtain⟨nm',bs,ns,qn,sn,sub,ab,col,dd,k0,k1,k2,k3,k5,hC,QQ,hni⟩:=c.lk;rw[arm_exec_Raise];simp only[evalOpt,Option.map];refine Na (Od (uX (C:=C) (bm:=.ref CE::hU) (hdct:=true) (newId:="ValueError.__new__") (nm:=nm') (q:=qn) (N:=ns) (bs:=bs) (sn:=sn) (sub:=sub) (ab:=ab) (col:=col) (dd:=dd) (k0:=k0) (k1:=k1) (k2:=k2) (k3:=k3) (k5:=k5) (by rw[List.contains_cons,show hU.contains (.type "BaseException")=true by decide,KN]) (I.ok.hd rfl) (Na (Nj ?_ (λv s3 h3=>Na (Od (Nd h3))) λ_ _ x=>x))));refine NJ (iu I hg c.bound ?_ Rj);refine Qn (h₀:=base) I.ok.mod.UR c.kp (aO (kF.cj (ha σ H R H1 R1 EO (λvs H2=>∃R2,aw K σ H R H2 R2 Γ1/\ax R1 R2/\gI K R2 vs [⟨ah,n⟩]) λvs H2 R2 E2 s2 p2=>⟨R2,E2,s2,p2⟩) _ cp QN s1 I) λus s2 ⟨vs,H2,I2,r,R2,E2,sR,p2⟩=>⟨I2.cY,?_⟩) he rfl;cases p2 with
 | cons a2 t2=>
   cases t2
   cases a2
   obtain⟨u,rfl,ru⟩:=vals1 r;refine By (X:=aX (bY P w) P w K mg base N qual scope f cd A outer s H E) c FI hb hr I2 ru λe dx t s' fe fd nde ne he' I3=>?_;refine⟨e,_,t,rfl,I3.cY _ _ hC,he',rfl,rfl,?_⟩;exact pT I2 ne ((aA (MQ nde)).trans fe) I3 he' (q _ (upd R2 dx (.xd [(nm,.int n)])) dx (E2.ext.trans (Ext.fresh E2.sub fd _)) (E2.ext.h.free fd) aD)
theorem kg {H1 H':Hp}{s1 s':M9}{e T dx:Addr}{cls:Value}(I1:Inv (aX (bY P w) P w K mg base N qual scope f cd A outer s H E) QN σ H1 s1)(ho:s'.os=s1.os)(bare:M0 s'.gens)(un:Un (bG (aX (bY P w) P w K mg base N qual scope f cd A outer s H E).stack) [] H1 H' s1.heap s'.heap)(QQ:bW P w H' s'.heap)(Rz:uU s1.heap s'.heap H' e T cls)(Se:∃oe,s'.heap.get? e=some oe/\oe.dict=some dx)(q:E cls (some dx) H'):
 (aX (bY P w) P w K mg base N qual scope f cd A outer s H E).xe (.ref e) s':=by
 have Sr:s1.heap.FunFrames base (MW qual scope s.heap.objs.size f cd::outer):=I1.stack;have Sk:∀b∈bG (MW qual scope s.heap.objs.size f cd::outer),H1 b=none:=I1.ip;have un:Un (bG (MW qual scope s.heap.objs.size f cd::outer)) [] H1 H' s1.heap s'.heap:=un;have UX:∀b∈bG (MW qual scope s.heap.objs.size f cd::outer),H' b=none:=λb hb=>by
  obtain⟨_,o,r,_⟩:=Sr.mem hb;exact un.free b o r (Sk b hb) Le
 have hsl:∀b∈bG (MW qual scope s.heap.objs.size f cd::outer),∀o,s1.heap.get? b=some o->∃sl,s'.heap.get? b=some {o with slots:=sl}:=λb hb o r=>un.slot b o r (Sk b hb) hb Le;have Tz:s'.heap.FunFrames (Qa s'.heap (e::T::bG (MW qual scope s.heap.objs.size f cd::outer))) (MW qual scope s.heap.objs.size f cd::outer):=
  iJ (h0:=s'.heap) (fs:=e::T::bG (MW qual scope s.heap.objs.size f cd::outer)) Sr hsl λb hb=>K0 _ (K0 _ hb)
 obtain⟨oe,vs,oT,ts,a0,he,hc,hd,h1,U3,hT,U0,h3⟩:=Rz.ex;have UY:Pt (Qa s'.heap (e::T::bG (MW qual scope s.heap.objs.size f cd::outer))) (MW qual scope s.heap.objs.size f cd::outer) e cls a0 s'.heap:=
  ⟨λb o z=>Qm _ z,Qd _ K4,Tz,oe,vs,T,oT,ts,he,hc,hd,h1,Qd _ (K0 _ K4),U3,hT,U0,h3⟩
 show wpAny (model P w) (A.deeper (MW qual scope s.heap.objs.size f cd)) (leaving (MW qual scope s.heap.objs.size f cd) (.ref e)) _ _ _;refine Nj (fP (ky _ _) (wpAny_leaves_onW (Q:=λ_ s2=>∃h',s2={s' with heap:=h'}/\Pt (Qa s'.heap (e::T::bG (MW qual scope s.heap.objs.size f cd::outer))) outer e cls a0 h'/\s'.heap.UpToSlots h') I1.ok.frames rfl UY λh' fl up=>⟨h',rfl,fl,up⟩)) (λ_ s2 hq=>?_) λ_ _ z=>z;obtain⟨⟨h',rfl,⟨st,VR,UH,oe2,vs2,T2,oT2,ts2,UJ,hc2,hd2,h12,Vx,V6,U4,VX,h32⟩,up⟩,kd⟩:=hq;have TJ:∀b o,s'.heap.get? b=some o->b∈bG (MW qual scope s.heap.objs.size f cd::outer)->∃sl,h'.get? b=some {o with slots:=sl}:=λb o r hb=>by
  obtain⟨_,o2,r2,nf⟩:=Tz.mem hb;rw[r] at r2;cases r2
  exact up b o r nf
 obtain⟨u2,ok2⟩:=sk un QQ Rz UX st TJ;have SU:Un (bG outer) [] H H1 s.heap s1.heap:=I1.base;have un2:Un (bG outer) [] H H' s.heap h':=by
  refine Un.shrink ((SU.mono (fs':=bG (MW qual scope s.heap.objs.size f cd::outer)) (λb z=>?_) λ_ z=>z).trans u2) λb o r z=>?_
  ·show b∈(MW qual scope s.heap.objs.size f cd::outer).filterMap (·.frame);rw[Lp];exact K0 _ z
  ·have z':b∈(MW qual scope s.heap.objs.size f cd::outer).filterMap (·.frame):=z;rw[Lp] at z';rcases K8.mp z' with y | y
   ·have:=Pl r;rw[y] at this;exact QE this (MF _)
   ·exact y
 have tc:T2=T∨s'.heap.get? T2=none:=by
  cases r:s'.heap.get? T2 with
  | none=>exact .inr rfl
  | some o=>
    left;by_cases z:T2∈e::T::bG (MW qual scope s.heap.objs.size f cd::outer)
    ·rcases K8.mp z with z | z
     ·exact QE z V6
     ·rcases K8.mp z with z | z
      ·exact z
      ·exfalso;obtain⟨_,o2,r2,nf⟩:=Tz.mem z;rw[r] at r2;cases r2
       obtain⟨sl,r3⟩:=TJ T2 o r z;rw[U4] at r3;cases r3
       exact nf ts2 VX
    ·rw[Qj _ r z] at Vx;cases Vx
 have nT2:s.heap.get? T2=none:=by
  rcases tc with z | z
  ·rw[z];exact dR SU Rz.nT
  ·exact dR SU (dR un z)
 have fT2:H' T2=none:=by
  rcases tc with z | z
  ·rw[z];exact Rz.fT
  ·exact bW.none_of QQ z
 obtain⟨oeD,g1,g2⟩:=Se;obtain⟨o',r1,r2⟩:=kd e _ g1;exact⟨e,T2,cls,dx,H',rfl,ho.trans I1.os,bare,un2,ok2,⟨⟨oe2,vs2,oT2,ts2,a0,UJ,hc2,hd2,h12,V6,U4,VX,h32⟩,dR SU Rz.ne,nT2,Rz.fe,fT2⟩,⟨o',r1,r2.trans g2⟩,q⟩
end
variable {e:Expr}{es:Kw}{p:Pos}{ps:List Pk}
theorem pF {k:Nat}{cls:Value}{fs:List (Str×V)}{H0 R0 R:Hp}(C:g7 X.prog X.w X.K X.mg X.base x k (gO S X.K))(hr:br k X.A)(ha:HA X.cj (e::es) Γ ps Γ1)(hS:S X.K ps (.exc cls fs))(E:aw X.K σ H0 R0 H R Γ)(I:Inv X QN σ H s)(q:∀s1 H1 ea T dx H' R' s',Inv X QN σ H1 s1->s'.os=s1.os->M0 s'.gens->Un (bG X.stack) [] H1 H' s1.heap s'.heap->bW X.prog X.w H' s'.heap->uU s1.heap s'.heap H' ea T cls->(∃oe,s'.heap.get? ea=some oe/\oe.dict=some dx)->H0 dx=none->R' dx=some (.xd fs)->aw X.K σ H0 R0 H' R' Γ1->ax R R'->Ex (.ref ea) s')(hg:Gl X x)(Rj:(x==("__debug__":Str))=false)(he:Nc (e::es) X.env=(false,eval e X.env)::Nc es X.env)(Q3:(Nk pos (Nc es X.env)).any (·.1)=false):
 wpAny (model X.prog X.w) X.A (eval (.Call (.Name x p) (e::es) [] pos) X.env) Q Ex s:=by
 obtain⟨f,fd,pn,F,hm,hk,hb⟩:=C.ex;refine NJ (iu I hg hm ?_ Rj);refine Qn (h₀:=X.base) I.ok.mod.UR hk (aO (kF.cj (ha σ H0 R0 H R E (λvs H1=>∃R1,aw X.K σ H0 R0 H1 R1 Γ1/\ax R R1/\gI X.K R1 vs ps) λvs H1 R1 E1 s1 p1=>⟨R1,E1,s1,p1⟩) Ex pos QN s I) λus s1 ⟨vs,H1,I1,r,R1,E1,sR,p1⟩=>⟨I1.cY,?_⟩) he Q3;have r2:Vals (vs++[]) (us++[]):=by rw[Lh,Lh];exact r
 have sp:gO S X.K (vs++[]) H1 (λ_ _=>False) (λc od H'=>c=cls/\∃dx R',od=some dx/\Ext H1 R1 H' R'/\H1 dx=none/\R' dx=some (.xd fs)):=⟨R1,ps,.exc cls fs,E1.sub,by rw[Lh];exact p1,hS,λH' R' dx xx h1 h2=>⟨rfl,dx,R',rfl,xx,h1,h2⟩⟩;have hl:(us++[]).length=pn.length:=by rw[← r2.length];exact F.len _ _ _ _ sp
 refine N9 (N7 (F.run X.A X.stack s1 H1 ⟨us,[]⟩ (us++[]) (vs++[]) _ _ hr I1.vS (hb s1 us I1.cY hl) r2 sp) λr s' hq=>?_);cases r with
 | error ev=>
   obtain⟨ea,T,c,dx,H',rfl,ho,bare,un,QQ,Rz,Se,rfl,dx',R',e1,xx,h1,h2⟩:=hq;cases e1
   exact q s1 H1 ea T dx H' R' s' I1 ho bare un QQ Rz Se (E1.ext.h.free h1) h2 (E1.grow xx) (sR.trans xx.r)
 | ok fl=>
   cases fl with
   | ret u=>obtain⟨_,_,_,_,_,_,_,z⟩:=hq;exact z.elim
   | next=>exact KO hq
   | brk=>exact KO hq
   | cont=>exact KO hq
section
variable {N:Ks}{R:Hp}{E:XK}
theorem mh {k:Nat}{cls:Value}{fs:List (Str×V)}(C:g7 P w K mg base x k (gO S K))(hr:br k (A.deeper (MW qual scope s.heap.objs.size f cd)))(ha:HA (aX (bY P w) P w K mg base N qual scope f cd A outer s H E).cj (e::es) Γ ps Γ1)(hS:S K ps (.exc cls fs))(q:∀H' R' dx,Ext H R H' R'->H dx=none->R' dx=some (.xd fs)->E cls (some dx) H')(hg:Gl (aX (bY P w) P w K mg base N qual scope f cd A outer s H E) x:=by rfl)(Rj:Q0 x:=by decide)(he:Nc (e::es) (aX (bY P w) P w K mg base N qual scope f cd A outer s H E).env=(false,eval e (aX (bY P w) P w K mg base N qual scope f cd A outer s H E).env)::Nc es (aX (bY P w) P w K mg base N qual scope f cd A outer s H E).env:=by rfl)(Q3:(Nk pos (Nc es (aX (bY P w) P w K mg base N qual scope f cd A outer s H E).env)).any (·.1)=false:=by rfl):RX (aX (bY P w) P w K mg base N qual scope f cd A outer s H E) H R (.Call (.Name x p) (e::es) [] pos) Γ:=λσ H1 R1 EO Q QN s1 I=>
 pF (X:=aX (bY P w) P w K mg base N qual scope f cd A outer s H E) C hr ha hS EO I (λs2 H2 ea T dx H' R' s' I2 ho bare un QQ Rz Se h1 h2 E' sR=>kg I2 ho bare un QQ Rz Se (q H' R' dx E'.ext h1 h2)) hg Rj he Q3
end
theorem Inv.HK {e:Addr}{vs:Array Value}(I:Inv X QN σ H s)(h0:H e=none)(he:s.heap.get? e=some o)(hd:o.data= .fields vs)(hx:X.s₀.heap.get? e=none)(hl:e≠X.env.locals)(hp:∀p∈X.pn++QN,p.1≠e):Inv X QN σ (upd H e (dD e o)) s:=by
 have ne:∀b,b≠e->H b=none->upd H e (dD e o) b=none:=λb z q=>(aA z).trans q;have up:∀b u,H b=some u->upd H e (dD e o) b=some u:=λb u q=>(aA λz=>by rw[z,h0] at q;cases q).trans q
 refine⟨I.ok,I.os,I.bare,⟨I.base.keep,I.base.slot,λb u q n x=>ne b (λz=>by rw[z,hx] at q;cases q) (I.base.free b u q n x),I.base.there,λb xs q=>up _ _ (I.base.Rf b xs q),λb o' u q=>up _ _ (I.base.Rb b o' u q),λb ps q=>?_⟩,I.loc,I.cell,ne _ (MQ hl) I.free,λx c q=>ne _ (λz=>?_) (I.Q2 x c q),λp Uy=>?_,λb u q=>?_,I.len⟩
 ·obtain⟨more,r⟩:=I.base.Rg b ps q;exact⟨more,up _ _ r⟩
 ·obtain⟨v,ho⟩:=I.cell x c q;obtain⟨ob,hob,U2⟩:=ho;rw[z,he] at hob;cases hob
  rw[hd] at U2;cases U2
 ·obtain⟨a1,a2,a3⟩:=I.pin p Uy;exact⟨a1,ne _ (hp p Uy) a2,a3⟩
 ·by_cases z:b=e
  ·subst z;rw[aD] at q;cases q
   exact rT he
  ·rw[aA z] at q;exact(I.QQ b u q).Q7 (λc v _ r=>r) (λc r=>up _ _ r) λc xs r=>up _ _ r
variable {j:Nat}
theorem B1 {cls:Value}{H1 H':Hp}{s1 s':M9}{e T dx:Addr}{Q:Flow->M9->Prop}{ce n:Str}{CE:Addr}{np p3 hp:Pos}{i:Nat}(I1:Inv X QN σ H1 s1)(ho:s'.os=s1.os)(bare:M0 s'.gens)(un:Un (bG X.stack) [] H1 H' s1.heap s'.heap)(QQ:bW X.prog X.w H' s'.heap)(Rz:uU s1.heap s'.heap H' e T cls)(Se:∃oe,s'.heap.get? e=some oe/\oe.dict=some dx)(Sr:X.stack=X.env::X.outer)(hef:X.env.frame=some X.env.locals)(hm:X.mg ce=some (.ref CE))(hx:Qt X.K cls (.ref CE)=some true)(hg:Gl X ce)(Rj:(ce==("__debug__":Str))=false)(hN:X.N.Nodup)(hi:X.N[i]?=some n)(hj:X.N[j]?=some y)(Rc:X.env.scope.names.lookup n=some .local)(VL:X.env.scope.names.lookup y=some .local)(hs:Nl (.Name n p2) (some (.Name y p1)) p3.line X.env=pure false)(hnd:(n==("__debug__":Str))=false)(hnc:(n==("__classdict__":Str))=false)(q:∀oe vs s6,oe.cls=cls->oe.data= .fields vs->oe.dict=some dx->s6.heap.get? e=some oe->e≠X.env.locals->Inv X QN (((σ.set i (some (.ref e))).set j (some (.ref e))).set i none) H' s6->Q .next s6):
 wpAny (model X.prog X.w) X.A (noteFrame (.ref e) X.env) (λ_ s₂=>wpAny (model X.prog X.w) X.A (setFlight (.ref e) none) (λ_ s₃=>
  wpAny (model X.prog X.w) X.A (handleBy (.ref e) X.env [.ExceptHandler (some (.Name ce np)) (some n) [.Assign [.Name y p1] (.Name n p2) p3] hp]) Q X.xe s₃) X.xe s₂) X.xe s':=by
 have hA:X.A.frames=some (X.env::X.outer):=by rw[← Sr];exact I1.ok.frames
 have UX:∀b∈bG X.stack,H' b=none:=λb hb=>by
  obtain⟨_,o,r,_⟩:=I1.stack.mem hb;exact un.free b o r (I1.ip b hb) Le
 have hsl:∀b∈bG X.stack,∀o,s1.heap.get? b=some o->∃sl,s'.heap.get? b=some {o with slots:=sl}:=λb hb o r=>un.slot b o r (I1.ip b hb) hb Le;have Tz:s'.heap.FunFrames (Qa s'.heap (e::T::bG X.stack)) (X.env::X.outer):=by
  have:=iJ (h0:=s'.heap) (fs:=e::T::bG X.stack) I1.stack hsl λb hb=>K0 _ (K0 _ hb);rw[Sr] at this ⊢;exact this
 obtain⟨oe,vs,oT,ts,a0,he,hc,hd,h1,U3,hT,U0,h3⟩:=Rz.ex;have UY:Pt (Qa s'.heap (e::T::bG X.stack)) (X.env::X.outer) e cls a0 s'.heap:=
  ⟨λb o z=>Qm _ z,Qd _ K4,Tz,oe,vs,T,oT,ts,he,hc,hd,h1,Qd _ (K0 _ K4),U3,hT,U0,h3⟩
 have TJ:∀{h2:Heap},s'.heap.UpToSlots h2->∀b o,s'.heap.get? b=some o->b∈bG X.stack->∃sl,h2.get? b=some {o with slots:=sl}:=λ{h2} up b o r hb=>by
  have R6:b∈(X.env::X.outer).filterMap (·.frame):=by rw[← Sr];exact hb
  obtain⟨_,o2,r2,nf⟩:=Tz.mem R6;rw[r] at r2;cases r2
  exact up b o r nf
 have nL:e≠X.env.locals:=λz=>by
  obtain⟨m,⟨o,_,_,r,_⟩,_⟩:=id I1.loc;rw[← z,Rz.ne] at r;cases r
 have nF:e∉X.fs:=λz=>by
  have z':e∈bG X.stack:=by
   rw[Sr];show e∈(X.env::X.outer).filterMap (·.frame);rw[Lp,hef];exact K0 _ z
  obtain⟨_,o,r,_⟩:=I1.stack.mem z';rw[Rz.ne] at r;cases r
 refine Nj (fP (pE _ _) (wpAny_looks_onW (Q:=λ_ s₂=>∃h4,s₂={s' with heap:=h4}/\Heap.HeldW (Qa s'.heap (e::T::bG X.stack)) (X.env::X.outer) e cls a0 X.env.locals h4/\s'.heap.UpToSlots h4) hA hef UY λh4 Ti up4=>⟨h4,rfl,Ti,up4⟩)) (λ_ s₂ hq4=>?_) λ_ _ z=>z;obtain⟨⟨h4,rfl,Ti,up4⟩,kd4⟩:=hq4;refine Nj (fP (gp _ _) (wpAny_landsW (Q:=λ_ s₃=>∃h5,s₃={s' with heap:=h5}/\Pt (Qa s'.heap (e::T::bG X.stack)) (X.env::X.outer) e cls a0 h5/\h4.UpToSlots h5) Ti λh5 Wa up5=>⟨h5,rfl,Wa,up5⟩)) (λ_ s₃ hq5=>?_) λ_ _ z=>z;obtain⟨⟨h5,rfl,Wa,up5⟩,kd5⟩:=hq5;obtain⟨u5,ok5⟩:=sk un QQ Rz UX Wa.1 (TJ (up4.trans up5));have I5:Inv X QN σ H' {s' with heap:=h5}:=Inv.vt (ch:=[]) (s':={s' with heap:=h5}) I1 ho u5 ok5 bare λb z=>QE z Le;refine wpAny_handleBy_cons (codeAny_handlers_test (iu (Inv.marked I5 (.ref e)) hg hm ?_ Rj)) (by intro q;cases q)
 obtain⟨oe5,U7,he5,hc5,hd5,_⟩:=Wa.first;have LT:PySem.W.Looks (model X.prog X.w) h5 (typeOf (.ref e)) cls:=hc5▸(PySem.W.Looks.ld he5).andThen .now;refine(PySem.W.exm_one (M:=model X.prog X.w) (show X.K.In h5 from I5.cY) LT hx).here ?_;refine codeAny_handlers_suite_as (Nj (fP (gp _ _) (lands_againW (Q:=λ_ s₆=>∃h6,s₆={s' with heap:=h6}/\Pt (Qa s'.heap (e::T::bG X.stack)) (X.env::X.outer) e cls a0 h6/\h5.UpToSlots h6) Wa λh6 fl6 up6=>⟨h6,rfl,fl6,up6⟩)) (λ_ s₆ hq6=>?_) λ_ _ z=>z);obtain⟨⟨h6,rfl,fl6,up6⟩,kd6⟩:=hq6;obtain⟨u6,ok6⟩:=sk un QQ Rz UX fl6.1 (TJ ((up4.trans up5).trans up6));have I6:Inv X QN σ H' {s' with heap:=h6}:=Inv.vt (ch:=[]) (s':={s' with heap:=h6}) I1 ho u6 ok6 bare λb z=>QE z Le;obtain⟨UQ,vs6,he6,hc6,hd6,_⟩:=fl6.first;have RY:UQ.dict=some dx:=by
  obtain⟨o0,g0,d0⟩:=Se;obtain⟨o4,g4,d4⟩:=kd4 e o0 g0;obtain⟨o5,g5,d5⟩:=kd5 e o4 g4;obtain⟨o6,g6,d6⟩:=kd6 e o5 g5;have g6:h6.get? e=some o6:=g6;rw[he6] at g6;cases g6
  rw[d6,d5,d4,d0]
 have I6p:Inv (kJ X e UQ) QN σ H' {s' with heap:=h6}:=Inv.pinned I6 ⟨he6,Rz.fe,nL,nF,λv z=>by rw[hd6] at z;cases z⟩
 refine jN (X:=kJ X e UQ) I6p hN hi (.inl Rc) (v:=.ref e) rfl (λs7 I7=>?_) (.inr Rc);have P7:=(iM (X:=markX (kJ X e UQ) (.ref e)) (i:=j) (pos:=p3) hN hj (.inl VL) (bh (i:=i) (pos:=p2) hi (.inl Rc) hnd hnc) hs (.inr VL)) QN s7 _ H' {nx:=λσ' H2=>σ'=(σ.set i (some (.ref e))).set j (some (.ref e))/\H2=H',rt:=λ_ _=>False} (Inv.marked I7 (.ref e))
  ⟨.ref e,Lb (by rw[I1.len];exact(KW.mp hi).1),rfl,rfl⟩
 refine Nu (Nj P7 (λf s8 z=>?_) λ_ _ z=>KO z);cases f with
 | next=>
   obtain⟨σ',H2,I8,rfl,rfl⟩:=z;refine NU ?_;exact wU (X:=kJ X e UQ) (Inv.unmarked (λ_=>I6p.ok.hd (by assumption)) I8) hN hi Rc λs9 I9=>q UQ vs6 s9 hc6 hd6 RY (I9.pin _ (Lk _ K4)).1 nL (Inv.iI I9)
 | brk=>obtain⟨_,_,_,z⟩:=z;exact z.elim
 | cont=>obtain⟨_,_,_,z⟩:=z;exact z.elim
 | ret u=>obtain⟨_,_,_,_,_,z⟩:=z;exact z.elim
def j9 (C:Addr)(nm:Str):Rep Int:=⟨λ_ R v n=>∃e oe vs dx,v= .ref e/\R e=some (dD e oe)/\oe.cls= .ref C/\oe.data= .fields vs/\oe.dict=some dx/\R dx=some (.xd [(nm,.int n)]),λs ⟨e,oe,vs,dx,a,b,c,d,f,g⟩=>⟨e,oe,vs,dx,a,s _ _ b,c,d,f,s _ _ g⟩⟩
def TD (X:Cx)(RK:List Stmt)(Γ:Ga)(cls:Value)(fs:List (Str×V)):Prop:=∀(σ:St)(H0 R0 H R:Hp),aw X.K σ H0 R0 H R Γ->∀(QN:Kq)(s:M9),Inv X QN σ H s->∀Ex:Value->M9->Prop,
 (∀s1 H1 ea T dx H' R' s',Inv X QN σ H1 s1->s'.os=s1.os->M0 s'.gens->Un (bG X.stack) [] H1 H' s1.heap s'.heap->bW X.prog X.w H' s'.heap->uU s1.heap s'.heap H' ea T cls->(∃oe,s'.heap.get? ea=some oe/\oe.dict=some dx)->R' dx=some (.xd fs)->aw X.K σ H0 R0 H' R' Γ->ax R R'->Ex (.ref ea) s')->
 wpAny (model X.prog X.w) X.A (execs RK X.env) (λ_ _=>False) Ex s
variable {N:Ga->Prop}{T:RT}{RK:List Stmt}{tp:Pos}
section
variable {cls:Value}{fs:List (Str×V)}
theorem uJ {m:Int}{ce n:Str}{np p3 p4 p5 hp:Pos}{D CE:Addr}{Pd:Int->Prop}(i j:Nat)(hb:TD X RK Γ (.ref D) [(nm,.int m)])(hPd:Pd m)(hm:X.mg ce=some (.ref CE))(hx:Qt X.K (.ref D) (.ref CE)=some true)(UG:i≠j)(hex:X.ex=[]:=by rfl)(Sr:X.stack=X.env::X.outer:=by rfl)(hef:X.env.frame=some X.env.locals:=by rfl)(hN:X.N.Nodup:=by first | assumption | decide)(hi:X.N[i]?=some n:=by rfl)(hj:X.N[j]?=some y:=by rfl)(Rc:X.env.scope.names.lookup n=some .local:=by rfl)(VL:X.env.scope.names.lookup y=some .local:=by rfl)(hg:Gl X ce:=by rfl)(hs:Nl (.Name n p2) (some (.Name y p1)) p3.line X.env=pure false:=by rfl)(d1:Q0 ce:=by decide)(d3:Q0 n:=by decide)(d4:Rn n:=by decide)(d5:Q0 y:=by decide)(d6:Rn y:=by decide):
 WS X [.Try RK [.ExceptHandler (some (.Name ce np)) (some n) [.Assign [.Name y p1] (.Name n p2) p3] hp] [] [] tp,.Return (some (.Name y p4)) p5] Γ N (bN X.K (j9 D nm) Pd):=by
 intro σ H0 R0 H R E Dn dn dr QN s I;refine Nu (wpAny_Try_except (Nj (hb σ H0 R0 H R E QN s I _ λs1 H1 ea T dx H' R' s' I1 ho bare un QQ Rz Se hR E' sR=>?_) (λ_ _ z=>z.elim) λ_ _ z=>z));refine B1 I1 ho bare un QQ Rz Se Sr hef hm hx hg d1 hN hi hj Rc VL hs d3 d4 λoe vs s6 hc hd RY he6 nL I6=>?_;have hx0:X.s₀.heap.get? ea=none:=dR (show Un X.fs [] X.H₀ H1 X.s₀.heap s1.heap from hex▸I1.base) Rz.ne;have I7:=Inv.HK I6 Rz.fe he6 hd hx0 nL λp hp z=>by
  have:=(I1.pin p hp).1;rw[z,Rz.ne] at this;cases this
 have hjl:j<σ.length:=by rw[I1.len];exact(KW.mp hj).1
 have hσ:(((σ.set i (some (V.ref ea))).set j (some (V.ref ea))).set i none)[j]?=some (some (.ref ea)):=by
  rw[Ll UG,Lb (by rw[LC];exact hjl)]
 refine aO ((oj (jh (bh (X:=X) (i:=j) (pos:=p4) hj (.inl VL) d5 d6))) QN s6 _ _ Dn I7 ⟨.ref ea,hσ,?_⟩) λf s7 z=>z;have x8:=Ext.fresh E'.sub Rz.fe (dD ea oe);have Q5:dx≠ea:=λz=>by rw[z] at hR;have:=Rz.fe;rw[E'.sub _ _ hR] at this;cases this
 exact dr _ _ _ (E'.ext.trans x8) ⟨m,⟨ea,oe,vs,dx,rfl,aD,hc,hd,RY,(aA Q5).trans hR⟩,hPd⟩
theorem zE {N1:Ga->Prop}{body:List Stmt}{hd:ExceptHandler}(h:WS X.cj body Γ N1 (λ_ _ _ _=>False))(Si:∀Γ',N1 Γ'->WS X rest Γ' N T):WS X (.Try body [hd] [] [] tp::rest) Γ N T:=by
 intro σ H0 R0 H R E D dn dr QN s I;refine Nu (wpAny_Try_except (Nj (h σ H0 R0 H R E {nx:=λσ' H'=>∃R' Γ',aw X.K σ' H0 R0 H' R' Γ'/\ax R R'/\N1 Γ',rt:=λ_ _=>False,bk:=λ_ _=>False,ct:=λ_ _=>False} (λσ' H' R' Γ' E' s' n=>⟨R',Γ',E',s',n⟩) (λ_ _ _ _ z=>z) QN s (I.ft _)) (λf s1 z=>?_) λ_ _ z=>KO z));have z:=SP.dz z;cases f with
 | next=>
   obtain⟨σ',H',I',R',Γ',E',s',n⟩:=z;refine NU ?_;exact Si Γ' n σ' H0 R0 H' R' E' D (λσ2 H2 R2 Γ2 E2 s2=>dn σ2 H2 R2 Γ2 E2 (s'.trans s2)) dr QN s1 I'
 | brk=>obtain⟨_,_,_,q⟩:=z;exact q.elim
 | cont=>obtain⟨_,_,_,q⟩:=z;exact q.elim
 | ret u=>obtain⟨_,_,_,_,_,q⟩:=z;exact q.elim
end
variable {b:Bool}
section
variable {D:Addr}
theorem sj:dy X (.builtin "isinstance") (λxs H Q=>∃ea oe D c cv b,xs=[.ref ea,c]/\H ea=some (dD ea oe)/\oe.cls= .ref D/\c5 X.K D=true/\(∀u,RelV c u->u=cv)/\kitOne X.K (.ref D) cv=some b/\Q (.bl b) H):=by
 intro QN s σ H xs us Q I r h;obtain⟨ea,oe,D,c,cv,b,rfl,ha,hc,el,hu,e,q⟩:=h;obtain⟨u,u2,rfl,r1,r2⟩:=vals2 r;cases (show u=PM ea from r1)
 cases hu u2 r2
 exact kia_one (y4 el) I.cY ⟨oe,(I.QQ ea _ ha).1,hc⟩ e (λz=>nomatch z) λtk=>⟨.bl b,H,I.tok tk,rfl,q⟩
def yL:Rep Addr:=⟨λ_ _ v C=>v= .ref C,λ_ h=>h⟩
theorem cX (el:c5 X.K D=true)(hm:X.mg "isinstance"=none)(ha:EV X a Γ (j9 D nm) n Γ1)(Vy:X.mg y=some (.ref C))(ht:kitOne X.K (.ref D) (.ref C)=some b)(hs:Nc [a,.Name y p2] X.env=(false,eval a X.env)::Nc [.Name y p2] X.env:=by rfl)(hg:Gl X "isinstance":=by rfl)(VM:Gl X y:=by rfl)(VS:Q0 y:=by decide):
 EV X (.Call (.Name "isinstance" p) [a,.Name y p2] [] pos) Γ bp b Γ1:=by
 intro σ H0 R0 H R E Q q;refine eS (da sj hg hm M4 (aU aR (aU (gg (v:=.ref C) VM Vy rfl VS) bD rfl) hs) (by decide) (by decide) hs rfl) (ha σ H0 R0 H R E _ λv H1 R1 E1 s1 e1=>?_);obtain⟨e,oe,vs,dx,rfl,h1,h2,_⟩:=e1;exact⟨e,oe,D,.ref C,.ref C,b,rfl,E1.sub _ _ h1,h2,el,λu h=>h,ht,q _ H1 R1 E1 s1 rfl⟩
theorem E6 {c:String}(el:c5 X.K D=true)(hm:X.mg "isinstance"=none)(ha:EV X a Γ (j9 D nm) n Γ1)(Vy:X.mg y=none)(hvy:Ny y=some (.type c))(ht:kitOne X.K (.ref D) (.type c)=some b)(hs:Nc [a,.Name y p2] X.env=(false,eval a X.env)::Nc [.Name y p2] X.env:=by rfl)(hg:Gl X "isinstance":=by rfl)(VM:Gl X y:=by rfl)(hny:y≠"__name__":=by decide)(VS:Q0 y:=by decide):
 EV X (.Call (.Name "isinstance" p) [a,.Name y p2] [] pos) Γ bp b Γ1:=by
 intro σ H0 R0 H R E Q q;refine eS (da sj hg hm M4 (aU aR (aU (uB (v:=.ty c) VM Vy hvy rfl hny VS) bD rfl) hs) (by decide) (by decide) hs rfl) (ha σ H0 R0 H R E _ λv H1 R1 E1 s1 e1=>?_);obtain⟨e,oe,vs,dx,rfl,h1,h2,_⟩:=e1;exact⟨e,oe,D,.ty c,.type c,b,rfl,E1.sub _ _ h1,h2,el,λu h=>h,ht,q _ H1 R1 E1 s1 rfl⟩
theorem yB {o:Expr}{cd:ClassData}(el:c5 X.K D=true)(hk:clsIn X.K D=some cd)(hh:cd.hasDict=true)(hn:Qy X.K (.ref D) nm=some none)(ha:EV X o Γ (j9 D nm) n Γ1)(QS:Ni o nm X.env (eval o X.env)=eval o X.env:=by rfl):EV X (.Attribute o nm pos) Γ ah n Γ1:=by
 intro σ H0 R0 H R E Q q QN s I;refine tY QS (aO (ha σ H0 R0 H R E (λv H1=>∃R1,aw X.K σ H0 R0 H1 R1 Γ1/\ax R R1/\(j9 D nm).R X.K R1 v n) (λv H1 R1 E1 s1 e1=>⟨R1,E1,s1,e1⟩) QN s I) λu s1 ⟨v,H1,I1,rv,R1,E1,sR,e1⟩=>?_);obtain⟨e,oe,vs,dx,rfl,h1,h2,h3,h4,h5⟩:=e1;obtain rfl:u=PM e:=rv;have he:s1.heap.get? e=some oe:=(I1.QQ e _ (E1.sub _ _ h1)).1;obtain⟨mA,Tu,hrel⟩:=(show bQ X.prog X.w H1 s1.heap dx (.xd [(nm,.int n)]) from I1.QQ dx _ (E1.sub _ _ h5));obtain⟨od,hod,hl⟩:=pj Tu;obtain⟨u',hu,ru⟩:=fL.some_of (v:=V.int n) (o:=mA nm) (by have:=hrel nm;rw[Lx,beq_self_eq_true] at this;exact this);refine B0 (K:=X.K) (cd:=cd) (od:=od) I1.cY el ⟨he,h2,by unfold notCls;rw[h3],by rw[h4];exact hod⟩ hk hh hn (by rw[hl,hu]) (oN ru) ?_;exact⟨.int n,H1,I1.tok _,ru,q _ H1 R1 E1 sR rfl⟩
end
variable {α:Type}
section
variable {H0 R0:Hp}
end
variable {c:Expr}{ap:Pos}
section
variable {H0 R0:Hp}
theorem fF.cj {RK:List Stmt}{D:Ends}{σ:St}{H:Hp}(h:fF X.cj RK D σ H):fF X RK D σ H:=λQN s I=>
 Nj (h QN s (I.ft _)) (λ_ _ q=>q.dz) λ_ _ z=>KO z
theorem WS.imp {N':Ga->Prop}(h:WS X RK Γ N T)(hn:∀Γ,N Γ->N' Γ):WS X RK Γ N' T:=λσ H0 R0 H R E D dn dr=>h σ H0 R0 H R E D (λσ' H' R' Γ' E' s' n=>dn σ' H' R' Γ' E' s' (hn Γ' n)) dr
theorem z0 {body:List Stmt}(I:Nat->Ga->Prop){m0:Nat}(h0:I m0 Γ)(RN:∀(m:Nat)(Γ:Ga),I m Γ->∃Γ',TV X.cj c Γ true Γ'/\(WS X.cj body Γ' (λΓ''=>∃m',m'<m/\I m' Γ'') (λ_ _ _ _=>False)∨RS X H0 R0 body Γ'))(hp:OG (model X.prog X.w) X.A X.env X.xe:=by exact OG.leaving):RS X H0 R0 (.While c body [] pos::rest) Γ:=λσ H R E D=>by
 refine pz (iB (rf hp kA ef) ef) ?_;refine⟨λm σ' H'=>∃R' Γ',aw X.K σ' H0 R0 H' R' Γ'/\I m Γ',⟨m0,R,Γ,E,h0⟩,?_⟩;rintro m σ' H' ⟨R',Γ',E',hI⟩;obtain⟨Γ2,ht,h1⟩:=RN m Γ' hI;refine jO.cj (ht σ' H0 R0 H' R' E' _ λH1 R1 E1 s1=>je ?_);rcases h1 with h1 | h1
 ·refine⟨_,λσ2 H2 h=>h,fF.cj (h1 σ' H0 R0 H1 R1 E1 _ (λσ3 H3 R3 Γ3 E3 s3 h3=>?_) λ_ _ _ _ z=>z.elim)⟩;obtain⟨m',hm,hI'⟩:=h3;exact⟨m',hm,R3,Γ3,E3,hI'⟩
 ·exact⟨λ_ _=>False,λ_ _ h=>h.elim,h1 σ' H1 R1 E1 _⟩
theorem G9 {b:Expr}(hc:TV X.cj c Γ true Γ1)(h:RX X H0 R0 a Γ1):RX X H0 R0 (.IfExp c a b pos) Γ:=λσ H R E Q=>
 eS (qr kA aR aR) (jO.cj (hc σ H0 R0 H R E _ λH1 R1 E1 s1=>je (h σ H1 R1 E1 _)))
theorem Dc (i:Nat){m f:Str}{a:Addr}(h:RX X H0 R0 e Γ)(hN:X.N[i]?=some m:=by rfl)(hv:autoParam (cI X.env.scope m) Rt)(hd:Q0 m:=by decide)(QR:Rn m:=by decide)(RR:Nl e (some (.Attribute (.Name m p1) f ap)) pos.line X.env=pure false:=by rfl):RS X H0 R0 (.Assign [.Attribute (.Name m p1) f ap] e pos::rest) Γ:=λσ H R E D=>
 pz (iB ur ef) (sS (wG (bh hN hv hd QR) aR RR) (h σ H R E _))
end
section
theorem Cf {N ps:Ks}{k:Nat}(F:cK K x qual st f fd)(Sc:aZ N ps (ak st))(len:∀qs o,S K qs o->qs.length=ps.length)(Sb:∀qs T,¬S K qs (.ret T))(UI:∀(QP:Value)(A:Nh)(outer:List Env)(s:M9)(H R:Hp)(E:XK)(qs:List Pk)(c:Value)(fs:List (Str×V)),br k (A.deeper (MW qual (ak st) s.heap.objs.size f QP))->S K qs (.exc c fs)->(∀H' R' dx,Ext H R H' R'->H dx=none->R' dx=some (.xd fs)->E c (some dx) H')->
  RS (aX (bY P w) P w K mg base N qual (ak st) f QP A outer s H E) H R (bo st) (du qs N.length)):cy P w K mg base (bY P w) (k+1) f fd ps (gO S K):=by
 obtain⟨oc,od,kV,doc,pm,an,QP,ct,RM,rfl,lk,QR⟩:=F.ex;refine qo lk QR Sc (λvs H Q E h=>?_) (λA outer s H vs Q E hr h=>?_)
 ·obtain⟨R,qs,o,_,p,hS,_⟩:=h;rw[p.length];exact len qs o hS
 ·obtain⟨R,qs,o,sR,p,hS,q⟩:=h;have hl:qs.length<=N.length:=by
   rw[len qs o hS];have:=congrArg List.length Sc.pre;rw[Lc] at this;omega
  cases o with
  | ret T=>exact QE hS (Sb qs T)
  | exc c fs=>exact⟨_,ef,UI QP A outer s H R E qs c fs hr hS q (L2.start N vs) H R (eD sR p hl) _⟩
variable {N:Ks}{R:Hp}{E:XK}
theorem GG:Passes (bY P w) (aX (bY P w) P w K mg base N qual scope f cd A outer s H E) E:=λQN σ H1 s1 ev s' I1 h=>by
 obtain⟨e,T,cls,dx,H',rfl,ho,bare,un,QQ,Rz,Se,q⟩:=h;exact kg I1 ho bare un QQ Rz Se q
theorem BH {c:Str}{k:Nat}{fi:Addr}{pn:Ks}{cls:Value}{fs:List (Str×V)}(M:Mk K C fi)(F:cy P w K mg base (bY P w) k fi fd pn (gO S K))(hr:br (k+1) (A.deeper (MW qual scope s.heap.objs.size f cd)))(hm:mg c=some (.ref C))(hb:Binds K fd pn [])(ha:HA (aX (bY P w) P w K mg base N qual scope f cd A outer s H E) (e::es) Γ ps Γ1)(hS:∀a:Addr,S K (⟨yL,a⟩::ps) (.exc cls fs))(q:∀H' R' dx,Ext H R H' R'->H dx=none->R' dx=some (.xd fs)->E cls (some dx) H')(hg:Gl (aX (bY P w) P w K mg base N qual scope f cd A outer s H E) c:=by rfl)(Rj:Q0 c:=by decide)(he:Nc (e::es) (aX (bY P w) P w K mg base N qual scope f cd A outer s H E).env=(false,eval e (aX (bY P w) P w K mg base N qual scope f cd A outer s H E).env)::Nc es (aX (bY P w) P w K mg base N qual scope f cd A outer s H E).env:=by rfl)(Q3:(Nk pos (Nc es (aX (bY P w) P w K mg base N qual scope f cd A outer s H E).env)).any (·.1)=false:=by rfl):RX (aX (bY P w) P w K mg base N qual scope f cd A outer s H E) H R (.Call (.Name c p) (e::es) [] pos) Γ:=λσ H1 R1 EO Q=>
 eS (uq (X:=aX (bY P w) P w K mg base N qual scope f cd A outer s H E) M F hr hg hm hb .nil GG jj Rj he Q3) (ha σ H R H1 R1 EO _ λvs H2 R2 E2 s2 p2 x dx hx Se Q5=>by
  have x1:=Ext.dj E2.sub Se (.own x);have sm:ax R2 (upd H2 dx (.own x)):=λb o z=>by
   rw[aA λe=>by rw[e,E2.sub.free Se] at z;cases z];exact E2.sub b o z
  have Ts:upd H2 dx (.own x) x=none:=by rw[aA (MQ Q5)];exact hx
  have x2:=Ext.dj sm Ts (.ins C dx []);refine⟨R2,⟨yL,x⟩::ps,.exc cls fs,λb o z=>?_,.cons rfl (by rw[Lh];exact p2),hS x,λH' R' d xx h1 h2=>q H' R' d (E2.ext.trans (x1.trans (x2.trans xx))) ?_ h2⟩
  ·rw[aA λe=>by rw[e,E2.sub.free hx] at z;cases z];exact sm b o z
  ·exact E2.ext.h.free (x1.h.free (x2.h.free h1)))
end
variable {Γ2 Γ3:Ga}{β γ δ:Type}
theorem oy (i:Nat)(h:N (Γ.set i (.di [])))(hN:X.N.Nodup:=by first | assumption | decide)(hi:X.N[i]?=some x:=by rfl)(hx:autoParam (Loc X.env.scope x) SW)(hs:Nl (.Dict [] [] p2) (some (.Name x p1)) pos.line X.env=pure false:=by rfl)(hf:autoParam (X.fn x=true∨X.env.scope.names.lookup x=some .local) SV):
 W1 X (.Assign [.Name x p1] (.Dict [] [] p2) pos) Γ N T:=λσ H0 R0 H R E D dn dr=>by
 refine sS (iM hN hi hx zV hs hf) λp hp=>?_;have E1:=E.grow (Ext.dj E.sub hp (.dK (bV [])));exact dn _ _ R _ (E1.v8 (u:=.dK (bV [])) (en:=.di []) i ⟨p,rfl,aD,E.sub.free hp⟩ (E.ext.h.free hp) λj e _ q w=>E.off hp j e q w) (ax.refl _) h
theorem sJ {R:Hp}:∀{xs:Ks}{vs:List V},d9 R vs (xs.map PV.str)->vs=xs.map V.str
 | [],_,.nil=>rfl
 | x::xs,_,.cons h t=>by cases h;rw[sJ t];rfl
theorem uc {k:Nat}{xs:Ks}(h:EA X es Γ aH (xs.map PV.str) Γ1)(hz:xs.length<=Nb):EV X (.Tuple es k pos) Γ qy xs Γ1:=
 EV.re (oa h (by rw[KY];exact hz)) λK R v e=>by
   cases e with
   | tup hp pp=>rw[sJ pp] at hp;exact⟨_,rfl,dC.of hp⟩
def Ah (lo:Int)(n:Nat):It:=⟨λi _=>i<n,λi H x H'=>H'=H/\x= .int (lo-i),λi _=>n<=i⟩
variable {tg:Expr}
theorem ym (it:Addr)(lo:Int)(n:Nat):Turn P w K tg (Ah lo n) [it] it (λi h=>OI h it (lo+(i:Nat)*(-1)) ((n:Int)-(i:Nat)) (-1)) where
 mem:=by simp
 obj:=λi h st b hb=>by
  have e:b=it:=by simpa using hb
  subst e;exact⟨_,st,λv z=>by
   have z':Data.fields _=Data.cell v:=z;cases z'⟩
 keep:=λi h h' st k=>k it (by simp) _ st
 item:=by
  intro X hP hw hK hc i QN s σ H E I hf st hg;subst hP hw hK;obtain⟨f0,f1,f2,f3,f4,f5⟩:=hf it (by simp);have W:=Walks.range (prog:=X.prog) (w:=X.w) (I.ok.hd hc) it lo (-1) n;refine W.item i s _ _ hg st λv h' tk hv So kk=>?_;obtain⟨t,rfl⟩:=hv;have I1:Inv X QN σ H {s with heap:=h',toks:=tk}:=I.turned (λb o hb e=>kk b o (by simpa using hb) e) f0 f1 f3 f4 f5;refine⟨_,rfl,lr (s:={s with heap:=h',toks:=tk}) (n:="range_iterator") So rfl rfl (by decide) ⟨.int (lo-i),H,I1,⟨t,?_⟩,⟨rfl,rfl⟩,So,λb hb=>(hf b hb).1⟩⟩;rw[show lo+(i:Int)*(-1)=lo-(i:Int) by omega]
 done:=by
  intro X hP hw hK hc i QN s σ H E I hf st hg;subst hP hw hK;obtain⟨f0,f1,f2,f3,f4,f5⟩:=hf it (by simp);exact wpAny_pyNext_range_end (I.ok.hd hc) st (by have:n<=i:=hg;omega) λh' eb=>⟨rfl,I.turned (t':=s.toks) (λb o hb e=>eb b o hb e) f0 f1 f3 f4 f5⟩
 self:=λ_ _ _ _ _ st h=>wpAny_pyIter_rangeiter st h
theorem pK {a b:Int}:Ot.Range.rangeSize a b (-1)=((a-b).toNat:Int):=by
 unfold Ot.Range.rangeSize;rw[QF (by decide)];split
 ·rw[show -(-1:Int)=1 by decide,Int.ediv_one];omega
 ·omega
theorem small_down {a b:Int}(ha: -(2 ^ 40)<=a)(R7:a<2 ^ 40)(hb: -(2 ^ 40)<=b)(R6:b<2 ^ 40):Ot.Range.small a b (-1)=true:=by
 unfold Ot.Range.small;rw[pK];simp only[Ot.Range.rangeFitsLong,KD,Bool.or_eq_true,decide_eq_true_eq,beq_iff_eq,show¬(-1:Int)>0 by decide,if_false];omega
variable {E:Value->M9->Prop}{lo:Int}{ta:TA}
def GH (ta:TA):TI:=λσ H R=>ta σ H λvs H1=>∃i j:Int,vs=[.int i,.int j,.int (-1)]/\(-(2 ^ 40)<=i/\i<2 ^ 40/\ -(2 ^ 40)<=j/\j<2 ^ 40)/\R (Ah i (i-j).toNat) H1
theorem Cd {R:It->Hp->Prop}{hi:Int}{t u v:Tok}(I:Inv X QN σ H s)(h1: -(2 ^ 40)<=lo)(h2:lo<2 ^ 40)(h3: -(2 ^ 40)<=hi)(h4:hi<2 ^ 40)(q:R (Ah lo (lo-hi).toNat) H):wpAny (model X.prog X.w) X.A (pyIter (.ref s.heap.objs.size)) (CU X QN σ tg R) E {s with heap:=s.heap.push {cls:=.type "range",data:=.fields #[.int lo t,.int hi u,.int (-1) v]},toks:=tk}:=by
 refine wpAny_pyIter_range (IsRange.new ..) (small_down h1 h2 h3 h4) ?_;have I1:Inv X QN σ H {s with heap:=s.heap.push {cls:=.type "range",data:=.fields #[.int lo t,.int hi u,.int (-1) v]},toks:=tk}:=I.kept λb o e=>Pj _ e;refine⟨(s.heap.push {cls:=.type "range",data:=.fields #[.int lo t,.int hi u,.int (-1) v]}).objs.size,[(s.heap.push {cls:=.type "range",data:=.fields #[.int lo t,.int hi u,.int (-1) v]}).objs.size],_,_,H,rfl,
  I1.kept (t':=tk) λb o e=>Pj _ e,ym _ lo (lo-hi).toNat,?_,λb hb=>?_,q⟩
 ·have e1:lo+((0:Nat):Int)*(-1)=lo:=by simp
  have e2:(((lo-hi).toNat:Nat):Int)-((0:Nat):Int)=Ot.Range.rangeSize lo hi (-1):=by rw[pK];simp
  show OI _ _ (lo+((0:Nat):Int)*(-1)) ((((lo-hi).toNat:Nat):Int)-((0:Nat):Int)) (-1);rw[e1,e2];exact Pm _ rfl
 ·have e:b=(s.heap.push {cls:=.type "range",data:=.fields #[.int lo t,.int hi u,.int (-1) v]}).objs.size:=by simpa using hb
  subst e;exact I1.gZ (My _) (I1.QQ.fresh (My _))
theorem xg {b:Expr}(hg:Gl X "range")(hm:X.mg "range"=none)(ha:PA X [a,b,c] ta)(hs:Nc [a,b,c] X.env=(false,eval a X.env)::Nc [b,c] X.env:=by rfl)(Q3:(Nk pos (Nc [b,c] X.env)).any (·.1)=false:=by rfl):
 PI X tg (.Call (.Name "range" p) [a,b,c] [] pos) (GH ta):=by
 intro QN s σ H R I h;refine Call_ (fC I hg hm M5 (MY (aO (ha pos QN s σ H _ I h) λus s1 ⟨vs,H1,I1,r1,q1⟩=>?_) hs Q3));obtain⟨i,j,e,⟨q1,q2,q3,q4⟩,q⟩:=q1;subst e;cases r1 with
 | cons r rr=>
   cases rr with
   | cons r' rr=>
     cases rr with
     | cons r'' rr=>
       cases rr
       obtain⟨t,rfl⟩:=r;obtain⟨t',rfl⟩:=r';obtain⟨t'',rfl⟩:=r'';exact call_range_3 (by decide) (Cd I1 q1 q2 q3 q4 q) (.inl (PyProof.noPylong_of_log2 (by decide +kernel)))
def downs (lo:Int)(n:Nat):Kr:=(Lq n).map λ(k:Nat)=>lo-(k:Int)
theorem fJ (lo:Int)(n:Nat):(downs lo n).length=n:=by unfold downs;rw[KY,LM]
theorem sD {n i:Nat}{x:Int}(h:(downs lo n)[i]?=some x):i<n/\x=lo-(i:Int):=by
 have hi:i<n:=by have:=(KW.mp h).1;rwa [fJ] at this
 refine⟨hi,?_⟩;unfold downs at h;rw[K9,L8 hi] at h;exact(Option.some.inj h).symm
theorem yQ {R1:Hp}(lo:Int)(n:Nat):Src K (Ah lo n) R1 ah (downs lo n):=λH' R' sR sH i=>⟨λx hx=>by
 obtain⟨h1,rfl⟩:=sD hx;refine⟨h1,λv H2 hy=>?_⟩;obtain⟨rfl,rfl⟩:=hy;exact⟨R',Ext.refl sH,rfl⟩,λhi=>by rw[fJ] at hi;exact hi⟩
theorem xH {b:Expr}{m:Int}(hm:X.mg "range"=none)(ha:HA X [a,b,c] Γ [⟨ah,m⟩,⟨ah,n⟩,⟨ah, -1⟩] Γ1)(hn: -1000000<=m/\m<=1000000/\ -1000000<=n/\n<=1000000)(hs:Nc [a,b,c] X.env=(false,eval a X.env)::Nc [b,c] X.env:=by rfl)(Q3:(Nk p2 (Nc [b,c] X.env)).any (·.1)=false:=by rfl)(hg:Gl X "range":=by rfl):IV X tg (.Call (.Name "range" p1) [a,b,c] [] p2) Γ ah (downs m (m-n).toNat) Γ1:=by
 refine⟨_,xg hg hm jj hs Q3,λσ H0 R0 H R E Rq q=>ha σ H0 R0 H R E _ λvs H1 R1 E1 s1 e1=>?_⟩;have e:vs=[.int m,.int n,.int (-1)]:=by
  cases e1 with
  | cons a1 t=>cases t with
    | cons a2 t=>cases t with
      | cons a3 t=>cases t;cases a1;cases a2;cases a3;rfl
 subst e;exact⟨m,n,rfl,⟨by omega,by omega,by omega,by omega⟩,q _ H1 R1 E1 s1 (by rw[fJ];exact Mz (show(m-n).toNat<=2000000 by omega) (by decide)) (yQ m (m-n).toNat)⟩
variable {r:Rep α}{xs:List α}
theorem aI.cst {ys:List α}(h:aI X e Γ r xs Γ1)(q:xs=ys):aI X e Γ r ys Γ1:=q▸h
theorem BS {f:Expr}{D:List (Str×Ks)}{k:Str}{zs:Ks}(hD:j2 X.prog X.w X.K X.mg x D)(he:EV X e Γ ag k Γ1)(hf:EV X f Γ1 qy zs Γ2)(hg:Gl X x:=by rfl)(hd:Q0 x:=by decide)(m:M2 X (.Name x p1) "get" ap e f cp:=by exact⟨rfl,rfl,rfl,rfl⟩):EV X (.Call (.Attribute (.Name x p1) "get" ap) [e,f] [] cp) Γ qy ((hJ D k).getD zs) Γ2:=by
 intro σ H0 R0 H R E Q q;obtain⟨a,o,vs,hm,hk,hdo,hs,hp⟩:=hD;have pe:PE X (.Call (.Attribute (.Name x p1) "get" ap) [e,f] [] cp) (λσ H Q=>fq X e σ H λy H1=>y= .str k/\fq X f σ H1 λz H2=>(∀b,hJ D k≠none->NH vs (Sum.inr k:Key)=some (.ref b)->Q (.ref b) H2)/\(hJ D k=none->Q z H2)):=by
  intro QN s σ H Q I h;refine wpAny_Call_method m.base m.few m.line PySem.F.plainAttrs_dict PySem.F.slot_dict_get PySem.F.type_dict_get (aO (gg (v:=.ref a) hg hm rfl hd QN s σ H (λv H2=>v= .ref a/\H2=H) I ⟨rfl,rfl⟩) λu s1 ⟨x1,H1,I1,rx,e3,e4⟩=>?_);subst e3;subst e4;obtain rfl:u=PM a:=rx;have dd:s1.heap.DictOf (bP X.prog X.w) a vs:=Pw.mpr ⟨o,I1.cY a o hk,hdo⟩;refine⟨dd.typeIs,λb q=>?_,?_⟩
  ·cases q
   obtain⟨ob,_,_,h1,h2,_⟩:=dd;exact⟨ob,h1,h2.2.1⟩
  rw[m.trees];refine O6 rfl (Calls.evalArgs_plain (O7 (aO (h QN s1 I1) λiv s2 ⟨y,H2,I2,ry,ey,q2⟩=>
   O7 (aO (q2 QN s2 I2) λfv s3 ⟨z,H3,I3,rz,q3,q4⟩=>Calls.spliced_nil ?_))))
  subst ey;have dd3:s3.heap.DictOf (bP X.prog X.w) a vs:=Pw.mpr ⟨o,I3.cY a o hk,hdo⟩;refine call_meetsIn PySem.F.slot_dict_get dd3.typeIs PySem.F.entry_dict_get (PySem.F.args_dict_get_3 _ _ _) (meets_dict_get_default (bP X.prog X.w) a (hZ (k:=Sum.inr k) ry) hs fv) ⟨_,dd3.mapOf,?_⟩;rcases qf (x:=k) hp with⟨h1,h2⟩ | ⟨ys,b,h1,h2,_⟩
  ·rw[h2];exact⟨z,_,I3.tok _,rz,q4 h1⟩
  ·rw[h2];exact⟨.ref b,_,I3.tok _,rfl,q3 b (by rw[h1];exact MR _) h2⟩
 refine eS pe (he σ H0 R0 H R E _ λv H1 R1 E1 s1 e1=>⟨e1,hf σ H0 R0 H1 R1 E1 _ λv2 H2 R2 E2 s2 e2=>⟨λb hb hv=>?_,λhn=>?_⟩⟩)
 ·rcases qf (x:=k) hp with⟨h1,h2⟩ | ⟨ys,b',h1,h2,o',QO,n,h3⟩
  ·exact QE h1 hb
  ·rw[hv] at h2;cases h2
   refine q _ H2 R2 E2 (s1.trans s2) ?_;rw[h1];exact⟨b,rfl,.inr ⟨o',QO,n,h3⟩⟩
 ·refine q _ H2 R2 E2 (s1.trans s2) ?_;rw[hn];exact e2
def Ir (K:P1)(a:Addr)(n:Nat):It:=
 ⟨λi H=>∃xs,bt K H a xs/\xs.length=n/\i<n,λi H x H'=>H'=H/\∀xs,bt K H a xs->xs[n-1-i]?=some x,λi _=>n<=i⟩
theorem zc (a it:Addr)(n:Nat):Turn P w K tg (Ir K a n) [it] it (λi h=>i<=n/\h.IsRevIter it a ((n:Int)-1-(i:Int))) where
 mem:=by simp
 obj:=λi h st b hb=>by
  have e:b=it:=by simpa using hb
  subst e;obtain⟨_,o,e,c,d⟩:=st;exact⟨o,e,λv z=>by rw[d] at z;cases z⟩
 keep:=λi h h' st k=>⟨st.1,st.2.at λo e=>k it (by simp) o e⟩
 item:=by
  intro X hP hw hK hc i QN s σ H E I hf st hg;subst hP hw hK;obtain⟨xs,hq,hl,hi⟩:=hg;obtain⟨QO,rv,p,hz⟩:=I.list hq;have hx:xs[n-1-i]?=some xs[n-1-i]:=K2 (by omega);obtain⟨u,hu,ru⟩:=rv.get hx;obtain⟨f0,f1,f2,f3,f4,f5⟩:=hf it (by simp);have st0:s.heap.IsRevIter it a (((n-1-i:Nat)):Int):=by rw[show(((n-1-i:Nat)):Int)=(n:Int)-1-(i:Int) by omega];exact st.2
  refine wpAny_pyNext_rev_item st0 p.isList (x:=u) (by simpa using hu) λh' So sb=>?_;have I1:Inv X QN σ H {s with heap:=h'}:=I.turned (t':=s.toks) (λb o hb e=>(sb.2 b hb).trans e) f0 f1 f3 f4 f5;have TL:h'.IsRevIter it a ((n:Int)-1-((i+1:Nat):Int)):=by rw[show(n:Int)-1-((i+1:Nat):Int)=(((n-1-i:Nat)):Int)-1 by omega];exact So
  obtain⟨o,e,c,d⟩:=id TL;exact⟨u,rfl,lr (s:={s with heap:=h'}) e c d (by decide) ⟨_,H,I1,ru,⟨rfl,λys hy=>by rw[I.jP hy hq];exact hx⟩,⟨by omega,TL⟩,λb hb=>(hf b hb).1⟩⟩
 done:=by
  intro X hP hw hK hc i QN s σ H E I hf st hg;subst hP hw hK;obtain⟨f0,f1,f2,f3,f4,f5⟩:=hf it (by simp);obtain⟨Rc,st⟩:=st;have e:(n:Int)-1-(i:Int)= -1:=by have:n<=i:=hg;omega
  rw[e] at st;exact wpAny_pyNext_rev_end (I.ok.hd hc) st λh' eb=>⟨rfl,I.turned (t':=s.toks) (λb o hb e=>eb b o hb e) f0 f1 f3 f4 f5⟩
 self:=λ_ _ _ _ _ st h=>wpAny_pyIter_revIter st.2 h
variable {ks:Ks}
def J5 (K:P1)(ta:TA):TI:=λσ H R=>ta σ H λvs H1=>∃a xs,vs=[.ref a]/\bt K H1 a xs/\R (Ir K a xs.length) H1
theorem DD (hg:Gl X "reversed")(hm:X.mg "reversed"=none)(ha:PA X [a] ta)(hs:Nc [a] X.env=[(false,eval a X.env)]:=by rfl):PI X tg (.Call (.Name "reversed" p) [a] [] pos) (J5 X.K ta):=by
 intro QN s σ H R I h;refine Call_ (fC I hg hm PyProof.Rows.boot_reversed (MY (aO (ha pos QN s σ H _ I h) λus s1 ⟨vs,H1,I1,r1,q1⟩=>?_) hs rfl));obtain⟨l,xs,e,hq,q⟩:=q1;subst e;cases r1 with
 | cons r rr=>
   cases rr
   cases r
   obtain⟨QO,rv,pl,hz⟩:=I1.list hq;have hl:=rv.length;refine call_reversed_list pl.isList ?_;have I2:Inv X QN σ H1 {s1 with heap:=s1.heap.push (revObj l ((QO.toArray.size:Int)-1))}:=I1.kept (t':=s1.toks) λb o e=>Pj _ e;have it0:(s1.heap.push (revObj l ((QO.toArray.size:Int)-1))).IsRevIter s1.heap.objs.size l ((xs.length:Int)-1-((0:Nat):Int)):=⟨_,Pm _ rfl,rfl,by
    rw[show((xs.length:Int)-1-((0:Nat):Int))=((QO.toArray.size:Int)-1) by simp;omega];rfl⟩
   refine wpAny_pyIter_revIter it0 ?_;refine⟨s1.heap.objs.size,[s1.heap.objs.size],_,_,H1,rfl,I2,zc l _ xs.length,⟨MC _,it0⟩,λb hb=>?_,q⟩;have e:b=s1.heap.objs.size:=by simpa using hb
   subst e;exact I1.gZ (My _) (I1.QQ.fresh (My _))
theorem EY (hm:X.mg "reversed"=none)(ha:EV X a Γ (af r) xs Γ1)(hs:Nc [a] X.env=[(false,eval a X.env)]:=by rfl)(hg:Gl X "reversed":=by rfl):IV X tg (.Call (.Name "reversed" p) [a] [] pos) Γ r xs.reverse Γ1:=by
 refine⟨_,DD hg hm (aU aR bD hs) hs,λσ H0 R0 H R E Rq q=>ha σ H0 R0 H R E _ λv H1 R1 E1 s1 e1=>?_⟩;obtain⟨a,vs,rfl,hp,pp,z⟩:=e1;have hvl:=pp.length;refine⟨a,vs,rfl,bt.of (E1.sub _ _ hp),q _ H1 R1 E1 s1 (by rw[L9];exact z) λH' R' sR sH i=>⟨λx hx=>?_,λhi=>?_⟩⟩
 ·have hq:bt X.K H' a vs:=bt.of (sH _ _ (sR _ _ hp));have hi:i<xs.length:=by have:=(KW.mp hx).1;rwa [L9] at this
  rw[List.getElem?_reverse hi] at hx;obtain⟨v,hv,hr⟩:=dJ pp hx;refine⟨⟨vs,hq,rfl,by omega⟩,λv' H2 hy=>?_⟩;obtain⟨rfl,hy⟩:=hy;have:=hy vs hq;rw[show vs.length-1-i=xs.length-1-i by omega,hv] at this;cases this
  exact⟨R',Ext.refl sH,r.mono sR hr⟩
 ·rw[L9] at hi;show vs.length<=i;omega
theorem xn (i:Nat){ys:List α}(he:EV X e Γ (af r) ys Γ1)(hΓ:Γ[i]?=some (.mu r xs))(hΓ1:Γ1[i]?=some (.mu r xs))(hz:xs.length+ys.length<=Nb)(h:N (Γ1.set i (.mu r (xs++ys))))(hN:X.N[i]?=some x:=by rfl)(hv:autoParam (cI X.env.scope x) Rt)(hd:Q0 x:=by decide)(QR:Rn x:=by decide)(RR:Nl (.Call (.Attribute (.Name x p1) "extend" ap) [e] [] cp) none pos.line X.env=pure false:=by rfl)(QS:Ni (.Name x p1) "extend" X.env (eval (.Name x p1) X.env)=eval (.Name x p1) X.env:=by rfl)(Ri:((Nk cp (Nc [e] X.env)).all (λx=> !x.1)&&(NY cp (ND [] X.env)).all (λx=>x.1.isSome)
  &&decide ([e].length+([]:List Nt).length+(if([]:List Nt).isEmpty then 0 else 1)<30))=true:=by rfl)(QZ:(ap.endLine==cp.line)=true:=by rfl)(hs:Nc [e] X.env=(false,eval e X.env)::Nc [] X.env:=by rfl):W1 X (.Expr (.Call (.Attribute (.Name x p1) "extend" ap) [e] [] cp) pos) Γ N T:=λσ H0 R0 H R E D dn dr=>by
 obtain⟨a,vs,ea,ha,hR,pp⟩:=E.ent i _ hΓ;refine sS (f9 (hX Pa PySem.F.slot_list_extend PySem.F.type_list_extend xy (bh hN hv hd QR) (aU aR bD hs) QS Ri QZ hs rfl) RR) ?_;refine⟨.ref a,at_of ea,.inl ⟨rfl,vs,bt.of ha⟩,he σ H0 R0 H R E _ λu H1 R1 E1 s1 e1=>?_⟩;obtain⟨b,ws,rfl,hb,pw,hw⟩:=e1;obtain⟨a',Ro,Rr,R7,RC,RV⟩:=E1.ent i _ hΓ1;rw[ea] at Rr;cases Rr
 refine⟨a,b,Ro,ws,rfl,rfl,R7,E1.sub _ _ hb,by rw[RV.length,pw.length];exact hz,?_⟩;exact dn σ _ R1 _ (E1.upd (en:=.mu r (xs++ys)) hΓ1 rfl ea RC ⟨a,_,rfl,aD,RC,dW RV pw⟩) s1 h
theorem uG {d:Expr}{kvs:List (Int×V)}{k:Int}(hu:X.A.units+1<cLine)(he:EV X e Γ ah k Γ1)(hd:EV X d Γ1 gv kvs Γ2)(hm:NO .NotIn d=false:=by first | exact rq _ | with_unfolding_all rfl):TV X (.Compare e [.NotIn] [d] pos) Γ (!gi kvs k) Γ2:=by
 intro σ H0 R0 H R E Q q;refine tS (kL (kE hu aR aR) hm) (he σ H0 R0 H R E _ λv H1 R1 E1 s1 e1=>hd σ H0 R0 H1 R1 E1 _ λu H2 R2 E2 s2 e2=>?_);cases e1
 obtain⟨p,rfl,hp⟩:=e2;refine⟨p,_,rfl,fE.k (k:=Sum.inl k) (E2.sub _ _ hp),_,rfl,?_⟩;rw[nt];exact q H2 R2 E2 (s1.trans s2)
abbrev pH (ks:Ks):List (Key×V):=ks.map λk=>(Sum.inr k,V.bl true)
def nv (a:Addr)(ks:Ks):uK where
 fp:=[a]
 R:=λK H R v=>v= .ref a/\H a=some (.dK (pH ks))
 loc:=λhH hR ⟨e,h1⟩=>⟨e,(hH a (by simp)).trans h1⟩
 has:=λ⟨e,h1⟩ b hb=>by rw[KZ.mp hb,h1];exact MR _
theorem WS.GU (i:Nat)(hΓ:Γ[i]?=some (.di []))(h:∀a,WS X RK (Γ.set i (.ob (nv a []))) N T):WS X RK Γ N T:=λσ H0 R0 H R E D dn dr=>by
 obtain⟨a,ea,ha,hR⟩:=E.ent i _ hΓ;refine h a σ H0 R0 H R (E.tell hΓ ⟨⟨.ref a,ea,rfl,ha⟩,λb hb=>?_⟩ λb w=>?_) D dn dr
 ·rw[KZ.mp hb];exact hR
 ·rw[show b=a from KZ.mp w];exact cw.mpr ea
theorem vx (k:Str):∀ks:Ks,cD (pH ks) (Sum.inr k:Key)=if k∈ks then some (.bl true) else none
 | []=>rfl
 | x::ks=>by
   by_cases e:x=k
   ·show cD ((Sum.inr x,V.bl true)::pH ks) _=_;rw[cR (p:=((Sum.inr x:Key),V.bl true)) (by rw[e]),QG (by rw[e];exact K4)]
   ·show cD ((Sum.inr x,V.bl true)::pH ks) _=_;rw[cQ (p:=((Sum.inr x:Key),V.bl true)) (λz=>e (Sum.inr.inj z)),vx k ks];by_cases h:k∈ks
    ·rw[QG h,QG (K0 _ h)]
    ·rw[QF h,QF λz=>by rcases K8.mp z with q | q;exact e q.symm;exact h q]
def sq (ks:Ks)(k:Str):Ks:=if k∈ks then ks else ks++[k]
theorem JM (ks:Ks)(k:Str):putK (pH ks) (Sum.inr k:Key) (V.bl true)=pH (sq ks k):=by
 unfold sq;by_cases h:k∈ks
 ·rw[QG h];unfold putK;rw[QG (by rw[eL,vx,QG h];rfl)];unfold pH;rw[LL];refine Me λx _=>?_;show(if((Sum.inr x:Key))=Sum.inr k then _ else _)=_;split<;>rfl
 ·rw[QF h,sY (.bl true) (by rw[vx,QF h])];unfold pH;rw[Lj];rfl
theorem Ba (i:Nat){ke ve:Expr}{a:Addr}{k:Str}(hu:X.A.units+1<cLine)(hk:EV X ke Γ ag k Γ)(hv:PE X ve (tC (.bl true)))(hΓ:Γ[i]?=some (.ob (nv a ks)))(hz:ks.length<Nb)(h:N (Γ.set i (.ob (nv a (sq ks k)))))(hN:X.N[i]?=some x:=by rfl)(Vo:autoParam (cI X.env.scope x) Rt)(hd:Q0 x:=by decide)(QR:Rn x:=by decide)(hs:Nl ve (some (.Subscript (.Name x p1) ke p2)) pos.line X.env=pure false:=by rfl):W1 X (.Assign [.Subscript (.Name x p1) ke p2] ve pos) Γ N T:=λσ H0 R0 H R E D dn dr=>by
 refine sS (oz hu (bh hN Vo hd QR) aR hv hs) ?_;obtain⟨⟨v,ea,rfl,ha⟩,hR⟩:=E.ent i _ hΓ;refine⟨.ref a,at_of ea,hk σ H0 R0 H R E _ λu H1 R1 E1 s1 e1=>?_⟩;obtain⟨⟨v,Rr,rfl,R7⟩,RC⟩:=E1.ent i _ hΓ;cases e1
 refine⟨a,_,rfl,mj.k (k:=Sum.inr k) R7 (by rw[KY];exact hz),?_⟩;rw[JM];exact dn σ _ R1 _ (E1.n8 (en:=.ob (nv a (sq ks k))) hΓ (a:=a) (by show a∈[a];simp) ⟨⟨.ref a,Rr,rfl,aD⟩,RC⟩ λc w=>.inl w) s1 h
theorem yF (i:Nat){a:Addr}{k:Str}(hu:X.A.units+1<cLine)(he:EV X e Γ ag k Γ)(hΓ:Γ[i]?=some (.ob (nv a ks)))(hN:X.N[i]?=some x:=by rfl)(hv:autoParam (cI X.env.scope x) Rt)(hd:Q0 x:=by decide)(QR:Rn x:=by decide):TV X (.Compare e [.NotIn] [.Name x p1] pos) Γ (!decide (k∈ks)) Γ:=by
 intro σ H0 R0 H R E Q q;refine tS (kL (kE hu aR (bh hN hv hd QR)) (by with_unfolding_all rfl)) (he σ H0 R0 H R E _ λv H1 R1 E1 s1 e1=>?_);obtain⟨⟨v,ea,rfl,ha⟩,hR⟩:=E1.ent i _ hΓ;cases e1
 refine⟨.ref a,at_of ea,a,_,rfl,fE.k (k:=Sum.inr k) ha,_,rfl,?_⟩;rw[vx];have e:(if k∈ks then some (V.bl true) else none).isSome=decide (k∈ks):=by by_cases h:k∈ks<;>simp[h]
 rw[e];exact q H1 R1 E1 s1
variable {d:Addr}{key:Value}
section
variable {prog:Nf}{K:Type} [DecidableEq K]{knd:KeyKind prog w K}
theorem zC {kvs:List (K×Value)}{k:K}{dflt:Value}(Sj:knd.is k key=true)(hm:s.heap.DictOf knd d kvs)(Uw:∀v,NH kvs k=some v->Q v {s with toks:=s.toks+1})(hnew:NH kvs k=none->∀h',h'.DictOf knd d (stored kvs k dflt)->Pq d s.heap h'->Q dflt {s with heap:=h',toks:=s.toks+1})(hsz:kvs.length<=Nb):wpAny (model prog w) A (OO d key dflt) Q E s:=by
 have hmap:=hm.mapOf;obtain⟨o,es,ep,ho,hc,hd,hk,hp,hn⟩:=hm;have hes:es.size<=Nb:=by
  have e1:=hp.length;have e2:es.toList.length=es.size:=by simp
  omega
 obtain⟨o2,es2,ep2,ho2,hc2,hd2,hk2,hf⟩:=hmap;rw[ho] at ho2;cases ho2
 rw[hd] at hd2;cases hd2
 unfold OO
 try with_reducible refine Nv ?_
 refine Na (knd.pyHash Sj ?_);refine Na (wpAny_dictFind_of (s:={s with toks:=s.toks+1}) Sj ho hd hk ?_);have hidx:(es.findIdx? λe=>knd.is k e.key)=kvs.findIdx? λkv=>decide (kv.1=k):=by
  rw[← hp.findIdx k];obtain⟨l⟩:=es;simp
 cases hi:es.findIdx? λe=>knd.is k e.key with
 | some i=>
   have hfk:NH kvs k=(es[i]?).map (·.val):=by rw[← hf k,findBy_of_findIdx?,hi]
   refine Na (wpAny_dictEntries (s:={s with toks:=s.toks+1}) ho hd ?_);cases he:es[i]? with
   | none=>
     exfalso;have:=Array.findIdx?_eq_some_iff_findIdx_eq.mp hi;have RJ:i<es.size:=this.1;rw[Array.getElem?_eq_getElem RJ] at he;exact nomatch he
   | some e=>
     rw[he] at hfk;exact Na (Oj (Nd (Uw e.val hfk)))
 | none=>
   have hfk:NH kvs k=none:=by rw[← hf k,findBy_of_findIdx?,hi]
   have Vv:k∉kvs.map (·.1):=not_mem_of_findIdx_none (hidx▸hi);have V3:¬(kvs.any λkv=>decide (kv.1=k))=true:=by
    rw[Mo];rintro⟨kv,hkv,he⟩;exact Vv (Lu.mpr ⟨kv,hkv,QH he⟩)
   refine Na (Oj (Na (wpAny_updateDictKeys (hz:=hes) (s:={s with toks:=s.toks+1}) ho hd (Nd (hnew hfk _ ⟨_,_,ep+1,Pp _ ho (Obj.isFreed_of_dict (Obj.data_mapDictKeys hd _)),
    hc.mapDictKeys _,Obj.data_mapDictKeys hd _,hk.push Sj _,?_,?_⟩ (Pq.update ..))))))
   ·rw[stored,QF V3];have:=hp.append Sj (knd.hash k) dflt;obtain⟨l⟩:=es;simpa using this
   ·rw[stored,QF V3,Lj,List.nodup_append];refine⟨hn,by simp,?_⟩;intro a ha b hb;simp only[Lm,Mq,KZ] at hb;subst hb;exact λe=>Vv (e▸ha)
theorem zK {kvs:List (K×Value)}{k:K}(Sj:knd.is k key=true)(hd:(d==Nw)=false)(dflt:Value)(hsz:kvs.length<=Nb):
 MeetsIn prog w (Ot.«dict.setdefault» ⟨[.ref d,key,dflt],[]⟩) (λ_ R s=>s.heap.DictOf knd d kvs/\
  (∀v,NH kvs k=some v->R (.ok (.ret v)) {s with toks:=s.toks+1})/\
  (NH kvs k=none->∀h',h'.DictOf knd d (stored kvs k dflt)->Pq d s.heap h'->R (.ok (.ret dflt)) {s with heap:=h',toks:=s.toks+1})):=
 .of_wp λA R s ⟨hm,h1,h2⟩=>by
  unfold Ot.«dict.setdefault»;refine Na ?_;unfold Ot.Dict.keyAndDefault;refine Na (wpAny_notOrdered_dict hm.mapOf.typeIs ?_);show wpAny _ _ (pure (d,key,some dflt)) _ _ s;refine Nd ?_;show wpAny _ _ (if(d==Nw)=true then _ else(OO d key dflt >>=_)) _ _ s;rw[QF (by rw[hd];exact KC)];exact Na (zC Sj hm (λv hv=>Nd ⟨v,rfl,h1 v hv⟩) (λhn h' hm' hs'=>Nd ⟨dflt,rfl,h2 hn h' hm' hs'⟩) hsz)
end
variable {F:Kx}
def G0:V->List V->Hp->VK->Prop:=λx vs H Q=>∃(a:Addr)(F:Kx)(k v:Int),x= .ref a/\vs=[.int k,.int v]/\H a=some (.dK (bV (cC F)))/\F.length<Nb/\∀u,Q u (if(cF F k).isSome then H else upd H a (.dK (bV (cC (F++[(k,v)])))))
theorem BE:qX X "dict.setdefault" G0:=by
 intro QN s σ H x vs u us Q I rx rv h;obtain⟨a,F,k,v,rfl,rfl,hH,hz,q⟩:=h;cases rx
 obtain⟨u1,u2,rfl,⟨t,rfl⟩,⟨t2,rfl⟩⟩:=vals2 rv;obtain⟨z,hd,kvs,rel,dd⟩:=vL I.QQ hH;have hzl:kvs.length<=Nb:=by rw[← rel.length];exact z
 have SA:=rel.val (Sum.inl k:Key);rw[jE] at SA;refine call_meetsIn PySem.F.slot_dict_setdefault dd.typeIs PySem.F.entry_dict_setdefault (PySem.F.args_dict_setdefault_3 _ _ _) (zK (knd:=bP X.prog X.w) (kvs:=kvs) (hZ (k:=Sum.inl k) (u:=.int k t) ⟨t,rfl⟩) hd (.int v t2) hzl) ⟨dd,λw' hw=>?_,λhn h' TC hs=>?_⟩
 ·cases e:cF F k with
  | none=>rw[e,hw] at SA;cases SA
  | some y=>
    rw[e,hw] at SA;have:=q (.int y);rw[e,QG (show(some y).isSome=true from rfl)] at this;exact⟨.int y,H,I.tok _,SA,this⟩
 ·cases e:cF F k with
  | some y=>rw[e,hn] at SA;cases SA
  | none=>
    have:=q (.int v);rw[e,QF (by decide)] at this;have hput:putK (bV (cC F)) (Sum.inl k:Key) (.int v)=bV (cC (F++[(k,v)])):=by
     rw[nD];unfold eM;rw[e,QF (by decide)]
    have hl:(bV (cC (F++[(k,v)]))).length<=Nb:=by unfold bV cC;simp;omega
    refine⟨.int v,_,lh I (by rw[hH];exact QD) hs (let ⟨q,_,_,hq,_⟩:=TC;⟨q,hq⟩) (rJ hl hd ?_ TC),⟨t2,rfl⟩,this⟩;rw[← hput];exact rel.put (Sum.inl k:Key) ⟨t2,rfl⟩
theorem set_same.{u}{A:Type u}{l:List A}{i:Nat}{x:A}(h:l[i]?=some x):l.set i x=l:=by
 refine List.ext_getElem? λj=>?_;by_cases e:i=j
 ·subst e;rw[Lb (KW.mp h).1,h]
 ·rw[Ll e]
theorem Eo (i:Nat){f:Expr}{k v:Int}(he:EV X e Γ ah k Γ)(hf:EV X f Γ ah v Γ)(hΓ:Γ[i]?=some (.di (cC F)))(hz:F.length<Nb)(h:N (Γ.set i (.di (cC (if(cF F k).isSome then F else F++[(k,v)])))))(hN:X.N[i]?=some x:=by rfl)(hv:autoParam (cI X.env.scope x) Rt)(hd:Q0 x:=by decide)(QR:Rn x:=by decide)(RR:Nl (.Call (.Attribute (.Name x p1) "setdefault" ap) [e,f] [] cp) none pos.line X.env=pure false:=by rfl)(QS:Ni (.Name x p1) "setdefault" X.env (eval (.Name x p1) X.env)=eval (.Name x p1) X.env:=by rfl)(Ri:((Nk cp (Nc [e,f] X.env)).all (λx=> !x.1)&&(NY cp (ND [] X.env)).all (λx=>x.1.isSome)
  &&decide ([e,f].length+([]:List Nt).length+(if([]:List Nt).isEmpty then 0 else 1)<30))=true:=by rfl)(QZ:(ap.endLine==cp.line)=true:=by rfl)(hs:Nc [e,f] X.env=(false,eval e X.env)::Nc [f] X.env:=by rfl)(Rp:Nc [f] X.env=(false,eval f X.env)::Nc [] X.env:=by rfl)(Q3:(Nk cp (Nc [f] X.env)).any (·.1)=false:=by rfl):
 W1 X (.Expr (.Call (.Attribute (.Name x p1) "setdefault" ap) [e,f] [] cp) pos) Γ N T:=λσ H0 R0 H R E D dn dr=>by
 obtain⟨a,ea,ha,hR⟩:=E.ent i _ hΓ;refine sS (f9 (hX PySem.F.plainAttrs_dict PySem.F.slot_dict_setdefault PySem.F.type_dict_setdefault BE (bh hN hv hd QR) (aU aR (aU aR bD Rp) hs) QS Ri QZ hs Q3) RR) ?_;refine⟨.ref a,at_of ea,.inr (.inr (.inl ⟨rfl,.inl ⟨_,ha⟩⟩)),he σ H0 R0 H R E _ λv1 H1 R1 E1 s1 q1=>hf σ H0 R0 H1 R1 E1 _ λv2 H2 R2 E2 s2 q2=>?_⟩;cases q1
 cases q2
 obtain⟨a',Rr,R7,RC⟩:=E2.ent i _ hΓ;rw[ea] at Rr;cases Rr
 refine⟨a,F,k,v,rfl,rfl,R7,hz,λu=>?_⟩;cases q:(cF F k).isSome with
 | true=>
   rw[q,QG rfl] at h;rw[QG rfl];refine dn σ H2 R2 _ E2 (s1.trans s2) ?_;rwa [set_same hΓ] at h
 | false=>
   rw[q,QF (by decide)] at h;rw[QF (by decide)];exact dn σ _ R2 _ (E2.upd (en:=.di (cC (F++[(k,v)]))) hΓ rfl ea RC ⟨a,rfl,aD,RC⟩) (s1.trans s2) h
def nC (X:Cx)(e:Expr)(Γ:Ga)(k:Int):Prop:=∀(σ:St)(H0 R0 H R:Hp),aw X.K σ H0 R0 H R Γ->∀(H':Hp)(Q:VK),ax R H'->Q (.int k) H'->fq X e σ H' Q
theorem tE (i:Nat){y:Int}(hΓ:Γ[i]?=some (.im ah y))(hN:X.N[i]?=some x:=by rfl)(hv:autoParam (cI X.env.scope x) Rt)(hd:Q0 x:=by decide)(QR:Rn x:=by decide):nC X (.Name x pos) Γ y:=λσ H0 R0 H R E H' Q s q=>by
 obtain⟨v,e,h⟩:=E.ent i _ hΓ;cases h
 exact eS (bh hN hv hd QR) ⟨_,at_of e,q⟩
theorem Br (i:Nat){ke ve le ue:Expr}{k l v u:Int}(hk:nC X ke Γ k)(hl:nC X le Γ l)(hv:PE X ve (tC (.int v)))(hu:PE X ue (tC (.int u)))(h:N (Γ.set i (.di (cC (eM [(k,v)] l u)))))(hN:X.N.Nodup:=by first | assumption | decide)(hi:X.N[i]?=some x:=by rfl)(hx:autoParam (Loc X.env.scope x) SW)(hs:Nl (.Dict [some ke,some le] [ve,ue] p2) (some (.Name x p1)) pos.line X.env=pure false:=by rfl)(hf:autoParam (X.fn x=true∨X.env.scope.names.lookup x=some .local) SV):
 W1 X (.Assign [.Name x p1] (.Dict [some ke,some le] [ve,ue] p2) pos) Γ N T:=λσ H0 R0 H R E D dn dr=>by
 refine sS (iM hN hi hx (Cb (sM aR hv (sM aR hu Bb)) rfl rfl (by simp) (by simp)) hs hf) λp hp=>?_;have sR:ax R (upd H p (.dK [])):=E.sub.trans (ax.fresh hp _);refine hk σ H0 R0 H R E _ _ sR ?_;refine hl σ H0 R0 H R E _ _ sR ?_;refine⟨aD,[(Sum.inl k,.int v),(Sum.inl l,.int u)],rfl,(by show 2<=15;decide),?_⟩;have E1:=E.grow (Ext.dj E.sub hp (.dK (bV (cC (eM [(k,v)] l u)))));have e:upd (upd H p (.dK [])) p (.dK (jB [] [(Sum.inl k,.int v),(Sum.inl l,.int u)]))=upd H p (.dK (bV (cC (eM [(k,v)] l u)))):=by
  rw[Bf];congr 2;exact nD [(k,v)] l u
 rw[e];exact dn _ _ R _ (E1.v8 (u:=.dK (bV (cC (eM [(k,v)] l u)))) (en:=.di (cC (eM [(k,v)] l u))) i ⟨p,rfl,aD,E.sub.free hp⟩ (E.ext.h.free hp) λj e _ q w=>E.off hp j e q w) (ax.refl _) h
theorem B2 {iter:Expr}{xs:List PV}(hz:xs.length<=Nb)(h:EV X iter Γ aH (.tup xs) Γ1):IV X tg iter Γ aH xs Γ1:=by
 refine⟨_,ER aR,λσ H0 R0 H R E Rq q=>h σ H0 R0 H R E _ λv H1 R1 E1 s1 e1=>?_⟩;cases e1 with
 | @tup a vs _ hp pp=>
   have hq0:∀H' R':Hp,ax R1 R'->ax R' H'->dC X.K H' a vs:=λH' R' sR sH=>dC.of (sH _ _ (sR _ _ hp));refine⟨a,rfl,⟨_,hq0 H1 R1 (ax.refl _) E1.sub⟩,q _ H1 R1 E1 s1 hz λH' R' sR sH i=>⟨λx hx=>?_,λhi=>⟨_,hq0 H' R' sR sH,by rw[pp.pair.length];exact hi⟩⟩⟩;obtain⟨v,hv,hr⟩:=dJ pp.pair hx;refine⟨⟨_,_,hq0 H' R' sR sH,hv⟩,λv2 H2 hy=>?_⟩;obtain⟨rfl,hy⟩:=hy;have:=hy _ (hq0 _ R' sR sH);rw[hv] at this;cases this
   exact⟨R',Ext.refl sH,hr.mono sR⟩
theorem zA (i:Nat)(hm:X.mg "len"=none)(hΓ:Γ[i]?=some (.di (cC F)))(hN:X.N[i]?=some x:=by rfl)(hv:autoParam (cI X.env.scope x) Rt)(hd:Q0 x:=by decide)(QR:Rn x:=by decide)(hs:Nc [.Name x p1] X.env=[(false,eval (.Name x p1) X.env)]:=by rfl)(hg:Gl X "len":=by rfl):EV X (.Call (.Name "len" p) [.Name x p1] [] pos) Γ ah (F.length:Int) Γ:=by
 intro σ H0 R0 H R E Q q;obtain⟨a,ea,ha,hR⟩:=E.ent i _ hΓ;refine eS (da oQ hg hm NR (aU (bh hN hv hd QR) bD hs) (by decide) (by decide) hs) ⟨.ref a,at_of ea,a,_,rfl,ha,?_⟩;unfold bV cC;rw[KY,KY];exact q _ H R E (ax.refl _) rfl
theorem yH (hm:X.mg "len"=none)(ha:EV X a Γ pD F Γ1)(hs:Nc [a] X.env=[(false,eval a X.env)]:=by rfl)(hg:Gl X "len":=by rfl):EV X (.Call (.Name "len" p) [a] [] pos) Γ ah (F.length:Int) Γ1:=
 EV.cast (Bw (kvs:=cC F) hm (EV.rep ha λ_ _ q=>q) hs hg) (by unfold cC;rw[KY])
theorem kI (i1 i2:Nat){x1 x2:Str}{k:Nat}{r':Rep β}{y1:α}{y2:β}(he:EV X e Γ (dh r r') (y1,y2) Γ1)(h:N ((Γ1.set i1 (.im r y1)).set i2 (.im r' y2)))(hc:X.calm=true:=by rfl)(hN:X.N.Nodup:=by first | assumption | decide)(h1:X.N[i1]?=some x1:=by rfl)(l1:autoParam (Loc X.env.scope x1) SW)(f1:autoParam (X.fn x1=true∨X.env.scope.names.lookup x1=some .local) SV)(h2:X.N[i2]?=some x2:=by rfl)(l2:autoParam (Loc X.env.scope x2) SW)(f2:autoParam (X.fn x2=true∨X.env.scope.names.lookup x2=some .local) SV)(hs:Ou [.Tuple [.Name x1 p1,.Name x2 p2] k tp] e pos.line X.env=pure false:=by rfl)(hw:Ov [.Tuple [.Name x1 p1,.Name x2 p2] k tp] e X.env=pure none:=by rfl)(ho:(NV [.Tuple [.Name x1 p1,.Name x2 p2] k tp] X.env).map (·.2)=[N2 (.Tuple [.Name x1 p1,.Name x2 p2] k tp) X.env]:=by rfl):W1 X (.Assign [.Tuple [.Name x1 p1,.Name x2 p2] k tp] e pos) Γ N T:=λσ H0 R0 H R E D dn dr=>by
 refine sS (rK aR (w8 hc (jT (ju hN h1 l1 f1) (jT (ju hN h2 l2 f2) uD))) hs hw ho) (he σ H0 R0 H R E _ λv H1 R1 E1 s1 q1=>?_);obtain⟨a,v1,v2,rfl,ha,g1,g2⟩:=q1;exact⟨a,_,rfl,dC.of (E1.sub _ _ ha),rfl,_,_,rfl,_,_,rfl,rfl,dn _ H1 R1 _ ((E1.set i1 (r:=r) g1).set i2 (r:=r') g2) s1 h⟩
theorem uF:∀{bs:List Bool}{us:Kv},Vals (bs.map V.bl) us->us.countP (fD (.bl true))=bs.countP id
 | [],_,.nil=>rfl
 | b::bs,u::us,.cons r t=>by
   rw[List.countP_cons,List.countP_cons,uF t,nj r rfl];cases b<;>rfl
theorem xj:qX X "list.count" (λx vs H Q=>∃(l:Addr)(bs:List Bool),x= .ref l/\vs=[.bl true]/\H l=some (.lst (bs.map V.bl))/\Q (.int ((bs.countP id:Nat):Int)) H):=by
 intro QN s σ H x vs v us Q I rx rv h;obtain⟨l,bs,rfl,rfl,hH,q⟩:=h;cases rx
 obtain⟨u,rfl,ru⟩:=rv.one;obtain⟨_,QO,m,r1,hl,ho⟩:=I.jc hH;refine NX PySem.F.slot_list_count ⟨_,ho,rfl⟩ PySem.F.entry_list_count (PySem.F.args_list_count_2 _ _) (SeqAt.list_countAt l QO.toArray m _ _ u (fD (.bl true))) ⟨ho,λw hw=>fc ru rfl r1 (jX bs) w (by simpa using hw),?_⟩;rw[show QO.toArray.toList=QO from rfl,uF r1];exact⟨.int _,H,I.tok _,⟨_,rfl⟩,q⟩
theorem xJ:qX X "list.index" (λx vs H Q=>∃(l:Addr)(bs:List Bool)(j:Nat),x= .ref l/\vs=[.bl true]/\H l=some (.lst (bs.map V.bl))/\bs[j]?=some true/\(∀m,m<j->bs[m]?=some false)/\Q (.int (j:Nat)) H):=by
 intro QN s σ H x vs v us Q I rx rv h;obtain⟨l,bs,j,rfl,rfl,hH,hj,Sb,q⟩:=h;cases rx
 obtain⟨u,rfl,ru⟩:=rv.one;obtain⟨hz,QO,m,r1,hl,ho⟩:=I.jc hH;have jl:j<bs.length:=(KW.mp hj).1;have UD:QO.length=bs.length:=by rw[← hl,KY]
 have at_:∀(n:Nat)(b:Bool),bs[n]?=some b->∀h1:n<QO.length,fD (.bl true) QO[n]=b:=λn b hb h1=>by
  obtain⟨u,e1,e2⟩:=r1.get (show(bs.map V.bl)[n]?=some (.bl b) by rw[K9,hb];rfl);rw[K2 h1] at e1;rw[Option.some.inj e1,nj e2 rfl];cases b<;>rfl
 refine NX PySem.F.slot_list_index ⟨_,ho,rfl⟩ PySem.F.entry_list_index (PySem.F.args_list_index_2 _ _)
  (SeqAt.list_indexAt l QO.toArray m _ _ u (fD (.bl true)) j (by simpa[UD] using jl) ?_ ?_ ?_) ⟨ho,λw hw=>fc ru rfl r1 (jX bs) w (by simpa using hw),?_⟩
 ·have:Nb<2 ^ 63-1:=by decide
  rw[KY] at hz;omega
 ·exact at_ j true hj (by omega)
 ·intro n hn hnj;exact at_ n false (Sb n hnj) (by simpa using hn)
 ·exact⟨.int _,H,I.tok _,⟨_,rfl⟩,q⟩
theorem xU {bs:List Bool}(ha:EV X a Γ (af bp) bs Γ1)(he:EV X e Γ1 bp true Γ2)(QS:Ni a "count" X.env (eval a X.env)=eval a X.env:=by rfl)(Ri:((Nk cp (Nc [e] X.env)).all (λx=> !x.1)&&(NY cp (ND [] X.env)).all (λx=>x.1.isSome)
  &&decide ([e].length+([]:List Nt).length+(if([]:List Nt).isEmpty then 0 else 1)<30))=true:=by rfl)(QZ:(ap.endLine==cp.line)=true:=by rfl)(hs:Nc [e] X.env=(false,eval e X.env)::Nc [] X.env:=by rfl):EV X (.Call (.Attribute a "count" ap) [e] [] cp) Γ ah ((bs.countP id:Nat):Int) Γ2:=λσ H0 R0 H R E Q q=>by
 refine eS (hX Pa PySem.F.slot_list_count PySem.F.type_list_count xj aR (aU aR bD hs) QS Ri QZ hs rfl) (ha σ H0 R0 H R E _ λv H1 R1 E1 s1 e1=>?_);obtain⟨b,vs,rfl,hb,pp,hz⟩:=e1;have ev:=iN pp;subst ev;refine⟨.inl ⟨rfl,_,bt.of (E1.sub _ _ hb)⟩,he σ H0 R0 H1 R1 E1 _ λu H2 R2 E2 s2 e2=>?_⟩;cases e2
 exact⟨b,bs,rfl,rfl,E2.sub _ _ (s2 _ _ hb),q _ _ _ E2 (s1.trans s2) rfl⟩
theorem wA {bs:List Bool}(ha:EV X a Γ (af bp) bs Γ1)(he:EV X e Γ1 bp true Γ2)(hj:bs[j]?=some true)(Sb:∀m,m<j->bs[m]?=some false)(QS:Ni a "index" X.env (eval a X.env)=eval a X.env:=by rfl)(Ri:((Nk cp (Nc [e] X.env)).all (λx=> !x.1)&&(NY cp (ND [] X.env)).all (λx=>x.1.isSome)
  &&decide ([e].length+([]:List Nt).length+(if([]:List Nt).isEmpty then 0 else 1)<30))=true:=by rfl)(QZ:(ap.endLine==cp.line)=true:=by rfl)(hs:Nc [e] X.env=(false,eval e X.env)::Nc [] X.env:=by rfl):EV X (.Call (.Attribute a "index" ap) [e] [] cp) Γ ah (j:Nat) Γ2:=λσ H0 R0 H R E Q q=>by
 refine eS (hX Pa PySem.F.slot_list_index PySem.F.type_list_index xJ aR (aU aR bD hs) QS Ri QZ hs rfl) (ha σ H0 R0 H R E _ λv H1 R1 E1 s1 e1=>?_);obtain⟨b,vs,rfl,hb,pp,hz⟩:=e1;have ev:=iN pp;subst ev;refine⟨.inl ⟨rfl,_,bt.of (E1.sub _ _ hb)⟩,he σ H0 R0 H1 R1 E1 _ λu H2 R2 E2 s2 e2=>?_⟩;cases e2
 exact⟨b,bs,j,rfl,rfl,E2.sub _ _ (s2 _ _ hb),hj,Sb,q _ _ _ E2 (s1.trans s2) rfl⟩
theorem G5 {k:Int}:eu X .Is (j9 C nm) eW k () false:=by
 refine⟨_,qH,λR H v u Q s a b q=>⟨b,?_⟩⟩;obtain⟨e,oe,vs,dx,rfl,_⟩:=a;rw[QJ (λz=>by cases z)];exact q
theorem vO {k:Int}:eu X .Is ah eW k () false:=by
 refine⟨_,qH,λR H v u Q s a b q=>⟨b,?_⟩⟩;cases a
 rw[QJ (λz=>by cases z)];exact q
theorem kR:eu X .Is eW eW () () true:=by
 refine⟨_,qH,λR H v u Q s e1 e2 q=>?_⟩;cases (show v=V.QY from e1)
 cases (show u=V.QY from e2)
 exact⟨rfl,q⟩
theorem eG :EV X (.Constant .none j pos) Γ eW () Γ:=λσ H0 R0 H R E Q q=>eS Fg (q .QY H R E (ax.refl _) rfl)
theorem sN {f:Str}{k:Nat}{e0:Expr}{ep:Pos}{cls:Value}{fs:List (Str×V)}(C:g7 X.prog X.w X.K X.mg X.base f k (gO S X.K))(hr:br k X.A)(ha:HA X.cj (e0::es) Γ ps Γ)(hS:S X.K ps (.exc cls fs))(hg:Gl X f:=by rfl)(SO:Nl (.Call (.Name f p) (e0::es) [] pos) none ep.line X.env=pure false:=by rfl)(he:Nc (e0::es) X.env=(false,eval e0 X.env)::Nc es X.env:=by rfl)(Q3:(Nk pos (Nc es X.env)).any (·.1)=false:=by rfl)(d2:Q0 f:=by decide):
 TD X (.Expr (.Call (.Name f p) (e0::es) [] pos) ep::rest) Γ cls fs:=λσ H0 R0 H R E QN s I Ex q=>by
 refine Nu (wpAny_Expr_any ?_ I.quiet SO);exact pF C hr ha hS E I (λs1 H1 ea T dx H2 R2 s' a1 a2 a3 a4 a5 a6 a7 _ a8 a9 a10=>q s1 H1 ea T dx H2 R2 s' a1 a2 a3 a4 a5 a6 a7 a8 a9 a10) hg d2 he Q3
theorem wW :eu X .NotIn ag ag x y (Ot.Str.occurrences y x 0 y.length 1).isEmpty:=⟨_,rO,λR H v u Q _ e1 e2 q=>by
 cases e1
 cases e2
 exact⟨x,y,rfl,rfl,by rw[Bool.not_not];exact q⟩⟩
def Eu:Kw->Ks->Prop
 | [],[]=>True
 | e::es,y::ys=>(∃j pos,e= .Constant (.str y) j pos)/\Eu es ys
 | _,_=>False
theorem oH {X:Cx}{Γ:Ga}:∀{es:Kw}{ys:Ks},Eu es ys->EA X es Γ ag ys Γ
 | [],[],_=>aJ
 | _::_,_::_,⟨⟨_,_,h⟩,t⟩=>by
   subst h;exact ao av (oH t)
end Fc
namespace K1
open PySem L2 Fc
open PySem.Spec hiding Row
open PyProof.Rows hiding St
open PySem.Builtin.Int (intBits)
variable {P:Nf}{w:World}{K:P1}{mg:Kp}{base:Heap}{f:Addr}{fd:Nm}
abbrev ay (x:Int):Ent:=.im ah x
abbrev dv (x:Kr):Ent:=.im (af ah) x
theorem kQ {x y:Int}(h0:0<=x)(h1:x<4294967296):OP x y:=.of_left (Ow (by omega) (by omega))
variable {n:Nat}{i:Int}
theorem xc (h0:0<=i)(h1:i<n):eT n i=some i.toNat:=by unfold eT;rw[QG h0,QG h1]
theorem aE (h:n<=1000000):n<=Nb:=Mz h (by decide)
theorem aT {α:Type}{xs:List α}(d:α)(h0:0<=i)(h1:i<xs.length):cq xs i=some (xs.getD i.toNat d):=by
 rw[mG h0 h1,K2 (by omega),K5,K2 (by omega)];rfl
end K1
namespace K1
open PySem
variable {P:Nf}{w:World}{K:P1}{mg:Kp}{base:Heap}{f:Addr}{fd:Nm}
abbrev top (i:Nat):Stmt:=PySem.Challenge.pw_fewcounters_k61_wrong_words.main.body.getD i (.Pass ⟨0,0,0,0⟩)
abbrev xt:Nat:=11
abbrev qA:Nat:=12
abbrev B7:Nat:=31
abbrev zl:Nat:=32
abbrev BO:Nat:=33
abbrev rR:Nat:=34
abbrev nM:Nat:=35
abbrev vj:Nat:=36
abbrev mm:Nat:=37
abbrev tD:Nat:=38
abbrev tq:Nat:=39
abbrev pP:Nat:=40
abbrev xl:Nat:=41
abbrev su:Nat:=42
abbrev vm:Nat:=43
abbrev sA:Nat:=44
abbrev wJ:Nat:=47
abbrev mT:Nat:=48
abbrev p7:Nat:=49
abbrev p6:Nat:=50
abbrev nI:Nat:=51
abbrev lZ:Nat:=52
abbrev wg:Nat:=53
abbrev ot:Nat:=54
abbrev pN:Nat:=55
abbrev lE:Nat:=56
abbrev oA:Nat:=57
abbrev lY:Nat:=58
abbrev nB:Nat:=59
abbrev pQ:Nat:=61
abbrev qw:Nat:=62
abbrev rQ:Nat:=63
abbrev nV:Nat:=64
abbrev pZ:Nat:=65
abbrev qZ:Nat:=66
abbrev pO:Nat:=67
abbrev pW:Nat:=68
abbrev qB:Nat:=69
abbrev p8:Nat:=70
abbrev pY:Nat:=71
abbrev nN:Nat:=72
abbrev tf:Nat:=73
abbrev mC:Nat:=74
abbrev mR:Nat:=75
abbrev qJ:Nat:=76
abbrev pU:Nat:=77
abbrev pR:Nat:=78
abbrev DV:Nat:=79
end K1
namespace K1
open PySem L2 Fc
open PySem.Spec hiding Row
open PyProof.Rows hiding St
open PySem.Builtin.Int (intBits)
variable {P:Nf}{w:World}{K:P1}{mg:Kp}{base:Heap}{f:Addr}{fd:Nm}
structure bS (K:P1)(mg:Kp):Prop where
 len:mg "len"=none
 min:mg "min"=none
 range:mg "range"=none
 int:mg "int"=none
 list:mg "list"=none
 zip:mg "zip"=none
 enumerate:mg "enumerate"=none
 reversed:mg "reversed"=none
 any:mg "any"=none
 all:mg "all"=none
def vh (c:Int):Nat->Int
 | 0=>c
 | n+1=>vh c n/2147483587
def fV (d k:Int):Int:=d%10 ^ 18+48271*(k+1)
def lV (u k:Int):Int:=u*u%2147483629+69621*k
def sO (d k:Int):Int:=lV (fV d k) k*lV (fV d k) k%2147483587
def qt (ns:Kr)(k:Int):Int:=vh (ns.getD (k/8%63).toNat 0/10 ^ 18) (k%8).toNat
def qi (ns:Kr)(k:Int):Bool:=decide (k/8%63<(ns.length:Int))&&decide (10 ^ 18<=ns.getD (k/8%63).toNat 0)
def aK (ns:Kr)(k:Int):Int:=
 if qi ns k=true/\0<qt ns k then qt ns k%2147483587
 else sO (if 0<ns.length then ns.getD (k%(ns.length:Int)).toNat 0 else 0) k
theorem nS (ns:Kr)(k:Int):0<=aK ns k/\aK ns k<2147483587:=by
 unfold aK;split
 ·exact⟨KR _ (by decide),KQ _ (by decide)⟩
 ·unfold sO;exact⟨KR _ (by decide),KQ _ (by decide)⟩
abbrev A2:Stmt:=top pQ
abbrev ID:Ks:=["_law_script","_law_k","_law_at","_law_cell","_law_j","_law_number"]
structure uN (ns:Kr):Prop where
 l:ns.length<=63
 b:∀n∈ns,intBits n<=2 ^ 20
def AS:cE:=λK ps T=>∃(ns:Kr)(k:Int),ps=[⟨bM,ns⟩,⟨ah,k⟩]/\uN ns/\0<=k/\k<=1000000/\T=bN K ah (· =aK ns k)
theorem GJ (M:bS K mg)(Df:Def K mg "_law_mixed" A2 ["_law_script","_law_k"]):aF P w K mg base "_law_mixed" 1 (aM AS K):=by
 refine bE (N:=ID) Df (λf QP A outer s H E qs T nd hr hS=>?_);obtain⟨ns,k,rfl,hs,k0,k1,rfl⟩:=hS;have h63:=hs.l;have a0:=KR (k/8) (show(63:Int)≠0 by decide);refine aj (aL 2 (bR (jH (aa 1 rfl) ev_int ⟨by decide,by decide⟩) ev_int (by decide)) ?_);have rest:∀e3 e4:Ent,¬(qi ns k=true/\0<qt ns k)->WS (aX c8 P w K mg base ID "_law_mixed" (ak A2) f QP A outer s H E).cj ((bo A2).drop 2) [.im bM ns,ay k,ay (k/8%63),e3,e4,.no] (λ_=>False) (bN K ah (· =aK ns k)):=by
  intro e3 e4 hn;refine aj (aL 3 ev_int ?_);change WS _ _ [.im bM ns,ay k,ay (k/8%63),ay 0,e4,.no] _ _;refine bO (N1:=λΓ=>Γ=[.im bM ns,ay k,ay (k/8%63),ay (if 0<ns.length then ns.getD (k%(ns.length:Int)).toNat 0 else 0),e4,.no]) (aW (aq eX (oE M.len (aa 0 rfl)) ev_int) (λh=>?_) (λh=>aQ ?_)) ?_
  ·have hl:(0:Int)<ns.length:=QH h;have UB:(if(ns.length:Int)<63 then(ns.length:Int) else 63)=ns.length:=by
    by_cases q:(ns.length:Int)<63
    ·rw[QG q]
    ·rw[QF q];omega
   have q0:=KR k (show(ns.length:Int)≠0 by omega);have q1:=KQ k hl;refine ai (aL 3 (rj (aa 0 rfl) (bR (aa 1 rfl) (EV.cast (BC M.min (ae ev_int (ae (oE M.len (aa 0 rfl)) au))) UB) hl) (aT 0 q0 q1)) ?_);rw[QG (by omega:0<ns.length)];rfl
  ·have hl:¬(0:Int)<ns.length:=QI h;rw[QF (by omega)]
  rintro _ rfl;have e:aK ns k=sO (if 0<ns.length then ns.getD (k%(ns.length:Int)).toNat 0 else 0) k:=by unfold aK;rw[QF hn]
  rw[e];generalize (if 0<ns.length then ns.getD (k%(ns.length:Int)).toNat 0 else 0)=d;have u0:=KR d (show(10:Int) ^ 18≠0 by decide);have u1:=KQ d (show(0:Int)<10 ^ 18 by decide);refine aj (aL 5 (y:=fV d k) (bg (bR (aa 3 rfl) (sF ev_int ev_int ⟨by decide,by decide,by decide⟩) (by decide)) (jr ev_int (bg (aa 1 rfl) ev_int) (kQ (by decide) (by decide)))) ?_);have n0:0<=fV d k:=by unfold fV;omega
  have n1:fV d k<2 ^ 63:=by unfold fV;omega
  have m0:=KR (fV d k*fV d k) (show(2147483629:Int)≠0 by decide);have m1:=KQ (fV d k*fV d k) (show(0:Int)<2147483629 by decide);refine aj (aL 5 (y:=lV (fV d k) k) (bg (bR (jr (aa 5 rfl) (aa 5 rfl) (A1 n0 n1)) ev_int (by decide)) (jr ev_int (aa 1 rfl) (kQ (by decide) (by decide)))) ?_);have v0:0<=lV (fV d k) k:=by unfold lV;omega
  have v1:lV (fV d k) k<2 ^ 63:=by unfold lV;omega
  exact ai (aN (bR (jr (aa 5 rfl) (aa 5 rfl) (A1 v0 v1)) ev_int (by decide)) rfl)
 refine aj (aW (TW.tv (bH (aq fg (aa 2 rfl) (oE M.len (aa 0 rfl))) (λh=>bZ (aq Kn (rj (aa 0 rfl) (aa 2 rfl) (aT 0 a0 (QH h))) (sF ev_int ev_int ⟨by decide,by decide,by decide⟩))))) (λh=>?_) (λh=>aQ (rest _ _ (λ⟨q,_⟩=>by rw[show qi ns k=false from h] at q;cases q))))
 have V1:qi ns k=true:=h;obtain⟨hl,_⟩:=KH.mp V1;have hl:=QH hl;refine aj (aL 3 (qG (rj (aa 0 rfl) (aa 2 rfl) (aT 0 a0 hl)) (sF ev_int ev_int ⟨by decide,by decide,by decide⟩) ⟨by decide,by decide⟩) ?_);have j0:=KR k (show(8:Int)≠0 by decide);have j1:=KQ k (show(0:Int)<8 by decide);refine bO (N1:=λΓ=>∃e4,Γ=[.im bM ns,ay k,ay (k/8%63),ay (qt ns k),e4,.no]) (cN (λi Γ=>∃e4,Γ=[.im bM ns,ay k,ay (k/8%63),ay (vh (ns.getD (k/8%63).toNat 0/10 ^ 18) i),e4,.no]) (dH M.range (bR (aa 1 rfl) ev_int (by decide)) ⟨by omega,by omega⟩) (bA 4) ⟨_,rfl⟩ (λi j Γ _ hΓ=>?_) (λΓ hΓ=>?_)) ?_
 ·obtain⟨e4,rfl⟩:=hΓ;exact ai (aL 3 (qG (aa 3 rfl) ev_int ⟨by decide,by decide⟩) ⟨_,rfl⟩)
 ·obtain⟨e4,rfl⟩:=hΓ;rw[bK];exact⟨e4,rfl⟩
 rintro _ ⟨e4,rfl⟩;refine ai (aW (aq eX (aa 3 rfl) ev_int) (λh=>?_) (λh=>aQ (rest _ _ (λ⟨_,q⟩=>QE q (QI h)))));have h:0<qt ns k:=QH h;exact ai (aN (bR (aa 3 rfl) ev_int (by decide)) (by unfold aK;rw[QG ⟨V1,h⟩]))
abbrev bu:Rep (Kr ⊕ Int):=se bM ah
abbrev bc (ns:Kr)(k c:Int):List (Kr ⊕ Int):=[.inl ns,.inr k,.inr c]
abbrev IH:Stmt:=top qw
def sU:j7 (Kr ⊕ Int):=λK xs ps T=>∃(ns:Kr)(k c:Int),xs=bc ns k c/\ps=[]/\uN ns/\0<=k/\k<1000000/\T=λxs'=>bN K ah λz=>xs'=bc ns (k+1) c/\z=aK ns (k+1)
theorem Hc (CM:aF P w K mg base "_law_mixed" 1 (aM AS K))(Df:Def K mg "_law_pull" IH ["_law_pen"]):aF P w K mg base "_law_pull" 2 (eE bu sU K):=by
 refine um (N:=["_law_pen"]) Df (λf QP A outer s H E a xs qs T nd hr hS=>?_);obtain⟨ns,k,c,rfl,rfl,hs,k0,k1,rfl⟩:=hS;refine aj (f7 0 (j:=1) (EV.inr (bg (EV.lQ (eK 0 ev_int rfl (y:=(Sum.inr k:Kr ⊕ Int)) rfl)) ev_int)) ev_int rfl rfl rfl ?_);exact ai (gT 0 (aB CM hr (ae (EV.ofl (eK 0 ev_int rfl (y:=(Sum.inl ns:Kr ⊕ Int)) rfl)) (ae (EV.lQ (eK 0 ev_int rfl (y:=(Sum.inr (k+1):Kr ⊕ Int)) rfl)) au)) ⟨ns,k+1,rfl,hs,by omega,by omega,rfl⟩) rfl ⟨rfl,rfl⟩)
abbrev fk:Str:="abcdefghijklmnopqrstuvwxyz"
abbrev gk:Ks:=["part","end","do","call","if","else","while","leave","back"]
def lF (m:Int):Nat->Str
 | 0=>""
 | n+1=>lF m n++gm fk ((m/8+(n:Int)*(m/88))%26).toNat
def QU (n:Int):Str:=
 if n%4=0 then gk.getD (n/4%9).toNat ""
 else if n%4=1 then gk.getD (n/4%9).toNat ""++gm fk (n/4/9%26).toNat
 else lF (n/4) (1+n/4%8).toNat
structure dg (x:Str):Prop where
 l1:1<=x.length
 l8:x.length<=8
 az:∀c∈x.cps.toList,97<=c/\c<=122
theorem len_app (x y:Str):(x++y).length=x.length+y.length:=by
 show(x.cps++y.cps).size=_;rw[Array.size_append];rfl
variable {x:Str}{c:Nat}
theorem n5 {y:Str}(h:c∈(x++y).cps.toList):c∈x.cps.toList∨c∈y.cps.toList:=by
 have e:(x++y).cps.toList=x.cps.toList++y.cps.toList:=by show(x.cps++y.cps).toList=_;simp
 rw[e] at h;exact Lf.mp h
theorem D3 (i:Nat)(h:i<26):97<=fk.cps.getD i 0/\fk.cps.getD i 0<=122:=by
 have:∀j:Fin 26,97<=fk.cps.getD j.val 0/\fk.cps.getD j.val 0<=122:=by decide +kernel
 exact this ⟨i,h⟩
variable {i:Nat}
theorem wC (h:i<26):∀c∈(gm fk i).cps.toList,97<=c/\c<=122:=by
 intro c hc;have:c=fk.cps.getD i 0:=by simpa[gm] using hc
 rw[this];exact D3 i h
theorem IW (x:Int):(x%26).toNat<26:=by
 have:=KR x (show(26:Int)≠0 by decide);have:=KQ x (show(0:Int)<26 by decide);omega
theorem lu (m:Int):∀n,(lF m n).length=n
 | 0=>rfl
 | n+1=>by rw[lF,len_app,lu m n];rfl
theorem wV (m:Int):∀n,∀c∈(lF m n).cps.toList,97<=c/\c<=122
 | 0,c,h=>by
   have e:(lF m 0).cps.toList=[]:=rfl;rw[e] at h;cases h
 | n+1,c,h=>by
   rcases n5 h with z | z
   ·exact wV m n c z
   ·exact wC (IW _) c z
theorem xT (i:Nat)(h:i<9):dg (gk.getD i "")/\(gk.getD i "").length<=5:=by
 have:∀j:Fin 9,(1<=(gk.getD j.val "").length/\(gk.getD j.val "").length<=5)/\∀c∈(gk.getD j.val "").cps.toList,97<=c/\c<=122:=by decide +kernel
 obtain⟨⟨a,b⟩,c⟩:=this ⟨i,h⟩;exact⟨⟨a,Mz b (by decide),c⟩,b⟩
theorem gf (n:Int):dg (QU n):=by
 have q0:=KR (n/4) (show(9:Int)≠0 by decide);have q1:=KQ (n/4) (show(0:Int)<9 by decide);have r0:=KR (n/4) (show(8:Int)≠0 by decide);have r1:=KQ (n/4) (show(0:Int)<8 by decide);obtain⟨w1,w2⟩:=xT (n/4%9).toNat (by omega);unfold QU;split
 ·exact w1
 split
 ·refine⟨?_,?_,λc hc=>?_⟩
  ·rw[len_app];have:=w1.l1;omega
  ·rw[len_app];show _+1<=8;omega
  ·rcases n5 hc with z | z
   ·exact w1.az c z
   ·exact wC (IW _) c z
 ·exact⟨by rw[lu];omega,by rw[lu];omega,wV _ _⟩
abbrev IE:Stmt:=top rQ
abbrev nNM:Ks:=["_law_number","_law_letters","_law_words_here","_law_way","_law_name_here","_law_k"]
def AI:cE:=λK ps T=>∃n:Int,ps=[⟨ah,n⟩]/\0<=n/\n<2147483587/\T=bN K ag (· =QU n)
theorem GF (M:bS K mg)(Df:Def K mg "_law_name" IE ["_law_number"]):aF P w K mg base "_law_name" 1 (aM AI K):=by
 refine bE (N:=nNM) Df (λf QP A outer s H E qs T nd hr hS=>?_);obtain⟨n,rfl,n0,n1,rfl⟩:=hS;have q0:=KR (n/4) (show(9:Int)≠0 by decide);have q1:=KQ (n/4) (show(0:Int)<9 by decide);have r0:=KR (n/4) (show(8:Int)≠0 by decide);have r1:=KQ (n/4) (show(0:Int)<8 by decide);have ll:fk.length=26:=by decide +kernel
 have lz:fk.length<=Nb:=by rw[ll];decide
 refine aj (aL 1 (y:=fk) av ?_);refine aj (aL 2 (y:=gk) (aI.im (aG (r:=ag) (ao av (ao av (ao av (ao av (ao av (ao av (ao av (ao av (ao av aJ))))))))) (by show 9<=Nb;decide))) ?_);refine aj (aL 3 (bR (aa 0 rfl) ev_int (by decide)) ?_);refine aj (aL 0 (jH (aa 0 rfl) ev_int ⟨by decide,by decide⟩) ?_);have hw:cq gk (n/4%9)=some (gk.getD (n/4%9).toNat ""):=aT (xs:=gk) "" q0 (by show _<((9:Nat):Int);omega);refine aj (aW (aq dP (aa 3 rfl) ev_int) (λh=>?_) (λh=>aQ ?_))
 ·have h:n%4=0:=QH h;exact ai (aN (aV (aa 2 rfl) (bR (aa 0 rfl) ev_int (by decide)) hw) (by unfold QU;rw[QG h]))
 have h0:¬n%4=0:=QI h;have wl:=(xT (n/4%9).toNat (by omega)).2;have s0:=KR (n/4/9) (show(26:Int)≠0 by decide);have s1:=KQ (n/4/9) (show(0:Int)<26 by decide);refine aj (aW (aq dP (aa 3 rfl) ev_int) (λh=>?_) (λh=>aQ ?_))
 ·have h:n%4=1:=QH h;exact ai (aN (oi (aV (aa 2 rfl) (bR (aa 0 rfl) ev_int (by decide)) hw) (wq (aa 1 rfl) (bR (jH (aa 0 rfl) ev_int ⟨by decide,by decide⟩) ev_int (by decide)) s0 (by rw[ll];exact s1) lz) (Mz (show _<=6 by show _+1<=6;omega) (by decide))) (by unfold QU;rw[QF h0,QG h]))
 have h1:¬n%4=1:=QI h;refine aj (aL 4 (y:=lF (n/4) 0) av ?_);refine bO (N1:=λΓ=>∃e5,Γ=[ay (n/4),.im ag fk,.im (af ag) gk,ay (n%4),.im ag (QU n),e5]) (cN (λi Γ=>∃e5,Γ=[ay (n/4),.im ag fk,.im (af ag) gk,ay (n%4),.im ag (lF (n/4) i),e5]) (dH M.range (bg ev_int (bR (aa 0 rfl) ev_int (by decide))) ⟨by omega,by omega⟩) (bA 5) ⟨_,rfl⟩ (λi j Γ hj hΓ=>?_) (λΓ hΓ=>?_)) ?_
 ·obtain⟨e5,rfl⟩:=hΓ;obtain⟨jl,ej⟩:=eY hj;obtain rfl:j=(i:Int):=by omega
  have t0:=KR (n/4/8+(i:Int)*(n/4/88)) (show(26:Int)≠0 by decide);have t1:=KQ (n/4/8+(i:Int)*(n/4/88)) (show(0:Int)<26 by decide);exact ai (aL 4 (y:=lF (n/4) (i+1)) (oi (aa 4 rfl) (wq (aa 1 rfl) (bR (bg (jH (aa 0 rfl) ev_int ⟨by decide,by decide⟩) (jr (aa 5 rfl) (jH (aa 0 rfl) ev_int ⟨by decide,by decide⟩) (kQ (by omega) (by omega)))) ev_int (by decide)) t0 (by rw[ll];exact t1) lz) (by rw[lu];exact Mz (show _<=20 by show _+1<=20;omega) (by decide))) ⟨_,rfl⟩)
 ·obtain⟨e5,rfl⟩:=hΓ;rw[bK];refine⟨e5,?_⟩;have e:QU n=lF (n/4) (1+n/4%8).toNat:=by unfold QU;rw[QF h0,QF h1]
  rw[e]
 rintro _ ⟨e5,rfl⟩;exact ai (aN (aa 4 rfl) rfl)
inductive Th
 | R8 (x:Str)
 | call (j:Int)
 | ifs (x:Str) (a b:List Th)
 | Ry (x:Str) (a:List Th)
 | leave
 | back
mutual
def eJ:Th->PV
 | .R8 x=>.lst [.str "do",.str x]
 | .call j=>.lst [.str "call",.int j]
 | .ifs x a b=>.lst [.str "if",.str x,.lst (bF a),.lst (bF b)]
 | .Ry x a=>.lst [.str "while",.str x,.lst (bF a)]
 | .leave=>.lst [.str "leave"]
 | .back=>.lst [.str "back"]
def bF:List Th->List PV
 | []=>[]
 | t::ts=>eJ t::bF ts
end
theorem dZ:∀ts:List Th,bF ts=ts.map eJ
 | []=>by rw[bF];rfl
 | t::ts=>by rw[bF,dZ ts];rfl
mutual
def eR:Th->Bool
 | .leave=>false
 | .back=>false
 | .ifs _ a b=>c6 a ||c6 b
 | _=>true
def c6:List Th->Bool
 | []=>true
 | t::ts=>eR t&&c6 ts
end
mutual
def fH:Th->Nat
 | .ifs _ a b=>1+max (dG a) (dG b)
 | .Ry _ a=>1+dG a
 | _=>0
def dG:List Th->Nat
 | []=>0
 | t::ts=>max (fH t) (dG ts)
end
mutual
def dq:Th->Nat
 | .R8 _=>1
 | .call _=>1
 | .ifs _ a b=>2+cS a+cS b
 | .Ry _ a=>2+cS a
 | _=>0
def cS:List Th->Nat
 | []=>0
 | t::ts=>dq t+cS ts
end
variable {ns QL:Kr}{n:Nat}{QM:Int}
section
variable {b:Nat}
theorem iy:∀a b:List Th,cS (a++b)=cS a+cS b
 | [],b=>by rw[cS];simp
 | t::a,b=>by rw[Mg,cS,cS,iy a b];omega
theorem jt:∀a b:List Th,dG (a++b)=max (dG a) (dG b)
 | [],b=>by rw[dG];simp
 | t::a,b=>by rw[Mg,dG,dG,jt a b];omega
abbrev Pn:=Int×Int
def Q8 (ns QL:Kr)(sub:Option (Int->Pn->List Th×Pn))(QM:Int)(s:Pn):Th×Pn:=
 if aK ns (s.1+1)%12=0/\0<QM then(.leave,(s.1+2,s.2))
 else if aK ns (s.1+1)%12=1 then(.back,(s.1+2,s.2))
 else if 9<aK ns (s.1+1)%12/\0<QL.length then(.call (QL.getD (aK ns (s.1+3)%(QL.length:Int)).toNat 0),(s.1+3,s.2-1))
 else match sub with
  | some L=>
    if(3<aK ns (s.1+1)%12/\aK ns (s.1+1)%12<7)/\1<s.2 then(.ifs (QU (aK ns (s.1+2))) (L QM (s.1+2,s.2-2)).1 (L QM (L QM (s.1+2,s.2-2)).2).1,(L QM (L QM (s.1+2,s.2-2)).2).2)
    else if(6<aK ns (s.1+1)%12/\aK ns (s.1+1)%12<10)/\1<s.2 then(.Ry (QU (aK ns (s.1+2))) (L (QM+1) (s.1+2,s.2-2)).1,(L (QM+1) (s.1+2,s.2-2)).2)
    else(.R8 (QU (aK ns (s.1+2))),(s.1+2,s.2-1))
  | none=>(.R8 (QU (aK ns (s.1+2))),(s.1+2,s.2-1))
def mq:Th->Bool
 | .back=>true
 | _=>false
def fO (ns QL:Kr)(sub:Option (Int->Pn->List Th×Pn))(tp:Bool)(QM:Int)(x:List Th×Pn):List Th×Pn:=
 if 0<x.2.2/\c6 x.1=true then
  if tp=true/\x.1.length=0/\mq (Q8 ns QL sub QM x.2).1=true then(x.1++[.R8 "back"],((Q8 ns QL sub QM x.2).2.1,(Q8 ns QL sub QM x.2).2.2-1))
  else(x.1++[(Q8 ns QL sub QM x.2).1],(Q8 ns QL sub QM x.2).2)
 else x
def Q9 {α:Type}(f:α->α):Nat->α->α
 | 0,x=>x
 | n+1,x=>f (Q9 f n x)
def dQ (ns:Kr)(tp:Bool)(k:Int):Nat:=(aK ns (k+1)%4+2*(if tp then 1 else 0)).toNat
def QW (ns QL:Kr):Nat->Bool->Int->Pn->List Th×Pn
 | 0,tp,QM,s=>Q9 (fO ns QL none tp QM) (dQ ns tp s.1) ([],(s.1+1,s.2))
 | n+1,tp,QM,s=>Q9 (fO ns QL (some (QW ns QL n false)) tp QM) (dQ ns tp s.1) ([],(s.1+1,s.2))
structure A0 (n b:Nat)(s:Pn)(r:List Th×Pn):Prop where
 dp:dG r.1<=n
 c:(cS r.1:Int)+r.2.2=s.2/\0<=r.2.2
 k:s.1<=r.2.1/\r.2.1<=s.1+b
 l:r.1.length<=5
def AQ (n b:Nat)(L:Int->Pn->List Th×Pn):Prop:=∀lp s,0<=s.2->A0 n b s (L lp s)
theorem uC (ns:Kr)(tp:Bool)(k:Int):dQ ns tp k<=5:=by
 unfold dQ;have a:=KR (aK ns (k+1)) (show(4:Int)≠0 by decide);have b:=KQ (aK ns (k+1)) (show(0:Int)<4 by decide);cases tp<;>simp<;>omega
structure n9 (n:Nat)(b:Nat)(s:Pn)(r:Th×Pn):Prop where
 dp:fH r.1<=n
 c:(dq r.1:Int)+r.2.2=s.2/\0<=r.2.2
 k:s.1<=r.2.1/\r.2.1<=s.1+b
theorem qW (ns QL:Kr)(QM:Int)(s:Pn)(h:0<s.2):n9 0 3 s (Q8 ns QL none QM s):=by
 unfold Q8;split
 ·exact⟨by simp[fH],⟨by simp[dq],by show 0<=s.2;omega⟩,by constructor<;>simp<;>omega⟩
 split
 ·exact⟨by simp[fH],⟨by simp[dq],by show 0<=s.2;omega⟩,by constructor<;>simp<;>omega⟩
 split
 ·exact⟨by simp[fH],⟨by simp[dq];omega,by show 0<=s.2-1;omega⟩,by constructor<;>simp<;>omega⟩
 ·exact⟨by simp[fH],⟨by simp[dq];omega,by show 0<=s.2-1;omega⟩,by constructor<;>simp<;>omega⟩
theorem qE {L:Int->Pn->List Th×Pn}(hL:AQ n b L)(QM:Int)(s:Pn)(h:0<s.2):n9 (n+1) (3+2*b) s (Q8 ns QL (some L) QM s):=by
 unfold Q8;split
 ·exact⟨by simp[fH],⟨by simp[dq],by show 0<=s.2;omega⟩,by constructor<;>simp<;>omega⟩
 split
 ·exact⟨by simp[fH],⟨by simp[dq],by show 0<=s.2;omega⟩,by constructor<;>simp<;>omega⟩
 split
 ·exact⟨by simp[fH],⟨by simp[dq];omega,by show 0<=s.2-1;omega⟩,by constructor<;>simp<;>omega⟩
 dsimp only;split
 ·rename_i hh;have c2:1<s.2:=hh.2;obtain⟨d1,⟨a1,a2⟩,k1,_⟩:=hL QM (s.1+2,s.2-2) (by show 0<=s.2-2;omega);obtain⟨d2,⟨a3,a4⟩,k2,_⟩:=hL QM (L QM (s.1+2,s.2-2)).2 a2;dsimp only at a1 k1;refine⟨by simp only[fH];omega,⟨by simp only[dq];push_cast;omega,a4⟩,?_⟩;constructor
  ·exact KS (by omega) (KS k1.1 k2.1)
  ·show(L QM (L QM (s.1+2,s.2-2)).2).2.1<=s.1+((3+2*b:Nat):Int);have:=k2.2;have:=k1.2;push_cast;omega
 split
 ·rename_i _ hh;have c2:1<s.2:=hh.2;obtain⟨d1,⟨a1,a2⟩,k1,_⟩:=hL (QM+1) (s.1+2,s.2-2) (by show 0<=s.2-2;omega);dsimp only at a1 k1;refine⟨by simp only[fH];omega,⟨by simp only[dq];push_cast;omega,a2⟩,?_⟩;constructor
  ·exact KS (by omega) k1.1
  ·show(L (QM+1) (s.1+2,s.2-2)).2.1<=s.1+((3+2*b:Nat):Int);have:=k1.2;push_cast;omega
 ·exact⟨by simp[fH],⟨by simp[dq];omega,by show 0<=s.2-1;omega⟩,by constructor<;>simp<;>omega⟩
structure mF (n b i:Nat)(k0 c0:Int)(x:List Th×Pn):Prop where
 dp:dG x.1<=n
 c:(cS x.1:Int)+x.2.2=c0/\0<=x.2.2
 k:k0<=x.2.1/\x.2.1<=k0+b*i
 l:x.1.length<=i
theorem mF.step {k0 c0:Int}{x:List Th×Pn}{sub:Option (Int->Pn->List Th×Pn)}{tp:Bool}(h:mF n b i k0 c0 x)(ht:0<x.2.2->n9 n b x.2 (Q8 ns QL sub QM x.2))(hb:1<=b):mF n b (i+1) k0 c0 (fO ns QL sub tp QM x):=by
 have hm:((b*(i+1):Nat):Int)=(b*i:Nat)+b:=by push_cast;rw[Int.mul_add];omega
 have hk:=h.k;have hc:=h.c;have hl:=h.l;have hd:=h.dp;unfold fO;split
 ·rename_i hh;have t:=ht hh.1;have tk:=t.k;have tc:=t.c;split
  ·rename_i h2;have hbk:(Q8 ns QL sub QM x.2).1= .back:=by
    have:=h2.2.2;cases e:(Q8 ns QL sub QM x.2).1<;>rw[e] at this<;>first | rfl | cases this
   rw[hbk] at tc;have hrw:(dq .back:Int)=0:=by simp[dq]
   rw[hrw] at tc;refine⟨?_,⟨?_,?_⟩,⟨?_,?_⟩,?_⟩
   ·rw[jt];simp[dG,fH];exact hd
   ·rw[iy];simp[cS,dq];omega
   ·show 0<=(Q8 ns QL sub QM x.2).2.2-1;have:=hh.1;omega
   ·exact KS hk.1 tk.1
   ·show(Q8 ns QL sub QM x.2).2.1<=k0+((b*(i+1):Nat):Int);have:=tk.2;have:=hk.2;rw[hm];push_cast at *;omega
   ·simp;omega
  ·refine⟨?_,⟨?_,tc.2⟩,⟨?_,?_⟩,?_⟩
   ·rw[jt];have:=t.dp;simp[dG];omega
   ·rw[iy];simp[cS];omega
   ·exact KS hk.1 tk.1
   ·show(Q8 ns QL sub QM x.2).2.1<=k0+((b*(i+1):Nat):Int);have:=tk.2;have:=hk.2;rw[hm];push_cast at *;omega
   ·simp;omega
 ·refine⟨hd,hc,⟨hk.1,?_⟩,by omega⟩;have:=hk.2;show x.2.1<=k0+((b*(i+1):Nat):Int);rw[hm];push_cast at *;omega
def iW:Nat->Nat
 | 0=>16
 | n+1=>1+5*(3+2*iW n)
theorem rX {ns QL:Kr}{sub:Option (Int->Pn->List Th×Pn)}{n b:Nat}(hb:1<=b)(hT:∀(lp:Int)(s:Pn),0<s.2->n9 n b s (Q8 ns QL sub lp s))(tp:Bool)(lp:Int)(s:Pn)(hs:0<=s.2):∀m,mF n b m (s.1+1) s.2 (Q9 (fO ns QL sub tp lp) m ([],(s.1+1,s.2)))
 | 0=>⟨by simp[Q9,dG],⟨by simp[Q9,cS],hs⟩,⟨KU _,by simp[Q9]⟩,by simp[Q9]⟩
 | m+1=>mF.step (rX hb hT tp lp s hs m) (λh=>hT lp _ h) hb
theorem xh {sub:Option (Int->Pn->List Th×Pn)}(hb:1<=b)(hT:∀(lp:Int)(s:Pn),0<s.2->n9 n b s (Q8 ns QL sub lp s))(tp:Bool)(lp:Int)(s:Pn)(hs:0<=s.2):A0 n (1+5*b) s (Q9 (fO ns QL sub tp lp) (dQ ns tp s.1) ([],(s.1+1,s.2))):=by
 have h:=rX hb hT tp lp s hs (dQ ns tp s.1);have hm:=uC ns tp s.1;have hmul:b*dQ ns tp s.1<=b*5:=Nat.mul_le_mul_left b hm;refine⟨h.dp,h.c,⟨by have:=h.k.1;omega,?_⟩,Mz h.l hm⟩;have:=h.k.2;omega
theorem gA (ns QL:Kr):∀(n:Nat)(tp:Bool),AQ n (iW n) (QW ns QL n tp)
 | 0,tp=>λlp s hs=>xh (b:=3) (by decide) (λlp s h=>qW ns QL lp s h) tp lp s hs
 | n+1,tp=>λlp s hs=>xh (b:=3+2*iW n) (by omega) (λlp s h=>qE (gA ns QL n false) lp s h) tp lp s hs
def dI:Th->Str
 | .R8 _=>"do"
 | .call _=>"call"
 | .ifs _ _ _=>"if"
 | .Ry _ _=>"while"
 | .leave=>"leave"
 | .back=>"back"
def gU:Th->List PV
 | .R8 x=>[.str "do",.str x]
 | .call j=>[.str "call",.int j]
 | .ifs x a b=>[.str "if",.str x,.lst (bF a),.lst (bF b)]
 | .Ry x a=>[.str "while",.str x,.lst (bF a)]
 | .leave=>[.str "leave"]
 | .back=>[.str "back"]
theorem gJ (t:Th):eJ t= .lst (gU t):=by cases t<;>rw[eJ]<;>rfl
theorem Ek (t:Th):cq (gU t) 0=some (.str (dI t)):=by cases t<;>rfl
end
variable {X:Cx}{Γ Γ1:Ga}{a:Expr}{j:Nat}{p1 pos:Pos}{t:Th}
theorem gz (h:EV X a Γ aH (eJ t) Γ1):EV X (.Subscript a (.Constant (.int 0) j p1) pos) Γ ag (dI t) Γ1:=EV.sP (aV (EV.lP (by rw[gJ] at h;exact h)) ev_int (Ek t))
theorem km {i:Int}{xs:List PV}(h:EV X a Γ aH (eJ t) Γ1)(hx:cq (gU t) i=some (.lst xs)):EV X (.Subscript a (.Constant (.int i) j p1) pos) Γ (af aH) xs Γ1:=EV.lP (aV (EV.lP (by rw[gJ] at h;exact h)) ev_int hx)
abbrev Ft:Stmt:=top nV
abbrev nPA:Ks:=["_law_items","_law_one"]
theorem yP:aZ nPA ["_law_items"] (ak Ft):=RQ
def xa (n:Nat):cE:=λK ps T=>∃ts:List Th,ps=[⟨af aH,bF ts⟩]/\dG ts<n/\T=bN K bp (· =c6 ts)
theorem zh (t:Th):(dI t="leave"∨dI t="back")->eR t=false:=by
 intro h;cases t<;>simp[dI] at h<;>first | (exfalso;revert h;decide) | simp[eR]
theorem sW {t:Th}:∀{ts:List Th},t∈ts->fH t<=dG ts
 | s::ts,h=>by
   rw[dG];rcases K8.mp h with rfl | h
   ·omega
   ·have:=sW h;omega
theorem Hx (F:cK K "_law_passes" "_law_passes" Ft f fd)(hm:mg "_law_passes"=some (.ref f))(hb:Binds K fd ["_law_items"] []):∀n:Nat,aF P w K mg base "_law_passes" (n+1) (aM (xa n) K):=by
 intro n;have nd:=yP.nd
 induction n with
 | zero=>
   refine e8 F yP hm hb (λqs T ⟨_,e,_⟩=>by rw[e];rfl) (λQP A outer s H E qs T hr hS=>?_);obtain⟨ts,_,h,_⟩:=hS;exact QE h (Nat.not_lt_zero _)
 | succ n ih=>
   refine e8 F yP hm hb (λqs T ⟨_,e,_⟩=>by rw[e];rfl) (λQP A outer s H E qs T hr hS=>?_);obtain⟨ts,rfl,hd,rfl⟩:=hS;refine aj (cN (r:=aH) (λi Γ=>∃e1,Γ=[.im (af aH) (bF ts),e1]/\c6 ts=c6 (ts.drop i)) (c7 (aa 0 rfl)) (bA 1) ⟨_,rfl,rfl⟩ (λi x Γ hx hΓ=>?_) (λΓ hΓ=>?_))
   ·obtain⟨e1,rfl,hp⟩:=hΓ;rw[dZ,K9] at hx;obtain⟨t,ht,rfl⟩:=MT.mp hx;have hdr:ts.drop i=t::ts.drop (i+1):=by
     obtain⟨h1,h2⟩:=KW.mp ht;rw[List.drop_eq_getElem_cons h1,h2]
    rw[hdr,c6] at hp;have VT:=sW (K7 ht);refine aj (aW (TW.tv (h9 (aq bI (gz (aa 1 rfl)) av) (λ_=>gD (aq bI (gz (aa 1 rfl)) av)))) (λh=>?_) (λh=>aQ ?_))
    ·have h:dI t="leave"∨dI t="back":=by simpa using h
     exact ai (aN gj (by rw[hp,zh t h];rfl))
    ·have h:¬(dI t="leave"∨dI t="back"):=by simpa using h
     by_cases hif:∃x a b,t= .ifs x a b
     ·obtain⟨x,a,b,rfl⟩:=hif;have hab:dG a<n/\dG b<n:=by rw[fH] at VT;omega
      refine ai (aW (TW.tv (bH (aq bI (gz (aa 1 rfl)) av) (λ_=>bH (fZ (dE (aB ih hr (ae (km (aa 1 rfl) (xs:=bF a) rfl) au) ⟨a,rfl,hab.1,rfl⟩))) (λ_=>bZ (fZ (dE (aB ih hr (ae (km (aa 1 rfl) (xs:=bF b) rfl) au) ⟨b,rfl,hab.2,rfl⟩))))))) (λh=>?_) (λh=>aQ ⟨_,rfl,?_⟩))
      ·have h:c6 a=false/\c6 b=false:=by simpa[dI] using h
       exact ai (aN gj (by rw[hp,eR,h.1,h.2];rfl))
      ·have h:c6 a=false->c6 b=true:=by simpa[dI] using h
       rw[hp,eR];cases ea:c6 a with
       | true=>simp
       | false=>rw[h ea];simp
     ·have hk:decide (dI t="if")=false:=by cases t<;>first | rfl | exact QE ⟨_,_,_,rfl⟩ hif
      have hpt:eR t=true:=by cases t<;>first | (simp[eR];done) | exact QE ⟨_,_,_,rfl⟩ hif | exact QE (.inl rfl) h | exact QE (.inr rfl) h
      refine ai (aW (TW.tv (bH (y:=true) (aq bI (gz (aa 1 rfl)) av) (λh=>QE (hk.symm.trans h) (by decide)))) (λh=>?_) (λh=>aQ ⟨_,rfl,?_⟩))
      ·rw[hk] at h;cases h
      ·rw[hp,hpt];rfl
   ·obtain⟨e1,rfl,hp⟩:=hΓ;rw[show(bF ts).length=ts.length by rw[dZ,KY],List.drop_length,c6] at hp;exact ai (aN gj hp.symm)
def cZ (ns QL:Kr):Nat->Option (Int->Pn->List Th×Pn)
 | 0=>none
 | n+1=>some (QW ns QL n false)
theorem jD (ns QL:Kr)(n:Nat)(tp:Bool)(QM:Int)(s:Pn):QW ns QL n tp QM s=Q9 (fO ns QL (cZ ns QL n) tp QM) (dQ ns tp s.1) ([],(s.1+1,s.2)):=by cases n<;>rfl
def bT:Nat->Nat
 | 0=>3
 | n+1=>3+2*iW n
theorem AF (n:Nat):3<=bT n:=by cases n<;>simp[bT]
structure j4 (ns QL:Kr)(n b:Nat)(k c:Int):Prop where
 s:uN ns
 k0:0<=k
 k1:k+(b:Int)<=900000
 c0:0<=c
 c1:c<=100
 l:QL.length<=100
 n4:n<=4
abbrev DU (n:Nat)(QM:Int)(QL:Kr):List Pk:=[⟨ah,4-(n:Int)⟩,⟨ah,QM⟩,⟨af ah,QL⟩]
def AN (n:Nat):j7 (Kr ⊕ Int):=λK xs ps T=>∃(ns QL:Kr)(k c QM:Int),xs=bc ns k c/\ps=DU n QM QL/\j4 ns QL n (bT n) k c/\0<c/\T=λxs'=>bN K aH λy=>xs'=bc ns (Q8 ns QL (cZ ns QL n) QM (k,c)).2.1 (Q8 ns QL (cZ ns QL n) QM (k,c)).2.2/\y=eJ (Q8 ns QL (cZ ns QL n) QM (k,c)).1
def Fm (n:Nat):j7 (Kr ⊕ Int):=λK xs ps T=>∃(ns QL:Kr)(k c QM:Int),xs=bc ns k c/\ps=DU n QM QL/\j4 ns QL n (iW n) k c/\T=λxs'=>bN K (af aH) λy=>xs'=bc ns (QW ns QL n (decide (n=4)) QM (k,c)).2.1 (QW ns QL n (decide (n=4)) QM (k,c)).2.2/\y=bF (QW ns QL n (decide (n=4)) QM (k,c)).1
variable {L:Int->Pn->List Th×Pn}
section
variable {sub:Option (Int->Pn->List Th×Pn)}{k c:Int}
abbrev eA (ns:Kr)(k:Int):Int:=aK ns (k+1)%12
abbrev C0 (ns:Kr)(k QM:Int):Prop:=eA ns k=0/\0<QM
abbrev C2 (ns QL:Kr)(k:Int):Prop:=9<eA ns k/\0<QL.length
abbrev C3 (ns:Kr)(k c:Int):Prop:=(3<eA ns k/\eA ns k<7)/\1<c
abbrev C4 (ns:Kr)(k c:Int):Prop:=(6<eA ns k/\eA ns k<10)/\1<c
theorem xX (h:C0 ns k QM):Q8 ns QL sub QM (k,c)=(.leave,(k+2,c)):=QG h
theorem yN (h0:¬C0 ns k QM)(h:eA ns k=1):Q8 ns QL sub QM (k,c)=(.back,(k+2,c)):=by
 unfold Q8;rw[QF h0,QG h]
theorem zt (h0:¬C0 ns k QM)(h1:¬eA ns k=1)(h:C2 ns QL k):Q8 ns QL sub QM (k,c)=(.call (QL.getD (aK ns (k+3)%(QL.length:Int)).toNat 0),(k+3,c-1)):=by
 unfold Q8;rw[QF h0,QF h1,QG h]
theorem Ed (h0:¬C0 ns k QM)(h1:¬eA ns k=1)(h2:¬C2 ns QL k)(h:C3 ns k c):Q8 ns QL (some L) QM (k,c)=(.ifs (QU (aK ns (k+2))) (L QM (k+2,c-2)).1 (L QM (L QM (k+2,c-2)).2).1,(L QM (L QM (k+2,c-2)).2).2):=by
 unfold Q8;rw[QF h0,QF h1,QF h2];dsimp only;rw[QG h]
theorem CZ (h0:¬C0 ns k QM)(h1:¬eA ns k=1)(h2:¬C2 ns QL k)(h3:¬C3 ns k c)(h:C4 ns k c):Q8 ns QL (some L) QM (k,c)=(.Ry (QU (aK ns (k+2))) (L (QM+1) (k+2,c-2)).1,(L (QM+1) (k+2,c-2)).2):=by
 unfold Q8;rw[QF h0,QF h1,QF h2];dsimp only;rw[QF h3,QG h]
theorem Dh (h0:¬C0 ns k QM)(h1:¬eA ns k=1)(h2:¬C2 ns QL k)(h:∀L,sub=some L->¬C3 ns k c/\¬C4 ns k c):Q8 ns QL sub QM (k,c)=(.R8 (QU (aK ns (k+2))),(k+2,c-1)):=by
 unfold Q8;rw[QF h0,QF h1,QF h2];cases sub with
 | none=>rfl
 | some L=>dsimp only;rw[QF (h L rfl).1,QF (h L rfl).2]
end
abbrev z9:Stmt:=top pZ
abbrev nTH:Ks:=["_law_pen","_law_depth","_law_loops","_law_calls","_law_way","_law_name_here","_law_first"]
abbrev qF:Ks:=["_law_pen","_law_depth","_law_loops","_law_calls"]
theorem Cu:aZ nTH qF (ak z9):=RQ
theorem vY (M:bS K mg)(CP:aF P w K mg base "_law_pull" 2 (eE bu sU K))(CN:aF P w K mg base "_law_name" 1 (aM AI K))(n:Nat)(CL:∀m,n=m+1->aF P w K mg base "_law_list" (2*m+8) (eE bu (Fm m) K))(F:cK K "_law_thing" "_law_thing" z9 f fd)(hm:mg "_law_thing"=some (.ref f))(hb:Binds K fd qF []):aF P w K mg base "_law_thing" (2*n+7) (eE bu (AN n) K):=by
 have nd:=Cu.nd;have CP:=CP.mono (show 2<=2*n+6 by omega);have CN:=CN.mono (show 1<=2*n+6 by omega);refine rC (k:=2*n+6) F Cu hm hb (λxs qs T ⟨_,_,_,_,_,_,e,_⟩=>by rw[e];rfl) (λQP A outer s H E a xs qs T hr hS=>?_);obtain⟨ns,QL,k,c,QM,rfl,rfl,hp,c0,rfl⟩:=hS;have hb16:=AF n;have k0:=hp.k0;have k1:=hp.k1;have cl:=hp.l;have c1:=hp.c1;change WS _ _ [.ob (cz a bu (bc ns k c)),ay (4-(n:Int)),ay QM,dv QL,.no,.no,.no] _ _;refine aj (aL 4 (bR (dF 0 (st:=bc ns (k+1) c) (z:=aK ns (k+1)) CP hr au rfl ⟨ns,k,c,rfl,rfl,hp.s,k0,by omega,rfl⟩) ev_int (by decide)) ?_);change WS _ _ [.ob (cz a bu (bc ns (k+1) c)),ay (4-(n:Int)),ay QM,dv QL,ay (aK ns (k+1)%12),.no,.no] _ _;have m2:=nS ns (k+2);have e2:k+1+1=k+2:=by omega
 refine aj (aL 5 (y:=QU (aK ns (k+2))) (aB CN hr (ae (dF 0 (st:=bc ns (k+2) c) (z:=aK ns (k+2)) CP hr au rfl ⟨ns,k+1,c,rfl,rfl,hp.s,by omega,by omega,by rw[e2]⟩) au) ⟨_,rfl,m2.1,m2.2,rfl⟩) ?_);change WS _ _ [.ob (cz a bu (bc ns (k+2) c)),ay (4-(n:Int)),ay QM,dv QL,ay (aK ns (k+1)%12),.im ag (QU (aK ns (k+2))),.no] _ _;have fin:∀(k' c':Int)(t:Th)(r:Th×Pn),Q8 ns QL (cZ ns QL n) QM (k,c)=(t,(k',c'))->(λxs' (y:PV)=>xs'=bc ns (Q8 ns QL (cZ ns QL n) QM (k,c)).2.1 (Q8 ns QL (cZ ns QL n) QM (k,c)).2.2/\y=eJ (Q8 ns QL (cZ ns QL n) QM (k,c)).1) (bc ns k' c') (.lst (gU t)):=λk' c' t r h=>by rw[h];exact⟨rfl,(gJ t).symm⟩
 refine aj (aW (TW.tv (bH (aq dP (aa 4 rfl) ev_int) (λ_=>bZ (aq eX (aa 2 rfl) ev_int)))) (λh=>?_) (λh=>aQ ?_))
 ·have h:C0 ns k QM:=by simpa using h
  exact ai (gT 0 (EV.pL (aI.im (aG (r:=aH) (ao (EV.pS av) aJ) (by show 1<=Nb;decide)))) rfl (fin _ _ .leave (.leave,(k,c)) (xX h)))
 have h0:¬C0 ns k QM:=by simpa using h
 refine aj (aW (aq dP (aa 4 rfl) ev_int) (λh=>?_) (λh=>aQ ?_))
 ·have h:eA ns k=1:=QH h;exact ai (gT 0 (EV.pL (aI.im (aG (r:=aH) (ao (EV.pS av) aJ) (by show 1<=Nb;decide)))) rfl (fin _ _ .back (.leave,(k,c)) (yN h0 h)))
 have h1:¬eA ns k=1:=QI h;refine aj (aW (TW.tv (bH (aq eX (aa 4 rfl) ev_int) (λ_=>bZ (aq eX (cA M.len (aa 3 rfl)) ev_int)))) (λh=>?_) (λh=>aQ ?_))
 ·have h:C2 ns QL k:=by
   have h:9<eA ns k/\(0:Int)<(QL.length:Int):=by simpa using h
   exact⟨h.1,by omega⟩
  have hl:(0:Int)<(QL.length:Int):=by have:=h.2;omega
  refine aj (f7 0 (j:=2) (EV.inr (gQ (EV.lQ (eK 0 ev_int rfl (y:=(Sum.inr c:Kr ⊕ Int)) rfl)) ev_int)) ev_int rfl rfl rfl ?_);change WS _ _ [.ob (cz a bu (bc ns (k+2) (c-1))),ay (4-(n:Int)),ay QM,dv QL,ay (aK ns (k+1)%12),.im ag (QU (aK ns (k+2))),.no] _ _;have e3:k+2+1=k+3:=by omega
  have q0:=KR (aK ns (k+3)) (show(QL.length:Int)≠0 by omega);have q1:=KQ (aK ns (k+3)) hl;exact ai (gT 0 (EV.pL (aI.im (aG (r:=aH) (ao (EV.pS av) (ao (EV.pI (aV (aa 3 rfl) (bR (dF 0 (st:=bc ns (k+3) (c-1)) (z:=aK ns (k+3)) CP hr au rfl ⟨ns,k+2,c-1,rfl,rfl,hp.s,by omega,by omega,by rw[e3]⟩) (cA M.len (aa 3 rfl)) hl) (aT 0 q0 q1))) aJ)) (by show 2<=Nb;decide)))) rfl (fin _ _ (.call _) (.leave,(k,c)) (zt h0 h1 h)))
 have h2:¬C2 ns QL k:=by
  have h:9<eA ns k->¬(0:Int)<(QL.length:Int):=by simpa using h
  exact λ⟨x,y⟩=>h x (by omega)
 refine aj (aW (TW.tv (bH (aq eX (aa 4 rfl) ev_int) (λ_=>bH (aq fg (aa 4 rfl) ev_int) (λ_=>bH (aq fg (aa 1 rfl) ev_int) (λ_=>bZ (aq eX (EV.lQ (eK 0 ev_int rfl (y:=(Sum.inr c:Kr ⊕ Int)) rfl)) ev_int)))))) (λh=>?_) (λh=>aQ ?_))
 ·have h:3<eA ns k/\eA ns k<7/\4-(n:Int)<4/\1<c:=by simpa using h
  have h3:C3 ns k c:=⟨⟨h.1,h.2.1⟩,h.2.2.2⟩;have hc:=h.2.2.2;have hn:=h.2.2.1;obtain⟨m,rfl⟩:∃m,n=m+1:=⟨n-1,by omega⟩;have CL:=(CL m rfl).mono (show 2*m+8<=2*(m+1)+6 by omega);have n4:=hp.n4;have hf:decide (m=4)=false:=QJ (by omega);have hbd:bT (m+1)=3+2*iW m:=rfl;refine aj (f7 0 (j:=2) (EV.inr (gQ (EV.lQ (eK 0 ev_int rfl (y:=(Sum.inr c:Kr ⊕ Int)) rfl)) ev_int)) ev_int rfl rfl rfl ?_);change WS _ _ [.ob (cz a bu (bc ns (k+2) (c-2))),ay (4-((m+1:Nat):Int)),ay QM,dv QL,ay (aK ns (k+1)%12),.im ag (QU (aK ns (k+2))),.no] _ _;have p1:j4 ns QL m (iW m) (k+2) (c-2):=⟨hp.s,by omega,by omega,by omega,by omega,hp.l,by omega⟩;obtain⟨g1,g2,g3,g4⟩:=gA ns QL m false QM (k+2,c-2) (by show 0<=c-2;omega);have e1:=Ed (L:=QW ns QL m false) h0 h1 h2 h3;generalize hr1:QW ns QL m false QM (k+2,c-2)=r1 at g1 g2 g3 g4 e1;dsimp only at g2 g3;refine aj (aL 6 (dF 0 (st:=bc ns (QW ns QL m false QM (k+2,c-2)).2.1 (QW ns QL m false QM (k+2,c-2)).2.2) (z:=bF (QW ns QL m false QM (k+2,c-2)).1) CL hr (ae (EV.cast (y':=4-(m:Int)) (bg (aa 1 rfl) ev_int) (by omega)) (ae (aa 2 rfl) (ae (aa 3 rfl) au))) rfl ⟨ns,QL,_,_,QM,rfl,rfl,p1,by rw[hf]⟩) ?_);rw[hr1];change WS _ _ [.ob (cz a bu (bc ns r1.2.1 r1.2.2)),ay (4-((m+1:Nat):Int)),ay QM,dv QL,ay (aK ns (k+1)%12),.im ag (QU (aK ns (k+2))),.im (af aH) (bF r1.1)] _ _;have p2:j4 ns QL m (iW m) r1.2.1 r1.2.2:=⟨hp.s,by omega,by omega,by omega,by omega,hp.l,by omega⟩;exact ai (gT 0 (EV.pL (aI.im (aG (r:=aH) (ao (EV.pS av) (ao (EV.pS (aa 5 rfl)) (ao (EV.pL (aa 6 rfl)) (ao (EV.pL (dF 0 (st:=bc ns (QW ns QL m false QM r1.2).2.1 (QW ns QL m false QM r1.2).2.2) (z:=bF (QW ns QL m false QM r1.2).1) CL hr (ae (EV.cast (y':=4-(m:Int)) (bg (aa 1 rfl) ev_int) (by omega)) (ae (aa 2 rfl) (ae (aa 3 rfl) au))) rfl ⟨ns,QL,_,_,QM,rfl,rfl,p2,by rw[hf]⟩)) aJ)))) (by show 4<=Nb;decide)))) rfl (fin _ _ (.ifs _ _ _) (.leave,(k,c)) e1))
 have h3:n=0∨¬C3 ns k c:=by
  have h:3<eA ns k->eA ns k<7->4-(n:Int)<4->¬1<c:=by simpa using h
  by_cases z:n=0
  ·exact .inl z
  ·exact .inr λ⟨⟨x,y⟩,u⟩=>h x y (by omega) u
 refine aj (aW (TW.tv (bH (aq eX (aa 4 rfl) ev_int) (λ_=>bH (aq fg (aa 4 rfl) ev_int) (λ_=>bH (aq fg (aa 1 rfl) ev_int) (λ_=>bZ (aq eX (EV.lQ (eK 0 ev_int rfl (y:=(Sum.inr c:Kr ⊕ Int)) rfl)) ev_int)))))) (λh=>?_) (λh=>aQ ?_))
 ·have h:6<eA ns k/\eA ns k<10/\4-(n:Int)<4/\1<c:=by simpa using h
  have h4:C4 ns k c:=⟨⟨h.1,h.2.1⟩,h.2.2.2⟩;have hc:=h.2.2.2;have hn:=h.2.2.1;have h3x:¬C3 ns k c:=h3.resolve_left (by omega);obtain⟨m,rfl⟩:∃m,n=m+1:=⟨n-1,by omega⟩;have CL:=(CL m rfl).mono (show 2*m+8<=2*(m+1)+6 by omega);have n4:=hp.n4;have hf:decide (m=4)=false:=QJ (by omega);have hbd:bT (m+1)=3+2*iW m:=rfl;refine aj (f7 0 (j:=2) (EV.inr (gQ (EV.lQ (eK 0 ev_int rfl (y:=(Sum.inr c:Kr ⊕ Int)) rfl)) ev_int)) ev_int rfl rfl rfl ?_);change WS _ _ [.ob (cz a bu (bc ns (k+2) (c-2))),ay (4-((m+1:Nat):Int)),ay QM,dv QL,ay (aK ns (k+1)%12),.im ag (QU (aK ns (k+2))),.no] _ _;have p1:j4 ns QL m (iW m) (k+2) (c-2):=⟨hp.s,by omega,by omega,by omega,by omega,hp.l,by omega⟩;have e1:=CZ (L:=QW ns QL m false) h0 h1 h2 h3x h4;exact ai (gT 0 (EV.pL (aI.im (aG (r:=aH) (ao (EV.pS av) (ao (EV.pS (aa 5 rfl)) (ao (EV.pL (dF 0 (st:=bc ns (QW ns QL m false (QM+1) (k+2,c-2)).2.1 (QW ns QL m false (QM+1) (k+2,c-2)).2.2) (z:=bF (QW ns QL m false (QM+1) (k+2,c-2)).1) CL hr (ae (EV.cast (y':=4-(m:Int)) (bg (aa 1 rfl) ev_int) (by omega)) (ae (bg (aa 2 rfl) ev_int) (ae (aa 3 rfl) au))) rfl ⟨ns,QL,_,_,QM+1,rfl,rfl,p1,by rw[hf]⟩)) aJ))) (by show 3<=Nb;decide)))) rfl (fin _ _ (.Ry _ _) (.leave,(k,c)) e1))
 have h4:n=0∨¬C4 ns k c:=by
  have h:6<eA ns k->eA ns k<10->4-(n:Int)<4->¬1<c:=by simpa using h
  by_cases z:n=0
  ·exact .inl z
  ·exact .inr λ⟨⟨x,y⟩,u⟩=>h x y (by omega) u
 refine aj (f7 0 (j:=2) (EV.inr (gQ (EV.lQ (eK 0 ev_int rfl (y:=(Sum.inr c:Kr ⊕ Int)) rfl)) ev_int)) ev_int rfl rfl rfl ?_);change WS _ _ [.ob (cz a bu (bc ns (k+2) (c-1))),ay (4-(n:Int)),ay QM,dv QL,ay (aK ns (k+1)%12),.im ag (QU (aK ns (k+2))),.no] _ _;refine ai (gT 0 (EV.pL (aI.im (aG (r:=aH) (ao (EV.pS av) (ao (EV.pS (aa 5 rfl)) aJ)) (by show 2<=Nb;decide)))) rfl (fin _ _ (.R8 _) (.leave,(k,c)) (Dh h0 h1 h2 λL e=>?_)));cases n with
 | zero=>cases e
 | succ m=>exact⟨h3.resolve_left (by omega),h4.resolve_left (by omega)⟩
theorem Cy (n:Nat):iW n=1+5*bT n:=by cases n<;>rfl
theorem AG (ns QL:Kr):∀(n:Nat)(lp:Int)(s:Pn),0<s.2->n9 n (bT n) s (Q8 ns QL (cZ ns QL n) lp s)
 | 0,lp,s,h=>qW ns QL lp s h
 | n+1,lp,s,h=>qE (gA ns QL n false) lp s h
theorem tL (t:Th):mq t=decide (dI t="back"):=by cases t<;>rfl
theorem A9 (a b:List Th):bF (a++b)=bF a++bF b:=by rw[dZ,dZ,dZ,Lj]
theorem dB (a:List Th):(bF a).length=a.length:=by rw[dZ,KY]
variable {QP:Value}{A:Nh}{outer:List Env}{H:Hp}{E:XK}{T:RT}
abbrev lG:Stmt:=top qZ
abbrev E8:Ks:=["_law_pen","_law_depth","_law_loops","_law_calls","_law_items","_law_k","_law_one"]
theorem qP:aZ E8 qF (ak lG):=RQ
theorem ls_run (M:bS K mg)(CP:aF P w K mg base "_law_pull" 2 (eE bu sU K))(CA:aF P w K mg base "_law_passes" 6 (aM (xa 5) K))(CT:aF P w K mg base "_law_thing" (2*n+7) (eE bu (AN n) K)){s:M9}{a:Addr}{k c:Int}{N:Ga->Prop}(hr:br (2*n+7) (A.deeper (MW "_law_list" (ak lG) s.heap.objs.size f QP)))(hp:j4 ns QL n (iW n) k c)(SH:∀e5 e6:Ent,WS (aX c8 P w K mg base E8 "_law_list" (ak lG) f QP A outer s H E).cj ((bo lG).drop 2) [.ob (cz a bu (bc ns (QW ns QL n (decide (n=4)) QM (k,c)).2.1 (QW ns QL n (decide (n=4)) QM (k,c)).2.2)),ay (4-(n:Int)),ay QM,dv QL,.mu aH (bF (QW ns QL n (decide (n=4)) QM (k,c)).1),e5,e6] N T):
 WS (aX c8 P w K mg base E8 "_law_list" (ak lG) f QP A outer s H E).cj (bo lG) [.ob (cz a bu (bc ns k c)),ay (4-(n:Int)),ay QM,dv QL,.no,.no,.no] N T:=by
 have nd:=qP.nd;have CP:=CP.mono (show 2<=2*n+7 by omega);have CA:=CA.mono (show 6<=2*n+7 by omega);have k0:=hp.k0;have k1:=hp.k1;have c0:=hp.c0;have c1:=hp.c1;have n4:=hp.n4;have hbd:=Cy n;have b3:=AF n;rw[jD] at SH;generalize htp:decide (n=4)=tp at SH;have TR:=rX (ns:=ns) (QL:=QL) (sub:=cZ ns QL n) (n:=n) (b:=bT n) (by omega) (AG ns QL n) tp QM (k,c) c0;dsimp only at TR SH;have hmany:=uC ns tp k;generalize hx:(λi=>Q9 (fO ns QL (cZ ns QL n) tp QM) i ([],(k+1,c)))=x at TR;have hxi:∀i,Q9 (fO ns QL (cZ ns QL n) tp QM) i ([],(k+1,c))=x i:=λi=>by rw[← hx]
 have US:∀i,x (i+1)=fO ns QL (cZ ns QL n) tp QM (x i):=λi=>by rw[← hx];rfl
 have hx0:x 0=([],(k+1,c)):=by rw[← hx];rfl
 simp only[hxi] at TR SH;refine aj (cJ 4 (r:=aH) (ys:=[]) (aG aJ (MC _)) ?_);change WS _ _ [.ob (cz a bu (bc ns k c)),ay (4-(n:Int)),ay QM,dv QL,.mu aH [],.no,.no] _ _;have m0:=KR (aK ns (k+1)) (show(4:Int)≠0 by decide);have m1:=KQ (aK ns (k+1)) (show(0:Int)<4 by decide);have Uv:decide (4-(n:Int)=0)=tp:=by rw[← htp];exact decide_eq_decide.mpr ⟨λh=>by omega,λh=>by omega⟩
 have VC:(aK ns (k+1)%4+2*(if decide (4-(n:Int)=0)=true then 1 else 0)).toNat=dQ ns tp k:=by rw[Uv];rfl
 have hb2:0<=(if decide (4-(n:Int)=0)=true then(1:Int) else 0)/\(if decide (4-(n:Int)=0)=true then(1:Int) else 0)<=1:=by split<;>decide
 refine aj (cN (r:=ah) (λi Γ=>∃e5 e6,Γ=[.ob (cz a bu (bc ns (x i).2.1 (x i).2.2)),ay (4-(n:Int)),ay QM,dv QL,.mu aH (bF (x i).1),e5,e6]) (dH M.range (bg (bR (dF 0 (st:=bc ns (k+1) c) (z:=aK ns (k+1)) CP hr au rfl ⟨ns,k,c,rfl,rfl,hp.s,k0,by omega,rfl⟩) ev_int (by decide)) (xM ev_int (uz M.int (dX dP (aa 1 rfl) ev_int)) (.inl (by decide)))) ⟨by omega,by omega⟩) (bA 5) ⟨_,_,by rw[hx0];rfl⟩ (λi j Γ hj hΓ=>?_) (λΓ hΓ=>?_))
 ·obtain⟨e5,e6,rfl⟩:=hΓ;have il:=(eY hj).1;rw[VC] at il;obtain⟨rd,⟨rc,rc0⟩,⟨rk0,rk1⟩,rll⟩:=TR i;have hmul:bT n*i<=bT n*4:=Nat.mul_le_mul_left _ (by omega);have hs:=US i;generalize x i=xi at rd rc rc0 rk0 rk1 rll hs;obtain⟨QO,kk,cc⟩:=xi;dsimp only at rd rc rc0 rk0 rk1 rll ⊢;change WS _ _ [.ob (cz a bu (bc ns kk cc)),ay (4-(n:Int)),ay QM,dv QL,.mu aH (bF QO),ay j,e6] _ _;have rkk:kk+(bT n:Int)<=900000:=by push_cast at rk1;omega
  refine ai (aW (TW.tv (bH (aq eX (EV.lQ (eK 0 ev_int rfl (y:=(Sum.inr cc:Kr ⊕ Int)) rfl)) ev_int) (λ_=>bZ (TV.RO (rF (i:=4) rfl (aE (by rw[dB];omega))) (dE (aB CA hr (ae (aa 4 rfl) au) ⟨QO,rfl,by omega,rfl⟩)))))) (λh=>?_) (λh=>aQ ?_))
  ·have h:0<cc/\c6 QO=true:=by simpa using h
   have ht:=AG ns QL n QM (kk,cc) h.1;have e1:fO ns QL (cZ ns QL n) tp QM (QO,kk,cc)=if tp=true/\QO.length=0/\mq (Q8 ns QL (cZ ns QL n) QM (kk,cc)).1=true then(QO++[.R8 "back"],((Q8 ns QL (cZ ns QL n) QM (kk,cc)).2.1,(Q8 ns QL (cZ ns QL n) QM (kk,cc)).2.2-1)) else(QO++[(Q8 ns QL (cZ ns QL n) QM (kk,cc)).1],(Q8 ns QL (cZ ns QL n) QM (kk,cc)).2):=QG h;refine aj (aL 6 (dF 0 (st:=bc ns (Q8 ns QL (cZ ns QL n) QM (kk,cc)).2.1 (Q8 ns QL (cZ ns QL n) QM (kk,cc)).2.2) (z:=eJ (Q8 ns QL (cZ ns QL n) QM (kk,cc)).1) CT hr (ae (aa 1 rfl) (ae (aa 2 rfl) (ae (aa 3 rfl) au))) rfl ⟨ns,QL,kk,cc,QM,rfl,rfl,⟨hp.s,by omega,rkk,by omega,by omega,hp.l,n4⟩,h.1,rfl⟩) ?_);generalize Q8 ns QL (cZ ns QL n) QM (kk,cc)=r at ht e1;obtain⟨tt,kr,cr⟩:=r;dsimp only at e1 ⊢;change WS _ _ [.ob (cz a bu (bc ns kr cr)),ay (4-(n:Int)),ay QM,dv QL,.mu aH (bF QO),ay j,.im aH (eJ tt)] _ _;refine bO (N1:=λΓ=>∃t' c',Γ=[.ob (cz a bu (bc ns kr c')),ay (4-(n:Int)),ay QM,dv QL,.mu aH (bF QO),ay j,.im aH (eJ t')]/\fO ns QL (cZ ns QL n) tp QM (QO,kk,cc)=(QO++[t'],(kr,c'))) (aW (TW.tv (bH (aq dP (aa 1 rfl) ev_int) (λ_=>bH (aq dP (lg 4 M.len rfl) ev_int) (λ_=>bZ (aq bI (gz (aa 6 rfl)) av))))) (λh=>?_) (λh=>aQ ⟨tt,cr,rfl,?_⟩)) ?_
   ·have h:tp=true/\QO.length=0/\mq tt=true:=by
     rw[Uv,dB] at h;rw[tL];simpa using h
    refine aj (f7 0 (j:=2) (EV.inr (gQ (EV.lQ (eK 0 ev_int rfl (y:=(Sum.inr cr:Kr ⊕ Int)) rfl)) ev_int)) ev_int rfl rfl rfl ?_);change WS _ _ [.ob (cz a bu (bc ns kr (cr-1))),ay (4-(n:Int)),ay QM,dv QL,.mu aH (bF QO),ay j,.im aH (eJ tt)] _ _;refine ai (aL 6 (y:=eJ (.R8 "back")) (EV.cast (y:=.lst (gU (.R8 "back"))) (EV.pL (aI.im (aG (r:=aH) (ao (EV.pS av) (ao (EV.pS av) aJ)) (by show 2<=Nb;decide)))) (gJ _).symm) ⟨.R8 "back",cr-1,rfl,?_⟩);rw[e1,QG h]
   ·have h:¬(tp=true/\QO.length=0/\mq tt=true):=by
     rw[Uv,dB] at h;rw[tL];simpa using h
    rw[e1,QF h]
   rintro _ ⟨t',c',rfl,e2⟩;refine ai (dO 4 (aa 6 rfl) rfl rfl (ME (show _<=10 by rw[dB];omega) (by decide)) ⟨ay j,.im aH (eJ t'),?_⟩);rw[hs,e2,A9,bF,bF];rfl
  ·have h:¬(0<cc/\c6 QO=true):=by simpa using h
   refine⟨ay j,e6,?_⟩;rw[hs,show fO ns QL (cZ ns QL n) tp QM (QO,kk,cc)=(QO,kk,cc) from QF h]
 ·obtain⟨e5,e6,rfl⟩:=hΓ;rw[bK,VC];exact SH e5 e6
theorem wN (M:bS K mg)(CP:aF P w K mg base "_law_pull" 2 (eE bu sU K))(CA:aF P w K mg base "_law_passes" 6 (aM (xa 5) K))(CT:aF P w K mg base "_law_thing" (2*n+7) (eE bu (AN n) K))(F:cK K "_law_list" "_law_list" lG f fd)(hm:mg "_law_list"=some (.ref f))(hb:Binds K fd qF []):aF P w K mg base "_law_list" (2*n+8) (eE bu (Fm n) K):=by
 have nd:=qP.nd;refine rC (k:=2*n+7) F qP hm hb (λxs qs T ⟨_,_,_,_,_,_,e,_⟩=>by rw[e];rfl) (λQP A outer s H E a xs qs T hr hS=>?_);obtain⟨ns,QL,k,c,QM,rfl,rfl,hp,rfl⟩:=hS;refine ls_run M CP CA CT hr hp λe5 e6=>?_;have g:=gA ns QL n (decide (n=4)) QM (k,c) hp.c0;refine WS.freeze 4 rfl (aE (by rw[dB];exact Mz g.l (by decide))) ?_;exact ai (gT 0 (aa 4 rfl) rfl ⟨rfl,rfl⟩)
theorem Ag (M:bS K mg)(CP:aF P w K mg base "_law_pull" 2 (eE bu sU K))(CN:aF P w K mg base "_law_name" 1 (aM AI K))(CA:aF P w K mg base "_law_passes" 6 (aM (xa 5) K)){f2:Addr}{fd2:Nm}(F:cK K "_law_list" "_law_list" lG f fd)(hm:mg "_law_list"=some (.ref f))(hb:Binds K fd qF [])(F2:cK K "_law_thing" "_law_thing" z9 f2 fd2)(Tv:mg "_law_thing"=some (.ref f2))(hb2:Binds K fd2 qF []):∀n,aF P w K mg base "_law_list" (2*n+8) (eE bu (Fm n) K)
 | 0=>wN M CP CA (vY M CP CN 0 (λm h=>QE h (by omega)) F2 Tv hb2) F hm hb
 | n+1=>wN M CP CA (vY M CP CN (n+1) (λm h=>by cases h;exact Ag M CP CN CA F hm hb F2 Tv hb2 n) F2 Tv hb2) F hm hb
def Jq:j7 (Kr ⊕ Int):=λK xs ps T=>∃(ns QL:Kr)(k c:Int),xs=bc ns k c/\ps=DU 4 0 QL/\j4 ns QL 4 (iW 4) k c/\T=λxs'=>F4 K aH λys=>xs'=bc ns (QW ns QL 4 true 0 (k,c)).2.1 (QW ns QL 4 true 0 (k,c)).2.2/\ys=bF (QW ns QL 4 true 0 (k,c)).1
theorem G8 (M:bS K mg)(CP:aF P w K mg base "_law_pull" 2 (eE bu sU K))(CA:aF P w K mg base "_law_passes" 6 (aM (xa 5) K))(CT:aF P w K mg base "_law_thing" 15 (eE bu (AN 4) K))(Df:Def K mg "_law_list" lG qF):aF P w K mg base "_law_list" 16 (eE bu Jq K):=by
 have nd:=qP.nd;refine um (Sc:=qP) (k:=15) Df (λf QP A outer s H E a xs qs T _ hr hS=>?_);obtain⟨ns,QL,k,c,rfl,rfl,hp,rfl⟩:=hS;refine ls_run (n:=4) M CP CA CT hr hp λe5 e6=>?_;have g:=gA ns QL 4 true 0 (k,c) hp.c0;exact ai (BM 0 4 rfl rfl (aE (by rw[dB];exact Mz g.l (by decide))) ⟨rfl,rfl⟩)
variable {QK:Ks}{α:Type}
def g9 (QK:Ks)(x c:Str):Str:=if x∈QK then fh x++c else x
abbrev jd:Str:="qwer"
def qO (QK:Ks)(x:Str):Str:=(ee jd).foldl (g9 QK) x
def cG (ns:Kr)(s:Int):Nat->Ks
 | 0=>[]
 | i+1=>cG ns s i++[qO (cG ns s i) (QU (aK ns (s+2+(i:Int))))]
def Rl (ns:Kr)(s:Int):Int:=1+aK ns (s+1)%4
def cH (m:Int):Int:=([14,12,8,6]:Kr).getD (m-1).toNat 0
def dN (i:Nat)(m:Int):Kr:=ups ((i:Int)+1) (m-((i:Int)+1)).toNat
def QV (ns:Kr)(m k:Int):Nat->List (List Th)×Int
 | 0=>([],k)
 | i+1=>((QV ns m k i).1++[(QW ns (dN i m) 4 true 0 ((QV ns m k i).2,cH m)).1],(QW ns (dN i m) 4 true 0 ((QV ns m k i).2,cH m)).2.1)
def Tp (ns:Kr)(k:Int)(j:Nat):Nat:=(aK ns (k+1)%(j:Int)).toNat
def lW (ns:Kr)(x:List (List Th)×Int)(j:Nat):List (List Th)×Int:=
 (x.1.set (Tp ns x.2 j) (cb (aK ns (x.2+2)%((x.1.getD (Tp ns x.2 j) []).length:Int)).toNat (.call (j:Int)) (x.1.getD (Tp ns x.2 j) [])),x.2+2)
def Ra (ns:Kr)(x:List (List Th)×Int):Nat->List (List Th)×Int
 | 0=>x
 | i+1=>lW ns (Ra ns x i) (i+1)
def Rm (ns:Kr)(s:Int):Ks:=cG ns s (Rl ns s).toNat
def RH (ns:Kr)(s:Int):List (List Th):=(Ra ns (QV ns (Rl ns s) (s+1+Rl ns s) (Rl ns s).toNat) (Rl ns s-1).toNat).1
theorem uA (ns:Kr)(s:Int):1<=Rl ns s/\Rl ns s<=4:=by
 unfold Rl;have:=KR (aK ns (s+1)) (show(4:Int)≠0 by decide);have:=KQ (aK ns (s+1)) (show(0:Int)<4 by decide);omega
theorem wu {m:Int}(h1:1<=m)(h4:m<=4):6<=cH m/\cH m<=14:=by
 have:∀j:Fin 4,6<=([14,12,8,6]:Kr).getD j.val 0/\([14,12,8,6]:Kr).getD j.val 0<=14:=by decide
 exact this ⟨(m-1).toNat,by omega⟩
theorem rV (x:Str):(fh x).length<=7:=by
 unfold fh;show(List.take 7 x.cps.toList).toArray.size<=7;rw[K6,Lc];omega
theorem zO (h:c∈(fh x).cps.toList):c∈x.cps.toList:=by
 unfold fh at h;have:c∈List.take 7 x.cps.toList:=by simpa using h
 exact L3 this
theorem om {c:Str}(h:c∈ee jd):dg c/\c.length=1:=by
 have:∀c∈ee jd,((1<=c.length/\c.length<=8)/\∀d∈c.cps.toList,97<=d/\d<=122)/\c.length=1:=by decide +kernel
 obtain⟨⟨⟨a,b⟩,d⟩,e⟩:=this c h;exact⟨⟨a,b,d⟩,e⟩
theorem Du {c:Str}(hx:dg x)(hc:dg c/\c.length=1):dg (g9 QK x c):=by
 unfold g9;split
 ·refine⟨?_,?_,λd hd=>?_⟩
  ·rw[len_app,hc.2];omega
  ·rw[len_app,hc.2];have:=rV x;omega
  ·rcases n5 hd with z | z
   ·exact hx.az d (zO z)
   ·exact hc.1.az d z
 ·exact hx
theorem kS {QK:Ks}:∀{cs:Ks}{x:Str},dg x->(∀c∈cs,dg c/\c.length=1)->dg (cs.foldl (g9 QK) x)
 | [],_,hx,_=>hx
 | c::cs,x,hx,h=>kS (cs:=cs) (x:=g9 QK x c) (Du hx (h c K4)) λd hd=>h d (K0 _ hd)
theorem DM (hx:dg x):dg (qO QK x):=kS hx λc hc=>om hc
theorem jC (ns:Kr)(s:Int):∀i,(cG ns s i).length=i
 | 0=>rfl
 | i+1=>by rw[cG,K3,jC ns s i];rfl
theorem yk (ns:Kr)(s:Int):∀i,∀x∈cG ns s i,dg x
 | 0,x,h=>by cases h
 | i+1,x,h=>by
   rw[cG] at h;rcases Lf.mp h with z | z
   ·exact yk ns s i x z
   ·rw[KZ.mp z];exact DM (gf _)
theorem jk (ns:Kr)(m k:Int):∀i,(QV ns m k i).1.length=i
 | 0=>rfl
 | i+1=>by rw[QV,K3,jk ns m k i];rfl
theorem JS:iW 4=177776:=rfl
theorem AD (ns:Kr)(m k:Int)(hb:0<=cH m):∀i:Nat,k<=(QV ns m k i).2/\(QV ns m k i).2<=k+177776*(i:Int)
 | 0=>⟨KU _,by show k<=_;omega⟩
 | i+1=>by
   obtain⟨a,b⟩:=AD ns m k hb i;obtain⟨c,d⟩:=(gA ns (dN i m) 4 true 0 ((QV ns m k i).2,cH m) hb).k;rw[JS] at d;dsimp only at c d;rw[QV];dsimp only;exact⟨by omega,by push_cast;omega⟩
theorem Cv (ns QL:Kr)(c k:Int)(hc:0<c):0<(QW ns QL 4 true 0 (k,c)).1.length:=by
 rw[jD];have hm:2<=dQ ns true k:=by
  unfold dQ;have:=KR (aK ns (k+1)) (show(4:Int)≠0 by decide);simp;omega
 have key:∀(f:List Th×Pn->List Th×Pn)(x:List Th×Pn),(∀y,y.1.length<=(f y).1.length)->0<(f x).1.length->∀m,1<=m->0<(Q9 f m x).1.length:=by
  intro f x h1 h2 m
  induction m with
  | zero=>intro h;omega
  | succ m ih=>
    intro _;rw[Q9];cases m with
    | zero=>exact h2
    | succ m=>exact MA (ih (by omega)) (h1 _)
 refine key _ _ (λy=>?_) ?_ _ (show 1<=dQ ns true k by omega)
 ·unfold fO;split
  ·split<;>simp
  ·exact My _
 ·unfold fO;rw[QG ⟨hc,by simp[c6]⟩];split<;>simp
theorem yi (ns:Kr)(m k:Int)(hb:0<cH m):∀i,∀L∈(QV ns m k i).1,0<L.length/\L.length<=5
 | 0,L,h=>by cases h
 | i+1,L,h=>by
   rw[QV] at h;rcases Lf.mp h with z | z
   ·exact yi ns m k hb i L z
   ·rw[KZ.mp z];exact⟨Cv ns _ _ _ hb,(gA ns (dN i m) 4 true 0 ((QV ns m k i).2,cH m) (Int.le_of_lt hb)).l⟩
theorem w9 (k:Nat)(y:α)(xs:List α):(cb k y xs).length=xs.length+1:=by
 unfold cb;rw[K3,Lg,Lc,Lv];omega
theorem mem_set {l:List α}{x y:α}(h:y∈l.set i x):y∈l∨y=x:=List.mem_or_eq_of_mem_set h
theorem tP (ns:Kr)(x:List (List Th)×Int)(hx:∀L∈x.1,0<L.length/\L.length<=5):∀i,(Ra ns x i).1.length=x.1.length/\(Ra ns x i).2=x.2+2*(i:Int)/\∀L∈(Ra ns x i).1,0<L.length/\L.length<=5+i
 | 0=>⟨rfl,by show x.2=_;omega,λL h=>⟨(hx L h).1,(hx L h).2⟩⟩
 | i+1=>by
   obtain⟨a,b,c⟩:=tP ns x hx i;rw[Ra];refine⟨by unfold lW;dsimp only;rw[LC];exact a,by unfold lW;dsimp only;rw[b];push_cast;omega,λL h=>?_⟩;unfold lW at h;dsimp only at h;rcases mem_set h with z | z
   ·have:=c L z;omega
   ·rw[z,w9];generalize hn:Tp ns (Ra ns x i).2 (i+1)=n;refine⟨by omega,?_⟩;rw[K5];cases e:(Ra ns x i).1[n]? with
    | none=>show 0+1<=_;omega
    | some L'=>
      have:=(c L' (K7 e)).2;show L'.length+1<=_;omega
abbrev EI:Stmt:=top pO
abbrev nDR:Ks:=["_law_script","_law_start","_law_pen","_law_many","_law_names","_law_k","_law_name_here","_law_letter","_law_lists","_law_items"]
theorem FN:aZ nDR ["_law_script","_law_start"] (ak EI):=RQ
def IA:cE:=λK ps T=>∃(ns:Kr)(s:Int),ps=[⟨bM,ns⟩,⟨ah,s⟩]/\uN ns/\0<=s/\s<=1000/\T=bN K (dh (af ag) (af (af aH))) (· =(Rm ns s,(RH ns s).map bF))
theorem D1 {R:Hp}{vs:List V}{k c:Int}{ts:List Th}(h1:PySem.Paired (bu.R K R) vs (bc ns k c))(h2:PySem.Paired (aH.R K R) vs (bF ts)):False:=by
 cases h1 with
 | cons a1 t1=>cases t1 with
   | cons a2 t2=>
     have e2:_=V.int k:=a2;subst e2;cases ts with
     | nil=>rw[bF] at h2;cases h2
     | cons x ts=>rw[bF] at h2;cases h2 with
       | cons b1 u1=>cases ts with
         | nil=>rw[bF] at u1;cases u1
         | cons y ts=>rw[bF] at u1;cases u1 with
           | cons b2 u2=>
             have b2:gF R (.int k) (eJ y):=b2;rw[gJ] at b2;cases b2
theorem G1 (M:bS K mg)(CP:aF P w K mg base "_law_pull" 2 (eE bu sU K))(CN:aF P w K mg base "_law_name" 1 (aM AI K))(CL:aF P w K mg base "_law_list" 16 (eE bu Jq K))(F:cK K "_law_drawn" "_law_drawn" EI f fd)(hm:mg "_law_drawn"=some (.ref f))(hb:Binds K fd ["_law_script","_law_start"] []):aF P w K mg base "_law_drawn" 17 (aM IA K):=by
 have nd:=FN.nd;have CP:=CP.mono (show 2<=16 by decide);have CN:=CN.mono (show 1<=16 by decide);refine e8 (k:=16) F FN hm hb (λqs T ⟨_,_,e,_⟩=>by rw[e];rfl) (λQP A outer st H E qs T hr hS=>?_);obtain⟨ns,s,rfl,hs,s0,s1,rfl⟩:=hS;obtain⟨m1,m4⟩:=uA ns s;change WS _ _ [.im bM ns,ay s,.no,.no,.no,.no,.no,.no,.no,.no] _ _;refine aj (cJ 2 (r:=bu) (ys:=bc ns s 0) (aG (ao (EV.inl (aa 0 rfl)) (ao (EV.inr (aa 1 rfl)) (ao (EV.inr ev_int) aJ))) (by show 3<=Nb;decide)) ?_);change WS _ _ [.im bM ns,ay s,.mu bu (bc ns s 0),.no,.no,.no,.no,.no,.no,.no] _ _;refine aj (aL 3 (y:=Rl ns s) (bg ev_int (bR (iQ 2 (st:=bc ns (s+1) 0) (z:=aK ns (s+1)) CP hr au rfl rfl ⟨ns,s,0,rfl,rfl,hs,s0,by omega,rfl⟩) ev_int (by decide))) ?_);generalize hM:Rl ns s=m at m1 m4;change WS _ _ [.im bM ns,ay s,.mu bu (bc ns (s+1) 0),ay m,.no,.no,.no,.no,.no,.no] _ _;refine aj (cJ 4 (r:=ag) (ys:=[]) (aG aJ (MC _)) ?_);refine bO (N1:=λΓ=>∃e5 e6 e7,Γ=[.im bM ns,ay s,.mu bu (bc ns (s+1+m) 0),ay m,.mu ag (Rm ns s),e5,e6,e7,.no,.no]) (cN (λi Γ=>∃e5 e6 e7,Γ=[.im bM ns,ay s,.mu bu (bc ns (s+1+(i:Int)) 0),ay m,.mu ag (cG ns s i),e5,e6,e7,.no,.no]) (dH M.range (aa 3 rfl) ⟨by omega,by omega⟩) (bA 5) ⟨_,_,_,by rw[show s+1+((0:Nat):Int)=s+1 from Int.add_zero _];rfl⟩ (λi j Γ hj hΓ=>?_) (λΓ hΓ=>?_)) ?_
 ·obtain⟨e5,e6,e7,rfl⟩:=hΓ;obtain⟨jl,ej⟩:=eY hj;obtain rfl:j=(i:Int):=by omega
  have b:=nS ns (s+1+(i:Int)+1);change WS _ _ [.im bM ns,ay s,.mu bu (bc ns (s+1+(i:Int)) 0),ay m,.mu ag (cG ns s i),ay (i:Int),e6,e7,.no,.no] _ _;refine aj (aL 6 (y:=QU (aK ns (s+1+(i:Int)+1))) (aB CN hr (ae (iQ 2 (st:=bc ns (s+1+(i:Int)+1) 0) (z:=aK ns (s+1+(i:Int)+1)) CP hr au rfl rfl ⟨ns,_,0,rfl,rfl,hs,by omega,by omega,rfl⟩) au) ⟨_,rfl,b.1,b.2,rfl⟩) ?_);have hx:=gf (aK ns (s+1+(i:Int)+1));have he:s+1+(i:Int)+1=s+2+(i:Int):=by omega
  have Ue:cG ns s (i+1)=cG ns s i++[qO (cG ns s i) (QU (aK ns (s+1+(i:Int)+1)))]:=by rw[cG,he]
  generalize QU (aK ns (s+1+(i:Int)+1))=x at hx Ue;have hlen:=jC ns s i;change WS _ _ [.im bM ns,ay s,.mu bu (bc ns (s+1+(i:Int)+1) 0),ay m,.mu ag (cG ns s i),ay (i:Int),.im ag x,e7,.no,.no] _ _;have VN:∀n,dg (((ee jd).take n).foldl (g9 (cG ns s i)) x):=λn=>kS hx λc hc=>om (L3 hc);refine bO (N1:=λΓ=>∃e7,Γ=[.im bM ns,ay s,.mu bu (bc ns (s+1+(i:Int)+1) 0),ay m,.mu ag (cG ns s i),ay (i:Int),.im ag (qO (cG ns s i) x),e7,.no,.no]) (cN (λn Γ=>∃e7,Γ=[.im bM ns,ay s,.mu bu (bc ns (s+1+(i:Int)+1) 0),ay m,.mu ag (cG ns s i),ay (i:Int),.im ag (((ee jd).take n).foldl (g9 (cG ns s i)) x),e7,.no,.no]) (r8 (x:=jd) av (by decide +kernel) (by decide +kernel)) (bA 7) ⟨_,rfl⟩ (λn c Γ hc hΓ=>?_) (λΓ hΓ=>?_)) ?_
  ·obtain⟨e7,rfl⟩:=hΓ;have hf:=VN n;have RN:((ee jd).take (n+1)).foldl (g9 (cG ns s i)) x=g9 (cG ns s i) (((ee jd).take n).foldl (g9 (cG ns s i)) x) c:=by
    rw[Lw,hc,LV];rfl
   rw[RN];generalize ((ee jd).take n).foldl (g9 (cG ns s i)) x=z at hf;have cl:=(om (K7 hc)).2;change WS _ _ [.im bM ns,ay s,.mu bu (bc ns (s+1+(i:Int)+1) 0),ay m,.mu ag (cG ns s i),ay (i:Int),.im ag z,.im ag c,.no,.no] _ _;refine ai (aW (TV.RO (rF (i:=4) rfl (aE (by rw[hlen];omega))) (aq nr (aa 6 rfl) (aa 4 rfl))) (λh=>?_) (λh=>aQ ⟨.im ag c,?_⟩))
   ·have h:z∈cG ns s i:=QH h;refine ai (aL 6 (y:=g9 (cG ns s i) z c) (EV.cast (oi (C1 (aa 6 rfl) hf.l8) (aa 7 rfl) (Mz (show _<=8 by have:=rV z;omega) (by decide))) (by unfold g9;rw[QG h])) ⟨.im ag c,rfl⟩)
   ·have h:¬z∈cG ns s i:=QI h;unfold g9;rw[QF h]
  ·obtain⟨e7,rfl⟩:=hΓ;refine⟨e7,?_⟩;rw[LA];rfl
  rintro _ ⟨e7,rfl⟩;refine ai (dO 4 (aa 6 rfl) rfl rfl (ME (show _<=10 by rw[hlen];omega) (by decide)) ⟨ay (i:Int),.im ag (qO (cG ns s i) x),e7,?_⟩);rw[Ue,show s+1+((i+1:Nat):Int)=s+1+(i:Int)+1 by push_cast;omega];rfl
 ·obtain⟨e5,e6,e7,rfl⟩:=hΓ;rw[bK];refine⟨e5,e6,e7,?_⟩;unfold Rm;rw[hM,show((m.toNat:Nat):Int)=m by omega]
 rintro _ ⟨e5,e6,e7,rfl⟩;have hdN:(Rm ns s).length<=4:=by unfold Rm;rw[jC,hM];omega
 generalize hdn:Rm ns s=dn at hdN;obtain⟨b6,b14⟩:=wu m1 m4;refine aj (cJ 8 (r:=aH) (ys:=[]) (aG aJ (MC _)) ?_);refine WS.Gp 8 (r:=aH) (rr:=aH) rfl λa=>?_;change WS _ _ [.im bM ns,ay s,.mu bu (bc ns (s+1+m) 0),ay m,.mu ag dn,e5,e6,e7,.ob (eh aH a [] []),.no] _ _;have kb:=AD ns m (s+1+m) (by omega);refine bO (N1:=λΓ=>∃e5 c as,Γ=[.im bM ns,ay s,.mu bu (bc ns (QV ns m (s+1+m) m.toNat).2 c),ay m,.mu ag dn,e5,e6,e7,.ob (eh aH a as ((QV ns m (s+1+m) m.toNat).1.map bF)),.no]) (cN (λi Γ=>∃e5 c as,Γ=[.im bM ns,ay s,.mu bu (bc ns (QV ns m (s+1+m) i).2 c),ay m,.mu ag dn,e5,e6,e7,.ob (eh aH a as ((QV ns m (s+1+m) i).1.map bF)),.no]) (dH M.range (aa 3 rfl) ⟨by omega,by omega⟩) (bA 5) ⟨_,_,_,rfl⟩ (λi j Γ hj hΓ=>?_) (λΓ hΓ=>?_)) ?_
 ·obtain⟨e5,c,as,rfl⟩:=hΓ;obtain⟨jl,ej⟩:=eY hj;obtain rfl:j=(i:Int):=by omega
  obtain⟨k0,k1⟩:=kb i;have hl:=jk ns m (s+1+m) i;have Su:QV ns m (s+1+m) (i+1)=((QV ns m (s+1+m) i).1++[(QW ns (dN i m) 4 true 0 ((QV ns m (s+1+m) i).2,cH m)).1],(QW ns (dN i m) 4 true 0 ((QV ns m (s+1+m) i).2,cH m)).2.1):=rfl;generalize QV ns m (s+1+m) i=x at k0 k1 hl Su;rw[Su];obtain⟨Ls,k⟩:=x;dsimp only at k0 k1 hl ⊢;change WS _ _ [.im bM ns,ay s,.mu bu (bc ns k c),ay m,.mu ag dn,ay (i:Int),e6,e7,.ob (eh aH a as (Ls.map bF)),.no] _ _;have hbud:cq ([14,12,8,6]:Kr) (m-1)=some (cH m):=aT 0 (by omega) (by show m-1<((4:Nat):Int);omega);refine aj (ow 2 (j:=2) (EV.inr (aV (aI.im (aG (r:=ah) (ao ev_int (ao ev_int (ao ev_int (ao ev_int aJ)))) (by show 4<=Nb;decide))) (gQ (aa 3 rfl) ev_int) hbud)) ev_int rfl rfl rfl ?_);change WS _ _ [.im bM ns,ay s,.mu bu (bc ns k (cH m)),ay m,.mu ag dn,ay (i:Int),e6,e7,.ob (eh aH a as (Ls.map bF)),.no] _ _;have U2:(dN i m).length<=100:=by unfold dN;rw[bK];omega
  refine ai (vT 8 (ys:=bF (QW ns (dN i m) 4 true 0 (k,cH m)).1) (xv 2 (st:=bc ns (QW ns (dN i m) 4 true 0 (k,cH m)).2.1 (QW ns (dN i m) 4 true 0 (k,cH m)).2.2) CL hr (ae ev_int (ae ev_int (ae (aI.im (oo M.list M.range (ae (bg (aa 5 rfl) ev_int) (ae (aa 3 rfl) au)) ⟨by omega,by omega⟩ ⟨by omega,by omega⟩)) au))) rfl rfl ⟨ns,dN i m,k,cH m,rfl,rfl,⟨hs,by omega,show k+((177776:Nat):Int)<=900000 by omega,by omega,by omega,U2,by decide⟩,rfl⟩ (λR vs h1 h2=>D1 h1 h2)) rfl rfl (ME (show _<=10 by rw[KY,hl];omega) (by decide)) λb=>⟨ay (i:Int),(QW ns (dN i m) 4 true 0 (k,cH m)).2.2,as++[b],?_⟩);rw[Lj];rfl
 ·obtain⟨e5,c,as,rfl⟩:=hΓ;rw[bK];exact⟨e5,c,as,rfl⟩
 rintro _ ⟨e5,c,as,rfl⟩;have Q5:=yi ns m (s+1+m) (by omega) m.toNat;have hxl:=jk ns m (s+1+m) m.toNat;obtain⟨k0,k1⟩:=kb m.toNat;have UK:RH ns s=(Ra ns (QV ns m (s+1+m) m.toNat) (m-1).toNat).1:=by unfold RH;rw[hM]
 generalize QV ns m (s+1+m) m.toNat=x at Q5 hxl k0 k1 UK;have hinv:=tP ns x Q5;refine bO (N1:=λΓ=>∃e5 e9 k as,Γ=[.im bM ns,ay s,.mu bu (bc ns k c),ay m,.mu ag dn,e5,e6,e7,.ob (eh aH a as ((RH ns s).map bF)),e9]) (cN (λi Γ=>∃e5 e9 as,Γ=[.im bM ns,ay s,.mu bu (bc ns (Ra ns x i).2 c),ay m,.mu ag dn,e5,e6,e7,.ob (eh aH a as ((Ra ns x i).1.map bF)),e9]) (wQ M.range ev_int (aa 3 rfl) ⟨by omega,by omega,by omega,by omega⟩) (bA 5) ⟨_,_,_,rfl⟩ (λi j Γ hj hΓ=>?_) (λΓ hΓ=>?_)) ?_
 ·obtain⟨e5,e9,as,rfl⟩:=hΓ;obtain⟨jl,ej⟩:=eY hj;obtain rfl:j=((i+1:Nat):Int):=by push_cast;omega
  obtain⟨i1,i2,i3⟩:=hinv i;have Su:Ra ns x (i+1)=lW ns (Ra ns x i) (i+1):=rfl;rw[Su];generalize Ra ns x i=y at i1 i2 i3;obtain⟨Ls,k⟩:=y;dsimp only at i1 i2 i3;unfold lW;dsimp only;change WS _ _ [.im bM ns,ay s,.mu bu (bc ns k c),ay m,.mu ag dn,ay ((i+1:Nat):Int),e6,e7,.ob (eh aH a as (Ls.map bF)),e9] _ _;have q0:=KR (aK ns (k+1)) (show((i+1:Nat):Int)≠0 by omega);have q1:=KQ (aK ns (k+1)) (show(0:Int)<((i+1:Nat):Int) by omega);have RG:Tp ns k (i+1)<Ls.length:=by unfold Tp;omega
  have hix:eT (Ls.map bF).length (aK ns (k+1)%((i+1:Nat):Int))=some (Tp ns k (i+1)):=xc q0 (by rw[KY];omega);refine aj (A8 8 9 (bR (iQ 2 (st:=bc ns (k+1) c) (z:=aK ns (k+1)) CP hr au rfl rfl ⟨ns,k,c,rfl,rfl,hs,by omega,by omega,rfl⟩) (aa 5 rfl) (by omega)) rfl rfl hix λb hb=>?_);generalize Tp ns k (i+1)=n at RG hb;change WS _ _ [.im bM ns,ay s,.mu bu (bc ns (k+1) c),ay m,.mu ag dn,ay ((i+1:Nat):Int),e6,e7,.ob (eh aH a as (Ls.map bF)),.im nW b] _ _;have hL:Ls[n]?=some (Ls.getD n []):=by rw[K5,K2 RG];rfl
  obtain⟨l0,l5⟩:=i3 _ (K7 hL);generalize Ls.getD n []=L at hL l0 l5;have hLm:(Ls.map bF)[n]?=some (bF L):=by rw[K9,hL];rfl
  have Tw:((bF L).length:Int)=(L.length:Int):=by rw[dB]
  have r0:=KR (aK ns (k+2)) (show(L.length:Int)≠0 by omega);have r1:=KQ (aK ns (k+2)) (show(0:Int)<(L.length:Int) by omega);have e3:k+1+1=k+2:=by omega
  refine ai (Cn 8 9 (k:=aK ns (k+2)%(L.length:Int)) (y:=eJ (.call ((i+1:Nat):Int))) (bR (iQ 2 (st:=bc ns (k+2) c) (z:=aK ns (k+2)) CP hr au rfl rfl ⟨ns,k+1,c,rfl,rfl,hs,by omega,by omega,by rw[e3]⟩) (EV.cast (y9 8 9 M.len rfl rfl hb hLm) Tw) (by omega)) (EV.cast (y:=.lst (gU (.call ((i+1:Nat):Int)))) (EV.pL (aI.im (aG (r:=aH) (ao (EV.pS av) (ao (EV.pI (aa 5 rfl)) aJ)) (by show 2<=Nb;decide)))) (gJ _).symm) rfl rfl hb rfl hLm r0 (by rw[dB];omega) (ME (show _<=20 by rw[dB];omega) (by decide)) ⟨ay ((i+1:Nat):Int),.im nW b,as,?_⟩);rw[List.map_set,dZ (cb _ _ _),wB,← dZ];rfl
 ·obtain⟨e5,e9,as,rfl⟩:=hΓ;rw[bK];exact⟨e5,e9,_,as,by rw[UK]⟩
 rintro _ ⟨e5,e9,k,as,rfl⟩;obtain⟨i1,i2,i3⟩:=hinv (m-1).toNat;rw[← UK] at i1 i3;refine WS.freeze 4 rfl (aE (by omega)) ?_;refine WS.HZ 8 rfl (aE (by rw[KY];omega)) (λxs US=>?_) ?_
 ·obtain⟨L,hL,rfl⟩:=Lu.mp US;exact aE (by rw[dB];have:=(i3 L hL).2;omega)
 exact ai (aN (kW (ae (aa 4 rfl) (ae (aa 8 rfl) au))) rfl)
mutual
def dS (lo m:Int):Bool->Th->Prop
 | _,.R8 x=>dg x
 | _,.call j=>lo<j/\j<m
 | lp,.ifs x a b=>dg x/\cO lo m lp a/\cO lo m lp b
 | _,.Ry x a=>dg x/\cO lo m true a
 | lp,.leave=>lp=true
 | _,.back=>True
def cO (lo m:Int):Bool->List Th->Prop
 | _,[]=>True
 | lp,t::ts=>dS lo m lp t/\(eR t=true∨ts=[])/\cO lo m lp ts
end
section
variable {lo m:Int}{lp:Bool}
theorem iH {t:Th}:∀{a:List Th},cO lo m lp a->c6 a=true->dS lo m lp t->cO lo m lp (a++[t])
 | [],_,_,ht=>by rw[List.nil_append,cO];exact⟨ht,.inr rfl,by rw[cO];trivial⟩
 | x::a,h,hp,ht=>by
   rw[cO] at h;rw[c6,KD] at hp;rw[Mg,cO];exact⟨h.1,.inl hp.1,iH h.2.2 hp.2 ht⟩
theorem uQ {t:Th}(ht:dS lo m lp t)(hp:eR t=true):∀{k:Nat}{L:List Th},cO lo m lp L->k<L.length->cO lo m lp (cb k t L)
 | 0,L,h,_=>by show cO lo m lp (t::L);rw[cO];exact⟨ht,.inl hp,h⟩
 | k+1,[],_,hk=>by cases hk
 | k+1,x::L,h,hk=>by
   rw[cO] at h;have hk:k<L.length:=by simpa using hk
   have hx:eR x=true:=h.2.1.resolve_right λe=>by rw[e] at hk;cases hk
   show cO lo m lp (x::cb k t L);rw[cO];exact⟨h.1,.inl hx,uQ ht hp h.2.2 hk⟩
theorem uH {sub:Option (Int->Pn->List Th×Pn)}(hc:∀j∈QL,lo<j/\j<m)(Ru:∀L,sub=some L->∀lp s,0<=lp->cO lo m (decide (0<lp)) (L lp s).1)(QM:Int)(s:Pn)(hl:0<=QM):dS lo m (decide (0<QM)) (Q8 ns QL sub QM s).1:=by
 unfold Q8;split
 ·rename_i h;simp only[dS];exact decide_eq_true h.2
 split
 ·simp only[dS]
 split
 ·rename_i h;simp only[dS];have hl:(0:Int)<(QL.length:Int):=by have:=h.2;omega
  have q0:=KR (aK ns (s.1+3)) (show(QL.length:Int)≠0 by omega);have q1:=KQ (aK ns (s.1+3)) hl;have hi:(aK ns (s.1+3)%(QL.length:Int)).toNat<QL.length:=by omega
  rw[K5,K2 hi];exact hc _ (LZ hi)
 cases sub with
 | none=>simp only[dS];exact gf _
 | some L=>
   dsimp only;split
   ·simp only[dS];exact⟨gf _,Ru L rfl _ _ hl,Ru L rfl _ _ hl⟩
   split
   ·simp only[dS];have:=Ru L rfl (QM+1) (s.1+2,s.2-2) (by omega);rw[decide_eq_true (show 0<QM+1 by omega)] at this;exact⟨gf _,this⟩
   ·simp only[dS];exact gf _
theorem tZ:dg "back":=⟨by decide +kernel,by decide +kernel,by decide +kernel⟩
theorem nX {α:Type}{f:α->α}{P:α->Prop}(h:∀x,P x->P (f x)):∀n x,P x->P (Q9 f n x)
 | 0,_,hx=>hx
 | n+1,x,hx=>h _ (nX h n x hx)
theorem Be (hc:∀j∈QL,lo<j/\j<m):∀(n:Nat)(tp:Bool)(lp:Int)(s:Pn),0<=lp->cO lo m (decide (0<lp)) (QW ns QL n tp lp s).1:=by
 intro n
 induction n with
 | zero=>
   intro tp lp s hl;rw[jD];refine nX (P:=λ(x:List Th×Pn)=>cO lo m (decide (0<lp)) x.1) (λx hx=>?_) _ _ (by simp only[cO]);unfold fO;split
   ·rename_i h;split
    ·exact iH hx h.2 (by simp only[dS];exact tZ)
    ·exact iH hx h.2 (uH hc (λL e=>by cases e) lp x.2 hl)
   ·exact hx
 | succ n ih=>
   intro tp lp s hl;rw[jD];refine nX (P:=λ(x:List Th×Pn)=>cO lo m (decide (0<lp)) x.1) (λx hx=>?_) _ _ (by simp only[cO]);unfold fO;split
   ·rename_i h;split
    ·exact iH hx h.2 (by simp only[dS];exact tZ)
    ·exact iH hx h.2 (uH hc (λL e lp' s' UE=>by cases e;exact ih false lp' s' UE) lp x.2 hl)
   ·exact hx
end
section
variable {L:List Th}
def iR (L:List Th):Prop:=∃t ts,L=t::ts/\mq t=false
theorem BF (h:iR L)(t:Th):iR (L++[t]):=by
 obtain⟨x,ts,rfl,h⟩:=h;exact⟨x,ts++[t],rfl,h⟩
theorem Dp (ns QL:Kr)(c k:Int)(hc:0<c):iR (QW ns QL 4 true 0 (k,c)).1:=by
 rw[jD];have hm:2<=dQ ns true k:=by
  unfold dQ;have:=KR (aK ns (k+1)) (show(4:Int)≠0 by decide);simp;omega
 have key:∀(f:List Th×Pn->List Th×Pn)(x:List Th×Pn),(∀y,iR y.1->iR (f y).1)->iR (f x).1->∀m,1<=m->iR (Q9 f m x).1:=by
  intro f x h1 h2 m
  induction m with
  | zero=>intro h;omega
  | succ m ih=>
    intro _;rw[Q9];cases m with
    | zero=>exact h2
    | succ m=>exact h1 _ (ih (by omega))
 refine key _ _ (λy hy=>?_) ?_ _ (show 1<=dQ ns true k by omega)
 ·unfold fO;split
  ·split<;>exact BF hy _
  ·exact hy
 ·unfold fO;rw[QG ⟨hc,by simp[c6]⟩];split
  ·exact⟨_,[],rfl,rfl⟩
  ·rename_i h;refine⟨_,[],rfl,?_⟩;cases e:mq (Q8 ns QL (cZ ns QL 4) 0 ([],k+1,c).2).1 with
   | false=>rfl
   | true=>exact QE ⟨rfl,rfl,e⟩ h
def i7 (x:Str):Option Nat:=x.cps.toList.getLast?
theorem jU (x:Str)(c:Nat):i7 (x++⟨#[c]⟩)=some c:=by
 unfold i7;have e:(x++(⟨#[c]⟩:Str)).cps.toList=x.cps.toList++[c]:=by show(x.cps++ #[c]).toList=_;simp
 rw[e];simp
theorem yZ:ee jd=[⟨#[113]⟩,⟨#[119]⟩,⟨#[101]⟩,⟨#[114]⟩]:=by decide +kernel
theorem BI (hl:QK.length<=3)(x:Str):qO QK x∉QK:=by
 unfold qO;rw[yZ];simp only[List.foldl];have Q7:∀{y:Str},y∉QK->∀c,g9 QK y c=y:=λh c=>QF h;have go:∀{y:Str},y∈QK->∀c,g9 QK y c=fh y++c:=λh c=>QG h;by_cases h0:x∈QK;rotate_left
 ·rw[Q7 h0,Q7 h0,Q7 h0,Q7 h0];exact h0
 rw[go h0];generalize Ts:fh x++(⟨#[113]⟩:Str)=x1;have l1:i7 x1=some 113:=by rw[← Ts];exact jU _ _
 by_cases h1:x1∈QK;rotate_left
 ·rw[Q7 h1,Q7 h1,Q7 h1];exact h1
 rw[go h1];generalize Vn:fh x1++(⟨#[119]⟩:Str)=x2;have l2:i7 x2=some 119:=by rw[← Vn];exact jU _ _
 by_cases h2:x2∈QK;rotate_left
 ·rw[Q7 h2,Q7 h2];exact h2
 rw[go h2];generalize hx3:fh x2++(⟨#[101]⟩:Str)=x3;have l3:i7 x3=some 101:=by rw[← hx3];exact jU _ _
 by_cases h3:x3∈QK;rotate_left
 ·rw[Q7 h3];exact h3
 rw[go h3];generalize hx4:fh x3++(⟨#[114]⟩:Str)=x4;have l4:i7 x4=some 114:=by rw[← hx4];exact jU _ _
 intro h4;obtain⟨n1,b1,e1⟩:=Mf h1;obtain⟨n2,b2,e2⟩:=Mf h2;obtain⟨n3,b3,e3⟩:=Mf h3;obtain⟨n4,b4,e4⟩:=Mf h4;have ne:∀{i j:Nat}{hi:i<QK.length}{hj:j<QK.length}{y z:Str}{c d:Nat},QK[i]=y->QK[j]=z->i7 y=some c->i7 z=some d->c≠d->i≠j:=by
  intro i j hi hj y z c d e e' l l' QR z;subst z;rw[← e] at l;rw[← e',l] at l';exact QR (Option.some.inj l')
 have:=ne e1 e2 l1 l2 (by decide);have:=ne e1 e3 l1 l3 (by decide);have:=ne e1 e4 l1 l4 (by decide);have:=ne e2 e3 l2 l3 (by decide);have:=ne e2 e4 l2 l4 (by decide);have:=ne e3 e4 l3 l4 (by decide);omega
theorem xP (ns:Kr)(s:Int):∀i,i<=4->(cG ns s i).Nodup
 | 0,_=>List.nodup_nil
 | i+1,h=>by
   rw[cG];exact jz (xP ns s i (by omega)) (BI (by rw[jC];omega) _)
theorem ED (i:Nat)(m:Int):∀j∈dN i m,(i:Int)<j/\j<m:=by
 intro j hj;unfold dN at hj;obtain⟨n,hn⟩:=Lz.mp hj;obtain⟨a,b⟩:=eY hn;omega
structure LsOk (m:Int)(b:Nat)(Ls:List (List Th)):Prop where
 ok:∀(p:Nat)(L:List Th),Ls[p]?=some L->cO (p:Int) m false L
 dp:∀L∈Ls,dG L<=4
 hd:∀L∈Ls,iR L
 rw:∀L∈Ls,cS L<=b
theorem wx (ns:Kr)(m k:Int)(hb:0<cH m):∀i,LsOk m (cH m).toNat (QV ns m k i).1/\((QV ns m k i).1.map cS).sum<=i*(cH m).toNat
 | 0=>⟨⟨(λp L h=>by simp[QV] at h),(λL h=>by simp[QV] at h),(λL h=>by simp[QV] at h),(λL h=>by simp[QV] at h)⟩,MC _⟩
 | i+1=>by
   obtain⟨h,hs⟩:=wx ns m k hb i;have hl:=jk ns m k i;have g:=gA ns (dN i m) 4 true 0 ((QV ns m k i).2,cH m) (Int.le_of_lt hb);have go:=Be (lo:=(i:Int)) (m:=m) (ns:=ns) (ED i m) 4 true 0 ((QV ns m k i).2,cH m) (KU 0);have gh:=Dp ns (dN i m) (cH m) (QV ns m k i).2 hb;have gr:cS (QW ns (dN i m) 4 true 0 ((QV ns m k i).2,cH m)).1<=(cH m).toNat:=by
    have:=g.c;dsimp only at this;omega
   rw[QV];dsimp only;generalize QW ns (dN i m) 4 true 0 ((QV ns m k i).2,cH m)=r at g go gh gr;generalize QV ns m k i=x at h hs hl;have mem:∀{L},L∈x.1++[r.1]->L∈x.1∨L=r.1:=λh=>(Lf.mp h).imp id KZ.mp;refine⟨⟨λp L hp=>?_,λL hL=>?_,λL hL=>?_,λL hL=>?_⟩,?_⟩
   ·rcases MG p x.1.length with z | z
    ·rw[Lr z] at hp;exact h.ok p L hp
    ·rw[Lo z] at hp;have hz:p-x.1.length=0:=by
      have:=(KW.mp hp).1;simp at this;omega
     rw[hz] at hp;have e:r.1=L:=by simpa using hp
     have ep:p=i:=by omega
     rw[← e,ep];exact go
   ·rcases mem hL with z | rfl
    ·exact h.dp L z
    ·exact g.dp
   ·rcases mem hL with z | rfl
    ·exact h.hd L z
    ·exact gh
   ·rcases mem hL with z | rfl
    ·exact h.rw L z
    ·exact gr
   ·rw[Lj,List.sum_append,Nat.add_mul];simp;omega
theorem iU (k:Nat)(y:α)(xs:List α):cb k y xs=xs.take k++y::xs.drop k:=rfl
theorem xV (k:Nat)(j:Int)(L:List Th):cS (cb k (.call j) L)=cS L+1:=by
 rw[iU,iy,cS,dq];have:=iy (L.take k) (L.drop k);rw[Mb] at this;omega
theorem Cw (k:Nat)(j:Int)(L:List Th):dG (cb k (.call j) L)=dG L:=by
 rw[iU,jt,dG,show fH (.call j)=0 by simp[fH]];have:=jt (L.take k) (L.drop k);rw[Mb] at this;omega
theorem Cm {k:Nat}{y x:Th}(h:x∈L):x∈cb k y L:=by
 rw[iU];rw[← Mb k L] at h;rcases Lf.mp h with z | z
 ·exact Lk _ z
 ·exact La _ (K0 _ z)
theorem yV {k:Nat}{y:Th}:y∈cb k y L:=by
 rw[iU];exact La _ K4
theorem Fi {k:Nat}{j:Int}(h:iR L):iR (cb k (.call j) L):=by
 obtain⟨t,ts,rfl,h⟩:=h;cases k with
 | zero=>exact⟨_,_,rfl,rfl⟩
 | succ k=>exact⟨t,cb k (.call j) ts,rfl,h⟩
theorem sum_set:∀{l:List Nat}{n a b:Nat},l[n]?=some a->(l.set n b).sum+a=l.sum+b
 | x::l,0,a,b,h=>by
   have e:x=a:=by simpa using h
   rw[List.set_cons_zero,sum_cons,sum_cons,e];omega
 | x::l,n+1,a,b,h=>by
   have:=sum_set (l:=l) (n:=n) (a:=a) (b:=b) (by simpa using h);rw[List.set_cons_succ,sum_cons,sum_cons];omega
theorem xu (ns:Kr)(x:List (List Th)×Int)(m:Int)(b:Nat)(hx:LsOk m b x.1)(hl:(x.1.length:Int)=m):∀i:Nat,(i:Int)<m->LsOk m (b+i) (Ra ns x i).1/\(Ra ns x i).1.length=x.1.length/\((Ra ns x i).1.map cS).sum=(x.1.map cS).sum+i/\∀j:Nat,1<=j->j<=i->∃L∈(Ra ns x i).1,Th.call (j:Int)∈L
 | 0,_=>⟨hx,rfl,rfl,λj h1 h2=>by omega⟩
 | i+1,hi=>by
   obtain⟨h,Tw,hs,hc⟩:=xu ns x m b hx hl i (by omega);rw[Ra];generalize Ra ns x i=y at h Tw hs hc;unfold lW;have q0:=KR (aK ns (y.2+1)) (show((i+1:Nat):Int)≠0 by omega);have q1:=KQ (aK ns (y.2+1)) (show(0:Int)<((i+1:Nat):Int) by omega);have RG:Tp ns y.2 (i+1)<=i:=by unfold Tp;omega
   generalize Tp ns y.2 (i+1)=n at RG;have hn:n<y.1.length:=by omega
   have hL:y.1[n]?=some (y.1.getD n []):=by rw[K5,K2 hn];rfl
   generalize y.1.getD n []=L at hL;have mL:=K7 hL;have l0:0<L.length:=by obtain⟨t,ts,rfl,_⟩:=h.hd L mL;simp
   have r0:=KR (aK ns (y.2+2)) (show(L.length:Int)≠0 by omega);have r1:=KQ (aK ns (y.2+2)) (show(0:Int)<(L.length:Int) by omega);have hk:(aK ns (y.2+2)%(L.length:Int)).toNat<L.length:=by omega
   dsimp only;generalize (aK ns (y.2+2)%(L.length:Int)).toNat=k at hk;refine⟨⟨λp L' hp=>?_,λL' TY=>?_,λL' TY=>?_,λL' TY=>?_⟩,by rw[LC];exact Tw,?_,λj h1 h2=>?_⟩
   ·by_cases e:p=n
    ·subst e;rw[Lb hn] at hp;cases hp
     exact uQ (by simp only[dS];omega) (by simp only[eR]) (h.ok p L hL) hk
    ·rw[Ll (MQ e)] at hp;exact h.ok p L' hp
   ·rcases mem_set TY with z | rfl
    ·exact h.dp L' z
    ·rw[Cw];exact h.dp L mL
   ·rcases mem_set TY with z | rfl
    ·exact h.hd L' z
    ·exact Fi (h.hd L mL)
   ·rcases mem_set TY with z | rfl
    ·have:=h.rw L' z;omega
    ·rw[xV];have:=h.rw L mL;omega
   ·rw[List.map_set];have:=sum_set (l:=y.1.map cS) (n:=n) (a:=cS L) (b:=cS (cb k (.call ((i+1:Nat):Int)) L)) (by rw[K9,hL];rfl);rw[xV] at this ⊢;omega
   ·have sets:∀{L':List Th},L'∈y.1->∃L2∈y.1.set n (cb k (.call ((i+1:Nat):Int)) L),∀t∈L',t∈L2:=λ{L'} TY=>by
     obtain⟨q,hq⟩:=Lz.mp TY;by_cases e:q=n
     ·subst e;rw[hL] at hq;cases hq
      exact⟨_,K7 (Lb hn),λt ht=>Cm ht⟩
     ·exact⟨L',K7 ((Ll (MQ e)).trans hq),λt ht=>ht⟩
    by_cases e:j=i+1
    ·subst e;exact⟨_,K7 (Lb hn),yV⟩
    ·obtain⟨L',TY,hj⟩:=hc j h1 (by omega);obtain⟨L2,m2,s2⟩:=sets TY;exact⟨L2,m2,s2 _ hj⟩
structure oB (xs:Ks)(Ls:List (List Th)):Prop where
 l:xs.length=Ls.length
 l1:1<=Ls.length
 l4:Ls.length<=4
 nm:∀x∈xs,dg x
 nd:xs.Nodup
 ok:∀(p:Nat)(L:List Th),Ls[p]?=some L->cO (p:Int) (Ls.length:Int) false L
 dp:∀L∈Ls,dG L<=4
 hd:∀L∈Ls,iR L
 rw:∀L∈Ls,cS L<=14
 tot:(Ls.map cS).sum<=30
 cl:∀j:Nat,1<=j->j<Ls.length->∃L∈Ls,Th.call (j:Int)∈L
theorem uE (ns:Kr)(s:Int):oB (Rm ns s) (RH ns s):=by
 obtain⟨m1,m4⟩:=uA ns s;unfold Rm RH;generalize Rl ns s=m at m1 m4;obtain⟨b6,b14⟩:=wu m1 m4;obtain⟨h,hs⟩:=wx ns m (s+1+m) (by omega) m.toNat;have hl:=jk ns m (s+1+m) m.toNat;generalize QV ns m (s+1+m) m.toNat=x at h hs hl;obtain⟨o,oll,os,oc⟩:=xu ns x m _ h (by omega) (m-1).toNat (by omega);have bm:(cH m).toNat+(m-1).toNat<=14/\m.toNat*(cH m).toNat+(m-1).toNat<=30:=by
  have:∀j:Fin 4,(cH ((j.val:Int)+1)).toNat+j.val<=14/\(j.val+1)*(cH ((j.val:Int)+1)).toNat+j.val<=30:=by decide +kernel
  have:=this ⟨(m-1).toNat,by omega⟩;dsimp only at this;rw[show(((m-1).toNat:Nat):Int)+1=m by omega,show(m-1).toNat+1=m.toNat by omega] at this;exact this
 generalize Ra ns x (m-1).toNat=y at o oll os oc;have em:((y.1.length:Nat):Int)=m:=by omega
 exact⟨by rw[jC];omega,by omega,by omega,yk ns s _,xP ns s _ (by omega),by rw[em];exact o.ok,o.dp,o.hd,λL hL=>Mz (o.rw L hL) bm.1,by omega,λj h1 h2=>oc j h1 (by omega)⟩
end
abbrev S1 (x:Str):Ks:=[x]
abbrev S2 (x y:Str):Ks:=[x,y]
mutual
def eo (QK:Ks):Th->Ks
 | .R8 x=>S2 "do" x
 | .call j=>S2 "call" (QK.getD j.toNat "")
 | .ifs x a b=>S2 "if" x++Rx QK a++S1 "else"++(Rx QK b++S1 "end")
 | .Ry x a=>S2 "while" x++Rx QK a++S1 "end"
 | .leave=>S1 "leave"
 | .back=>S1 "back"
def Rx (QK:Ks):List Th->Ks
 | []=>[]
 | t::ts=>eo QK t++Rx QK ts
end
theorem uj (QK:Ks):∀a b:List Th,Rx QK (a++b)=Rx QK a++Rx QK b
 | [],b=>by rw[Rx];rfl
 | t::a,b=>by rw[Mg,Rx,Rx,uj QK a b,LX]
theorem Bh (QK:Ks)(t:Th):Rx QK [t]=eo QK t:=by rw[Rx,Rx,Lh]
mutual
theorem Cr {QK:Ks}{lo m:Int}:∀(t:Th)(lp:Bool),dS lo m lp t->(eo QK t).length<=4*dq t+(if dq t=0 then 1 else 0)
 | .R8 x,_,_=>by simp[eo,dq]
 | .call j,_,_=>by simp[eo,dq]
 | .ifs x a b,lp,h=>by
   simp only[dS] at h;have h1:=dA (QK:=QK) a lp h.2.1;have h2:=dA (QK:=QK) b lp h.2.2;simp[eo,dq];omega
 | .Ry x a,lp,h=>by
   simp only[dS] at h;have h1:=dA (QK:=QK) a true h.2;simp[eo,dq];omega
 | .leave,_,_=>by simp[eo,dq]
 | .back,_,_=>by simp[eo,dq]
theorem dA {QK:Ks}{lo m:Int}:∀(ts:List Th)(lp:Bool),cO lo m lp ts->(Rx QK ts).length<=4*cS ts+1
 | [],_,_=>by simp[Rx]
 | t::ts,lp,h=>by
   simp only[cO] at h;have h1:=Cr (QK:=QK) t lp h.1;have h2:=dA (QK:=QK) ts lp h.2.2;rw[Rx,cS,K3];by_cases e:dq t=0
   ·rw[e,QG rfl] at h1;have hp:eR t=false:=by cases t<;>simp[dq] at e<;>simp[eR]
    have:ts=[]:=h.2.1.resolve_left (by rw[hp];decide);subst this;simp[Rx,cS];omega
   ·rw[QF e] at h1;omega
end
theorem uI {lo m:Int}{lp:Bool}{t:Th}:∀{ts:List Th},cO lo m lp ts->t∈ts->dS lo m lp t
 | s::ts,h,hm=>by
   simp only[cO] at h;rcases K8.mp hm with rfl | hm
   ·exact h.1
   ·exact uI h.2.2 hm
theorem yr {t:Th}:∀{ts:List Th},t∈ts->dq t<=cS ts
 | s::ts,h=>by
   rw[cS];rcases K8.mp h with rfl | h
   ·omega
   ·have:=yr h;omega
theorem qI {lo m:Int}{lp:Bool}:∀{ts:List Th}(i:Nat),cO lo m lp ts->cO lo m lp (ts.take i)
 | [],i,h=>by rw[take_nil];exact h
 | t::ts,0,h=>by simp only[List.take_zero,cO]
 | t::ts,i+1,h=>by
   simp only[cO] at h;rw[List.take_succ_cons,cO];exact⟨h.1,h.2.1.imp id λe=>by rw[e,take_nil],qI i h.2.2⟩
theorem BY (ts:List Th)(i:Nat):cS (ts.take i)<=cS ts:=by
 have:=iy (ts.take i) (ts.drop i);rw[Mb] at this;omega
theorem qR {i:Int}(h:EV X a Γ aH (eJ t) Γ1)(hx:cq (gU t) i=some (.str x)):EV X (.Subscript a (.Constant (.int i) j p1) pos) Γ ag x Γ1:=EV.sP (aV (EV.lP (by rw[gJ] at h;exact h)) ev_int hx)
theorem DT {i:Int}{x:Int}(h:EV X a Γ aH (eJ t) Γ1)(hx:cq (gU t) i=some (.int x)):EV X (.Subscript a (.Constant (.int i) j p1) pos) Γ ah x Γ1:=EV.iP (aV (EV.lP (by rw[gJ] at h;exact h)) ev_int hx)
variable {Ls:List (List Th)}{z:Str×List Th}{ws:Ks}
abbrev CJ:Stmt:=top pW
abbrev nWD:Ks:=["_law_items","_law_names","_law_words_here","_law_one"]
theorem zH:aZ nWD ["_law_items","_law_names"] (ak CJ):=RQ
def Jr (n:Nat):cE:=λK ps T=>∃(ts:List Th)(QK:Ks)(lo m:Int)(lp:Bool),ps=[⟨af aH,bF ts⟩,⟨af ag,QK⟩]/\dG ts<n/\cO lo m lp ts/\0<=lo/\m<=(QK.length:Int)/\cS ts<=100/\T=bN K (af ag) (· =Rx QK ts)
theorem l1 (x:Str):([x]:Ks).length<=Nb:=by show 1<=Nb;decide
theorem l2 (x y:Str):([x,y]:Ks).length<=Nb:=by show 2<=Nb;decide
theorem Gz (F:cK K "_law_words" "_law_words" CJ f fd)(hm:mg "_law_words"=some (.ref f))(hb:Binds K fd ["_law_items","_law_names"] []):∀n:Nat,aF P w K mg base "_law_words" (n+1) (aM (Jr n) K):=by
 intro n;have nd:=zH.nd
 induction n with
 | zero=>
   refine e8 F zH hm hb (λqs T ⟨_,_,_,_,_,e,_⟩=>by rw[e];rfl) (λQP A outer s H E qs T hr hS=>?_);obtain⟨ts,_,_,_,_,_,h,_⟩:=hS;exact QE h (Nat.not_lt_zero _)
 | succ n ih=>
   refine e8 F zH hm hb (λqs T ⟨_,_,_,_,_,e,_⟩=>by rw[e];rfl) (λQP A outer s H E qs T hr hS=>?_);obtain⟨ts,QK,lo,m,lp,rfl,hd,QQ,lo0,S7,hrw,rfl⟩:=hS;refine aj (cJ 2 (r:=ag) (ys:=[]) (aG aJ (MC _)) ?_);refine bO (N1:=λΓ=>∃e3,Γ=[.im (af aH) (bF ts),.im (af ag) QK,.mu ag (Rx QK ts),e3]) (cN (r:=aH) (λi Γ=>∃e3,Γ=[.im (af aH) (bF ts),.im (af ag) QK,.mu ag (Rx QK (ts.take i)),e3]) (c7 (aa 0 rfl)) (bA 3) ⟨_,rfl⟩ (λi x Γ hx hΓ=>?_) (λΓ hΓ=>?_)) ?_
   ·obtain⟨e3,rfl⟩:=hΓ;rw[dZ,K9] at hx;obtain⟨t,ht,rfl⟩:=MT.mp hx;have tm:=K7 ht;have tok:=uI QQ tm;have tdp:=sW tm;have trw:=yr tm;have wl:=dA (QK:=QK) (ts.take i) lp (qI i QQ);have wr:=BY ts i;have Su:Rx QK (ts.take (i+1))=Rx QK (ts.take i)++eo QK t:=by rw[Lw,ht,uj];rw[show(some t).toList=[t] from rfl,Bh]
    rw[Su];generalize Rx QK (ts.take i)=ws at wl;have wz:ws.length<=401:=by omega
    refine ai (aW (aq bI (gz (aa 3 rfl)) av) (λh=>?_) (λh1=>?_))
    ·have h:dI t="do":=QH h;cases t with
     | R8 x=>
       refine WS.freeze 2 rfl (aE (by omega)) ?_;refine ai (cJ 2 (ys:=ws++S2 "do" x) (ba (aa 2 rfl) (aI.im (aG (r:=ag) (ao av (ao (qR (aa 3 rfl) rfl) aJ)) (l2 _ _))) (aE (by simp;omega))) ⟨.im aH (eJ (.R8 x)),?_⟩);rw[eo];rfl
     | _=>exact QE h (by simp only[dI];decide)
    have h1:¬dI t="do":=QI h1;refine ai (aW (aq bI (gz (aa 3 rfl)) av) (λh=>?_) (λh2=>?_))
    ·have h:dI t="call":=QH h;cases t with
     | call j=>
       simp only[dS] at tok;refine WS.freeze 2 rfl (aE (by omega)) ?_;refine ai (cJ 2 (ys:=ws++S2 "call" (QK.getD j.toNat "")) (ba (aa 2 rfl) (aI.im (aG (r:=ag) (ao av (ao (aV (aa 1 rfl) (DT (aa 3 rfl) rfl) (aT (xs:=QK) (i:=j) "" (by omega) (by omega))) aJ)) (l2 _ _))) (aE (by simp;omega))) ⟨.im aH (eJ (.call j)),?_⟩);rw[eo];rfl
     | _=>exact QE h (by simp only[dI];decide)
    have h2:¬dI t="call":=QI h2;refine ai (aW (aq bI (gz (aa 3 rfl)) av) (λh=>?_) (λh3=>?_))
    ·have h:dI t="if":=QH h;cases t with
     | ifs x a b=>
       simp only[dS] at tok;rw[fH] at tdp;rw[dq] at trw;have la:=dA (QK:=QK) a lp tok.2.1;have lb:=dA (QK:=QK) b lp tok.2.2;refine WS.freeze 2 rfl (aE (by omega)) ?_;refine aj (cJ 2 (ys:=ws++S2 "if" x++Rx QK a++S1 "else") (ba (aI.im (ba (aI.im (ba (aa 2 rfl) (aI.im (aG (r:=ag) (ao av (ao (qR (aa 3 rfl) rfl) aJ)) (l2 _ _))) (aE (by simp;omega)))) (aB ih hr (ae (km (aa 3 rfl) rfl) (ae (aa 1 rfl) au)) ⟨a,QK,lo,m,lp,rfl,by omega,tok.2.1,lo0,S7,by omega,rfl⟩) (aE (by simp;omega)))) (aI.im (aG (r:=ag) (ao av aJ) (l1 _))) (aE (by simp;omega))) ?_);refine WS.freeze 2 rfl (aE (by simp;omega)) ?_;refine ai (cJ 2 (ys:=ws++S2 "if" x++Rx QK a++S1 "else"++Rx QK b++S1 "end") (ba (aI.im (ba (aa 2 rfl) (aB ih hr (ae (km (aa 3 rfl) rfl) (ae (aa 1 rfl) au)) ⟨b,QK,lo,m,lp,rfl,by omega,tok.2.2,lo0,S7,by omega,rfl⟩) (aE (by simp;omega)))) (aI.im (aG (r:=ag) (ao av aJ) (l1 _))) (aE (by simp;omega))) ⟨.im aH (eJ (.ifs x a b)),?_⟩);rw[eo];simp only[LX];rfl
     | _=>exact QE h (by simp only[dI];decide)
    have h3:¬dI t="if":=QI h3;refine ai (aW (aq bI (gz (aa 3 rfl)) av) (λh=>?_) (λh4=>?_))
    ·have h:dI t="while":=QH h;cases t with
     | Ry x a=>
       simp only[dS] at tok;rw[fH] at tdp;rw[dq] at trw;have la:=dA (QK:=QK) a true tok.2;refine WS.freeze 2 rfl (aE (by omega)) ?_;refine ai (cJ 2 (ys:=ws++S2 "while" x++Rx QK a++S1 "end") (ba (aI.im (ba (aI.im (ba (aa 2 rfl) (aI.im (aG (r:=ag) (ao av (ao (qR (aa 3 rfl) rfl) aJ)) (l2 _ _))) (aE (by simp;omega)))) (aB ih hr (ae (km (aa 3 rfl) rfl) (ae (aa 1 rfl) au)) ⟨a,QK,lo,m,true,rfl,by omega,tok.2,lo0,S7,by omega,rfl⟩) (aE (by simp;omega)))) (aI.im (aG (r:=ag) (ao av aJ) (l1 _))) (aE (by simp;omega))) ⟨.im aH (eJ (.Ry x a)),?_⟩);rw[eo];simp only[LX];rfl
     | _=>exact QE h (by simp only[dI];decide)
    have h4:¬dI t="while":=QI h4;have ew:eo QK t=[dI t]:=by
     cases t with
     | R8 x=>exact QE rfl h1
     | call x=>exact QE rfl h2
     | ifs x a b=>exact QE rfl h3
     | Ry x a=>exact QE rfl h4
     | leave=>rw[eo];rfl
     | back=>rw[eo];rfl
    rw[ew];exact ai (dO 2 (gz (aa 3 rfl)) rfl rfl (ME wz (by decide)) ⟨.im aH (eJ t),rfl⟩)
   ·obtain⟨e3,rfl⟩:=hΓ;rw[dB,LA];exact⟨e3,rfl⟩
   rintro _ ⟨e3,rfl⟩;have wl:=dA (QK:=QK) ts lp QQ;refine WS.freeze 2 rfl (aE (by omega)) ?_;exact ai (aN (aa 2 rfl) rfl)
def gE (QK:Ks)(z:Str×List Th):Ks:=S2 "part" (z.1)++Rx QK z.2++S1 "end"
def lT (QK:Ks)(Ls:List (List Th)):Ks:=(QK.zip Ls).flatMap (gE QK)
abbrev IU:Stmt:=top qB
abbrev nTX:Ks:=["_law_names","_law_lists","_law_words_here","_law_name_here","_law_items"]
def IB:cE:=λK ps T=>∃(QK:Ks)(Ls:List (List Th)),ps=[⟨af ag,QK⟩,⟨af (af aH),Ls.map bF⟩]/\oB QK Ls/\T=bN K ag (· =Str.join " " (lT QK Ls))
structure fN (w:Str):Prop where
 l:w.length<=8
 f:32∉w.cps.toList
 a:∀c∈w.cps.toList,c<128
theorem dg.wo (h:dg x):fN x:=⟨h.l8,λz=>by have:=(h.az _ z).1;omega,λc z=>by have:=(h.az _ z).2;omega⟩
theorem dU {w:Str}(h:(decide (w.length<=8)&&decide (32∉w.cps.toList)&&w.cps.toList.all λc=>decide (c<128))=true):fN w:=by
 rw[KD,KD] at h;exact⟨QH h.1.1,QH h.1.2,λc hc=>QH (LU.mp h.2 c hc)⟩
theorem Ca (h:∀x∈QK,dg x)(i:Nat):fN (QK.getD i ""):=by
 rw[K5];cases e:QK[i]? with
 | none=>exact dU (by decide +kernel)
 | some x=>exact(h x (K7 e)).wo
theorem kO {y:Str}(hx:fN x)(hy:fN y):∀w∈S2 x y,fN w:=λw hw=>by
 rcases K8.mp hw with rfl | hw
 ·exact hx
 ·rw[KZ.mp hw];exact hy
theorem jA (hx:fN x):∀w∈S1 x,fN w:=λw hw=>by rw[KZ.mp hw];exact hx
theorem dY {a b:Ks}(ha:∀w∈a,fN w)(hb:∀w∈b,fN w):∀w∈a++b,fN w:=λw hw=>(Lf.mp hw).elim (ha w) (hb w)
mutual
theorem Ee {QK:Ks}{lo m:Int}(hn:∀x∈QK,dg x):∀(t:Th)(lp:Bool),dS lo m lp t->∀w∈eo QK t,fN w
 | .R8 x,_,h=>by
   simp only[dS] at h;rw[eo];exact kO (dU (by decide +kernel)) h.wo
 | .call j,_,_=>by rw[eo];exact kO (dU (by decide +kernel)) (Ca hn _)
 | .ifs x a b,lp,h=>by
   simp only[dS] at h;rw[eo];exact dY (dY (dY (kO (dU (by decide +kernel)) h.1.wo) (kj hn a lp h.2.1)) (jA (dU (by decide +kernel)))) (dY (kj hn b lp h.2.2) (jA (dU (by decide +kernel))))
 | .Ry x a,lp,h=>by
   simp only[dS] at h;rw[eo];exact dY (dY (kO (dU (by decide +kernel)) h.1.wo) (kj hn a true h.2)) (jA (dU (by decide +kernel)))
 | .leave,_,_=>by rw[eo];exact jA (dU (by decide +kernel))
 | .back,_,_=>by rw[eo];exact jA (dU (by decide +kernel))
theorem kj {QK:Ks}{lo m:Int}(hn:∀x∈QK,dg x):∀(ts:List Th)(lp:Bool),cO lo m lp ts->∀w∈Rx QK ts,fN w
 | [],_,_=>by rw[Rx];intro w h;cases h
 | t::ts,lp,h=>by
   simp only[cO] at h;rw[Rx];exact dY (Ee hn t lp h.1) (kj hn ts lp h.2.2)
end
theorem mD (h:(QK.zip Ls)[i]?=some z):QK[i]?=some z.1/\Ls[i]?=some z.2:=by
 rw[List.getElem?_zip_eq_some] at h;exact h
theorem HN (h:oB QK Ls)(hz:z∈QK.zip Ls):(gE QK z).length<=60/\∀w∈gE QK z,fN w:=by
 obtain⟨i,hi⟩:=Lz.mp hz;obtain⟨h1,h2⟩:=mD hi;have hk:=h.ok i z.2 h2;have hl:=dA (QK:=QK) z.2 false hk;have hr:=h.rw z.2 (K7 h2);unfold gE;refine⟨by simp;omega,dY (dY (kO (dU (by decide +kernel)) (h.nm z.1 (K7 h1)).wo) (kj h.nm z.2 false hk)) (jA (dU (by decide +kernel)))⟩
theorem uw {QK:Ks}:∀{zs:List (Str×List Th)},(∀z∈zs,(gE QK z).length<=60/\∀w∈gE QK z,fN w)->(zs.flatMap (gE QK)).length<=60*zs.length/\∀w∈zs.flatMap (gE QK),fN w
 | [],_=>⟨MC _,λw h=>by cases h⟩
 | z::zs,h=>by
   obtain⟨a,b⟩:=uw (zs:=zs) λy hy=>h y (K0 _ hy);obtain⟨c,d⟩:=h z K4;rw[flatMap_cons];exact⟨by rw[K3,Lg];omega,dY d b⟩
theorem tR (h:oB QK Ls)(i:Nat):(((QK.zip Ls).take i).flatMap (gE QK)).length<=240/\∀w∈((QK.zip Ls).take i).flatMap (gE QK),fN w:=by
 obtain⟨a,b⟩:=uw (QK:=QK) (zs:=(QK.zip Ls).take i) λz hz=>HN h (L3 hz);refine⟨?_,b⟩;have:=h.l;have:=h.l4;rw[Lc,Mv] at a;omega
theorem yo (h:oB QK Ls):(lT QK Ls).length<=240/\∀w∈lT QK Ls,fN w:=by
 have:=tR h (QK.zip Ls).length;rw[LA] at this;exact this
theorem Ce (hl:ws.length<=240)(h:∀w∈ws,fN w):JoinOk " " ws=true:=by
 unfold JoinOk;rw[StrLaws.joinFits (B:=8) (λy hy=>(h y hy).l) (by rw[show(" ":Str).length=1 by decide +kernel];omega)];rfl
theorem GK (M:bS K mg)(CW:aF P w K mg base "_law_words" 6 (aM (Jr 5) K))(Df:Def K mg "_law_text" IU ["_law_names","_law_lists"]):aF P w K mg base "_law_text" 7 (aM IB K):=by
 refine bE (N:=nTX) (k:=6) Df (λf QP A outer s H E qs T nd hr hS=>?_);obtain⟨QK,Ls,rfl,hP,rfl⟩:=hS;refine aj (aL 2 (y:=([]:Ks)) (aI.im (aG (r:=ag) aJ (MC _))) ?_);refine bO (N1:=λΓ=>∃e3 e4,Γ=[.im (af ag) QK,.im (af (af aH)) (Ls.map bF),.im (af ag) (lT QK Ls),e3,e4]) (cN (λi Γ=>∃e3 e4,Γ=[.im (af ag) QK,.im (af (af aH)) (Ls.map bF),.im (af ag) (((QK.zip Ls).take i).flatMap (gE QK)),e3,e4]) (DX M.zip (aa 0 rfl) (aa 1 rfl)) (fw 3 4) ⟨_,_,rfl⟩ (λi x Γ hx hΓ=>?_) (λΓ hΓ=>?_)) ?_
 ·obtain⟨e3,e4,rfl⟩:=hΓ;rw[List.zip_map_right,K9] at hx;obtain⟨z,hz,rfl⟩:=MT.mp hx;obtain⟨h1,h2⟩:=mD hz;obtain⟨tl,_⟩:=tR hP i;have hk:=hP.ok i z.2 h2;have hl:=dA (QK:=QK) z.2 false hk;have hrw:=hP.rw z.2 (K7 h2);have hdp:=hP.dp z.2 (K7 h2);have Tw:=hP.l;have Su:((QK.zip Ls).take (i+1)).flatMap (gE QK)=((QK.zip Ls).take i).flatMap (gE QK)++gE QK z:=by
   rw[Lw,hz,List.flatMap_append];simp
  rw[Su];generalize ((QK.zip Ls).take i).flatMap (gE QK)=ws at tl;refine ai (aL 2 (y:=ws++S2 "part" z.1++Rx QK z.2++S1 "end") (aI.im (ba (aI.im (ba (aI.im (ba (aa 2 rfl) (aI.im (aG (r:=ag) (ao av (ao (aa 3 rfl) aJ)) (l2 _ _))) (aE (by simp;omega)))) (aB CW hr (ae (aa 4 rfl) (ae (aa 0 rfl) au)) ⟨z.2,QK,(i:Int),(Ls.length:Int),false,rfl,by omega,hk,by omega,by omega,by omega,rfl⟩) (aE (by simp;omega)))) (aI.im (aG (r:=ag) (ao av aJ) (l1 _))) (aE (by simp;omega)))) ⟨.im ag z.1,.im (af aH) (bF z.2),?_⟩);unfold gE;simp only[LX];rfl
 ·obtain⟨e3,e4,rfl⟩:=hΓ;refine⟨e3,e4,?_⟩;rw[List.zip_map_right,KY,LA];rfl
 rintro _ ⟨e3,e4,rfl⟩;obtain⟨pl,po⟩:=yo hP;exact ai (aN (kY av (aa 2 rfl) (Ce pl po)) (ji _ _))
structure bq where
 kind:Str
 name:Str
 word:Int
 within:Int
abbrev cT:bq:=⟨"","",0,0⟩
abbrev named:Ks:=["part","do","call","if","while"]
abbrev RE:Ks:=["do","call","if","while","leave","back"]
abbrev Q4:Ks:=["part","if","else","while"]
abbrev QT:Ks:=["else","end"]
structure gR where
 S:List bq
 O:Kr
 w:Nat
def aP (S:List bq)(o:Int):Str:=(S.getD o.toNat cT).kind
def cM (k:Str)(ks:Ks):Bool:=
 if ks.isEmpty then decide (k="part")
 else if k="leave" then decide (("while":Str)∈ks)
 else if k="else" then decide (ks.getLast?.getD ""="if")
 else if k="end" then !decide (ks.getLast?.getD ""="if")
 else decide (k∈RE)
abbrev Rh (ws:Ks)(x:gR):Str:=ws.getD x.w ""
def nO (k:Str)(n:Str)(x:gR):bq:=⟨k,n,(x.w:Int),x.O.getLast?.getD (-1)⟩
def S5 (k n:Str)(x:gR):gR:=
 ⟨x.S++[nO k (if k∈named then n else "") x],(if k∈QT then x.O.dropLast else x.O)++(if k∈Q4 then[(x.S.length:Int)] else[]),x.w+(if k∈named then 2 else 1)⟩
def xR (ws:Ks)(x:gR):gR:=S5 (Rh ws x) (ws.getD (x.w+1) "") x
def ud (n:Nat):Bool:=decide (97<=n)&&decide (n<=122)
def f6 (x:Str):Bool:=(decide (1<=x.length)&&decide (x.length<=8))&&x.cps.toList.all ud
structure fz (w:Str):Prop where
 l:w.length<=9
 f:32∉w.cps.toList
 a:∀c∈w.cps.toList,c<128
structure zW (ws:Ks)(x:gR):Prop where
 w:x.w<ws.length
 may:cM (Rh ws x) (x.O.map (aP x.S))=true
 nm:Rh ws x∈named->x.w+1<ws.length/\f6 (ws.getD (x.w+1) "")=true
theorem uO {α:Type}(f:α->α)(m:Nat)(x:α):∀n,Q9 f (m+n) x=Q9 f n (Q9 f m x)
 | 0=>rfl
 | n+1=>by rw[← Nat.add_assoc,Q9,Q9,uO f m x n]
variable {S:List bq}
theorem BJ {S':List bq}{o:Int}(h0:0<=o)(h1:o<(S.length:Int)):aP (S++S') o=aP S o:=by
 unfold aP;rw[K5,K5,Lr (by omega)]
theorem Fn {S':List bq}{s:bq}:aP (S++s::S') (S.length:Int)=s.kind:=by
 unfold aP;rw[K5,show((S.length:Nat):Int).toNat=S.length by omega];simp
variable {O:Kr}
theorem ou {S':List bq}(h:∀o∈O,0<=o/\o<(S.length:Int)):O.map (aP (S++S'))=O.map (aP S):=Me λo ho=>BJ (h o ho).1 (h o ho).2
structure gw (K:P1)(mg:Kp):Prop where
 most:∃t,mg "MOST_LETTERS"=some (.int 8 t)
 nost:∃t,mg "NO_STEP"=some (.int (-1) t)
 named:oC K mg "NAMED" named
 RE:oC K mg "SENTENCES" RE
 Q4:oC K mg "OPENING" Q4
 QT:oC K mg "CLOSING" QT
abbrev eZ:Ks:=["kind","name","word","within"]
theorem gG (h:decide (x∈eZ)=true):x∈eZ:=QH h
def Jd (s:bq):iF:=[("kind",ag.at_ s.kind),("name",ag.at_ s.name),("word",ah.at_ s.word),("within",ah.at_ s.within)]
def aY (C:Addr):Rep bq:=⟨λK R v s=>∃x dx vs,v= .ref x/\R x=some (.ins C dx vs)/\eV (Jd s) K R vs,λs ⟨x,dx,vs,e,h1,h2⟩=>⟨x,dx,vs,e,s _ _ h1,h2.mono s⟩⟩
variable {C:Addr}{e:Expr}
section
variable {s:bq}
theorem fb (hC:bz X.K C eZ)(he:EV X e Γ (aY C) s Γ1)(hb:Ni e "kind" X.env (eval e X.env)=eval e X.env:=by rfl):EV X (.Attribute e "kind" pos) Γ ag s.kind Γ1:=ie hC (gG (by decide)) he (λK R v ⟨x,dx,vs,e,h1,h2⟩=>by obtain⟨u,q1,q2⟩:=h2.get (f:="kind") rfl;exact⟨x,dx,vs,u,e,h1,q1,q2⟩) hb
theorem mS (hC:bz X.K C eZ)(he:EV X e Γ (aY C) s Γ1)(hb:Ni e "name" X.env (eval e X.env)=eval e X.env:=by rfl):EV X (.Attribute e "name" pos) Γ ag s.name Γ1:=ie hC (gG (by decide)) he (λK R v ⟨x,dx,vs,e,h1,h2⟩=>by obtain⟨u,q1,q2⟩:=h2.get (f:="name") rfl;exact⟨x,dx,vs,u,e,h1,q1,q2⟩) hb
theorem p9 (hC:bz X.K C eZ)(he:EV X e Γ (aY C) s Γ1)(hb:Ni e "word" X.env (eval e X.env)=eval e X.env:=by rfl):EV X (.Attribute e "word" pos) Γ ah s.word Γ1:=ie hC (gG (by decide)) he (λK R v ⟨x,dx,vs,e,h1,h2⟩=>by obtain⟨u,q1,q2⟩:=h2.get (f:="word") rfl;exact⟨x,dx,vs,u,e,h1,q1,q2⟩) hb
theorem nu (hC:bz X.K C eZ)(he:EV X e Γ (aY C) s Γ1)(hb:Ni e "within" X.env (eval e X.env)=eval e X.env:=by rfl):EV X (.Attribute e "within" pos) Γ ah s.within Γ1:=ie hC (gG (by decide)) he (λK R v ⟨x,dx,vs,e,h1,h2⟩=>by obtain⟨u,q1,q2⟩:=h2.get (f:="within") rfl;exact⟨x,dx,vs,u,e,h1,q1,q2⟩) hb
end
variable {ks:Ks}{xs:List α}
abbrev pG:Stmt:=match top B7 with
 | .ClassDef _ _ _ b _ _ _ _ _ _ _=>b.getD 0 (.Pass ⟨0,0,0,0⟩)
 | s=>s
abbrev sL:Ks:=["self","kind","name","word","within"]
theorem F9:aZ sL sL (ak pG):=RQ
def Je (C0:Addr):xp:=λK C ps Pd=>C=C0/\∃s:bq,ps=[⟨ag,s.kind⟩,⟨ag,s.name⟩,⟨ah,s.word⟩,⟨ah,s.within⟩]/\Pd=λfs=>fs=Jd s
theorem HM {C0:Addr}(HC:bz K C0 eZ)(F:cK K "__init__" "Step.__init__" pG f fd):cy P w K mg base c8 1 f fd sL (ug (Je C0) K):=by
 have nd:=F9.nd;refine xO F F9 (λC qs Pd ⟨_,m,e,_⟩=>by rw[e];rfl) (λQP A outer st H E C x dx qs Pd hr hS=>?_);obtain⟨rfl,s,rfl,rfl⟩:=hS;refine aj (fK 0 HC (gG (by decide)) (aa 1 rfl) rfl rfl (by show 0<1000;decide) ?_);refine aj (fK 0 HC (gG (by decide)) (aa 2 rfl) rfl rfl (by show 1<1000;decide) ?_);refine aj (fK 0 HC (gG (by decide)) (aa 3 rfl) rfl rfl (by show 2<1000;decide) ?_);exact ai (fK 0 HC (gG (by decide)) (aa 4 rfl) rfl rfl (by show 3<1000;decide) ⟨_,rfl,rfl⟩)
abbrev Gd:Stmt:=top vj
def wL:cE:=λK ps T=>∃x:Str,ps=[⟨ag,x⟩]/\fz x/\T=bN K bp (· =f6 x)
theorem uL {p:Nat->Bool}:(ee x).all (λc=>p (c.cps.getD 0 0))=x.cps.toList.all p:=by
 unfold ee;rw[List.all_map];rw[KG,LU,LU];refine⟨λh c hc=>?_,λh i hi=>?_⟩
 ·obtain⟨i,hi⟩:=Lz.mp hc;have il:=(KW.mp hi).1;have:=h i (LY.mpr (by simpa using il));have e:x.cps.getD i 0=c:=by rw[KA,← Array.getElem?_toList,hi];rfl
  simpa[gm,e] using this
 ·have il:i<x.cps.size:=LY.mp hi;have:=h (x.cps.getD i 0) (by rw[KA];simp[il]);simpa[gm] using this
theorem HB :(!decide ((⟨#[n]⟩:Str).cps.toList<("a":Str).cps.toList))=decide (97<=n)/\(!decide (("z":Str).cps.toList<(⟨#[n]⟩:Str).cps.toList))=decide (n<=122):=by
 have ea:("a":Str).cps.toList=[97]:=by decide +kernel
 have ez:("z":Str).cps.toList=[122]:=by decide +kernel
 rw[ea,ez,show(⟨#[n]⟩:Str).cps.toList=[n] from rfl];have h:∀a b:Nat,(!decide ([a] < [b]))=decide (b<=a):=λa b=>by
  by_cases q:b<=a
  ·rw[decide_eq_true q,QJ (λz=>by cases z with
    | rel h1=>omega
    | cons h1=>cases h1)];rfl
  ·rw[QJ q,decide_eq_true (show([a]:List Nat) < [b] from List.Lex.rel (by omega))];rfl
 exact⟨h _ _,h _ _⟩
theorem fz.asc (h:fz x):x.cps.all (· < 128)=true:=by
 rw[Array.all_eq_true];intro i hi;exact decide_eq_true (h.a x.cps[i] (by simp))
theorem fz.le (h:fz x):x.cps.size<=Nb:=Mz h.l (by decide)
theorem G3 (M:bS K mg)(M2:gw K mg)(Df:Def K mg "is_name" Gd ["word"]):aF P w K mg base "is_name" 1 (aM wL K):=by
 have S0:Ln [("sign":Str)]:=by decide
 refine bE (N:=["word"]) Df (λf QP A outer s H E qs T nd hr hS=>?_);obtain⟨x,rfl,hx,rfl⟩:=hS;obtain⟨t,hmo⟩:=M2.most;refine ai (aN (mx (lX C7 C7 ev_int (nY M.len (aa 0 rfl) hx.le) (jx hmo)) (λ_=>sy (Dz M.all (aI.im (cL (own:=["sign"]) (fr:=[]) (ix:=[]) (ra:=ag) (rb:=bp) (p:=λ_=>true) (f:=λc=>ud (c.cps.getD 0 0)) (cx (so:=ak Gd) (N0:=["word"]) rfl rfl (λx h=>bL h) (by decide +kernel)) (r8 (aa 0 rfl) hx.asc hx.le)
  (λC s H ex=>bA 0) (λx=>⟨.inr rfl,trivial⟩) (λC s H ex c hc=>fA) (λC s H ex c hc _=>?_)))))) ?_)
 ·unfold ee at hc;obtain⟨i,_,rfl⟩:=Lu.mp hc;have:=HB (n:=x.cps.getD i 0);exact EV.cast (lX AV AV av (aa 0 rfl) av) (by unfold gm;rw[this.1,this.2];rfl)
 ·unfold f6;rw[LH.mpr λ_ _=>rfl,List.all_map,show(id ∘ λc:Str=>ud (c.cps.getD 0 0))=λc=>ud (c.cps.getD 0 0) from rfl,uL];have e1:decide ((1:Int)<=(x.length:Int))=decide (1<=x.length):=by congr 1;exact propext (by omega)
  have e2:decide ((x.length:Int)<=8)=decide (x.length<=8):=by congr 1;exact propext (by omega)
  rw[e1,e2]
abbrev Al:Stmt:=top nM
theorem va:aZ ["words","word"] ["words","word"] (ak Al):=RQ
def AZ:cE:=λK ps T=>∃(ws:Ks)(i:Nat),ps=[⟨af ag,ws⟩,⟨ah,(i:Int)⟩]/\(∀w∈ws,fz w)/\i+1<ws.length/\f6 (ws.getD (i+1) "")=true/\T=bN K ag (· =ws.getD (i+1) "")
theorem getD_in {d:α}(h:i<xs.length):xs.getD i d∈xs:=by
 rw[K5,K2 h];exact LZ _
theorem Hq (M:bS K mg)(CI:aF P w K mg base "is_name" 1 (aM wL K))(Df:Def K mg "name_behind" Al ["words","word"]):aF P w K mg base "name_behind" 2 (aM AZ K):=by
 have nd:=va.nd;refine bE (Sc:=va) Df (λf QP A outer s H E qs T _ hr hS=>?_);obtain⟨ws,i,rfl,hw,hi,hn,rfl⟩:=hS;have RG:cq ws ((i:Int)+1)=some (ws.getD (i+1) ""):=aT (xs:=ws) (i:=((i:Int)+1)) "" (by omega) (by omega);refine aj (aW (TW.tv (h9 (aq dP (bg (aa 1 rfl) ev_int) (cA M.len (aa 0 rfl))) (λ_=>gD (fZ (dE (aB CI hr (ae (aV (aa 0 rfl) (bg (aa 1 rfl) ev_int) RG) au) ⟨_,rfl,hw _ (getD_in hi),rfl⟩)))))) (λh=>?_) (λh=>aQ ?_))
 ·rw[hn,QJ (show¬(i:Int)+1=(ws.length:Int) by omega)] at h;cases h
 ·exact ai (aN (aV (aa 0 rfl) (bg (aa 1 rfl) ev_int) RG) rfl)
abbrev Il:Stmt:=top rR
def yd:cE:=λK ps T=>∃(k:Str)(ks:Ks),ps=[⟨ag,k⟩,⟨af ag,ks⟩]/\T=bN K bp (· =cM k ks)
theorem n6 (h:ks≠[]):cq ks (-1)=some (ks.getLast?.getD ""):=by
 obtain⟨l,x,rfl⟩:∃l x,ks=l++[x]:=⟨ks.dropLast,ks.getLast h,(Li h).symm⟩;unfold cq;rw[show eT (l++[x]).length (-1)=some l.length by unfold eT;simp;omega];simp
theorem GA (M2:gw K mg)(Df:Def K mg "may_stand" Il ["kind","opened"]):aF P w K mg base "may_stand" 1 (aM yd K):=by
 refine bE (N:=["kind","opened"]) Df (λf QP A outer s H E qs T nd hr hS=>?_);obtain⟨k,ks,rfl,rfl⟩:=hS;refine aj (aW (fZ (mJ (aa 1 rfl))) (λh=>?_) (λh=>aQ ?_))
 ·have h:ks.isEmpty=true:=by simpa using h
  exact ai (aN (dX bI (aa 0 rfl) av) (by unfold cM;rw[QG h]))
 have h0:¬ks.isEmpty=true:=by simpa using h
 have Q5:ks≠[]:=λz=>h0 (by rw[z];rfl);refine aj (aW (aq bI (aa 0 rfl) av) (λh=>?_) (λh=>aQ ?_))
 ·have h:k="leave":=QH h;exact ai (aN (dX nr av (aa 1 rfl)) (by unfold cM;rw[QF h0,QG h]))
 have h1:¬k="leave":=QI h;refine aj (aW (aq bI (aa 0 rfl) av) (λh=>?_) (λh=>aQ ?_))
 ·have h:k="else":=QH h;exact ai (aN (dX bI (aV (aa 1 rfl) (eC ev_int) (n6 Q5)) av) (by unfold cM;rw[QF h0,QF h1,QG h]))
 have h2:¬k="else":=QI h;refine aj (aW (aq bI (aa 0 rfl) av) (λh=>?_) (λh=>aQ ?_))
 ·have h:k="end":=QH h;exact ai (aN (dX qk (aV (aa 1 rfl) (eC ev_int) (n6 Q5)) av) (by unfold cM;rw[QF h0,QF h1,QF h2,QG h]))
 have h3:¬k="end":=QI h;exact ai (aN (dX hW (aa 0 rfl) (eB M2.RE)) (by unfold cM;rw[QF h0,QF h1,QF h2,QF h3]))
abbrev rx (ws:Ks)(i:Nat):gR:=Q9 (xR ws) i ⟨[],[],0⟩
theorem eF (ws:Ks):∀i,(rx ws i).S.length=i/\i<=(rx ws i).w/\(rx ws i).O.length<=i/\∀o∈(rx ws i).O,0<=o/\o<(i:Int)
 | 0=>⟨rfl,My _,My _,λo h=>by cases h⟩
 | i+1=>by
   obtain⟨a,b,c,d⟩:=eF ws i;unfold rx at *;rw[Q9];generalize Q9 (xR ws) i ⟨[],[],0⟩=x at a b c d;unfold xR S5;refine⟨by rw[K3,a];rfl,?_,?_,?_⟩
   ·dsimp only;split<;>omega
   ·rw[K3];have h1:(if Rh ws x∈QT then x.O.dropLast else x.O).length<=x.O.length:=by
     split
     ·rw[Mm];omega
     ·exact My _
    have h2:(if Rh ws x∈Q4 then[(x.S.length:Int)] else[]).length<=1:=by split<;>simp
    omega
   ·intro o ho;rcases Lf.mp ho with h | h
    ·have:o∈x.O:=by
      split at h
      ·exact(List.dropLast_sublist _).mem h
      ·exact h
     have:=d o this;omega
    ·split at h
     ·rw[KZ.mp h];omega
     ·cases h
theorem zi (h:O≠[]):cq O (-1)=some (O.getLast?.getD (-1)):=by
 obtain⟨l,x,rfl⟩:∃l x,O=l++[x]:=⟨O.dropLast,O.getLast h,(Li h).symm⟩;unfold cq;rw[show eT (l++[x]).length (-1)=some l.length by unfold eT;simp;omega];simp
theorem yR (h:O≠[]):O[O.length-1]?=some (O.getLast?.getD (-1)):=by
 obtain⟨l,x,rfl⟩:∃l x,O=l++[x]:=⟨O.dropLast,O.getLast h,(Li h).symm⟩;simp
structure iV (ws:Ks):Prop where
 ne:ws≠[]
 l:ws.length<=1000
 w:∀w∈ws,fz w
theorem iV.join (h:iV ws):JoinOk " " ws=true:=by
 unfold JoinOk;have:=h.l;rw[StrLaws.joinFits (B:=9) (λy hy=>(h.w y hy).l) (by rw[show(" ":Str).length=1 by decide +kernel];omega)];rfl
theorem iV.split (h:iV ws):Txt.split (Str.join " " ws) " "=ws:=by
 rw[yJ];exact vE h.ne λw q=>(h.w w q).f
theorem iV.len (h:iV ws):(Str.join " " ws).length<=Nb:=by
 have:=joinOk_length h.join;rwa [ji] at this
def g8 (ws:Ks)(n:Nat):Prop:=∀i,i<n->zW ws (rx ws i)
inductive h8 (ws:Ks) (y:gR):Int->Prop
 | may (h:y.w<ws.length) (hm:cM (Rh ws y) (y.O.map (aP y.S))=false):h8 ws y (y.w:Int)
 | nm (h:y.w<ws.length) (hm:cM (Rh ws y) (y.O.map (aP y.S))=true) (hn:Rh ws y∈named) (hb:y.w+1=ws.length∨f6 (ws.getD (y.w+1) "")=false):h8 ws y ((y.w:Int)+1)
 | more (h:y.w=ws.length) (ho:y.O≠[]):h8 ws y (ws.length:Int)
variable {kd:Str}{y:gR}
section
structure kT (P:Nf)(w:World)(K:P1)(mg:Kp)(base:Heap)(C:Addr):Prop where
 cl:bz K C eZ
 ex:∃fi RP,Mk K C fi/\cy P w K mg base c8 1 fi RP sL (ug (Je C) K)/\Binds K RP sL []
 mg:mg "Step"=some (.ref C)
theorem Bq {es:Kw}{p:Pos}{s:bq}(G:kT X.prog X.w X.K X.mg X.base C)(hr:br 2 X.A)(ha:HA X (e::es) Γ [⟨ag,s.kind⟩,⟨ag,s.name⟩,⟨ah,s.word⟩,⟨ah,s.within⟩] Γ1)(hg:Gl X "Step":=by rfl)(he:Nc (e::es) X.env=(false,eval e X.env)::Nc es X.env:=by rfl)(Q3:(Nk pos (Nc es X.env)).any (·.1)=false:=by rfl):EV X (.Call (.Name "Step" p) (e::es) [] pos) Γ (aY C) s Γ1:=by
 obtain⟨fi,RP,MK,SI,bi⟩:=G.ex;exact t6 MK SI hr G.mg bi ha ⟨rfl,s,rfl,rfl⟩ (λfs R x dx vs hP h1 h2=>by subst hP;exact⟨x,dx,vs,rfl,h2,h1⟩) hg (by decide) he Q3
structure t9 (P:Nf)(w:World)(K:P1)(mg:Kp)(base:Heap)(x:Str)(C:Addr):Prop where
 ex:∃CE fi RP,kM K mg x "word" C CE fi/\cy P w K mg base c8 1 fi RP ["self","word"] (qq C "word")/\Binds K RP ["self","word"] []
theorem lq {N:Ks}{qual:Str}{scope:Scope}{cd:Value}{s:M9}{R:Hp}{np cp:Pos}{n:Int}{rest:List Stmt}(G:t9 P w K mg base x C)(hr:br 2 (A.deeper (MW qual scope s.heap.objs.size f cd)))(ha:HA (aX (bY P w) P w K mg base N qual scope f cd A outer s H E).cj [a] Γ [⟨ah,n⟩] Γ1)(q:∀H' R' dx,Ext H R H' R'->H dx=none->R' dx=some (.xd [("word",.int n)])->E (.ref C) (some dx) H')(hg:Gl (aX (bY P w) P w K mg base N qual scope f cd A outer s H E) x:=by rfl)(Rj:Q0 x:=by decide)(he:Nc [a] (aX (bY P w) P w K mg base N qual scope f cd A outer s H E).env=(false,eval a (aX (bY P w) P w K mg base N qual scope f cd A outer s H E).env)::Nc [] (aX (bY P w) P w K mg base N qual scope f cd A outer s H E).env:=by rfl):
 RS (aX (bY P w) P w K mg base N qual scope f cd A outer s H E) H R (.Raise (some (.Call (.Name x np) [a] [] cp)) none pos::rest) Γ:=by
 obtain⟨CE,fi,RP,ci,FI,bi⟩:=G.ex;exact wD ci FI bi hr ha q hg Rj he
abbrev xw (C:Addr)(k:Int):rN:=.exc (.ref C) [("word",.int k)]
def DA (C:Addr):iD:=λK ps o=>∃(ws:Ks)(i:Nat),ps=[⟨af ag,ws⟩,⟨ah,(i:Int)⟩]/\(∀w∈ws,fz w)/\i<ws.length/\(i+1=ws.length∨f6 (ws.getD (i+1) "")=false)/\o=xw C ((i:Int)+1)
theorem Fz (M:bS K mg)(G:t9 P w K mg base "NoText" C)(CI:aF P w K mg base "is_name" 1 (aM wL K))(F:cK K "name_behind" "name_behind" Al f fd)(hm:mg "name_behind"=some (.ref f))(hb:Binds K fd ["words","word"] []):g7 P w K mg base "name_behind" 3 (gO (DA C) K):=by
 have nd:=va.nd;refine mr (k:=2) F va hm hb (λqs o ⟨_,_,e,_⟩=>by rw[e];rfl) (λqs T ⟨_,_,_,_,_,_,e⟩=>by cases e) (λQP A outer s H R E qs c fs hr hS q=>?_);obtain⟨ws,i,rfl,hw,hi,hb,e⟩:=hS;cases e
 have CI:=CI.mono (show 1<=2 by decide);refine qm (TV.cast (b:=decide ((i:Int)+1=(ws.length:Int)) || !f6 (ws.getD (i+1) "")) (b':=true) (TW.tv (h9 (aq dP (bg (aa 1 rfl) ev_int) (cA M.len (aa 0 rfl))) (λh=>?_))) ?_) (lq G hr (ae (bg (aa 1 rfl) ev_int) au) q)
 ·have h:¬(i:Int)+1=(ws.length:Int):=QI h;exact gD (fZ (dE (aB CI hr (ae (aV (aa 0 rfl) (bg (aa 1 rfl) ev_int) (aT (xs:=ws) (i:=((i:Int)+1)) "" (by omega) (by omega))) au) ⟨_,rfl,hw _ (getD_in (by omega)),rfl⟩)))
 ·rcases hb with h | h
  ·rw[decide_eq_true (show(i:Int)+1=(ws.length:Int) by omega)];rfl
  ·rw[h];simp
abbrev iT:Stmt:=top BO
abbrev pB:Ks:=["text","words","steps","opened","word","kind","name"]
theorem nH:aZ pB ["text"] (ak iT):=RQ
abbrev xB:List Stmt:=match (bo iT).getD 4 (.Pass ⟨0,0,0,0⟩) with
 | .While _ b _ _=>b
 | _=>[]
abbrev cRD:Expr:=match xB.getD 1 (.Pass ⟨0,0,0,0⟩) with
 | .If c _ _ _=>c
 | _=>.Name "" ⟨0,0,0,0⟩
variable {CX:i6}{s:M9}{txt:Str}{e5 e6:Ent}
abbrev jJ (C:Addr)(txt:Str)(ws:Ks)(y:gR)(e5 e6:Ent):Ga:=[.im ag txt,.im (af ag) ws,.mu (aY C) y.S,.mu ah y.O,ay (y.w:Int),e5,e6]
theorem wd {Sy:List bq}{Oy:Kr}{wy:Int}(G:kT P w K mg base C)(CM:aF P w K mg base "may_stand" 2 (aM yd K))(hr:br 2 (A.deeper (MW "read" (ak iT) s.heap.objs.size f QP)))(lS:Sy.length<=1000)(lO:Oy.length<=1000)(ro:∀o∈Oy,0<=o/\o<(Sy.length:Int)):
 TV (aX CX P w K mg base pB "read" (ak iT) f QP A outer s H E).cj cRD [.im ag txt,.im (af ag) ws,.mu (aY C) Sy,.mu ah Oy,ay wy,.im ag kd,e6] (!cM kd (Oy.map (aP Sy))) [.im ag txt,.im (af ag) ws,.mu (aY C) Sy,.mu ah Oy,ay wy,.im ag kd,e6]:=by
 have S0:Ln [("number":Str),"steps"]:=by decide
 have nd:=nH.nd;have cc:(Oy.filter λ_=>true).map (aP Sy)=Oy.map (aP Sy):=by rw[LH.mpr λ_ _=>rfl]
 exact TV.RO (A7 (i:=2) (j:=3) (by decide) rfl rfl (aE (by omega)) (aE (by omega))) (fZ (dE (aB CM hr (ae (aa 5 rfl) (ae (aI.im (cL (own:=["number"]) (fr:=["steps"]) (ix:=[2]) (ra:=ah) (rb:=ag) (p:=λ_=>true) (f:=aP Sy) (cx (so:=ak iT) (N0:=pB) rfl rfl (λx h=>bL h) (by decide +kernel)) (c7 (aa 3 rfl))
  (λC s H ex=>bA 0) (λx=>⟨.inr rfl,.inl rfl,trivial⟩) (λC s H ex c hc=>fA) (λC' s H ex o ho _=>fb (C:=C) G.cl (aV (aa 1 rfl) (aa 0 rfl) (aT (xs:=Sy) (i:=o) cT (ro o ho).1 (ro o ho).2))))) au)) ⟨kd,Oy.map (aP Sy),by rw[cc],rfl⟩)))
theorem FL (M:bS K mg)(M2:gw K mg)(G:kT P w K mg base C)(CM:aF P w K mg base "may_stand" 2 (aM yd K))(CN:aF P w K mg base "name_behind" 2 (aM AZ K))(hr:br 2 (A.deeper (MW "read" (ak iT) s.heap.objs.size f QP)))(hw:∀w∈ws,fz w)(lS:y.S.length<=999)(lO:y.O.length<=999)(ro:∀o∈y.O,0<=o/\o<(y.S.length:Int))(hy:zW ws y):
 WS (aX CX P w K mg base pB "read" (ak iT) f QP A outer s H E).cj xB (jJ C txt ws y e5 e6) (λΓ=>∃e5 e6,Γ=jJ C txt ws (xR ws y) e5 e6) T:=by
 have nd:=nH.nd;obtain⟨t,Sb⟩:=M2.nost;obtain⟨rw_,SX,Va⟩:=hy;obtain⟨Sy,Oy,wy⟩:=y;dsimp only at lS lO ro rw_ SX Va;change WS _ _ [.im ag txt,.im (af ag) ws,.mu (aY C) Sy,.mu ah Oy,ay (wy:Int),e5,e6] _ _;have RG:cq ws (wy:Int)=some (ws.getD wy ""):=aT (xs:=ws) (i:=(wy:Int)) "" (by omega) (by omega);refine aj (aL 5 (y:=ws.getD wy "") (aV (aa 1 rfl) (aa 4 rfl) RG) ?_);have hs:xR ws ⟨Sy,Oy,wy⟩=S5 (ws.getD wy "") (ws.getD (wy+1) "") ⟨Sy,Oy,wy⟩:=rfl;change cM (ws.getD wy "") (Oy.map (aP Sy))=true at SX;change ws.getD wy ""∈named->wy+1<ws.length/\f6 (ws.getD (wy+1) "")=true at Va;generalize hkd:ws.getD wy ""=kd at SX Va hs;refine aj (aW (wd (ws:=ws) G CM hr (by omega) (by omega) ro) (λhh=>?_) (λ_=>aQ ?_))
 ·rw[SX] at hh;cases hh
 refine aj (aL 6 (y:=if kd∈named then ws.getD (wy+1) "" else "") (EV.cast (j3 (aq hW (aa 5 rfl) (eB M2.named)) (λhh=>aB CN hr (ae (aa 1 rfl) (ae (aa 4 rfl) au)) ⟨ws,wy,rfl,hw,(Va (QH hh)).1,(Va (QH hh)).2,rfl⟩) (λ_=>av)) (by by_cases z:kd∈named<;>simp[z])) ?_)
 generalize hnam:(if kd∈named then ws.getD (wy+1) "" else "")=T8;have VH:(if(!Oy.isEmpty)=true then Oy.getLast?.getD (-1) else -1)=Oy.getLast?.getD (-1):=by cases Oy<;>rfl
 refine aj (dO 2 (y:=(⟨kd,T8,(wy:Int),Oy.getLast?.getD (-1)⟩:bq)) (Bq (s:=⟨kd,T8,(wy:Int),Oy.getLast?.getD (-1)⟩) G hr (ae (aa 5 rfl) (ae (aa 6 rfl) (ae (aa 4 rfl) (ae (EV.cast (j3 (mY 3 rfl) (λhh=>mz 3 (eC ev_int) rfl rfl (zi (λz=>by rw[z] at hh;cases hh))) (λ_=>jx Sb)) VH) au))))) rfl rfl (ME (show _<=1000 by omega) (by decide)) ?_)
 change WS _ _ [.im ag txt,.im (af ag) ws,.mu (aY C) (Sy++[⟨kd,T8,(wy:Int),Oy.getLast?.getD (-1)⟩]),.mu ah Oy,ay (wy:Int),.im ag kd,.im ag T8] _ _;have hS':(S5 kd (ws.getD (wy+1) "") ⟨Sy,Oy,wy⟩).S=Sy++[⟨kd,T8,(wy:Int),Oy.getLast?.getD (-1)⟩]:=by unfold S5 nO;dsimp only;rw[hnam]
 rw[hs,← hS'];have hSl:(S5 kd (ws.getD (wy+1) "") ⟨Sy,Oy,wy⟩).S.length=Sy.length+1:=by rw[hS',K3];rfl
 have hOe:(S5 kd (ws.getD (wy+1) "") ⟨Sy,Oy,wy⟩).O=(if kd∈QT then Oy.dropLast else Oy)++(if kd∈Q4 then[(Sy.length:Int)] else[]):=rfl;have hwe:(S5 kd (ws.getD (wy+1) "") ⟨Sy,Oy,wy⟩).w=wy+(if kd∈named then 2 else 1):=rfl;generalize S5 kd (ws.getD (wy+1) "") ⟨Sy,Oy,wy⟩=z at hs hS' hSl hOe hwe;refine bO (N1:=λΓ=>Γ=[.im ag txt,.im (af ag) ws,.mu (aY C) z.S,.mu ah (if kd∈QT then Oy.dropLast else Oy),ay (wy:Int),.im ag kd,.im ag T8]) (aW (aq hW (aa 5 rfl) (eB M2.QT)) (λhh=>?_) (λhh=>aQ ?_)) ?_
 ·have hh:kd∈QT:=QH hh;have hOne:Oy≠[]:=λe=>by
   rw[e] at SX;have:kd="part":=QH SX;rw[this] at hh;exact QE hh (by decide +kernel)
  refine ai (mV (rD 3 rfl (yR hOne)) ?_);rw[QG hh];rfl
 ·have hh:¬kd∈QT:=QI hh;rw[QF hh]
 rintro _ rfl;have hOl:(if kd∈QT then Oy.dropLast else Oy).length<=Oy.length:=by
  split
  ·rw[Mm];omega
  ·exact My _
 generalize (if kd∈QT then Oy.dropLast else Oy)=O1 at hOe hOl;refine bO (N1:=λΓ=>Γ=[.im ag txt,.im (af ag) ws,.mu (aY C) z.S,.mu ah z.O,ay (wy:Int),.im ag kd,.im ag T8]) (aW (aq hW (aa 5 rfl) (eB M2.Q4)) (λhh=>?_) (λhh=>aQ ?_)) ?_
 ·have hh:kd∈Q4:=QH hh;refine ai (dO 3 (EV.cast (y':=(Sy.length:Int)) (gQ (lg 2 M.len rfl) ev_int) (by omega)) rfl rfl (ME (show _<=1000 by omega) (by decide)) ?_);rw[hOe,QG hh];rfl
 ·have hh:¬kd∈Q4:=QI hh;rw[hOe,QF hh,Lh]
 rintro _ rfl;refine ai (Dm 4 (c:=if kd∈named then 2 else 1) (EV.cast (j3 (aq hW (aa 5 rfl) (eB M2.named)) (λ_=>ev_int) (λ_=>ev_int)) (by by_cases z:kd∈named<;>simp[z])) rfl ⟨.im ag kd,.im ag T8,?_⟩)
 unfold jJ;rw[hwe];by_cases q:kd∈named
 ·rw[QG q,QG q];rfl
 ·rw[QF q,QF q];rfl
end
variable {CN:Addr}
def vN (x:Str)(S:List bq):Prop:=∃(ws:Ks)(n:Nat),x=Str.join " " ws/\iV ws/\g8 ws n/\rx ws n=⟨S,[],ws.length⟩
def zU (x:Str)(k:Int):Prop:=∃(ws:Ks)(n:Nat),x=Str.join " " ws/\iV ws/\g8 ws n/\h8 ws (rx ws n) k
theorem EW (W:iV ws)(h:g8 ws n)(hi:i<n):(rx ws i).S.length<=999/\(rx ws i).O.length<=999/\∀o∈(rx ws i).O,0<=o/\o<((rx ws i).S.length:Int):=by
 obtain⟨a,b,c,d⟩:=eF ws i;have:=(h i hi).w;have:=W.l;exact⟨by omega,by omega,by rw[a];exact d⟩
def Iq (C:Addr):cE:=λK ps T=>∃(x:Str)(S:List bq),ps=[⟨ag,x⟩]/\vN x S/\T=bN K (af (aY C)) (· =S)
theorem Hy (M:bS K mg)(M2:gw K mg)(G:kT P w K mg base C)(CM:aF P w K mg base "may_stand" 1 (aM yd K))(CB:aF P w K mg base "name_behind" 2 (aM AZ K))(Df:Def K mg "read" iT ["text"]):aF P w K mg base "read" 3 (aM (Iq C) K):=by
 have nd:=nH.nd;have CM:=CM.mono (show 1<=2 by decide);refine bE (Sc:=nH) (k:=2) Df (λf QP A outer s H E qs T _ hr hS=>?_);obtain⟨txt,S,rfl,⟨ws,n,et,W,Ss,Sd⟩,rfl⟩:=hS;have Sh:Txt.split txt " "=ws:=by rw[et];exact W.split
 have htl:txt.length<=Nb:=by rw[et];exact W.len
 have wl:=W.l;refine aj (aL 1 (y:=ws) (EV.cast (aI.im (kx (aa 0 rfl) av (by decide +kernel) htl (by rw[Sh];exact aE (by omega)))) Sh) ?_);refine aj (cJ 2 (r:=aY C) (ys:=[]) (aG aJ (MC _)) ?_);refine aj (cJ 3 (r:=ah) (ys:=[]) (aG aJ (MC _)) ?_);refine aj (aL 4 (y:=(0:Int)) ev_int ?_);refine bO (N1:=λΓ=>∃e5 e6,Γ=jJ C txt ws (rx ws n) e5 e6) (jF (λk Γ=>∃i,k+i=n/\∃e5 e6,Γ=jJ C txt ws (rx ws i) e5 e6) (m0:=n) ⟨0,rfl,_,_,rfl⟩ (λk Γ hI=>?_)) ?_
 ·obtain⟨i,Tx,e5,e6,rfl⟩:=hI;refine⟨decide (((rx ws i).w:Int)<(ws.length:Int)),_,aq fg (aa 4 rfl) (cA M.len (aa 1 rfl)),λh=>?_,λh=>?_⟩
  ·have h:((rx ws i).w:Int)<(ws.length:Int):=QH h;have Rc:i<n:=by
    rcases MG i n with z | z
    ·exact z
    ·exfalso;have:i=n:=by omega
     rw[this,Sd] at h;exact QE h (Int.lt_irrefl _)
   obtain⟨l1,l2,l3⟩:=EW W Ss Rc;exact WS.imp (FL M M2 G CM CB hr W.w l1 l2 l3 (Ss i Rc)) λΓ ⟨e5,e6,hΓ⟩=>⟨k-1,by omega,i+1,by omega,e5,e6,hΓ⟩
  ·have h:¬((rx ws i).w:Int)<(ws.length:Int):=QI h;have Rc:i=n:=by
    rcases MG i n with z | z
    ·exact QE (by have:=(Ss i z).w;omega) h
    ·omega
   subst Rc;exact⟨e5,e6,rfl⟩
 rintro _ ⟨e5,e6,rfl⟩;have hSn:S.length<=1000:=by
  obtain⟨a,b,c⟩:=eF ws n;rw[Sd] at a b;dsimp only at a b;omega
 rw[Sd];change WS _ _ [.im ag txt,.im (af ag) ws,.mu (aY C) S,.mu ah [],ay (ws.length:Int),e5,e6] _ _;refine aj (aW (mY 3 rfl) (λhh=>by cases hh) (λ_=>aQ ?_));refine WS.freeze 2 rfl (aE (by omega)) ?_;exact ai (aN (aa 2 rfl) rfl)
def FV (CN:Addr):iD:=λK ps o=>∃(x:Str)(k:Int),ps=[⟨ag,x⟩]/\zU x k/\o=xw CN k
theorem C6 (M:bS K mg)(M2:gw K mg)(G:kT P w K mg base C)(GN:t9 P w K mg base "NoText" CN)(CM:aF P w K mg base "may_stand" 1 (aM yd K))(CB:aF P w K mg base "name_behind" 2 (aM AZ K))(CD:g7 P w K mg base "name_behind" 3 (gO (DA CN) K))(F:cK K "read" "read" iT f fd)(hm:mg "read"=some (.ref f))(hb:Binds K fd ["text"] []):g7 P w K mg base "read" 4 (gO (FV CN) K):=by
 have nd:=nH.nd;have CM:=CM.mono (show 1<=2 by decide);refine mr (k:=3) F nH hm hb (λqs o ⟨_,_,e,_⟩=>by rw[e];rfl) (λqs T ⟨_,_,_,_,e⟩=>by cases e) (λQP A outer s H R E qs c fs hr hS q=>?_);obtain⟨txt,k,rfl,⟨ws,n,et,W,Ss,SJ⟩,e⟩:=hS;cases e
 have SQ:=hr.mono (show 2<=3 by decide);have Sh:Txt.split txt " "=ws:=by rw[et];exact W.split
 have htl:txt.length<=Nb:=by rw[et];exact W.len
 have wl:=W.l;refine eO (N1:=λΓ=>Γ=[.im ag txt,.im (af ag) ws,.no,.no,.no,.no,.no]) (aL 1 (y:=ws) (EV.cast (aI.im (kx (aa 0 rfl) av (by decide +kernel) htl (by rw[Sh];exact aE (by omega)))) Sh) rfl) ?_;rintro _ rfl;refine eO (N1:=λΓ=>Γ=[.im ag txt,.im (af ag) ws,.mu (aY C) [],.no,.no,.no,.no]) (cJ 2 (r:=aY C) (ys:=[]) (aG aJ (MC _)) rfl) ?_;rintro _ rfl;refine eO (N1:=λΓ=>Γ=[.im ag txt,.im (af ag) ws,.mu (aY C) [],.mu ah [],.no,.no,.no]) (cJ 3 (r:=ah) (ys:=[]) (aG aJ (MC _)) rfl) ?_;rintro _ rfl;refine eO (N1:=λΓ=>Γ=jJ C txt ws (rx ws 0) .no .no) (aL 4 (y:=(0:Int)) ev_int rfl) ?_;rintro _ rfl;obtain⟨iS,iw,iO,io⟩:=eF ws n;have turn:∀(k i:Nat)(e5 e6:Ent),k+i=n->i<n->∃Γ',TV (aX (bY P w) P w K mg base pB "read" (ak iT) f QP A outer s H E).cj (match (bo iT).getD 4 (.Pass ⟨0,0,0,0⟩) with | .While c _ _ _=>c | _=>.Name "" ⟨0,0,0,0⟩) (jJ C txt ws (rx ws i) e5 e6) true Γ'/\WS (aX (bY P w) P w K mg base pB "read" (ak iT) f QP A outer s H E).cj xB Γ' (λΓ''=>∃m',m'<k/\∃i,m'+i=n/\∃e5 e6,Γ''=jJ C txt ws (rx ws i) e5 e6) (λ_ _ _ _=>False):=λk i e5 e6 Tx Rc=>by
  obtain⟨l1,l2,l3⟩:=EW W Ss Rc;refine⟨_,TV.cast (aq fg (aa 4 rfl) (cA M.len (aa 1 rfl))) (decide_eq_true (by have:=(Ss i Rc).w;omega)),WS.imp (FL M M2 G CM CB SQ W.w l1 l2 l3 (Ss i Rc)) λΓ ⟨e5,e6,hΓ⟩=>⟨k-1,by omega,i+1,by omega,e5,e6,hΓ⟩⟩
 have last:(rx ws n).w<ws.length->∀(e5 e6:Ent),RS (aX (bY P w) P w K mg base pB "read" (ak iT) f QP A outer s H E) H R xB (jJ C txt ws (rx ws n) e5 e6):=λRJ e5 e6=>by
  have lS:(rx ws n).S.length<=1000:=by omega
  have lO:(rx ws n).O.length<=1000:=by omega
  have Vt:∀o∈(rx ws n).O,0<=o/\o<((rx ws n).S.length:Int):=by rw[iS];exact io
  have key:∀y:gR,h8 ws y k->y.w<ws.length->y.S.length<=1000->y.O.length<=1000->(∀o∈y.O,0<=o/\o<(y.S.length:Int))->RS (aX (bY P w) P w K mg base pB "read" (ak iT) f QP A outer s H E) H R xB (jJ C txt ws y e5 e6):=λy hb RJ lS lO Vt=>by
   obtain⟨Sy,Oy,wy⟩:=y;dsimp only at RJ lS lO Vt;change RS _ H R _ [.im ag txt,.im (af ag) ws,.mu (aY C) Sy,.mu ah Oy,ay (wy:Int),e5,e6];have RG:cq ws (wy:Int)=some (ws.getD wy ""):=aT (xs:=ws) (i:=(wy:Int)) "" (by omega) (by omega);refine eO (N1:=λΓ=>Γ=[.im ag txt,.im (af ag) ws,.mu (aY C) Sy,.mu ah Oy,ay (wy:Int),.im ag (ws.getD wy ""),e6]) (aL 5 (y:=ws.getD wy "") (aV (aa 1 rfl) (aa 4 rfl) RG) rfl) ?_;rintro _ rfl;cases hb with
   | may h hm=>exact qm (TV.cast (wd (ws:=ws) G CM SQ lS lO Vt) (by rw[show cM (ws.getD wy "") (Oy.map (aP Sy))=false from hm];rfl)) (lq GN SQ (ae (aa 4 rfl) au) q)
   | nm h hm hn hb=>
     refine eO (N1:=λΓ=>Γ=[.im ag txt,.im (af ag) ws,.mu (aY C) Sy,.mu ah Oy,ay (wy:Int),.im ag (ws.getD wy ""),e6]) (aW (TV.cast (b':=false) (wd (ws:=ws) G CM SQ lS lO Vt) (by rw[show cM (ws.getD wy "") (Oy.map (aP Sy))=true from hm];rfl)) (λh=>QE h (by decide)) (λ_=>aQ rfl)) ?_;rintro _ rfl;exact x5 6 (G9 (TV.cast (aq hW (aa 5 rfl) (eB M2.named)) (decide_eq_true hn)) (mh CD hr (ae (aa 1 rfl) (ae (aa 4 rfl) au)) ⟨ws,wy,rfl,W.w,h,hb,rfl⟩ q))
   | more h ho=>exact QE h (by have:wy<ws.length:=RJ;show¬wy=ws.length;omega)
  exact key _ SJ RJ lS lO Vt
 by_cases RJ:(rx ws n).w<ws.length
 ·refine z0 (λm Γ=>∃i,m+i=n/\∃e5 e6,Γ=jJ C txt ws (rx ws i) e5 e6) (m0:=n) ⟨0,rfl,_,_,rfl⟩ (λm Γ hI=>?_);obtain⟨i,Tx,e5,e6,rfl⟩:=hI;by_cases Rc:i<n
  ·obtain⟨Γ',h1,h2⟩:=turn m i e5 e6 Tx Rc;exact⟨Γ',h1,.inl h2⟩
  ·obtain rfl:i=n:=by omega
   exact⟨_,TV.cast (aq fg (aa 4 rfl) (cA M.len (aa 1 rfl))) (decide_eq_true (by omega)),.inr (last RJ e5 e6)⟩
 ·have hm:(rx ws n).w=ws.length/\(rx ws n).O≠[]/\k=(ws.length:Int):=by
   cases SJ with
   | may h _=>exact QE h RJ
   | nm h _ _ _=>exact QE h RJ
   | more h ho=>exact⟨h,ho,rfl⟩
  obtain⟨hw,ho,rfl⟩:=hm;refine eO (N1:=λΓ=>∃e5 e6,Γ=jJ C txt ws (rx ws n) e5 e6) (jF (λm Γ=>∃i,m+i=n/\∃e5 e6,Γ=jJ C txt ws (rx ws i) e5 e6) (m0:=n) ⟨0,rfl,_,_,rfl⟩ (λm Γ hI=>?_)) ?_
  ·obtain⟨i,Tx,e5,e6,rfl⟩:=hI;by_cases Rc:i<n
   ·obtain⟨Γ',h1,h2⟩:=turn m i e5 e6 Tx Rc;exact⟨true,Γ',h1,λ_=>h2,(λh=>nomatch h)⟩
   ·obtain rfl:i=n:=by omega
    exact⟨false,_,TV.cast (aq fg (aa 4 rfl) (cA M.len (aa 1 rfl))) (QJ (by omega)),(λh=>nomatch h),λ_=>⟨e5,e6,rfl⟩⟩
  rintro _ ⟨e5,e6,rfl⟩;refine qm (TV.cast (mY 3 rfl) ?_) (lq GN SQ (ae (cA M.len (aa 1 rfl)) au) q);cases h:(rx ws n).O with
  | nil=>exact QE h ho
  | cons _ _=>rfl
theorem ru {k:Nat}(hr:br k A):A.units+1<cLine:=by have:=hr.units;omega
def eU (F:Kx)(z:Int×bq):Kx:=if z.2.kind∈QT then eM F z.2.within z.1 else F
def gH (S:List bq):Kx:=(nums S).foldl eU []
theorem yI {F:Kx}{z:Int×bq}:(eU F z).length<=F.length+1:=by
 unfold eU;split
 ·exact rp _ _ _
 ·omega
theorem En (S:List bq)(i:Nat):(((nums S).take i).foldl eU []).length<=i:=by
 induction i with
 | zero=>exact My _
 | succ i ih=>
   rw[Lw,LV];cases e:(nums S)[i]? with
   | none=>exact Nat.le_succ_of_le ih
   | some z=>
     show(eU _ z).length<=_;exact Mz yI (by omega)
abbrev bU (S:List bq)(o:Int):Int:=(S.getD o.toNat cT).within
def Ar (S:List bq)(n:Int)(kd:Str)(a:Int):Prop:=∃k:Nat,Q9 (bU S) k (bU S n)=a/\(∀j,j<=k->0<=Q9 (bU S) j (bU S n)/\Q9 (bU S) j (bU S n)<(S.length:Int))/\(∀j,j<k->aP S (Q9 (bU S) j (bU S n))≠kd)/\aP S a=kd
inductive gu (S:List bq) (F:Kx) (n:Int):Kr->Prop
 | row {c:Int} (h:aP S n="if"∨aP S n="while") (hc:cF F n=some c):gu S F n [n+1,c+1]
 | SR {c:Int} (h:aP S n="else") (hc:cF F n=some c):gu S F n [c]
 | T9 {a c:Int} (h:aP S n="leave") (ha:Ar S n "while" a) (hc:cF F a=some c):gu S F n [c+1]
 | Ul {a c:Int} (h:aP S n="back") (ha:Ar S n "part" a) (hc:cF F a=some c):gu S F n [c]
 | Ui (h:aP S n="end") (h0:0<=bU S n) (h1:bU S n<(S.length:Int)) (hk:aP S (bU S n)="while"):gu S F n [bU S n]
 | Uj (h:aP S n="end") (h0:0<=bU S n) (h1:bU S n<(S.length:Int)) (hk:aP S (bU S n)="part"):gu S F n []
 | Uk (h:aP S n="end") (h0:0<=bU S n) (h1:bU S n<(S.length:Int)) (hk:aP S (bU S n)="else"):gu S F n [n+1]
 | Tr (h:aP S n="part"∨aP S n="do"∨aP S n="call"):gu S F n [n+1]
abbrev Ja:Stmt:=top mm
abbrev nCS:Ks:=["steps","closing","number","step"]
def D5 (C:Addr):cE:=λK ps T=>∃S:List bq,ps=[⟨af (aY C),S⟩]/\S.length<=1000/\T=bN K pD (· =gH S)
theorem Hr (M:bS K mg)(M2:gw K mg)(HC:bz K C eZ)(Df:Def K mg "closing_steps" Ja ["steps"]):aF P w K mg base "closing_steps" 1 (aM (D5 C) K):=by
 refine bE (N:=nCS) Df (λf QP A outer s H E qs T nd hr hS=>?_);obtain⟨S,rfl,hl,rfl⟩:=hS;refine aj (oy 1 ?_);refine bO (N1:=λΓ=>∃e2 e3,Γ=[.im (af (aY C)) S,.di (cC (gH S)),e2,e3]) (cN (λi Γ=>∃e2 e3,Γ=[.im (af (aY C)) S,.di (cC (((nums S).take i).foldl eU [])),e2,e3]) (ij M.enumerate (aa 0 rfl)) (fw 2 3) ⟨_,_,rfl⟩ (λi z Γ hz hΓ=>?_) (λΓ hΓ=>?_)) ?_
 ·obtain⟨e2,e3,rfl⟩:=hΓ;obtain⟨n,st⟩:=z;have fl:=En S i;have il:i<S.length:=by have:=(KW.mp hz).1;rwa [cU] at this
  have Su:((nums S).take (i+1)).foldl eU []=eU (((nums S).take i).foldl eU []) (n,st):=by rw[Lw,hz,LV];rfl
  rw[Su];generalize ((nums S).take i).foldl eU []=Fd at fl;change WS _ _ [.im (af (aY C)) S,.di (cC Fd),ay n,.im (aY C) st] _ _;refine ai (aW (aq hW (fb (C:=C) HC (aa 3 rfl)) (eB M2.QT)) (λh=>?_) (λh=>aQ ⟨ay n,.im (aY C) st,?_⟩))
  ·have h:st.kind∈QT:=QH h;refine ai (FK 1 (ru hr) (nu (C:=C) HC (aa 3 rfl)) (aa 2 rfl) rfl (ME (show _<=1000 by omega) (by decide)) ⟨ay n,.im (aY C) st,?_⟩);unfold eU;rw[QG h];rfl
  ·have h:¬st.kind∈QT:=QI h;unfold eU;rw[QF h]
 ·obtain⟨e2,e3,rfl⟩:=hΓ;refine⟨e2,e3,?_⟩;rw[LA];rfl
 rintro _ ⟨e2,e3,rfl⟩;exact ai (tV 1 rfl rfl)
abbrev Ji:Stmt:=top xl
abbrev nAR:Ks:=["steps","number","kind","found"]
def Jo (C:Addr):cE:=λK ps T=>∃(S:List bq)(n a:Int)(kd:Str),ps=[⟨af (aY C),S⟩,⟨ah,n⟩,⟨ag,kd⟩]/\0<=n/\n<(S.length:Int)/\Ar S n kd a/\T=bN K ah (· =a)
theorem HJ (HC:bz K C eZ)(Df:Def K mg "around" Ji ["steps","number","kind"]):aF P w K mg base "around" 1 (aM (Jo C) K):=by
 refine bE (N:=nAR) Df (λf QP A outer s H E qs T nd hr hS=>?_);obtain⟨S,n,a,kd,rfl,n0,n1,⟨k,ha,Rc,Q5,hk⟩,rfl⟩:=hS;refine aj (aL 3 (y:=bU S n) (nu (C:=C) HC (aV (aa 0 rfl) (aa 1 rfl) (aT (xs:=S) (i:=n) cT n0 n1))) ?_);refine bO (N1:=λΓ=>Γ=[.im (af (aY C)) S,ay n,.im ag kd,ay a]) (jF (λm Γ=>∃i,m+i=k/\Γ=[.im (af (aY C)) S,ay n,.im ag kd,ay (Q9 (bU S) i (bU S n))]) (m0:=k) ⟨0,rfl,rfl⟩ (λm Γ hI=>?_)) ?_
 ·obtain⟨i,hi,rfl⟩:=hI;obtain⟨o0,o1⟩:=Rc i (by omega);have hs:Q9 (bU S) (i+1) (bU S n)=bU S (Q9 (bU S) i (bU S n)):=rfl;have Vw:=Q5 i;have Tx:i=k->aP S (Q9 (bU S) i (bU S n))=kd/\Q9 (bU S) i (bU S n)=a:=λe=>by rw[e,ha];exact⟨hk,rfl⟩
  generalize Q9 (bU S) i (bU S n)=o at o0 o1 hs Vw Tx;refine⟨!decide (aP S o=kd),_,aq qk (fb (C:=C) HC (aV (aa 0 rfl) (aa 3 rfl) (aT (xs:=S) (i:=o) cT o0 o1))) (aa 2 rfl),λh=>?_,λh=>?_⟩
  ·have h:¬aP S o=kd:=by simpa using h
   have ik:i<k:=by
    rcases MG i k with z | z
    ·exact z
    ·exact QE (Tx (by omega)).1 h
   exact ai (aL 3 (nu (C:=C) HC (aV (aa 0 rfl) (aa 3 rfl) (aT (xs:=S) (i:=o) cT o0 o1))) ⟨m-1,by omega,i+1,by omega,by rw[hs];rfl⟩)
  ·have h:aP S o=kd:=by simpa using h
   have ik:i=k:=by
    rcases MG i k with z | z
    ·exact QE h (Vw z)
    ·omega
   rw[(Tx ik).2]
 rintro _ rfl;exact ai (aN (aa 3 rfl) rfl)
abbrev Ip:Stmt:=top pP
abbrev nLF:Ks:=["steps","closing","number","kind","ended"]
abbrev pLF:Ks:=["steps","closing","number"]
def Jk (C:Addr):cE:=λK ps T=>∃(S:List bq)(F:Kx)(n:Int)(ls:Kr),ps=[⟨af (aY C),S⟩,⟨pD,F⟩,⟨ah,n⟩]/\0<=n/\n<(S.length:Int)/\gu S F n ls/\T=bN K (af ah) (· =ls)
def yC (S:List bq)(n:Int):Str:=if aP S n="end" then aP S (bU S n) else ""
theorem Hu (HC:bz K C eZ)(CA:aF P w K mg base "around" 1 (aM (Jo C) K))(Df:Def K mg "leads_from" Ip pLF):aF P w K mg base "leads_from" 2 (aM (Jk C) K):=by
 refine bE (N:=nLF) Df (λf QP A outer s H E qs T nd hr hS=>?_);obtain⟨S,Fd,n,ls,rfl,n0,n1,hL,rfl⟩:=hS;have hu:=ru hr;have RG:cq S n=some (S.getD n.toNat cT):=aT (xs:=S) (i:=n) cT n0 n1;have VR:aP S n="end"->0<=bU S n/\bU S n<(S.length:Int):=λh=>by
  cases hL with
  | row g hc=>rcases g with g | g<;>rw[g] at h<;>exact QE h (by decide +kernel)
  | SR g hc=>rw[g] at h;exact QE h (by decide +kernel)
  | T9 g ha hc=>rw[g] at h;exact QE h (by decide +kernel)
  | Ul g ha hc=>rw[g] at h;exact QE h (by decide +kernel)
  | Ui g h0 h1 hk=>exact⟨h0,h1⟩
  | Uj g h0 h1 hk=>exact⟨h0,h1⟩
  | Uk g h0 h1 hk=>exact⟨h0,h1⟩
  | Tr g=>rcases g with g | g | g<;>rw[g] at h<;>exact QE h (by decide +kernel)
 refine aj (aL 3 (y:=aP S n) (fb (C:=C) HC (aV (aa 0 rfl) (aa 2 rfl) RG)) ?_);refine aj (aL 4 (y:=yC S n) (EV.cast (j3 (x:=aP S (bU S n)) (aq bI (aa 3 rfl) av) (λh=>fb (C:=C) HC (aV (aa 0 rfl) (nu (C:=C) HC (aV (aa 0 rfl) (aa 2 rfl) RG)) (aT (xs:=S) (i:=bU S n) cT (VR (QH h)).1 (VR (QH h)).2))) (λ_=>av)) (by unfold yC;by_cases h:aP S n="end"<;>simp[h])) ?_)
 have en0:aP S n≠"end"->yC S n="":=λh=>QF h;have U5:aP S n="end"->yC S n=aP S (bU S n):=λh=>QG h;generalize hE:yC S n=ed at en0 U5;have one_le:(1:Nat)<=Nb:=by decide
 refine aj (aW (aq hW (aa 3 rfl) (uc (xs:=["if","while"]) (ao (EV.pS av) (ao (EV.pS av) aJ)) (by show 2<=Nb;decide))) (λh=>?_) (λh=>aQ ?_))
 ·have h:aP S n∈(["if","while"]:Ks):=QH h;cases hL with
  | row g hc=>exact ai (aN (aI.im (aG (r:=ah) (ao (bg (aa 2 rfl) ev_int) (ao (bg (kP hu (aa 1 rfl) (aa 2 rfl) hc) ev_int) aJ)) (by show 2<=Nb;decide))) rfl)
  | SR g hc=>rw[g] at h;exact QE h (by decide +kernel)
  | T9 g ha hc=>rw[g] at h;exact QE h (by decide +kernel)
  | Ul g ha hc=>rw[g] at h;exact QE h (by decide +kernel)
  | Ui g h0 h1 hk=>rw[g] at h;exact QE h (by decide +kernel)
  | Uj g h0 h1 hk=>rw[g] at h;exact QE h (by decide +kernel)
  | Uk g h0 h1 hk=>rw[g] at h;exact QE h (by decide +kernel)
  | Tr g=>rcases g with g | g | g<;>rw[g] at h<;>exact QE h (by decide +kernel)
 have h1:¬aP S n∈(["if","while"]:Ks):=QI h;refine aj (aW (aq bI (aa 3 rfl) av) (λh=>?_) (λh=>aQ ?_))
 ·have h:aP S n="else":=QH h;cases hL with
  | row g hc=>rcases g with g | g<;>rw[g] at h<;>exact QE h (by decide +kernel)
  | SR g hc=>exact ai (aN (aI.im (aG (r:=ah) (ao (kP hu (aa 1 rfl) (aa 2 rfl) hc) aJ) one_le)) rfl)
  | T9 g ha hc=>rw[g] at h;exact QE h (by decide +kernel)
  | Ul g ha hc=>rw[g] at h;exact QE h (by decide +kernel)
  | Ui g h0 h1 hk=>rw[g] at h;exact QE h (by decide +kernel)
  | Uj g h0 h1 hk=>rw[g] at h;exact QE h (by decide +kernel)
  | Uk g h0 h1 hk=>rw[g] at h;exact QE h (by decide +kernel)
  | Tr g=>rcases g with g | g | g<;>rw[g] at h<;>exact QE h (by decide +kernel)
 have h2:¬aP S n="else":=QI h;refine aj (aW (aq bI (aa 3 rfl) av) (λh=>?_) (λh=>aQ ?_))
 ·have h:aP S n="leave":=QH h;cases hL with
  | row g hc=>rcases g with g | g<;>rw[g] at h<;>exact QE h (by decide +kernel)
  | SR g hc=>rw[g] at h;exact QE h (by decide +kernel)
  | T9 g ha hc=>exact ai (aN (aI.im (aG (r:=ah) (ao (bg (kP hu (aa 1 rfl) (aB CA hr (ae (aa 0 rfl) (ae (aa 2 rfl) (ae av au))) ⟨S,n,_,_,rfl,n0,n1,ha,rfl⟩) hc) ev_int) aJ) one_le)) rfl)
  | Ul g ha hc=>rw[g] at h;exact QE h (by decide +kernel)
  | Ui g h0 h1 hk=>rw[g] at h;exact QE h (by decide +kernel)
  | Uj g h0 h1 hk=>rw[g] at h;exact QE h (by decide +kernel)
  | Uk g h0 h1 hk=>rw[g] at h;exact QE h (by decide +kernel)
  | Tr g=>rcases g with g | g | g<;>rw[g] at h<;>exact QE h (by decide +kernel)
 have h3:¬aP S n="leave":=QI h;refine aj (aW (aq bI (aa 3 rfl) av) (λh=>?_) (λh=>aQ ?_))
 ·have h:aP S n="back":=QH h;cases hL with
  | row g hc=>rcases g with g | g<;>rw[g] at h<;>exact QE h (by decide +kernel)
  | SR g hc=>rw[g] at h;exact QE h (by decide +kernel)
  | T9 g ha hc=>rw[g] at h;exact QE h (by decide +kernel)
  | Ul g ha hc=>exact ai (aN (aI.im (aG (r:=ah) (ao (kP hu (aa 1 rfl) (aB CA hr (ae (aa 0 rfl) (ae (aa 2 rfl) (ae av au))) ⟨S,n,_,_,rfl,n0,n1,ha,rfl⟩) hc) aJ) one_le)) rfl)
  | Ui g h0 h1 hk=>rw[g] at h;exact QE h (by decide +kernel)
  | Uj g h0 h1 hk=>rw[g] at h;exact QE h (by decide +kernel)
  | Uk g h0 h1 hk=>rw[g] at h;exact QE h (by decide +kernel)
  | Tr g=>rcases g with g | g | g<;>rw[g] at h<;>exact QE h (by decide +kernel)
 have h4:¬aP S n="back":=QI h;have Sb:∀{k:Str},k≠""->aP S n≠"end"->ed≠k:=λhk h z=>hk (by rw[← z,en0 h]);refine aj (aW (aq bI (aa 4 rfl) av) (λh=>?_) (λh=>aQ ?_))
 ·have h:ed="while":=QH h;cases hL with
  | row g hc=>exact QE h (Sb (by decide +kernel) (by rcases g with g | g<;>rw[g]<;>decide +kernel))
  | SR g hc=>exact QE g h2
  | T9 g ha hc=>exact QE g h3
  | Ul g ha hc=>exact QE g h4
  | Ui g h0 h1 hk=>exact ai (aN (aI.im (aG (r:=ah) (ao (nu (C:=C) HC (aV (aa 0 rfl) (aa 2 rfl) RG)) aJ) one_le)) rfl)
  | Uj g h0 h1 hk=>rw[U5 g,hk] at h;exact QE h (by decide +kernel)
  | Uk g h0 h1 hk=>rw[U5 g,hk] at h;exact QE h (by decide +kernel)
  | Tr g=>exact QE h (Sb (by decide +kernel) (by rcases g with g | g | g<;>rw[g]<;>decide +kernel))
 have h5:¬ed="while":=QI h;cases hL with
 | row g hc=>exact QE (by rcases g with g | g<;>rw[g]<;>decide +kernel) h1
 | SR g hc=>exact QE g h2
 | T9 g ha hc=>exact QE g h3
 | Ul g ha hc=>exact QE g h4
 | Ui g h0 h1 hk=>exact QE ((U5 g).trans hk) h5
 | Uj g h0 h1 hk=>
   have e:ed="part":=(U5 g).trans hk;exact ai (aN (y:=([]:Kr)) (EV.cast (j3 (y:=([]:Kr)) (aq bI (aa 4 rfl) av) (λ_=>aI.im (aG (r:=ah) aJ (MC _))) (λh=>QE e (QI h))) (by split<;>rfl)) rfl)
 | Uk g h0 h1 hk=>
   have e:ed≠"part":=by rw[U5 g,hk];decide +kernel
   exact ai (aN (y:=[n+1]) (EV.cast (j3 (x:=[n+1]) (aq bI (aa 4 rfl) av) (λh=>QE (QH h) e) (λ_=>aI.im (aG (r:=ah) (ao (bg (aa 2 rfl) ev_int) aJ) one_le))) (by split<;>rfl)) rfl)
 | Tr g=>
   have e:ed≠"part":=Sb (by decide +kernel) (by rcases g with g | g | g<;>rw[g]<;>decide +kernel)
   exact ai (aN (y:=[n+1]) (EV.cast (j3 (x:=[n+1]) (aq bI (aa 4 rfl) av) (λh=>QE (QH h) e) (λ_=>aI.im (aG (r:=ah) (ao (bg (aa 2 rfl) ev_int) aJ) one_le))) (by split<;>rfl)) rfl)
abbrev Ei:Stmt:=top tq
abbrev Iu:Ks:=["steps","closing"]
def AL (S:List bq)(Ld:List Kr):Prop:=Ld.length=S.length/\∀n:Nat,n<S.length->gu S (gH S) (n:Int) (Ld.getD n [])
def Ii (C:Addr):cE:=λK ps T=>∃(S:List bq)(Ld:List Kr),ps=[⟨af (aY C),S⟩]/\S.length<=1000/\AL S Ld/\T=bN K (af (af ah)) (· =Ld)
theorem zY (Ld:List Kr):((ups 0 Ld.length).filter λ_=>true).map (λn=>Ld.getD n.toNat [])=Ld:=by
 rw[LH.mpr λ_ _=>rfl];refine List.ext_getElem? λi=>?_;unfold ups;rw[K9,K9];rcases MG i Ld.length with h | h
 ·rw[L8 h,K2 h];show some (Ld.getD (0+(i:Int)).toNat [])=_;rw[show(0+(i:Int)).toNat=i by omega,K5,K2 h];rfl
 ·rw[List.getElem?_eq_none (by simpa using h),List.getElem?_eq_none h];rfl
theorem Gu (M:bS K mg)(CC:aF P w K mg base "closing_steps" 1 (aM (D5 C) K))(CF:aF P w K mg base "leads_from" 2 (aM (Jk C) K))(Df:Def K mg "leads_in" Ei ["steps"]):aF P w K mg base "leads_in" 3 (aM (Ii C) K):=by
 have S0:Ln [("number":Str),"steps","closing"]:=by decide
 have CC:=CC.mono (show 1<=2 by decide);refine bE (N:=Iu) (k:=2) Df (λf QP A outer s H E qs T nd hr hS=>?_);obtain⟨S,Ld,rfl,hl,⟨Tw,hL⟩,rfl⟩:=hS;refine aj (aL 1 (y:=gH S) (aB CC hr (ae (aa 0 rfl) au) ⟨S,rfl,hl,rfl⟩) ?_);change WS _ _ [.im (af (aY C)) S,.im pD (gH S)] _ _;have cc:=zY Ld;rw[Tw] at cc;refine ai (aN (aI.im (cL (own:=["number"]) (fr:=["steps","closing"]) (ix:=[0,1]) (ra:=ah) (rb:=af ah) (p:=λ_=>true) (f:=λn=>Ld.getD n.toNat []) (cx (so:=ak Ei) (N0:=Iu) rfl rfl (λx h=>bL h) (by decide +kernel)) (dH M.range (cA M.len (aa 0 rfl)) ⟨by omega,by omega⟩)
  (λC s H ex=>bA 0) (λx=>⟨.inr rfl,.inl rfl,.inl rfl,trivial⟩) (λC s H ex c hc=>fA) (λC' s H ex o ho _=>?_))) ?_)
 ·obtain⟨i,hi⟩:=Lz.mp ho;obtain⟨il,rfl⟩:=eY hi;have il:i<S.length:=by omega
  have:=hL i il;rw[show(i:Int)=0+(i:Int) by omega] at this;exact aB CF hr (ae (aa 1 rfl) (ae (aa 2 rfl) (ae (aa 0 rfl) au))) ⟨S,gH S,0+(i:Int),_,rfl,by omega,by omega,by rw[show(0+(i:Int)).toNat=i by omega];exact this,rfl⟩
 ·rw[show((S.length:Int)).toNat=S.length by omega];exact cc
abbrev E9:Stmt:=top tD
abbrev Jf:Ks:=["steps","closing"]
abbrev fX:=Str×Int×Int
def dM (p:fX):PV:=.tup [.str p.1,.int p.2.1,.int p.2.2]
def Fu (z:Int×bq):Bool:=decide (z.2.kind="part")
def Im (S:List bq)(z:Int×bq):fX:=(z.2.name,z.1,(cF (gH S) z.1).getD 0)
def jw (S:List bq):List fX:=((nums S).filter Fu).map (Im S)
def Ih (C:Addr):cE:=λK ps T=>∃S:List bq,ps=[⟨af (aY C),S⟩]/\S.length<=1000/\(∀n:Nat,n<S.length->aP S (n:Int)="part"->(cF (gH S) (n:Int)).isSome)/\T=bN K (af aH) (· =(jw S).map dM)
theorem js {z:Int×bq}(h:z∈nums S):∃n:Nat,n<S.length/\z.1=(n:Int)/\S.getD n cT=z.2:=by
 obtain⟨i,hi⟩:=Lz.mp h;obtain⟨e1,e2⟩:=lx hi;exact⟨i,(KW.mp e2).1,e1,by rw[K5,e2];rfl⟩
theorem Hi (M:bS K mg)(HC:bz K C eZ)(CC:aF P w K mg base "closing_steps" 1 (aM (D5 C) K))(Df:Def K mg "parts_in" E9 ["steps"]):aF P w K mg base "parts_in" 2 (aM (Ih C) K):=by
 have S0:Ln [("number":Str),"step","closing"]:=by decide
 refine bE (N:=Jf) (k:=1) Df (λf QP A outer s H E qs T nd hr hS=>?_);obtain⟨S,rfl,hl,hp,rfl⟩:=hS;refine aj (aL 1 (y:=gH S) (aB CC hr (ae (aa 0 rfl) au) ⟨S,rfl,hl,rfl⟩) ?_);refine ai (aN (aI.im (cL (own:=["number","step"]) (fr:=["closing"]) (ix:=[1]) (ra:=dh ah (aY C)) (rb:=aH) (p:=Fu) (f:=λz=>dM (Im S z)) (cx (so:=ak E9) (N0:=Jf) rfl rfl (λx h=>bL h) (by decide +kernel)) (ij M.enumerate (aa 0 rfl))
  (λC s H ex=>fw 0 1) (λx=>⟨.inr rfl,.inr rfl,.inl rfl,trivial⟩) (λC' s H ex z hz=>?_) (λC' s H ex z hz hpz=>?_))) ?_)
 ·exact fQ (aq bI (fb (C:=C) HC (aa 1 rfl)) av)
 ·obtain⟨n,nl,e1,e2⟩:=js hz;have hk:aP S (n:Int)="part":=by
   unfold aP;rw[show((n:Nat):Int).toNat=n by omega,e2];exact QH hpz
  have hs:=hp n nl hk;rw[← e1] at hs;have hc:cF (gH S) z.1=some ((cF (gH S) z.1).getD 0):=by
   cases q:cF (gH S) z.1 with
   | none=>rw[q] at hs;cases hs
   | some c=>rfl
  exact oa (ao (EV.pS (mS (C:=C) HC (aa 1 rfl))) (ao (EV.pI (aa 0 rfl)) (ao (EV.pI (kP (ru hr) (aa 2 rfl) (aa 0 rfl) hc)) aJ))) (by show 3<=Nb;decide)
 ·unfold jw;rw[LL];rfl
abbrev iY:List (Str×Ks):=[("do",["do"]),("call",["call"]),("if",["yes","no"]),("while",["yes","no"])]
def mX (k:Str):Bool:=(hJ iY k).isSome
def uo (S:List bq)(Ld:List Kr)(td:Kr)(n:Int):Kr:=
 if(Ld.getD n.toNat []).isEmpty=false/\mX (aP S n)=false then td.set n.toNat (td.getD ((Ld.getD n.toNat []).getD 0 0).toNat 0) else td
variable {Ld:List Kr}
theorem BV {td:Kr}{n:Int}:(uo S Ld td n).length=td.length:=by
 unfold uo;split
 ·rw[LC]
 ·rfl
def Up (S:List bq)(Ld:List Kr)(i:Nat):Kr:=((downs ((S.length:Int)-1) S.length).take i).foldl (uo S Ld) (ups 0 S.length)
theorem rm (h:i<S.length):Up S Ld (i+1)=uo S Ld (Up S Ld i) ((S.length:Int)-1-(i:Int)):=by
 have hd:(downs ((S.length:Int)-1) S.length)[i]?=some ((S.length:Int)-1-(i:Int)):=by
  unfold downs;rw[K9,L8 h];rfl
 unfold Up;rw[Lw,hd,LV];rfl
theorem jq {S:List bq}{Ld:List Kr}:∀i,i<=S.length->(Up S Ld i).length=S.length
 | 0,_=>bK _ _
 | i+1,h=>by rw[rm h,BV];exact jq i (by omega)
abbrev gL (S:List bq)(Ld:List Kr):Kr:=Up S Ld S.length
def vF (S:List bq)(Ld:List Kr):Prop:=Ld.length=S.length/\∀ls∈Ld,∀l∈ls,0<=l/\l<(S.length:Int)
abbrev Ij:Stmt:=top su
abbrev nST:Ks:=["steps","leads","told","number"]
def IQ (C:Addr):cE:=λK ps T=>∃(S:List bq)(Ld:List Kr),ps=[⟨af (aY C),S⟩,⟨af (af ah),Ld⟩]/\S.length<=1000/\vF S Ld/\T=bN K (af ah) (· =gL S Ld)
theorem Hm (M:bS K mg)(HC:bz K C eZ)(RW:j2 P w K mg "ROW_WORDS" iY)(Df:Def K mg "stands_in" Ij ["steps","leads"]):aF P w K mg base "stands_in" 1 (aM (IQ C) K):=by
 refine bE (N:=nST) Df (λf QP A outer s H E qs T nd hr hS=>?_);obtain⟨S,Ld,rfl,hl,⟨Tw,Rc⟩,rfl⟩:=hS;change WS _ _ [.im (af (aY C)) S,.im (af (af ah)) Ld,.no,.no] _ _;refine aj (cJ 2 (r:=ah) (ys:=ups 0 S.length) (aI.cst (pX M.list M.range (cA M.len (aa 0 rfl)) ⟨by omega,by omega⟩) (by rw[show((S.length:Int)).toNat=S.length by omega])) ?_);refine bO (N1:=λΓ=>∃e3,Γ=[.im (af (aY C)) S,.im (af (af ah)) Ld,.mu ah (gL S Ld),e3]) (cN (λi Γ=>∃e3,Γ=[.im (af (aY C)) S,.im (af (af ah)) Ld,.mu ah (Up S Ld i),e3]) (xH M.range (ae (gQ (cA M.len (aa 0 rfl)) ev_int) (ae (eC ev_int) (ae (eC ev_int) au))) ⟨by omega,by omega,by omega,by omega⟩) (bA 3) ⟨_,rfl⟩ (λi n Γ hn hΓ=>?_) (λΓ hΓ=>?_)) ?_
 ·obtain⟨e3,rfl⟩:=hΓ;obtain⟨il,rfl⟩:=sD hn;have il:i<S.length:=by omega
  rw[rm il];have tl:=jq (S:=S) (Ld:=Ld) i (by omega);generalize Up S Ld i=td at tl;generalize hnn:(S.length:Int)-1-(i:Int)=n;have n0:0<=n:=by omega
  have n1:n<(S.length:Int):=by omega
  change WS _ _ [.im (af (aY C)) S,.im (af (af ah)) Ld,.mu ah td,ay n] _ _;have RG:cq Ld n=some (Ld.getD n.toNat []):=aT (xs:=Ld) (i:=n) [] n0 (by omega);have Tv:Ld.getD n.toNat []∈Ld:=by
   rw[K5,K2 (show n.toNat<Ld.length by omega)];exact LZ _
  refine ai (aW (TW.tv (bH (mJ (aV (aa 1 rfl) (aa 3 rfl) RG)) (λ_=>bZ (yf RW (fb (C:=C) HC (aV (aa 0 rfl) (aa 3 rfl) (aT (xs:=S) (i:=n) cT n0 n1))))))) (λh=>?_) (λh=>aQ ⟨ay n,?_⟩))
  ·have h:(Ld.getD n.toNat []).isEmpty=false/\mX (aP S n)=false:=by simpa[mX,aP] using h
   have VD:=Rc _ Tv;obtain⟨l,r,hlr⟩:∃l r,Ld.getD n.toNat []=l::r:=by
    cases e:Ld.getD n.toNat [] with
    | nil=>rw[e] at h;exact QE h.1 (by decide)
    | cons l r=>exact⟨l,r,rfl⟩
   have e0:(Ld.getD n.toNat []).getD 0 0=l:=by rw[hlr];rfl
   have hl0:cq (Ld.getD n.toNat []) 0=some l:=by rw[hlr,mG (by decide) (by simp)];rfl
   obtain⟨l0,l1⟩:=VD l (by rw[hlr];exact K4);refine ai (ow 2 (y:=td.getD l.toNat 0) (j:=n.toNat) (mz 2 (aV (aV (aa 1 rfl) (aa 3 rfl) RG) ev_int hl0) rfl rfl (aT (xs:=td) (i:=l) 0 l0 (by omega))) (aa 3 rfl) rfl rfl (xc n0 (by omega)) ⟨ay n,?_⟩);unfold uo;rw[QG h,e0];rfl
  ·have h:¬((Ld.getD n.toNat []).isEmpty=false/\mX (aP S n)=false):=by
    intro z;unfold mX at z;unfold aP at z;rw[z.1,z.2] at h;exact QE h (by decide)
   unfold uo;rw[QF h]
 ·obtain⟨e3,rfl⟩:=hΓ;rw[fJ,show((S.length:Int)-1 - -1).toNat=S.length by omega];exact⟨e3,rfl⟩
 rintro _ ⟨e3,rfl⟩;refine WS.freeze 2 rfl (aE (by rw[jq S.length (My _)];omega)) ?_;exact ai (aN (aa 2 rfl) rfl)
abbrev Rw:=Int×Int×Str×Str
def gK (r:Rw):PV:=.tup [.int r.1,.int r.2.1,.str r.2.2.1,.str r.2.2.2]
def lU (Ld:List Kr)(z:Int×bq):List (Str×Int):=((hJ iY z.2.kind).getD []).zip (Ld.getD z.1.toNat [])
def o8 (St:Kr)(z:Int×bq)(y:Str×Int):Rw:=(z.1,St.getD y.2.toNat 0,y.1,z.2.name)
def gC (Ld:List Kr)(St:Kr)(z:Int×bq):List Rw:=(lU Ld z).map (o8 St z)
def jV (S:List bq)(Ld:List Kr)(St:Kr):List Rw:=(nums S).flatMap (gC Ld St)
theorem uT (Ld:List Kr)(z:Int×bq):(lU Ld z).length<=2:=by
 unfold lU;rw[Mv];refine Mz (MO _ _) ?_;unfold hJ;split
 ·decide
 unfold hJ;split
 ·decide
 unfold hJ;split
 ·decide
 unfold hJ;split
 ·decide
 ·exact MC _
theorem jR {α β:Type}{f:α->List β}{n:Nat}(h:∀x,(f x).length<=n):∀xs:List α,(xs.flatMap f).length<=n*xs.length
 | []=>MC _
 | x::xs=>by
   rw[flatMap_cons,K3,Lg,Nat.mul_succ];have:=h x;have:=jR h xs;omega
theorem jQ (Ld:List Kr)(St:Kr)(z:Int×bq):(gC Ld St z).length<=2:=by unfold gC;rw[KY];exact uT Ld z
abbrev IM:Stmt:=top vm
abbrev nRI:Ks:=["steps","leads","stands","told","number","step","word","lead"]
abbrev pRI:Ks:=["steps","leads","stands"]
def II (C:Addr):cE:=λK ps T=>∃(S:List bq)(Ld:List Kr)(St:Kr),ps=[⟨af (aY C),S⟩,⟨af (af ah),Ld⟩,⟨af ah,St⟩]/\S.length<=1000/\vF S Ld/\St.length=S.length/\T=bN K (af aH) (· =(jV S Ld St).map gK)
theorem HG (M:bS K mg)(HC:bz K C eZ)(RW:j2 P w K mg "ROW_WORDS" iY)(Df:Def K mg "rows_in" IM pRI):aF P w K mg base "rows_in" 1 (aM (II C) K):=by
 refine bE (N:=nRI) Df (λf QP A outer s H E qs T nd hr hS=>?_);obtain⟨S,Ld,St,rfl,hl,⟨Tw,Rc⟩,Sr,rfl⟩:=hS;change WS _ _ [.im (af (aY C)) S,.im (af (af ah)) Ld,dv St,.no,.no,.no,.no,.no] _ _;refine aj (cJ 3 (r:=aH) (ys:=[]) (aG aJ (MC _)) ?_);refine bO (N1:=λΓ=>∃e4 e5 e6 e7,Γ=[.im (af (aY C)) S,.im (af (af ah)) Ld,dv St,.mu aH ((jV S Ld St).map gK),e4,e5,e6,e7]) (cN (λi Γ=>∃e4 e5 e6 e7,Γ=[.im (af (aY C)) S,.im (af (af ah)) Ld,dv St,.mu aH ((((nums S).take i).flatMap (gC Ld St)).map gK),e4,e5,e6,e7]) (ij M.enumerate (aa 0 rfl)) (fw 4 5) ⟨_,_,_,_,rfl⟩ (λi z Γ hz hΓ=>?_) (λΓ hΓ=>?_)) ?_
 ·obtain⟨e4,e5,e6,e7,rfl⟩:=hΓ;obtain⟨n,nl,e1,e2⟩:=js (K7 hz);have il:i<S.length:=by have:=(KW.mp hz).1;rwa [cU] at this
  have fl:=jR (jQ Ld St) ((nums S).take i);have hti:((nums S).take i).length<=i:=by rw[Lc];omega
  have Su:((nums S).take (i+1)).flatMap (gC Ld St)=((nums S).take i).flatMap (gC Ld St)++gC Ld St z:=by
   rw[Lw,hz,List.flatMap_append];simp
  rw[Su];generalize ((nums S).take i).flatMap (gC Ld St)=rs at fl;have rl:rs.length<=2000:=by omega
  obtain⟨zn,zs⟩:=z;dsimp only at e1 e2;subst e1;change WS _ _ [.im (af (aY C)) S,.im (af (af ah)) Ld,dv St,.mu aH (rs.map gK),ay (n:Int),.im (aY C) zs,e6,e7] _ _;have RG:cq Ld (n:Int)=some (Ld.getD n []):=aT (xs:=Ld) (i:=(n:Int)) [] (by omega) (by omega);have Tv:Ld.getD n []∈Ld:=by
   rw[K5,K2 (show n<Ld.length by omega)];exact LZ _
  have VD:=Rc _ Tv;have hzl:=uT Ld ((n:Int),zs);have hzz:lU Ld ((n:Int),zs)=((hJ iY zs.kind).getD []).zip (Ld.getD n []):=rfl;refine ai (cN (λj Γ=>∃e6 e7,Γ=[.im (af (aY C)) S,.im (af (af ah)) Ld,dv St,.mu aH ((rs++((lU Ld ((n:Int),zs)).take j).map (o8 St ((n:Int),zs))).map gK),ay (n:Int),.im (aY C) zs,e6,e7]) (Bi M.zip (BS RW (fb (C:=C) HC (aa 5 rfl)) (uc (xs:=[]) aJ (MC _))) (aV (aa 1 rfl) (aa 4 rfl) RG)) (fw 6 7) ⟨e6,e7,by rw[List.take_zero,Mq,Lh]⟩ (λj y Γ hy hΓ=>?_) (λΓ hΓ=>?_))
  ·obtain⟨e6,e7,rfl⟩:=hΓ;rw[← hzz] at hy;have hjl:j<(lU Ld ((n:Int),zs)).length:=(KW.mp hy).1;have htj:(((lU Ld ((n:Int),zs)).take j).map (o8 St ((n:Int),zs))).length<=2:=by rw[KY,Lc];omega
   have hnj:((lU Ld ((n:Int),zs)).take (j+1)).map (o8 St ((n:Int),zs))=((lU Ld ((n:Int),zs)).take j).map (o8 St ((n:Int),zs))++[o8 St ((n:Int),zs) y]:=by
    rw[Lw,hy,Lj];rfl
   rw[hnj];have Vm:y.2∈Ld.getD n []:=by
    rw[hzz] at hy;exact(Mr (K7 hy)).2
   obtain⟨y0,y1⟩:=VD y.2 Vm;generalize ((lU Ld ((n:Int),zs)).take j).map (o8 St ((n:Int),zs))=ts at htj;obtain⟨yw,yl⟩:=y;refine ai (dO 3 (y:=gK (o8 St ((n:Int),zs) (yw,yl))) (oa (ao (EV.pI (aa 4 rfl)) (ao (EV.pI (aV (aa 2 rfl) (aa 7 rfl) (aT (xs:=St) (i:=yl) 0 y0 (by omega)))) (ao (EV.pS (aa 6 rfl)) (ao (EV.pS (mS (C:=C) HC (aa 5 rfl))) aJ)))) (by show 4<=Nb;decide)) rfl rfl (ME (show _<=3000 by rw[KY,K3];omega) (by decide)) ⟨.im ag yw,ay yl,?_⟩);rw[← LX,Lj (l₁:=rs++ts)];rfl
  ·obtain⟨e6,e7,rfl⟩:=hΓ;refine⟨ay (n:Int),.im (aY C) zs,e6,e7,?_⟩;rw[← hzz,LA];rfl
 ·obtain⟨e4,e5,e6,e7,rfl⟩:=hΓ;refine⟨e4,e5,e6,e7,?_⟩;rw[LA];rfl
 rintro _ ⟨e4,e5,e6,e7,rfl⟩;have fl:=jR (jQ Ld St) (nums S);rw[cU] at fl;refine WS.freeze 3 rfl (aE (by rw[KY];unfold jV;omega)) ?_;exact ai (aN (aa 3 rfl) rfl)
structure cf where
 S:List bq
 parts:List fX
 Ld:List Kr
 St:Kr
 rows:List Rw
abbrev eN:Ks:=["steps","parts","leads","stands","rows"]
theorem cP (h:decide (x∈eN)=true):x∈eN:=QH h
def Iv (C:Addr)(s:cf):iF:=[("steps",(af (aY C)).at_ s.S),("parts",(af aH).at_ (s.parts.map dM)),("leads",(af (af ah)).at_ s.Ld),("stands",(af ah).at_ s.St),("rows",(af aH).at_ (s.rows.map gK))]
def ck (C D:Addr):Rep cf:=⟨λK R v s=>∃x dx vs,v= .ref x/\R x=some (.ins D dx vs)/\eV (Iv C s) K R vs,λs ⟨x,dx,vs,e,h1,h2⟩=>⟨x,dx,vs,e,s _ _ h1,h2.mono s⟩⟩
variable {s:cf}{D:Addr}
theorem my (hC:bz X.K D eN)(he:EV X e Γ (ck C D) s Γ1)(hb:Ni e "steps" X.env (eval e X.env)=eval e X.env:=by rfl):EV X (.Attribute e "steps" pos) Γ (af (aY C)) s.S Γ1:=ie hC (cP (by decide)) he (λK R v ⟨x,dx,vs,e,h1,h2⟩=>by obtain⟨u,q1,q2⟩:=h2.get (f:="steps") rfl;exact⟨x,dx,vs,u,e,h1,q1,q2⟩) hb
theorem ib (hC:bz X.K D eN)(he:EV X e Γ (ck C D) s Γ1)(hb:Ni e "parts" X.env (eval e X.env)=eval e X.env:=by rfl):EV X (.Attribute e "parts" pos) Γ (af aH) (s.parts.map dM) Γ1:=ie hC (cP (by decide)) he (λK R v ⟨x,dx,vs,e,h1,h2⟩=>by obtain⟨u,q1,q2⟩:=h2.get (f:="parts") rfl;exact⟨x,dx,vs,u,e,h1,q1,q2⟩) hb
theorem GC (hC:bz X.K D eN)(he:EV X e Γ (ck C D) s Γ1)(hb:Ni e "leads" X.env (eval e X.env)=eval e X.env:=by rfl):EV X (.Attribute e "leads" pos) Γ (af (af ah)) s.Ld Γ1:=ie hC (cP (by decide)) he (λK R v ⟨x,dx,vs,e,h1,h2⟩=>by obtain⟨u,q1,q2⟩:=h2.get (f:="leads") rfl;exact⟨x,dx,vs,u,e,h1,q1,q2⟩) hb
theorem Hd (hC:bz X.K D eN)(he:EV X e Γ (ck C D) s Γ1)(hb:Ni e "stands" X.env (eval e X.env)=eval e X.env:=by rfl):EV X (.Attribute e "stands" pos) Γ (af ah) s.St Γ1:=ie hC (cP (by decide)) he (λK R v ⟨x,dx,vs,e,h1,h2⟩=>by obtain⟨u,q1,q2⟩:=h2.get (f:="stands") rfl;exact⟨x,dx,vs,u,e,h1,q1,q2⟩) hb
theorem vp (hC:bz X.K D eN)(he:EV X e Γ (ck C D) s Γ1)(hb:Ni e "rows" X.env (eval e X.env)=eval e X.env:=by rfl):EV X (.Attribute e "rows" pos) Γ (af aH) (s.rows.map gK) Γ1:=ie hC (cP (by decide)) he (λK R v ⟨x,dx,vs,e,h1,h2⟩=>by obtain⟨u,q1,q2⟩:=h2.get (f:="rows") rfl;exact⟨x,dx,vs,u,e,h1,q1,q2⟩) hb
structure nK (S:List bq)(Ld:List Kr):Prop where
 l:S.length<=1000
 ld:AL S Ld
 li:vF S Ld
 pt:∀n:Nat,n<S.length->aP S (n:Int)="part"->(cF (gH S) (n:Int)).isSome
def dw (S:List bq)(Ld:List Kr):cf:=⟨S,jw S,Ld,gL S Ld,jV S Ld (gL S Ld)⟩
abbrev mK:Stmt:=match top zl with
 | .ClassDef _ _ _ b _ _ _ _ _ _ _=>b.getD 0 (.Pass ⟨0,0,0,0⟩)
 | s=>s
abbrev lI:Ks:=["self","text"]
theorem vi:aZ lI lI (ak mK):=RQ
def Jg (C D0:Addr):xp:=λK D ps Pd=>D=D0/\∃(x:Str)(S:List bq)(Ld:List Kr),ps=[⟨ag,x⟩]/\vN x S/\nK S Ld/\Pd=λfs=>fs=Iv C (dw S Ld)
theorem Ib (HD:bz K D eN)(CR:aF P w K mg base "read" 3 (aM (Iq C) K))(CP:aF P w K mg base "parts_in" 2 (aM (Ih C) K))(CL:aF P w K mg base "leads_in" 3 (aM (Ii C) K))(CS:aF P w K mg base "stands_in" 1 (aM (IQ C) K))(CW:aF P w K mg base "rows_in" 1 (aM (II C) K))(F:cK K "__init__" "Spots.__init__" mK f fd):cy P w K mg base c8 4 f fd lI (ug (Jg C D) K):=by
 have nd:=vi.nd;have CP:=CP.mono (show 2<=3 by decide);have CS:=CS.mono (show 1<=3 by decide);have CW:=CW.mono (show 1<=3 by decide);refine xO (k:=3) F vi (λD qs Pd ⟨_,_,_,_,e,_⟩=>by rw[e];rfl) (λQP A outer st H E D' x dx qs Pd hr hS=>?_);obtain⟨rfl,tx,S,Ld,rfl,hx,V8,rfl⟩:=hS;have SM:=V8.l;refine aj (fK 0 HD (cP (by decide)) (aB (y:=S) (r:=af (aY C)) CR hr (ae (aa 1 rfl) au) ⟨tx,S,rfl,hx,rfl⟩) rfl rfl (by show 0<1000;decide) ?_);refine aj (fK 0 HD (cP (by decide)) (aB CP hr (ae (jL 0 HD (cP (by decide)) rfl rfl) au) ⟨S,rfl,SM,V8.pt,rfl⟩) rfl rfl (by show 1<1000;decide) ?_);refine aj (fK 0 HD (cP (by decide)) (aB CL hr (ae (jL 0 HD (cP (by decide)) rfl rfl) au) ⟨S,Ld,rfl,SM,V8.ld,rfl⟩) rfl rfl (by show 2<1000;decide) ?_);refine aj (fK 0 HD (cP (by decide)) (aB CS hr (ae (jL 0 HD (cP (by decide)) rfl rfl) (ae (jL 0 HD (cP (by decide)) rfl rfl) au)) ⟨S,Ld,rfl,SM,V8.li,rfl⟩) rfl rfl (by show 3<1000;decide) ?_);exact ai (fK 0 HD (cP (by decide)) (aB CW hr (ae (jL 0 HD (cP (by decide)) rfl rfl) (ae (jL 0 HD (cP (by decide)) rfl rfl) (ae (jL 0 HD (cP (by decide)) rfl rfl) au))) ⟨S,Ld,gL S Ld,rfl,SM,V8.li,jq S.length (My _),rfl⟩) rfl rfl (by show 4<1000;decide) ⟨_,rfl,rfl⟩)
structure mP (P:Nf)(w:World)(K:P1)(mg:Kp)(base:Heap)(C D:Addr):Prop where
 cl:bz K D eN
 ex:∃fi RP,Mk K D fi/\cy P w K mg base c8 4 fi RP lI (ug (Jg C D) K)/\Binds K RP lI []
 mg:mg "Spots"=some (.ref D)
theorem qM {p:Pos}(G:mP X.prog X.w X.K X.mg X.base C D)(hr:br 5 X.A)(ha:HA X [e] Γ [⟨ag,x⟩] Γ1)(hx:vN x S)(hk:nK S Ld)(hg:Gl X "Spots":=by rfl)(he:Nc [e] X.env=(false,eval e X.env)::Nc [] X.env:=by rfl)(Q3:(Nk pos (Nc [] X.env)).any (·.1)=false:=by rfl):EV X (.Call (.Name "Spots" p) [e] [] pos) Γ (ck C D) (dw S Ld) Γ1:=by
 obtain⟨fi,RP,MK,SI,bi⟩:=G.ex;exact t6 MK SI hr G.mg bi ha ⟨rfl,x,S,Ld,rfl,hx,hk,rfl⟩ (λfs R x dx vs hP h1 h2=>by subst hP;exact⟨x,dx,vs,rfl,h2,h1⟩) hg (by decide) he Q3
def DJ (CN:Addr):iD:=λK ps o=>∃(a:Addr)(x:Str)(k:Int),ps=[⟨yL,a⟩,⟨ag,x⟩]/\zU x k/\o=xw CN k
theorem Dd (CR:g7 P w K mg base "read" 4 (gO (FV CN) K))(F:cK K "__init__" "Spots.__init__" mK f fd):cy P w K mg base (bY P w) 5 f fd lI (gO (DJ CN) K):=by
 have nd:=vi.nd;refine Cf (k:=4) F vi (λqs o ⟨_,_,_,e,_⟩=>by rw[e];rfl) (λqs T ⟨_,_,_,_,_,e⟩=>by cases e) (λQP A outer st H R E qs c fs hr hS q=>?_);obtain⟨a,x,k,rfl,hx,e⟩:=hS;cases e
 exact Dc 0 (a:=a) (mh CR hr (ae (aa 1 rfl) au) ⟨x,k,rfl,hx,rfl⟩ q)
structure wj (P:Nf)(w:World)(K:P1)(mg:Kp)(base:Heap)(CN D:Addr):Prop where
 ex:∃fi RP,Mk K D fi/\cy P w K mg base (bY P w) 5 fi RP lI (gO (DJ CN) K)/\Binds K RP lI []
 mg:mg "Spots"=some (.ref D)
theorem yS :∃n,g8 ws n/\((rx ws n).w=ws.length/\(rx ws n).O=[]∨∃k,h8 ws (rx ws n) k):=by
 have key:∀m n,g8 ws n->(rx ws n).w<=ws.length->ws.length<=(rx ws n).w+m->∃n,g8 ws n/\((rx ws n).w=ws.length/\(rx ws n).O=[]∨∃k,h8 ws (rx ws n) k):=by
  intro m
  induction m with
  | zero=>
    intro n h hw hm;by_cases ho:(rx ws n).O=[]
    ·exact⟨n,h,.inl ⟨by omega,ho⟩⟩
    ·exact⟨n,h,.inr ⟨_,.more (by omega) ho⟩⟩
  | succ m ih=>
    intro n h hw hm;rcases MG (rx ws n).w ws.length with lt | ge
    ·cases UC:cM (Rh ws (rx ws n)) ((rx ws n).O.map (aP (rx ws n).S)) with
     | false=>exact⟨n,h,.inr ⟨_,.may lt UC⟩⟩
     | true=>
       by_cases hb:Rh ws (rx ws n)∈named/\((rx ws n).w+1=ws.length∨f6 (ws.getD ((rx ws n).w+1) "")=false)
       ·exact⟨n,h,.inr ⟨_,.nm lt UC hb.1 hb.2⟩⟩
       ·have hn:Rh ws (rx ws n)∈named->(rx ws n).w+1<ws.length/\f6 (ws.getD ((rx ws n).w+1) "")=true:=λz=>by
         refine⟨?_,?_⟩
         ·rcases MG ((rx ws n).w+1) ws.length with q | q
          ·exact q
          ·exact QE ⟨z,.inl (by omega)⟩ hb
         ·cases q:f6 (ws.getD ((rx ws n).w+1) "") with
          | true=>rfl
          | false=>exact QE ⟨z,.inr q⟩ hb
        have e:(rx ws (n+1)).w=(rx ws n).w+(if Rh ws (rx ws n)∈named then 2 else 1):=rfl;have e2:(rx ws n).w+1<=(rx ws (n+1)).w/\(rx ws (n+1)).w<=ws.length:=by
         rw[e];by_cases z:Rh ws (rx ws n)∈named
         ·rw[QG z];have:=(hn z).1;omega
         ·rw[QF z];omega
        refine ih (n+1) (λi hi=>?_) e2.2 (by omega);rcases MG i n with q | q
        ·exact h i q
        ·obtain rfl:i=n:=by omega
         exact⟨lt,UC,hn⟩
    ·by_cases ho:(rx ws n).O=[]
     ·exact⟨n,h,.inl ⟨by omega,ho⟩⟩
     ·exact⟨n,h,.inr ⟨_,.more (by omega) ho⟩⟩
 exact key ws.length 0 (λi h=>by omega) (MC _) (by omega)
theorem wY (W:iV ws):(∃n,g8 ws n/\rx ws n=⟨(rx ws n).S,[],ws.length⟩)∨∃n k,g8 ws n/\h8 ws (rx ws n) k:=by
 obtain⟨n,h,⟨h1,h2⟩ | ⟨k,h1⟩⟩:=yS (ws:=ws)
 ·refine .inl ⟨n,h,?_⟩;generalize rx ws n=y at h1 h2;obtain⟨S,O,w⟩:=y;dsimp only at h1 h2;rw[h1,h2]
 ·exact .inr ⟨n,k,h,h1⟩
theorem ma {k:Str}(h:cM k ks=true):(ks=[]/\k="part")∨(ks≠[]/\(("while":Str)∈ks/\k="leave"∨ks.getLast?.getD ""="if"/\k="else"∨ks.getLast?.getD ""≠"if"/\k="end"∨k="do"∨k="call"∨k="if"∨k="while"∨k="back")):=by
 unfold cM at h;cases ks with
 | nil=>exact .inl ⟨rfl,QH h⟩
 | cons a r=>
   refine .inr ⟨cons_ne_nil _ _,?_⟩;rw[QF (by simp)] at h;by_cases h1:k="leave"
   ·rw[QG h1] at h;exact .inl ⟨QH h,h1⟩
   rw[QF h1] at h;by_cases h2:k="else"
   ·rw[QG h2] at h;exact .inr (.inl ⟨QH h,h2⟩)
   rw[QF h2] at h;by_cases h3:k="end"
   ·rw[QG h3] at h;exact .inr (.inr (.inl ⟨by simpa using h,h3⟩))
   rw[QF h3] at h;have:=QH h;simp only[RE,K8,Le,or_false] at this;rcases this with e | e | e | e | e | e
   ·exact .inr (.inr (.inr (.inl e)))
   ·exact .inr (.inr (.inr (.inr (.inl e))))
   ·exact .inr (.inr (.inr (.inr (.inr (.inl e)))))
   ·exact .inr (.inr (.inr (.inr (.inr (.inr (.inl e))))))
   ·exact QE e h1
   ·exact .inr (.inr (.inr (.inr (.inr (.inr (.inr e))))))
abbrev fu (O:Kr):Int:=O.getLast?.getD (-1)
inductive gN (S:List bq):Kr->Prop
 | one {a:Int} (h:aP S a="part") (h0:0<=a) (h1:a<(S.length:Int)):gN S [a]
 | push {O:Kr} {b:Int} (hO:gN S O) (hk:aP S b="if"∨aP S b="while") (hw:bU S b=fu O) (h0:0<=b) (h1:b<(S.length:Int)):gN S (O++[b])
 | SR {O:Kr} {a e:Int} (hO:gN S (O++[a])) (ha:aP S a="if") (hk:aP S e="else") (hw:bU S e=a) (h0:0<=e) (h1:e<(S.length:Int)):gN S (O++[e])
theorem gP {a:Int}:fu (O++[a])=a:=by simp[fu]
theorem gN.ne (h:gN S O):O≠[]:=by cases h<;>simp
theorem gN.pop (h:gN S O):(O.dropLast=[]/\aP S (fu O)="part")∨gN S O.dropLast:=by
 induction h with
 | one h h0 h1=>exact .inl ⟨rfl,h⟩
 | push hO hk hw h0 h1 ih=>rw[L4];exact .inr hO
 | SR hO ha hk hw h0 h1 ih=>
   rw[L4,gP,ha] at ih;rcases ih with⟨_,e⟩ | ih
   ·exact QE e (by decide +kernel)
   ·rw[L4];exact .inr ih
theorem gN.last (h:gN S O):(0<=fu O/\fu O<(S.length:Int))/\(aP S (fu O)="part"∨aP S (fu O)="if"∨aP S (fu O)="while"∨aP S (fu O)="else"):=by
 cases h with
 | one h h0 h1=>exact⟨⟨h0,h1⟩,.inl h⟩
 | push hO hk hw h0 h1=>rw[gP];exact⟨⟨h0,h1⟩,by rcases hk with h | h<;>simp[h]⟩
 | SR hO ha hk hw h0 h1=>rw[gP];exact⟨⟨h0,h1⟩,by simp[hk]⟩
theorem gN.part (h:gN S O):("part":Str)∈O.map (aP S):=by
 induction h with
 | one h h0 h1=>rw[Mj,h];exact KZ.mpr rfl
 | push hO hk hw h0 h1 ih=>rw[Lj];exact Lk _ ih
 | SR hO ha hk hw h0 h1 ih=>
   rw[Lj] at ih ⊢;rcases Lf.mp ih with z | z
   ·exact Lk _ z
   ·rw[Mj,ha] at z;exact QE (KZ.mp z) (by decide +kernel)
inductive uh (S:List bq) (kd:Str):Int->Int->Prop
 | here {a:Int} (h0:0<=a) (h1:a<(S.length:Int)) (h:aP S a=kd):uh S kd a a
 | up {a b:Int} (h0:0<=a) (h1:a<(S.length:Int)) (h:aP S a≠kd) (q:uh S kd (bU S a) b):uh S kd a b
theorem gN.up {kd:Str}(h:gN S O)(hk:kd="while"∨kd="part")(hm:kd∈O.map (aP S)):∃b,uh S kd (fu O) b:=by
 induction h with
 | one h h0 h1=>
   rw[Mj] at hm;exact⟨_,.here h0 h1 (KZ.mp hm).symm⟩
 | @push O b hO S8 hw h0 h1 ih=>
   rw[gP];by_cases e:aP S b=kd
   ·exact⟨b,.here h0 h1 e⟩
   ·rw[Lj] at hm;rcases Lf.mp hm with z | z
    ·obtain⟨c,hc⟩:=ih z;exact⟨c,.up h0 h1 e (by rw[hw];exact hc)⟩
    ·exact QE (KZ.mp z).symm e
 | @SR O a e hO ha S8 hw h0 h1 ih=>
   rw[gP] at ih ⊢;have ne:aP S e≠kd:=by rw[S8];rcases hk with r | r<;>rw[r]<;>decide +kernel
   rw[Lj] at hm ih;rcases Lf.mp hm with z | z
   ·obtain⟨c,hc⟩:=ih (Lk _ z);exact⟨c,.up h0 h1 ne (by rw[hw];exact hc)⟩
   ·exact QE (KZ.mp z).symm ne
theorem i9 {α:Type}{f:α->α}{x:α}:∀k,Q9 f k (f x)=Q9 f (k+1) x
 | 0=>rfl
 | k+1=>by rw[Q9,i9 k];rfl
theorem uh.ar {a b:Int}(h:uh S kd a b):(aP S b=kd/\0<=b/\b<(S.length:Int))/\∃k:Nat,Q9 (bU S) k a=b/\(∀j,j<=k->0<=Q9 (bU S) j a/\Q9 (bU S) j a<(S.length:Int))/\(∀j,j<k->aP S (Q9 (bU S) j a)≠kd):=by
 induction h with
 | here h0 h1 h=>exact⟨⟨h,h0,h1⟩,0,rfl,λj hj=>by rw[show j=0 by omega];exact⟨h0,h1⟩,λj hj=>by omega⟩
 | @up a b h0 h1 h q ih=>
   obtain⟨r,k,e,Rc,Q5⟩:=ih;refine⟨r,k+1,by rw[← i9];exact e,λj hj=>?_,λj hj=>?_⟩
   ·cases j with
    | zero=>exact⟨h0,h1⟩
    | succ j=>rw[← i9];exact Rc j (by omega)
   ·cases j with
    | zero=>exact h
    | succ j=>rw[← i9];exact Q5 j (by omega)
theorem qQ (ws:Ks)(i:Nat):∀j,∃t,(rx ws (i+j)).S=(rx ws i).S++t
 | 0=>⟨[],by simp⟩
 | j+1=>by
   obtain⟨t,e⟩:=qQ ws i j;exact⟨t++[nO (Rh ws (rx ws (i+j))) (if Rh ws (rx ws (i+j))∈named then ws.getD ((rx ws (i+j)).w+1) "" else "") (rx ws (i+j))],by
    show(rx ws (i+j)).S++_=_;rw[e,LX];rfl⟩
theorem DK (h:i<n):(rx ws n).S.getD i cT=nO (Rh ws (rx ws i)) (if Rh ws (rx ws i)∈named then ws.getD ((rx ws i).w+1) "" else "") (rx ws i):=by
 obtain⟨t,e⟩:=qQ ws (i+1) (n-(i+1));rw[show i+1+(n-(i+1))=n by omega] at e;have hl:=(eF ws i).1;have e2:(rx ws (i+1)).S=(rx ws i).S++[nO (Rh ws (rx ws i)) (if Rh ws (rx ws i)∈named then ws.getD ((rx ws i).w+1) "" else "") (rx ws i)]:=rfl;rw[e,e2,LX,K5,Lo (by omega),hl,Nat.sub_self];rfl
abbrev fS (ws:Ks)(n:Nat):List bq:=(rx ws n).S
theorem Ie (h:i<n):aP (fS ws n) (i:Int)=Rh ws (rx ws i):=by
 show((rx ws n).S.getD ((i:Int).toNat) cT).kind=_;rw[show((i:Int)).toNat=i by omega,DK h];rfl
theorem qp (h:i<n):bU (fS ws n) (i:Int)=fu (rx ws i).O:=by
 show((rx ws n).S.getD ((i:Int).toNat) cT).within=_;rw[show((i:Int)).toNat=i by omega,DK h];rfl
theorem DH (h:i<=n):(rx ws i).O.map (aP (rx ws i).S)=(rx ws i).O.map (aP (fS ws n)):=by
 obtain⟨t,e⟩:=qQ ws i (n-i);rw[show i+(n-i)=n by omega] at e;obtain⟨a,_,_,d⟩:=eF ws i;unfold fS;rw[e,ou (by rw[a];exact d)]
theorem mE:(fS ws n).length=n:=(eF ws n).1
theorem Jx (i:Nat):(rx ws (i+1)).O=(if Rh ws (rx ws i)∈QT then(rx ws i).O.dropLast else(rx ws i).O)++(if Rh ws (rx ws i)∈Q4 then[(i:Int)] else[]):=by
 show _++(if Rh ws (rx ws i)∈Q4 then[((rx ws i).S.length:Int)] else[])=_;rw[(eF ws i).1]
theorem Bl (h:O≠[]):(O.map (aP S)).getLast?.getD ""=aP S (fu O):=by
 obtain⟨l,x,rfl⟩:∃l x,O=l++[x]:=⟨O.dropLast,O.getLast h,(Li h).symm⟩;rw[gP];simp
theorem iA (hr:g8 ws n)(h:i<n):((rx ws i).O=[]/\aP (fS ws n) i="part"/\(rx ws (i+1)).O=[(i:Int)])∨((rx ws i).O≠[]/\(
 (("while":Str)∈(rx ws i).O.map (aP (fS ws n))/\aP (fS ws n) i="leave"/\(rx ws (i+1)).O=(rx ws i).O)∨
 (aP (fS ws n) (fu (rx ws i).O)="if"/\aP (fS ws n) i="else"/\(rx ws (i+1)).O=(rx ws i).O.dropLast++[(i:Int)])∨
 (aP (fS ws n) (fu (rx ws i).O)≠"if"/\aP (fS ws n) i="end"/\(rx ws (i+1)).O=(rx ws i).O.dropLast)∨
 ((aP (fS ws n) i="do"∨aP (fS ws n) i="call"∨aP (fS ws n) i="back")/\(rx ws (i+1)).O=(rx ws i).O)∨
 ((aP (fS ws n) i="if"∨aP (fS ws n) i="while")/\(rx ws (i+1)).O=(rx ws i).O++[(i:Int)]))):=by
 have hm:=(hr i h).may;rw[DH (n:=n) (by omega)] at hm;rw[Jx,Ie h];generalize Rh ws (rx ws i)=k at hm;have nc:∀{k:Str},k∉QT->k∉Q4->∀{O:Kr},(if k∈QT then O.dropLast else O)++(if k∈Q4 then[(i:Int)] else[])=O:=λh1 h2 O=>by rw[QF h1,QF h2,Lh]
 have no:∀{k:Str},k∉QT->k∈Q4->∀{O:Kr},(if k∈QT then O.dropLast else O)++(if k∈Q4 then[(i:Int)] else[])=O++[(i:Int)]:=λh1 h2 O=>by rw[QF h1,QG h2]
 rcases ma hm with⟨h1,rfl⟩ | ⟨h1,h2⟩
 ·have h1:=List.map_eq_nil_iff.mp h1;refine .inl ⟨h1,rfl,?_⟩;rw[h1];rfl
 ·have h1:(rx ws i).O≠[]:=λe=>h1 (by rw[e];rfl);rw[Bl h1] at h2;refine .inr ⟨h1,?_⟩;rcases h2 with⟨a,rfl⟩ | ⟨a,rfl⟩ | ⟨a,rfl⟩ | rfl | rfl | rfl | rfl | rfl
  ·exact .inl ⟨a,rfl,nc (by decide +kernel) (by decide +kernel)⟩
  ·exact .inr (.inl ⟨a,rfl,by rw[QG (by decide +kernel),QG (by decide +kernel)]⟩)
  ·exact .inr (.inr (.inl ⟨a,rfl,by rw[QG (by decide +kernel),QF (by decide +kernel),Lh]⟩))
  ·exact .inr (.inr (.inr (.inl ⟨.inl rfl,nc (by decide +kernel) (by decide +kernel)⟩)))
  ·exact .inr (.inr (.inr (.inl ⟨.inr (.inl rfl),nc (by decide +kernel) (by decide +kernel)⟩)))
  ·exact .inr (.inr (.inr (.inr ⟨.inl rfl,no (by decide +kernel) (by decide +kernel)⟩)))
  ·exact .inr (.inr (.inr (.inr ⟨.inr rfl,no (by decide +kernel) (by decide +kernel)⟩)))
  ·exact .inr (.inr (.inr (.inl ⟨.inr (.inr rfl),nc (by decide +kernel) (by decide +kernel)⟩)))
theorem sG (hr:g8 ws n):∀i,i<=n->(rx ws i).O=[]∨gN (fS ws n) (rx ws i).O
 | 0,_=>.inl rfl
 | i+1,h=>by
   have hl:=mE (ws:=ws) (n:=n);have i0:(0:Int)<=(i:Int):=by omega
   have i1:(i:Int)<((fS ws n).length:Int):=by omega
   have wi:=qp (ws:=ws) (n:=n) (i:=i) h;have ih:=sG hr i (by omega);rcases iA hr (i:=i) h with⟨e1,e2,e3⟩ | ⟨e1,e2⟩
   ·rw[e3];exact .inr (.one e2 i0 i1)
   ·have ih:=ih.resolve_left e1;rcases e2 with⟨a,b,c⟩ | ⟨a,b,c⟩ | ⟨a,b,c⟩ | ⟨b,c⟩ | ⟨b,c⟩
    ·rw[c];exact .inr ih
    ·rw[c];refine .inr (.SR (a:=fu (rx ws i).O) ?_ a b wi i0 i1);have:(rx ws i).O.dropLast++[fu (rx ws i).O]=(rx ws i).O:=by
      obtain⟨l,x,e⟩:∃l x,(rx ws i).O=l++[x]:=⟨_,_,(Li e1).symm⟩;rw[e,gP,L4]
     rw[this];exact ih
    ·rw[c];rcases ih.pop with⟨z,_⟩ | z
     ·exact .inl z
     ·exact .inr z
    ·rw[c];exact .inr ih
    ·rw[c];exact .inr (.push ih b wi i0 i1)
theorem ir (he:(rx ws n).O=[])(h:i<n)(ho:(rx ws (i+1)).O≠[]):i+1<n:=by
 rcases MG (i+1) n with z | z
 ·exact z
 ·exact QE (by rw[show i+1=n by omega];exact he) ho
theorem y6 {a b:Option Int}(h:a.map V.int=b.map V.int):a=b:=by
 cases a<;>cases b<;>simp at h<;>simp[h]
theorem yK (F:Kx)(k v j:Int):cF (eM F k v) j=if j=k then some v else cF F j:=by
 have h:=yU (bV (cC F)) (Sum.inl k:Key) (Sum.inl j) (.int v);rw[nD,jE,jE] at h;apply y6;rw[h];by_cases e:j=k
 ·rw[QG (by rw[e]),QG e];rfl
 ·rw[QF (λz=>e (Sum.inl.inj z)),QF e]
theorem uf {a:Int}:∀(zs:List (Int×bq))(F:Kx),(cF (zs.foldl eU F) a=cF F a/\∀z∈zs,z.2.kind∈QT->z.2.within≠a)∨∃z∈zs,z.2.kind∈QT/\z.2.within=a/\cF (zs.foldl eU F) a=some z.1
 | [],F=>.inl ⟨rfl,λz h=>by cases h⟩
 | z::zs,F=>by
   rw[foldl_cons];rcases uf (a:=a) zs (eU F z) with⟨e,hn⟩ | ⟨y,hy,q⟩
   ·rw[e];unfold eU;by_cases hk:z.2.kind∈QT
    ·rw[QG hk,yK];by_cases hw:a=z.2.within
     ·rw[QG hw];exact .inr ⟨z,K4,hk,hw.symm,rfl⟩
     ·rw[QF hw];refine .inl ⟨rfl,λy hy S8=>?_⟩;rcases K8.mp hy with rfl | hy
      ·exact λq=>hw q.symm
      ·exact hn y hy S8
    ·rw[QF hk];refine .inl ⟨rfl,λy hy S8=>?_⟩;rcases K8.mp hy with rfl | hy
     ·exact QE S8 hk
     ·exact hn y hy S8
   ·exact .inr ⟨y,K0 _ hy,q⟩
theorem jK (hr:g8 ws n)(he:(rx ws n).O=[]){a:Int}:∀d j,j+d=n->a∈(rx ws j).O->∃m,m<n/\(aP (fS ws n) (m:Int)="else"∨aP (fS ws n) (m:Int)="end")/\fu (rx ws m).O=a
 | 0,j,h,ha=>by
   rw[show j=n by omega,he] at ha;cases ha
 | d+1,j,h,ha=>by
   have jn:j<n:=by omega
   have dl:a∈(rx ws j).O->a∉(rx ws j).O.dropLast->fu (rx ws j).O=a:=λh1 h2=>by
    have Q5:(rx ws j).O≠[]:=λe=>by rw[e] at h1;cases h1
    obtain⟨l,x,e⟩:∃l x,(rx ws j).O=l++[x]:=⟨_,_,(Li Q5).symm⟩;rw[e] at h1 h2 ⊢;rw[L4] at h2;rw[gP];rcases Lf.mp h1 with z | z
    ·exact QE z h2
    ·exact(KZ.mp z).symm
   rcases iA hr jn with⟨e1,_⟩ | ⟨_,⟨_,_,c⟩ | ⟨_,b,c⟩ | ⟨_,b,c⟩ | ⟨_,c⟩ | ⟨_,c⟩⟩
   ·rw[e1] at ha;cases ha
   ·exact jK hr he d (j+1) (by omega) (by rw[c];exact ha)
   ·by_cases z:a∈(rx ws j).O.dropLast
    ·exact jK hr he d (j+1) (by omega) (by rw[c];exact Lk _ z)
    ·exact⟨j,jn,.inl b,dl ha z⟩
   ·by_cases z:a∈(rx ws j).O.dropLast
    ·exact jK hr he d (j+1) (by omega) (by rw[c];exact z)
    ·exact⟨j,jn,.inr b,dl ha z⟩
   ·exact jK hr he d (j+1) (by omega) (by rw[c];exact ha)
   ·exact jK hr he d (j+1) (by omega) (by rw[c];exact Lk _ ha)
theorem BQ (h:i<S.length):((i:Int),S.getD i cT)∈nums S:=by
 refine K7 (i:=i) ?_;unfold nums;rw[K9,List.getElem?_zipIdx,K5,K2 h];simp
theorem closed (hr:g8 ws n)(he:(rx ws n).O=[]){a:Int}(h0:0<=a)(h1:a<(n:Int))(hk:aP (fS ws n) a="part"∨aP (fS ws n) a="if"∨aP (fS ws n) a="while"∨aP (fS ws n) a="else"):∃c:Int,cF (gH (fS ws n)) a=some c/\0<=c/\c<(n:Int)/\(aP (fS ws n) a≠"part"->c+1<(n:Int)):=by
 obtain⟨i,rfl⟩:∃i:Nat,a=(i:Int):=⟨a.toNat,by omega⟩;have Rc:i<n:=by omega
 have ha:(i:Int)∈(rx ws (i+1)).O:=by
  rcases iA hr Rc with⟨_,_,c⟩ | ⟨_,⟨_,b,c⟩ | ⟨_,b,c⟩ | ⟨_,b,c⟩ | ⟨b,c⟩ | ⟨_,c⟩⟩
  ·rw[c];exact KZ.mpr rfl
  ·rw[b] at hk;exact QE hk (by decide +kernel)
  ·rw[c];exact La _ (KZ.mpr rfl)
  ·rw[b] at hk;exact QE hk (by decide +kernel)
  ·rcases b with b | b | b<;>rw[b] at hk<;>exact QE hk (by decide +kernel)
  ·rw[c];exact La _ (KZ.mpr rfl)
 obtain⟨m,mn,mk,mw⟩:=jK hr he (n-(i+1)) (i+1) (by omega) ha;have hl:=mE (ws:=ws) (n:=n);have cg:∀{k:Str},k="else"∨k="end"->k∈QT:=λh=>by rcases h with rfl | rfl<;>decide +kernel
 rcases uf (a:=(i:Int)) (nums (fS ws n)) [] with⟨_,hn⟩ | ⟨z,hz,zk,zw,zg⟩
 ·refine QE ?_ (hn _ (BQ (i:=m) (by omega)) ?_)
  ·have:=qp (ws:=ws) (n:=n) mn;rw[mw] at this;exact this
  ·exact cg mk
 ·obtain⟨c,cl,e1,e2⟩:=js hz;have cn:c<n:=by omega
  have kc:aP (fS ws n) (c:Int)=z.2.kind:=by rw[← e2];rfl
  have wc:fu (rx ws c).O=(i:Int):=by rw[← qp (n:=n) cn,← zw,← e2];rfl
  refine⟨(c:Int),by rw[← e1];exact zg,by omega,by omega,λhp=>?_⟩;have Sv:=sG hr c (by omega);have nz:(rx ws c).O≠[]:=λz=>by
   rw[z] at wc;have:(-1:Int)=(i:Int):=wc;omega
  have Sv:=Sv.resolve_left nz;have hd:(rx ws c).O.dropLast≠[]:=λz=>by
   rcases Sv.pop with⟨_,q⟩ | q
   ·rw[wc] at q;exact hp q
   ·exact q.ne z
  have:=ir he cn ?_
  ·omega
  ·rcases iA hr cn with⟨e,_⟩ | ⟨_,⟨_,b,_⟩ | ⟨_,b,c'⟩ | ⟨_,b,c'⟩ | ⟨b,_⟩ | ⟨b,_⟩⟩
   ·exact QE e nz
   ·rw[← kc,b] at zk;exact QE zk (by decide +kernel)
   ·rw[c'];simp
   ·rw[c'];exact hd
   ·rw[← kc] at zk;rcases b with b | b | b<;>rw[b] at zk<;>exact QE zk (by decide +kernel)
   ·rw[← kc] at zk;rcases b with b | b<;>rw[b] at zk<;>exact QE zk (by decide +kernel)
theorem BU (hr:g8 ws n)(he:(rx ws n).O=[])(h:i<n):∃ls,gu (fS ws n) (gH (fS ws n)) (i:Int) ls/\(∀l∈ls,0<=l/\l<(n:Int))/\ls.length<=2:=by
 have hl:=mE (ws:=ws) (n:=n);have wi:=qp (ws:=ws) (n:=n) (i:=i) h;have cls:=λ{a:Int} h0 h1 hk=>closed hr he (a:=a) h0 h1 hk;have r1:∀{l:Int},0<=l->l<(n:Int)->∀x∈[l],0<=x/\x<(n:Int):=λh0 h1 x hx=>by rw[KZ.mp hx];exact⟨h0,h1⟩
 rcases iA hr h with⟨e1,e2,e3⟩ | ⟨e1,e2⟩
 ·have:=ir he h (by rw[e3];simp);exact⟨[(i:Int)+1],.Tr (.inl e2),r1 (by omega) (by omega),by simp⟩
 ·have ch:=(sG hr i (by omega)).resolve_left e1;obtain⟨⟨la0,la1⟩,lk⟩:=ch.last;rcases e2 with⟨a,b,c⟩ | ⟨a,b,c⟩ | ⟨a,b,c⟩ | ⟨b,c⟩ | ⟨b,c⟩
  ·obtain⟨u,hu⟩:=ch.up (.inl rfl) a;obtain⟨⟨uk,u0,u1⟩,ku,q1,q2,q3⟩:=hu.ar;obtain⟨cl,c1,c2,c3,c4⟩:=cls u0 (by omega) (.inr (.inr (.inl uk)));have:=c4 (by rw[uk];decide +kernel);exact⟨[cl+1],.T9 b ⟨ku,by rw[wi];exact q1,by rw[wi];exact q2,by rw[wi];exact q3,uk⟩ c1,r1 (by omega) (by omega),by simp⟩
  ·obtain⟨cl,c1,c2,c3,c4⟩:=cls (a:=(i:Int)) (by omega) (by omega) (.inr (.inr (.inr b)));exact⟨[cl],.SR b c1,r1 c2 c3,by simp⟩
  ·have hw0:0<=bU (fS ws n) (i:Int):=by rw[wi];exact la0
   have hw1:bU (fS ws n) (i:Int)<((fS ws n).length:Int):=by rw[wi];exact la1
   rcases lk with k | k | k | k
   ·exact⟨[],.Uj b hw0 hw1 (by rw[wi];exact k),(λl hl=>by cases hl),by simp⟩
   ·exact QE k a
   ·exact⟨[bU (fS ws n) (i:Int)],.Ui b hw0 hw1 (by rw[wi];exact k),r1 hw0 (by omega),by simp⟩
   ·have:=ir he h (by
     rw[c];intro z;rcases ch.pop with⟨_,q⟩ | q
     ·rw[k] at q;exact QE q (by decide +kernel)
     ·exact q.ne z)
    exact⟨[(i:Int)+1],.Uk b hw0 hw1 (by rw[wi];exact k),r1 (by omega) (by omega),by simp⟩
  ·rcases b with b | b | b
   ·have:=ir he h (by rw[c];exact e1);exact⟨[(i:Int)+1],.Tr (.inr (.inl b)),r1 (by omega) (by omega),by simp⟩
   ·have:=ir he h (by rw[c];exact e1);exact⟨[(i:Int)+1],.Tr (.inr (.inr b)),r1 (by omega) (by omega),by simp⟩
   ·obtain⟨u,hu⟩:=ch.up (.inr rfl) ch.part;obtain⟨⟨uk,u0,u1⟩,ku,q1,q2,q3⟩:=hu.ar;obtain⟨cl,c1,c2,c3,c4⟩:=cls u0 (by omega) (.inl uk);exact⟨[cl],.Ul b ⟨ku,by rw[wi];exact q1,by rw[wi];exact q2,by rw[wi];exact q3,uk⟩ c1,r1 c2 c3,by simp⟩
  ·obtain⟨cl,c1,c2,c3,c4⟩:=cls (a:=(i:Int)) (by omega) (by omega) (by rcases b with b | b<;>simp[b])
   have:=c4 (by rcases b with b | b<;>rw[b]<;>decide +kernel)
   have:=ir he h (by rw[c];simp);refine⟨[(i:Int)+1,cl+1],.row b c1,λl hl=>?_,by simp⟩;rcases K8.mp hl with rfl | hl
   ·omega
   ·rw[KZ.mp hl];omega
structure r9 (s:cf):Prop where
 l:s.S.length<=1000
 li:vF s.S s.Ld
 l2:∀ls∈s.Ld,ls.length<=2
 sl:s.St.length=s.S.length
 pl:s.parts.length<=1000
 pv:∀p∈s.parts,0<=p.2.1/\p.2.1<(s.S.length:Int)
 rl:s.rows.length<=2000
 rk:∀r∈s.rows,0<=r.1/\r.1<(s.S.length:Int)
theorem F7 (h:nK S Ld)(h2:∀ls∈Ld,ls.length<=2):r9 (dw S Ld):=by
 have hl:=h.l;have nl:=cU S;refine⟨hl,h.li,h2,jq S.length (My _),?_,λp hp=>?_,?_,λr hr=>?_⟩
 ·show(jw S).length<=_;unfold jw;rw[KY];exact Mz (Ly _ _) (by omega)
 ·obtain⟨z,hz,rfl⟩:=Lu.mp (show p∈jw S from hp);obtain⟨n,nl,e1,_⟩:=js (L6.mp hz).1;show 0<=z.1/\z.1<_;exact⟨by omega,by show z.1<(S.length:Int);omega⟩
 ·show(jV S Ld (gL S Ld)).length<=_;have fl:=jR (jQ Ld (gL S Ld)) (nums S);unfold jV;omega
 ·obtain⟨z,hz,hr⟩:=List.mem_flatMap.mp (show r∈jV S Ld (gL S Ld) from hr);obtain⟨y,_,rfl⟩:=Lu.mp hr;obtain⟨n,nl,e1,_⟩:=js hz;show 0<=z.1/\z.1<(S.length:Int);omega
theorem Dl (W:iV ws)(hr:g8 ws n)(he:rx ws n=⟨fS ws n,[],ws.length⟩):∃Ld,nK (fS ws n) Ld/\r9 (dw (fS ws n) Ld):=by
 have hO:(rx ws n).O=[]:=by rw[he]
 have hl:=mE (ws:=ws) (n:=n);have hw:=(eF ws n).2.1;rw[show(rx ws n).w=ws.length by rw[he]] at hw;have wl:=W.l;have ex:∀i:Nat,∃ls,i<n->gu (fS ws n) (gH (fS ws n)) (i:Int) ls/\(∀l∈ls,0<=l/\l<(n:Int))/\ls.length<=2:=λi=>by
  by_cases h:i<n
  ·obtain⟨ls,h⟩:=BU hr hO h;exact⟨ls,λ_=>h⟩
  ·exact⟨[],λz=>QE z h⟩
 let g:Nat->Kr:=λi=>Classical.choose (ex i)
 have hg:∀i,i<n->gu (fS ws n) (gH (fS ws n)) (i:Int) (g i)/\(∀l∈g i,0<=l/\l<(n:Int))/\(g i).length<=2:=λi=>Classical.choose_spec (ex i);have Rc:∀ls∈(Lq n).map g,∃i,i<n/\ls=g i:=λls h=>by
  obtain⟨i,hi,rfl⟩:=Lu.mp h;exact⟨i,LY.mp hi,rfl⟩
 have hk:nK (fS ws n) ((Lq n).map g):=by
  refine⟨by omega,⟨by rw[KY,LM,hl],λi hi=>?_⟩,⟨by rw[KY,LM,hl],λls h l UE=>?_⟩,λi hi hp=>?_⟩
  ·rw[hl] at hi;rw[K5,K9,L8 hi];exact(hg i hi).1
  ·obtain⟨i,hi,rfl⟩:=Rc ls h;have:=(hg i hi).2.1 l UE;omega
  ·obtain⟨c,e,_⟩:=closed hr hO (a:=(i:Int)) (by omega) (by omega) (.inl hp);rw[e];rfl
 exact⟨_,hk,F7 hk λls h=>by obtain⟨i,hi,rfl⟩:=Rc ls h;exact(hg i hi).2.2⟩
theorem D7 (h:i<=xs.length):cut xs none (some (i:Int))=xs.take i:=by
 have e:HT.QX xs.length xs.length (some (i:Int))=i:=by
  show(if(i:Int)<0 then((i:Int)+(xs.length:Int)).toNat else min (i:Int).toNat xs.length)=i;rw[QF (by omega)];omega
 unfold cut;rw[e];rfl
theorem rG :cut xs (some (i:Int)) none=xs.drop i:=by
 have e:HT.QX xs.length 0 (some (i:Int))=min i xs.length:=by
  show(if(i:Int)<0 then((i:Int)+(xs.length:Int)).toNat else min (i:Int).toNat xs.length)=_;rw[QF (by omega)];rfl
 have e2:HT.QX xs.length xs.length none=xs.length:=rfl;unfold cut;rw[e,e2];rcases MG i xs.length with h | h
 ·rw[Nat.min_eq_left (by omega),Ma (by rw[Lv];omega)]
 ·rw[Nat.min_eq_right h,List.drop_of_length_le (My _),List.drop_of_length_le h,take_nil]
theorem nE:∀(n:Nat)(l:Kr),l.Nodup->(∀x∈l,0<=x/\x<(n:Int))->l.length<=n
 | 0,l,_,h=>by
   cases l with
   | nil=>exact My _
   | cons x r=>have:=h x K4;omega
 | n+1,l,nd,h=>by
   by_cases q:(n:Int)∈l
   ·have:=nE n (l.erase (n:Int)) (nd.erase _) λx hx=>by
     have hm:=(nd.mem_erase_iff.mp hx);have:=h x hm.2;have:=hm.1;omega
    rw[List.length_erase_of_mem q] at this;omega
   ·have:=nE n l nd λx hx=>by
     have:=h x hx;have:x≠(n:Int):=λe=>q (e▸hx);omega
    omega
def iL (F:Kx)(k:Int):Kx:=if(cF F k).isSome then F else F++[(k,(F.length:Int))]
def z6 (p:fX)(r:Rw):Bool:=decide (p.2.1<r.1)&&decide (r.1<p.2.2)
def i4 (p:fX)(F:Kx)(r:Rw):Kx:=if z6 p r then iL (iL F r.1) r.2.1 else F
def lA (s:cf)(p:fX):Kx:=s.rows.foldl (i4 p) (eM [(s.St.getD p.2.1.toNat 0,0)] p.2.2 1)
def Ao:PV->Str
 | .tup (.str x::_)=>x
 | _=>""
def vy:PV->Int
 | .tup (_:: .int n::_)=>n
 | _=>0
def pk (s:cf)(ps:List fX):Kr:=ps.map λp=>(s.S.getD p.2.1.toNat cT).word+1
theorem kz {ps:List fX}(h:ps.length<=n):(pk s ps).length<=n:=by unfold pk;rw[KY];exact h
theorem sI {β:Type}(g:α->β)(xs:List α):nums (xs.map g)=(nums xs).map λz=>(z.1,g z.2):=by
 unfold nums;rw[List.zipIdx_map,LL,LL];rfl
abbrev FW:Stmt:=top p6
def uM (C D:Addr):cE:=λK ps T=>∃(s:cf)(qs:List fX),ps=[⟨ck C D,s⟩,⟨af aH,qs.map dM⟩]/\(∀p∈qs,0<=p.2.1/\p.2.1<(s.S.length:Int))/\T=bN K (af ah) (· =pk s qs)
theorem HU (HC:bz K C eZ)(HD:bz K D eN)(Df:Def K mg "name_words" FW ["spots","parts"]):aF P w K mg base "name_words" 1 (aM (uM C D) K):=by
 have S0:Ln [("part":Str),"spots"]:=by decide
 refine bE (N:=["spots","parts"]) Df (λf QP A outer st H E qs T nd hr hS=>?_);obtain⟨s,ps,rfl,hp,rfl⟩:=hS;refine ai (aN (aI.im (cL (own:=["part"]) (fr:=["spots"]) (ix:=[0]) (ra:=aH) (rb:=ah) (p:=λ_=>true) (f:=λz=>(s.S.getD (vy z).toNat cT).word+1) (cx (so:=ak FW) (N0:=["spots","parts"]) rfl rfl (λx h=>bL h) (by decide +kernel)) (c7 (aa 1 rfl))
  (λC s H ex=>bA 0) (λx=>⟨.inr rfl,.inl rfl,trivial⟩) (λC' s H ex c hc=>fA) (λC' s' H ex o ho _=>by
   obtain⟨p,h,rfl⟩:=Lu.mp ho;exact bg (p9 (C:=C) HC (aV (my (C:=C) HD (aa 1 rfl)) (EV.iP (n:=p.2.1) (df (aa 0 rfl) ev_int rfl)) (aT (xs:=s.S) (i:=p.2.1) cT (hp p h).1 (hp p h).2))) ev_int))) ?_)
 rw[LH.mpr λ_ _=>rfl,LL];rfl
def fM (C D:Addr)(g:cf->Kr):cE:=λK ps T=>∃s:cf,ps=[⟨ck C D,s⟩]/\r9 s/\T=bN K (af ah) (· =g s)
abbrev AJ:Stmt:=top nI
abbrev FU:Ks:=["spots","names"]
def tU (s:cf):List fX:=((nums s.parts).filter λz=>decide (z.2.1∈cut (s.parts.map (·.1)) none (some z.1))).map (·.2)
def yp (s:cf):Kr:=pk s (tU s)
theorem Cz {p:fX}(h:p∈tU s):p∈s.parts:=by
 obtain⟨z,hz,rfl⟩:=Lu.mp h;obtain⟨i,hi⟩:=Lz.mp (L6.mp hz).1;exact K7 (lx hi).2
theorem GZ (M:bS K mg)(HD:bz K D eN)(CN:aF P w K mg base "name_words" 1 (aM (uM C D) K))(Df:Def K mg "named_again" AJ ["spots"]):aF P w K mg base "named_again" 2 (aM (fM C D yp) K):=by
 have S0:Ln [("part":Str)]:=by decide
 have Ut:Ln [("place":Str),"part","names"]:=by decide
 refine bE (N:=FU) (k:=1) Df (λf QP A outer st H E qs T nd hr hS=>?_);obtain⟨s,rfl,hG,rfl⟩:=hS;have hnm:((s.parts.map dM).filter λ_=>true).map Ao=s.parts.map (·.1):=by rw[LH.mpr λ_ _=>rfl,LL];rfl
 refine aj (aL 1 (y:=s.parts.map (·.1)) (EV.cast (aI.im (cL (own:=["part"]) (fr:=[]) (ix:=[]) (ra:=aH) (rb:=ag) (p:=λ_=>true) (f:=Ao) (cx (so:=ak AJ) (N0:=FU) rfl rfl (λx h=>bL h) (by decide +kernel)) (c7 (ib (C:=C) HD (aa 0 rfl)))
  (λC s H ex=>bA 0) (λx=>⟨.inr rfl,trivial⟩) (λC' s H ex c hc=>fA) (λC' s H ex o ho _=>by
   obtain⟨p,_,rfl⟩:=Lu.mp ho;exact EV.sP (x:=p.1) (df (aa 0 rfl) ev_int rfl)))) hnm) ?_)
 change WS _ _ [.im (ck C D) s,.im (af ag) (s.parts.map (·.1))] _ _;refine ai (aN (aB CN hr (ae (aa 0 rfl) (ae (x:=(tU s).map dM) (EV.cast (aI.im (cL (own:=["place","part"]) (fr:=["names"]) (ix:=[1]) (ra:=dh ah aH) (rb:=aH) (p:=λz=>decide (Ao z.2∈cut (s.parts.map (·.1)) none (some z.1))) (f:=λz=>z.2) (cx (so:=ak AJ) (N0:=FU) rfl rfl (λx h=>bL h) (by decide +kernel)) (ij M.enumerate (ib (C:=C) HD (aa 0 rfl)))
  (λC s H ex=>fw 0 1) (λx=>⟨.inr rfl,.inr rfl,.inl rfl,trivial⟩) (λC' s H ex z hz=>?_) (λC' s H ex z hz _=>aa 1 rfl))) ?_) au)) ⟨s,tU s,rfl,λp h=>hG.pv p (Cz h),rfl⟩) rfl)
 ·rw[sI] at hz;obtain⟨y,_,rfl⟩:=Lu.mp hz;exact fQ (aq nr (EV.sP (x:=y.2.1) (df (aa 1 rfl) ev_int rfl)) (aI.im (cu (aa 2 rfl) ov_none (ov_some (aa 0 rfl)))))
 ·rw[sI,Mw,LL];unfold tU;rw[LL];rfl
abbrev Jb:Stmt:=top lZ
abbrev nCA:Ks:=["spots","found","behind","step"]
def lH (ks:Ks)(t:bq):Ks:=if t.kind="part" then sq ks t.name else ks
def AE (ks:Ks)(t:bq):Bool:=decide (t.kind="call")&& !decide (t.name∈ks)
def Aj (x:Kr×Ks)(t:bq):Kr×Ks:=(if AE (lH x.2 t) t then x.1++[t.word+1] else x.1,lH x.2 t)
def Sn (s:cf)(i:Nat):Kr×Ks:=(s.S.reverse.take i).foldl Aj ([],[])
def oW (s:cf):Kr:=(Sn s s.S.length).1
theorem Ew (ks:Ks)(k:Str):(sq ks k).length<=ks.length+1:=by unfold sq;split<;>simp
theorem tN {t:bq}(h:s.S.reverse[i]?=some t):Sn s (i+1)=Aj (Sn s i) t:=by
 unfold Sn;rw[Lw,h,LV];rfl
theorem mQ (s:cf):∀i,(Sn s i).1.length<=i/\(Sn s i).2.length<=i
 | 0=>⟨My _,My _⟩
 | i+1=>by
   obtain⟨a,b⟩:=mQ s i;cases e:s.S.reverse[i]? with
   | none=>
     have:Sn s (i+1)=Sn s i:=by unfold Sn;rw[Lw,e];simp
     rw[this];omega
   | some t=>
     rw[tN e];refine⟨?_,?_⟩
     ·show List.length (if AE (lH (Sn s i).2 t) t=true then(Sn s i).1++[t.word+1] else(Sn s i).1)<=_;split
      ·rw[K3];simp;omega
      ·omega
     ·show(lH (Sn s i).2 t).length<=_;unfold lH;split
      ·have:=Ew (Sn s i).2 t.name;omega
      ·omega
theorem HQ (M:bS K mg)(HC:bz K C eZ)(HD:bz K D eN)(Df:Def K mg "called_astray" Jb ["spots"]):aF P w K mg base "called_astray" 1 (aM (fM C D oW) K):=by
 refine bE (N:=nCA) Df (λf QP A outer st H E qs T nd hr hS=>?_);obtain⟨s,rfl,hG,rfl⟩:=hS;have hu:=ru hr;have hl:=hG.l;refine aj (cJ 1 (r:=ah) (ys:=[]) (aG aJ (MC _)) ?_);refine aj (oy 2 ?_);refine WS.GU 2 rfl λa=>?_;refine bO (N1:=λΓ=>∃ks e3,Γ=[.im (ck C D) s,.mu ah (oW s),.ob (nv a ks),e3]) (cN (λi Γ=>∃e3,Γ=[.im (ck C D) s,.mu ah (Sn s i).1,.ob (nv a (Sn s i).2),e3]) (EY M.reversed (my (C:=C) HD (aa 0 rfl))) (bA 3) ⟨_,rfl⟩ (λi t Γ ht hΓ=>?_) (λΓ hΓ=>?_)) ?_
 ·obtain⟨e3,rfl⟩:=hΓ;have il:i<s.S.length:=by have:=(KW.mp ht).1;rwa [L9] at this
  obtain⟨l1,l2⟩:=mQ s i;rw[tN ht];generalize Sn s i=x at l1 l2;obtain⟨fo,ks⟩:=x;dsimp only at l1 l2;change WS _ _ [.im (ck C D) s,.mu ah fo,.ob (nv a ks),.im (aY C) t] _ _;refine bO (N1:=λΓ=>Γ=[.im (ck C D) s,.mu ah fo,.ob (nv a (lH ks t)),.im (aY C) t]) (aW (aq bI (fb (C:=C) HC (aa 3 rfl)) av) (λh=>?_) (λh=>aQ ?_)) ?_
  ·have h:t.kind="part":=QH h;refine ai (Ba 2 hu (mS (C:=C) HC (aa 3 rfl)) vA rfl (ME (show _<=1000 by omega) (by decide)) ?_);unfold lH;rw[QG h];rfl
  ·have h:¬t.kind="part":=QI h;unfold lH;rw[QF h]
  rintro _ rfl;refine ai (aW (TW.tv (bH (aq bI (fb (C:=C) HC (aa 3 rfl)) av) (λ_=>bZ (yF 2 hu (mS (C:=C) HC (aa 3 rfl)) rfl)))) (λh=>?_) (λh=>aQ ⟨.im (aY C) t,?_⟩))
  ·refine ai (dO 1 (bg (p9 (C:=C) HC (aa 3 rfl)) ev_int) rfl rfl (ME (show _<=1000 by omega) (by decide)) ⟨.im (aY C) t,?_⟩);unfold Aj;rw[QG (show AE (lH ks t) t=true from h)];rfl
  ·unfold Aj;rw[QF (by rw[show AE (lH ks t) t=false from h];decide)]
 ·obtain⟨e3,rfl⟩:=hΓ;rw[L9];exact⟨_,e3,rfl⟩
 rintro _ ⟨ks,e3,rfl⟩;refine WS.freeze 1 rfl (aE (by have:=(mQ s s.S.length).1;unfold oW;omega)) ?_;exact ai (aN (aa 1 rfl) rfl)
abbrev A3:Stmt:=top wg
abbrev Jj:Ks:=["spots","found","waiting","number"]
theorem Ec:aZ Jj ["spots"] (ak A3):=RQ
def dT (fd:Kr):List (Int×V):=fd.map λk=>(k,V.bl true)
theorem sV (fd:Kr)(k:Int):gi (dT fd) k=decide (k∈fd):=by
 unfold gi dT;rw[any_map];by_cases h:k∈fd
 ·rw[decide_eq_true h,Mo];exact⟨k,h,by simp⟩
 ·rw[QJ h];rw[List.any_eq_false];intro x hx;have:x≠k:=λe=>h (e▸hx);simpa using this
def tX (s:cf)(x:Kr×Kr):Kr×Kr:=
 match x.2.getLast? with
 | none=>x
 | some n=>if n∈x.1 then(x.1,x.2.dropLast) else(x.1++[n],x.2.dropLast++s.Ld.getD n.toNat [])
abbrev ua (s:cf):Nat:=3*s.S.length+s.parts.length
abbrev xA (s:cf)(i:Nat):Kr×Kr:=Q9 (tX s) i ([],s.parts.map (·.2.1))
def gM (s:cf):Kr:=(xA s (ua s)).1
theorem xm {α:Type}{f:α->α}{x:α}(h:f x=x):∀k,Q9 f k x=x
 | 0=>rfl
 | k+1=>by rw[Q9,xm h k,h]
def D9 (C D:Addr):cE:=λK ps T=>∃s:cf,ps=[⟨ck C D,s⟩]/\r9 s/\T=bN K gv (· =dT (gM s))
structure CtI (s:cf)(fd wt:Kr):Prop where
 nd:fd.Nodup
 fv:∀n∈fd,0<=n/\n<(s.S.length:Int)
 wv:∀n∈wt,0<=n/\n<(s.S.length:Int)
theorem Ic (M:bS K mg)(HD:bz K D eN)(F:cK K "come_to" "come_to" A3 f fd)(hm:mg "come_to"=some (.ref f))(hb:Binds K fd ["spots"] []):aF P w K mg base "come_to" 1 (aM (D9 C D) K):=by
 have nd:=Ec.nd;have S0:Ln [("part":Str)]:=by decide
 refine e8 F Ec hm hb (λqs T ⟨_,e,_⟩=>by rw[e];rfl) (λQP A outer st H E qs T hr hS=>?_);obtain⟨s,rfl,hG,rfl⟩:=hS;have hu:=ru hr;have hl:=hG.l;obtain⟨Tw,Rc⟩:=hG.li;have Q3:=hG.pl;refine aj (oy 1 ?_);have Sr:((s.parts.map dM).filter λ_=>true).map vy=s.parts.map (·.2.1):=by rw[LH.mpr λ_ _=>rfl,LL];rfl
 refine aj (ng 2 (own:=["part"]) (fr:=[]) (ix:=[]) (ra:=aH) (rb:=ah) (p:=λ_=>true) (f:=vy) (cx (so:=ak A3) (N0:=Jj) rfl rfl (λx h=>bL h) (by decide +kernel)) (c7 (ib (C:=C) HD (aa 0 rfl)))
  (λC s H ex=>bA 0) (λx=>⟨.inr rfl,trivial⟩) (λC' s H ex c hc=>fA) (λC' s H ex o ho _=>by
   obtain⟨p,_,rfl⟩:=Lu.mp ho;exact EV.iP (n:=p.2.1) (df (aa 0 rfl) ev_int rfl)) ?_)
 rw[Sr];refine bO (N1:=λΓ=>∃e3,Γ=[.im (ck C D) s,.di (dT (gM s)),.mu ah [],e3]) (jF (λm Γ=>∃(i:Nat)(fd wt:Kr)(e3:Ent),Γ=[.im (ck C D) s,.di (dT fd),.mu ah wt,e3]/\xA s i=(fd,wt)/\CtI s fd wt/\3*(s.S.length-fd.length)+wt.length=m/\m+i<=ua s) (m0:=ua s) ⟨0,[],s.parts.map (·.2.1),.no,rfl,rfl,⟨List.nodup_nil,(λn h=>by cases h),(λn h=>?_)⟩,by rw[KY];rfl,My _⟩ (λm Γ hI=>?_)) ?_
 ·obtain⟨p,hp,rfl⟩:=Lu.mp h;exact hG.pv p hp
 ·obtain⟨i,fd,wt,e3,rfl,hit,hC,hmm,hm1⟩:=hI;have fl:=nE s.S.length fd hC.nd hC.fv;have hcN:ua s=3*s.S.length+s.parts.length:=rfl;have SD:xA s (i+1)=tX s (fd,wt):=by show tX s (xA s i)=_;rw[hit]
  refine⟨!wt.isEmpty,_,mY 2 rfl,λh=>?_,λh=>?_⟩
  ·have Q5:wt≠[]:=λz=>by rw[z] at h;cases h
   obtain⟨wi,n,rfl⟩:∃l x,wt=l++[x]:=⟨wt.dropLast,wt.getLast Q5,(Li Q5).symm⟩;have hc:tX s (fd,wi++[n])=if n∈fd then(fd,wi) else(fd++[n],wi++s.Ld.getD n.toNat []):=by
    unfold tX;simp
   rw[hc] at SD;rw[K3,LG] at hmm;obtain⟨n0,n1⟩:=hC.wv n (La _ (KZ.mpr rfl));refine aj (aL 3 (y:=n) (rD 2 rfl (by simp)) ?_);rw[show(wi++[n]).dropLast=wi by simp];refine ai (aW (B3 1 true hu (aa 3 rfl) rfl) (λh=>?_) (λh=>aQ ?_))
   ·have Ud:n∉fd:=by rw[QG rfl,sV] at h;simpa using h
    rw[QF Ud] at SD;have RG:cq s.Ld n=some (s.Ld.getD n.toNat []):=aT (xs:=s.Ld) (i:=n) [] n0 (by omega);have Tv:s.Ld.getD n.toNat []∈s.Ld:=getD_in (by omega);have h2:=hG.l2 _ Tv;have VD:=Rc _ Tv;have fv2:∀x∈fd++[n],0<=x/\x<(s.S.length:Int):=λx hx=>by
     rcases Lf.mp hx with z | z
     ·exact hC.fv x z
     ·rw[KZ.mp z];exact⟨n0,n1⟩
    have fl2:=nE s.S.length (fd++[n]) (jz hC.nd Ud) fv2;rw[K3,LG] at fl2;refine aj (xS 1 hu (aa 3 rfl) vA rfl (by rw[sV];exact QJ Ud) (by unfold dT;rw[KY];exact ME (show _<=1000 by omega) (by decide)) ?_);have e:dT fd++[(n,V.bl true)]=dT (fd++[n]):=by unfold dT;rw[Lj];rfl
    rw[e];refine ai (xn 2 (aV (GC (C:=C) HD (aa 0 rfl)) (aa 3 rfl) RG) rfl rfl (aE (by omega)) ⟨3*(s.S.length-(fd++[n]).length)+(wi++s.Ld.getD n.toNat []).length,by rw[K3,K3,LG];omega,i+1,fd++[n],wi++s.Ld.getD n.toNat [],ay n,rfl,SD,⟨jz hC.nd Ud,fv2,λx hx=>?_⟩,rfl,by rw[K3,K3,LG];omega⟩);rcases Lf.mp hx with z | z
    ·exact hC.wv x (Lk _ z)
    ·exact VD x z
   ·have Ud:n∈fd:=by rw[QG rfl,sV] at h;simpa using h
    rw[QG Ud] at SD;exact⟨3*(s.S.length-fd.length)+wi.length,by omega,i+1,fd,wi,ay n,rfl,SD,⟨hC.nd,hC.fv,λx hx=>hC.wv x (Lk _ hx)⟩,rfl,by omega⟩
  ·have hwt:wt=[]:=by cases wt with
    | nil=>rfl
    | cons _ _=>cases h
   subst hwt;refine⟨e3,?_⟩;have:gM s=fd:=by
    unfold gM xA;rw[show ua s=i+(ua s-i) by omega,uO,show Q9 (tX s) i ([],s.parts.map (·.2.1))=(fd,[]) from hit,xm rfl]
   rw[this]
 rintro _ ⟨e3,rfl⟩;exact ai (FH 1 rfl rfl)
abbrev AK:Stmt:=top ot
abbrev F6:Ks:=["spots","known","lost"]
def Ab (s:cf):List bq:=((nums s.S).filter λz=> !gi (dT (gM s)) z.1).map λz=>z.2
def t8 (s:cf):Kr:=((Ab s).filter λt=>decide (t.kind∈RE)).map λt=>t.word
theorem tQ (s:cf):(Ab s).length<=s.S.length:=by
 unfold Ab;rw[KY];exact Mz (Ly _ _) (by rw[cU];exact My _)
theorem Gy (M:bS K mg)(M2:gw K mg)(HC:bz K C eZ)(HD:bz K D eN)(CT:aF P w K mg base "come_to" 1 (aM (D9 C D) K))(Df:Def K mg "not_come_to" AK ["spots"]):aF P w K mg base "not_come_to" 2 (aM (fM C D t8) K):=by
 have S0:Ln [("number":Str),"step","known"]:=by decide
 have Ut:Ln [("step":Str)]:=by decide
 refine bE (N:=F6) (k:=1) Df (λf QP A outer st H E qs T nd hr hS=>?_);obtain⟨s,rfl,hG,rfl⟩:=hS;have hu:=ru hr;have hl:=hG.l;refine aj (aL 1 (y:=dT (gM s)) (aB CT hr (ae (aa 0 rfl) au) ⟨s,rfl,hG,rfl⟩) ?_);change WS _ _ [.im (ck C D) s,.im gv (dT (gM s)),.no] _ _;refine aj (ng 2 (own:=["number","step"]) (fr:=["known"]) (ix:=[1]) (ra:=dh ah (aY C)) (rb:=aY C) (p:=λz=> !gi (dT (gM s)) z.1) (f:=λz=>z.2) (cx (so:=ak AK) (N0:=F6) rfl rfl (λx h=>bL h) (by decide +kernel)) (ij M.enumerate (my (C:=C) HD (aa 0 rfl)))
  (λC s H ex=>fw 0 1) (λx=>⟨.inr rfl,.inr rfl,.inl rfl,trivial⟩) (λC' s H ex z hz=>fQ (uG hu (aa 0 rfl) (aa 2 rfl))) (λC' s H ex z hz _=>aa 1 rfl) ?_)
 have lz:=tQ s;unfold Ab at lz;refine WS.freeze 2 rfl (aE (by omega)) ?_;exact ai (aN (aI.im (cL (own:=["step"]) (fr:=[]) (ix:=[]) (ra:=aY C) (rb:=ah) (p:=λt=>decide (t.kind∈RE)) (f:=λt=>t.word) (cx (so:=ak AK) (N0:=F6) rfl rfl (λx h=>bL h) (by decide +kernel)) (c7 (aa 2 rfl))
  (λC s H ex=>bA 0) (λx=>⟨.inr rfl,trivial⟩) (λC' s H ex t ht=>fQ (aq hW (fb (C:=C) HC (aa 0 rfl)) (eB M2.RE))) (λC' s H ex t ht _=>p9 (C:=C) HC (aa 0 rfl)))) rfl)
abbrev Ai:Stmt:=top pN
abbrev Dq:Ks:=["spots","called"]
def AB (s:cf):Ks:=(s.S.filter λt=>decide (t.kind=("call":Str))).map (λt=>t.name)
def Dt (s:cf):List fX:=(s.parts.drop 1).filter λp=> !decide (p.1∈AB s)
def yb (s:cf):Kr:=pk s (Dt s)
theorem za {β:Type}{g:α->β}:cut (xs.map g) (some (n:Int)) none=(xs.drop n).map g:=by rw[rG,List.map_drop]
theorem GR (M:bS K mg)(HC:bz K C eZ)(HD:bz K D eN)(CN:aF P w K mg base "name_words" 1 (aM (uM C D) K))(Df:Def K mg "not_called" Ai ["spots"]):aF P w K mg base "not_called" 2 (aM (fM C D yb) K):=by
 have S0:Ln [("step":Str)]:=by decide
 have Ut:Ln [("part":Str),"called"]:=by decide
 refine bE (N:=Dq) (k:=1) Df (λf QP A outer st H E qs T nd hr hS=>?_);obtain⟨s,rfl,hG,rfl⟩:=hS;refine aj (aL 1 (y:=AB s) (aI.im (cL (own:=["step"]) (fr:=[]) (ix:=[]) (ra:=aY C) (rb:=ag) (p:=λt=>decide (t.kind="call")) (f:=λt=>t.name) (cx (so:=ak Ai) (N0:=Dq) rfl rfl (λx h=>bL h) (by decide +kernel)) (c7 (my (C:=C) HD (aa 0 rfl)))
  (λC s H ex=>bA 0) (λx=>⟨.inr rfl,trivial⟩) (λC' s H ex t ht=>fQ (aq bI (fb (C:=C) HC (aa 0 rfl)) av)) (λC' s H ex t ht _=>mS (C:=C) HC (aa 0 rfl)))) ?_)
 change WS _ _ [.im (ck C D) s,.im (af ag) (AB s)] _ _;have e1:cut (s.parts.map dM) (some 1) none=(s.parts.drop 1).map dM:=za (n:=1);refine ai (aN (aB CN hr (ae (aa 0 rfl) (ae (x:=(Dt s).map dM) (EV.cast (aI.im (cL (own:=["part"]) (fr:=["called"]) (ix:=[1]) (ra:=aH) (rb:=aH) (xs:=cut (s.parts.map dM) (some 1) none) (p:=λz=> !decide (Ao z∈AB s)) (f:=λz=>z) (cx (so:=ak Ai) (N0:=Dq) rfl rfl (λx h=>bL h) (by decide +kernel)) (c7 (aI.im (cu (ib (C:=C) HD (aa 0 rfl)) (ov_some ev_int) ov_none)))
  (λC s H ex=>bA 0) (λx=>⟨.inr rfl,.inl rfl,trivial⟩) (λC' s H ex z hz=>?_) (λC' s H ex z hz _=>aa 0 rfl))) ?_) au)) ⟨s,Dt s,rfl,λp h=>hG.pv p (LQ (L6.mp h).1),rfl⟩) rfl)
 ·rw[e1] at hz;obtain⟨p,_,rfl⟩:=Lu.mp hz;exact fQ (aq kq (EV.sP (x:=p.1) (df (aa 0 rfl) ev_int rfl)) (aa 1 rfl))
 ·rw[e1,Mw,LL];rfl
structure jW (mg:Kp):Prop where
 beg:∃t,mg "BEGIN"=some (.int 0 t)
 end_:∃t,mg "END"=some (.int 1 t)
 parts:∃t,mg "MOST_PARTS"=some (.int 4 t)
 places:∃t,mg "MOST_PLACES"=some (.int 16 t)
 rows:∃t,mg "MOST_PROGRAM_ROWS"=some (.int 30 t)
theorem sr (i j:Nat){z:Str}{p2 ap:Pos}{k y:Int}(hD:bz X.K D eN)(hΓ:Γ[i]?=some (.im (ck C D) s))(hj:Γ[j]?=some (ay k))(hk:cq s.St k=some y)(hN:X.N[i]?=some x:=by rfl)(hv:autoParam (cI X.env.scope x) Rt)(hd:Q0 x:=by decide)(QR:Rn x:=by decide)(hN':X.N[j]?=some z:=by rfl)(S6:autoParam (cI X.env.scope z) Rt)(VY:(z==("__debug__":Str))=false:=by decide)(hcd':(z==("__classdict__":Str))=false:=by decide)(hb:Ni (.Name x p1) "stands" X.env (eval (.Name x p1) X.env)=eval (.Name x p1) X.env:=by rfl)(hsx:eP (.Name z p2):=by exact λ_ _=>rfl):nC X (.Subscript (.Attribute (.Name x p1) "stands" ap) (.Name z p2) pos) Γ y:=λσ H0 R0 H R E H' Q sR q=>by
 obtain⟨v,ea,xx,dx,vs,rfl,h1,h2⟩:=E.ent i _ hΓ;obtain⟨u,q1,q2⟩:=h2.get (f:="stands") rfl;obtain⟨b,ws,rfl,R6,pp,hz⟩:=(show(af ah).R X.K R u s.St from q2);obtain⟨v0,e0,Vp⟩:=E.ent j _ hj;cases Vp
 obtain⟨w,e3,e4⟩:=fB pp hk;cases e4
 exact eS (i5 iq (rS (bh hN hv hd QR) hb) (bh hN' S6 VY hcd') hsx) ⟨.ref xx,at_of ea,xx,D,dx,vs,.ref b,rfl,sR _ _ h1,hD.cl,hD.no _ (cP (by decide)),q1,.int k,at_of e0,b,ws,k,.int y,rfl,rfl,bt.of (sR _ _ R6),e3,q⟩
abbrev Ej:Stmt:=top lE
def JO:PV->Int
 | .tup (_::_:: .int n::_)=>n
 | _=>0
def D2 (s:cf):List fX:=s.parts.filter λp=>decide (s.St.getD p.2.1.toNat 0=p.2.2)
def Ae (s:cf):Kr:=pk s (D2 s)
theorem Gx (HD:bz K D eN)(CN:aF P w K mg base "name_words" 1 (aM (uM C D) K))(Df:Def K mg "ended_at_begin" Ej ["spots"]):aF P w K mg base "ended_at_begin" 2 (aM (fM C D Ae) K):=by
 have S0:Ln [("part":Str),"spots"]:=by decide
 refine bE (N:=["spots"]) (k:=1) Df (λf QP A outer st H E qs T nd hr hS=>?_);obtain⟨s,rfl,hG,rfl⟩:=hS;refine ai (aN (aB CN hr (ae (aa 0 rfl) (ae (x:=(D2 s).map dM) (EV.cast (aI.im (cL (own:=["part"]) (fr:=["spots"]) (ix:=[0]) (ra:=aH) (rb:=aH) (p:=λz=>decide (s.St.getD (vy z).toNat 0=JO z)) (f:=λz=>z) (cx (so:=ak Ej) (N0:=["spots"]) rfl rfl (λx h=>bL h) (by decide +kernel)) (c7 (ib (C:=C) HD (aa 0 rfl)))
  (λC s H ex=>bA 0) (λx=>⟨.inr rfl,.inl rfl,trivial⟩) (λC' s' H ex z hz=>?_) (λC' s H ex z hz _=>aa 0 rfl))) ?_) au)) ⟨s,D2 s,rfl,λp h=>hG.pv p (L6.mp h).1,rfl⟩) rfl)
 ·obtain⟨p,hp,rfl⟩:=Lu.mp hz;obtain⟨p0,p1⟩:=hG.pv p hp;exact fQ (aq dP (aV (Hd (C:=C) HD (aa 1 rfl)) (EV.iP (n:=p.2.1) (df (aa 0 rfl) ev_int rfl)) (aT (xs:=s.St) (i:=p.2.1) 0 p0 (by rw[hG.sl];exact p1))) (EV.iP (n:=p.2.2) (df (aa 0 rfl) ev_int rfl)))
 ·rw[Mw,LL];rfl
def sX:PV->Int
 | .tup (.int n::_)=>n
 | _=>0
abbrev DL:Stmt:=top oA
def xb (s:cf):Kr:=(s.rows.drop 30).map λr=>(s.S.getD r.1.toNat cT).word
theorem Gr (M3:jW mg)(HC:bz K C eZ)(HD:bz K D eN)(Df:Def K mg "rows_beyond" DL ["spots"]):aF P w K mg base "rows_beyond" 1 (aM (fM C D xb) K):=by
 have S0:Ln [("row":Str),"spots"]:=by decide
 refine bE (N:=["spots"]) Df (λf QP A outer st H E qs T nd hr hS=>?_);obtain⟨s,rfl,hG,rfl⟩:=hS;obtain⟨t,ht⟩:=M3.rows;have hc:cut (s.rows.map gK) (some 30) none=(s.rows.drop 30).map gK:=za (n:=30);refine ai (aN (aI.im (cL (own:=["row"]) (fr:=["spots"]) (ix:=[0]) (ra:=aH) (rb:=ah) (xs:=(s.rows.drop 30).map gK) (p:=λ_=>true) (f:=λz=>(s.S.getD (sX z).toNat cT).word) (cx (so:=ak DL) (N0:=["spots"]) rfl rfl (λx h=>bL h) (by decide +kernel)) (c7 (EV.cast (aI.im (cu (vp (C:=C) HD (aa 0 rfl)) (ov_some (jx ht)) ov_none)) hc))
  (λC s H ex=>bA 0) (λx=>⟨.inr rfl,.inl rfl,trivial⟩) (λC' s H ex c hc=>fA) (λC' s' H ex o ho _=>by
   obtain⟨r,Tt,rfl⟩:=Lu.mp ho;obtain⟨r0,r1⟩:=hG.rk r (LQ Tt);exact p9 (C:=C) HC (aV (my (C:=C) HD (aa 1 rfl)) (EV.iP (n:=r.1) (df (aa 0 rfl) ev_int rfl)) (aT (xs:=s.S) (i:=r.1) cT r0 r1))))) ?_)
 rw[LH.mpr λ_ _=>rfl,LL];rfl
abbrev IF:Stmt:=top nB
def Ay (s:cf):Kr:=pk s (s.parts.drop 4)
theorem GB (M3:jW mg)(HD:bz K D eN)(CN:aF P w K mg base "name_words" 1 (aM (uM C D) K))(Df:Def K mg "parts_beyond" IF ["spots"]):aF P w K mg base "parts_beyond" 2 (aM (fM C D Ay) K):=by
 refine bE (N:=["spots"]) (k:=1) Df (λf QP A outer st H E qs T nd hr hS=>?_);obtain⟨s,rfl,hG,rfl⟩:=hS;obtain⟨t,ht⟩:=M3.parts;have hc:cut (s.parts.map dM) (some 4) none=(s.parts.drop 4).map dM:=za (n:=4);exact ai (aN (aB CN hr (ae (aa 0 rfl) (ae (x:=(s.parts.drop 4).map dM) (EV.cast (aI.im (cu (ib (C:=C) HD (aa 0 rfl)) (ov_some (jx ht)) ov_none)) hc) au)) ⟨s,_,rfl,λp h=>hG.pv p (LQ h),rfl⟩) rfl)
abbrev Ge:Stmt:=top sA
abbrev Jt:Ks:=["spots","part","first","last","told","row","step"]
def EG (C D:Addr):cE:=λK ps T=>∃(s:cf)(i:Nat)(p:fX),ps=[⟨ck C D,s⟩,⟨ah,(i:Int)⟩]/\r9 s/\s.parts[i]?=some p/\T=bN K pD (· =lA s p)
theorem lB (F:Kx)(k:Int):(iL F k).length<=F.length+1:=by
 unfold iL;split
 ·omega
 ·rw[K3];simp
theorem Cj (p:fX)(F:Kx)(r:Rw):(i4 p F r).length<=F.length+2:=by
 unfold i4;split
 ·exact Mz (lB _ _) (by have:=lB F r.1;omega)
 ·omega
theorem DB (p:fX)(F:Kx)(rs:List Rw):(rs.foldl (i4 p) F).length<=F.length+2*rs.length:=by
 induction rs generalizing F with
 | nil=>exact My _
 | cons r rs ih=>
   rw[foldl_cons,Lg];have:=ih (i4 p F r);have:=Cj p F r;omega
theorem FF (M:bS K mg)(M3:jW mg)(HD:bz K D eN)(Df:Def K mg "places_in" Ge ["spots","part"]):aF P w K mg base "places_in" 1 (aM (EG C D) K):=by
 refine bE (N:=Jt) Df (λf QP A outer st H E qs T nd hr hS=>?_);obtain⟨s,i,p,rfl,hG,hp,rfl⟩:=hS;obtain⟨t1,hbg⟩:=M3.beg;obtain⟨t2,VR⟩:=M3.end_;have pm:=K7 hp;have il:=(KW.mp hp).1;obtain⟨p0,p1⟩:=hG.pv p pm;have hrl:=hG.rl;have RG:cq (s.parts.map dM) (i:Int)=some (dM p):=by
  rw[mG (by omega) (by rw[KY];omega),show((i:Nat):Int).toNat=i by omega,K9,hp];rfl
 refine aj (aL 2 (y:=p.2.1) (EV.iP (df (xs:=[.str p.1,.int p.2.1,.int p.2.2]) (aV (ib (C:=C) HD (aa 0 rfl)) (aa 1 rfl) RG) ev_int rfl)) ?_);refine aj (aL 3 (y:=p.2.2) (EV.iP (df (xs:=[.str p.1,.int p.2.1,.int p.2.2]) (aV (ib (C:=C) HD (aa 0 rfl)) (aa 1 rfl) RG) ev_int rfl)) ?_);refine aj (Br 4 (v:=0) (u:=1) (sr (C:=C) 0 2 HD rfl rfl (aT (xs:=s.St) (i:=p.2.1) 0 p0 (by rw[hG.sl];exact p1))) (tE 3 rfl) (gg rfl hbg ⟨t1,rfl⟩) (gg rfl VR ⟨t2,rfl⟩) ?_);have f0l:(eM [(s.St.getD p.2.1.toNat 0,(0:Int))] p.2.2 1).length<=2:=rp _ _ _;generalize hF0:eM [(s.St.getD p.2.1.toNat 0,(0:Int))] p.2.2 1=F0 at f0l;have Q3:lA s p=s.rows.foldl (i4 p) F0:=by unfold lA;rw[hF0]
 rw[Q3];refine bO (N1:=λΓ=>∃e5 e6,Γ=[.im (ck C D) s,ay (i:Int),ay p.2.1,ay p.2.2,.di (cC (s.rows.foldl (i4 p) F0)),e5,e6]) (cN (λj Γ=>∃e5 e6,Γ=[.im (ck C D) s,ay (i:Int),ay p.2.1,ay p.2.2,.di (cC ((s.rows.take j).foldl (i4 p) F0)),e5,e6]) (c7 (vp (C:=C) HD (aa 0 rfl))) (bA 5) ⟨_,_,rfl⟩ (λj z Γ hz hΓ=>?_) (λΓ hΓ=>?_)) ?_
 ·obtain⟨e5,e6,rfl⟩:=hΓ;rw[K9] at hz;obtain⟨r,Tt,rfl⟩:=MT.mp hz;have jl:=(KW.mp Tt).1;have fl:=DB p F0 (s.rows.take j);have tl:(s.rows.take j).length<=2000:=by rw[Lc];omega
  have Su:(s.rows.take (j+1)).foldl (i4 p) F0=i4 p ((s.rows.take j).foldl (i4 p) F0) r:=by rw[Lw,Tt,LV];rfl
  rw[Su];generalize (s.rows.take j).foldl (i4 p) F0=Fj at fl;have fj:Fj.length<=4002:=by omega
  change WS _ _ [.im (ck C D) s,ay (i:Int),ay p.2.1,ay p.2.2,.di (cC Fj),.im aH (gK r),e6] _ _;refine ai (aW (yD fg fg (aa 2 rfl) (EV.iP (n:=r.1) (df (aa 5 rfl) ev_int rfl)) (aa 3 rfl)) (λh=>?_) (λh=>aQ ⟨.im aH (gK r),e6,?_⟩))
  ·have Rc:z6 p r=true:=h;have hcut:cut [PV.int r.1,.int r.2.1,.str r.2.2.1,.str r.2.2.2] none (some 2)=[.int r.1,.int r.2.1]:=rfl;have g:i4 p Fj r=iL (iL Fj r.1) r.2.1:=QG Rc;rw[g];have l1:=lB Fj r.1;refine ai (cN (r:=aH) (xs:=[.int r.1,.int r.2.1]) (λq Γ=>∃e6,Γ=[.im (ck C D) s,ay (i:Int),ay p.2.1,ay p.2.2,.di (cC (([r.1,r.2.1].take q).foldl iL Fj)),.im aH (gK r),e6]) (B2 (by show 2<=Nb;decide) (EV.cast (FZ (aa 5 rfl) ov_none (ov_some ev_int)) (congrArg PV.tup hcut))) (bA 6) ⟨_,rfl⟩ (λq y Γ hy hΓ=>?_) (λΓ hΓ=>?_))
   ·obtain⟨e6,rfl⟩:=hΓ;obtain⟨n,hn,rfl⟩:∃n,[r.1,r.2.1][q]?=some n/\PV.int n=y:=by
     have:([r.1,r.2.1].map PV.int)[q]?=some y:=hy;rw[K9] at this;exact MT.mp this
    have hnq:([r.1,r.2.1].take (q+1)).foldl iL Fj=iL (([r.1,r.2.1].take q).foldl iL Fj) n:=by rw[Lw,hn,LV];rfl
    rw[hnq];have hql:(([r.1,r.2.1].take q).foldl iL Fj).length<=4004:=by
     have key:∀(ks:Kr)(G:Kx),(ks.foldl iL G).length<=G.length+ks.length:=by
      intro ks
      induction ks with
      | nil=>intro G;exact My _
      | cons k ks ih=>intro G;rw[foldl_cons,Lg];have:=ih (iL G k);have:=lB G k;omega
     have:=key ([r.1,r.2.1].take q) Fj;have:([r.1,r.2.1].take q).length<=2:=by rw[Lc];exact MN _ _
     omega
    generalize ([r.1,r.2.1].take q).foldl iL Fj=G at hql;change WS _ _ [.im (ck C D) s,ay (i:Int),ay p.2.1,ay p.2.2,.di (cC G),.im aH (gK r),.im aH (.int n)] _ _;refine ai (Eo 4 (k:=n) (EV.iP (aa 6 rfl)) (zA 4 M.len rfl) rfl (ME hql (by decide)) ⟨.im aH (.int n),?_⟩);unfold iL;rfl
   ·obtain⟨e6,rfl⟩:=hΓ;exact⟨.im aH (gK r),e6,rfl⟩
  ·have Rc:¬z6 p r=true:=by
    rw[show z6 p r=false from h];decide
   rw[show i4 p Fj r=Fj from QF Rc]
 ·obtain⟨e5,e6,rfl⟩:=hΓ;refine⟨e5,e6,?_⟩;rw[KY,LA]
 rintro _ ⟨e5,e6,rfl⟩;exact ai (tV 4 rfl rfl)
variable {CT CP:Addr}
abbrev Ap:Stmt:=top lY
abbrev EL:Ks:=["spots","known","lost","found","number","part","whole"]
def oO (s:cf):Kr:=(s.rows.filter λr=> !gi (dT (gM s)) r.1).map (·.1)
def tM (s:cf)(p:fX):Bool:= !((oO s).any λn=>decide (p.2.1<n)&&decide (n<p.2.2))
def kC (s:cf)(p:fX):Bool:=tM s p&&decide ((16:Int)<((lA s p).length:Int))
def z5 (s:cf):Kr:=pk s (s.parts.filter (kC s))
theorem Hg (M:bS K mg)(M3:jW mg)(HD:bz K D eN)(CN:aF P w K mg base "name_words" 1 (aM (uM C D) K))(CT:aF P w K mg base "come_to" 1 (aM (D9 C D) K))(CP:aF P w K mg base "places_in" 1 (aM (EG C D) K))(Df:Def K mg "places_beyond" Ap ["spots"]):aF P w K mg base "places_beyond" 2 (aM (fM C D z5) K):=by
 have S0:Ln [("row":Str),"known"]:=by decide
 have Ut:Ln [("row":Str),"part"]:=by decide
 refine bE (N:=EL) (k:=1) Df (λf QP A outer st H E qs T nd hr hS=>?_);obtain⟨s,rfl,hG,rfl⟩:=hS;obtain⟨t,hmp⟩:=M3.places;have hu:=ru hr;have Q3:=hG.pl;have hrl:=hG.rl;refine aj (aL 1 (y:=dT (gM s)) (aB CT hr (ae (aa 0 rfl) au) ⟨s,rfl,hG,rfl⟩) ?_);change WS _ _ [.im (ck C D) s,.im gv (dT (gM s)),.no,.no,.no,.no,.no] _ _;have VF:(((s.rows.map gK).filter λz=> !gi (dT (gM s)) (sX z)).map sX)=oO s:=by
  rw[Mw,LL];rfl
 refine aj (ng 2 (own:=["row"]) (fr:=["known"]) (ix:=[1]) (ra:=aH) (rb:=ah) (p:=λz=> !gi (dT (gM s)) (sX z)) (f:=sX) (cx (so:=ak Ap) (N0:=EL) rfl rfl (λx h=>bL h) (by decide +kernel)) (c7 (vp (C:=C) HD (aa 0 rfl)))
  (λC s H ex=>bA 0) (λx=>⟨.inr rfl,.inl rfl,trivial⟩) (λC' s H ex z hz=>by
   obtain⟨r,_,rfl⟩:=Lu.mp hz;exact fQ (uG hu (EV.iP (n:=r.1) (df (aa 0 rfl) ev_int rfl)) (aa 1 rfl))) (λC' s H ex z hz _=>by
   obtain⟨r,_,rfl⟩:=Lu.mp hz;exact EV.iP (n:=r.1) (df (aa 0 rfl) ev_int rfl)) ?_)
 rw[VF];have ll:(oO s).length<=2000:=by
  unfold oO;rw[KY];exact Mz (Ly _ _) hrl
 refine WS.freeze 2 rfl (aE (by omega)) ?_;refine aj (cJ 3 (r:=aH) (ys:=[]) (aG aJ (MC _)) ?_);refine bO (N1:=λΓ=>∃e4 e5 e6,Γ=[.im (ck C D) s,.im gv (dT (gM s)),dv (oO s),.mu aH ((s.parts.filter (kC s)).map dM),e4,e5,e6]) (cN (λi Γ=>∃e4 e5 e6,Γ=[.im (ck C D) s,.im gv (dT (gM s)),dv (oO s),.mu aH (((s.parts.take i).filter (kC s)).map dM),e4,e5,e6]) (ij M.enumerate (ib (C:=C) HD (aa 0 rfl))) (fw 4 5) ⟨_,_,_,rfl⟩ (λi z Γ hz hΓ=>?_) (λΓ hΓ=>?_)) ?_
 ·obtain⟨e4,e5,e6,rfl⟩:=hΓ;obtain⟨e1,e2⟩:=lx hz;rw[K9] at e2;obtain⟨p,hp,ep⟩:=MT.mp e2;obtain⟨zn,zp⟩:=z;dsimp only at e1 ep;subst ep;subst e1;have il:=(KW.mp hp).1;have Su:(s.parts.take (i+1)).filter (kC s)=(s.parts.take i).filter (kC s)++(if kC s p then[p] else[]):=by
   rw[Lw,hp,Mx];congr 1;by_cases h:kC s p=true
   ·rw[QG h];exact List.filter_cons_of_pos h
   ·rw[QF h];exact List.filter_cons_of_neg h
  have UY:((s.parts.take i).filter (kC s)).length<=1000:=Mz (Ly _ _) (by rw[Lc];omega);rw[Su];generalize (s.parts.take i).filter (kC s)=fo at UY;change WS _ _ [.im (ck C D) s,.im gv (dT (gM s)),dv (oO s),.mu aH (fo.map dM),ay (i:Int),.im aH (dM p),e6] _ _;refine aj (aL 6 (y:=tM s p) (EV.cast (wX (Dx M.any (aI.im (cL (own:=["row"]) (fr:=["part"]) (ix:=[5]) (ra:=ah) (rb:=bp) (p:=λ_=>true) (f:=λn=>decide (p.2.1<n)&&decide (n<p.2.2)) (cx (so:=ak Ap) (N0:=EL) rfl rfl (λx h=>bL h) (by decide +kernel)) (c7 (aa 2 rfl))
   (λC s H ex=>bA 0) (λx=>⟨.inr rfl,.inl rfl,trivial⟩) (λC' s H ex c hc=>fA) (λC' s H ex o ho _=>lX fg fg (EV.iP (n:=p.2.1) (df (aa 1 rfl) ev_int rfl)) (aa 0 rfl) (EV.iP (n:=p.2.2) (df (aa 1 rfl) ev_int rfl))))))) ?_) ?_)
  ·unfold tM;rw[LH.mpr λ_ _=>rfl,any_map];rfl
  change WS _ _ [.im (ck C D) s,.im gv (dT (gM s)),dv (oO s),.mu aH (fo.map dM),ay (i:Int),.im aH (dM p),.im bp (tM s p)] _ _;refine ai (aW (TW.tv (bH (dE (aa 6 rfl)) (λ_=>bZ (aq eX (yH M.len (aB CP hr (ae (aa 0 rfl) (ae (aa 4 rfl) au)) ⟨s,i,p,rfl,hG,hp,rfl⟩)) (jx hmp))))) (λh=>?_) (λh=>aQ ⟨ay (i:Int),.im aH (dM p),.im bp (tM s p),?_⟩))
  ·refine ai (dO 3 (aa 5 rfl) rfl rfl (ME (show _<=1000 by rw[KY];exact UY) (by decide)) ⟨ay (i:Int),.im aH (dM p),.im bp (tM s p),?_⟩);rw[QG (show kC s p=true from h),Lj];rfl
  ·rw[QF (by rw[show kC s p=false from h];decide),Lh]
 ·obtain⟨e4,e5,e6,rfl⟩:=hΓ;rw[cU,KY,LA];exact⟨e4,e5,e6,rfl⟩
 rintro _ ⟨e4,e5,e6,rfl⟩;refine WS.freeze 3 rfl (aE (by rw[KY];exact Mz (Ly _ _) (by omega))) ?_;exact ai (aN (aB CN hr (ae (aa 0 rfl) (ae (aa 3 rfl) au)) ⟨s,_,rfl,λp h=>hG.pv p (L6.mp h).1,rfl⟩) rfl)
abbrev Jh:Stmt:=top p7
abbrev nHI:Ks:=["spots","found"]
def ka (s:cf):Kr:=(yp s++oW s++t8 s++yb s)++Ae s++xb s++z5 s++Ay s
theorem jm {p:α->Bool}(h:xs.length<=n):(xs.filter p).length<=n:=Mz (Ly _ _) h
theorem EC (h:r9 s):((yp s).length<=2000/\(oW s).length<=2000/\(t8 s).length<=2000/\(yb s).length<=2000)/\(Ae s).length<=2000/\(xb s).length<=2000/\(z5 s).length<=2000/\(Ay s).length<=2000:=by
 have hl:=h.l;have hp:=h.pl;have hr:=h.rl;refine⟨⟨kz ?_,?_,?_,kz (jm (by rw[Lv];omega))⟩,kz (jm (by omega)),?_,kz (jm (by omega)),kz (by rw[Lv];omega)⟩
 ·unfold tU;rw[KY];exact jm (by rw[cU];omega)
 ·have:=(mQ s s.S.length).1;unfold oW;omega
 ·unfold t8;rw[KY];exact jm (by have:=tQ s;omega)
 ·unfold xb;rw[KY,Lv];omega
theorem Gi (NA:aF P w K mg base "named_again" 2 (aM (fM C D yp) K))(CA:aF P w K mg base "called_astray" 1 (aM (fM C D oW) K))(NC:aF P w K mg base "not_come_to" 2 (aM (fM C D t8) K))(NL:aF P w K mg base "not_called" 2 (aM (fM C D yb) K))(EB:aF P w K mg base "ended_at_begin" 2 (aM (fM C D Ae) K))(RB:aF P w K mg base "rows_beyond" 1 (aM (fM C D xb) K))(PY:aF P w K mg base "places_beyond" 2 (aM (fM C D z5) K))(PB:aF P w K mg base "parts_beyond" 2 (aM (fM C D Ay) K))(Df:Def K mg "hindrances" Jh ["spots"]):aF P w K mg base "hindrances" 3 (aM (fM C D ka) K):=by
 have CA:=CA.mono (show 1<=2 by decide);have RB:=RB.mono (show 1<=2 by decide);refine bE (N:=nHI) (k:=2) Df (λf QP A outer st H E qs T nd hr hS=>?_);obtain⟨s,rfl,hG,rfl⟩:=hS;obtain⟨⟨l1,l2,l3,l4⟩,l5,l6,l7,l8⟩:=EC hG;refine aj (aL 1 (y:=yp s++oW s++t8 s++yb s) (aI.im (ba (aI.im (ba (aI.im (ba (aB NA hr (ae (aa 0 rfl) au) ⟨s,rfl,hG,rfl⟩) (aB CA hr (ae (aa 0 rfl) au) ⟨s,rfl,hG,rfl⟩) (aE (by omega)))) (aB NC hr (ae (aa 0 rfl) au) ⟨s,rfl,hG,rfl⟩) (aE (by simp;omega)))) (aB NL hr (ae (aa 0 rfl) au) ⟨s,rfl,hG,rfl⟩) (aE (by simp;omega)))) ?_);exact ai (aN (aI.im (ba (aI.im (ba (aI.im (ba (aI.im (ba (aa 1 rfl) (aB EB hr (ae (aa 0 rfl) au) ⟨s,rfl,hG,rfl⟩) (aE (by simp;omega)))) (aB RB hr (ae (aa 0 rfl) au) ⟨s,rfl,hG,rfl⟩) (aE (by simp;omega)))) (aB PY hr (ae (aa 0 rfl) au) ⟨s,rfl,hG,rfl⟩) (aE (by simp;omega)))) (aB PB hr (ae (aa 0 rfl) au) ⟨s,rfl,hG,rfl⟩) (aE (by simp;omega)))) rfl)
abbrev z7:Stmt:=top mT
abbrev nNP:Ks:=["text","spots","found"]
theorem v7:aZ nNP ["text"] (ak z7):=RQ
def Txt2 (x:Str)(s:cf):Prop:=∃(S:List bq)(Ld:List Kr),vN x S/\nK S Ld/\s=dw S Ld/\r9 s
def Ik (C D:Addr):cE:=λK ps T=>∃(x:Str)(s:cf),ps=[⟨ag,x⟩]/\Txt2 x s/\ka s=[]/\T=bN K (ck C D) (· =s)
theorem Gk (G:mP P w K mg base C D)(CH:aF P w K mg base "hindrances" 3 (aM (fM C D ka) K))(Df:Def K mg "need_program" z7 ["text"]):aF P w K mg base "need_program" 6 (aM (Ik C D) K):=by
 have nd:=v7.nd;have CH:=CH.mono (show 3<=5 by decide);refine bE (Sc:=v7) (k:=5) Df (λf QP A outer st H E qs T _ hr hS=>?_);obtain⟨x,s,rfl,⟨S,Ld,hx,hk,rfl,hG⟩,h0,rfl⟩:=hS;refine aj (aL 1 (y:=dw S Ld) (qM G hr (ae (aa 0 rfl) au) hx hk) ?_);refine aj (aL 2 (y:=([]:Kr)) (EV.cast (aB CH hr (ae (aa 1 rfl) au) ⟨dw S Ld,rfl,hG,rfl⟩) h0) ?_);refine aj (aW (mJ (aa 2 rfl)) (λh=>by cases h) (λ_=>aQ ?_));exact ai (aN (aa 1 rfl) rfl)
inductive Ref (CT CP:Addr) (x:Str):rN->Prop
 | txt {k:Int} (h:zU x k):Ref CT CP x (xw CT k)
 | pro {s:cf} (h:Txt2 x s) (hn:ka s≠[]):Ref CT CP x (xw CP (least (ka s)))
def vc (CT CP:Addr):iD:=λK ps o=>∃x:Str,ps=[⟨ag,x⟩]/\Ref CT CP x o
theorem Dg (UB:mg "min"=none)(G:mP P w K mg base C D)(GD:wj P w K mg base CT D)(GP:t9 P w K mg base "NoProgram" CP)(CH:aF P w K mg base "hindrances" 3 (aM (fM C D ka) K))(F:cK K "need_program" "need_program" z7 f fd)(hm:mg "need_program"=some (.ref f))(hb:Binds K fd ["text"] []):g7 P w K mg base "need_program" 7 (gO (vc CT CP) K):=by
 have nd:=v7.nd;have CH:=CH.mono (show 3<=6 by decide);refine mr (k:=6) F v7 hm hb (λqs o ⟨_,e,_⟩=>by rw[e];rfl) (λqs T ⟨_,_,e⟩=>by cases e) (λQP A outer st H R E qs c fs hr hS q=>?_);obtain⟨x,rfl,hR⟩:=hS;cases hR with
 | txt h=>
   obtain⟨fi,RP,MK,SI,bi⟩:=GD.ex;exact x5 1 (BH MK SI hr GD.mg bi (ae (aa 0 rfl) au) (λa=>⟨a,x,_,rfl,h,rfl⟩) q)
 | @pro s h hn=>
   obtain⟨S,Ld,hx,hk,rfl,hG⟩:=h;refine eO (N1:=λΓ=>Γ=[.im ag x,.im (ck C D) (dw S Ld),.no]) (aL 1 (y:=dw S Ld) (qM G (hr.mono (by decide)) (ae (aa 0 rfl) au) hx hk) rfl) ?_;rintro _ rfl;refine eO (N1:=λΓ=>Γ=[.im ag x,.im (ck C D) (dw S Ld),dv (ka (dw S Ld))]) (aL 2 (y:=ka (dw S Ld)) (aB CH hr (ae (aa 1 rfl) au) ⟨dw S Ld,rfl,hG,rfl⟩) rfl) ?_;rintro _ rfl;refine qm (TV.cast (mJ (aa 2 rfl)) ?_) (lq GP (hr.mono (by decide)) (ae (Cp UB (aa 2 rfl) hn) au) q);cases e:ka (dw S Ld) with
   | nil=>exact QE e hn
   | cons _ _=>rfl
abbrev Af:Stmt:=top wJ
theorem vG:aZ ["text"] ["text"] (ak Af):=RQ
def IJ:cE:=λK ps T=>∃(x:Str)(s:cf),ps=[⟨ag,x⟩]/\Txt2 x s/\ka s=[]/\T=bN K eW (· =())
theorem HS (CN:aF P w K mg base "need_program" 6 (aM (Ik C D) K))(Df:Def K mg "looked" Af ["text"]):aF P w K mg base "looked" 7 (aM IJ K):=by
 have nd:=vG.nd;refine BP (Sc:=vG) (k:=6) Df (λf QP A outer st H E qs T _ hr hS=>?_);obtain⟨x,s,rfl,hx,h0,rfl⟩:=hS;refine⟨λH0 H' R'=>⟨(),rfl,rfl⟩,?_⟩;change WS _ _ [.im ag x] _ _;exact ai (mV (aB CN hr (ae (aa 0 rfl) au) ⟨x,s,rfl,hx,h0,rfl⟩) trivial)
theorem Ey (CN:g7 P w K mg base "need_program" 7 (gO (vc CT CP) K))(F:cK K "looked" "looked" Af f fd)(hm:mg "looked"=some (.ref f))(hb:Binds K fd ["text"] []):g7 P w K mg base "looked" 8 (gO (vc CT CP) K):=by
 have nd:=vG.nd;refine mr (k:=7) F vG hm hb (λqs o ⟨_,e,_⟩=>by rw[e];rfl) (λqs T ⟨_,_,e⟩=>by cases e) (λQP A outer st H R E qs c fs hr hS q=>?_);obtain⟨x,rfl,hR⟩:=hS;change RS _ H R _ [.im ag x];exact Cg (mh CN hr (ae (aa 0 rfl) au) ⟨x,rfl,hR⟩ q)
theorem boot_bool:Ny "bool"=some (.type "bool"):=by decide +kernel
theorem Ci:Ny "ValueError"=some (.type "ValueError"):=by decide +kernel
abbrev ES:Ks:=["NoText","NoProgram","NoAnswer","NoChoice","NoPlan","NoLog","NoChain","NoCode","NoCounts","NoGuess","NoLoose","NoMarks","NoName","NoRow","NoRun","NoWay","NoWeb"]
structure mB (mg:Kp):Prop where
 isinstance:mg "isinstance"=none
 bool:mg "bool"=none
 VE:mg "ValueError"=none
structure XG (K:P1)(mg:Kp)(x:Str)(C:Addr)(j:Nat):Prop where
 ci:∃CE fi,kM K mg x "word" C CE fi/\mg "CountError"=some (.ref CE)/\Qt K (.ref C) (.ref CE)=some true
 cs:∀i,i<17->∃D,mg (ES.getD i "")=some (.ref D)/\Qg K (.ref C) (.ref D)=some (decide (i=j))
 v:Qg K (.ref C) (.type "ValueError")=some true
 j:j=0∨j=1
abbrev Js:Stmt:=top nN
abbrev nCG:Ks:=["_law_text_here","_law_caught_here","e"]
def SCG (CT CP:Addr):cE:=λK ps T=>∃x:Str,ps=[⟨ag,x⟩]/\((∃s,Txt2 x s/\ka s=[]/\T=bN K eW (· =()))∨(∃k,Ref CT CP x (xw CT k)/\T=bN K (j9 CT "word") (· =k))∨∃k,Ref CT CP x (xw CP k)/\T=bN K (j9 CP "word") (· =k))
theorem Gm (GT:XG K mg "NoText" CT 0)(GP:XG K mg "NoProgram" CP 1)(CL:aF P w K mg base "looked" 7 (aM IJ K))(CD:g7 P w K mg base "looked" 8 (gO (vc CT CP) K))(Df:Def K mg "_law_caught" Js ["_law_text_here"]):aF P w K mg base "_law_caught" 9 (aM (SCG CT CP) K):=by
 have CL:=CL.mono (show 7<=8 by decide);refine bE (N:=nCG) (k:=8) Df (λf QP A outer s H E qs T nd hr hS=>?_);obtain⟨x,rfl,hS⟩:=hS;change WS _ _ [.im ag x,.no,.no] _ _;refine aj (aL 1 eG ?_);change WS _ _ [.im ag x,.im eW (),.no] _ _;rcases hS with⟨sp,hx,h0,rfl⟩ | ⟨k,hR,rfl⟩ | ⟨k,hR,rfl⟩
 ·refine zE (N1:=λΓ=>Γ=[.im ag x,.im eW (),.no]) (ai (mV (aB CL hr (ae (aa 0 rfl) au) ⟨x,sp,rfl,hx,h0,rfl⟩) rfl)) ?_;rintro _ rfl;exact ai (aN (aa 1 rfl) rfl)
 ·obtain⟨CE,fi,ci,hCE,hxm⟩:=GT.ci;exact uJ 2 1 (D:=CT) (CE:=CE) (nm:="word") (m:=k) (sN CD hr (ae (aa 0 rfl) au) ⟨x,rfl,hR⟩) rfl hCE hxm (by decide)
 ·obtain⟨CE,fi,ci,hCE,hxm⟩:=GP.ci;exact uJ 2 1 (D:=CP) (CE:=CE) (nm:="word") (m:=k) (sN CD hr (ae (aa 0 rfl) au) ⟨x,rfl,hR⟩) rfl hCE hxm (by decide)
abbrev Aw:Stmt:=top p8
abbrev nCL:Ks:=["_law_caught_here","_law_tests"]
theorem vk:aZ nCL ["_law_caught_here"] (ak Aw):=RQ
def SCL:cE:=λK ps T=>(ps=[⟨eW,()⟩]/\T=bN K ah (· = -1))
def Dy (x:Str)(C:Addr)(j:Nat):cE:=λK ps T=>∃k:Int,ps=[⟨j9 C "word",k⟩]/\T=bN K ah (· =(j:Int))
theorem EZ (Df:Def K mg "_law_class" Aw ["_law_caught_here"]):aF P w K mg base "_law_class" 1 (aM SCL K):=by
 have nd:=vk.nd;refine bE (Sc:=vk) Df (λf QP A outer s H E qs T _ hr hS=>?_);obtain⟨rfl,rfl⟩:=hS;exact aj (aW (aq kR (aa 0 rfl) eG) (λ_=>ai (aN (eC ev_int) rfl)) (λh=>QE h (by decide)))
theorem wZ (M6:mB mg)(G:XG K mg x C j)(F:cK K "_law_class" "_law_class" Aw f fd)(hm:mg "_law_class"=some (.ref f))(hb:Binds K fd ["_law_caught_here"] []):aF P w K mg base "_law_class" 1 (aM (Dy x C j) K):=by
 have nd:=vk.nd;refine e8 F vk hm hb (λqs T ⟨_,e,_⟩=>by rw[e];rfl) (λQP A outer s H E qs T hr hS=>?_);obtain⟨k,rfl,rfl⟩:=hS;obtain⟨CE,fi,ci,_,_⟩:=G.ci;have el:=ci.look;have mi:=M6.isinstance;obtain⟨_,m0,k0⟩:=G.cs 0 (by decide);obtain⟨_,m1,k1⟩:=G.cs 1 (by decide);obtain⟨_,m2,k2⟩:=G.cs 2 (by decide);obtain⟨_,m3,k3⟩:=G.cs 3 (by decide);obtain⟨_,m4,k4⟩:=G.cs 4 (by decide);obtain⟨_,m5,k5⟩:=G.cs 5 (by decide);obtain⟨_,m6,k6⟩:=G.cs 6 (by decide);obtain⟨_,m7,k7⟩:=G.cs 7 (by decide);obtain⟨_,m8,k8⟩:=G.cs 8 (by decide);obtain⟨_,m9,k9⟩:=G.cs 9 (by decide);obtain⟨_,m10,k10⟩:=G.cs 10 (by decide);obtain⟨_,m11,k11⟩:=G.cs 11 (by decide);obtain⟨_,m12,k12⟩:=G.cs 12 (by decide);obtain⟨_,m13,k13⟩:=G.cs 13 (by decide);obtain⟨_,m14,k14⟩:=G.cs 14 (by decide);obtain⟨_,m15,k15⟩:=G.cs 15 (by decide);obtain⟨_,m16,k16⟩:=G.cs 16 (by decide);have z3:3<=Nb:=by decide
 have z2:2<=Nb:=by decide
 have hz:∀n,n<=100->n<=Nb:=λn h=>Mz h (by decide);change WS _ _ [.im (j9 C "word") k,.no] _ _;refine aj (aW (aq G5 (aa 0 rfl) eG) (λh=>QE h (by decide)) (λ_=>aQ ?_));refine aj (aL 1 (aI.im (aG (r:=bp) (ao (cX el mi (aa 0 rfl) m0 k0) (ao (cX el mi (aa 0 rfl) m1 k1) (ao (cX el mi (aa 0 rfl) m2 k2) aJ))) z3)) ?_);refine aj (aL 1 (aI.im (ba (aa 1 rfl) (aI.im (aG (r:=bp) (ao (cX el mi (aa 0 rfl) m3 k3) (ao (cX el mi (aa 0 rfl) m4 k4) (ao (cX el mi (aa 0 rfl) m5 k5) aJ))) z3)) (hz _ (by simp)))) ?_);refine aj (aL 1 (aI.im (ba (aa 1 rfl) (aI.im (aG (r:=bp) (ao (cX el mi (aa 0 rfl) m6 k6) (ao (cX el mi (aa 0 rfl) m7 k7) (ao (cX el mi (aa 0 rfl) m8 k8) aJ))) z3)) (hz _ (by simp)))) ?_);refine aj (aL 1 (aI.im (ba (aa 1 rfl) (aI.im (aG (r:=bp) (ao (cX el mi (aa 0 rfl) m9 k9) (ao (cX el mi (aa 0 rfl) m10 k10) (ao (cX el mi (aa 0 rfl) m11 k11) aJ))) z3)) (hz _ (by simp)))) ?_);refine aj (aL 1 (aI.im (ba (aa 1 rfl) (aI.im (aG (r:=bp) (ao (cX el mi (aa 0 rfl) m12 k12) (ao (cX el mi (aa 0 rfl) m13 k13) (ao (cX el mi (aa 0 rfl) m14 k14) aJ))) z3)) (hz _ (by simp)))) ?_);refine aj (aL 1 (aI.im (ba (aa 1 rfl) (aI.im (aG (r:=bp) (ao (cX el mi (aa 0 rfl) m15 k15) (ao (cX el mi (aa 0 rfl) m16 k16) aJ)) z2)) (hz _ (by simp)))) ?_);refine aj (aW (TV.cast (b':=false) (TW.tv (h9 (aq JZ (xU (aa 1 rfl) gj) ev_int) (λ_=>gD (fZ (dE (E6 el mi (aa 0 rfl) M6.VE Ci G.v)))))) (by rcases G.j with rfl | rfl<;>rfl)) (λh=>QE h (by decide)) (λ_=>aQ ?_))
 refine ai (aN (wA (j:=j) (aa 1 rfl) gj ?_ λm h=>?_) rfl)
 ·rcases G.j with rfl | rfl<;>rfl
 ·rcases G.j with rfl | rfl
  ·omega
  ·rw[show m=0 by omega];rfl
abbrev I0:Stmt:=top pY
def Jc:cE:=λK ps T=>∃x:Int,ps=[⟨ah,x⟩]/\T=bN K bp (· =true)
theorem G6 (M:bS K mg)(M6:mB mg)(Df:Def K mg "_law_whole" I0 ["_law_told"]):aF P w K mg base "_law_whole" 1 (aM Jc K):=by
 refine bE (N:=["_law_told"]) Df (λf QP A outer s H E qs T nd hr hS=>?_);obtain⟨x,rfl,rfl⟩:=hS;exact ai (aN (mx (px M6.isinstance M.int PyProof.Rows.boot_int (aa 0 rfl) ty_int) (λ_=>sy (wX (px M6.isinstance M6.bool boot_bool (aa 0 rfl) ty_int)))) rfl)
abbrev Fy:Stmt:=top pR
abbrev Fh:Ks:=["_law_caught_here","_law_due"]
theorem EH:aZ Fh Fh (ak Fy):=RQ
def IG (CT CP:Addr):cE:=λK ps T=>(ps=[⟨eW,()⟩,⟨eW,()⟩]∨(∃k,ps=[⟨j9 CP "word",k⟩,⟨eW,()⟩])∨∃k:Int,ps=[⟨j9 CT "word",k⟩,⟨ah,k⟩])/\T=bN K bp (· =true)
theorem Gv (GT:XG K mg "NoText" CT 0)(CN:aF P w K mg base "_law_class" 1 (aM SCL K))(CX:aF P w K mg base "_law_class" 1 (aM (Dy "NoText" CT 0) K))(CY:aF P w K mg base "_law_class" 1 (aM (Dy "NoProgram" CP 1) K))(CW:aF P w K mg base "_law_whole" 1 (aM Jc K))(F:cK K "_law_right" "_law_right" Fy f fd)(hm:mg "_law_right"=some (.ref f))(hb:Binds K fd Fh []):aF P w K mg base "_law_right" 2 (aM (IG CT CP) K):=by
 have nd:=EH.nd;refine e8 F EH hm hb (λqs T ⟨e,_⟩=>by rcases e with e | ⟨_,e⟩ | ⟨_,e⟩<;>rw[e]<;>rfl) (λQP A outer s H E qs T hr hS=>?_)
 obtain⟨hS,rfl⟩:=hS;rcases hS with rfl | ⟨k,rfl⟩ | ⟨k,rfl⟩
 ·exact aj (aW (aq kR (aa 1 rfl) eG) (λ_=>ai (aN (dX FY (aB CN hr (ae (aa 0 rfl) au) ⟨rfl,rfl⟩) (aI.im (aG (r:=ah) (ao (eC ev_int) (ao ev_int aJ)) (by show 2<=Nb;decide)))) rfl)) (λh=>QE h (by decide)))
 ·exact aj (aW (aq kR (aa 1 rfl) eG) (λ_=>ai (aN (dX FY (aB CY hr (ae (aa 0 rfl) au) ⟨k,rfl,rfl⟩) (aI.im (aG (r:=ah) (ao (eC ev_int) (ao ev_int aJ)) (by show 2<=Nb;decide)))) rfl)) (λh=>QE h (by decide)))
 ·obtain⟨CE,fi,ci,_,_⟩:=GT.ci;obtain⟨cd,QR,_,RY⟩:=ci.cls;refine aj (aW (aq vO (aa 1 rfl) eG) (λh=>QE h (by decide)) (λ_=>aQ ?_));refine ai (aN (mx (dX dP (aB CX hr (ae (aa 0 rfl) au) ⟨k,rfl,rfl⟩) ev_int) (λ_=>mx (aB CW hr (ae (yB ci.look QR RY ci.no (aa 0 rfl)) au) ⟨_,rfl,rfl⟩) (λ_=>sy (dX dP (yB ci.look QR RY ci.no (aa 0 rfl)) (aa 1 rfl))))) ?_);show(decide (((0:Nat):Int)=0)&&(true&&decide (k=k)))=true;rw[decide_eq_true rfl];rfl
theorem Fw:∀n:Nat,n<128->(Ot.Str.occurrences fk ⟨#[n]⟩ 0 fk.length 1).isEmpty= !ud n:=by decide +kernel
abbrev RF (y:gR):Ks:=y.O.map (aP y.S)
def oZ (k:Str)(ks:Ks):Ks:=
 if ks.isEmpty∨k="if"∨k="while" then ks++[k] else if k="else" then ks.dropLast++[("else":Str)] else if k="end" then ks.dropLast else ks
theorem Ht {k n:Str}(ro:∀o∈y.O,0<=o/\o<(y.S.length:Int)):RF (S5 k n y)=(if k∈QT then(RF y).dropLast else RF y)++(if k∈Q4 then[k] else[]):=by
 show List.map (aP (y.S++[nO k (if k∈named then n else "") y])) ((if k∈QT then y.O.dropLast else y.O)++(if k∈Q4 then[(y.S.length:Int)] else[]))=_;rw[Lj];congr 1
 ·by_cases h:k∈QT
  ·rw[QG h,QG h,ou λo ho=>ro o ((List.dropLast_sublist _).mem ho),List.map_dropLast]
  ·rw[QF h,QF h,ou ro]
 ·by_cases h:k∈Q4
  ·rw[QG h,QG h,Mj,Fn];rfl
  ·rw[QF h,QF h];rfl
theorem Hv {k n:Str}(ro:∀o∈y.O,0<=o/\o<(y.S.length:Int))(hm:cM k (RF y)=true):RF (S5 k n y)=oZ k (RF y):=by
 rw[Ht ro];generalize RF y=ks at hm;unfold oZ;rcases ma hm with⟨rfl,rfl⟩ | ⟨h1,h2⟩
 ·rfl
 ·have h1:¬ks.isEmpty=true:=λz=>h1 (Mp.mp z);rcases h2 with⟨_,rfl⟩ | ⟨_,rfl⟩ | ⟨_,rfl⟩ | rfl | rfl | rfl | rfl | rfl
  ·rw[QF (by decide +kernel),QF (by decide +kernel),QF (λz=>z.elim h1 (by decide +kernel)),QF (by decide +kernel),QF (by decide +kernel),Lh]
  ·rw[QG (by decide +kernel),QG (by decide +kernel),QF (λz=>z.elim h1 (by decide +kernel)),QG rfl]
  ·rw[QG (by decide +kernel),QF (by decide +kernel),QF (λz=>z.elim h1 (by decide +kernel)),QF (by decide +kernel),QG rfl,Lh]
  ·rw[QF (by decide +kernel),QF (by decide +kernel),QF (λz=>z.elim h1 (by decide +kernel)),QF (by decide +kernel),QF (by decide +kernel),Lh]
  ·rw[QF (by decide +kernel),QF (by decide +kernel),QF (λz=>z.elim h1 (by decide +kernel)),QF (by decide +kernel),QF (by decide +kernel),Lh]
  ·rw[QF (by decide +kernel),QG (by decide +kernel),QG (.inr (.inl rfl))]
  ·rw[QF (by decide +kernel),QG (by decide +kernel),QG (.inr (.inr rfl))]
  ·rw[QF (by decide +kernel),QF (by decide +kernel),QF (λz=>z.elim h1 (by decide +kernel)),QF (by decide +kernel),QF (by decide +kernel),Lh]
theorem xN {k:Str}(hm:cM k ks=true):decide (k∈named)=(ks.isEmpty ||decide (k∈(["do","call","if","while"]:Ks))):=by
 rcases ma hm with⟨rfl,rfl⟩ | ⟨h1,h2⟩
 ·rfl
 ·have h1:ks.isEmpty=false:=by cases ks with
   | nil=>exact QE rfl h1
   | cons _ _=>rfl
  rw[h1];rcases h2 with⟨_,rfl⟩ | ⟨_,rfl⟩ | ⟨_,rfl⟩ | rfl | rfl | rfl | rfl | rfl<;>decide +kernel
abbrev FG:Stmt:=top mR
theorem GI (M:bS K mg)(Df:Def K mg "_law_is_name" FG ["_law_word"]):aF P w K mg base "_law_is_name" 1 (aM wL K):=by
 have S0:Ln [("_law_sign":Str)]:=by decide
 refine bE (N:=["_law_word"]) Df (λf QP A outer s H E qs T nd hr hS=>?_);obtain⟨x,rfl,hx,rfl⟩:=hS;have hu:=ru hr;change WS _ _ [.im ag x] _ _;refine aj (aW (TW.tv (h9 (aq fg (nY M.len (aa 0 rfl) hx.le) ev_int) (λ_=>gD (aq eX (nY M.len (aa 0 rfl) hx.le) ev_int)))) (λh=>?_) (λh=>aQ ?_))
 ·refine ai (aN gj ?_);unfold f6;rcases KJ.mp h with h | h
  ·have h:(x.length:Int)<1:=QH h;rw[QJ (show¬1<=x.length by omega)];rfl
  ·have h:(8:Int)<(x.length:Int):=QH h;rw[QJ (show¬x.length<=8 by omega),Bool.and_false];rfl
 ·obtain⟨h1,h2⟩:=KI.mp h;have h1:¬(x.length:Int)<1:=QI h1;have h2:¬(8:Int)<(x.length:Int):=QI h2;have sg:∀c∈ee x,∃n,c=⟨#[n]⟩/\n<128:=λc hc=>by
   unfold ee at hc;obtain⟨i,hi,rfl⟩:=Lu.mp hc;have hi:i<x.cps.size:=by simpa using hi
   refine⟨x.cps.getD i 0,rfl,hx.a _ ?_⟩;rw[KA];simp[hi]
  refine ai (aN (dX (FA (Nat.lt_of_succ_lt hu)) (aI.im (cL (own:=["_law_sign"]) (fr:=[]) (ix:=[]) (ra:=ag) (rb:=ag) (p:=λc=> !ud (c.cps.getD 0 0)) (f:=λc=>c) (cx (so:=ak FG) (N0:=["_law_word"]) rfl rfl (λx h=>bL h) (by decide +kernel)) (r8 (aa 0 rfl) hx.asc hx.le)
   (λC s H ex=>bA 0) (λx=>⟨.inr rfl,trivial⟩) (λC s H ex c hc=>?_) (λC s H ex c hc _=>aa 0 rfl))) (aI.im (aG (r:=ag) aJ (MC _)))) ?_)
  ·obtain⟨n,rfl,hn⟩:=sg c hc;exact fQ (TV.cast (aq wW (aa 0 rfl) av) (Fw n hn))
  ·unfold f6;rw[← uL,decide_eq_true (show 1<=x.length by omega),decide_eq_true (show x.length<=8 by omega)];show(List.map (λc=>c) _).isEmpty=_;rw[List.map_id'];rw[KG,Mp,List.filter_eq_nil_iff];simp
abbrev AA:Stmt:=top qJ
abbrev Jm:Ks:=["_law_words_here","_law_opened","_law_at","_law_word","_law_named"]
theorem CQ:aZ Jm ["_law_words_here"] (ak AA):=RQ
abbrev A4 (ws:Ks)(y:gR)(e3 e4:Ent):Ga:=[.im (af ag) ws,.mu ag (RF y),ay (y.w:Int),e3,e4]
inductive x9 (K:P1) (ws:Ks) (y:gR):RT->Prop
 | may (h:y.w<ws.length) (hm:cM (Rh ws y) (RF y)=false):x9 K ws y (bN K (dh ah (af ag)) (· =((y.w:Int),RF y)))
 | nm (h:y.w<ws.length) (hm:cM (Rh ws y) (RF y)=true) (hn:Rh ws y∈named) (hb:y.w+1=ws.length∨f6 (ws.getD (y.w+1) "")=false):x9 K ws y (bN K (dh ah (af ag)) (· =((y.w:Int)+1,RF y++[Rh ws y])))
 | fin (h:y.w=ws.length):x9 K ws y (bN K (dh eW (af ag)) (· =((),RF y)))
def IC:cE:=λK ps T=>∃(ws:Ks)(n:Nat),ps=[⟨af ag,ws⟩]/\iV ws/\g8 ws n/\x9 K ws (rx ws n) T
abbrev w4:Ks:=["do","call","if","while"]
abbrev w5:Ks:=["else","end","leave","back"]
theorem Bk {k:Str}(Q5:ks.isEmpty=false):cM k ks= !((decide (k="else")&& !decide (ks.getLast?.getD ""="if") ||decide (k="end")&&decide (ks.getLast?.getD ""="if")) ||(decide (k="leave")&& !decide (("while":Str)∈ks)) ||(!decide (k∈w4)&& !decide (k∈w5))):=by
 unfold cM;rw[QF (by rw[Q5];decide)];by_cases h1:k="leave"
 ·subst h1;rw[QG rfl];have e:(decide (("leave":Str)="else"))=false:=by decide +kernel
  have e2:(decide (("leave":Str)="end"))=false:=by decide +kernel
  have e3:(decide (("leave":Str)∈w5))=true:=by decide +kernel
  rw[e,e2,e3];simp
 by_cases h2:k="else"
 ·subst h2;rw[QF (by decide +kernel),QG rfl];have e:(decide (("else":Str)="leave"))=false:=by decide +kernel
  have e2:(decide (("else":Str)="end"))=false:=by decide +kernel
  have e3:(decide (("else":Str)∈w5))=true:=by decide +kernel
  rw[e,e2,e3];simp
 by_cases h3:k="end"
 ·subst h3;rw[QF (by decide +kernel),QF (by decide +kernel),QG rfl];have e:(decide (("end":Str)="leave"))=false:=by decide +kernel
  have e2:(decide (("end":Str)="else"))=false:=by decide +kernel
  have e3:(decide (("end":Str)∈w5))=true:=by decide +kernel
  rw[e,e2,e3];simp
 rw[QF h1,QF h2,QF h3,QJ h1,QJ h2,QJ h3];simp only[RE,w4,w5,K8,Le,or_false,Bool.false_and,Bool.or_false,Bool.false_or,h1,h2,h3,false_or];by_cases g1:k="do"<;>by_cases g2:k="call"<;>by_cases g3:k="if"<;>by_cases g4:k="while"<;>by_cases g5:k="back"<;>simp[g1,g2,g3,g4,g5]
theorem zJ (h:ks≠[]):eT ks.length (-1)=some (ks.length-1)/\ks.set (ks.length-1) "else"=ks.dropLast++[("else":Str)]:=by
 obtain⟨l,x,rfl⟩:∃l x,ks=l++[x]:=⟨ks.dropLast,ks.getLast h,(Li h).symm⟩;refine⟨by unfold eT;simp;omega,?_⟩;simp
theorem xq (h:ks≠[]):ks[ks.length-1]?=some (ks.getLast?.getD ""):=by
 obtain⟨l,x,rfl⟩:∃l x,ks=l++[x]:=⟨ks.dropLast,ks.getLast h,(Li h).symm⟩;simp
theorem Hj (M:bS K mg)(CN:aF P w K mg base "_law_is_name" 1 (aM wL K))(F:cK K "_law_read" "_law_read" AA f fd)(hm:mg "_law_read"=some (.ref f))(hb:Binds K fd ["_law_words_here"] []):aF P w K mg base "_law_read" 2 (aM IC K):=by
 have nd:=CQ.nd;refine e8 F CQ hm hb (λqs T ⟨_,_,e,_⟩=>by rw[e];rfl) (λQP A outer s H E qs T hr hS=>?_);obtain⟨ws,n,rfl,W,Ss,hT⟩:=hS;have wl:=W.l;have z4:4<=Nb:=by decide
 refine aj (cJ 1 (r:=ag) (ys:=[]) (aG aJ (MC _)) ?_);refine aj (aL 2 (y:=(0:Int)) ev_int ?_);refine bO (N1:=λΓ=>(rx ws n).w=ws.length/\∃e3 e4,Γ=A4 ws (rx ws n) e3 e4) (jF (λk Γ=>∃i,k+i=n/\∃e3 e4,Γ=A4 ws (rx ws i) e3 e4) (m0:=n) ⟨0,rfl,_,_,rfl⟩ (λm Γ hI=>?_)) ?_
 ·obtain⟨i,Tx,e3,e4,rfl⟩:=hI;refine⟨decide (((rx ws i).w:Int)<(ws.length:Int)),_,aq fg (aa 2 rfl) (cA M.len (aa 0 rfl)),λh=>?_,λh=>?_⟩
  ·have h:((rx ws i).w:Int)<(ws.length:Int):=QH h;obtain⟨iS,iw,iO,io⟩:=eF ws i;have SD:rx ws (i+1)=S5 (Rh ws (rx ws i)) (ws.getD ((rx ws i).w+1) "") (rx ws i):=rfl
   -- what is known of this turn
   have Tj:(i<n/\zW ws (rx ws i))∨(i=n/\x9 K ws (rx ws i) T):=by
    rcases MG i n with z | z
    ·exact .inl ⟨z,Ss i z⟩
    ·obtain rfl:i=n:=by omega
     exact .inr ⟨rfl,hT⟩
   have VI:cM (Rh ws (rx ws i)) (RF (rx ws i))=true->RF (rx ws (i+1))=oZ (Rh ws (rx ws i)) (RF (rx ws i)):=λhm=>by rw[SD];exact Hv (by rw[iS];exact io) hm
   have hwn:(rx ws (i+1)).w=(rx ws i).w+(if Rh ws (rx ws i)∈named then 2 else 1):=rfl;have lO:(RF (rx ws i)).length<=1000:=by rw[KY];omega
   have hkk:Rh ws (rx ws i)=ws.getD (rx ws i).w "":=rfl
   -- no more is asked of it than this
   have t1:cM (Rh ws (rx ws i)) (RF (rx ws i))=false->T=bN K (dh ah (af ag)) (· =(((rx ws i).w:Int),RF (rx ws i))):=λz=>by
    rcases Tj with⟨_,q⟩ | ⟨_,q⟩
    ·rw[q.may] at z;cases z
    ·cases q with
     | may=>rfl
     | nm _ hm=>rw[hm] at z;cases z
     | fin h'=>omega
   have t2:cM (Rh ws (rx ws i)) (RF (rx ws i))=true->Rh ws (rx ws i)∈named->((rx ws i).w+1=ws.length∨f6 (ws.getD ((rx ws i).w+1) "")=false)->T=bN K (dh ah (af ag)) (· =(((rx ws i).w:Int)+1,RF (rx ws i)++[Rh ws (rx ws i)])):=λz1 z2 z3=>by
    rcases Tj with⟨_,q⟩ | ⟨_,q⟩
    ·have:=q.nm z2;rcases z3 with z3 | z3
     ·omega
     ·rw[this.2] at z3;cases z3
    ·cases q with
     | may _ hm=>rw[hm] at z1;cases z1
     | nm=>rfl
     | fin h'=>omega
   have t3:cM (Rh ws (rx ws i)) (RF (rx ws i))=true->(Rh ws (rx ws i)∈named->(rx ws i).w+1<ws.length/\f6 (ws.getD ((rx ws i).w+1) "")=true)->i<n:=λz1 z2=>by
    rcases Tj with⟨q,_⟩ | ⟨_,q⟩
    ·exact q
    ·cases q with
     | may _ hm=>rw[hm] at z1;cases z1
     | nm _ _ hn hb=>
       have:=z2 hn;rcases hb with hb | hb
       ·omega
       ·rw[this.2] at hb;cases hb
     | fin h'=>omega
   generalize hk:Rh ws (rx ws i)=k at VI hwn t1 t2 t3 hkk;generalize hkl:RF (rx ws i)=ks at VI lO t1 t2 t3;generalize hww:(rx ws i).w=wy at h hwn hkk t1 t2 t3;have RG:cq ws (wy:Int)=some k:=by rw[hkk];exact aT (xs:=ws) (i:=(wy:Int)) "" (by omega) h
   show WS _ _ (A4 ws (rx ws i) e3 e4) _ _;unfold A4;rw[hkl,hww];refine aj (aL 3 (y:=k) (aV (aa 0 rfl) (aa 2 rfl) RG) ?_);refine aj (aL 4 (y:=decide (k∈w4)) (dX nr (aa 3 rfl) (aI.im (aG (r:=ag) (ao av (ao av (ao av (ao av aJ)))) z4))) ?_);change WS _ _ [.im (af ag) ws,.mu ag ks,ay (wy:Int),.im ag k,.im bp (decide (k∈w4))] _ _;have TQ:cM k ks=false->∀(e4:Ent)(N:Ga->Prop)(p1 p2 p3 p4:Pos)(j:Nat),WS (aX c8 P w K mg base Jm "_law_read" (ak AA) f QP A outer s H E).cj [.Return (some (.Tuple [.Name "_law_at" p1,.Name "_law_opened" p2] j p3)) p4] [.im (af ag) ws,.mu ag ks,ay (wy:Int),.im ag k,e4] N T:=λz e4 N p1 p2 p3 p4 j=>by
    rw[t1 z];refine WS.freeze 1 rfl (aE (by omega)) ?_;exact ai (aN (kW (ae (aa 2 rfl) (ae (aa 1 rfl) au))) rfl)
   refine bO (N1:=λΓ=>cM k ks=true/\Γ=[.im (af ag) ws,.mu ag ks,ay (wy:Int),.im ag k,.im bp (decide (k∈named))]) (aW (aq dP (lg 1 M.len rfl) ev_int) (λh0=>?_) (λh0=>?_)) ?_
   ·have h0:(ks.length:Int)=0:=QH h0;have h0:ks=[]:=List.length_eq_zero_iff.mp (by omega);refine aj (aW (aq qk (aa 3 rfl) av) (λhh=>TQ ?_ _ _ _ _ _ _ _) (λhh=>aQ ?_))
    ·have hh:¬k="part":=by simpa using hh
     rw[h0];exact QJ hh
    ·have hh:k="part":=by simpa using hh
     exact ai (aL 4 gj ⟨by rw[h0,hh];rfl,by rw[hh];rfl⟩)
   ·have h0:¬(ks.length:Int)=0:=QI h0;have Q5:ks≠[]:=λz=>h0 (by rw[z];rfl);have hie:ks.isEmpty=false:=by cases ks with
     | nil=>exact QE rfl Q5
     | cons _ _=>rfl
    have S7:=Bk (k:=k) hie;have hla:=n6 Q5;refine ai (aW (TV.cast (b:=(decide (k="else")&& !decide (ks.getLast?.getD ""="if")) ||(decide (k="end")&&decide (ks.getLast?.getD ""="if"))) (TW.tv (h9 (TW.tv (bH (aq bI (aa 3 rfl) av) (λ_=>bZ (aq qk (mz 1 (eC ev_int) rfl rfl hla) av)))) (λ_=>gD (TW.tv (bH (aq bI (aa 3 rfl) av) (λ_=>bZ (aq bI (mz 1 (eC ev_int) rfl rfl hla) av))))))) rfl) (λg1=>TQ (by rw[S7,g1];rfl) _ _ _ _ _ _ _) (λg1=>?_));refine ai (aW (TW.tv (bH (aq bI (aa 3 rfl) av) (λ_=>bZ (TV.RO (rF (i:=1) rfl (aE (by omega))) (aq kq av (aa 1 rfl)))))) (λg2=>TQ (by rw[S7,g1];rw[show(decide (k="leave")&& !decide (("while":Str)∈ks))=true from g2];rfl) _ _ _ _ _ _ _) (λg2=>?_));refine ai (aW (TW.tv (bH (fZ (dE (aa 4 rfl))) (λ_=>bZ (aq kq (aa 3 rfl) (aI.im (aG (r:=ag) (ao av (ao av (ao av (ao av aJ)))) z4)))))) (λg3=>TQ (by rw[S7,g1];rw[show(decide (k="leave")&& !decide (("while":Str)∈ks))=false from g2,show(!decide (k∈w4)&& !decide (k∈w5))=true from g3];rfl) _ _ _ _ _ _ _) (λg3=>aQ ?_));have UW:cM k ks=true:=by rw[S7,g1];rw[show(decide (k="leave")&& !decide (("while":Str)∈ks))=false from g2,show(!decide (k∈w4)&& !decide (k∈w5))=false from g3];rfl
    refine⟨UW,?_⟩;rw[xN UW,hie];rfl
   rintro _ ⟨UW,rfl⟩;have SJ:∀b:Bool,(decide (k∈named)&&b)=true->(b=true->(wy+1=ws.length∨f6 (ws.getD (wy+1) "")=false))->T=bN K (dh ah (af ag)) (· =((wy:Int)+1,ks++[k])):=λb hb hq=>by
    obtain⟨b1,b2⟩:=KH.mp hb;exact t2 UW (QH b1) (hq b2)
   refine aj (aW (TV.cast (b:=decide (k∈named)&&(decide ((wy:Int)+1=(ws.length:Int)) || !f6 (ws.getD (wy+1) ""))) (TW.tv (bH (dE (aa 4 rfl)) (λ_=>bZ (TW.tv (h9 (aq dP (bg (aa 2 rfl) ev_int) (cA M.len (aa 0 rfl))) (λh=>gD (fZ (dE (aB CN hr (ae (aV (aa 0 rfl) (bg (aa 2 rfl) ev_int) (aT (xs:=ws) (i:=((wy:Int)+1)) "" (by omega) (by have h:=QI h;omega))) au) ⟨_,rfl,W.w _ (getD_in (by have h:=QI h;omega)),rfl⟩))))))))) rfl) (λg=>?_) (λg=>aQ ?_))
   ·rw[SJ _ g λq=>by
     rcases KJ.mp q with q | q
     ·exact .inl (by have:=QH q;omega)
     ·exact .inr (by simpa using q)]
    refine WS.freeze 1 rfl (aE (by omega)) ?_;exact ai (aN (kW (ae (bg (aa 2 rfl) ev_int) (ae (aI.im (ba (aa 1 rfl) (aI.im (aG (r:=ag) (ao (aa 3 rfl) aJ) (by show 1<=Nb;decide))) (aE (by simp;omega)))) au))) rfl)
   have Rc:i<n:=t3 UW λhn=>by
    rw[decide_eq_true hn,Bool.true_and] at g;obtain⟨g1,g2⟩:=KI.mp g;have g1:=QI g1;exact⟨by omega,by simpa using g2⟩
   have VI:=VI UW;refine bO (N1:=λΓ=>Γ=[.im (af ag) ws,.mu ag (oZ k ks),ay (wy:Int),.im ag k,.im bp (decide (k∈named))]) (aW (TV.cast (b:=decide ((ks.length:Int)=0) ||(decide (k="if") ||decide (k="while"))) (TW.tv (h9 (aq dP (lg 1 M.len rfl) ev_int) (λ_=>h9 (aq bI (aa 3 rfl) av) (λ_=>gD (aq bI (aa 3 rfl) av))))) rfl) (λg=>?_) (λg=>?_)) ?_
   ·refine ai (dO 1 (aa 3 rfl) rfl rfl (ME lO (by decide)) ?_);have:ks.isEmpty=true∨k="if"∨k="while":=by
     rcases KJ.mp g with g | g
     ·have g:=QH g;exact .inl (Mp.mpr (List.length_eq_zero_iff.mp (by omega)))
     ·rcases KJ.mp g with g | g
      ·exact .inr (.inl (QH g))
      ·exact .inr (.inr (QH g))
    unfold oZ;rw[QG this];rfl
   ·obtain⟨g0,g⟩:=KI.mp g;obtain⟨g1,g2⟩:=KI.mp g;have g0:=QI g0;have Q5:ks≠[]:=λz=>g0 (by rw[z];rfl);have Sb:¬(ks.isEmpty=true∨k="if"∨k="while"):=by
     rintro(q | q | q)
     ·exact Q5 (Mp.mp q)
     ·exact QI g1 q
     ·exact QI g2 q
    refine ai (aW (aq bI (aa 3 rfl) av) (λq1=>?_) (λq1=>?_))
    ·obtain⟨x1,x2⟩:=zJ Q5;refine ai (ow 1 (y:=("else":Str)) av (eC ev_int) rfl rfl x1 ?_);unfold oZ;rw[QF Sb,QG (QH q1),← x2];rfl
    ·have q1:=QI q1;refine ai (aW (aq bI (aa 3 rfl) av) (λq2=>?_) (λq2=>aQ ?_))
     ·refine ai (mV (rD 1 rfl (xq Q5)) ?_);unfold oZ;rw[QF Sb,QF q1,QG (QH q2)];rfl
     ·unfold oZ;rw[QF Sb,QF q1,QF (QI q2)]
   rintro _ rfl;refine ai (aL 2 (bg (bg (aa 2 rfl) ev_int) (uz M.int (aa 4 rfl))) ⟨m-1,by omega,i+1,by omega,.im ag k,.im bp (decide (k∈named)),?_⟩);rw[VI,hwn];by_cases q:k∈named
   ·rw[QG q,decide_eq_true q,show((wy:Int)+1+if true=true then 1 else 0)=((wy+2:Nat):Int) by simp;omega];rfl
   ·rw[QF q,QJ q,show((wy:Int)+1+if false=true then 1 else 0)=((wy+1:Nat):Int) by simp];rfl
  ·have h:¬((rx ws i).w:Int)<(ws.length:Int):=QI h;have Rc:i=n:=by
    rcases MG i n with z | z
    ·exact QE (by have:=(Ss i z).w;omega) h
    ·omega
   subst Rc;refine⟨?_,e3,e4,rfl⟩;cases hT with
   | may h' _=>omega
   | nm h' _ _ _=>omega
   | fin h'=>exact h'
 rintro _ ⟨hw,e3,e4,rfl⟩;have lO:(RF (rx ws n)).length<=1000:=by
  obtain⟨_,a,b,_⟩:=eF ws n;rw[KY];omega
 have e:T=bN K (dh eW (af ag)) (· =((),RF (rx ws n))):=by
  cases hT with
  | may h' _=>omega
  | nm h' _ _ _=>omega
  | fin h'=>rfl
 rw[e];refine WS.freeze 1 rfl (aE (by omega)) ?_;exact ai (aN (kW (ae eG (ae (aa 1 rfl) au))) rfl)
abbrev FC:Stmt:=top pU
abbrev nLW:Ks:=["_law_words_here","_law_at","_law_opened"]
theorem F8:aZ nLW ["_law_words_here"] (ak FC):=RQ
def IZ:cE:=λK ps T=>∃(ws:Ks)(n:Nat),ps=[⟨af ag,ws⟩]/\iV ws/\g8 ws n/\((∃k,h8 ws (rx ws n) k/\T=bN K ah (· =k))∨((rx ws n).w=ws.length/\(rx ws n).O=[]/\T=bN K eW (· =())))
theorem GL (M:bS K mg)(CR:aF P w K mg base "_law_read" 2 (aM IC K))(F:cK K "_law_wrong" "_law_wrong" FC f fd)(hm:mg "_law_wrong"=some (.ref f))(hb:Binds K fd ["_law_words_here"] []):aF P w K mg base "_law_wrong" 3 (aM IZ K):=by
 have nd:=F8.nd;refine e8 (k:=2) F F8 hm hb (λqs T ⟨_,_,e,_⟩=>by rw[e];rfl) (λQP A outer s H E qs T hr hS=>?_);obtain⟨ws,n,rfl,W,Ss,hS⟩:=hS;rcases hS with⟨k,hb,rfl⟩ | ⟨hw,ho,rfl⟩
 ·cases hb with
  | may h hm=>
    refine aj (kI 1 2 (aB CR hr (ae (aa 0 rfl) au) ⟨ws,n,rfl,W,Ss,.may h hm⟩) ?_);refine aj (aW (TV.cast (b:=false&&true) (b':=false) (TW.tv (bH (aq vO (aa 1 rfl) eG) (λh=>QE h (by decide)))) rfl) (λh=>QE h (by decide)) (λ_=>aQ ?_));exact ai (aN (aa 1 rfl) rfl)
  | nm h hm hn hb=>
    refine aj (kI 1 2 (aB CR hr (ae (aa 0 rfl) au) ⟨ws,n,rfl,W,Ss,.nm h hm hn hb⟩) ?_);refine aj (aW (TV.cast (b:=false&&true) (b':=false) (TW.tv (bH (aq vO (aa 1 rfl) eG) (λh=>QE h (by decide)))) rfl) (λh=>QE h (by decide)) (λ_=>aQ ?_));exact ai (aN (aa 1 rfl) rfl)
  | more h ho=>
    refine aj (kI 1 2 (aB CR hr (ae (aa 0 rfl) au) ⟨ws,n,rfl,W,Ss,.fin h⟩) ?_);have:0<(RF (rx ws n)).length:=by rw[KY];exact L7.mpr ho
    refine aj (aW (TV.cast (b':=true) (TW.tv (bH (aq kR (aa 1 rfl) eG) (λ_=>bZ (aq eX (cA M.len (aa 2 rfl)) ev_int)))) (by rw[decide_eq_true (show(0:Int)<((RF (rx ws n)).length:Int) by omega)];rfl)) (λ_=>?_) (λh=>QE h (by decide)));exact ai (aN (cA M.len (aa 0 rfl)) rfl)
 ·refine aj (kI 1 2 (aB CR hr (ae (aa 0 rfl) au) ⟨ws,n,rfl,W,Ss,.fin hw⟩) ?_);refine aj (aW (TV.cast (b':=false) (TW.tv (bH (aq kR (aa 1 rfl) eG) (λ_=>bZ (aq eX (cA M.len (aa 2 rfl)) ev_int)))) (by rw[show RF (rx ws n)=[] by unfold RF;rw[ho];rfl];rfl)) (λh=>QE h (by decide)) (λ_=>aQ ?_));exact ai (aN (aa 1 rfl) rfl)
abbrev oF:Ks:=["part","end","do","call","if","else","while","leave","back","","A","Do","a1","abcdefghi"]
abbrev qV:Ks:=["a-b","_","7",">","doo","en","parts","elsE","abcdefgh","a","zz","x~","("]
abbrev fG:Ks:=oF++qV
def qS (n:Int):Str:=fG.getD (n%(fG.length:Int)).toNat ""
def IX (w:Str):Bool:=(decide (w.length<=9)&&decide (32∉w.cps.toList))&&w.cps.toList.all λc=>decide (c<128)
theorem BN:fG.all IX=true:=by decide +kernel
theorem FE (n:Int):fz (qS n):=by
 have hn:(n%(fG.length:Int)).toNat<fG.length:=by
  have h1:=KR n (show(fG.length:Int)≠0 by decide);have h2:=KQ n (show(0:Int)<(fG.length:Int) by decide);omega
 have:=LU.mp BN _ (getD_in (d:=("":Str)) hn);unfold IX at this;rw[KD,KD] at this;exact⟨QH this.1.1,QH this.1.2,λc hc=>QH (LU.mp this.2 c hc)⟩
def sE (ns:Kr)(k:Int):Kr:=((ups 0 4).filter λ_=>true).map λj=>aK ns (k+j)
abbrev dr (ns:Kr)(k:Int)(i:Nat):Int:=(sE ns k).getD i 0
theorem uS {k:Int}:(sE ns k).length=4:=rfl
section
variable (ns:Kr)(k:Int)(ws:Ks)
def er:Int:=dr ns k 0%((ws.length:Int)+1)
def i8:Int:=dr ns k 2%6
def si:Int:=dr ns k 3%(ws.length:Int)
def gY:Ks:=
 if i8 ns k=0 then cut ws none (some (er ns k ws))++[qS (dr ns k 1)]++cut ws (some (er ns k ws)) none
 else if i8 ns k=1 then cut ws none (some (er ns k ws))++[qS (dr ns k 1)]++cut ws (some (er ns k ws+1)) none
 else if i8 ns k=2/\1<ws.length then cut ws none (some (er ns k ws))++cut ws (some (er ns k ws+1)) none
 else if i8 ns k=3/\0<er ns k ws then cut ws none (some (er ns k ws))
 else cut ws none (some (er ns k ws))++cut ws (some (si ns k ws)) (some (si ns k ws+1+dr ns k 1%4))++cut ws (some (er ns k ws)) none
end
theorem Et {a b:Option Int}{x:α}(h:x∈cut xs a b):x∈xs:=LQ (L3 h)
theorem ko {a b:Option Int}:(cut xs a b).length<=xs.length:=by
 unfold cut;rw[Lc,Lv];omega
theorem Fe {k:Int}:∃a:Nat,er ns k ws=(a:Int)/\a<=ws.length:=by
 have h1:=KR (dr ns k 0) (show((ws.length:Int)+1)≠0 by omega);have h2:=KQ (dr ns k 0) (show(0:Int)<(ws.length:Int)+1 by omega);exact⟨(er ns k ws).toNat,by unfold er at *;omega,by unfold er at *;omega⟩
theorem Hl {k:Int}(Q5:ws≠[])(h:∀w∈ws,fz w):gY ns k ws≠[]/\(gY ns k ws).length<=2*ws.length+1/\∀w∈gY ns k ws,fz w:=by
 obtain⟨a,ea,al⟩:=Fe (ns:=ns) (k:=k) (ws:=ws);have hl:0<ws.length:=L7.mpr Q5;have e1:cut ws none (some (er ns k ws))=ws.take a:=by rw[ea];exact D7 al
 have e2:cut ws (some (er ns k ws)) none=ws.drop a:=by rw[ea];exact rG
 have e3:cut ws (some (er ns k ws+1)) none=ws.drop (a+1):=by rw[ea,show(a:Int)+1=((a+1:Nat):Int) by omega];exact rG
 have le:=ko (xs:=ws) (a:=some (si ns k ws)) (b:=some (si ns k ws+1+dr ns k 1%4));have nz:∀{l:Ks},0<l.length->l≠[]:=λz=>L7.mp z;have l1:(ws.take a).length=a:=by rw[Lc];omega
 have l2:(ws.drop a).length=ws.length-a:=Lv;have l3:(ws.drop (a+1)).length=ws.length-(a+1):=Lv;have m1:∀w∈ws.take a,fz w:=λw q=>h w (L3 q);have m2:∀w∈ws.drop a,fz w:=λw q=>h w (LQ q);have m3:∀w∈ws.drop (a+1),fz w:=λw q=>h w (LQ q);have m4:∀w∈[qS (dr ns k 1)],fz w:=λw q=>by rw[KZ.mp q];exact FE _
 have ap:∀{x y:Ks},(∀w∈x,fz w)->(∀w∈y,fz w)->∀w∈x++y,fz w:=λhx hy w hw=>(Lf.mp hw).elim (hx w) (hy w);unfold gY;rw[e1,e2,e3];split
 ·exact⟨by simp,by simp only[K3,LG,l1,l2];omega,ap (ap m1 m4) m2⟩
 split
 ·exact⟨by simp,by simp only[K3,LG,l1,l3];omega,ap (ap m1 m4) m3⟩
 split
 ·next q=>exact⟨nz (by rw[K3,l1,l3];omega),by rw[K3,l1,l3];omega,ap m1 m3⟩
 split
 ·next q=>exact⟨nz (by rw[l1];omega),by rw[l1];omega,m1⟩
 ·exact⟨nz (by rw[K3,K3,l1,l2];omega),by rw[K3,K3,l1,l2];omega,ap (ap m1 λw q=>h w (Et q)) m2⟩
abbrev Dj:Stmt:=top tf
abbrev nOD:Ks:=["_law_number","_law_words_here"]
theorem E7:aZ nOD ["_law_number"] (ak Dj):=RQ
def Jn:cE:=λK ps T=>∃n:Int,ps=[⟨ah,n⟩]/\T=bN K ag (· =qS n)
theorem Gh (M:bS K mg)(F:cK K "_law_odd" "_law_odd" Dj f fd)(hm:mg "_law_odd"=some (.ref f))(hb:Binds K fd ["_law_number"] []):aF P w K mg base "_law_odd" 1 (aM Jn K):=by
 have nd:=E7.nd;refine e8 F E7 hm hb (λqs T ⟨_,e,_⟩=>by rw[e];rfl) (λQP A outer s H E qs T hr hS=>?_);obtain⟨n,rfl,rfl⟩:=hS;have z:∀m:Nat,m<=100->m<=Nb:=λm h=>Mz h (by decide);refine @aj (X:=_) (Γ:=_) (N:=_) (T:=_) (st:=_) (rest:=_) (h:=@aL (X:=_) (Γ:=_) (Γ1:=_) (α:=_) (N:=_) (T:=_) (i:=1) (x:=_) (p1:=_) (pos:=_) (e:=_) (r:=af ag) (y:=oF) (he:=@aI.im (X:=_) (Γ:=_) (Γ1:=_) (α:=_) (e:=_) (r:=ag) (ys:=oF) (h:=@aG (X:=_) (Γ:=_) (Γ1:=_) (α:=_) (es:=_) (pos:=_) (r:=ag) (ys:=oF) (h:=@oH _ _ _ oF ?_) (hz:=z _ (by simp)))) (h:=?_) (hN:=nd) (hi:=rfl) (hx:=by first | exact Or.inl rfl | exact Or.inr rfl) (hs:=rfl) (hf:=by first | exact .inl rfl | exact .inr rfl))
 ·repeat' first | exact trivial | refine⟨⟨_,_,rfl⟩,?_⟩
 refine @aj (X:=_) (Γ:=_) (N:=_) (T:=_) (st:=_) (rest:=_) (h:=@aL (X:=_) (Γ:=_) (Γ1:=_) (α:=_) (N:=_) (T:=_) (i:=1) (x:=_) (p1:=_) (pos:=_) (e:=_) (r:=af ag) (y:=fG) (he:=@aI.im (X:=_) (Γ:=_) (Γ1:=_) (α:=_) (e:=_) (r:=ag) (ys:=fG) (h:=@ba (X:=_) (Γ:=_) (Γ1:=_) (Γ2:=_) (α:=_) (a:=_) (b:=_) (pos:=_) (r:=ag) (xs:=oF) (ys:=qV) (ha:=aa 1 rfl) (hb:=@aI.im (X:=_) (Γ:=_) (Γ1:=_) (α:=_) (e:=_) (r:=ag) (ys:=qV) (h:=@aG (X:=_) (Γ:=_) (Γ1:=_) (α:=_) (es:=_) (pos:=_) (r:=ag) (ys:=qV) (h:=@oH _ _ _ qV ?_) (hz:=z _ (by simp)))) (hz:=z _ (by simp)))) (h:=?_) (hN:=nd) (hi:=rfl) (hx:=by first | exact Or.inl rfl | exact Or.inr rfl) (hs:=rfl) (hf:=by first | exact .inl rfl | exact .inr rfl))
 ·repeat' first | exact trivial | refine⟨⟨_,_,rfl⟩,?_⟩
 change WS _ _ [ay n,.im (af ag) fG] _ _;have h1:=KR n (show(fG.length:Int)≠0 by decide);have h2:=KQ n (show(0:Int)<(fG.length:Int) by decide);exact ai (aN (aV (aa 1 rfl) (bR (aa 0 rfl) (cA M.len (aa 1 rfl)) (by decide)) (aT (xs:=fG) (i:=n%(fG.length:Int)) "" h1 h2)) rfl)
abbrev EJ:Stmt:=top mC
abbrev Iw:Ks:=["_law_words_here","_law_script","_law_k","_law_draws","_law_at","_law_way","_law_other","_law_some"]
abbrev pPO:Ks:=["_law_words_here","_law_script","_law_k"]
def Io:cE:=λK ps T=>∃(ws:Ks)(ns:Kr)(k:Int),ps=[⟨af ag,ws⟩,⟨bM,ns⟩,⟨ah,k⟩]/\uN ns/\0<=k/\k<=1000/\ws≠[]/\ws.length<=1000/\T=bN K (af ag) (· =gY ns k ws)
theorem HX (M:bS K mg)(CM:aF P w K mg base "_law_mixed" 1 (aM AS K))(CO:aF P w K mg base "_law_odd" 1 (aM Jn K))(Df:Def K mg "_law_spoiled" EJ pPO):aF P w K mg base "_law_spoiled" 2 (aM Io K):=by
 have S0:Ln [("_law_j":Str),"_law_script","_law_k"]:=by decide
 refine bE (N:=Iw) Df (λf QP A outer s H E qs T nd hr hS=>?_);obtain⟨ws,ns,k,rfl,hs,k0,k1,Q5,wl,rfl⟩:=hS;have hl:0<ws.length:=L7.mpr Q5;have sz:∀n,n<=10000->n<=Nb:=λn h=>Mz h (by decide);change WS _ _ [.im (af ag) ws,.im bM ns,ay k,.no,.no,.no,.no,.no] _ _;refine aj (ng 3 (own:=["_law_j"]) (fr:=["_law_script","_law_k"]) (ix:=[1,2]) (ra:=ah) (rb:=ah) (p:=λ_=>true) (f:=λj=>aK ns (k+j)) (cx (so:=ak EJ) (N0:=Iw) rfl rfl (λx h=>bL h) (by decide +kernel)) (dH M.range ev_int ⟨by decide,by decide⟩)
  (λC s H ex=>bA 0) (λx=>⟨.inr rfl,.inl rfl,.inl rfl,trivial⟩) (λC s H ex c hc=>fA) (λC s H ex j hj _=>?_) ?_)
 ·obtain⟨i,hi⟩:=Lz.mp hj;obtain⟨il,rfl⟩:=eY hi;have il:i<4:=il;exact aB CM hr (ae (aa 1 rfl) (ae (bg (aa 2 rfl) (aa 0 rfl)) au)) ⟨ns,_,rfl,hs,by omega,by omega,rfl⟩
 change WS _ _ [.im (af ag) ws,.im bM ns,ay k,.mu ah (sE ns k),.no,.no,.no,.no] _ _;refine WS.freeze 3 rfl (by rw[uS];decide) ?_;change WS _ _ [.im (af ag) ws,.im bM ns,ay k,dv (sE ns k),.no,.no,.no,.no] _ _;have at_:∀i:Nat,i<4->cq (sE ns k) (i:Int)=some (dr ns k i):=λi h=>by
  have:=aT (xs:=sE ns k) (i:=(i:Int)) 0 (by omega) (by rw[uS];omega);rw[show((i:Int)).toNat=i by omega] at this;exact this
 refine aj (aL 4 (y:=er ns k ws) (bR (aV (aa 3 rfl) ev_int (at_ 0 (by decide))) (bg (cA M.len (aa 0 rfl)) ev_int) (by omega)) ?_);refine aj (aL 5 (y:=i8 ns k) (bR (aV (aa 3 rfl) ev_int (at_ 2 (by decide))) ev_int (by decide)) ?_);change WS _ _ [.im (af ag) ws,.im bM ns,ay k,dv (sE ns k),ay (er ns k ws),ay (i8 ns k),.no,.no] _ _;have c1:=ko (xs:=ws) (a:=none) (b:=some (er ns k ws));have c2:=ko (xs:=ws) (a:=some (er ns k ws)) (b:=none);have c3:=ko (xs:=ws) (a:=some (er ns k ws+1)) (b:=none);have c4:=ko (xs:=ws) (a:=some (si ns k ws)) (b:=some (si ns k ws+1+dr ns k 1%4));have one:(1:Nat)<=Nb:=by decide
 refine aj (aW (aq dP (aa 5 rfl) ev_int) (λh=>?_) (λh=>aQ ?_))
 ·have h:i8 ns k=0:=QH h;refine ai (aN (aI.im (ba (aI.im (ba (aI.im (cu (aa 0 rfl) ov_none (ov_some (aa 4 rfl)))) (aI.im (aG (r:=ag) (ao (aB CO hr (ae (aV (aa 3 rfl) ev_int (at_ 1 (by decide))) au) ⟨_,rfl,rfl⟩) aJ) one)) (sz _ (by simp;omega)))) (aI.im (cu (aa 0 rfl) (ov_some (aa 4 rfl)) ov_none)) (sz _ (by simp;omega)))) ?_);unfold gY;rw[QG h]
 have h0:¬i8 ns k=0:=QI h;refine aj (aW (aq dP (aa 5 rfl) ev_int) (λh=>?_) (λh=>aQ ?_))
 ·have h:i8 ns k=1:=QH h;refine ai (aN (aI.im (ba (aI.im (ba (aI.im (cu (aa 0 rfl) ov_none (ov_some (aa 4 rfl)))) (aI.im (aG (r:=ag) (ao (aB CO hr (ae (aV (aa 3 rfl) ev_int (at_ 1 (by decide))) au) ⟨_,rfl,rfl⟩) aJ) one)) (sz _ (by simp;omega)))) (aI.im (cu (aa 0 rfl) (ov_some (bg (aa 4 rfl) ev_int)) ov_none)) (sz _ (by simp;omega)))) ?_);unfold gY;rw[QF h0,QG h]
 have h1:¬i8 ns k=1:=QI h;refine aj (aW (TW.tv (bH (aq dP (aa 5 rfl) ev_int) (λ_=>bZ (aq eX (cA M.len (aa 0 rfl)) ev_int)))) (λh=>?_) (λh=>aQ ?_))
 ·have h:i8 ns k=2/\1<ws.length:=by
   obtain⟨a,b⟩:=KH.mp h;exact⟨QH a,by have:=QH b;omega⟩
  refine ai (aN (aI.im (ba (aI.im (cu (aa 0 rfl) ov_none (ov_some (aa 4 rfl)))) (aI.im (cu (aa 0 rfl) (ov_some (bg (aa 4 rfl) ev_int)) ov_none)) (sz _ (by omega)))) ?_);unfold gY;rw[QF h0,QF h1,QG h]
 have h2:¬(i8 ns k=2/\1<ws.length):=λz=>by
  rw[decide_eq_true z.1,decide_eq_true (show(1:Int)<(ws.length:Int) by omega)] at h;cases h
 refine aj (aW (TW.tv (bH (aq dP (aa 5 rfl) ev_int) (λ_=>bZ (aq eX (aa 4 rfl) ev_int)))) (λh=>?_) (λh=>aQ ?_))
 ·have h:i8 ns k=3/\0<er ns k ws:=by
   obtain⟨a,b⟩:=KH.mp h;exact⟨QH a,QH b⟩
  refine ai (aN (aI.im (cu (aa 0 rfl) ov_none (ov_some (aa 4 rfl)))) ?_);unfold gY;rw[QF h0,QF h1,QF h2,QG h]
 have h3:¬(i8 ns k=3/\0<er ns k ws):=λz=>by
  rw[decide_eq_true z.1,decide_eq_true z.2] at h;cases h
 refine aj (aL 6 (y:=si ns k ws) (bR (aV (aa 3 rfl) ev_int (at_ 3 (by decide))) (cA M.len (aa 0 rfl)) (by omega)) ?_);refine aj (aL 7 (aI.im (cu (aa 0 rfl) (ov_some (aa 6 rfl)) (ov_some (bg (bg (aa 6 rfl) ev_int) (bR (aV (aa 3 rfl) ev_int (at_ 1 (by decide))) ev_int (by decide)))))) ?_);refine ai (aN (aI.im (ba (aI.im (ba (aI.im (cu (aa 0 rfl) ov_none (ov_some (aa 4 rfl)))) (aa 7 rfl) (sz _ (by omega)))) (aI.im (cu (aa 0 rfl) (ov_some (aa 4 rfl)) ov_none)) (sz _ (by rw[K3];omega)))) ?_);unfold gY;rw[QF h0,QF h1,QF h2,QF h3]
abbrev ny:Stmt:=top DV
abbrev nLA:Ks:=["_law_script","_law_names","_law_lists","_law_words_here","_law_k"]
theorem C8:aZ nLA ["_law_script"] (ak ny):=RQ
def sQ:cE:=λK ps T=>∃ns:Kr,ps=[⟨bM,ns⟩]/\ns.length<=63/\(∀n∈ns,intBits n<=2 ^ 20)/\T=bN K bp (· =true)
theorem Em (h:oB QK Ls):lT QK Ls≠[]:=λe=>by
 have hl:=h.l;cases QK with
 | nil=>rw[Mt] at hl;have:=h.l1;omega
 | cons x QK=>cases Ls with
   | nil=>exact QE h.l1 (by simp)
   | cons L Ls=>
     unfold lT at e;rw[List.zip_cons_cons,flatMap_cons] at e;unfold gE at e;simp at e
def wI (ns:Kr):Nat->Ks
 | 0=>lT (Rm ns 0) (RH ns 0)
 | i+1=>gY ns (301+4*(i:Int)) (wI ns i)
theorem As (ns:Kr):∀i,i<=2->wI ns i≠[]/\(wI ns i).length+1<=241*2 ^ i/\∀w∈wI ns i,fz w
 | 0,_=>by
   have hP:=uE ns 0;obtain⟨pl,po⟩:=yo hP;exact⟨Em hP,by show(lT _ _).length+1<=_;omega,λw h=>⟨Nat.le_succ_of_le (po w h).l,(po w h).f,(po w h).a⟩⟩
 | i+1,h=>by
   obtain⟨a,b,c⟩:=As ns i (by omega);obtain⟨d,e,g⟩:=Hl (ns:=ns) (k:=301+4*(i:Int)) a c;refine⟨d,?_,g⟩;show(gY _ _ _).length+1<=_;rw[Nat.pow_succ];omega
theorem uZ (h:i<=2):iV (wI ns i):=by
 obtain⟨a,b,c⟩:=As ns i h;refine⟨a,?_,c⟩;have:2 ^ i<=4:=Mz (Nat.pow_le_pow_right (by decide) h) (by decide);omega
theorem GO (M:bS K mg)(CD:aF P w K mg base "_law_drawn" 17 (aM IA K))(CX:aF P w K mg base "_law_text" 7 (aM IB K))(CM:aF P w K mg base "_law_mixed" 1 (aM AS K))(CS:aF P w K mg base "_law_spoiled" 2 (aM Io K))(CC:aF P w K mg base "_law_caught" 9 (aM (SCG CT CP) K))(CW:aF P w K mg base "_law_wrong" 3 (aM IZ K))(CR:aF P w K mg base "_law_right" 2 (aM (IG CT CP) K))(F:cK K "law" "law" ny f fd):cy P w K mg base c8 18 f fd ["_law_script"] (aM sQ K):=by
 have nd:=C8.nd;have CX:=CX.mono (show 7<=17 by decide);have CM:=CM.mono (show 1<=17 by decide);have CS:=CS.mono (show 2<=17 by decide);have CC:=CC.mono (show 9<=17 by decide);have CW:=CW.mono (show 3<=17 by decide);have CR:=CR.mono (show 2<=17 by decide);refine Fq (k:=17) F C8 (λqs T ⟨_,e,_⟩=>by rw[e];rfl) (λQP A outer s H E qs T hr hS=>?_);obtain⟨ns,rfl,h63,Sl,rfl⟩:=hS;have hs:uN ns:=⟨h63,Sl⟩;change WS _ _ [.im bM ns,.no,.no,.no,.no] _ _;refine aj (kI 1 2 (aB CD hr (ae (aa 0 rfl) (ae ev_int au)) ⟨ns,0,rfl,hs,by omega,by omega,rfl⟩) ?_);have hP:=uE ns 0;have W0:=uZ (ns:=ns) (i:=0) (by decide);have e0:wI ns 0=lT (Rm ns 0) (RH ns 0):=rfl;generalize Rm ns 0=QK at hP e0;generalize RH ns 0=Ls at hP e0;change WS _ _ [.im bM ns,.im (af ag) QK,.im (af (af aH)) (Ls.map bF),.no,.no] _ _;have Sh:Txt.split (Str.join " " (lT QK Ls)) " "=wI ns 0:=by rw[← e0];exact W0.split
 refine aj (aL 3 (y:=wI ns 0) (EV.cast (aI.im (kx (aB CX hr (ae (aa 1 rfl) (ae (aa 2 rfl) au)) ⟨QK,Ls,rfl,hP,rfl⟩) av (by decide +kernel) (by rw[← e0];exact W0.len) (by rw[Sh];exact aE (by have:=W0.l;omega)))) Sh) ?_);have mb:=nS ns 300;obtain⟨m,hm,ml⟩:∃m:Nat,aK ns 300%3=(m:Int)/\m<=2:=⟨(aK ns 300%3).toNat,by omega,by omega⟩;refine bO (N1:=λΓ=>∃e4,Γ=[.im bM ns,.im (af ag) QK,.im (af (af aH)) (Ls.map bF),.im (af ag) (wI ns m),e4]) (cN (λi Γ=>∃e4,Γ=[.im bM ns,.im (af ag) QK,.im (af (af aH)) (Ls.map bF),.im (af ag) (wI ns i),e4]) (xs:=ups 0 (m:Int).toNat) (dH M.range (EV.cast (bR (aB CM hr (ae (aa 0 rfl) (ae ev_int au)) ⟨ns,300,rfl,hs,by decide,by decide,rfl⟩) ev_int (by decide)) hm) ⟨by omega,by omega⟩) (bA 4) ⟨_,rfl⟩ (λi j Γ hj hΓ=>?_) (λΓ hΓ=>?_)) ?_
 ·obtain⟨e4,rfl⟩:=hΓ;obtain⟨jl,ej⟩:=eY hj;have jl:i<m:=by omega
  obtain rfl:j=(i:Int):=by omega
  have Wi:=uZ (ns:=ns) (i:=i) (by omega);exact ai (aL 3 (aB CS hr (ae (aa 3 rfl) (ae (aa 0 rfl) (ae (bg ev_int (xM ev_int (aa 4 rfl) (.inl (by decide)))) au))) ⟨wI ns i,ns,301+4*(i:Int),rfl,hs,by omega,by omega,Wi.ne,Wi.l,rfl⟩) ⟨_,rfl⟩)
 ·obtain⟨e4,rfl⟩:=hΓ;rw[bK];exact⟨e4,rfl⟩
 rintro _ ⟨e4,rfl⟩;have W:=uZ (ns:=ns) ml;generalize wI ns m=ws at W;rcases wY W with⟨n,hn,he⟩ | ⟨n,k,hn,SJ⟩
 ·obtain⟨Ld,hk,hG⟩:=Dl W hn he;have ho:(rx ws n).O=[]:=by rw[he]
  have hw:(rx ws n).w=ws.length:=by rw[he]
  have hx:Txt2 (Str.join " " ws) (dw (fS ws n) Ld):=⟨fS ws n,Ld,⟨ws,n,rfl,W,hn,he⟩,hk,rfl,hG⟩;by_cases h0:ka (dw (fS ws n) Ld)=[]
  ·exact ai (aN (aB CR hr (ae (aB CC hr (ae (EV.cast (kY av (aa 3 rfl) W.join) (ji _ _)) au) ⟨_,rfl,.inl ⟨_,hx,h0,rfl⟩⟩) (ae (aB CW hr (ae (aa 3 rfl) au) ⟨ws,n,rfl,W,hn,.inr ⟨hw,ho,rfl⟩⟩) au)) ⟨.inl rfl,rfl⟩) rfl)
  ·exact ai (aN (aB CR hr (ae (aB CC hr (ae (EV.cast (kY av (aa 3 rfl) W.join) (ji _ _)) au) ⟨_,rfl,.inr (.inr ⟨_,.pro hx h0,rfl⟩)⟩) (ae (aB CW hr (ae (aa 3 rfl) au) ⟨ws,n,rfl,W,hn,.inr ⟨hw,ho,rfl⟩⟩) au)) ⟨.inr (.inl ⟨_,rfl⟩),rfl⟩) rfl)
 ·exact ai (aN (aB CR hr (ae (aB CC hr (ae (EV.cast (kY av (aa 3 rfl) W.join) (ji _ _)) au) ⟨_,rfl,.inr (.inl ⟨k,.txt ⟨ws,n,rfl,W,hn,SJ⟩,rfl⟩)⟩) (ae (aB CW hr (ae (aa 3 rfl) au) ⟨ws,n,rfl,W,hn,.inl ⟨k,SJ,rfl⟩⟩) au)) ⟨.inr (.inr ⟨k,rfl⟩),rfl⟩) rfl)
variable {o1:Value}{o2:Option Addr}{o3:Array Kt}{es:Array DictEntry}{o4:Nat}{st:Stmt}{l:Qw}
section
variable {h:Heap}{oc:Value}{od an:Option Addr}{RM:Array Kt}{doc pm ct:Value}
abbrev Ak:Stmt:=match top xt with
 | .ClassDef _ _ _ b _ _ _ _ _ _ _=>b.getD 0 (.Pass ⟨0,0,0,0⟩)
 | s=>s
abbrev Aq:Stmt:=match top qA with
 | .ClassDef _ _ _ b _ _ _ _ _ _ _=>b.getD 0 (.Pass ⟨0,0,0,0⟩)
 | s=>s
theorem Km:aZ ["self","word"] ["self","word"] (ak Ak):=RQ
theorem J2:aZ ["self","word"] ["self","word"] (ak Aq):=RQ
def qD (K:P1)(mg:Kp)(x q:Str)(st:Stmt)(j:Nat):Prop:=∃C CE fI TZ,kM K mg x "word" C CE fI/\cK K "__init__" q st fI TZ/\Binds K TZ ["self","word"] []/\XG K mg x C j
theorem J9 (h:qD K mg "NoText" "NoText.__init__" Ak 0):∃C,t9 P w K mg base "NoText" C/\XG K mg "NoText" C 0:=by
 obtain⟨C,CE,fI,TZ,ci,FX,bX,G⟩:=h;exact⟨C,⟨CE,fI,TZ,ci,uP ci FX Km (by decide) rfl (λ_=>rfl) (.inl rfl) (.inl rfl) (by decide) (by decide) (by decide) (by decide),bX⟩,G⟩
theorem JT (h:qD K mg "NoProgram" "NoProgram.__init__" Aq 1):∃C,t9 P w K mg base "NoProgram" C/\XG K mg "NoProgram" C 1:=by
 obtain⟨C,CE,fI,TZ,ci,FX,bX,G⟩:=h;exact⟨C,⟨CE,fI,TZ,ci,uP ci FX J2 (by decide) rfl (λ_=>rfl) (.inl rfl) (.inl rfl) (by decide) (by decide) (by decide) (by decide),bX⟩,G⟩
theorem AM {ns:Addr}(dn:K.lookup ns=some ⟨o1,o2,.dict es o4,o3⟩)(dk:(es.toList.all λe=>match e.key with | .str _ _=>true | _=>false)=true):Qz K ns=true:=by
 unfold Qz;rw[dn];show(es.all _)=true;rw[← Array.all_toList];exact dk
theorem tW {CE:Addr}(q:QB K CE hU "ValueError.__new__"=true):Qs K hU (.ref CE::hU)=true:=by
 unfold QB at q;split at q
 ·rename_i dd cd sl ho;split at q
  ·simp only[KD] at q;unfold Qs;dsimp only;rw[ho];dsimp only;have e:Qs K hU hU=true:=rfl;simp only[q.1.2,q.2,e,Bool.and_true,KN]
  ·cases q
 ·cases q
def v5 (K:P1)(mg:Kp)(C:Addr)(j:Nat):Nat->Ks->Prop
 | _,[]=>True
 | i,x::xs=>(∃D,mg x=some (.ref D)/\Qg K (.ref C) (.ref D)=some (decide (i=j)))/\v5 K mg C j (i+1) xs
theorem rL {K:P1}{mg:Kp}{C:Addr}{j:Nat}:∀{xs:Ks}{i:Nat},v5 K mg C j i xs->∀k,k<xs.length->∃D,mg (xs.getD k "")=some (.ref D)/\Qg K (.ref C) (.ref D)=some (decide (i+k=j))
 | _::_,_,h,0,_=>h.1
 | x::xs,i,h,k+1,hk=>by
   have:=rL h.2 k (by simpa using hk);rw[show i+1+k=i+(k+1) by omega] at this;exact this
theorem xG {q:Str}(j:Nat)(hj:j=0∨j=1)(KX:K.In h)(G:h.Ns Ng mg){CE ns:Addr}{n qn:Str}{kV:Value}{cd:ClassData}{bs:Kv}{dd:Option Addr}{sn sub:_}{ab:Bool}{col:_}{k0 k1 k2 k3 k5:Kt}(e1:P2 K Ng x=some (some (.ref C)))(e2:P2 K Ng "CountError"=some (some (.ref CE)))(lk:K.lookup C=some ⟨.type "type",dd,.cls {name:=n,bases:=bs,mro:=.ref C:: .ref CE::hU,ns:=ns,qualname:=qn,hasDict:=true,slotNames:=sn,subclasses:=sub,abstract:=ab,collection:=col,hasDel:=false}, #[k0,k1,k2,k3,some (.builtin "ValueError.__new__"),k5]⟩)(dn:K.lookup ns=some ⟨o1,o2,.dict es o4,o3⟩)(dk:(es.toList.all λe=>match e.key with | .str _ _=>true | _=>false)=true)(ni:P2 K ns "__init__"=some (some (.ref f)))(q1:QB K CE hU "ValueError.__new__"=true)(i1:Qr K (.ref f)=true)(kc:P8 K (.ref C)=true)(sa:P4 K (.ref C) "__setattr__"=some (some (.builtin "object.__setattr__")))(np:P4 K (.ref C) "word"=some none)(r0:P4 K (.ref C) "__getattribute__"=some (some (.builtin "BaseException.__getattribute__")))(r1:P4 K (.ref C) "__getattr__"=some none)(r2:P4 K (.ref C) "__class__"=some (some (.builtin "object.__class__")))(r3:PySem.W.specialIn K (.builtin "object.__class__") "__get__"=some (some (.builtin "getset_descriptor.__get__")))(r4:PySem.W.takesIn K (.builtin "object.__class__")=some true)(r5:PySem.W.mroIn K C (.type "object")=some true)(r7:PySem.W.subIn K (.ref C) (.type "BaseException")=some true)(r6:QA K C=some cd)(l1:K.lookup f=some ⟨oc,od,.func (Qb "__init__" q (c9 st) (bo st) (ak st) .none kV doc pm an QP ct),RM⟩)(x1:Qh K QP q=true)(x2:P8 K (.ref f)=true)(q2:Qt K (.ref C) (.ref CE)=some true)(q6:Qg K (.ref C) (.type "ValueError")=some true)(hb:∀(kV doc pm:Value)(an:Option Addr)(QP ct:Value)(us:Kv),us.length=2->OQ (Qb "__init__" q (c9 st) (bo st) (ak st) .none kV doc pm an QP ct) ⟨us,[]⟩=pure ([("self":Str),"word"].zip us))(cs:v5 K mg C j 0 ES):qD K mg x q st j:=
 ⟨C,CE,f,_,⟨P9 KX G e1,⟨_,_,_,_,_,_,_,_,_,_,_,_,_,_,lk,AM dn dk,ni⟩,tW q1,i1,kc,sa,np,by unfold c5;rw[r0,r1,r2,r3,r4,r5,r7,r6];rfl⟩,fY (st:=st) l1 x1 x2,(fY (st:=st) l1 x1 x2).binds (ps:=["self","word"]) hb,⟨CE,f,⟨P9 KX G e1,⟨_,_,_,_,_,_,_,_,_,_,_,_,_,_,lk,AM dn dk,ni⟩,tW q1,i1,kc,sa,np,by unfold c5;rw[r0,r1,r2,r3,r4,r5,r7,r6];rfl⟩,P9 KX G e2,q2⟩,λi hi=>by have:=rL cs i hi;rw[Nat.zero_add] at this;exact this,q6,hj⟩
theorem bw (KX:K.In h)(G:h.Ns Ng mg){b:Bool}(a:P2 K Ng x=some (some (.ref D)))(k:Qg K (.ref C) (.ref D)=some b)(e:b=decide (i=j)):∃D,mg x=some (.ref D)/\Qg K (.ref C) (.ref D)=some (decide (i=j)):=⟨D,P9 KX G a,by rw[k,e]⟩
theorem zG (KX:K.In h)(G:h.Ns Ng mg)(b1:P2 K Ng "isinstance"=some none)(b2:P2 K Ng "bool"=some none)(b3:P2 K Ng "ValueError"=some none):mB mg:=⟨P6 KX G b1,P6 KX G b2,P6 KX G b3⟩
def uY (K:P1)(mg:Kp):Prop:=∃C fi RP,bz K C eZ/\Mk K C fi/\mg "Step"=some (.ref C)/\cK K "__init__" "Step.__init__" pG fi RP/\Binds K RP sL []
def vI (K:P1)(mg:Kp):Prop:=∃C fi RP,bz K C eN/\Mk K C fi/\mg "Spots"=some (.ref C)/\cK K "__init__" "Spots.__init__" mK fi RP/\Binds K RP lI []
structure Top (P:Nf)(w:World)(K:P1)(mg:Kp):Prop where
 M:bS K mg
 M2:gw K mg
 M3:jW mg
 M6:mB mg
 XT:qD K mg "NoText" "NoText.__init__" Ak 0
 XP:qD K mg "NoProgram" "NoProgram.__init__" Aq 1
 RW:j2 P w K mg "ROW_WORDS" iY
 SC:uY K mg
 PC:vI K mg
 MX:Def K mg "_law_mixed" A2 ["_law_script","_law_k"]
 PL:Def K mg "_law_pull" IH ["_law_pen"]
 NM:Def K mg "_law_name" IE ["_law_number"]
 PA:Def K mg "_law_passes" Ft ["_law_items"]
 TH:Def K mg "_law_thing" z9 ["_law_pen","_law_depth","_law_loops","_law_calls"]
 LS:Def K mg "_law_list" lG ["_law_pen","_law_depth","_law_loops","_law_calls"]
 DR:Def K mg "_law_drawn" EI ["_law_script","_law_start"]
 WD:Def K mg "_law_words" CJ ["_law_items","_law_names"]
 TX:Def K mg "_law_text" IU ["_law_names","_law_lists"]
 IN:Def K mg "is_name" Gd ["word"]
 NB:Def K mg "name_behind" Al ["words","word"]
 MS:Def K mg "may_stand" Il ["kind","opened"]
 RD:Def K mg "read" iT ["text"]
 CS:Def K mg "closing_steps" Ja ["steps"]
 AR:Def K mg "around" Ji ["steps","number","kind"]
 LF:Def K mg "leads_from" Ip ["steps","closing","number"]
 LI:Def K mg "leads_in" Ei ["steps"]
 PI:Def K mg "parts_in" E9 ["steps"]
 ST:Def K mg "stands_in" Ij ["steps","leads"]
 RI:Def K mg "rows_in" IM ["steps","leads","stands"]
 NW:Def K mg "name_words" FW ["spots","parts"]
 NA:Def K mg "named_again" AJ ["spots"]
 CA:Def K mg "called_astray" Jb ["spots"]
 CT:Def K mg "come_to" A3 ["spots"]
 NC:Def K mg "not_come_to" AK ["spots"]
 NL:Def K mg "not_called" Ai ["spots"]
 EB:Def K mg "ended_at_begin" Ej ["spots"]
 RB:Def K mg "rows_beyond" DL ["spots"]
 PL2:Def K mg "places_in" Ge ["spots","part"]
 PY:Def K mg "places_beyond" Ap ["spots"]
 PB:Def K mg "parts_beyond" IF ["spots"]
 HI:Def K mg "hindrances" Jh ["spots"]
 NP:Def K mg "need_program" z7 ["text"]
 LK:Def K mg "looked" Af ["text"]
 OD:Def K mg "_law_odd" Dj ["_law_number"]
 PO:Def K mg "_law_spoiled" EJ ["_law_words_here","_law_script","_law_k"]
 LN:Def K mg "_law_is_name" FG ["_law_word"]
 LR:Def K mg "_law_read" AA ["_law_words_here"]
 LW:Def K mg "_law_wrong" FC ["_law_words_here"]
 WH:Def K mg "_law_whole" I0 ["_law_told"]
 CL:Def K mg "_law_class" Aw ["_law_caught_here"]
 CG:Def K mg "_law_caught" Js ["_law_text_here"]
 RT:Def K mg "_law_right" Fy ["_law_caught_here","_law_due"]
theorem CK (T:Top P w K mg)(F:cK K "law" "law" ny f fd):cy P w K mg base c8 18 f fd ["_law_script"] (aM sQ K):=by
 have M:=T.M;have M2:=T.M2;have M3:=T.M3;have M6:=T.M6;obtain⟨XT,ET,GT⟩:=J9 (P:=P) (w:=w) (base:=base) T.XT;obtain⟨XP,EP,GQ⟩:=JT (P:=P) (w:=w) (base:=base) T.XP;obtain⟨C,fi,RP,HC,MK,hMg,FI,bi⟩:=T.SC;obtain⟨D,fj,fdj,HD,MD,hMd,FJ,bj⟩:=T.PC;have GS:kT P w K mg base C:=⟨HC,⟨fi,RP,MK,HM HC FI,bi⟩,hMg⟩;have MX:=GJ (P:=P) (w:=w) (base:=base) M T.MX;have PL:=Hc (P:=P) (w:=w) (base:=base) MX T.PL;have NM:=GF (P:=P) (w:=w) (base:=base) M T.NM;obtain⟨_,_,F1,m1,b1⟩:=T.PA;have PA:=Hx (P:=P) (w:=w) (base:=base) F1 m1 b1 5;obtain⟨_,_,FTH,mTH,bTH⟩:=T.TH;obtain⟨_,_,F1,m1,b1⟩:=T.LS;have LS:=G8 (P:=P) (w:=w) (base:=base) M PL PA (vY M PL NM 4 (λm h=>by cases h;exact Ag M PL NM PA F1 m1 b1 FTH mTH bTH 3) FTH mTH bTH) T.LS;obtain⟨_,_,F1,m1,b1⟩:=T.DR;have DR:=G1 (P:=P) (w:=w) (base:=base) M PL NM LS F1 m1 b1;obtain⟨_,_,F1,m1,b1⟩:=T.WD;have WD:=Gz (P:=P) (w:=w) (base:=base) F1 m1 b1 5;have TX:=GK (P:=P) (w:=w) (base:=base) M WD T.TX;have IN:=G3 (P:=P) (w:=w) (base:=base) M M2 T.IN;obtain⟨_,_,F1,m1,b1⟩:=T.NB;have NB:=Hq (P:=P) (w:=w) (base:=base) M IN T.NB;have NBD:=Fz (P:=P) (w:=w) (base:=base) M ET IN F1 m1 b1;have MS:=GA (P:=P) (w:=w) (base:=base) M2 T.MS;obtain⟨_,_,F1,m1,b1⟩:=T.RD;have RD:=Hy (P:=P) (w:=w) (base:=base) M M2 GS MS NB T.RD;have RDD:=C6 (P:=P) (w:=w) (base:=base) M M2 GS ET MS NB NBD F1 m1 b1;have CS:=Hr (P:=P) (w:=w) (base:=base) M M2 HC T.CS;have AR:=HJ (P:=P) (w:=w) (base:=base) HC T.AR;have LF:=Hu (P:=P) (w:=w) (base:=base) HC AR T.LF;have LI:=Gu (P:=P) (w:=w) (base:=base) M CS LF T.LI;have PI:=Hi (P:=P) (w:=w) (base:=base) M HC CS T.PI;have ST:=Hm (P:=P) (w:=w) (base:=base) M HC T.RW T.ST;have RI:=HG (P:=P) (w:=w) (base:=base) M HC T.RW T.RI;have GD:wj P w K mg base XT D:=⟨⟨fj,fdj,MD,Dd RDD FJ,bj⟩,hMd⟩;have GP:mP P w K mg base C D:=⟨HD,⟨fj,fdj,MD,Ib HD RD PI LI ST RI FJ,bj⟩,hMd⟩;have NW:=HU (P:=P) (w:=w) (base:=base) HC HD T.NW;have NA:=GZ (P:=P) (w:=w) (base:=base) M HD NW T.NA;have CA:=HQ (P:=P) (w:=w) (base:=base) M HC HD T.CA;obtain⟨_,_,F1,m1,b1⟩:=T.CT;have CT:=Ic (P:=P) (w:=w) (base:=base) (C:=C) M HD F1 m1 b1;have NC:=Gy (P:=P) (w:=w) (base:=base) M M2 HC HD CT T.NC;have NL:=GR (P:=P) (w:=w) (base:=base) M HC HD NW T.NL;have EB:=Gx (P:=P) (w:=w) (base:=base) HD NW T.EB;have RB:=Gr (P:=P) (w:=w) (base:=base) M3 HC HD T.RB;have PL2:=FF (P:=P) (w:=w) (base:=base) (C:=C) M M3 HD T.PL2;have PY:=Hg (P:=P) (w:=w) (base:=base) M M3 HD NW CT PL2 T.PY;have PB:=GB (P:=P) (w:=w) (base:=base) M3 HD NW T.PB;have HI:=Gi (P:=P) (w:=w) (base:=base) NA CA NC NL EB RB PY PB T.HI
 obtain⟨_,_,F1,m1,b1⟩:=T.NP;have NP:=Gk (P:=P) (w:=w) (base:=base) GP HI T.NP;have NPD:=Dg (P:=P) (w:=w) (base:=base) M.min GP GD EP HI F1 m1 b1;obtain⟨_,_,F1,m1,b1⟩:=T.LK;have LK:=HS (P:=P) (w:=w) (base:=base) NP T.LK;have LKD:=Ey (P:=P) (w:=w) (base:=base) NPD F1 m1 b1;obtain⟨_,_,F1,m1,b1⟩:=T.OD;have OD:=Gh (P:=P) (w:=w) (base:=base) M F1 m1 b1;have PO:=HX (P:=P) (w:=w) (base:=base) M MX OD T.PO;have LN:=GI (P:=P) (w:=w) (base:=base) M T.LN;obtain⟨_,_,F1,m1,b1⟩:=T.LR;have LR:=Hj (P:=P) (w:=w) (base:=base) M LN F1 m1 b1;obtain⟨_,_,F1,m1,b1⟩:=T.LW;have LW:=GL (P:=P) (w:=w) (base:=base) M LR F1 m1 b1;have WH:=G6 (P:=P) (w:=w) (base:=base) M M6 T.WH;obtain⟨_,_,F1,m1,b1⟩:=T.CL;have CL:=EZ (P:=P) (w:=w) (base:=base) T.CL;have CLT:=wZ (P:=P) (w:=w) (base:=base) M6 GT F1 m1 b1;have CLP:=wZ (P:=P) (w:=w) (base:=base) M6 GQ F1 m1 b1;have CG:=Gm (P:=P) (w:=w) (base:=base) GT GQ LK LKD T.CG;obtain⟨_,_,F1,m1,b1⟩:=T.RT;have RT:=Gv (P:=P) (w:=w) (base:=base) GT CL CLT CLP WH F1 m1 b1;exact GO (CT:=XT) (CP:=XP) M DR TX MX PO CG LW RT F
theorem nh {xs:Ks}{g:Addr}{gd:Option Addr}{gn:Nat}{gs:Array Kt}{QO:Array Value}(KX:K.In h)(G:h.Ns Ng mg)(a:P2 K Ng x=some (some (.ref g)))(l:K.lookup g=some ⟨.type "tuple",gd,.seq QO gn,gs⟩)(z:QO.size<=Nb)(v:Vals (xs.map V.str) QO.toList):oC K mg x xs:=⟨g,_,_,_,P9 KX G a,l,rfl,rfl,z,v⟩
theorem BW (KX:K.In h)(G:h.Ns Ng mg)(b1:P2 K Ng "len"=some none)(b2:P2 K Ng "min"=some none)(b3:P2 K Ng "range"=some none)(b4:P2 K Ng "int"=some none)(b5:P2 K Ng "list"=some none)(b6:P2 K Ng "zip"=some none)(b7:P2 K Ng "enumerate"=some none)(b8:P2 K Ng "reversed"=some none)(b9:P2 K Ng "any"=some none)(b10:P2 K Ng "all"=some none):bS K mg:=
 ⟨P6 KX G b1,P6 KX G b2,P6 KX G b3,P6 KX G b4,P6 KX G b5,P6 KX G b6,P6 KX G b7,P6 KX G b8,P6 KX G b9,P6 KX G b10⟩
theorem yG (KX:K.In h)(G:h.Ns Ng mg){t1 t2 s1_1 s1_2 s1_3 s1_4 s1_5 s2_1 s2_2 s2_3 s2_4 s2_5 s2_6 s3_1 s3_2 s3_3 s3_4 s4_1 s4_2:Tok}{g1 g2 g3 g4:Addr}{d1 d2 d3 d4:Option Addr}{n1 n2 n3 n4:Nat}{e1 e2 e3 e4:Array Kt}(a1:P2 K Ng "MOST_LETTERS"=some (some (.int 8 t1)))(a2:P2 K Ng "NO_STEP"=some (some (.int (-1) t2)))(c1:P2 K Ng "NAMED"=some (some (.ref g1)))(l1:K.lookup g1=some ⟨.type "tuple",d1,.seq #[.str "part" s1_1,.str "do" s1_2,.str "call" s1_3,.str "if" s1_4,.str "while" s1_5] n1,e1⟩)(c2:P2 K Ng "SENTENCES"=some (some (.ref g2)))(l2:K.lookup g2=some ⟨.type "tuple",d2,.seq #[.str "do" s2_1,.str "call" s2_2,.str "if" s2_3,.str "while" s2_4,.str "leave" s2_5,.str "back" s2_6] n2,e2⟩)(c3:P2 K Ng "OPENING"=some (some (.ref g3)))(l3:K.lookup g3=some ⟨.type "tuple",d3,.seq #[.str "part" s3_1,.str "if" s3_2,.str "else" s3_3,.str "while" s3_4] n3,e3⟩)(c4:P2 K Ng "CLOSING"=some (some (.ref g4)))(l4:K.lookup g4=some ⟨.type "tuple",d4,.seq #[.str "else" s4_1,.str "end" s4_2] n4,e4⟩):gw K mg:=
 ⟨⟨_,P9 KX G a1⟩,⟨_,P9 KX G a2⟩,nh KX G c1 l1 (by show 5<=Nb;decide) (.cons ⟨s1_1,rfl⟩ (.cons ⟨s1_2,rfl⟩ (.cons ⟨s1_3,rfl⟩ (.cons ⟨s1_4,rfl⟩ (.cons ⟨s1_5,rfl⟩ (.nil)))))),nh KX G c2 l2 (by show 6<=Nb;decide) (.cons ⟨s2_1,rfl⟩ (.cons ⟨s2_2,rfl⟩ (.cons ⟨s2_3,rfl⟩ (.cons ⟨s2_4,rfl⟩ (.cons ⟨s2_5,rfl⟩ (.cons ⟨s2_6,rfl⟩ (.nil))))))),nh KX G c3 l3 (by show 4<=Nb;decide) (.cons ⟨s3_1,rfl⟩ (.cons ⟨s3_2,rfl⟩ (.cons ⟨s3_3,rfl⟩ (.cons ⟨s3_4,rfl⟩ (.nil))))),nh KX G c4 l4 (by show 2<=Nb;decide) (.cons ⟨s4_1,rfl⟩ (.cons ⟨s4_2,rfl⟩ (.nil)))⟩
theorem yY (KX:K.In h)(G:h.Ns Ng mg){t1 t2 t3 t4 t5:Tok}(a1:P2 K Ng "BEGIN"=some (some (.int 0 t1)))(a2:P2 K Ng "END"=some (some (.int 1 t2)))(a3:P2 K Ng "MOST_PARTS"=some (some (.int 4 t3)))(a4:P2 K Ng "MOST_PLACES"=some (some (.int 16 t4)))(a5:P2 K Ng "MOST_PROGRAM_ROWS"=some (some (.int 30 t5))):jW mg:=
 ⟨⟨_,P9 KX G a1⟩,⟨_,P9 KX G a2⟩,⟨_,P9 KX G a3⟩,⟨_,P9 KX G a4⟩,⟨_,P9 KX G a5⟩⟩
theorem al1 {P:Kv->Prop}(h:∀a,P [a]):∀us:Kv,us.length=1->P us
 | [a],_=>h a
theorem EF {P:Kv->Prop}(h:∀a b,P [a,b]):∀us:Kv,us.length=2->P us
 | [a,b],_=>h a b
theorem al3 {P:Kv->Prop}(h:∀a b c,P [a,b,c]):∀us:Kv,us.length=3->P us
 | [a,b,c],_=>h a b c
theorem al4 {P:Kv->Prop}(h:∀a b c d,P [a,b,c,d]):∀us:Kv,us.length=4->P us
 | [a,b,c,d],_=>h a b c d
theorem dm {ps:Ks}{kV:Value}(KX:K.In h)(G:h.Ns Ng mg)(a:P2 K Ng x=some (some (.ref f)):=by k_is)(l:K.lookup f=some ⟨oc,od,.func (Qb x x (c9 st) (bo st) (ak st) .none kV doc pm an QP ct),RM⟩:=by k_is)(c:Qh K QP x=true:=by k_is)(k:P8 K (.ref f)=true:=by k_is)(b:∀(kV doc pm:Value)(an:Option Addr)(QP ct:Value)(us:Kv),us.length=ps.length->OQ (Qb x x (c9 st) (bo st) (ak st) .none kV doc pm an QP ct) ⟨us,[]⟩=pure (ps.zip us):=by first | exact λ_ _ _ _ _ _=>K1.al1 λ_=>rfl | exact λ_ _ _ _ _ _=>K1.EF λ_ _=>rfl | exact λ_ _ _ _ _ _=>K1.al3 λ_ _ _=>rfl | exact λ_ _ _ _ _ _=>K1.al4 λ_ _ _ _=>rfl):Def K mg x st ps:=FR KX G a l c k b
theorem Bj (KX:K.In h)(G:h.Ns Ng mg){d v1 v2 v3 v4:Addr}{k1 k2 k3 k4 s1_1 s2_1 s3_1 s3_2 s4_1 s4_2:Tok}{ep n1 n2 n3 n4:Nat}{d1 d2 d3 d4:Option Addr}{l1 l2 l3 l4:Array Kt}(a:P2 K Ng "ROW_WORDS"=some (some (.ref d)))(l:K.lookup d=some ⟨.type "dict",none,.dict #[⟨PH w.params "do",.str "do" k1,.ref v1⟩,⟨PH w.params "call",.str "call" k2,.ref v2⟩,⟨PH w.params "if",.str "if" k3,.ref v3⟩,⟨PH w.params "while",.str "while" k4,.ref v4⟩] ep, #[]⟩)(sm:(d==Nw)=false)(u1:K.lookup v1=some ⟨.type "tuple",d1,.seq #[.str "do" s1_1] n1,l1⟩)(u2:K.lookup v2=some ⟨.type "tuple",d2,.seq #[.str "call" s2_1] n2,l2⟩)(u3:K.lookup v3=some ⟨.type "tuple",d3,.seq #[.str "yes" s3_1,.str "no" s3_2] n3,l3⟩)(u4:K.lookup v4=some ⟨.type "tuple",d4,.seq #[.str "yes" s4_1,.str "no" s4_2] n4,l4⟩):j2 P w K mg "ROW_WORDS" iY:=by
 refine⟨d,_,[((Sum.inr "do":Key),.ref v1),((Sum.inr "call":Key),.ref v2),((Sum.inr "if":Key),.ref v3),((Sum.inr "while":Key),.ref v4)],P9 KX G a,l,⟨_,_,⟨rfl,rfl,rfl⟩,rfl,λe he=>?_,?_,by show Ln [(Sum.inr "do":Key),(Sum.inr "call":Key),(Sum.inr "if":Key),(Sum.inr "while":Key)];decide⟩,sm,?_⟩
 ·simp only[List.mem_toArray,K8,Le,or_false] at he;rcases he with rfl | rfl | rfl | rfl
  ·exact⟨Sum.inr "do",cV P w "do" k1,rfl⟩
  ·exact⟨Sum.inr "call",cV P w "call" k2,rfl⟩
  ·exact⟨Sum.inr "if",cV P w "if" k3,rfl⟩
  ·exact⟨Sum.inr "while",cV P w "while" k4,rfl⟩
 ·exact .cons (cV P w "do" k1) rfl (.cons (cV P w "call" k2) rfl (.cons (cV P w "if" k3) rfl (.cons (cV P w "while" k4) rfl (.nil))))
 ·exact .cons ⟨rfl,v1,_,_,_,rfl,u1,rfl,rfl,(by show 1<=Nb;decide),.cons ⟨s1_1,rfl⟩ (.nil)⟩ (.cons ⟨rfl,v2,_,_,_,rfl,u2,rfl,rfl,(by show 1<=Nb;decide),.cons ⟨s2_1,rfl⟩ (.nil)⟩ (.cons ⟨rfl,v3,_,_,_,rfl,u3,rfl,rfl,(by show 2<=Nb;decide),.cons ⟨s3_1,rfl⟩ (.cons ⟨s3_2,rfl⟩ (.nil))⟩ (.cons ⟨rfl,v4,_,_,_,rfl,u4,rfl,rfl,(by show 2<=Nb;decide),.cons ⟨s4_1,rfl⟩ (.cons ⟨s4_2,rfl⟩ (.nil))⟩ (.nil))))
theorem step_mk (KX:K.In h)(G:h.Ns Ng mg){kV:Value}(aC:P2 K Ng "Step"=some (some (.ref C)))(a1:P4 K (.ref C) "__init__"=some (some (.ref f)))(i1:Qr K (.ref f)=true)(l1:K.lookup f=some ⟨oc,od,.func (Qb "__init__" "Step.__init__" (c9 pG) (bo pG) (ak pG) .none kV doc pm an QP ct),RM⟩)(c1:Qh K QP "Step.__init__"=true)(k1:P8 K (.ref f)=true)(pg:Ql K C Str.empty=true)(hd:Qk K C=true)(po:Qp K C=true)(sa:P4 K (.ref C) "__setattr__"=some (some (.builtin "object.__setattr__")))(mk:Qq K C=true)(kc:P8 K (.ref C)=true)(o1:P4 K (.ref C) "kind"=some none)(o2:P4 K (.ref C) "name"=some none)(o3:P4 K (.ref C) "word"=some none)(o4:P4 K (.ref C) "within"=some none):uY K mg:=by
 refine⟨C,f,_,⟨⟨pg,hd,po,sa⟩,λx hx=>?_⟩,⟨mk,a1,i1,kc⟩,P9 KX G aC,fY (st:=pG) l1 c1 k1,(fY (st:=pG) l1 c1 k1).binds (ps:=sL) λ_ _ _ _ _ _ us hl=>match us,hl with | [_,_,_,_,_],_=>rfl⟩;simp only[eZ,K8,Le,or_false] at hx;rcases hx with rfl | rfl | rfl | rfl
 ·exact o1
 ·exact o2
 ·exact o3
 ·exact o4
theorem BL (KX:K.In h)(G:h.Ns Ng mg){kV:Value}(aC:P2 K Ng "Spots"=some (some (.ref C)))(a1:P4 K (.ref C) "__init__"=some (some (.ref f)))(i1:Qr K (.ref f)=true)(l1:K.lookup f=some ⟨oc,od,.func (Qb "__init__" "Spots.__init__" (c9 mK) (bo mK) (ak mK) .none kV doc pm an QP ct),RM⟩)(c1:Qh K QP "Spots.__init__"=true)(k1:P8 K (.ref f)=true)(pg:Ql K C Str.empty=true)(hd:Qk K C=true)(po:Qp K C=true)(sa:P4 K (.ref C) "__setattr__"=some (some (.builtin "object.__setattr__")))(mk:Qq K C=true)(kc:P8 K (.ref C)=true)(o1:P4 K (.ref C) "steps"=some none)(o2:P4 K (.ref C) "parts"=some none)(o3:P4 K (.ref C) "leads"=some none)(o4:P4 K (.ref C) "stands"=some none)(o5:P4 K (.ref C) "rows"=some none):vI K mg:=by
 refine⟨C,f,_,⟨⟨pg,hd,po,sa⟩,λx hx=>?_⟩,⟨mk,a1,i1,kc⟩,P9 KX G aC,fY (st:=mK) l1 c1 k1,(fY (st:=mK) l1 c1 k1).binds (ps:=lI) λ_ _ _ _ _ _ us hl=>match us,hl with | [_,_],_=>rfl⟩;simp only[eN,K8,Le,or_false] at hx;rcases hx with rfl | rfl | rfl | rfl | rfl
 ·exact o1
 ·exact o2
 ·exact o3
 ·exact o4
 ·exact o5
theorem D8 {fa:Addr}{kV:Value}(KX:K.In h)(G:h.Ns Ng mg)(hfa:mg "law"=some (.ref fa))(T:Top l.prog w K mg)(a:P2 K Ng "law"=some (some (.ref f)))(lk:K.lookup f=some ⟨oc,od,.func (Qb "law" "law" (c9 ny) (bo ny) (ak ny) .none kV doc pm an QP ct),RM⟩)(c:Qh K QP "law"=true)(k:P8 K (.ref f)=true):
 ∃fd:Nm,(∀(s:M9)(v:Value),ON s fd ⟨[v],[]⟩ [("_law_script",v)])/\∀base:Heap,K.In base->base.Ns Ng mg->cy l.prog w K mg base c8 18 fa fd ["_law_script"] (aM sQ K):=by
 have e:=hfa.symm.trans (P9 KX G a);cases e
 exact⟨Qb "law" "law" (c9 ny) (bo ny) (ak ny) .none kV doc pm an QP ct,λs v=>.of_eq rfl,λbase _ _=>CK T (fY lk c k)⟩
theorem walk {q:Nf}{loose:Ks}{XP:(Kp)->Heap->Prop}{YP:World->Heap->Prop}{d:DefRec}{K:Params->P1}(hn:l.most=some 63)(VW:d.params.defaults=[])(hY:∀(w:World)(h:Heap),YP w h->(K w.params).In h)(F:∀(w:World)(mg:Kp)(fa:Addr)(h:Heap),(K w.params).In h->h.Ns Ng mg->mg d.name=some (.ref fa)->
  ∃fd:Nm,(∀(s:M9)(u:Value),ON s fd ⟨[u],[]⟩ [("_law_script",u)])/\∀base:Heap,(K w.params).In base->base.Ns Ng mg->cy l.prog w (K w.params) mg base c8 18 fa fd ["_law_script"] (aM sQ (K w.params))):
 PySem.W.WalkO q loose XP YP l.row.toRowW d [] (λf vs=>PySem.call f vs):=
 L2.yM (n:=63) (k:=18) (x:="_law_script") (CX:=λ_=>c8) (sp:=λw=>aM sQ (K w.params)) hn (by decide) VW ⟨rfl,by decide,by decide⟩ hY F
   (λw H a ns hl Sl _ hS=>⟨H,[⟨bM,ns⟩],_,ax.refl _,.cons ⟨a,rfl,hS,hl⟩ .nil,⟨ns,rfl,hl,Sl,rfl⟩,λv H' R' _ t=>by obtain⟨y,hy,rfl⟩:=t;exact hy⟩) λ_ _ _ _ _ z=>z
end
end K1
open PySem PySem.W PyProof.Rows
namespace PySem.W.Fast
def tw9868441094243043321:=0
def tw4192634219524250476:=0
def tw8238641760829028284:=0
def tw6411945400557115131:=0
def tw5230276505746131581:=0
def tw18272917199285966865:=0
def tw7265506960979067652:=0
def tw1017029070123013476:=0
def tw15157602037964019590:=0
def tw5738193170098018884:=0
def tw11807928563097040129:=0
def tw453231199434474509:=0
def tw12038742316468216388:=0
def tw10820400957093827515:=0
def tw12033309990991882085:=0
def tw9041841081121115423:=0
def tw15385277741174330239:=0
def tw16073066107066386199:=0
def tw5516584135710683884:=0
def tw12447748284925408296:=0
def tw2503111630801404972:=0
def tw9512843852005268128:=0
def tw10008043078525456878:=0
def tw18069168788608357446:=0
def tw11720007601345607916:=0
def tw10020608687928625923:=0
def tw16893885371073309967:=0
def tw7673972568317867798:=0
def tw15130080295711096878:=0
def tw2079724790784744674:=0
def tw4938693617911656088:=0
def tw11586346656639672466:=0
def tw11651925356715789210:=0
def tw3966046324903839111:=0
def tw14571834986533391737:=0
def tw10419210590548219998:=0
def tw4488165263354955162:=0
def tw15896683904811215203:=0
def tw285670291693490699:=0
def tw6245034914745632000:=0
def tw16596275652263326184:=0
def tw3399766589929555107:=0
def tw13536219535598943165:=0
def tw13531712143069817636:=0
def tw8904437496959270977:=0
def tw9577622859312714078:=0
def tw5861051499217916362:=0
def tw11621465033209895509:=0
def tw12817373822623633546:=0
def tw2427372516535857971:=0
def tw17417287913754288395:=0
def tw3671667291020955892:=0
def tw4324947776048241926:=0
def tw14407932522651449832:=0
def tw10884151837246297898:=0
def tw10991595857194941187:=0
def tw9565788173994100300:=0
def tw13937039771827879466:=0
def tw12497845635963545345:=0
def tw5563427331093353518:=0
def tw16082373419442952181:=0
def tw1433631061698990183:=0
def tw3495225119105444523:=0
def tw6078064498281110768:=0
def tw200821593143457295:=0
def tw1524339305908292078:=0
def tw4523261826568848001:=0
def tw11052965264337529248:=0
def tw16279538595838163729:=0
def tw7578669774487336451:=0
def tw4681571565441940891:=0
def tw10393567326168523255:=0
def tw16507551609019246439:=0
def tw6953622242828471384:=0
def tw4255933296620853030:=0
def tw16607219118345654646:=0
def tw13527422129013669428:=0
def tw2200007852819429476:=0
def tw12119266244348573183:=0
def tw18319557774976301621:=0
def tw18405610982359129794:=0
def tw11309942875836617261:=0
def tw13234660728153458550:=0
def tw889694998805889060:=0
def tw17432440839879616254:=0
def tw15872430927541858739:=0
def tw1472092064481425847:=0
def tw264968513261456254:=0
def tw15015437875879643274:=0
def tw3153153289813730533:=0
def tw6362808434398729877:=0
def tw17654871354382242833:=0
def tw14579688041241261614:=0
def tw11917514156691943182:=0
def tw14709986546470624077:=0
def tw15680208898087811925:=0
def tw11904541362374668296:=0
def tw13905838642141476876:=0
def tw15432607037206533262:=0
def tw1297465380080956273:=0
def tw6630228214577458138:=0
def tw1477569526658104011:=0
def tw14113628977587219436:=0
def tw28369190945825353:=0
def tw17995277198380451337:=0
def tw6271731498586931841:=0
def tw5304558781088587652:=0
def tw2256426854081483059:=0
def tw7993309909279642957:=0
def tw5731260980418045121:=0
def tw9402387899525535213:=0
def tw6039442201832445277:=0
def tw14731527902100254425:=0
def tw15805456447507168417:=0
def tw11113878131893034963:=0
def tw8912681406313457164:=0
def tw18104731366811332599:=0
def tw3964235812540670677:=0
def tw1785230458520384468:=0
def tw17493328352150137799:=0
def tw1999396473598841824:=0
def tw15639423732506184830:=0
def tw4423250543975043199:=0
def tw9736285643600335993:=0
def tw331156517791247285:=0
def tw16879733281116041878:=0
def tw1212674829553922119:=0
def tw15832417937935685287:=0
def tw12440764014382145643:=0
def tw15520883206821815268:=0
def tw1074926200219938547:=0
def tw7220890052789910661:=0
def tw1049980420824159782:=0
def tw808237350228773448:=0
def tw11837426051428190031:=0
def tw7435675925823542359:=0
def tw17966292180764389006:=0
def tw1585916694835275774:=0
def tw14175132815657188617:=0
def tw7743356763088943391:=0
def tw13236535646755885198:=0
def tw5388362642149787156:=0
def tw9039326611244965176:=0
def tw12648861208531805176:=0
def tw11152035933855554198:=0
def tw527211959985447424:=0
def tw11897353930874909419:=0
def tw6918182860520883540:=0
def tw10282365022052062679:=0
def tw352069888891283956:=0
def tw7784396186588654649:=0
def tw17899399992534507357:=0
def tw17382132296650105614:=0
def tw6264594165033220845:=0
def tw17243946974169563422:=0
def tw13794422933046481795:=0
def tw10380043902949848577:=0
def tw583174927015721403:=0
def tw10227131492803249958:=0
def tw7886027865304826986:=0
def tw1404023005168517832:=0
def tw17882000149996733743:=0
def tw2190556441600617955:=0
def tw6573763488357272089:=0
def tw3263264071808560399:=0
def tw67143027641973544:=0
def tw5617967950699508120:=0
def tw6732450007329165495:=0
def tw787184028682094072:=0
def tw2533704736366879443:=0
def tw8762150254079984431:=0
def tw8090650182166394921:=0
def tw6892369780014474854:=0
def tw15158039923938328481:=0
def tw12030914356087144892:=0
def tw162434894137285275:=0
def tw7594418153872132866:=0
def tw14109457597672010023:=0
def tw6335669550983706244:=0
def tw2434473239559045089:=0
def tw10634683507932218549:=0
def tw10569180585493422218:=0
def tw18295427484214598748:=0
def tw1165992801760103614:=0
def tw5776449170335357553:=0
def tw9432896322240913938:=0
def tw5282194030025304318:=0
def tw6747542131692279583:=0
def tw223849501645618878:=0
def tw950970586918457453:=0
def tw1572498705938040019:=0
def tw12186480557625313120:=0
def tw13007119355674029894:=0
def tw335591362902776585:=0
def tw10517852762114063958:=0
def tw9845629762372015228:=0
def tw8721935027933541542:=0
def tw5318069925578176373:=0
def tw4784408425727436579:=0
def tw3635771924587673287:=0
def tw18049673560894531568:=0
def tw17484633846004757767:=0
def tw16323394822414160291:=0
def tw16272824842795473652:=0
def tw15425551452140599088:=0
def tw1471261175718924952:=0
def tw11807530969701889723:=0
def tw4920787191766847905:=0
def tw11826608230228312766:=0
def tw9630365189023712905:=0
def tw11192181138883613527:=0
def tw8850951210081956347:=0
def tw7129775738026386537:=0
def tw3293146263489269211:=0
def tw6610143169709630492:=0
def tw3016939173669095181:=0
def tw15702353013140060615:=0
def tw844912118417062764:=0
def tw5725497685232943075:=0
def tw11383427335644916002:=0
def tw8022127012624700293:=0
def tw3406013251061401845:=0
def tw309205001547797857:=0
def tw16559027937896878846:=0
def tw2388959223955258289:=0
def tw16485843189606875292:=0
def tw13173079811711182945:=0
def tw4023318180006162743:=0
def tw11163003970943439889:=0
def tw4344589840421292705:=0
def tw7142015916801496599:=0
def tw900387763103384785:=0
def tw8778674083135172959:=0
def tw3232608578136628177:=0
def tw5629700826117897194:=0
def tw17553515970161502997:=0
def tw6334237784845497437:=0
def tw1155584637808226608:=0
def tw158284271684804058:=0
def tw913146752215052288:=0
def tw18071932442292149191:=0
def tw13464149772583065623:=0
def tw9577633089210686336:=0
def tw1017087948610207704:=0
def tw12769030073661444317:=0
def tw1655379523054537426:=0
def tw16542696813799186349:=0
def tw10951672282571203212:=0
def tw2847888844192912962:=0
def tw8542761577330843255:=0
def tw8473783179094635265:=0
def tw16232204925351291592:=0
def tw4063227949831532247:=0
def tw8199484707923571256:=0
def tw989497586155715249:=0
def tw13468045507171362631:=0
def tw4408814125547953522:=0
def tw10915874553480121608:=0
def tw3340197397805211666:=0
def tw6878670451644933682:=0
def tw12115284675643963498:=0
def tw1184610814653944728:=0
def tw6083520483799272969:=0
def tw8923875514124441733:=0
def tw4710382004790280498:=0
def tw4454647453221802140:=0
def tw12460736843750491978:=0
def tw18160005888945619117:=0
def tw1454472410419208926:=0
def tw9840076566633440604:=0
def tw9208253897249094825:=0
def tw4020220480629270367:=0
def tw3338953561871038185:=0
def tw3005756835091558393:=0
def tw11044593912165886395:=0
def tw10969391907226286437:=0
def tw896485301698569356:=0
def tw4676194505499928646:=0
def tw12703019454359504956:=0
def tw6041183808346495252:=0
def tw3604237302658298380:=0
def tw2098063233140075728:=0
def tw12960140264085590692:=0
def tw11183216344679755659:=0
def tw8016817638044942780:=0
def tw16337797770504261191:=0
def tw15787848795953170416:=0
def tw6691882437267337210:=0
def tw6813673333994607960:=0
def tw15848998555959683282:=0
def tw12735608139783225785:=0
def tw5310704178021976780:=0
def tw2403279427641736485:=0
def tw10645243477389683375:=0
def tw2308892647305958002:=0
def tw15208370076724702654:=0
def tw12745021752063959621:=0
def tw7141019836542664343:=0
def tw16105996160550202898:=0
def tw7125935720004613836:=0
end PySem.W.Fast
set_option maxRecDepth 100000 in
set_option maxHeartbeats 0 in
theorem PySem.Challenge.cw_fewcounters_k61_wrong_words_holds : PySem.Challenge.rw_fewcounters_k61_wrong_words.Holds := by
 w_on;o_law;k_head;(case hw=>w_witness2)
 k_fill
 refine K1.walk (l:=PySem.Challenge.rw_fewcounters_k61_wrong_words) rfl rfl (λw h Y=>PySem.W.kIn_of Y) ?F
 case F=>
  intro w mg fa h KX G VA;have M:K1.bS (L2.iZ KX) mg:=by
   dsimp only[L2.iZ];refine' K1.BW KX G ?b1 ?b2 ?b3 ?b4 ?b5 ?b6 ?b7 ?b8 ?b9 ?b10
   (case b1=>k_is);(case b2=>k_is);(case b3=>k_is);(case b4=>k_is);(case b5=>k_is);(case b6=>k_is);(case b7=>k_is);(case b8=>k_is);(case b9=>k_is);(case b10=>k_is)
  have M2:K1.gw (L2.iZ KX) mg:=by
   dsimp only[L2.iZ];refine' K1.yG KX G ?a1 ?a2 ?c1 ?l1 ?c2 ?l2 ?c3 ?l3 ?c4 ?l4
   (case a1=>k_is);(case a2=>k_is);(case c1=>k_is);(case l1=>k_is);(case c2=>k_is);(case l2=>k_is);(case c3=>k_is);(case l3=>k_is);(case c4=>k_is);(case l4=>k_is)
  have M6:K1.mB mg:=by
   refine' K1.zG KX G ?b1 ?b2 ?b3
   (case b1=>k_is);(case b2=>k_is);(case b3=>k_is)
  have DXT:K1.qD (L2.iZ KX) mg "NoText" "NoText.__init__" K1.Ak 0:=by
   dsimp only[L2.iZ];refine' K1.xG 0 (.inl rfl) KX G ?e1 ?e2 ?lk ?dn ?dk ?ni ?q1 ?i1 ?kc ?sa ?np ?r0 ?r1 ?r2 ?r3 ?r4 ?r5 ?r7 ?r6 ?l1 ?x1 ?x2 ?q2 ?q6 ?hb ?cs
   (case e1=>k_is);(case e2=>k_is);(case lk=>k_is);(case dn=>k_is);(case dk=>rfl);(case ni=>k_is);(case q1=>k_exc);(case i1=>k_is);(case kc=>k_is);(case sa=>k_is);(case np=>k_is);(case r0=>k_is);(case r1=>k_is);(case r2=>k_is);(case r3=>k_is);(case r4=>k_is);(case r5=>k_is);(case r7=>k_is);(case r6=>k_is);(case l1=>k_is);(case x1=>k_is);(case x2=>k_is);(case q2=>kts_exm);(case q6=>kit_is);(case hb=>exact λ_ _ _ _ _ _=>K1.EF λ_ _=>rfl);(case cs=>exact⟨K1.bw (b:=true) KX G (by k_is) (by kit_is) rfl,K1.bw (b:=false) KX G (by k_is) (by kit_is) rfl,K1.bw (b:=false) KX G (by k_is) (by kit_is) rfl,K1.bw (b:=false) KX G (by k_is) (by kit_is) rfl,K1.bw (b:=false) KX G (by k_is) (by kit_is) rfl,K1.bw (b:=false) KX G (by k_is) (by kit_is) rfl,K1.bw (b:=false) KX G (by k_is) (by kit_is) rfl,K1.bw (b:=false) KX G (by k_is) (by kit_is) rfl,K1.bw (b:=false) KX G (by k_is) (by kit_is) rfl,K1.bw (b:=false) KX G (by k_is) (by kit_is) rfl,K1.bw (b:=false) KX G (by k_is) (by kit_is) rfl,K1.bw (b:=false) KX G (by k_is) (by kit_is) rfl,K1.bw (b:=false) KX G (by k_is) (by kit_is) rfl,K1.bw (b:=false) KX G (by k_is) (by kit_is) rfl,K1.bw (b:=false) KX G (by k_is) (by kit_is) rfl,K1.bw (b:=false) KX G (by k_is) (by kit_is) rfl,K1.bw (b:=false) KX G (by k_is) (by kit_is) rfl,trivial⟩)
  have DXP:K1.qD (L2.iZ KX) mg "NoProgram" "NoProgram.__init__" K1.Aq 1:=by
   dsimp only[L2.iZ];refine' K1.xG 1 (.inr rfl) KX G ?e1 ?e2 ?lk ?dn ?dk ?ni ?q1 ?i1 ?kc ?sa ?np ?r0 ?r1 ?r2 ?r3 ?r4 ?r5 ?r7 ?r6 ?l1 ?x1 ?x2 ?q2 ?q6 ?hb ?cs
   (case e1=>k_is);(case e2=>k_is);(case lk=>k_is);(case dn=>k_is);(case dk=>rfl);(case ni=>k_is);(case q1=>k_exc);(case i1=>k_is);(case kc=>k_is);(case sa=>k_is);(case np=>k_is);(case r0=>k_is);(case r1=>k_is);(case r2=>k_is);(case r3=>k_is);(case r4=>k_is);(case r5=>k_is);(case r7=>k_is);(case r6=>k_is);(case l1=>k_is);(case x1=>k_is);(case x2=>k_is);(case q2=>kts_exm);(case q6=>kit_is);(case hb=>exact λ_ _ _ _ _ _=>K1.EF λ_ _=>rfl);(case cs=>exact⟨K1.bw (b:=false) KX G (by k_is) (by kit_is) rfl,K1.bw (b:=true) KX G (by k_is) (by kit_is) rfl,K1.bw (b:=false) KX G (by k_is) (by kit_is) rfl,K1.bw (b:=false) KX G (by k_is) (by kit_is) rfl,K1.bw (b:=false) KX G (by k_is) (by kit_is) rfl,K1.bw (b:=false) KX G (by k_is) (by kit_is) rfl,K1.bw (b:=false) KX G (by k_is) (by kit_is) rfl,K1.bw (b:=false) KX G (by k_is) (by kit_is) rfl,K1.bw (b:=false) KX G (by k_is) (by kit_is) rfl,K1.bw (b:=false) KX G (by k_is) (by kit_is) rfl,K1.bw (b:=false) KX G (by k_is) (by kit_is) rfl,K1.bw (b:=false) KX G (by k_is) (by kit_is) rfl,K1.bw (b:=false) KX G (by k_is) (by kit_is) rfl,K1.bw (b:=false) KX G (by k_is) (by kit_is) rfl,K1.bw (b:=false) KX G (by k_is) (by kit_is) rfl,K1.bw (b:=false) KX G (by k_is) (by kit_is) rfl,K1.bw (b:=false) KX G (by k_is) (by kit_is) rfl,trivial⟩)
  have M3:K1.jW mg:=by
   refine' K1.yY KX G ?a1 ?a2 ?a3 ?a4 ?a5
   (case a1=>k_is);(case a2=>k_is);(case a3=>k_is);(case a4=>k_is);(case a5=>k_is)
  have DRW:Fc.j2 (PySem.Challenge.rw_fewcounters_k61_wrong_words).prog w (L2.iZ KX) mg "ROW_WORDS" K1.iY:=by
   dsimp only[L2.iZ];refine' K1.Bj KX G ?a ?l ?sm ?u1 ?u2 ?u3 ?u4
   (case a=>k_is);(case l=>k_is);(case sm=>rfl);(case u1=>k_is);(case u2=>k_is);(case u3=>k_is);(case u4=>k_is)
  have DSC:K1.uY (L2.iZ KX) mg:=by
   dsimp only[L2.iZ];refine' K1.step_mk KX G ?aC ?a1 ?i1 ?l1 ?c1 ?k1 ?pg ?hd ?po ?sa ?mk ?kc ?o1 ?o2 ?o3 ?o4
   (case aC=>k_is);(case a1=>k_is);(case i1=>k_is);(case l1=>k_is);(case c1=>k_is);(case k1=>k_is);(case pg=>k_is);(case hd=>k_is);(case po=>k_is);(case sa=>k_is);(case mk=>k_is);(case kc=>k_is);(case o1=>k_is);(case o2=>k_is);(case o3=>k_is);(case o4=>k_is)
  have DPC:K1.vI (L2.iZ KX) mg:=by
   dsimp only[L2.iZ];refine' K1.BL KX G ?aC ?a1 ?i1 ?l1 ?c1 ?k1 ?pg ?hd ?po ?sa ?mk ?kc ?o1 ?o2 ?o3 ?o4 ?o5
   (case aC=>k_is);(case a1=>k_is);(case i1=>k_is);(case l1=>k_is);(case c1=>k_is);(case k1=>k_is);(case pg=>k_is);(case hd=>k_is);(case po=>k_is);(case sa=>k_is);(case mk=>k_is);(case kc=>k_is);(case o1=>k_is);(case o2=>k_is);(case o3=>k_is);(case o4=>k_is);(case o5=>k_is)
  refine' K1.D8 KX G VA ⟨M,M2,M3,M6,DXT,DXP,DRW,DSC,DPC,by exact K1.dm KX G,by exact K1.dm KX G,by exact K1.dm KX G,by exact K1.dm KX G,by exact K1.dm KX G,by exact K1.dm KX G,by exact K1.dm KX G,by exact K1.dm KX G,by exact K1.dm KX G,by exact K1.dm KX G,by exact K1.dm KX G,by exact K1.dm KX G,by exact K1.dm KX G,by exact K1.dm KX G,by exact K1.dm KX G,by exact K1.dm KX G,by exact K1.dm KX G,by exact K1.dm KX G,by exact K1.dm KX G,by exact K1.dm KX G,by exact K1.dm KX G,by exact K1.dm KX G,by exact K1.dm KX G,by exact K1.dm KX G,by exact K1.dm KX G,by exact K1.dm KX G,by exact K1.dm KX G,by exact K1.dm KX G,by exact K1.dm KX G,by exact K1.dm KX G,by exact K1.dm KX G,by exact K1.dm KX G,by exact K1.dm KX G,by exact K1.dm KX G,by exact K1.dm KX G,by exact K1.dm KX G,by exact K1.dm KX G,by exact K1.dm KX G,by exact K1.dm KX G,by exact K1.dm KX G,by exact K1.dm KX G,by exact K1.dm KX G,by exact K1.dm KX G⟩ ?qa ?qb ?qc ?qd
  (case qa=>k_is);(case qb=>k_is);(case qc=>k_is);(case qd=>k_is)
